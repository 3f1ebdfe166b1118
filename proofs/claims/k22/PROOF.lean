import PyProof.Rows.All
import Wide.All
import OpenK.AllK
import Wide.FinOn
import HandS.ForMost
import HandS.ForExc
import HandS.Wide
import HandS.IsInst
import HandS.EndBits
import HandS.SortKw
import HandS.Flow
import HandS.AnyAll
import KE.SortKeyed
import KE.SortData
import HandS.EndTab
import HandS.GenOver
import HandS.Comp
import KE.KNest
import HandS.Zip
import HandS.Style
import HandS.Text
import KE.DataCmp
import HandS.TupAny
import HandS.More
import HandS.RaiseMore
import HandS.ExcIs
import HandS.TryOnly
import HandS.FStr
import HandS.Iter
import HandS.ExcInit
import HandS.ExcField
import KE.KExcIs
import PyProof.DelItemList
import HandS.IterVal
import HandS.Strs
import HandS.ReplaceList
import HandS.StrMore
import PySem.Challenge.RW_kithbase_k22_tokens_read_back
set_option Elab.async false
set_option linter.all false
set_option maxRecDepth 100000
set_option maxHeartbeats 4000000
namespace Kb
open PySem PySem.Spec PyProof.Rows L2
/-! defs of the text: where they stand, what they promise -/
/-- a def of the top: found by its name, with so many plain parameters -/
structure DefAt (K : PySem.W.Frag) (mg : Str → Option Value) (x : Str) (st : Stmt) (ps : List Str) : Prop where
  ex : ∃ f fd, Fun K x x st f fd ∧ mg x = some (.ref f) ∧ Binds K fd ps []
/-- a def of the top that keeps a promise -/
structure HasF (P : Program) (w : World) (K : PySem.W.Frag) (mg : Str → Option Value) (base : Heap) (CX : CXT) (k : Nat) (x : Str) (ps : List Str) (sp : Sp) : Prop where
  ex : ∃ f fd, FnOk P w K mg base CX k f fd ps sp ∧ mg x = some (.ref f) ∧ PySem.W.keepIn K (.ref f) = true ∧ Binds K fd ps []
section
variable {P : Program} {w : World} {K : PySem.W.Frag} {mg : Str → Option Value} {base : Heap} {x : Str} {st : Stmt} {N ps : List Str} {k : Nat} {sp : Sp}
theorem DefAt.ok (A : DefAt K mg x st ps) (S : FnScope N ps (defScope st)) (len : ∀ vs H Q E, sp vs H Q E → vs.length = ps.length)
    (hbody : ∀ (f : Addr) (cdv : Value) (A : Around) (outer : List Env) (s : Shared) (H : Hp) (vs : List V) (Q : VK) (E : XK), Room k (A.deeper (envOfC x (defScope st) s.heap.objs.size f cdv)) → sp vs H Q E →
      ∃ t, PSs (cxOf CX0 P w K mg base N x (defScope st) f cdv A outer s H E).nox (defBody st) t ∧ t { nx := fun _ H' => Q .non H', rt := Q } (start N vs) H) : HasF P w K mg base CX0 (k + 1) x ps sp := by
  obtain ⟨f, fd, F, hm, hb⟩ := A.ex
  exact ⟨f, fd, F.ok S len (fun cdv A outer s H vs Q E hr h => hbody f cdv A outer s H vs Q E hr h), hm, F.kp, hb⟩
end
section
variable {X : Cx} {CX : CXT} {k : Nat} {x : Str} {ps : List Str} {sp : Sp} {E : XK} {p pos : Pos} {e : Expr} {es : List Expr} {t : TA}
theorem HasF.call (h : HasF X.prog X.w X.K X.mg X.base CX k x ps sp) (hr : Room k X.A) (hg : Gl X x) (hx : Passes CX X E)
    (ha : PA X (e :: es) t) (hdb : (x == ("__debug__" : Str)) = false := by decide) (he : starEach (e :: es) X.env = (false, eval e X.env) :: starEach es X.env := by rfl) (hpl : (backTo pos (starEach es X.env)).any (·.1) = false := by rfl) :
    PE X (.Call (.Name x p) (e :: es) [] pos) (tCall sp [] E t) := by
  obtain ⟨f, fd, F, hm, hk, hb⟩ := h.ex
  exact pe_call F hr hg hm hk hb .nil hx ha hdb he hpl
end
/-! universal operators -/
def CMulX (i j : Int) : Prop := i.natAbs.log2 + j.natAbs.log2 < 100000000
theorem CMulX.ok {i j : Int} (h : CMulX i j) : IntMulOk i j := by
  have bit : ∀ x : Int, Builtin.Int.intBits x ≤ x.natAbs.log2 + 1 := fun x => by
    unfold Builtin.Int.intBits
    split <;> omega
  have g1 := bit i
  have g2 := bit j
  have g3 : i.natAbs.log2 + j.natAbs.log2 < 100000000 := h
  have big : bitsLine = 134217728 := by decide
  intro c
  obtain ⟨_, c2⟩ := Bool.and_eq_true_iff.mp c
  unfold Builtin.Int.intTooBig at c2
  have c3 := of_decide_eq_true c2
  rw [big] at c3
  omega
section
variable {X : Cx}
theorem op_mulX : OpR X (binaryOp .Mult) (rI CMulX fun i j => .int (i * j)) := opI fun _ _ _ _ _ _ _ hc q => mul_int q hc.ok
end
end Kb

/-! A logic over plain data: values D (tuples, lists, instances that no longer change stand inline; what a def still changes is owned, by number). -/
namespace Kb
open PySem PySem.Spec PyProof.Rows L2
/-- data that stay as they are -/
inductive P where
  | non | bl (b : Bool) | int (i : Int) | str (s : Str) | tup (xs : List P) | lst (xs : List P) | ins (C : Addr) (fs : List (Str × P)) | ty (n : String) | cls (C : Addr)
/-- a datum, or what is owned, by its number -/
inductive D where
  | p (x : P) | own (i : Nat)
abbrev dN : D := .p .non
abbrev dB (b : Bool) : D := .p (.bl b)
abbrev dI (i : Int) : D := .p (.int i)
abbrev dS (s : Str) : D := .p (.str s)
abbrev dT (xs : List P) : D := .p (.tup xs)
abbrev dL (xs : List P) : D := .p (.lst xs)
/-- what is owned -/
inductive OO where
  | lst (xs : List D) | ins (C : Addr) (fs : List (Str × D)) | dK (kvs : List (Key × D)) | dT (kvs : List (List Key × D))
abbrev Hs := List (Option OO)
abbrev Env' := List (Option D)
/-- a tuple that stands there -/
def SqU (_ : PySem.W.Frag) (F : Hp) (a : Addr) (vs : List V) : Prop := F a = some (.tup vs)
theorem SqU.of {K : PySem.W.Frag} {F : Hp} {a : Addr} {vs : List V} (h : F a = some (.tup vs)) : SqU K F a vs := h
section
variable (K : PySem.W.Frag)
mutual
inductive RP (F : Hp) : P → V → Prop
  | non : RP F .non .non
  | bl (b : Bool) : RP F (.bl b) (.bl b)
  | int (i : Int) : RP F (.int i) (.int i)
  | str (s : Str) : RP F (.str s) (.str s)
  | tup {a : Addr} {xs : List P} {vs : List V} : SqU K F a vs → RPs F xs vs → RP F (.tup xs) (.ref a)
  | lst {a : Addr} {xs : List P} {vs : List V} : SqL K F a vs → RPs F xs vs → RP F (.lst xs) (.ref a)
  | ins {a C dx : Addr} {fs : List (Str × P)} {gs : List (Str × V)} : F a = some (.ins C dx gs) → RPf F fs gs → RP F (.ins C fs) (.ref a)
  | ty (n : String) : RP F (.ty n) (.ty n)
  | cls (C : Addr) : RP F (.cls C) (.ref C)
inductive RPs (F : Hp) : List P → List V → Prop
  | nil : RPs F [] []
  | cons {d : P} {v : V} {ds : List P} {vs : List V} : RP F d v → RPs F ds vs → RPs F (d :: ds) (v :: vs)
inductive RPf (F : Hp) : List (Str × P) → List (Str × V) → Prop
  | nil : RPf F [] []
  | cons {f : Str} {d : P} {v : V} {ds : List (Str × P)} {vs : List (Str × V)} : RP F d v → RPf F ds vs → RPf F ((f, d) :: ds) ((f, v) :: vs)
end
inductive RD (F : Hp) (ρ : List Addr) : D → V → Prop
  | p {x : P} {v : V} : RP K F x v → RD F ρ (.p x) v
  | own {a : Addr} {i : Nat} : ρ[i]? = some a → RD F ρ (.own i) (.ref a)
inductive RA (F : Hp) (ρ : List Addr) : List D → List V → Prop
  | nil : RA F ρ [] []
  | cons {d : D} {v : V} {ds : List D} {vs : List V} : RD K F ρ d v → RA F ρ ds vs → RA F ρ (d :: ds) (v :: vs)
inductive RK {κ : Type} (F : Hp) (ρ : List Addr) : List (κ × D) → List (κ × V) → Prop
  | nil : RK F ρ [] []
  | cons {f : κ} {d : D} {v : V} {ds : List (κ × D)} {vs : List (κ × V)} : RD K F ρ d v → RK F ρ ds vs → RK F ρ ((f, d) :: ds) ((f, v) :: vs)
inductive RF (F : Hp) (ρ : List Addr) : List (Str × D) → List (Str × V) → Prop
  | nil : RF F ρ [] []
  | cons {f : Str} {d : D} {v : V} {ds : List (Str × D)} {vs : List (Str × V)} : RD K F ρ d v → RF F ρ ds vs → RF F ρ ((f, d) :: ds) ((f, v) :: vs)
end
/-- what is raised: its class, and its fields if it has some that count -/
structure Exn where
  cls : Addr
  fs : Option (List (Str × P))
/-- what a text runs in: tables, the wish, the errors that may be raised -/
structure Ctx where
  tabs : List Addr
  wish : L2.St → XK
  ex : Exn → Env' → Hs → Prop
  fl : Hp := fun _ => none
/-- nothing is raised -/
abbrev Ctx.plain (T : List Addr) : Ctx := ⟨T, fun _ _ _ _ => False, fun _ _ _ => False, fun _ => none⟩
/-- what a def is to raise -/
abbrev Ctx.dfn (T : List Addr) (E : XK) (RX : Exn → Hs → Prop) : Ctx := ⟨T, fun _ => E, fun X _ h => RX X h, fun _ => none⟩
instance : Coe (List Addr) Ctx := ⟨Ctx.plain⟩
section
variable {K : PySem.W.Frag} {Θ : Ctx} {T : List Addr}
theorem sqU_mono {F F' : Hp} (e : Same F F') {a : Addr} {vs : List V} (h : SqU K F a vs) : SqU K F' a vs := e _ _ h
theorem sqT_mono {F F' : Hp} (e : Same F F') {a : Addr} {vs : List V} (h : SqU K F a vs) : SqT K F' a vs := .of (e _ _ h)
/-- numbers keep their addresses -/
def Pre (ρ ρ' : List Addr) : Prop := ∀ (i : Nat) (a : Addr), ρ[i]? = some a → ρ'[i]? = some a
theorem Pre.refl (ρ : List Addr) : Pre ρ ρ := fun _ _ h => h
theorem Pre.trans {a b c : List Addr} (x : Pre a b) (y : Pre b c) : Pre a c := fun i p h => y i p (x i p h)
theorem Pre.push (ρ : List Addr) (p : Addr) : Pre ρ (ρ ++ [p]) := fun i a h => by
  have hl : i < ρ.length := (List.getElem?_eq_some_iff.mp h).1
  rw [List.getElem?_append_left hl]
  exact h
mutual
theorem RP.mono {F F' : Hp} (e : Same F F') : ∀ {d : P} {v : V}, RP K F d v → RP K F' d v
  | _, _, .non => .non
  | _, _, .bl b => .bl b
  | _, _, .int i => .int i
  | _, _, .str s => .str s
  | _, _, .tup h r => .tup (sqU_mono e h) (RPs.mono e r)
  | _, _, .lst h r => .lst (e.seq h) (RPs.mono e r)
  | _, _, .ins h r => .ins (e _ _ h) (RPf.mono e r)
  | _, _, .ty n => .ty n
  | _, _, .cls C => .cls C
theorem RPs.mono {F F' : Hp} (e : Same F F') : ∀ {d : List P} {v : List V}, RPs K F d v → RPs K F' d v
  | _, _, .nil => .nil
  | _, _, .cons h r => .cons (RP.mono e h) (RPs.mono e r)
theorem RPf.mono {F F' : Hp} (e : Same F F') : ∀ {d : List (Str × P)} {v : List (Str × V)}, RPf K F d v → RPf K F' d v
  | _, _, .nil => .nil
  | _, _, .cons h r => .cons (RP.mono e h) (RPf.mono e r)
end
theorem RD.mono {F F' : Hp} {ρ ρ' : List Addr} (e : Same F F') (p : Pre ρ ρ') {d : D} {v : V} (h : RD K F ρ d v) : RD K F' ρ' d v := by
  cases h with
  | p h => exact .p (h.mono e)
  | own h => exact .own (p _ _ h)
theorem RA.mono {F F' : Hp} {ρ ρ' : List Addr} (e : Same F F') (p : Pre ρ ρ') {d : List D} {v : List V} (h : RA K F ρ d v) : RA K F' ρ' d v := by
  induction h with
  | nil => exact .nil
  | cons h _ ih => exact .cons (h.mono e p) ih
theorem RF.mono {F F' : Hp} {ρ ρ' : List Addr} (e : Same F F') (p : Pre ρ ρ') {d : List (Str × D)} {v : List (Str × V)} (h : RF K F ρ d v) : RF K F' ρ' d v := by
  induction h with
  | nil => exact .nil
  | cons h _ ih => exact .cons (h.mono e p) ih
theorem RK.mono {κ : Type} {F F' : Hp} {ρ ρ' : List Addr} (e : Same F F') (p : Pre ρ ρ') {d : List (κ × D)} {v : List (κ × V)} (h : RK K F ρ d v) : RK K F' ρ' d v := by
  induction h with
  | nil => exact .nil
  | cons h _ ih => exact .cons (h.mono e p) ih
theorem RA.len {F : Hp} {ρ : List Addr} {ds : List D} {vs : List V} (h : RA K F ρ ds vs) : ds.length = vs.length := by
  induction h with
  | nil => rfl
  | cons _ _ ih => exact congrArg (· + 1) ih
theorem RPs.len {F : Hp} : ∀ {ds : List P} {vs : List V}, RPs K F ds vs → ds.length = vs.length
  | _, _, .nil => rfl
  | _, _, .cons _ r => congrArg (· + 1) (RPs.len r)
theorem RA.get {F : Hp} {ρ : List Addr} : ∀ {ds : List D} {vs : List V} {i : Nat} {d : D}, RA K F ρ ds vs → ds[i]? = some d → ∃ v, vs[i]? = some v ∧ RD K F ρ d v
  | _, _, _, _, .nil, h => by simp at h
  | _, _, 0, _, .cons q r, h => by
    cases Option.some.inj h
    exact ⟨_, rfl, q⟩
  | _, _, i + 1, d, .cons q r, h => by
    obtain ⟨v, h1, h2⟩ := RA.get (i := i) (d := d) r (by simpa using h)
    exact ⟨v, by simpa using h1, h2⟩
theorem RPs.get {F : Hp} : ∀ {ds : List P} {vs : List V} {i : Nat} {d : P}, RPs K F ds vs → ds[i]? = some d → ∃ v, vs[i]? = some v ∧ RP K F d v
  | _, _, _, _, .nil, h => by simp at h
  | _, _, 0, _, .cons q r, h => by
    cases Option.some.inj h
    exact ⟨_, rfl, q⟩
  | _, _, i + 1, d, .cons q r, h => by
    obtain ⟨v, h1, h2⟩ := RPs.get (i := i) (d := d) r (by simpa using h)
    exact ⟨v, by simpa using h1, h2⟩
theorem RA.append {F : Hp} {ρ : List Addr} : ∀ {ds es : List D} {vs us : List V}, RA K F ρ ds vs → RA K F ρ es us → RA K F ρ (ds ++ es) (vs ++ us)
  | _, _, _, _, .nil, s => s
  | _, _, _, _, .cons q r, s => .cons q (RA.append r s)
theorem RPs.append {F : Hp} : ∀ {ds es : List P} {vs us : List V}, RPs K F ds vs → RPs K F es us → RPs K F (ds ++ es) (vs ++ us)
  | _, _, _, _, .nil, s => s
  | _, _, _, _, .cons q r, s => .cons q (RPs.append r s)
theorem RA.set {F : Hp} {ρ : List Addr} {d : D} {v : V} (q : RD K F ρ d v) : ∀ {ds : List D} {vs : List V} (i : Nat), RA K F ρ ds vs → RA K F ρ (ds.set i d) (vs.set i v)
  | _, _, _, .nil => .nil
  | _, _, 0, .cons _ r => .cons q r
  | _, _, i + 1, .cons p r => .cons p (RA.set q i r)
theorem RPs.take {F : Hp} : ∀ {ds : List P} {vs : List V} (i : Nat), RPs K F ds vs → RPs K F (ds.take i) (vs.take i)
  | _, _, 0, _ => .nil
  | _, _, _ + 1, .nil => .nil
  | _, _, i + 1, .cons p r => .cons p (RPs.take i r)
theorem RPs.drop {F : Hp} : ∀ {ds : List P} {vs : List V} (i : Nat), RPs K F ds vs → RPs K F (ds.drop i) (vs.drop i)
  | _, _, 0, r => r
  | _, _, _ + 1, .nil => .nil
  | _, _, i + 1, .cons p r => RPs.drop i r
theorem RA.take {F : Hp} {ρ : List Addr} : ∀ {ds : List D} {vs : List V} (i : Nat), RA K F ρ ds vs → RA K F ρ (ds.take i) (vs.take i)
  | _, _, 0, _ => .nil
  | _, _, _ + 1, .nil => .nil
  | _, _, i + 1, .cons p r => .cons p (RA.take i r)
theorem RA.drop {F : Hp} {ρ : List Addr} : ∀ {ds : List D} {vs : List V} (i : Nat), RA K F ρ ds vs → RA K F ρ (ds.drop i) (vs.drop i)
  | _, _, 0, r => r
  | _, _, _ + 1, .nil => .nil
  | _, _, i + 1, .cons p r => RA.drop i r
theorem RA.pure {F : Hp} {ρ : List Addr} : ∀ {ps : List P} {vs : List V}, RA K F ρ (ps.map D.p) vs → RPs K F ps vs
  | [], _, .nil => .nil
  | _ :: _, _, .cons (.p q) r => .cons q (RA.pure r)
theorem RPs.data {F : Hp} {ρ : List Addr} : ∀ {ps : List P} {vs : List V}, RPs K F ps vs → RA K F ρ (ps.map D.p) vs
  | [], _, .nil => .nil
  | _ :: _, _, .cons q r => .cons (.p q) (RPs.data r)
theorem RPs.ints {F : Hp} : ∀ {ns : List Int} {vs : List V}, RPs K F (ns.map P.int) vs → vs = ns.map V.int
  | [], _, .nil => rfl
  | n :: ns, _, .cons (.int _) r => by
    rw [RPs.ints r]
    rfl
theorem RPs.of_ints {F : Hp} : ∀ (ns : List Int), RPs K F (ns.map P.int) (ns.map V.int)
  | [] => .nil
  | n :: ns => .cons (.int n) (RPs.of_ints ns)
theorem RF.look {F : Hp} {ρ : List Addr} {f : Str} : ∀ {ds : List (Str × D)} {vs : List (Str × V)} {d : D}, RF K F ρ ds vs → ds.lookup f = some d → ∃ v, vs.lookup f = some v ∧ RD K F ρ d v
  | _, _, _, .nil, h => by simp at h
  | _, _, d', .cons (f := g) q r, h => by
    by_cases e : f = g
    · subst e
      simp only [List.lookup, beq_self_eq_true] at h ⊢
      cases h
      exact ⟨_, rfl, q⟩
    · have e' : (f == g) = false := by simpa using e
      simp only [List.lookup, e'] at h ⊢
      exact RF.look r h
theorem RF.lookN {F : Hp} {ρ : List Addr} {f : Str} : ∀ {ds : List (Str × D)} {vs : List (Str × V)}, RF K F ρ ds vs → ds.lookup f = none → vs.lookup f = none
  | _, _, .nil, h => rfl
  | _, _, .cons (f := g) q r, h => by
    by_cases e : f = g
    · subst e
      simp [List.lookup] at h
    · have e' : (f == g) = false := by simpa using e
      simp only [List.lookup, e'] at h ⊢
      exact RF.lookN r h
theorem RPf.data {F : Hp} {ρ : List Addr} : ∀ {fs : List (Str × P)} {vs : List (Str × V)}, RPf K F fs vs → RF K F ρ (fs.map fun q => (q.1, D.p q.2)) vs
  | _, _, .nil => .nil
  | _, _, .cons q r => .cons (.p q) (RPf.data r)
theorem RF.pure {F : Hp} {ρ : List Addr} : ∀ {fs : List (Str × P)} {vs : List (Str × V)}, RF K F ρ (fs.map fun q => (q.1, D.p q.2)) vs → RPf K F fs vs
  | [], _, .nil => .nil
  | (_, _) :: _, _, .cons (.p q) r => .cons q (RF.pure r)
theorem RF.len {F : Hp} {ρ : List Addr} {ds : List (Str × D)} {vs : List (Str × V)} (h : RF K F ρ ds vs) : ds.length = vs.length := by
  induction h with
  | nil => rfl
  | cons _ _ ih => exact congrArg (· + 1) ih
def putD (f : Str) (d : D) : List (Str × D) → List (Str × D)
  | [] => [(f, d)]
  | p :: r => if p.1 = f then (f, d) :: r else p :: putD f d r
theorem RF.put {F : Hp} {ρ : List Addr} {f : Str} {d : D} {v : V} (q : RD K F ρ d v) : ∀ {ds : List (Str × D)} {vs : List (Str × V)}, RF K F ρ ds vs → RF K F ρ (putD f d ds) (putF f v vs)
  | _, _, .nil => .cons q .nil
  | _, _, .cons (f := g) p r => by
    by_cases e : g = f
    · subst e
      simp only [putD, putF, if_true]
      exact .cons q r
    · simp only [putD, putF, if_neg e]
      exact .cons p (RF.put q r)
/-- an owned thing and what stands there -/
def RO (K : PySem.W.Frag) (F : Hp) (ρ : List Addr) : OO → HO → Prop
  | .lst xs, o => ∃ vs, o = .lst vs ∧ RA K F ρ xs vs
  | .ins C fs, o => ∃ dx gs, o = .ins C dx gs ∧ RF K F ρ fs gs
  | .dK kvs, o => ∃ gs, o = .dK gs ∧ RK K F ρ kvs gs
  | .dT kvs, o => ∃ gs, o = .dT gs ∧ RK K F ρ kvs gs
theorem RO.mono {F F' : Hp} {ρ ρ' : List Addr} (e : Same F F') (p : Pre ρ ρ') : ∀ {o : OO} {u : HO}, RO K F ρ o u → RO K F' ρ' o u
  | .lst _, _, ⟨vs, h, r⟩ => ⟨vs, h, r.mono e p⟩
  | .ins _ _, _, ⟨dx, gs, h, r⟩ => ⟨dx, gs, h, r.mono e p⟩
  | .dK _, _, ⟨gs, h, r⟩ => ⟨gs, h, r.mono e p⟩
  | .dT _, _, ⟨gs, h, r⟩ => ⟨gs, h, r.mono e p⟩
/-- the heap H: frozen things F, owned things h at ρ -/
structure Base (K : PySem.W.Frag) (T : List Addr) (F : Hp) (ρ : List Addr) (h : Hs) (H : Hp) : Prop where
  same : Same F H
  len : ρ.length = h.length
  own : ∀ (i : Nat) (o : OO), h[i]? = some (some o) → ∃ a u, ρ[i]? = some a ∧ F a = none ∧ H a = some u ∧ RO K F ρ o u
  inj : ∀ (i j : Nat) (o u : OO) (a : Addr), h[i]? = some (some o) → h[j]? = some (some u) → ρ[i]? = some a → ρ[j]? = some a → i = j
  tab : ∀ P ∈ T, F P = none ∧ GxR.TabG H P
/-- the error's fields -/
def XnAt (K : PySem.W.Frag) (F : Hp) (X : Exn) (d : Option Addr) : Prop := match X.fs with
  | none => d = none
  | some fs => ∃ a gs, d = some a ∧ F a = some (.xd gs) ∧ RPf K F fs gs
theorem XnAt.mono {F F' : Hp} (e : Same F F') {X : Exn} {d : Option Addr} (h : XnAt K F X d) : XnAt K F' X d := by
  obtain ⟨c, fs⟩ := X
  cases fs with
  | none => exact h
  | some fs =>
    obtain ⟨a, gs, h1, h2, h3⟩ := h
    exact ⟨a, gs, h1, e _ _ h2, h3.mono e⟩
structure REnv (K : PySem.W.Frag) (F : Hp) (ρ : List Addr) (env : Env') (σ : L2.St) : Prop where
  len : env.length = σ.length
  get : ∀ (i : Nat) (d : D), env[i]? = some (some d) → ∃ v, σ[i]? = some (some v) ∧ RD K F ρ d v
theorem REnv.mono {F F' : Hp} {ρ ρ' : List Addr} {env : Env'} {σ : L2.St} (e : Same F F') (p : Pre ρ ρ') (r : REnv K F ρ env σ) : REnv K F' ρ' env σ :=
  ⟨r.len, fun i d h => let ⟨v, h1, h2⟩ := r.get i d h; ⟨v, h1, h2.mono e p⟩⟩
theorem REnv.set {F : Hp} {ρ : List Addr} {env : Env'} {σ : L2.St} {i : Nat} {d : D} {v : V} (r : REnv K F ρ env σ) (q : RD K F ρ d v) : REnv K F ρ (env.set i (some d)) (σ.set i (some v)) := by
  refine ⟨by rw [List.length_set, List.length_set]; exact r.len, fun j e h => ?_⟩
  by_cases hj : i = j
  · subst hj
    have hl : i < env.length := by
      have := (List.getElem?_eq_some_iff.mp h).1
      rwa [List.length_set] at this
    rw [List.getElem?_set_self hl] at h
    cases h
    exact ⟨v, by rw [List.getElem?_set_self (by rw [← r.len]; exact hl)], q⟩
  · rw [List.getElem?_set_ne hj] at h ⊢
    exact r.get j e h
theorem REnv.wipe {F : Hp} {ρ : List Addr} {env : Env'} {σ : L2.St} {i : Nat} (r : REnv K F ρ env σ) : REnv K F ρ (env.set i none) (σ.set i none) := by
  refine ⟨by rw [List.length_set, List.length_set]; exact r.len, fun j e h => ?_⟩
  by_cases hj : i = j
  · subst hj
    have hl : i < env.length := by
      have := (List.getElem?_eq_some_iff.mp h).1
      rwa [List.length_set] at this
    rw [List.getElem?_set_self hl] at h
    cases h
  · rw [List.getElem?_set_ne hj] at h ⊢
    exact r.get j e h
/-- from here on these errors keep the wish -/
structure Wish (K : PySem.W.Frag) (Θ : Ctx) (F : Hp) (ρ : List Addr) : Prop where
  run : ∀ (X : Exn) (d : Option Addr) (env : Env') (h' : Hs) (F' : Hp) (ρ' : List Addr) (σ : L2.St) (H' : Hp), Same F F' → Pre ρ ρ' → Base K Θ.tabs F' ρ' h' H' → REnv K F' ρ' env σ → XnAt K F' X d → Θ.ex X env h' → Θ.wish σ (.ref X.cls) d H'
  floor : Same Θ.fl F
theorem Wish.mono {F F' : Hp} {ρ ρ' : List Addr} (w : Wish K Θ F ρ) (s : Same F F') (p : Pre ρ ρ') : Wish K Θ F' ρ' := ⟨fun X d env h' F2 ρ2 σ H' s2 p2 => w.run X d env h' F2 ρ2 σ H' (s.trans s2) (p.trans p2), w.floor.trans s⟩
theorem Wish.plain {F : Hp} {ρ : List Addr} : Wish K (Ctx.plain T) F ρ := ⟨fun _ _ _ _ _ _ _ _ _ _ _ _ _ z => z.elim, fun _ _ z => by cases z⟩
structure Rel (K : PySem.W.Frag) (Θ : Ctx) (F : Hp) (ρ : List Addr) (h : Hs) (H : Hp) : Prop extends Base K Θ.tabs F ρ h H where
  wish : Wish K Θ F ρ
theorem Base.plain {F : Hp} {ρ : List Addr} {h : Hs} {H : Hp} (r : Base K T F ρ h H) : Rel K (Ctx.plain T) F ρ h H := ⟨r, .plain⟩
/-! ### the judgements -/
def VE (K : PySem.W.Frag) (Θ : Ctx) (te : TE) (env : Env') (h : Hs) (R : D → Hs → Prop) : Prop :=
  ∀ (F : Hp) (ρ : List Addr) (σ : L2.St) (H : Hp) (Q : VK), Rel K Θ F ρ h H → REnv K F ρ env σ →
    (∀ (d : D) (h' : Hs) (v : V) (F' : Hp) (ρ' : List Addr) (H' : Hp), Same F F' → Pre ρ ρ' → Rel K Θ F' ρ' h' H' → RD K F' ρ' d v → R d h' → Q v H') → te σ H Q
def VA (K : PySem.W.Frag) (Θ : Ctx) (ta : TA) (env : Env') (h : Hs) (R : List D → Hs → Prop) : Prop :=
  ∀ (F : Hp) (ρ : List Addr) (σ : L2.St) (H : Hp) (Q : List V → Hp → Prop), Rel K Θ F ρ h H → REnv K F ρ env σ →
    (∀ (d : List D) (h' : Hs) (v : List V) (F' : Hp) (ρ' : List Addr) (H' : Hp), Same F F' → Pre ρ ρ' → Rel K Θ F' ρ' h' H' → RA K F' ρ' d v → R d h' → Q v H') → ta σ H Q
def VT (K : PySem.W.Frag) (Θ : Ctx) (tt : TT) (env : Env') (h : Hs) (R : Bool → Hs → Prop) : Prop :=
  ∀ (F : Hp) (ρ : List Addr) (σ : L2.St) (H : Hp) (Q : Bool → Hp → Prop), Rel K Θ F ρ h H → REnv K F ρ env σ →
    (∀ (b : Bool) (h' : Hs) (F' : Hp) (ρ' : List Addr) (H' : Hp), Same F F' → Pre ρ ρ' → Rel K Θ F' ρ' h' H' → R b h' → Q b H') → tt σ H Q
/-- an operation upon values -/
def V2 (K : PySem.W.Frag) (Θ : Ctx) (r : R2) (x y : D) (h : Hs) (R : D → Hs → Prop) : Prop :=
  ∀ (F : Hp) (ρ : List Addr) (H : Hp) (vx vy : V) (Q : VK), Rel K Θ F ρ h H → RD K F ρ x vx → RD K F ρ y vy →
    (∀ (d : D) (h' : Hs) (v : V) (F' : Hp) (ρ' : List Addr) (H' : Hp), Same F F' → Pre ρ ρ' → Rel K Θ F' ρ' h' H' → RD K F' ρ' d v → R d h' → Q v H') → r vx vy H Q
def V1 (K : PySem.W.Frag) (Θ : Ctx) (r : V → Hp → VK → Prop) (x : D) (h : Hs) (R : D → Hs → Prop) : Prop :=
  ∀ (F : Hp) (ρ : List Addr) (H : Hp) (vx : V) (Q : VK), Rel K Θ F ρ h H → RD K F ρ x vx →
    (∀ (d : D) (h' : Hs) (v : V) (F' : Hp) (ρ' : List Addr) (H' : Hp), Same F F' → Pre ρ ρ' → Rel K Θ F' ρ' h' H' → RD K F' ρ' d v → R d h' → Q v H') → r vx H Q
/-- a call upon values -/
def VC (K : PySem.W.Frag) (Θ : Ctx) (r : List V → Hp → VK → Prop) (xs : List D) (h : Hs) (R : D → Hs → Prop) : Prop :=
  ∀ (F : Hp) (ρ : List Addr) (H : Hp) (vs : List V) (Q : VK), Rel K Θ F ρ h H → RA K F ρ xs vs →
    (∀ (d : D) (h' : Hs) (v : V) (F' : Hp) (ρ' : List Addr) (H' : Hp), Same F F' → Pre ρ ρ' → Rel K Θ F' ρ' h' H' → RD K F' ρ' d v → R d h' → Q v H') → r vs H Q
/-- a method upon values -/
def VM (K : PySem.W.Frag) (Θ : Ctx) (r : V → List V → Hp → VK → Prop) (x : D) (xs : List D) (h : Hs) (R : D → Hs → Prop) : Prop :=
  ∀ (F : Hp) (ρ : List Addr) (H : Hp) (vx : V) (vs : List V) (Q : VK), Rel K Θ F ρ h H → RD K F ρ x vx → RA K F ρ xs vs →
    (∀ (d : D) (h' : Hs) (v : V) (F' : Hp) (ρ' : List Addr) (H' : Hp), Same F F' → Pre ρ ρ' → Rel K Θ F' ρ' h' H' → RD K F' ρ' d v → R d h' → Q v H') → r vx vs H Q
structure En where
  nx : Env' → Hs → Prop
  rt : D → Hs → Prop
  bk : Env' → Hs → Prop := fun _ _ => False
  ct : Env' → Hs → Prop := fun _ _ => False
/-- what the reading's ends owe to the data's -/
structure EnOk (K : PySem.W.Frag) (Θ : Ctx) (F : Hp) (ρ : List Addr) (E : En) (D' : Ends) : Prop where
  nx : ∀ (env : Env') (h : Hs) (F' : Hp) (ρ' : List Addr) (σ : L2.St) (H : Hp), Same F F' → Pre ρ ρ' → Rel K Θ F' ρ' h H → REnv K F' ρ' env σ → E.nx env h → D'.nx σ H
  rt : ∀ (d : D) (h : Hs) (v : V) (F' : Hp) (ρ' : List Addr) (H : Hp), Same F F' → Pre ρ ρ' → Rel K Θ F' ρ' h H → RD K F' ρ' d v → E.rt d h → D'.rt v H
  bk : ∀ (env : Env') (h : Hs) (F' : Hp) (ρ' : List Addr) (σ : L2.St) (H : Hp), Same F F' → Pre ρ ρ' → Rel K Θ F' ρ' h H → REnv K F' ρ' env σ → E.bk env h → D'.bk σ H
  ct : ∀ (env : Env') (h : Hs) (F' : Hp) (ρ' : List Addr) (σ : L2.St) (H : Hp), Same F F' → Pre ρ ρ' → Rel K Θ F' ρ' h H → REnv K F' ρ' env σ → E.ct env h → D'.ct σ H
theorem EnOk.mono {F F' : Hp} {ρ ρ' : List Addr} {E : En} {D' : Ends} (e : Same F F') (p : Pre ρ ρ') (k : EnOk K Θ F ρ E D') : EnOk K Θ F' ρ' E D' :=
  ⟨fun env h F2 ρ2 σ H a b => k.nx env h F2 ρ2 σ H (e.trans a) (p.trans b), fun d h v F2 ρ2 H a b => k.rt d h v F2 ρ2 H (e.trans a) (p.trans b),
   fun env h F2 ρ2 σ H a b => k.bk env h F2 ρ2 σ H (e.trans a) (p.trans b), fun env h F2 ρ2 σ H a b => k.ct env h F2 ρ2 σ H (e.trans a) (p.trans b)⟩
def VS (K : PySem.W.Frag) (Θ : Ctx) (t : TS) (E : En) (env : Env') (h : Hs) : Prop :=
  ∀ (F : Hp) (ρ : List Addr) (σ : L2.St) (H : Hp) (D' : Ends), Rel K Θ F ρ h H → REnv K F ρ env σ → EnOk K Θ F ρ E D' → t D' σ H
/-- a target -/
def VG (K : PySem.W.Frag) (Θ : Ctx) (g : TG) (d : D) (env : Env') (h : Hs) (N : Env' → Hs → Prop) : Prop :=
  ∀ (F : Hp) (ρ : List Addr) (σ : L2.St) (H : Hp) (v : V) (Q : L2.St → Hp → Prop), Rel K Θ F ρ h H → REnv K F ρ env σ → RD K F ρ d v →
    (∀ (env' : Env') (h' : Hs) (F' : Hp) (ρ' : List Addr) (σ' : L2.St) (H' : Hp), Same F F' → Pre ρ ρ' → Rel K Θ F' ρ' h' H' → REnv K F' ρ' env' σ' → N env' h' → Q σ' H') → g v σ H Q
def VGs (K : PySem.W.Frag) (Θ : Ctx) (g : TGs) (ds : List D) (env : Env') (h : Hs) (N : Env' → Hs → Prop) : Prop :=
  ∀ (F : Hp) (ρ : List Addr) (σ : L2.St) (H : Hp) (vs : List V) (Q : L2.St → Hp → Prop), Rel K Θ F ρ h H → REnv K F ρ env σ → RA K F ρ ds vs →
    (∀ (env' : Env') (h' : Hs) (F' : Hp) (ρ' : List Addr) (σ' : L2.St) (H' : Hp), Same F F' → Pre ρ ρ' → Rel K Θ F' ρ' h' H' → REnv K F' ρ' env' σ' → N env' h' → Q σ' H') → g vs σ H Q
/-- a promise in data: W args heap what-follows -/
abbrev Spc := List D → Hs → (D → Hs → Prop) → Prop
def spD (K : PySem.W.Frag) (T : List Addr) (W : Spc) : Sp := fun vs H Q _ => ∃ (ds : List D) (h : Hs) (F : Hp) (ρ : List Addr) (R : D → Hs → Prop), Base K T F ρ h H ∧ RA K F ρ ds vs ∧ W ds h R ∧
  ∀ (d : D) (h' : Hs) (v : V) (F' : Hp) (ρ' : List Addr) (H' : Hp), Same F F' → Pre ρ ρ' → Base K T F' ρ' h' H' → RD K F' ρ' d v → R d h' → Q v H'
/-! ### heaps -/
theorem Base.free {F : Hp} {ρ : List Addr} {h : Hs} {H : Hp} (r : Base K T F ρ h H) {p : Addr} (e : H p = none) : F p = none := r.same.free e
theorem same_updB {F H : Hp} {p : Addr} {o : HO} (s : Same F H) : Same (upd F p o) (upd H p o) := fun b u e => by
  by_cases hb : b = p
  · subst hb; rw [upd_same] at e ⊢; exact e
  · rw [upd_ne hb] at e ⊢; exact s b u e
theorem same_new {F : Hp} {p : Addr} {o : HO} (h : F p = none) : Same F (upd F p o) := fun b u e => by
  rw [upd_ne (ne_of_none e h)]; exact e
theorem tab_ne {H : Hp} {P p : Addr} (t : GxR.TabG H P) (e : H p = none) : P ≠ p := by
  obtain ⟨ps, h1, _⟩ := t
  exact ne_of_none h1 e
theorem tab_upd {H : Hp} {P p : Addr} {o : HO} (t : GxR.TabG H P) (n : P ≠ p) : GxR.TabG (upd H p o) P := by
  obtain ⟨ps, h1, h2⟩ := t
  exact ⟨ps, by rw [upd_ne n]; exact h1, h2⟩
theorem RO.notTab {F : Hp} {ρ : List Addr} {o : OO} {ps : Array Value} (r : RO K F ρ o (.tbl ps)) : False := by
  cases o with
  | lst xs => obtain ⟨vs, e, _⟩ := r; cases e
  | ins C fs => obtain ⟨dx, gs, e, _⟩ := r; cases e
  | dK kvs => obtain ⟨gs, e, _⟩ := r; cases e
  | dT kvs => obtain ⟨gs, e, _⟩ := r; cases e
theorem tab_own {H F : Hp} {ρ : List Addr} {P a : Addr} {o : OO} {u : HO} (t : GxR.TabG H P) (e : H a = some u) (r : RO K F ρ o u) : P ≠ a := by
  obtain ⟨ps, h1, _⟩ := t
  rintro rfl
  rw [h1] at e
  cases e
  exact r.notTab
/-- a new frozen thing -/
theorem Base.frz {F : Hp} {ρ : List Addr} {h : Hs} {H : Hp} (r : Base K T F ρ h H) {p : Addr} {o : HO} (e : H p = none) : Base K T (upd F p o) ρ h (upd H p o) := by
  have hF := r.free e
  refine ⟨same_updB r.same, r.len, fun i u hi => ?_, r.inj, fun P hP => ⟨by rw [upd_ne (tab_ne (r.tab P hP).2 e)]; exact (r.tab P hP).1, tab_upd (r.tab P hP).2 (tab_ne (r.tab P hP).2 e)⟩⟩
  obtain ⟨a, w, h1, h2, h3, h4⟩ := r.own i u hi
  have ha : a ≠ p := ne_of_none h3 e
  exact ⟨a, w, h1, by rw [upd_ne ha]; exact h2, by rw [upd_ne ha]; exact h3, h4.mono (same_new hF) (Pre.refl _)⟩
/-- a new owned thing -/
theorem Base.push {F : Hp} {ρ : List Addr} {h : Hs} {H : Hp} (r : Base K T F ρ h H) {p : Addr} {o : OO} {u : HO} (e : H p = none) (ro : RO K F ρ o u) : Base K T F (ρ ++ [p]) (h ++ [some o]) (upd H p u) := by
  have hF := r.free e
  have old : ∀ (i : Nat) (o : OO), h[i]? = some (some o) → ∀ a, ρ[i]? = some a → a ≠ p := fun i o hi a ha => by
    obtain ⟨a', w, h1, h2, h3, h4⟩ := r.own i o hi
    rw [h1] at ha; cases ha
    exact ne_of_none h3 e
  have cs : ∀ (i : Nat) (o' : OO), (h ++ [some o])[i]? = some (some o') → (i < h.length ∧ h[i]? = some (some o')) ∨ (i = h.length ∧ o' = o) := fun i o' hi => by
    by_cases hl : i < h.length
    · rw [List.getElem?_append_left hl] at hi; exact .inl ⟨hl, hi⟩
    · by_cases he : i = h.length
      · subst he
        rw [List.getElem?_append_right (Nat.le_refl _), Nat.sub_self] at hi
        simp at hi
        exact .inr ⟨rfl, hi.symm⟩
      · have : (h ++ [some o]).length ≤ i := by rw [List.length_append]; simp only [List.length_cons, List.length_nil]; omega
        rw [List.getElem?_eq_none_iff.mpr this] at hi; cases hi
  have pl : ∀ (i : Nat), i < h.length → (ρ ++ [p])[i]? = ρ[i]? := fun i hi => List.getElem?_append_left (by rw [r.len]; exact hi)
  have pr : (ρ ++ [p])[h.length]? = some p := by rw [List.getElem?_append_right (by rw [r.len]; exact Nat.le_refl _), r.len, Nat.sub_self]; rfl
  refine ⟨fun b o e' => ?_, by rw [List.length_append, List.length_append, r.len]; rfl, fun i o' hi => ?_, fun i j o1 o2 a hi hj ha hb => ?_, fun P hP => ⟨(r.tab P hP).1, tab_upd (r.tab P hP).2 (tab_ne (r.tab P hP).2 e)⟩⟩
  · rw [upd_ne (ne_of_none (r.same b o e') e)]; exact r.same b o e'
  · rcases cs i o' hi with ⟨hl, hi⟩ | ⟨rfl, rfl⟩
    · obtain ⟨a, w, h1, h2, h3, h4⟩ := r.own i o' hi
      exact ⟨a, w, by rw [pl i hl]; exact h1, h2, by rw [upd_ne (ne_of_none h3 e)]; exact h3, h4.mono (Same.refl _) (Pre.push _ _)⟩
    · exact ⟨p, u, pr, hF, upd_same, ro.mono (Same.refl _) (Pre.push _ _)⟩
  · rcases cs i o1 hi with ⟨hl, hi1⟩ | ⟨hl, _⟩ <;> rcases cs j o2 hj with ⟨hl2, hj1⟩ | ⟨hl2, _⟩
    · rw [pl i hl] at ha
      rw [pl j hl2] at hb
      exact r.inj i j o1 o2 a hi1 hj1 ha hb
    · rw [pl i hl] at ha
      rw [hl2, pr] at hb
      cases hb
      exact absurd rfl (old i o1 hi1 p ha)
    · rw [pl j hl2] at hb
      rw [hl, pr] at ha
      cases ha
      exact absurd rfl (old j o2 hj1 p hb)
    · rw [hl, hl2]
/-- an owned thing changes -/
theorem Base.put {F : Hp} {ρ : List Addr} {h : Hs} {H : Hp} (r : Base K T F ρ h H) {i : Nat} {a : Addr} {o o' : OO} {u : HO} (hi : h[i]? = some (some o)) (ha : ρ[i]? = some a) (ro : RO K F ρ o' u) : Base K T F ρ (h.set i (some o')) (upd H a u) := by
  obtain ⟨a1, w, h1, h2, h3, h4⟩ := r.own i o hi
  have ea : a1 = a := Option.some.inj (h1.symm.trans ha)
  rw [ea] at h1 h2 h3
  have hil : i < h.length := (List.getElem?_eq_some_iff.mp hi).1
  have cs : ∀ (j : Nat) (o2 : OO), (h.set i (some o'))[j]? = some (some o2) → (j = i ∧ o2 = o') ∨ (j ≠ i ∧ h[j]? = some (some o2)) := fun j o2 hj => by
    by_cases e : j = i
    · subst e; rw [List.getElem?_set_self hil] at hj; simp at hj; exact .inl ⟨rfl, hj.symm⟩
    · rw [List.getElem?_set_ne (Ne.symm e)] at hj; exact .inr ⟨e, hj⟩
  have old : ∀ (j : Nat) (o2 : OO), (h.set i (some o'))[j]? = some (some o2) → ∃ o3, h[j]? = some (some o3) := fun j o2 hj => by
    rcases cs j o2 hj with ⟨e, _⟩ | ⟨_, e⟩
    · rw [e]; exact ⟨o, hi⟩
    · exact ⟨o2, e⟩
  refine ⟨fun b o2 e => ?_, by rw [List.length_set]; exact r.len, fun j o2 hj => ?_, fun j k o1 o2 b hj hk hb hc => ?_, fun P hP => ⟨(r.tab P hP).1, tab_upd (r.tab P hP).2 (tab_own (r.tab P hP).2 h3 h4)⟩⟩
  · rw [upd_ne (ne_of_none e h2)]; exact r.same b o2 e
  · rcases cs j o2 hj with ⟨e1, e2⟩ | ⟨hne, hj1⟩
    · rw [e1, e2]; exact ⟨a, u, h1, h2, upd_same, ro⟩
    · obtain ⟨b, w2, g1, g2, g3, g4⟩ := r.own j o2 hj1
      have hb : b ≠ a := fun e => hne (r.inj j i o2 o b hj1 hi g1 (e ▸ h1))
      exact ⟨b, w2, g1, g2, by rw [upd_ne hb]; exact g3, g4⟩
  · obtain ⟨o3, g1⟩ := old j o1 hj
    obtain ⟨o4, g2⟩ := old k o2 hk
    exact r.inj j k o3 o4 b g1 g2 hb hc
/-- an owned thing is frozen from now on -/
theorem Base.freeze {F : Hp} {ρ : List Addr} {h : Hs} {H : Hp} (r : Base K T F ρ h H) {i : Nat} {o : OO} (hi : h[i]? = some (some o)) :
    ∃ a u, ρ[i]? = some a ∧ F a = none ∧ H a = some u ∧ RO K (upd F a u) ρ o u ∧ Base K T (upd F a u) ρ (h.set i none) H := by
  obtain ⟨a, u, h1, h2, h3, h4⟩ := r.own i o hi
  have hil : i < h.length := (List.getElem?_eq_some_iff.mp hi).1
  refine ⟨a, u, h1, h2, h3, h4.mono (same_new h2) (Pre.refl _), ⟨fun b o2 e => ?_, by rw [List.length_set]; exact r.len, fun j o2 hj => ?_, fun j k o1 o2 b hj hk hb hc => ?_, fun P hP => ⟨by rw [upd_ne (tab_own (r.tab P hP).2 h3 h4)]; exact (r.tab P hP).1, (r.tab P hP).2⟩⟩⟩
  · by_cases hb : b = a
    · subst hb; rw [upd_same] at e; rw [h3]; exact e
    · rw [upd_ne hb] at e; exact r.same b o2 e
  · by_cases e : j = i
    · subst e; rw [List.getElem?_set_self hil] at hj; simp at hj
    · rw [List.getElem?_set_ne (Ne.symm e)] at hj
      obtain ⟨b, w2, g1, g2, g3, g4⟩ := r.own j o2 hj
      have hb : b ≠ a := fun z => e (r.inj j i o2 o b hj hi g1 (z ▸ h1))
      exact ⟨b, w2, g1, by rw [upd_ne hb]; exact g2, g3, g4.mono (same_new h2) (Pre.refl _)⟩
  · have sub : ∀ (j : Nat) (o2 : OO), (h.set i none)[j]? = some (some o2) → h[j]? = some (some o2) := fun j o2 hj => by
      by_cases e : j = i
      · subst e; rw [List.getElem?_set_self hil] at hj; simp at hj
      · rw [List.getElem?_set_ne (Ne.symm e)] at hj; exact hj
    exact r.inj _ _ _ _ b (sub _ _ hj) (sub _ _ hk) hb hc
theorem Rel.free {F : Hp} {ρ : List Addr} {h : Hs} {H : Hp} (r : Rel K Θ F ρ h H) {p : Addr} (e : H p = none) : F p = none := r.same.free e
theorem Rel.frz {F : Hp} {ρ : List Addr} {h : Hs} {H : Hp} (r : Rel K Θ F ρ h H) {p : Addr} {o : HO} (e : H p = none) : Rel K Θ (upd F p o) ρ h (upd H p o) := ⟨r.toBase.frz e, r.wish.mono (same_new (r.free e)) (Pre.refl _)⟩
theorem Rel.push {F : Hp} {ρ : List Addr} {h : Hs} {H : Hp} (r : Rel K Θ F ρ h H) {p : Addr} {o : OO} {u : HO} (e : H p = none) (ro : RO K F ρ o u) : Rel K Θ F (ρ ++ [p]) (h ++ [some o]) (upd H p u) := ⟨r.toBase.push e ro, r.wish.mono (Same.refl _) (Pre.push _ _)⟩
theorem Rel.put {F : Hp} {ρ : List Addr} {h : Hs} {H : Hp} (r : Rel K Θ F ρ h H) {i : Nat} {a : Addr} {o o' : OO} {u : HO} (hi : h[i]? = some (some o)) (ha : ρ[i]? = some a) (ro : RO K F ρ o' u) : Rel K Θ F ρ (h.set i (some o')) (upd H a u) := ⟨r.toBase.put hi ha ro, r.wish⟩
theorem Rel.freeze {F : Hp} {ρ : List Addr} {h : Hs} {H : Hp} (r : Rel K Θ F ρ h H) {i : Nat} {o : OO} (hi : h[i]? = some (some o)) :
    ∃ a u, ρ[i]? = some a ∧ F a = none ∧ H a = some u ∧ RO K (upd F a u) ρ o u ∧ Rel K Θ (upd F a u) ρ (h.set i none) H := by
  obtain ⟨a, u, h1, h2, h3, h4, h5⟩ := r.toBase.freeze hi
  exact ⟨a, u, h1, h2, h3, h4, h5, r.wish.mono (same_new h2) (Pre.refl _)⟩
end
end Kb

/-! The rules of the logic: expressions, statements. -/
namespace Kb
open PySem PySem.Spec PyProof.Rows L2
/-- a constant as data -/
inductive CD : P → V → Prop
  | non : CD .non .non
  | bl (b : Bool) : CD (.bl b) (.bl b)
  | int (i : Int) : CD (.int i) (.int i)
  | str (s : Str) : CD (.str s) (.str s)
  | ty (n : String) : CD (.ty n) (.ty n)
  | cls (C : Addr) : CD (.cls C) (.ref C)
section
variable {K : PySem.W.Frag} {Θ : Ctx} {env : Env'} {h : Hs} {ta tb te tc : TE} {R : D → Hs → Prop} {x y d : D}
theorem CD.rd {F : Hp} {ρ : List Addr} {d : P} {v : V} (c : CD d v) : RD K F ρ (.p d) v := by
  cases c
  · exact .p .non
  · exact .p (.bl _)
  · exact .p (.int _)
  · exact .p (.str _)
  · exact .p (.ty _)
  · exact .p (.cls _)
theorem RD.bl {F : Hp} {ρ : List Addr} {b : Bool} {v : V} (h : RD K F ρ (dB b) v) : v = .bl b := by
  cases h with
  | p h => cases h; rfl
theorem RD.int {F : Hp} {ρ : List Addr} {b : Int} {v : V} (h : RD K F ρ (dI b) v) : v = .int b := by
  cases h with
  | p h => cases h; rfl
theorem RD.str {F : Hp} {ρ : List Addr} {b : Str} {v : V} (h : RD K F ρ (dS b) v) : v = .str b := by
  cases h with
  | p h => cases h; rfl
theorem RD.non {F : Hp} {ρ : List Addr} {v : V} (h : RD K F ρ dN v) : v = .non := by
  cases h with
  | p h => cases h; rfl
theorem ve_var {i : Nat} (hd : env[i]? = some (some d)) (q : R d h) : VE K Θ (tVar i) env h R := fun F ρ σ H Q r e k => by
  obtain ⟨v, h1, h2⟩ := e.get i d hd
  exact ⟨v, h1, k d h v F ρ H (Same.refl _) (Pre.refl _) r h2 q⟩
theorem ve_c {v : V} {d : P} (c : CD d v) (q : R (.p d) h) : VE K Θ (tC v) env h R := fun F ρ σ H Q r e k => k (.p d) h v F ρ H (Same.refl _) (Pre.refl _) r c.rd q
theorem ve_int {i : Int} (q : R (dI i) h) : VE K Θ (tC (.int i)) env h R := ve_c (.int i) q
theorem ve_bl {b : Bool} (q : R (dB b) h) : VE K Θ (tC (.bl b)) env h R := ve_c (.bl b) q
theorem ve_str {s : Str} (q : R (dS s) h) : VE K Θ (tC (.str s)) env h R := ve_c (.str s) q
theorem ve_non (q : R dN h) : VE K Θ (tC .non) env h R := ve_c .non q
theorem ve_ty {n : String} (q : R (.p (.ty n)) h) : VE K Θ (tC (.ty n)) env h R := ve_c (.ty n) q
theorem ve_cls {C : Addr} (q : R (.p (.cls C)) h) : VE K Θ (tC (.ref C)) env h R := ve_c (.cls C) q
theorem ve_op {r : R2} (q : VE K Θ ta env h fun x h1 => VE K Θ tb env h1 fun y h2 => V2 K Θ r x y h2 R) : VE K Θ (tOp r ta tb) env h R := fun F ρ σ H Q rl e k =>
  q F ρ σ H _ rl e fun x h1 vx F1 ρ1 H1 s1 p1 r1 dx q1 => q1 F1 ρ1 σ H1 _ r1 (e.mono s1 p1) fun y h2 vy F2 ρ2 H2 s2 p2 r2 dy q2 =>
    q2 F2 ρ2 H2 vx vy Q r2 (dx.mono s2 p2) dy fun d h' v F' ρ' H' s3 p3 r3 dv q3 => k d h' v F' ρ' H' (s1.trans (s2.trans s3)) (p1.trans (p2.trans p3)) r3 dv q3
theorem ve_un {r : V → Hp → VK → Prop} (q : VE K Θ ta env h fun x h1 => V1 K Θ r x h1 R) : VE K Θ (tUn r ta) env h R := fun F ρ σ H Q rl e k =>
  q F ρ σ H _ rl e fun x h1 vx F1 ρ1 H1 s1 p1 r1 dx q1 => q1 F1 ρ1 H1 vx Q r1 dx fun d h' v F' ρ' H' s3 p3 r3 dv q3 => k d h' v F' ρ' H' (s1.trans s3) (p1.trans p3) r3 dv q3
theorem va_nil {R : List D → Hs → Prop} (q : R [] h) : VA K Θ tNil env h R := fun F ρ σ H Q r e k => k [] h [] F ρ H (Same.refl _) (Pre.refl _) r .nil q
theorem va_cons {tr : TA} {R : List D → Hs → Prop} (q : VE K Θ ta env h fun x h1 => VA K Θ tr env h1 fun xs h2 => R (x :: xs) h2) : VA K Θ (tCons ta tr) env h R := fun F ρ σ H Q rl e k =>
  q F ρ σ H _ rl e fun x h1 vx F1 ρ1 H1 s1 p1 r1 dx q1 => q1 F1 ρ1 σ H1 _ r1 (e.mono s1 p1) fun xs h2 vs F2 ρ2 H2 s2 p2 r2 dxs q2 =>
    k (x :: xs) h2 (vx :: vs) F2 ρ2 H2 (s1.trans s2) (p1.trans p2) r2 (.cons (dx.mono s2 p2) dxs) q2
theorem sz_le {n : Nat} (h : n ≤ 100000) : n ≤ sizeLine := Nat.le_trans h (by decide)
theorem ve_tup {t : TA} (q : VA K Θ t env h fun xs h1 => ∃ ps, xs = ps.map D.p ∧ xs.length ≤ sizeLine ∧ R (dT ps) h1) : VE K Θ (tTup t) env h R := fun F ρ σ H Q rl e k =>
  q F ρ σ H _ rl e fun xs h1 vs F1 ρ1 H1 s1 p1 r1 dxs q1 => by
    obtain ⟨ps, rfl, hl, q1⟩ := q1
    refine ⟨by rw [← dxs.len]; exact hl, fun p hp => ?_⟩
    exact k (dT ps) h1 (.ref p) (upd F1 p (.tup vs)) ρ1 _ (s1.trans (same_new (r1.free hp))) p1 (r1.frz hp) (.p (.tup (.of upd_same) (dxs.pure.mono (same_new (r1.free hp))))) q1
/-- a list display whose list stays as it is -/
theorem ve_lst {t : TA} (q : VA K Θ t env h fun xs h1 => ∃ ps, xs = ps.map D.p ∧ xs.length ≤ sizeLine ∧ R (dL ps) h1) : VE K Θ (tLst t) env h R := fun F ρ σ H Q rl e k =>
  q F ρ σ H _ rl e fun xs h1 vs F1 ρ1 H1 s1 p1 r1 dxs q1 => by
    obtain ⟨ps, rfl, hl, q1⟩ := q1
    refine ⟨by rw [← dxs.len]; exact hl, fun p hp => ?_⟩
    exact k (dL ps) h1 (.ref p) (upd F1 p (.lst vs)) ρ1 _ (s1.trans (same_new (r1.free hp))) p1 (r1.frz hp) (.p (.lst (.of upd_same) (dxs.pure.mono (same_new (r1.free hp))))) q1
/-- a list display that is owned -/
theorem ve_lstO {t : TA} (q : VA K Θ t env h fun xs h1 => xs.length ≤ sizeLine ∧ R (.own h1.length) (h1 ++ [some (.lst xs)])) : VE K Θ (tLst t) env h R := fun F ρ σ H Q rl e k =>
  q F ρ σ H _ rl e fun xs h1 vs F1 ρ1 H1 s1 p1 r1 dxs q1 => ⟨by rw [← dxs.len]; exact q1.1, fun p hp =>
    k (.own h1.length) (h1 ++ [some (.lst xs)]) (.ref p) F1 (ρ1 ++ [p]) _ s1 (p1.trans (Pre.push _ _)) (r1.push (o := .lst xs) hp ⟨vs, rfl, dxs⟩) (.own (by rw [← r1.len]; simp)) q1.2⟩
theorem ve_cb {r : List V → Hp → VK → Prop} {t : TA} (q : VA K Θ t env h fun xs h1 => VC K Θ r xs h1 R) : VE K Θ (tCB r t) env h R := fun F ρ σ H Q rl e k =>
  q F ρ σ H _ rl e fun xs h1 vs F1 ρ1 H1 s1 p1 r1 dxs q1 => q1 F1 ρ1 H1 vs Q r1 dxs fun d h' v F' ρ' H' s3 p3 r3 dv q3 => k d h' v F' ρ' H' (s1.trans s3) (p1.trans p3) r3 dv q3
theorem ve_call {W : Spc} {E : XK} {t : TA} (q : VA K Θ t env h fun xs h1 => W xs h1 R) : VE K Θ (tCall (spD K Θ.tabs W) [] E t) env h R := fun F ρ σ H Q rl e k =>
  q F ρ σ H _ rl e fun xs h1 vs F1 ρ1 H1 s1 p1 r1 dxs q1 => ⟨xs, h1, F1, ρ1, R, r1.toBase, by rw [List.append_nil]; exact dxs, q1, fun d h' v F' ρ' H' s3 p3 r3 dv q3 => k d h' v F' ρ' H' (s1.trans s3) (p1.trans p3) ⟨r3, r1.wish.mono s3 p3⟩ dv q3⟩
/-- of what built-in type -/
def TyD (T : String) (d : D) (h : Hs) : Prop := match d with
  | .p (.str _) => T = "str"
  | .p (.int _) => T = "int"
  | .p (.lst _) => T = "list"
  | .own i => T = "list" ∧ ∃ xs, h[i]? = some (some (.lst xs))
  | _ => False
theorem TyD.v {T : String} {F : Hp} {ρ : List Addr} {h : Hs} {H : Hp} {d : D} {v : V} (r : Rel K Θ F ρ h H) (q : RD K F ρ d v) (t : TyD T d h) : tyV K T v H := by
  cases q with
  | p q =>
    cases q with
    | str s => exact t
    | int i => exact t
    | lst a b => exact .inl ⟨t, _, r.same.seq a⟩
    | _ => exact t.elim
  | own e =>
    obtain ⟨h1, xs, hx⟩ := t
    obtain ⟨a, u, e1, e2, e3, vs, e4, _⟩ := r.own _ _ hx
    rw [e] at e1; cases e1
    subst e4
    exact .inl ⟨h1, vs, .of e3⟩
theorem ve_bm {T : String} {r : V → List V → Hp → VK → Prop} {to : TE} {t : TA}
    (q : VE K Θ to env h fun x h1 => TyD T x h1 ∧ VA K Θ t env h1 fun xs h2 => VM K Θ r x xs h2 R) : VE K Θ (tBM K T r to t) env h R := fun F ρ σ H Q rl e k =>
  q F ρ σ H _ rl e fun x h1 vx F1 ρ1 H1 s1 p1 r1 dx q1 => ⟨q1.1.v r1 dx, q1.2 F1 ρ1 σ H1 _ r1 (e.mono s1 p1) fun xs h2 vs F2 ρ2 H2 s2 p2 r2 dxs q2 =>
    q2 F2 ρ2 H2 vx vs Q r2 (dx.mono s2 p2) dxs fun d h' v F' ρ' H' s3 p3 r3 dv q3 => k d h' v F' ρ' H' (s1.trans (s2.trans s3)) (p1.trans (p2.trans p3)) r3 dv q3⟩
theorem ve_bm0 {T : String} {r : V → List V → Hp → VK → Prop} {to : TE}
    (q : VE K Θ to env h fun x h1 => TyD T x h1 ∧ VM K Θ r x [] h1 R) : VE K Θ (tBM0 K T r to) env h R := fun F ρ σ H Q rl e k =>
  q F ρ σ H _ rl e fun x h1 vx F1 ρ1 H1 s1 p1 r1 dx q1 => ⟨q1.1.v r1 dx, q1.2 F1 ρ1 H1 vx [] Q r1 dx .nil fun d h' v F' ρ' H' s3 p3 r3 dv q3 => k d h' v F' ρ' H' (s1.trans s3) (p1.trans p3) r3 dv q3⟩
/-- an attribute of an instance that stays; of one that is owned -/
def FldD (f : Str) (x : D) (h : Hs) (C : Addr) (d : D) : Prop := match x with
  | .p (.ins C' fs) => C' = C ∧ (fs.map fun q => (q.1, D.p q.2)).lookup f = some d
  | .own i => ∃ fs, h[i]? = some (some (.ins C fs)) ∧ fs.lookup f = some d
  | _ => False
theorem ve_fld {f : Str} (q : VE K Θ ta env h fun x h1 => ∃ C d, Cls K C ∧ NoAttr K C f ∧ FldD f x h1 C d ∧ R d h1) : VE K Θ (tFld K ta f) env h R := fun F ρ σ H Q rl e k =>
  q F ρ σ H _ rl e fun x h1 vx F1 ρ1 H1 s1 p1 r1 dx q1 => by
    obtain ⟨C, d, c, n, l, q1⟩ := q1
    cases dx with
    | p dx =>
      cases dx with
      | ins a b =>
        obtain ⟨rfl, l⟩ := l
        obtain ⟨v, l1, l2⟩ := (b.data (ρ := ρ1)).look l
        exact ⟨_, _, _, _, v, rfl, r1.same _ _ a, c, n, l1, k d h1 v F1 ρ1 H1 s1 p1 r1 l2 q1⟩
      | _ => exact l.elim
    | own hi =>
      obtain ⟨fs, hx, l⟩ := l
      obtain ⟨a, u, e1, e2, e3, dx, gs, e4, e5⟩ := r1.own _ _ hx
      rw [hi] at e1; cases e1
      subst e4
      obtain ⟨v, l1, l2⟩ := e5.look l
      exact ⟨_, _, _, _, v, rfl, e3, c, n, l1, k d h1 v F1 ρ1 H1 s1 p1 r1 l2 q1⟩
theorem ve_if {tt : TT} (q : VT K Θ tt env h fun b h1 => if b = true then VE K Θ ta env h1 R else VE K Θ tb env h1 R) : VE K Θ (tIf tt ta tb) env h R := fun F ρ σ H Q rl e k =>
  q F ρ σ H _ rl e fun b h1 F1 ρ1 H1 s1 p1 r1 q1 => by
    cases b with
    | true => exact q1 F1 ρ1 σ H1 Q r1 (e.mono s1 p1) fun d h' v F' ρ' H' s3 p3 r3 dv q3 => k d h' v F' ρ' H' (s1.trans s3) (p1.trans p3) r3 dv q3
    | false => exact q1 F1 ρ1 σ H1 Q r1 (e.mono s1 p1) fun d h' v F' ρ' H' s3 p3 r3 dv q3 => k d h' v F' ρ' H' (s1.trans s3) (p1.trans p3) r3 dv q3
theorem ve_and (q : VE K Θ ta env h fun x h1 => ∃ c, x = dB c ∧ if c = true then VE K Θ tb env h1 R else R (dB false) h1) : VE K Θ (tAndV ta tb) env h R := fun F ρ σ H Q rl e k =>
  q F ρ σ H _ rl e fun x h1 vx F1 ρ1 H1 s1 p1 r1 dx q1 => by
    obtain ⟨c, rfl, q1⟩ := q1
    obtain rfl := dx.bl
    refine ⟨c, rfl, ?_⟩
    cases c with
    | true => exact q1 F1 ρ1 σ H1 Q r1 (e.mono s1 p1) fun d h' v F' ρ' H' s3 p3 r3 dv q3 => k d h' v F' ρ' H' (s1.trans s3) (p1.trans p3) r3 dv q3
    | false => exact k (dB false) h1 (.bl false) F1 ρ1 H1 s1 p1 r1 (.p (.bl false)) q1
theorem ve_or (q : VE K Θ ta env h fun x h1 => ∃ c, x = dB c ∧ if c = true then R (dB true) h1 else VE K Θ tb env h1 R) : VE K Θ (tOrV ta tb) env h R := fun F ρ σ H Q rl e k =>
  q F ρ σ H _ rl e fun x h1 vx F1 ρ1 H1 s1 p1 r1 dx q1 => by
    obtain ⟨c, rfl, q1⟩ := q1
    obtain rfl := dx.bl
    refine ⟨c, rfl, ?_⟩
    cases c with
    | true => exact k (dB true) h1 (.bl true) F1 ρ1 H1 s1 p1 r1 (.p (.bl true)) q1
    | false => exact q1 F1 ρ1 σ H1 Q r1 (e.mono s1 p1) fun d h' v F' ρ' H' s3 p3 r3 dv q3 => k d h' v F' ρ' H' (s1.trans s3) (p1.trans p3) r3 dv q3
theorem ve_not (q : VE K Θ ta env h fun x h1 => ∃ c, x = dB c ∧ R (dB (!c)) h1) : VE K Θ (tNotV ta) env h R := fun F ρ σ H Q rl e k =>
  q F ρ σ H _ rl e fun x h1 vx F1 ρ1 H1 s1 p1 r1 dx q1 => by
    obtain ⟨c, rfl, q1⟩ := q1
    obtain rfl := dx.bl
    exact ⟨c, rfl, k _ h1 _ F1 ρ1 H1 s1 p1 r1 (.p (.bl _)) q1⟩
theorem ve_chain {r r' : R2} (q : VE K Θ ta env h fun x h1 => VE K Θ tb env h1 fun y h2 => V2 K Θ r x y h2 fun z h3 => ∃ c, z = dB c ∧ if c = true then VE K Θ tc env h3 fun w h4 => V2 K Θ r' y w h4 R else R (dB false) h3) : VE K Θ (tChain r r' ta tb tc) env h R := by
  intro F ρ σ H Q rl e k
  refine q F ρ σ H _ rl e fun x h1 vx F1 ρ1 H1 s1 p1 r1 dx q1 => ?_
  refine q1 F1 ρ1 σ H1 _ r1 (e.mono s1 p1) fun y h2 vy F2 ρ2 H2 s2 p2 r2 dy q2 => ?_
  refine q2 F2 ρ2 H2 vx vy _ r2 (dx.mono s2 p2) dy fun z h3 vz F3 ρ3 H3 s3 p3 r3 dz q3 => ?_
  obtain ⟨c, rfl, q3⟩ := q3
  obtain rfl := dz.bl
  refine ⟨c, rfl, ?_⟩
  have s13 := s1.trans (s2.trans s3)
  have p13 := p1.trans (p2.trans p3)
  cases c with
  | true =>
    refine q3 F3 ρ3 σ H3 _ r3 (e.mono s13 p13) fun w h4 vw F4 ρ4 H4 s4 p4 r4 dw q4 => ?_
    exact q4 F4 ρ4 H4 vy vw Q r4 (dy.mono (s3.trans s4) (p3.trans p4)) dw fun d h' v F' ρ' H' s5 p5 r5 dv q5 => k d h' v F' ρ' H' (s13.trans (s4.trans s5)) (p13.trans (p4.trans p5)) r5 dv q5
  | false => exact k (dB false) h3 (.bl false) F3 ρ3 H3 s13 p13 r3 (.p (.bl false)) q3
/-! ### tests -/
variable {tt uu : TT} {B : Bool → Hs → Prop}
theorem vt_test (q : VE K Θ ta env h fun x h1 => ∃ c, x = dB c ∧ B c h1) : VT K Θ (tTest ta) env h B := fun F ρ σ H Q rl e k =>
  q F ρ σ H _ rl e fun x h1 vx F1 ρ1 H1 s1 p1 r1 dx q1 => by
    obtain ⟨c, rfl, q1⟩ := q1
    obtain rfl := dx.bl
    exact ⟨c, rfl, k c h1 F1 ρ1 H1 s1 p1 r1 q1⟩
theorem vt_B (q : VE K Θ ta env h fun x h1 => ∃ c, x = dB c ∧ B c h1) : VT K Θ (tB ta) env h B := fun F ρ σ H Q rl e k =>
  q F ρ σ H _ rl e fun x h1 vx F1 ρ1 H1 s1 p1 r1 dx q1 => by
    obtain ⟨c, rfl, q1⟩ := q1
    obtain rfl := dx.bl
    exact ⟨c, rfl, k c h1 F1 ρ1 H1 s1 p1 r1 q1⟩
theorem vt_and (q : VT K Θ tt env h fun c h1 => if c = true then VT K Θ uu env h1 B else B false h1) : VT K Θ (tAnd tt uu) env h B := fun F ρ σ H Q rl e k =>
  q F ρ σ H _ rl e fun c h1 F1 ρ1 H1 s1 p1 r1 q1 => by
    cases c with
    | true => exact q1 F1 ρ1 σ H1 Q r1 (e.mono s1 p1) fun b h' F' ρ' H' s3 p3 r3 q3 => k b h' F' ρ' H' (s1.trans s3) (p1.trans p3) r3 q3
    | false => exact k false h1 F1 ρ1 H1 s1 p1 r1 q1
theorem vt_or (q : VT K Θ tt env h fun c h1 => if c = true then B true h1 else VT K Θ uu env h1 B) : VT K Θ (tOr tt uu) env h B := fun F ρ σ H Q rl e k =>
  q F ρ σ H _ rl e fun c h1 F1 ρ1 H1 s1 p1 r1 q1 => by
    cases c with
    | true => exact k true h1 F1 ρ1 H1 s1 p1 r1 q1
    | false => exact q1 F1 ρ1 σ H1 Q r1 (e.mono s1 p1) fun b h' F' ρ' H' s3 p3 r3 q3 => k b h' F' ρ' H' (s1.trans s3) (p1.trans p3) r3 q3
theorem vt_not (q : VT K Θ tt env h fun c h1 => B (!c) h1) : VT K Θ (tNot tt) env h B := fun F ρ σ H Q rl e k =>
  q F ρ σ H _ rl e fun c h1 F1 ρ1 H1 s1 p1 r1 q1 => k (!c) h1 F1 ρ1 H1 s1 p1 r1 q1
/-- truth of a datum -/
def TruD (d : D) (h : Hs) (k : Bool) : Prop := match d with
  | .p .non => k = false
  | .p (.bl b) => k = b
  | .p (.int i) => k = (i != 0)
  | .p (.str y) => y.length ≤ sizeLine ∧ k = ((y.length : Int) != 0)
  | .p (.lst xs) => k = !xs.isEmpty
  | .p (.tup xs) => k = !xs.isEmpty
  | .own i => ∃ xs, h[i]? = some (some (.lst xs)) ∧ k = !xs.isEmpty
  | _ => False
theorem RA.empty {F : Hp} {ρ : List Addr} {xs : List D} {vs : List V} (r : RA K F ρ xs vs) : (!vs.isEmpty) = !xs.isEmpty := by
  cases r <;> rfl
theorem RPs.empty {F : Hp} {xs : List P} {vs : List V} (r : RPs K F xs vs) : (!vs.isEmpty) = !xs.isEmpty := by
  cases r <;> rfl
theorem TruD.v {F : Hp} {ρ : List Addr} {h : Hs} {H : Hp} {d : D} {v : V} {k : Bool} (r : Rel K Θ F ρ h H) (q : RD K F ρ d v) (t : TruD d h k) : TruV K v H k := by
  cases q with
  | p q =>
    cases q with
    | lst a b => exact .inl ⟨_, r.same.seq a, by rw [b.empty]; exact t⟩
    | tup a b => exact .inr (.inl ⟨_, sqT_mono r.same a, by rw [b.empty]; exact t⟩)
    | ins => exact t.elim
    | ty => exact t.elim
    | cls => exact t.elim
    | _ => exact t
  | own e =>
    obtain ⟨xs, hx, t⟩ := t
    obtain ⟨a, u, e1, e2, e3, vs, e4, e5⟩ := r.own _ _ hx
    rw [e] at e1; cases e1
    subst e4
    exact .inl ⟨vs, .of e3, by rw [e5.empty]; exact t⟩
theorem vt_truth (q : VE K Θ ta env h fun x h1 => ∃ c, TruD x h1 c ∧ B c h1) : VT K Θ (fun σ H Q => ta σ H fun x H' => ∃ k, TruV K x H' k ∧ Q k H') env h B := fun F ρ σ H Q rl e k =>
  q F ρ σ H _ rl e fun x h1 vx F1 ρ1 H1 s1 p1 r1 dx q1 => by
    obtain ⟨c, t, q1⟩ := q1
    exact ⟨c, t.v r1 dx, k c h1 F1 ρ1 H1 s1 p1 r1 q1⟩
/-! ### statements -/
variable {t1 t2 : TS} {E : En}
theorem vs_seq (q : VS K Θ t1 { E with nx := VS K Θ t2 E } env h) : VS K Θ (tSeq t1 t2) E env h := fun F ρ σ H D' rl e k =>
  q F ρ σ H _ rl e ⟨fun env' h' F' ρ' σ' H' s p r e' q' => q' F' ρ' σ' H' D' r e' (k.mono s p), k.rt, k.bk, k.ct⟩
theorem vs_next (q : E.nx env h) : VS K Θ tNext E env h := fun F ρ σ H D' rl e k => k.nx env h F ρ σ H (Same.refl _) (Pre.refl _) rl e q
theorem vs_break (q : E.bk env h) : VS K Θ tBreak E env h := fun F ρ σ H D' rl e k => k.bk env h F ρ σ H (Same.refl _) (Pre.refl _) rl e q
theorem vs_cont (q : E.ct env h) : VS K Θ tCont E env h := fun F ρ σ H D' rl e k => k.ct env h F ρ σ H (Same.refl _) (Pre.refl _) rl e q
theorem vs_asg {g : TG} (q : VE K Θ ta env h fun d h1 => VG K Θ g d env h1 E.nx) : VS K Θ (tAsg ta g) E env h := fun F ρ σ H D' rl e k =>
  q F ρ σ H _ rl e fun x h1 vx F1 ρ1 H1 s1 p1 r1 dx q1 => q1 F1 ρ1 σ H1 vx _ r1 (e.mono s1 p1) dx fun env' h' F' ρ' σ' H' s2 p2 r2 e2 q2 => k.nx env' h' F' ρ' σ' H' (s1.trans s2) (p1.trans p2) r2 e2 q2
theorem vs_if (q : VT K Θ tt env h fun b h1 => if b = true then VS K Θ t1 E env h1 else VS K Θ t2 E env h1) : VS K Θ (tIfS tt t1 t2) E env h := fun F ρ σ H D' rl e k =>
  q F ρ σ H _ rl e fun b h1 F1 ρ1 H1 s1 p1 r1 q1 => by
    cases b with
    | true => exact q1 F1 ρ1 σ H1 D' r1 (e.mono s1 p1) (k.mono s1 p1)
    | false => exact q1 F1 ρ1 σ H1 D' r1 (e.mono s1 p1) (k.mono s1 p1)
theorem vs_ret (q : VE K Θ ta env h E.rt) : VS K Θ (tRet ta) E env h := fun F ρ σ H D' rl e k =>
  q F ρ σ H _ rl e fun d h1 v F1 ρ1 H1 s1 p1 r1 dv q1 => k.rt d h1 v F1 ρ1 H1 s1 p1 r1 dv q1
theorem vs_retN (q : E.rt dN h) : VS K Θ tRetN E env h := fun F ρ σ H D' rl e k => k.rt dN h .non F ρ H (Same.refl _) (Pre.refl _) rl (.p .non) q
theorem vs_drop (q : VE K Θ ta env h fun _ h1 => E.nx env h1) : VS K Θ (tDrop ta) E env h := fun F ρ σ H D' rl e k =>
  q F ρ σ H _ rl e fun d h1 v F1 ρ1 H1 s1 p1 r1 dv q1 => k.nx env h1 F1 ρ1 σ H1 s1 p1 r1 (e.mono s1 p1) q1
theorem vg_name {i : Nat} {N : Env' → Hs → Prop} (q : N (env.set i (some d)) h) : VG K Θ (gName i) d env h N := fun F ρ σ H v Q rl e dv k =>
  k (env.set i (some d)) h F ρ (σ.set i (some v)) H (Same.refl _) (Pre.refl _) rl (e.set dv) q
theorem vgs_nil {N : Env' → Hs → Prop} (q : N env h) : VGs K Θ gNil [] env h N := fun F ρ σ H vs Q rl e dv k => by
  cases dv
  exact ⟨rfl, k env h F ρ σ H (Same.refl _) (Pre.refl _) rl e q⟩
theorem vgs_cons {g : TG} {gs : TGs} {ds : List D} {N : Env' → Hs → Prop} (q : VG K Θ g d env h fun env' h' => VGs K Θ gs ds env' h' N) : VGs K Θ (gCons g gs) (d :: ds) env h N := fun F ρ σ H vs Q rl e dv k => by
  cases dv with
  | cons a b =>
    exact ⟨_, _, rfl, q F ρ σ H _ _ rl e a fun env' h' F' ρ' σ' H' s p r e' q' => q' F' ρ' σ' H' _ _ r e' (b.mono s p) fun env2 h2 F2 ρ2 σ2 H2 s2 p2 r2 e2 q2 => k env2 h2 F2 ρ2 σ2 H2 (s.trans s2) (p.trans p2) r2 e2 q2⟩
theorem vg_tup {n : Nat} {gs : TGs} {ds : List P} {N : Env' → Hs → Prop} (hl : ds.length = n) (q : VGs K Θ gs (ds.map D.p) env h N) : VG K Θ (gTup K n gs) (dT ds) env h N := fun F ρ σ H v Q rl e dv k => by
  cases dv with
  | p dv =>
    cases dv with
    | tup a b => exact ⟨_, _, rfl, sqT_mono rl.same a, by rw [← b.len]; exact hl, q F ρ σ H _ Q rl e b.data k⟩
/-- xs[i] = v, the list owned -/
theorem vg_sub {to ti : TE} {N : Env' → Hs → Prop} (q : VE K Θ to env h fun o h1 => VE K Θ ti env h1 fun i h2 => ∃ n z xs j, o = .own n ∧ i = dI z ∧ h2[n]? = some (some (.lst xs)) ∧ ixN xs.length z = some j ∧ N env (h2.set n (some (.lst (xs.set j d))))) :
    VG K Θ (gSub to ti rSetL) d env h N := fun F ρ σ H v Q rl e dv k =>
  q F ρ σ H _ rl e fun o h1 vo F1 ρ1 H1 s1 p1 r1 dlo q1 => q1 F1 ρ1 σ H1 _ r1 (e.mono s1 p1) fun i h2 vi F2 ρ2 H2 s2 p2 r2 di q2 => by
    obtain ⟨n, z, xs, j, rfl, rfl, hx, hj, q2⟩ := q2
    obtain rfl := di.int
    cases dlo with
    | own ho =>
      have ho' := p2 _ _ ho
      obtain ⟨a, u, e1, e2, e3, vs, e4, e5⟩ := r2.own _ _ hx
      rw [ho'] at e1; cases e1
      subst e4
      refine ⟨_, vs, z, j, rfl, rfl, e3, by rw [← e5.len]; exact hj, ?_⟩
      exact k env _ F2 ρ2 σ _ (s1.trans s2) (p1.trans p2) (r2.put (o' := .lst (xs.set j d)) hx ho' ⟨_, rfl, e5.set (dv.mono (s1.trans s2) (p1.trans p2)) j⟩) (e.mono (s1.trans s2) (p1.trans p2)) q2
/-- o.f = v, o an instance that is owned -/
theorem vs_fld {f : Str} {tv to : TE} (q : VE K Θ tv env h fun y h1 => VE K Θ to env h1 fun x h2 => ∃ n C fs, x = .own n ∧ h2[n]? = some (some (.ins C fs)) ∧ Cls K C ∧ NoAttr K C f ∧ fs.length < 1000 ∧ E.nx env (h2.set n (some (.ins C (putD f y fs))))) :
    VS K Θ (sFld K to tv f) E env h := fun F ρ σ H D' rl e k =>
  q F ρ σ H _ rl e fun y h1 vy F1 ρ1 H1 s1 p1 r1 dy q1 => q1 F1 ρ1 σ H1 _ r1 (e.mono s1 p1) fun x h2 vx F2 ρ2 H2 s2 p2 r2 dx q2 => by
    obtain ⟨n, C, fs, rfl, hx, c, na, hl, q2⟩ := q2
    cases dx with
    | own ho =>
      obtain ⟨a, u, e1, e2, e3, dx, gs, e4, e5⟩ := r2.own _ _ hx
      rw [ho] at e1; cases e1
      subst e4
      refine ⟨_, C, dx, gs, rfl, e3, c, na, by rw [← e5.len]; exact hl, ?_⟩
      exact k.nx env _ F2 ρ2 σ _ (s1.trans s2) (p1.trans p2) (r2.put (o' := .ins C (putD f y fs)) hx ho ⟨dx, _, rfl, RF.put (dy.mono s2 p2) e5⟩) (e.mono (s1.trans s2) (p1.trans p2)) q2
theorem vs_aug {i : Nat} {ti : TIp} (hd : env[i]? = some (some d)) (q : VE K Θ ta env h fun y h1 => V2 K Θ ti d y h1 fun z h2 => E.nx (env.set i (some z)) h2) : VS K Θ (tAug i ta ti) E env h := fun F ρ σ H D' rl e k => by
  obtain ⟨v, g1, g2⟩ := e.get i d hd
  exact ⟨v, g1, q F ρ σ H _ rl e fun y h1 vy F1 ρ1 H1 s1 p1 r1 dy q1 => q1 F1 ρ1 H1 v vy _ r1 (g2.mono s1 p1) dy fun z h2 vz F2 ρ2 H2 s2 p2 r2 dz q2 =>
    k.nx _ h2 F2 ρ2 _ H2 (s1.trans s2) (p1.trans p2) r2 ((e.mono (s1.trans s2) (p1.trans p2)).set dz) q2⟩
/-! ### what may be forgotten, what is known anyhow -/
theorem VE.imp {R' : D → Hs → Prop} (q : VE K Θ ta env h R) (w : ∀ d h, R d h → R' d h) : VE K Θ ta env h R' := fun F ρ σ H Q rl e k => q F ρ σ H Q rl e fun d h' v F' ρ' H' s p r dv q' => k d h' v F' ρ' H' s p r dv (w d h' q')
theorem VT.imp {B' : Bool → Hs → Prop} (q : VT K Θ tt env h B) (w : ∀ b h, B b h → B' b h) : VT K Θ tt env h B' := fun F ρ σ H Q rl e k => q F ρ σ H Q rl e fun d h' F' ρ' H' s p r q' => k d h' F' ρ' H' s p r (w d h' q')
theorem VS.imp {E' : En} (q : VS K Θ t1 E env h) (w1 : ∀ e h, E.nx e h → E'.nx e h) (w2 : ∀ d h, E.rt d h → E'.rt d h) (w3 : ∀ e h, E.bk e h → E'.bk e h) (w4 : ∀ e h, E.ct e h → E'.ct e h) : VS K Θ t1 E' env h := fun F ρ σ H D' rl e k =>
  q F ρ σ H D' rl e ⟨fun a b c d e f g h i j l => k.nx a b c d e f g h i j (w1 _ _ l), fun a b c d e f g h i j l => k.rt a b c d e f g h i j (w2 _ _ l) , fun a b c d e f g h i j l => k.bk a b c d e f g h i j (w3 _ _ l), fun a b c d e f g h i j l => k.ct a b c d e f g h i j (w4 _ _ l)⟩
end
end Kb

/-! Loops, comprehensions; operations upon data; defs. -/
namespace Kb
open PySem PySem.Spec PyProof.Rows L2
section
variable {K : PySem.W.Frag} {Θ : Ctx} {env : Env'} {h : Hs} {ta tb te tc : TE} {R : D → Hs → Prop} {x y d : D}
/-! ### what is walked -/
/-- J walks ds while C holds of what is owned -/
structure ItOk (K : PySem.W.Frag) (Θ : Ctx) (F : Hp) (ρ : List Addr) (C : Hs → Prop) (ds : List D) (J : It) : Prop where
  stop : ∀ (F' : Hp) (ρ' : List Addr) (h : Hs) (H : Hp), Same F F' → Pre ρ ρ' → Rel K Θ F' ρ' h H → C h → J.stop ds.length H
  go : ∀ (i : Nat) (F' : Hp) (ρ' : List Addr) (h : Hs) (H : Hp), Same F F' → Pre ρ ρ' → Rel K Θ F' ρ' h H → C h → i < ds.length → J.go i H
  yld : ∀ (i : Nat) (d : D) (F' : Hp) (ρ' : List Addr) (h : Hs) (H : Hp) (x : V) (H' : Hp), Same F F' → Pre ρ ρ' → Rel K Θ F' ρ' h H → C h → ds[i]? = some d → J.yld i H x H' →
    ∃ F2 : Hp, Same F' F2 ∧ Rel K Θ F2 ρ' h H' ∧ RD K F2 ρ' d x
def VI (K : PySem.W.Frag) (Θ : Ctx) (wi : TI) (env : Env') (h : Hs) (R : List D → (Hs → Prop) → Hs → Prop) : Prop :=
  ∀ (F : Hp) (ρ : List Addr) (σ : L2.St) (H : Hp) (Q : It → Hp → Prop), Rel K Θ F ρ h H → REnv K F ρ env σ →
    (∀ (ds : List D) (C : Hs → Prop) (h' : Hs) (J : It) (F' : Hp) (ρ' : List Addr) (H' : Hp), Same F F' → Pre ρ ρ' → Rel K Θ F' ρ' h' H' → ItOk K Θ F' ρ' C ds J → R ds C h' → Q J H') → wi σ H Q
/-- a list that stays: its items are those seen by any reading that the walk hands on -/
theorem vi_list {tl : TE} {R : List D → (Hs → Prop) → Hs → Prop} (q : VE K Θ tl env h fun x h1 => ∃ ps, x = dL ps ∧ R (ps.map D.p) (fun _ => True) h1) : VI K Θ (iList K tl) env h R := fun F ρ σ H Q rl e k =>
  q F ρ σ H _ rl e fun x h1 vx F1 ρ1 H1 s1 p1 r1 dx q1 => by
    obtain ⟨ps, rfl, q1⟩ := q1
    cases dx with
    | p dx =>
      cases dx with
      | @lst a _ vs ha rp =>
        refine ⟨a, rfl, ⟨vs, r1.same.seq ha⟩, k (ps.map D.p) (fun _ => True) h1 _ F1 ρ1 H1 s1 p1 r1 ⟨fun F' ρ' h' H' s p r _ => ?_, fun i F' ρ' h' H' s p r _ hi => ?_, fun i d F' ρ' h' H' x H2 s p r _ hd hy => ?_⟩ q1⟩
        · exact ⟨vs, r.same.seq (s.seq ha), by rw [List.length_map, rp.len]; exact Nat.le_refl _⟩
        · rw [List.length_map, rp.len] at hi
          exact ⟨vs, vs[i], r.same.seq (s.seq ha), List.getElem?_eq_getElem hi⟩
        · obtain ⟨e1, e2⟩ := hy
          subst e1
          rw [List.getElem?_map] at hd
          cases hp : ps[i]? with
          | none => rw [hp] at hd; cases hd
          | some p0 =>
            rw [hp] at hd; cases hd
            obtain ⟨v, hv, rv⟩ := rp.get hp
            have ev := e2 vs (r.same.seq (s.seq ha))
            rw [hv] at ev; cases ev
            exact ⟨F', Same.refl _, r, .p (rv.mono s)⟩
theorem vi_tup {tl : TE} {R : List D → (Hs → Prop) → Hs → Prop} (q : VE K Θ tl env h fun x h1 => ∃ ps, x = dT ps ∧ R (ps.map D.p) (fun _ => True) h1) : VI K Θ (iTup K tl) env h R := fun F ρ σ H Q rl e k =>
  q F ρ σ H _ rl e fun x h1 vx F1 ρ1 H1 s1 p1 r1 dx q1 => by
    obtain ⟨ps, rfl, q1⟩ := q1
    cases dx with
    | p dx =>
      cases dx with
      | @tup a _ vs ha rp =>
        refine ⟨a, rfl, ⟨vs, sqT_mono r1.same ha⟩, k (ps.map D.p) (fun _ => True) h1 _ F1 ρ1 H1 s1 p1 r1 ⟨fun F' ρ' h' H' s p r _ => ?_, fun i F' ρ' h' H' s p r _ hi => ?_, fun i d F' ρ' h' H' x H2 s p r _ hd hy => ?_⟩ q1⟩
        · exact ⟨vs, sqT_mono r.same (sqU_mono s ha), by rw [List.length_map, rp.len]; exact Nat.le_refl _⟩
        · rw [List.length_map, rp.len] at hi
          exact ⟨vs, vs[i], sqT_mono r.same (sqU_mono s ha), List.getElem?_eq_getElem hi⟩
        · obtain ⟨e1, e2⟩ := hy
          subst e1
          rw [List.getElem?_map] at hd
          cases hp : ps[i]? with
          | none => rw [hp] at hd; cases hd
          | some p0 =>
            rw [hp] at hd; cases hd
            obtain ⟨v, hv, rv⟩ := rp.get hp
            have ev := e2 vs (sqT_mono r.same (sqU_mono s ha))
            rw [hv] at ev; cases ev
            exact ⟨F', Same.refl _, r, .p (rv.mono s)⟩
/-- an owned list, while it is not changed -/
theorem vi_listO {tl : TE} {R : List D → (Hs → Prop) → Hs → Prop} (q : VE K Θ tl env h fun x h1 => ∃ n xs, x = .own n ∧ h1[n]? = some (some (.lst xs)) ∧ R xs (fun h2 => h2[n]? = some (some (.lst xs))) h1) : VI K Θ (iList K tl) env h R := fun F ρ σ H Q rl e k =>
  q F ρ σ H _ rl e fun x h1 vx F1 ρ1 H1 s1 p1 r1 dx q1 => by
    obtain ⟨n, xs, rfl, hx, q1⟩ := q1
    cases dx with
    | @own a _ ha =>
      have at_ : ∀ (F' : Hp) (ρ' : List Addr) (h' : Hs) (H' : Hp), Pre ρ1 ρ' → Rel K Θ F' ρ' h' H' → h'[n]? = some (some (.lst xs)) → ∃ vs, H' a = some (.lst vs) ∧ RA K F' ρ' xs vs := fun F' ρ' h' H' p r hn => by
        obtain ⟨a', u, e1, e2, e3, vs, e4, e5⟩ := r.own _ _ hn
        rw [p _ _ ha] at e1; cases e1
        subst e4
        exact ⟨vs, e3, e5⟩
      obtain ⟨vs, hv, _⟩ := at_ F1 ρ1 h1 H1 (Pre.refl _) r1 hx
      refine ⟨a, rfl, ⟨vs, .of hv⟩, k xs _ h1 _ F1 ρ1 H1 s1 p1 r1 ⟨fun F' ρ' h' H' s p r c => ?_, fun i F' ρ' h' H' s p r c hi => ?_, fun i d F' ρ' h' H' x H2 s p r c hd hy => ?_⟩ q1⟩
      · obtain ⟨vs, hv, rv⟩ := at_ F' ρ' h' H' p r c
        exact ⟨vs, .of hv, by rw [rv.len]; exact Nat.le_refl _⟩
      · obtain ⟨vs, hv, rv⟩ := at_ F' ρ' h' H' p r c
        rw [rv.len] at hi
        exact ⟨vs, vs[i], .of hv, List.getElem?_eq_getElem hi⟩
      · obtain ⟨e1, e2⟩ := hy
        subst e1
        obtain ⟨vs, hv, rv⟩ := at_ F' ρ' h' _ p r c
        obtain ⟨v, h1, h2⟩ := rv.get hd
        have ev := e2 vs (.of hv)
        rw [h1] at ev; cases ev
        exact ⟨F', Same.refl _, r, h2⟩
/-- the numbers lo, lo + 1, .. -/
def rng (lo : Int) (n : Nat) : List D := (List.range n).map fun (i : Nat) => dI (lo + (i : Int))
theorem rng_len (lo : Int) (n : Nat) : (rng lo n).length = n := by simp [rng]
theorem rng_get {lo : Int} {n i : Nat} {d : D} (hd : (rng lo n)[i]? = some d) : i < n ∧ d = dI (lo + (i : Int)) := by
  have hl : i < (rng lo n).length := (List.getElem?_eq_some_iff.mp hd).1
  rw [rng_len] at hl
  refine ⟨hl, ?_⟩
  unfold rng at hd
  rw [List.getElem?_map, List.getElem?_range hl] at hd
  exact (Option.some.inj hd).symm
theorem itr_ok {F : Hp} {ρ : List Addr} {lo : Int} {n : Nat} : ItOk K Θ F ρ (fun _ => True) (rng lo n) (Itr lo n) :=
  ⟨fun F' ρ' h H s p r c => by rw [rng_len]; exact Nat.le_refl n, fun i F' ρ' h H s p r c hi => by rw [rng_len] at hi; exact hi, fun i d F' ρ' h H x H' s p r c hd hy => by
    obtain ⟨e1, e2⟩ := hy
    subst e1 e2
    rw [(rng_get hd).2]
    exact ⟨F', Same.refl _, r, .p (.int _)⟩⟩
theorem vi_range1 {t : TA} {R : List D → (Hs → Prop) → Hs → Prop} (q : VA K Θ t env h fun xs h1 => ∃ j : Int, xs = [dI j] ∧ -(2 ^ 62) ≤ j ∧ j < 2 ^ 62 ∧ R (rng 0 j.toNat) (fun _ => True) h1) : VI K Θ (iRng1 t) env h R := fun F ρ σ H Q rl e k =>
  q F ρ σ H _ rl e fun xs h1 vs F1 ρ1 H1 s1 p1 r1 dx q1 => by
    obtain ⟨j, rfl, b1, b2, q1⟩ := q1
    cases dx with
    | cons a b =>
      cases b
      obtain rfl := a.int
      exact ⟨j, rfl, b1, b2, k _ _ h1 _ F1 ρ1 H1 s1 p1 r1 itr_ok q1⟩
theorem vi_range2 {t : TA} {R : List D → (Hs → Prop) → Hs → Prop} (q : VA K Θ t env h fun xs h1 => ∃ i j : Int, xs = [dI i, dI j] ∧ (-(2 ^ 62) ≤ i ∧ i < 2 ^ 62 ∧ -(2 ^ 62) ≤ j ∧ j < 2 ^ 62) ∧ R (rng i (j - i).toNat) (fun _ => True) h1) : VI K Θ (iRng2 t) env h R := fun F ρ σ H Q rl e k =>
  q F ρ σ H _ rl e fun xs h1 vs F1 ρ1 H1 s1 p1 r1 dx q1 => by
    obtain ⟨i, j, rfl, b, q1⟩ := q1
    cases dx with
    | cons a b' =>
      cases b' with
      | cons c d =>
        cases d
        obtain rfl := a.int
        obtain rfl := c.int
        exact ⟨i, j, rfl, b, k _ _ h1 _ F1 ρ1 H1 s1 p1 r1 itr_ok q1⟩
/-! ### for, while -/
theorem vs_for {wi : TI} {g : TG} {tb : TS} {E : En} (q : VI K Θ wi env h fun ds C h1 => ∃ Inv : Nat → Env' → Hs → Prop, Inv 0 env h1 ∧ (∀ i env h, Inv i env h → C h) ∧
    (∀ i d env h, ds[i]? = some d → Inv i env h → VG K Θ g d env h fun env' h' => VS K Θ tb { E with nx := Inv (i + 1), ct := Inv (i + 1), bk := E.nx } env' h') ∧ (∀ env h, Inv ds.length env h → E.nx env h)) : VS K Θ (tFor wi g tb) E env h := fun F ρ σ H D' rl e k =>
  q F ρ σ H _ rl e fun ds C h1 J F1 ρ1 H1 s1 p1 r1 it q1 => by
    obtain ⟨Inv, i0, iC, turn, fin⟩ := q1
    have e1 := e.mono s1 p1
    refine ⟨fun i m σ H => m = ds.length - i ∧ i ≤ ds.length ∧ ∃ env h F' ρ', Same F1 F' ∧ Pre ρ1 ρ' ∧ Rel K Θ F' ρ' h H ∧ REnv K F' ρ' env σ ∧ Inv i env h, ⟨ds.length, by simp, Nat.zero_le _, env, h1, F1, ρ1, Same.refl _, Pre.refl _, r1, e1, i0⟩, ?_⟩
    rintro i m σ H ⟨rfl, hi, env, h, F', ρ', s, p, r, e', iv⟩
    have c := iC i env h iv
    by_cases hlt : i < ds.length
    · refine .inr ⟨it.go i F' ρ' h H s p r c hlt, fun σ' H' => ∃ env h F2 ρ2, Same F1 F2 ∧ Pre ρ1 ρ2 ∧ Rel K Θ F2 ρ2 h H' ∧ REnv K F2 ρ2 env σ' ∧ Inv (i + 1) env h, fun σ' H' n => ⟨ds.length - (i + 1), by omega, rfl, hlt, n⟩, fun x H' hy => ?_⟩
      have hd : ds[i]? = some ds[i] := List.getElem?_eq_getElem hlt
      obtain ⟨F2, s2, r2, dx⟩ := it.yld i _ F' ρ' h H x H' s p r c hd hy
      refine turn i _ env h hd iv F2 ρ' σ H' x _ r2 (e'.mono s2 (Pre.refl _)) dx fun env3 h3 F3 ρ3 σ3 H3 s3 p3 r3 e3 q3 => ?_
      have ss : Same F1 F3 := s.trans (s2.trans s3)
      have pp : Pre ρ1 ρ3 := p.trans p3
      have kk := k.mono (s1.trans ss) (p1.trans pp)
      refine q3 F3 ρ3 σ3 H3 _ r3 e3 ⟨fun env4 h4 F4 ρ4 σ4 H4 s4 p4 r4 e4 q4 => ⟨env4, h4, F4, ρ4, ss.trans s4, pp.trans p4, r4, e4, q4⟩, kk.rt, kk.nx, fun env4 h4 F4 ρ4 σ4 H4 s4 p4 r4 e4 q4 => ⟨env4, h4, F4, ρ4, ss.trans s4, pp.trans p4, r4, e4, q4⟩⟩
    · have ei : i = ds.length := by omega
      subst ei
      exact .inl ⟨it.stop F' ρ' h H s p r c, k.nx env h F' ρ' σ H (s1.trans s) (p1.trans p) r e' (fin env h iv)⟩
theorem vs_while {c : TT} {tb : TS} {E : En} (Inv : Env' → Hs → Prop) (μ : Env' → Hs → Nat) (i0 : Inv env h)
    (turn : ∀ env h, Inv env h → VT K Θ c env h fun b h1 => if b = true then VS K Θ tb { E with nx := fun env' h' => Inv env' h' ∧ μ env' h' < μ env h, ct := fun env' h' => Inv env' h' ∧ μ env' h' < μ env h, bk := E.nx } env h1 else E.nx env h1) :
    VS K Θ (tWhile c tb) E env h := fun F ρ σ H D' rl e k => by
  refine ⟨fun m σ H => ∃ env h F' ρ', Same F F' ∧ Pre ρ ρ' ∧ Rel K Θ F' ρ' h H ∧ REnv K F' ρ' env σ ∧ Inv env h ∧ m = μ env h, ⟨_, env, h, F, ρ, Same.refl _, Pre.refl _, rl, e, i0, rfl⟩, ?_⟩
  rintro m σ H ⟨env, h, F', ρ', s, p, r, e', iv, rfl⟩
  refine turn env h iv F' ρ' σ H _ r e' fun b h1 F1 ρ1 H1 s1 p1 r1 q1 => ?_
  cases b with
  | true =>
    rw [if_pos rfl] at q1 ⊢
    refine ⟨fun σ' H' => ∃ env' h' F2 ρ2, Same F F2 ∧ Pre ρ ρ2 ∧ Rel K Θ F2 ρ2 h' H' ∧ REnv K F2 ρ2 env' σ' ∧ Inv env' h' ∧ μ env' h' < μ env h, fun σ' H' ⟨env', h', F2, ρ2, s2, p2, r2, e2, iv2, lt⟩ => ⟨_, lt, env', h', F2, ρ2, s2, p2, r2, e2, iv2, rfl⟩, ?_⟩
    have kk := k.mono (s.trans s1) (p.trans p1)
    exact q1 F1 ρ1 σ H1 _ r1 (e'.mono s1 p1) ⟨fun env4 h4 F4 ρ4 σ4 H4 s4 p4 r4 e4 q4 => ⟨env4, h4, F4, ρ4, (s.trans s1).trans s4, (p.trans p1).trans p4, r4, e4, q4.1, q4.2⟩, kk.rt, kk.nx, fun env4 h4 F4 ρ4 σ4 H4 s4 p4 r4 e4 q4 => ⟨env4, h4, F4, ρ4, (s.trans s1).trans s4, (p.trans p1).trans p4, r4, e4, q4.1, q4.2⟩⟩
  | false =>
    rw [if_neg Bool.false_ne_true] at q1 ⊢
    exact k.nx env h1 F1 ρ1 σ H1 (s.trans s1) (p.trans p1) r1 (e'.mono s1 p1) q1
/-! ### comprehensions -/
/-- the target's slots: after the store they are the comprehension's alone -/
def TgOk (g : TG) (vs : List Nat) : Prop := ∀ (x : V) (σ : L2.St) (H : Hp) (Q : L2.St → Hp → Prop), g x (wipe σ vs) H Q → g x (wipe σ vs) H fun σ2 H2 => wipe σ2 vs = wipe σ vs ∧ Q σ2 H2
theorem set_none_none {σ : L2.St} {j : Nat} {x : Option V} : ((σ.set j none).set j x).set j none = σ.set j none := by rw [List.set_set, List.set_set]
theorem tg_name {j : Nat} : TgOk (gName j) [j] := fun x σ H Q q => ⟨set_none_none, q⟩
theorem wipe2 {σ : L2.St} {i j : Nat} {x y : Option V} : wipe (((wipe σ [i, j]).set i x).set j y) [i, j] = wipe σ [i, j] := by
  show (((((σ.set j none).set i none).set i x).set j y).set j none).set i none = (σ.set j none).set i none
  refine List.ext_getElem? fun k => ?_
  simp only [List.getElem?_set, List.length_set]
  by_cases e1 : i = k
  · subst e1
    simp
  · by_cases e2 : j = k
    · subst e2
      simp [e1]
    · simp [e1, e2]
theorem tg_tup2 {K : PySem.W.Frag} {i j : Nat} : TgOk (gTup K 2 (gCons (gName i) (gCons (gName j) gNil))) [i, j] := fun x σ H Q q => by
  obtain ⟨a, xs, e, sq, hl, v, r, e2, v2, r2, e3, e4, q⟩ := q
  exact ⟨a, xs, e, sq, hl, v, r, e2, v2, r2, e3, e4, wipe2, q⟩
/-- own slots of a comprehension forgotten -/
def wipeD (env : Env') : List Nat → Env'
  | [] => env
  | v :: vs => (wipeD env vs).set v none
theorem REnv.wipes {F : Hp} {ρ : List Addr} {σ : L2.St} (r : REnv K F ρ env σ) : ∀ vs : List Nat, REnv K F ρ (wipeD env vs) (L2.wipe σ vs)
  | [] => r
  | v :: vs => (REnv.wipes r vs).wipe
theorem Rel.pop {F : Hp} {ρ : List Addr} {h : Hs} {H : Hp} {p : Addr} {o : Option OO} (r : Rel K Θ F (ρ ++ [p]) (h ++ [o]) H) (hl : ρ.length = h.length) (hw : Wish K Θ F ρ) (w : ∀ (i : Nat) (o : OO) (a : Addr), h[i]? = some (some o) → ρ[i]? = some a → ∀ u, RO K F (ρ ++ [p]) o u → RO K F ρ o u) : Rel K Θ F ρ h H := by
  have lt : ∀ (i : Nat) (o' : OO), h[i]? = some (some o') → i < h.length := fun i o' e => (List.getElem?_eq_some_iff.mp e).1
  have up : ∀ (i : Nat) (o' : OO), h[i]? = some (some o') → (h ++ [o])[i]? = some (some o') := fun i o' e => by rw [List.getElem?_append_left (lt i o' e)]; exact e
  have pl : ∀ (i : Nat), i < h.length → (ρ ++ [p])[i]? = ρ[i]? := fun i hi => List.getElem?_append_left (by rw [hl]; exact hi)
  refine ⟨⟨r.same, hl, fun i o' hi => ?_, fun i j o1 o2 a hi hj ha hb => r.inj i j o1 o2 a (up i o1 hi) (up j o2 hj) (by rw [pl i (lt i o1 hi)]; exact ha) (by rw [pl j (lt j o2 hj)]; exact hb), r.tab⟩, hw⟩
  obtain ⟨a, u, h1, h2, h3, h4⟩ := r.own i o' (up i o' hi)
  rw [pl i (lt i o' hi)] at h1
  exact ⟨a, u, h1, h2, h3, w i o' a hi h1 u h4⟩
theorem RA.low {F F0 : Hp} {ρ : List Addr} {p : Addr} : ∀ {ds : List D} {vs v0 : List V}, RA K F0 ρ ds v0 → RA K F (ρ ++ [p]) ds vs → RA K F ρ ds vs
  | _, _, _, .nil, .nil => .nil
  | _, _, _, .cons a r, .cons b s => .cons (by
      cases b with
      | p b => exact .p b
      | own b =>
        cases a with
        | own a =>
          have hl := (List.getElem?_eq_some_iff.mp a).1
          rw [List.getElem?_append_left hl] at b
          exact .own b) (RA.low r s)
theorem RF.low {F F0 : Hp} {ρ : List Addr} {p : Addr} : ∀ {ds : List (Str × D)} {vs v0 : List (Str × V)}, RF K F0 ρ ds v0 → RF K F (ρ ++ [p]) ds vs → RF K F ρ ds vs
  | _, _, _, .nil, .nil => .nil
  | _, _, _, .cons a r, .cons b s => .cons (by
      cases b with
      | p b => exact .p b
      | own b =>
        cases a with
        | own a =>
          have hl := (List.getElem?_eq_some_iff.mp a).1
          rw [List.getElem?_append_left hl] at b
          exact .own b) (RF.low r s)
theorem RK.low {κ : Type} {F F0 : Hp} {ρ : List Addr} {p : Addr} : ∀ {ds : List (κ × D)} {vs v0 : List (κ × V)}, RK K F0 ρ ds v0 → RK K F (ρ ++ [p]) ds vs → RK K F ρ ds vs
  | _, _, _, .nil, .nil => .nil
  | _, _, _, .cons a r, .cons b s => .cons (by
      cases b with
      | p b => exact .p b
      | own b =>
        cases a with
        | own a =>
          have hl := (List.getElem?_eq_some_iff.mp a).1
          rw [List.getElem?_append_left hl] at b
          exact .own b) (RK.low r s)
theorem RO.low {F F0 : Hp} {ρ : List Addr} {p : Addr} {o : OO} {u u0 : HO} (a : RO K F0 ρ o u0) (b : RO K F (ρ ++ [p]) o u) : RO K F ρ o u := by
  cases o with
  | lst xs =>
    obtain ⟨v0, _, r0⟩ := a
    obtain ⟨vs, e, r⟩ := b
    exact ⟨vs, e, r0.low r⟩
  | ins C fs =>
    obtain ⟨d0, g0, _, r0⟩ := a
    obtain ⟨dx, gs, e, r⟩ := b
    exact ⟨dx, gs, e, r0.low r⟩
  | dK kvs =>
    obtain ⟨g0, _, r0⟩ := a
    obtain ⟨gs, e, r⟩ := b
    exact ⟨gs, e, r0.low r⟩
  | dT kvs =>
    obtain ⟨g0, _, r0⟩ := a
    obtain ⟨gs, e, r⟩ := b
    exact ⟨gs, e, r0.low r⟩
theorem pre_eq {ρ ρ' : List Addr} (p : Pre ρ ρ') (hl : ρ'.length = ρ.length) : ρ' = ρ := by
  refine List.ext_getElem? fun i => ?_
  cases e : ρ[i]? with
  | some a => exact p i a e
  | none =>
    rw [List.getElem?_eq_none_iff] at e ⊢
    omega
theorem filterMap_succ {α : Type} (f : Nat → Option α) (n : Nat) : (List.range (n + 1)).filterMap f = (List.range n).filterMap f ++ (f n).toList := by
  rw [List.range_succ, List.filterMap_append]
  cases e : f n <;> simp [List.filterMap, e]
/-- what one turn of a comprehension must do: the heap as it was, the item fs i or none -/
def LcTurn (K : PySem.W.Frag) (Θ : Ctx) (g : TG) (tt : TT) (te : TE) (env : Env') (d : D) (h : Hs) (o : Option P) : Prop :=
  VG K Θ g d env h fun env' h' => h' = h ∧ VT K Θ tt env' h' fun b h2 => h2 = h' ∧ if b = true then VE K Θ te env' h2 (fun y h3 => h3 = h2 ∧ ∃ p, y = .p p ∧ o = some p) else o = none
theorem lc_run {wi : TI} {g : TG} {tt : TT} {te : TE} {vs : List Nat} (tg : TgOk g vs) {F : Hp} {ρ : List Addr} {σ : L2.St} {H1 : Hp} {ds : List D} {C : Hs → Prop} {h1 : Hs} {J : It} (Q : VK)
    (r1 : Rel K Θ F ρ h1 H1) (e : REnv K F ρ env σ) (it : ItOk K Θ F ρ C ds J) (fs : Nat → Option P) (hl : ds.length < sizeLine) (hC : ∀ acc, C (h1 ++ [some (.lst acc)]))
    (turn : ∀ i d acc, ds[i]? = some d → LcTurn K Θ g tt te (wipeD env vs) d (h1 ++ [some (.lst acc)]) (fs i))
    (fin : ∀ (p : Addr) (F' : Hp) (us : List V) (H : Hp), Same F F' → F' p = none → H p = some (.lst us) → H1 p = none → Rel K Θ F' (ρ ++ [p]) (h1 ++ [some (.lst (((List.range ds.length).filterMap fs).map D.p))]) H → RPs K F' ((List.range ds.length).filterMap fs) us → Rel K Θ F' ρ h1 H → Q (.ref p) H) :
    ∀ D, H1 D = none → ∃ W : Nat → Nat → Hp → Prop, (∃ m, W 0 m (upd H1 D (.lst []))) ∧ ∀ i m H, W i m H → (J.stop i H ∧ Q (.ref D) H) ∨
      (J.go i H ∧ ∃ Nx : Hp → Prop, (∀ H', Nx H' → ∃ m', m' < m ∧ W (i + 1) m' H') ∧ ∀ x H', J.yld i H x H' → g x (wipe σ vs) H' fun σ2 H2 => wipe σ2 vs = wipe σ vs ∧ tt σ2 H2 fun b H3 => if b = true then te σ2 H3 fun y H4 => ∃ acc, H4 D = some (.lst acc) ∧ acc.length < sizeLine ∧ Nx (upd H4 D (.lst (acc ++ [y]))) else Nx H3) := by
  intro p hp
  have hn : (h1 ++ [some (OO.lst [])])[h1.length]? = some (some (.lst [])) := by simp
  refine ⟨fun i m H => m = ds.length - i ∧ i ≤ ds.length ∧ ∃ F', Same F F' ∧ Rel K Θ F' (ρ ++ [p]) (h1 ++ [some (.lst (((List.range i).filterMap fs).map D.p))]) H, ⟨ds.length, by simp, Nat.zero_le _, F, Same.refl _, r1.push (o := .lst []) hp ⟨[], rfl, .nil⟩⟩, ?_⟩
  rintro i m H ⟨rfl, hi, F', s, r⟩
  have hpl : (ρ ++ [p])[h1.length]? = some p := by rw [← r1.len]; simp
  have got : ∀ (F' : Hp) (H : Hp) (xs : List D), Rel K Θ F' (ρ ++ [p]) (h1 ++ [some (.lst xs)]) H → ∃ us, H p = some (.lst us) ∧ F' p = none ∧ RA K F' (ρ ++ [p]) xs us := fun F' H xs r => by
    obtain ⟨a, u, e1, e2, e3, us, e4, e5⟩ := r.own h1.length (.lst xs) (by simp)
    rw [hpl] at e1; cases e1
    subst e4
    exact ⟨us, e3, e2, e5⟩
  by_cases hlt : i < ds.length
  · refine .inr ⟨it.go i F' (ρ ++ [p]) _ H s (Pre.push _ _) r (hC _) hlt, fun H' => ∃ F2, Same F F2 ∧ Rel K Θ F2 (ρ ++ [p]) (h1 ++ [some (.lst (((List.range (i + 1)).filterMap fs).map D.p))]) H', fun H' ⟨F2, s2, r2⟩ => ⟨ds.length - (i + 1), by omega, rfl, hlt, F2, s2, r2⟩, fun x H' hy => ?_⟩
    have hd : ds[i]? = some ds[i] := List.getElem?_eq_getElem hlt
    obtain ⟨F2, s2, r2, dx⟩ := it.yld i _ F' (ρ ++ [p]) _ H x H' s (Pre.push _ _) r (hC _) hd hy
    refine tg x σ H' _ ?_
    refine turn i _ _ hd F2 (ρ ++ [p]) (wipe σ vs) H' x _ r2 ((e.mono (s.trans s2) (Pre.push _ _)).wipes vs) dx fun env3 h3 F3 ρ3 σ3 H3 s3 p3 r3 e3 q3 => ?_
    obtain ⟨rfl, q3⟩ := q3
    have eρ : ρ3 = ρ ++ [p] := pre_eq p3 (by rw [r3.len, r2.len])
    subst eρ
    refine q3 F3 _ σ3 H3 _ r3 e3 fun b h4 F4 ρ4 H4 s4 p4 r4 q4 => ?_
    obtain ⟨rfl, q4⟩ := q4
    have eρ : ρ4 = ρ ++ [p] := pre_eq p4 (by rw [r4.len, r3.len])
    subst eρ
    have ss : Same F F4 := s.trans (s2.trans (s3.trans s4))
    cases b with
    | true =>
      rw [if_pos rfl] at q4 ⊢
      refine q4 F4 _ σ3 H4 _ r4 (e3.mono s4 p4) fun y h5 v F5 ρ5 H5 s5 p5 r5 dv q5 => ?_
      obtain ⟨rfl, pp, rfl, ef⟩ := q5
      have eρ : ρ5 = ρ ++ [p] := pre_eq p5 (by rw [r5.len, r4.len])
      subst eρ
      obtain ⟨us, g1, g2, g3⟩ := got F5 H5 _ r5
      refine ⟨us, g1, ?_, F5, ss.trans s5, ?_⟩
      · rw [← g3.len, List.length_map]
        have := List.length_filterMap_le fs (List.range i)
        rw [List.length_range] at this
        omega
      · have z := r5.put (i := h1.length) (o := .lst (((List.range i).filterMap fs).map D.p)) (o' := .lst (((List.range (i + 1)).filterMap fs).map D.p)) (by simp) hpl ⟨us ++ [v], rfl, by
          rw [filterMap_succ, ef, List.map_append]
          exact g3.append (.cons dv .nil)⟩
        rw [List.set_append_right _ _ (Nat.le_refl _), Nat.sub_self] at z
        exact z
    | false =>
      rw [if_neg Bool.false_ne_true] at q4 ⊢
      refine ⟨F4, ss, ?_⟩
      rw [filterMap_succ, q4]
      simpa using r4
  · have ei : i = ds.length := by omega
    subst ei
    refine .inl ⟨it.stop F' (ρ ++ [p]) _ H s (Pre.push _ _) r (hC _), ?_⟩
    obtain ⟨us, g1, g2, g3⟩ := got F' H _ r
    refine fin p F' us H s g2 g1 hp r g3.pure (r.pop r1.len (r1.wish.mono s (Pre.refl _)) fun i o a hi ha u q => ?_)
    obtain ⟨a0, u0, f1, f2, f3, f4⟩ := r1.own i o hi
    exact f4.low q
/-- [..]: a new list that stays as it is -/
theorem ve_lc {wi : TI} {g : TG} {tt : TT} {te : TE} {vs : List Nat} (tg : TgOk g vs)
    (q : VI K Θ wi env h fun ds C h1 => ∃ fs : Nat → Option P, ds.length < sizeLine ∧ (∀ acc, C (h1 ++ [some (.lst acc)])) ∧
      (∀ i d acc, ds[i]? = some d → LcTurn K Θ g tt te (wipeD env vs) d (h1 ++ [some (.lst acc)]) (fs i)) ∧ R (dL ((List.range ds.length).filterMap fs)) h1) : VE K Θ (tLc wi g tt te vs) env h R := fun F ρ σ H Q rl e k =>
  q F ρ σ H _ rl e fun ds C h1 J F1 ρ1 H1 s1 p1 r1 it q1 => by
    obtain ⟨fs, hl, hC, turn, q1⟩ := q1
    refine lc_run (wi := wi) tg Q r1 (e.mono s1 p1) it fs hl hC turn fun p F' us H s hn hp hp1 r rp r2 => ?_
    have sn : Same F' (upd F' p (.lst us)) := same_new hn
    refine k _ h1 (.ref p) (upd F' p (.lst us)) ρ1 H (s1.trans (s.trans sn)) p1 ?_ (.p (.lst (.of upd_same) (rp.mono sn))) q1
    have np : ∀ P ∈ Θ.tabs, P ≠ p := fun P hP => by
      obtain ⟨ps, z, _⟩ := (r2.tab P hP).2
      rintro rfl
      rw [hp] at z
      cases z
    refine ⟨⟨fun b o e => ?_, r2.len, fun i o hi => ?_, r2.inj, fun P hP => ⟨by rw [upd_ne (np P hP)]; exact (r2.tab P hP).1, (r2.tab P hP).2⟩⟩, r2.wish.mono sn (Pre.refl _)⟩
    · by_cases hb : b = p
      · subst hb; rw [upd_same] at e; rw [hp]; exact e
      · rw [upd_ne hb] at e; exact r2.same b o e
    · obtain ⟨a, u, f1, f2, f3, f4⟩ := r2.own i o hi
      have ha : a ≠ p := fun z => by
        subst z
        obtain ⟨a0, u0, g1, g2, g3, g4⟩ := r1.own i o hi
        rw [f1] at g1; cases g1
        rw [hp1] at g3; cases g3
      exact ⟨a, u, f1, by rw [upd_ne ha]; exact f2, f3, f4.mono sn (Pre.refl _)⟩
/-- [..]: a new list that is owned -/
theorem ve_lcO {wi : TI} {g : TG} {tt : TT} {te : TE} {vs : List Nat} (tg : TgOk g vs)
    (q : VI K Θ wi env h fun ds C h1 => ∃ fs : Nat → Option P, ds.length < sizeLine ∧ (∀ acc, C (h1 ++ [some (.lst acc)])) ∧
      (∀ i d acc, ds[i]? = some d → LcTurn K Θ g tt te (wipeD env vs) d (h1 ++ [some (.lst acc)]) (fs i)) ∧ R (.own h1.length) (h1 ++ [some (.lst (((List.range ds.length).filterMap fs).map D.p))])) : VE K Θ (tLc wi g tt te vs) env h R := fun F ρ σ H Q rl e k =>
  q F ρ σ H _ rl e fun ds C h1 J F1 ρ1 H1 s1 p1 r1 it q1 => by
    obtain ⟨fs, hl, hC, turn, q1⟩ := q1
    refine lc_run (wi := wi) tg Q r1 (e.mono s1 p1) it fs hl hC turn fun p F' us H s hn hp hp1 r rp r2 => ?_
    exact k _ _ (.ref p) F' (ρ1 ++ [p]) H (s1.trans s) (p1.trans (Pre.push _ _)) r (.own (by rw [← r1.len]; simp)) q1
end
end Kb

/-! Operations upon data. -/
namespace Kb
open PySem PySem.Spec PyProof.Rows L2
section
variable {X : Cx}
def rAddS' : R2 := fun x y H Q => ∃ i j, x = .str i ∧ y = .str j ∧ i.length + j.length ≤ sizeLine ∧ Q (.str (i ++ j)) H
def rAddI : R2 := rI0 fun i j => .int (i + j)
def rAddU (K : PySem.W.Frag) : R2 := fun x y H Q => rAddI x y H Q ∨ (rAddS' x y H Q ∨ (rCatT K x y H Q ∨ rCat x y H Q))
theorem op_addU : OpR X (binaryOp .Add) (rAddU X.K) := OpR.or (r := rAddI) op_add (OpR.or (r := rAddS') op_add_str (op_catT.or op_cat))
def rEqU (K : PySem.W.Frag) : R2 := fun x y H Q => rEq x y H Q ∨ rEqD K x y H Q
def rNeU (K : PySem.W.Frag) : R2 := fun x y H Q => rNe x y H Q ∨ rNeD K x y H Q
theorem op_eqU (hu : X.A.units + 64 < cLine) : OpR X (compareOp .Eq) (rEqU X.K) := op_eq.or (op_eqD hu)
theorem op_neU (hu : X.A.units + 64 < cLine) : OpR X (compareOp .NotEq) (rNeU X.K) := op_ne.or (op_neD hu)
def rInSg : R2 := fun x y H Q => ∃ (c : Nat) (z : Str), x = .str ⟨#[c]⟩ ∧ y = .str z ∧ Q (.bl (decide (c ∈ z.cps.toList))) H
def rInU (K : PySem.W.Frag) : R2 := fun x y H Q => rIn K false x y H Q ∨ rInSg x y H Q
def rNiSg : R2 := fun x y H Q => ∃ (c : Nat) (z : Str), x = .str ⟨#[c]⟩ ∧ y = .str z ∧ Q (.bl (!decide (c ∈ z.cps.toList))) H
def rNiU (K : PySem.W.Frag) : R2 := fun x y H Q => rIn K true x y H Q ∨ rNiSg x y H Q
theorem op_inU : OpR X (compareOp .In) (rInU X.K) := OpR.or op_in_seq op_in_sign
theorem op_ninU : OpR X (compareOp .NotIn) (rNiU X.K) := OpR.or op_notIn_seq op_notIn_sign
def rInt1 : List V → Hp → VK → Prop := fun xs H Q => (∃ i, xs = [.int i] ∧ Q (.int i) H) ∨ ∃ k, xs = [.bl k] ∧ Q (.int (if k then 1 else 0)) H
def rIntS : List V → Hp → VK → Prop := fun xs H Q => ∃ a n, xs = [.str a] ∧ PySem.intText? a = some n ∧ a.length ≤ 640 ∧ Q (.int n) H
def rIntU : List V → Hp → VK → Prop := fun xs H Q => rInt1 xs H Q ∨ rIntS xs H Q
theorem call_intU : CallR X (.type "int") rIntU := CallR.or (r := rInt1) (r' := rIntS) call_int1 call_int_str
def rIsiU (K : PySem.W.Frag) : List V → Hp → VK → Prop := fun xs H Q => rIsi K xs H Q ∨ rIsiT K xs H Q
theorem call_isiU : CallR X (.builtin "isinstance") (rIsiU X.K) := call_isi.or call_isiT
def rStrI : List V → Hp → VK → Prop := fun xs H Q => ∃ i, xs = [.int i] ∧ i.natAbs.log2 < 1920 ∧ Q (.str (toString i)) H
def rLenU (K : PySem.W.Frag) : List V → Hp → VK → Prop := fun xs H Q => ∃ x n, xs = [x] ∧ LenV K x H n ∧ Q (.int n) H
end
section
variable {K : PySem.W.Frag} {Θ : Ctx} {env : Env'} {h : Hs} {R : D → Hs → Prop} {x y d : D}
/-! ### two operands -/
theorem v2_I {C : Int → Int → Prop} {g : Int → Int → Int} {i j : Int} (c : C i j) (q : R (dI (g i j)) h) : V2 K Θ (rI C fun i j => .int (g i j)) (dI i) (dI j) h R := fun F ρ H vx vy Q rl a b k => by
  obtain rfl := a.int
  obtain rfl := b.int
  exact ⟨i, j, rfl, rfl, c, k _ h _ F ρ H (Same.refl _) (Pre.refl _) rl (.p (.int _)) q⟩
theorem v2_I0 {g : Int → Int → Int} {i j : Int} (q : R (dI (g i j)) h) : V2 K Θ (rI0 fun i j => .int (g i j)) (dI i) (dI j) h R := fun F ρ H vx vy Q rl a b k => by
  obtain rfl := a.int
  obtain rfl := b.int
  exact ⟨i, j, rfl, rfl, k _ h _ F ρ H (Same.refl _) (Pre.refl _) rl (.p (.int _)) q⟩
theorem v2_B0 {g : Int → Int → Bool} {i j : Int} (q : R (dB (g i j)) h) : V2 K Θ (rI0 fun i j => .bl (g i j)) (dI i) (dI j) h R := fun F ρ H vx vy Q rl a b k => by
  obtain rfl := a.int
  obtain rfl := b.int
  exact ⟨i, j, rfl, rfl, k _ h _ F ρ H (Same.refl _) (Pre.refl _) rl (.p (.bl _)) q⟩
theorem v2_ip {g : Int → Int → Int} {i j : Int} (q : R (dI (g i j)) h) : V2 K Θ (ipI g) (dI i) (dI j) h R := fun F ρ H vx vy Q rl a b k => by
  obtain rfl := a.int
  obtain rfl := b.int
  exact ⟨i, j, rfl, rfl, k _ h _ F ρ H (Same.refl _) (Pre.refl _) rl (.p (.int _)) q⟩
theorem v2_or1 {r r' : R2} (q : V2 K Θ r x y h R) : V2 K Θ (fun x y H Q => r x y H Q ∨ r' x y H Q) x y h R := fun F ρ H vx vy Q rl a b k => .inl (q F ρ H vx vy Q rl a b k)
theorem v2_or2 {r r' : R2} (q : V2 K Θ r' x y h R) : V2 K Θ (fun x y H Q => r x y H Q ∨ r' x y H Q) x y h R := fun F ρ H vx vy Q rl a b k => .inr (q F ρ H vx vy Q rl a b k)
theorem v2_addI {i j : Int} (q : R (dI (i + j)) h) : V2 K Θ (rAddU K) (dI i) (dI j) h R := v2_or1 (v2_I0 q)
theorem v2_addS {i j : Str} (hl : i.length + j.length ≤ sizeLine) (q : R (dS (i ++ j)) h) : V2 K Θ (rAddU K) (dS i) (dS j) h R := v2_or2 (v2_or1 fun F ρ H vx vy Q rl a b k => by
  obtain rfl := a.str
  obtain rfl := b.str
  exact ⟨i, j, rfl, rfl, hl, k _ h _ F ρ H (Same.refl _) (Pre.refl _) rl (.p (.str _)) q⟩)
theorem v2_addT {i j : List P} (hn : i ≠ []) (hl : i.length + j.length ≤ sizeLine) (q : R (dT (i ++ j)) h) : V2 K Θ (rAddU K) (dT i) (dT j) h R := v2_or2 (v2_or2 (v2_or1 fun F ρ H vx vy Q rl a b k => by
  cases a with
  | p a =>
    cases b with
    | p b =>
      cases a with
      | tup a1 a2 =>
        cases b with
        | tup b1 b2 =>
          refine ⟨_, _, _, _, rfl, rfl, sqT_mono rl.same a1, sqT_mono rl.same b1, fun z => ?_, by rw [← a2.len, ← b2.len]; exact hl, fun z => ?_, fun z p hp => ?_⟩
          · subst z; cases a2; exact hn rfl
          · subst z; cases b2
            rw [List.append_nil] at q
            exact k _ h _ F ρ H (Same.refl _) (Pre.refl _) rl (.p (.tup a1 a2)) q
          · have sn := fun o => same_new (o := o) (rl.free hp)
            exact k _ h _ _ ρ _ (sn _) (Pre.refl _) (rl.frz hp) (.p (.tup (.of upd_same) ((a2.append b2).mono (sn _)))) q))
theorem v2_eqI {i j : Int} (q : R (dB (decide (i = j))) h) : V2 K Θ (rEqU K) (dI i) (dI j) h R := v2_or1 fun F ρ H vx vy Q rl a b k => by
  obtain rfl := a.int
  obtain rfl := b.int
  refine ⟨rfl, ?_⟩
  have e : decide (V.int i = V.int j) = decide (i = j) := decide_eq_decide.mpr ⟨V.int.inj, congrArg V.int⟩
  rw [e]
  exact k _ h _ F ρ H (Same.refl _) (Pre.refl _) rl (.p (.bl _)) q
theorem v2_eqB {i j : Bool} (q : R (dB (decide (i = j))) h) : V2 K Θ (rEqU K) (dB i) (dB j) h R := v2_or1 fun F ρ H vx vy Q rl a b k => by
  obtain rfl := a.bl
  obtain rfl := b.bl
  refine ⟨rfl, ?_⟩
  have e : decide (V.bl i = V.bl j) = decide (i = j) := decide_eq_decide.mpr ⟨V.bl.inj, congrArg V.bl⟩
  rw [e]
  exact k _ h _ F ρ H (Same.refl _) (Pre.refl _) rl (.p (.bl _)) q
theorem v2_eqS {i j : Str} (q : R (dB (decide (i = j))) h) : V2 K Θ (rEqU K) (dS i) (dS j) h R := v2_or1 fun F ρ H vx vy Q rl a b k => by
  obtain rfl := a.str
  obtain rfl := b.str
  refine ⟨rfl, ?_⟩
  have e : decide (V.str i = V.str j) = decide (i = j) := decide_eq_decide.mpr ⟨V.str.inj, congrArg V.str⟩
  rw [e]
  exact k _ h _ F ρ H (Same.refl _) (Pre.refl _) rl (.p (.bl _)) q
theorem v2_neI {i j : Int} (q : R (dB (!decide (i = j))) h) : V2 K Θ (rNeU K) (dI i) (dI j) h R := v2_or1 fun F ρ H vx vy Q rl a b k => by
  obtain rfl := a.int
  obtain rfl := b.int
  refine ⟨rfl, ?_⟩
  have e : decide (V.int i = V.int j) = decide (i = j) := decide_eq_decide.mpr ⟨V.int.inj, congrArg V.int⟩
  rw [e]
  exact k _ h _ F ρ H (Same.refl _) (Pre.refl _) rl (.p (.bl _)) q
theorem v2_neB {i j : Bool} (q : R (dB (!decide (i = j))) h) : V2 K Θ (rNeU K) (dB i) (dB j) h R := v2_or1 fun F ρ H vx vy Q rl a b k => by
  obtain rfl := a.bl
  obtain rfl := b.bl
  refine ⟨rfl, ?_⟩
  have e : decide (V.bl i = V.bl j) = decide (i = j) := decide_eq_decide.mpr ⟨V.bl.inj, congrArg V.bl⟩
  rw [e]
  exact k _ h _ F ρ H (Same.refl _) (Pre.refl _) rl (.p (.bl _)) q
theorem v2_neS {i j : Str} (q : R (dB (!decide (i = j))) h) : V2 K Θ (rNeU K) (dS i) (dS j) h R := v2_or1 fun F ρ H vx vy Q rl a b k => by
  obtain rfl := a.str
  obtain rfl := b.str
  refine ⟨rfl, ?_⟩
  have e : decide (V.str i = V.str j) = decide (i = j) := decide_eq_decide.mpr ⟨V.str.inj, congrArg V.str⟩
  rw [e]
  exact k _ h _ F ρ H (Same.refl _) (Pre.refl _) rl (.p (.bl _)) q
/-- data as the library compares them -/
def pyOf : P → PyData
  | .non => .none
  | .bl b => .bool b
  | .int i => .int i
  | .str s => .str s
  | .tup xs => .tuple (pyOfs xs)
  | .lst xs => .list (pyOfs xs)
  | .ins _ _ => .none
  | .ty _ => .none
  | .cls _ => .none
where pyOfs : List P → List PyData
  | [] => []
  | x :: xs => pyOf x :: pyOfs xs
/-- None, bools, ints, texts, tuples and lists of these -/
def plainP : P → Bool
  | .non => true
  | .bl _ => true
  | .int _ => true
  | .str _ => true
  | .tup xs => plainPs xs
  | .lst xs => plainPs xs
  | _ => false
where plainPs : List P → Bool
  | [] => true
  | x :: xs => plainP x && plainPs xs
mutual
theorem RP.dp {F H : Hp} (s : Same F H) : ∀ {x : P} {v : V}, RP K F x v → plainP x = true → Dp K H v (pyOf x)
  | _, _, .non, _ => .non
  | _, _, .bl b, _ => .bl b
  | _, _, .int i, _ => .int i
  | _, _, .str i, _ => .str i
  | .tup xs, _, .tup a r, c => .tup (sqT_mono s a) (RPs.dp s r (by unfold plainP at c; exact c))
  | .lst xs, _, .lst a r, c => .lst (s.seq a) (RPs.dp s r (by unfold plainP at c; exact c))
  | _, _, .ins _ _, c => by simp [plainP] at c
  | _, _, .ty _, c => by simp [plainP] at c
  | _, _, .cls _, c => by simp [plainP] at c
theorem RPs.dp {F H : Hp} (s : Same F H) : ∀ {xs : List P} {vs : List V}, RPs K F xs vs → plainP.plainPs xs = true → DpAll K H vs (pyOf.pyOfs xs)
  | _, _, .nil, _ => .nil
  | x :: xs, _, .cons a r, c => by
    unfold plainP.plainPs at c
    rw [Bool.and_eq_true] at c
    exact .cons (RP.dp s a c.1) (RPs.dp s r c.2)
end
theorem v2_eqP {x y : P} (hx : plainP x = true) (hy : plainP y = true) (sx : SeqAt.shaped (pyOf x) = true) (sy : SeqAt.shaped (pyOf y) = true) (q : R (dB (PyData.eqv (pyOf x) (pyOf y))) h) : V2 K Θ (rEqU K) (.p x) (.p y) h R := v2_or2 fun F ρ H vx vy Q rl a b k => by
  cases a with
  | p a =>
    cases b with
    | p b => exact ⟨_, _, a.dp rl.same hx, b.dp rl.same hy, sx, sy, k _ h _ F ρ H (Same.refl _) (Pre.refl _) rl (.p (.bl _)) q⟩
theorem v2_neP {x y : P} (hx : plainP x = true) (hy : plainP y = true) (sx : SeqAt.shaped (pyOf x) = true) (sy : SeqAt.shaped (pyOf y) = true) (q : R (dB (!PyData.eqv (pyOf x) (pyOf y))) h) : V2 K Θ (rNeU K) (.p x) (.p y) h R := v2_or2 fun F ρ H vx vy Q rl a b k => by
  cases a with
  | p a =>
    cases b with
    | p b => exact ⟨_, _, a.dp rl.same hx, b.dp rl.same hy, sx, sy, k _ h _ F ρ H (Same.refl _) (Pre.refl _) rl (.p (.bl _)) q⟩
/-- is it None -/
def isNonD : D → Bool
  | .p .non => true
  | _ => false
theorem isNon_v {F : Hp} {ρ : List Addr} {d : D} {v : V} (a : RD K F ρ d v) : decide (v = .non) = isNonD d := by
  cases a with
  | p a => cases a <;> rfl
  | own _ => rfl
theorem v2_isN (q : R (dB (isNonD x)) h) : V2 K Θ (fun x y H Q => y = V.non ∧ Q (.bl (decide (x = .non))) H) x dN h R := fun F ρ H vx vy Q rl a b k => by
  obtain rfl := b.non
  refine ⟨rfl, ?_⟩
  rw [isNon_v a]
  exact k _ h _ F ρ H (Same.refl _) (Pre.refl _) rl (.p (.bl _)) q
theorem v2_notN (q : R (dB (!isNonD x)) h) : V2 K Θ (fun x y H Q => y = V.non ∧ Q (.bl (!decide (x = .non))) H) x dN h R := fun F ρ H vx vy Q rl a b k => by
  obtain rfl := b.non
  refine ⟨rfl, ?_⟩
  rw [isNon_v a]
  exact k _ h _ F ρ H (Same.refl _) (Pre.refl _) rl (.p (.bl _)) q
theorem v1_U {g : Int → Int} {i : Int} (q : R (dI (g i)) h) : V1 K Θ (rU fun i => .int (g i)) (dI i) h R := fun F ρ H vx Q rl a k => by
  obtain rfl := a.int
  exact ⟨i, rfl, k _ h _ F ρ H (Same.refl _) (Pre.refl _) rl (.p (.int _)) q⟩
/-! ### items -/
theorem RPs.at_ {F : Hp} {ds : List P} {vs : List V} {i : Int} {d : P} (r : RPs K F ds vs) (h : atI ds i = some d) : ∃ v, atI vs i = some v ∧ RP K F d v := by
  unfold atI at h ⊢
  rw [← r.len]
  cases e : ixN ds.length i with
  | none => rw [e] at h; cases h
  | some j =>
    rw [e] at h
    exact r.get h
theorem RA.at_ {F : Hp} {ρ : List Addr} {ds : List D} {vs : List V} {i : Int} {d : D} (r : RA K F ρ ds vs) (h : atI ds i = some d) : ∃ v, atI vs i = some v ∧ RD K F ρ d v := by
  unfold atI at h ⊢
  rw [← r.len]
  cases e : ixN ds.length i with
  | none => rw [e] at h; cases h
  | some j =>
    rw [e] at h
    exact r.get h
theorem v2_ixL {xs : List P} {i : Int} {p : P} (ha : atI xs i = some p) (q : R (.p p) h) : V2 K Θ (rIx K) (dL xs) (dI i) h R := fun F ρ H vx vy Q rl a b k => by
  obtain rfl := b.int
  cases a with
  | p a =>
    cases a with
    | lst a r =>
      obtain ⟨v, h1, h2⟩ := r.at_ ha
      exact .inl ⟨_, _, i, v, rfl, rfl, rl.same.seq a, h1, k _ h _ F ρ H (Same.refl _) (Pre.refl _) rl (.p h2) q⟩
theorem v2_ixT {xs : List P} {i : Int} {p : P} (ha : atI xs i = some p) (q : R (.p p) h) : V2 K Θ (rIx K) (dT xs) (dI i) h R := fun F ρ H vx vy Q rl a b k => by
  obtain rfl := b.int
  cases a with
  | p a =>
    cases a with
    | tup a r =>
      obtain ⟨v, h1, h2⟩ := r.at_ ha
      exact .inr (.inl ⟨_, _, i, v, rfl, rfl, sqT_mono rl.same a, h1, k _ h _ F ρ H (Same.refl _) (Pre.refl _) rl (.p h2) q⟩)
theorem v2_ixS {z : Str} {i : Int} {c : Nat} (hl : z.length ≤ sizeLine) (ha : atI z.cps.toList i = some c) (q : R (dS ⟨#[c]⟩) h) : V2 K Θ (rIx K) (dS z) (dI i) h R := fun F ρ H vx vy Q rl a b k => by
  obtain rfl := a.str
  obtain rfl := b.int
  exact .inr (.inr ⟨z, i, c, rfl, rfl, hl, ha, k _ h _ F ρ H (Same.refl _) (Pre.refl _) rl (.p (.str _)) q⟩)
theorem v2_ixO {n : Nat} {xs : List D} {i : Int} (hn : h[n]? = some (some (.lst xs))) (ha : atI xs i = some d) (q : R d h) : V2 K Θ (rIx K) (.own n) (dI i) h R := fun F ρ H vx vy Q rl a b k => by
  obtain rfl := b.int
  cases a with
  | own a =>
    obtain ⟨p, u, e1, e2, e3, vs, e4, e5⟩ := rl.own _ _ hn
    rw [a] at e1; cases e1
    subst e4
    obtain ⟨v, h1, h2⟩ := e5.at_ ha
    exact .inl ⟨_, _, i, v, rfl, rfl, .of e3, h1, k _ h _ F ρ H (Same.refl _) (Pre.refl _) rl h2 q⟩
/-! ### slices -/
def VO (K : PySem.W.Frag) (Θ : Ctx) (to : TO) (env : Env') (h : Hs) (R : Option Int → Hs → Prop) : Prop :=
  ∀ (F : Hp) (ρ : List Addr) (σ : L2.St) (H : Hp) (Q : Option Int → Hp → Prop), Rel K Θ F ρ h H → REnv K F ρ env σ →
    (∀ (d : Option Int) (h' : Hs) (F' : Hp) (ρ' : List Addr) (H' : Hp), Same F F' → Pre ρ ρ' → Rel K Θ F' ρ' h' H' → R d h' → Q d H') → to σ H Q
theorem vo_none {R : Option Int → Hs → Prop} (q : R none h) : VO K Θ tNoPart env h R := fun F ρ σ H Q rl e k => k none h F ρ H (Same.refl _) (Pre.refl _) rl q
theorem vo_some {te : TE} {R : Option Int → Hs → Prop} (q : VE K Θ te env h fun x h1 => ∃ i, x = dI i ∧ R (some i) h1) : VO K Θ (tPart te) env h R := fun F ρ σ H Q rl e k =>
  q F ρ σ H _ rl e fun x h1 v F1 ρ1 H1 s1 p1 r1 dx q1 => by
    obtain ⟨i, rfl, q1⟩ := q1
    obtain rfl := dx.int
    exact ⟨i, rfl, k _ h1 F1 ρ1 H1 s1 p1 r1 q1⟩
def cutP {α : Type} (xs : List α) (lo hi : Option Int) : List α := (xs.drop (HT.sIx xs.length 0 lo)).take (HT.sIx xs.length xs.length hi - HT.sIx xs.length 0 lo)
theorem RPs.cut {F : Hp} {xs : List P} {vs : List V} (r : RPs K F xs vs) (lo hi : Option Int) : RPs K F (cutP xs lo hi) (cutV vs lo hi) := by
  unfold cutP cutV
  rw [r.len]
  exact (r.drop _).take _
theorem cut_len {α : Type} (xs : List α) (lo hi : Option Int) : (cutP xs lo hi).length ≤ xs.length := by
  unfold cutP
  rw [List.length_take, List.length_drop]
  omega
theorem ve_slL {te : TE} {tl th : TO} (q : VE K Θ te env h fun x h1 => VO K Θ tl env h1 fun lo h2 => VO K Θ th env h2 fun hi h3 => ∃ xs, x = dL xs ∧ R (dL (cutP xs lo hi)) h3) : VE K Θ (tSl (rSlL K) te tl th) env h R := fun F ρ σ H Q rl e k =>
  q F ρ σ H _ rl e fun x h1 v F1 ρ1 H1 s1 p1 r1 dx q1 => q1 F1 ρ1 σ H1 _ r1 (e.mono s1 p1) fun lo h2 F2 ρ2 H2 s2 p2 r2 q2 => q2 F2 ρ2 σ H2 _ r2 (e.mono (s1.trans s2) (p1.trans p2)) fun hi h3 F3 ρ3 H3 s3 p3 r3 q3 => by
    obtain ⟨xs, rfl, q3⟩ := q3
    have dx3 := dx.mono (s2.trans s3) (p2.trans p3)
    cases dx3 with
    | p a =>
      cases a with
      | lst a r =>
        refine ⟨_, _, rfl, r3.same.seq a, fun p hp => ?_⟩
        have sn := fun o => same_new (o := o) (r3.free hp)
        exact k _ h3 _ _ ρ3 _ ((s1.trans (s2.trans s3)).trans (sn _)) (p1.trans (p2.trans p3)) (r3.frz hp) (.p (.lst (.of upd_same) ((r.cut lo hi).mono (sn _)))) q3
/-! ### calls of built-ins -/
theorem vc_len {n : Nat} (l : match x with | .p (.str y) => y.length ≤ sizeLine ∧ n = y.length | .p (.lst xs) => n = xs.length | .p (.tup xs) => n = xs.length | .own i => ∃ xs, h[i]? = some (some (.lst xs)) ∧ n = xs.length | _ => False) (q : R (dI n) h) :
    VC K Θ (fun xs H Q => ∃ x n, xs = [x] ∧ LenV K x H n ∧ Q (.int n) H) [x] h R := fun F ρ H vs Q rl a k => by
  cases a with
  | cons a b =>
    cases b
    have fin : ∀ v : V, LenV K v H n → ∃ x n, [v] = [x] ∧ LenV K x H n ∧ Q (.int n) H := fun v l => ⟨v, n, rfl, l, k _ h _ F ρ H (Same.refl _) (Pre.refl _) rl (.p (.int _)) q⟩
    cases a with
    | p a =>
      cases a with
      | str s => exact fin _ l
      | lst a r => exact fin _ (.inl ⟨_, rl.same.seq a, by rw [← r.len]; exact l⟩)
      | tup a r => exact fin _ (.inr ⟨_, sqT_mono rl.same a, by rw [← r.len]; exact l⟩)
      | _ => exact l.elim
    | own a =>
      obtain ⟨xs, hn, l⟩ := l
      obtain ⟨p, u, e1, e2, e3, vs, e4, e5⟩ := rl.own _ _ hn
      rw [a] at e1; cases e1
      subst e4
      exact fin _ (.inl ⟨vs, .of e3, by rw [← e5.len]; exact l⟩)
theorem vc_intI {i : Int} (q : R (dI i) h) : VC K Θ rIntU [dI i] h R := fun F ρ H vs Q rl a k => by
  cases a with
  | cons a b =>
    cases b
    obtain rfl := a.int
    exact .inl (.inl ⟨i, rfl, k _ h _ F ρ H (Same.refl _) (Pre.refl _) rl (.p (.int _)) q⟩)
theorem vc_intS {s : Str} {n : Int} (e : PySem.intText? s = some n) (hl : s.length ≤ 640) (q : R (dI n) h) : VC K Θ rIntU [dS s] h R := fun F ρ H vs Q rl a k => by
  cases a with
  | cons a b =>
    cases b
    obtain rfl := a.str
    exact .inr ⟨s, n, rfl, e, hl, k _ h _ F ρ H (Same.refl _) (Pre.refl _) rl (.p (.int _)) q⟩
theorem vc_str {i : Int} (hl : i.natAbs.log2 < 1920) (q : R (dS (toString i)) h) : VC K Θ (fun xs H Q => ∃ i, xs = [V.int i] ∧ i.natAbs.log2 < 1920 ∧ Q (.str (toString i)) H) [dI i] h R := fun F ρ H vs Q rl a k => by
  cases a with
  | cons a b =>
    cases b
    obtain rfl := a.int
    exact ⟨i, rfl, hl, k _ h _ F ρ H (Same.refl _) (Pre.refl _) rl (.p (.str _)) q⟩
theorem vc_2 {g : Int → Int → Int} {i j : Int} (q : R (dI (g i j)) h) : VC K Θ (fun xs H Q => ∃ i j, xs = [V.int i, V.int j] ∧ Q (.int (g i j)) H) [dI i, dI j] h R := fun F ρ H vs Q rl a k => by
  cases a with
  | cons a b =>
    cases b with
    | cons b c =>
      cases c
      obtain rfl := a.int
      obtain rfl := b.int
      exact ⟨i, j, rfl, k _ h _ F ρ H (Same.refl _) (Pre.refl _) rl (.p (.int _)) q⟩
theorem vc_min2 {i j : Int} (q : R (dI (if j < i then j else i)) h) : VC K Θ (fun xs H Q => ∃ i j, xs = [V.int i, V.int j] ∧ Q (.int (if j < i then j else i)) H) [dI i, dI j] h R := vc_2 (g := fun i j => if j < i then j else i) q
theorem vc_max2 {i j : Int} (q : R (dI (if j > i then j else i)) h) : VC K Θ (fun xs H Q => ∃ i j, xs = [V.int i, V.int j] ∧ Q (.int (if j > i then j else i)) H) [dI i, dI j] h R := vc_2 (g := fun i j => if j > i then j else i) q
/-- the items of a list or tuple -/
def SeqP (d : D) (h : Hs) (ps : List P) : Prop := match d with
  | .p (.lst xs) => xs = ps
  | .p (.tup xs) => xs = ps
  | .own i => h[i]? = some (some (.lst (ps.map D.p)))
  | _ => False
theorem SeqP.v {F : Hp} {ρ : List Addr} {H : Hp} {d : D} {v : V} {ps : List P} (rl : Rel K Θ F ρ h H) (a : RD K F ρ d v) (s : SeqP d h ps) : ∃ p vs, v = .ref p ∧ (SqL K H p vs ∨ SqT K H p vs) ∧ RPs K F ps vs := by
  cases a with
  | p a =>
    cases a with
    | lst a r => cases s; exact ⟨_, _, rfl, .inl (rl.same.seq a), r⟩
    | tup a r => cases s; exact ⟨_, _, rfl, .inr (sqT_mono rl.same a), r⟩
    | _ => exact s.elim
  | own a =>
    obtain ⟨p, u, e1, e2, e3, vs, e4, e5⟩ := rl.own _ _ s
    rw [a] at e1; cases e1
    subst e4
    exact ⟨_, _, rfl, .inl (.of e3), e5.pure⟩
theorem vc_tuple {ps : List P} (s : SeqP x h ps) (q : R (dT ps) h) : VC K Θ (fun xs H Q => ∃ p ys, xs = [V.ref p] ∧ ((SqL K H p ys ∧ ∀ l, H l = none → Q (.ref l) (upd H l (.tup ys))) ∨ (SqT K H p ys ∧ Q (.ref p) H))) [x] h R := fun F ρ H vs Q rl a k => by
  cases a with
  | cons a b =>
    cases b
    cases a with
    | p a =>
      cases a with
      | lst a r =>
        cases s
        refine ⟨_, _, rfl, .inl ⟨rl.same.seq a, fun l hl => ?_⟩⟩
        have sn := fun o => same_new (o := o) (rl.free hl)
        exact k _ h _ _ ρ _ (sn _) (Pre.refl _) (rl.frz hl) (.p (.tup (.of upd_same) (r.mono (sn _)))) q
      | tup a r =>
        cases s
        exact ⟨_, _, rfl, .inr ⟨sqT_mono rl.same a, k _ h _ F ρ H (Same.refl _) (Pre.refl _) rl (.p (.tup a r)) q⟩⟩
      | _ => exact s.elim
    | own a =>
      obtain ⟨p, u, e1, e2, e3, vs, e4, e5⟩ := rl.own _ _ s
      rw [a] at e1; cases e1
      subst e4
      refine ⟨_, _, rfl, .inl ⟨.of e3, fun l hl => ?_⟩⟩
      have sn := fun o => same_new (o := o) (rl.free hl)
      exact k _ h _ _ ρ _ (sn _) (Pre.refl _) (rl.frz hl) (.p (.tup (.of upd_same) (e5.pure.mono (sn _)))) q
/-- list(..): a new list that stays; one that is owned -/
theorem vc_list {ps : List P} (s : SeqP x h ps) (q : R (dL ps) h) : VC K Θ (fun xs H Q => ∃ p ys, xs = [V.ref p] ∧ (SqL K H p ys ∨ SqT K H p ys) ∧ ∀ l, H l = none → Q (.ref l) (upd H l (.lst ys))) [x] h R := fun F ρ H vs Q rl a k => by
  cases a with
  | cons a b =>
    cases b
    obtain ⟨p, us, rfl, sq, r⟩ := s.v rl a
    refine ⟨p, us, rfl, sq, fun l hl => ?_⟩
    have sn := fun o => same_new (o := o) (rl.free hl)
    exact k _ h _ _ ρ _ (sn _) (Pre.refl _) (rl.frz hl) (.p (.lst (.of upd_same) (r.mono (sn _)))) q
theorem vc_listO {ps : List P} (s : SeqP x h ps) (q : R (.own h.length) (h ++ [some (.lst (ps.map D.p))])) : VC K Θ (fun xs H Q => ∃ p ys, xs = [V.ref p] ∧ (SqL K H p ys ∨ SqT K H p ys) ∧ ∀ l, H l = none → Q (.ref l) (upd H l (.lst ys))) [x] h R := fun F ρ H vs Q rl a k => by
  cases a with
  | cons a b =>
    cases b
    obtain ⟨p, us, rfl, sq, r⟩ := s.v rl a
    refine ⟨p, us, rfl, sq, fun l hl => ?_⟩
    exact k _ _ _ F (ρ ++ [l]) _ (Same.refl _) (Pre.push _ _) (rl.push (o := .lst (ps.map D.p)) hl ⟨us, rfl, r.data⟩) (.own (by rw [← rl.len]; simp)) q
theorem vc_sum {ns : List Int} (s : x = dL (ns.map P.int) ∨ ∃ n, x = .own n ∧ h[n]? = some (some (.lst (ns.map dI)))) (q : R (dI ns.sum) h) : VC K Θ (rSum K) [x] h R := fun F ρ H vs Q rl a k => by
  cases a with
  | cons a b =>
    cases b
    have kk := k _ h _ F ρ H (Same.refl _) (Pre.refl _) rl (.p (.int _)) q
    rcases s with rfl | ⟨n, rfl, s⟩
    · cases a with
      | p a =>
        cases a with
        | lst a r =>
          have e := r.ints
          subst e
          exact ⟨_, ns, rfl, rl.same.seq a, kk⟩
    · cases a with
      | own a =>
        obtain ⟨p, u, e1, e2, e3, vs, e4, e5⟩ := rl.own _ _ s
        rw [a] at e1; cases e1
        subst e4
        have e6 : RA K F ρ ((ns.map P.int).map D.p) vs := by rw [List.map_map]; exact e5
        have e := e6.pure.ints
        subst e
        exact ⟨_, ns, rfl, .of e3, kk⟩
/-! ### methods -/
theorem vm_append {n : Nat} {xs : List D} (hn : h[n]? = some (some (.lst xs))) (hl : xs.length < sizeLine) (q : R dN (h.set n (some (.lst (xs ++ [y]))))) : VM K Θ rAppend (.own n) [y] h R := fun F ρ H vx vs Q rl a b k => by
  cases a with
  | own a =>
    cases b with
    | cons b c =>
      cases c
      obtain ⟨p, u, e1, e2, e3, us, e4, e5⟩ := rl.own _ _ hn
      rw [a] at e1; cases e1
      subst e4
      refine ⟨_, us, _, rfl, rfl, e3, by rw [← e5.len]; exact hl, ?_⟩
      exact k _ _ _ F ρ _ (Same.refl _) (Pre.refl _) (rl.put (o' := .lst (xs ++ [y])) hn a ⟨_, rfl, e5.append (.cons b .nil)⟩) (.p .non) q
end
end Kb

/-! Defs and classes in data. -/
namespace Kb
open PySem PySem.Spec PyProof.Rows L2
def startD (N : List Str) (ds : List D) : Env' := ds.map some ++ List.replicate (N.length - ds.length) none
section
variable {K : PySem.W.Frag} {Θ : Ctx}
theorem renv_start {F : Hp} {ρ : List Addr} {N : List Str} {ds : List D} {vs : List V} (r : RA K F ρ ds vs) : REnv K F ρ (startD N ds) (L2.start N vs) := by
  have hl := r.len
  refine ⟨by unfold startD L2.start; simp [hl], fun i d h => ?_⟩
  unfold startD at h
  unfold L2.start
  by_cases hi : i < ds.length
  · rw [List.getElem?_append_left (by simpa using hi), List.getElem?_map] at h
    cases e : ds[i]? with
    | none => rw [e] at h; cases h
    | some d0 =>
      rw [e] at h; cases h
      obtain ⟨v, h1, h2⟩ := r.get e
      exact ⟨v, by rw [List.getElem?_append_left (by simp; omega), List.getElem?_map, h1]; rfl, h2⟩
  · rw [List.getElem?_append_right (by simp; omega), List.getElem?_replicate] at h
    split at h <;> cases h
/-! ### what a def leaves behind -/
theorem RA.lowP {F F0 : Hp} {ρ ρ' : List Addr} (p : Pre ρ ρ') : ∀ {ds : List D} {vs v0 : List V}, RA K F0 ρ ds v0 → RA K F ρ' ds vs → RA K F ρ ds vs
  | _, _, _, .nil, .nil => .nil
  | _, _, _, .cons a r, .cons b s => .cons (by
      cases b with
      | p b => exact .p b
      | own b =>
        cases a with
        | own a =>
          have z := p _ _ a
          rw [b] at z; cases z
          exact .own a) (RA.lowP p r s)
theorem RF.lowP {F F0 : Hp} {ρ ρ' : List Addr} (p : Pre ρ ρ') : ∀ {ds : List (Str × D)} {vs v0 : List (Str × V)}, RF K F0 ρ ds v0 → RF K F ρ' ds vs → RF K F ρ ds vs
  | _, _, _, .nil, .nil => .nil
  | _, _, _, .cons a r, .cons b s => .cons (by
      cases b with
      | p b => exact .p b
      | own b =>
        cases a with
        | own a =>
          have z := p _ _ a
          rw [b] at z; cases z
          exact .own a) (RF.lowP p r s)
theorem RK.lowP {κ : Type} {F F0 : Hp} {ρ ρ' : List Addr} (p : Pre ρ ρ') : ∀ {ds : List (κ × D)} {vs v0 : List (κ × V)}, RK K F0 ρ ds v0 → RK K F ρ' ds vs → RK K F ρ ds vs
  | _, _, _, .nil, .nil => .nil
  | _, _, _, .cons a r, .cons b s => .cons (by
      cases b with
      | p b => exact .p b
      | own b =>
        cases a with
        | own a =>
          have z := p _ _ a
          rw [b] at z; cases z
          exact .own a) (RK.lowP p r s)
theorem RO.lowP {F F0 : Hp} {ρ ρ' : List Addr} (p : Pre ρ ρ') {o : OO} {u u0 : HO} (a : RO K F0 ρ o u0) (b : RO K F ρ' o u) : RO K F ρ o u := by
  cases o with
  | lst xs =>
    obtain ⟨v0, _, r0⟩ := a
    obtain ⟨vs, e, r⟩ := b
    exact ⟨vs, e, r0.lowP p r⟩
  | ins C fs =>
    obtain ⟨d0, g0, _, r0⟩ := a
    obtain ⟨dx, gs, e, r⟩ := b
    exact ⟨dx, gs, e, r0.lowP p r⟩
  | dK kvs =>
    obtain ⟨g0, _, r0⟩ := a
    obtain ⟨gs, e, r⟩ := b
    exact ⟨gs, e, r0.lowP p r⟩
  | dT kvs =>
    obtain ⟨g0, _, r0⟩ := a
    obtain ⟨gs, e, r⟩ := b
    exact ⟨gs, e, r0.lowP p r⟩
theorem Rel.back {F F' : Hp} {ρ ρ' : List Addr} {h junk : Hs} {H H' : Hp} (r0 : Rel K Θ F ρ h H) (s : Same F F') (p : Pre ρ ρ') (r : Rel K Θ F' ρ' (h ++ junk) H') : Rel K Θ F' ρ h H' := by
  have lt : ∀ (i : Nat) (o' : OO), h[i]? = some (some o') → i < h.length := fun i o' e => (List.getElem?_eq_some_iff.mp e).1
  have up : ∀ (i : Nat) (o' : OO), h[i]? = some (some o') → (h ++ junk)[i]? = some (some o') := fun i o' e => by rw [List.getElem?_append_left (lt i o' e)]; exact e
  refine ⟨⟨r.same, r0.len, fun i o' hi => ?_, fun i j o1 o2 a hi hj ha hb => r.inj i j o1 o2 a (up i o1 hi) (up j o2 hj) (p _ _ ha) (p _ _ hb), r.tab⟩, r0.wish.mono s (Pre.refl _)⟩
  obtain ⟨a, u, h1, h2, h3, h4⟩ := r.own i o' (up i o' hi)
  obtain ⟨a0, u0, g1, g2, g3, g4⟩ := r0.own i o' hi
  have z := p _ _ g1
  rw [h1] at z; cases z
  exact ⟨a, u, g1, h2, h3, g4.lowP p h4⟩
/-- behind a def that leaves what was owned as it was -/
def Fin (h : Hs) (R : D → Hs → Prop) (d : D) (h' : Hs) : Prop := ∃ junk, h' = h ++ junk ∧
  ((∃ p, d = .p p ∧ R (.p p) h) ∨ (∃ n ps, d = .own n ∧ h.length ≤ n ∧ h'[n]? = some (some (.lst (ps.map D.p))) ∧ R (dL ps) h) ∨
    ∃ n C fs, d = .own n ∧ h.length ≤ n ∧ h'[n]? = some (some (.ins C (fs.map fun q => (q.1, D.p q.2)))) ∧ R (.p (.ins C fs)) h)
theorem fin_p {h : Hs} {R : D → Hs → Prop} {p : P} (junk : Hs) (q : R (.p p) h) : Fin h R (.p p) (h ++ junk) := ⟨junk, rfl, .inl ⟨p, rfl, q⟩⟩
theorem fin_p0 {h : Hs} {R : D → Hs → Prop} {p : P} (q : R (.p p) h) : Fin h R (.p p) h := ⟨[], by simp, .inl ⟨p, rfl, q⟩⟩
theorem fin_run {F F' : Hp} {ρ ρ' : List Addr} {h h' : Hs} {H H' : Hp} {R : D → Hs → Prop} {d : D} {v : V} {Q : VK} (r0 : Rel K Θ F ρ h H) (s : Same F F') (p : Pre ρ ρ') (r : Rel K Θ F' ρ' h' H') (dv : RD K F' ρ' d v) (f : Fin h R d h')
    (k : ∀ (d : D) (F2 : Hp), Same F F2 → Rel K Θ F2 ρ h H' → RD K F2 ρ d v → R d h → Q v H') : Q v H' := by
  obtain ⟨junk, rfl, f⟩ := f
  have st : ∀ (n : Nat), h.length ≤ n → (h ++ junk).set n none = h ++ junk.set (n - h.length) none := fun n hn => List.set_append_right _ _ hn
  rcases f with ⟨x, rfl, q⟩ | ⟨n, ps, rfl, hn, hx, q⟩ | ⟨n, C, fs, rfl, hn, hx, q⟩
  · cases dv with
    | p dv => exact k _ F' s (r0.back s p r) (.p dv) q
  · cases dv with
    | own dv =>
      obtain ⟨a, u, e1, e2, e3, e4, r2⟩ := r.freeze hx
      rw [dv] at e1; cases e1
      rw [st n hn] at r2
      obtain ⟨vs, rfl, e5⟩ := e4
      exact k _ _ (s.trans (same_new e2)) (r0.back (s.trans (same_new e2)) p r2) (.p (.lst (.of upd_same) e5.pure)) q
  · cases dv with
    | own dv =>
      obtain ⟨a, u, e1, e2, e3, e4, r2⟩ := r.freeze hx
      rw [dv] at e1; cases e1
      rw [st n hn] at r2
      obtain ⟨dx, gs, rfl, e5⟩ := e4
      exact k _ _ (s.trans (same_new e2)) (r0.back (s.trans (same_new e2)) p r2) (.p (.ins upd_same e5.pure)) q
theorem vs_fin {t : TS} {R : D → Hs → Prop} {env : Env'} {h : Hs} (q : VS K Θ t { nx := fun _ h' => Fin h R dN h', rt := Fin h R } env h) : VS K Θ t { nx := fun _ h' => R dN h', rt := R } env h := fun F ρ σ H D' rl e k => by
  refine q F ρ σ H ⟨fun σ' H' => D'.nx σ' H', fun v H' => D'.rt v H', D'.bk, D'.ct⟩ rl e ⟨fun env' h' F' ρ' σ' H' s p r e' f => ?_, fun d h' v F' ρ' H' s p r dv f => ?_, fun _ _ _ _ _ _ _ _ _ _ z => z.elim, fun _ _ _ _ _ _ _ _ _ _ z => z.elim⟩
  · refine fin_run (v := .non) (Q := fun _ H' => D'.nx σ' H') rl s p r (.p .non) f fun d F2 s2 r2 d2 q2 => ?_
    have ed : d = dN ∨ d ≠ dN := by cases d with
      | own i => exact .inr (fun z => by cases z)
      | p x => cases x <;> first | exact .inl rfl | exact .inr (fun z => by cases z)
    obtain ⟨junk, _, f⟩ := f
    have q3 : R dN h := by
      rcases f with ⟨x, ex, q⟩ | ⟨n, ps, ex, _⟩ | ⟨n, C, fs, ex, _⟩
      · cases ex; exact q
      · cases ex
      · cases ex
    refine k.nx (List.replicate σ'.length none) h F2 ρ σ' H' s2 (Pre.refl _) r2 ⟨by simp, fun i d z => ?_⟩ q3
    rw [List.getElem?_replicate] at z
    split at z <;> cases z
  · exact fin_run rl s p r dv f fun d F2 s2 r2 d2 q2 => k.rt d h v F2 ρ H' s2 (Pre.refl _) r2 d2 q2
variable {P : Program} {w : World} {mg : Str → Option Value} {base : Heap} {x : Str} {st : Stmt} {N ps : List Str} {k : Nat}
/-- a def whose body keeps a promise in data -/
theorem DefAt.okD {T : List Addr} (A : DefAt K mg x st ps) (S : FnScope N ps (defScope st)) (W : Spc) (len : ∀ ds h R, W ds h R → ds.length = ps.length)
    (hbody : ∀ (f : Addr) (cdv : Value) (A : Around) (outer : List Env) (s : Shared) (H : Hp) (E : XK), Room k (A.deeper (envOfC x (defScope st) s.heap.objs.size f cdv)) →
      ∃ t, PSs (cxOf CX0 P w K mg base N x (defScope st) f cdv A outer s H E).nox (defBody st) t ∧ ∀ ds h R, W ds h R → VS K (Ctx.plain T) t { nx := fun _ h' => R dN h', rt := R } (startD N ds) h) : HasF P w K mg base CX0 (k + 1) x ps (spD K T W) := by
  refine A.ok S (fun vs H Q E h => ?_) fun f cdv A outer s H vs Q E hr h => ?_
  · obtain ⟨ds, h, F, ρ, R, rl, ra, hw, _⟩ := h
    rw [← ra.len]
    exact len ds h R hw
  · obtain ⟨ds, h, F, ρ, R, rl, ra, hw, kq⟩ := h
    obtain ⟨t, ht, q⟩ := hbody f cdv A outer s H E hr
    refine ⟨t, ht, q ds h R hw F ρ _ H _ rl.plain (renv_start ra) ⟨fun env' h' F' ρ' σ' H' s p r e q => kq dN h' .non F' ρ' H' s p r.toBase (.p .non) q, fun d h' v F' ρ' H' s p r dv q => kq d h' v F' ρ' H' s p r.toBase dv q, fun _ _ _ _ _ _ _ _ _ _ z => z.elim, fun _ _ _ _ _ _ _ _ _ _ z => z.elim⟩⟩
end
end Kb

/-! The rules in the forms that are tried one after the other. -/
namespace Kb
open PySem PySem.Spec PyProof.Rows L2
section
variable {K : PySem.W.Frag} {Θ : Ctx} {env : Env'} {h : Hs} {R : D → Hs → Prop} {x y d : D} {i j : Int}
theorem log2_small {n : Nat} (h : n < 2 ^ 200) : n.log2 < 200 := PySem.Flt.log2_lt_of (by decide) h
theorem cmul_small (hi : i.natAbs < 2 ^ 200) (hj : j.natAbs < 2 ^ 200) : CMulX i j := by
  have h1 := log2_small hi
  have h2 := log2_small hj
  unfold CMulX
  omega
theorem cmul_wide (hi : i.natAbs.log2 < 2000000) (hj : j.natAbs < 2 ^ 200) : CMulX i j := by
  have h2 := log2_small hj
  unfold CMulX
  omega
theorem v2_mul (c : CMulX i j) (q : R (dI (i * j)) h) : V2 K Θ (rI CMulX fun i j => V.int (i * j)) (dI i) (dI j) h R := v2_I (g := fun i j => i * j) c q
theorem v2_mod (c : 0 < j) (q : R (dI (i % j)) h) : V2 K Θ (rI (fun _ j => 0 < j) fun i j => V.int (i % j)) (dI i) (dI j) h R := v2_I (g := fun i j => i % j) c q
theorem v2_div (c : 0 < j ∧ j < 1073741824) (q : R (dI (i / j)) h) : V2 K Θ (rI CDiv fun i j => V.int (i / j)) (dI i) (dI j) h R := v2_I (g := fun i j => i / j) c q
theorem v2_pow (c : 0 ≤ j ∧ j ≤ 1000000 ∧ i.natAbs < 2 ^ 64) (q : R (dI (i ^ j.toNat)) h) : V2 K Θ (rI CPow fun i j => V.int (i ^ j.toNat)) (dI i) (dI j) h R := v2_I (g := fun i j => i ^ j.toNat) c q
theorem v2_sub (q : R (dI (i - j)) h) : V2 K Θ (rI0 fun i j => V.int (i - j)) (dI i) (dI j) h R := v2_I0 (g := fun i j => i - j) q
theorem v2_lt (q : R (dB (decide (i < j))) h) : V2 K Θ (rI0 fun i j => V.bl (decide (i < j))) (dI i) (dI j) h R := v2_B0 (g := fun i j => decide (i < j)) q
theorem v2_le (q : R (dB (decide (i ≤ j))) h) : V2 K Θ (rI0 fun i j => V.bl (decide (i ≤ j))) (dI i) (dI j) h R := v2_B0 (g := fun i j => decide (i ≤ j)) q
theorem v2_gt (q : R (dB (decide (j < i))) h) : V2 K Θ (rI0 fun i j => V.bl (decide (j < i))) (dI i) (dI j) h R := v2_B0 (g := fun i j => decide (j < i)) q
theorem v2_ge (q : R (dB (decide (j ≤ i))) h) : V2 K Θ (rI0 fun i j => V.bl (decide (j ≤ i))) (dI i) (dI j) h R := v2_B0 (g := fun i j => decide (j ≤ i)) q
/-- the test's answer -/
theorem bool_ans {c : Bool} {B : Bool → Prop} (q : B c) : ∃ c', dB c = dB c' ∧ B c' := ⟨c, rfl, q⟩
theorem tru_bl {c : Bool} {h : Hs} {B : Bool → Prop} (q : B c) : ∃ c', TruD (dB c) h c' ∧ B c' := ⟨c, rfl, q⟩
theorem ite_dec {c : Prop} [Decidable c] {A B : Prop} (h1 : c → A) (h2 : ¬ c → B) : if decide c = true then A else B := by
  by_cases h : c
  · rw [decide_eq_true h, if_pos rfl]; exact h1 h
  · rw [decide_eq_false h, if_neg Bool.false_ne_true]; exact h2 h
theorem ite_ndec {c : Prop} [Decidable c] {A B : Prop} (h1 : ¬ c → A) (h2 : c → B) : if (!decide c) = true then A else B := by
  by_cases h : c
  · rw [decide_eq_true h]; exact h2 h
  · rw [decide_eq_false h]; exact h1 h
theorem ite_b {c : Bool} {A B : Prop} (h1 : c = true → A) (h2 : c = false → B) : if c = true then A else B := by
  cases c with
  | true => exact h1 rfl
  | false => exact h2 rfl
theorem ite_nb {c : Bool} {A B : Prop} (h1 : c = false → A) (h2 : c = true → B) : if (!c) = true then A else B := by
  cases c with
  | true => exact h2 rfl
  | false => exact h1 rfl
theorem ite_t {A B : Prop} (h : A) : if true = true then A else B := by rw [if_pos rfl]; exact h
theorem ite_f {A B : Prop} (h : B) : if false = true then A else B := by rw [if_neg Bool.false_ne_true]; exact h
theorem tup_i {n : Nat} {ps : List P} {R : D → Hs → Prop} (hl : n ≤ 100000) (e : ps.length = n) {xs : List D} (ex : xs = ps.map D.p) (q : R (dT ps) h) : ∃ ps, xs = ps.map D.p ∧ xs.length ≤ sizeLine ∧ R (dT ps) h :=
  ⟨ps, ex, by rw [ex, List.length_map, e]; exact sz_le hl, q⟩
theorem lst_i {n : Nat} {ps : List P} {R : D → Hs → Prop} (hl : n ≤ 100000) (e : ps.length = n) {xs : List D} (ex : xs = ps.map D.p) (q : R (dL ps) h) : ∃ ps, xs = ps.map D.p ∧ xs.length ≤ sizeLine ∧ R (dL ps) h :=
  ⟨ps, ex, by rw [ex, List.length_map, e]; exact sz_le hl, q⟩
def unP : List D → List P
  | [] => []
  | .p x :: r => x :: unP r
  | _ :: r => unP r
theorem at_nat {α : Type} {xs : List α} {i : Int} {v : α} (n : Nat) (e : i = (n : Int)) (h : xs[n]? = some v) : atI xs i = some v := by
  rw [e]; exact atI_nat h
end
end Kb

/-! sorted(xs, key=f), f a def of the program. -/
namespace Kb
open PySem PySem.Spec PyProof.Rows L2
open PySem.W (dataLe KeyedOut AllAlike Sortable)
def KeyV (K : PySem.W.Frag) (H : Hp) (v : V) (k : PyData) : Prop :=
  (∃ i, v = .int i ∧ k = .int i) ∨ (∃ s, v = .str s ∧ k = .str s) ∨ ∃ (t : Addr) (ns : List Int), v = .ref t ∧ SqT K H t (ns.map V.int) ∧ k = .tuple (ns.map .int)
def sortK (xs : List V) (kz : List PyData) : List V := ((xs.zip kz).mergeSort (dataLe false Prod.snd)).map Prod.fst
def rSortK (K : PySem.W.Frag) (sp : Sp) (f : Addr) : List V → List V → Hp → VK → Prop := fun vs zs H Q => ∃ (a : Addr) (xs : List V) (kz : List PyData) (Wk : Nat → Hp → Prop), vs = [.ref a] ∧ zs = [.ref f] ∧ SqL K H a xs ∧ kz.length = xs.length ∧
  AllAlike kz ∧ Sortable kz ∧ (∀ d ∈ kz, d.depth ≤ 60) ∧ Wk 0 H ∧ (∀ i x k H', xs[i]? = some x → kz[i]? = some k → Wk i H' → sp [x] H' (fun v H2 => KeyV K H2 v k ∧ Wk (i + 1) H2) E0) ∧
  ∀ H', Wk xs.length H' → ∀ p, H' p = none → Q (.ref p) (upd H' p (.lst (sortK xs kz)))
section
variable {X : Cx} {pins : List (Addr × Obj)} {σ : L2.St} {H : Hp} {s : Shared}
theorem dp_ints {K : PySem.W.Frag} {H : Hp} : ∀ ns : List Int, DpAll K H (ns.map V.int) (ns.map PyData.int)
  | [] => .nil
  | n :: ns => .cons (.int n) (dp_ints ns)
theorem keyV_reads {H : Hp} {s : Shared} (I : Inv X pins σ H s) {v : V} {u : Value} {k : PyData} (kv : KeyV X.K H v k) (r : RelV v u) : ∃ as, Reads s.heap u k as := by
  rcases kv with ⟨i, rfl, rfl⟩ | ⟨z, rfl, rfl⟩ | ⟨t, ns, rfl, ht, rfl⟩
  · exact Dp.reads I _ _ u (.int i) r
  · exact Dp.reads I _ _ u (.str z) r
  · exact Dp.reads I _ _ u (.tup ht (dp_ints ns)) r
theorem KeyV.tups {K : PySem.W.Frag} {H H' : Hp} (t : ∀ b xs, H b = some (.tup xs) → H' b = some (.tup xs)) (t2 : ∀ b o u, H b = some (.frz o u) → H' b = some (.frz o u)) {v : V} {k : PyData} (kv : KeyV K H v k) : KeyV K H' v k := by
  rcases kv with h | h | ⟨a, ns, rfl, ht, rfl⟩
  · exact .inl h
  · exact .inr (.inl h)
  · refine .inr (.inr ⟨a, ns, rfl, ?_, rfl⟩)
    rcases ht with (ht | ⟨o, ht⟩) | ht
    · exact .inl (.inl (t _ _ ht))
    · exact .inl (.inr ⟨o, t2 _ _ _ ht⟩)
    · exact .inr ht
theorem each_ix {α β : Type} {R : α → β → Prop} : ∀ {as : List α} {bs : List β}, as.length = bs.length → (∀ (i : Nat) (a : α) (b : β), as[i]? = some a → bs[i]? = some b → R a b) → PySem.W.EachIs R as bs
  | [], [], _, _ => .nil
  | [], _ :: _, h, _ => by simp at h
  | _ :: _, [], h, _ => by simp at h
  | a :: as, b :: bs, h, k => .cons (k 0 a b rfl rfl) (each_ix (by simpa using h) fun i x y hx hy => k (i + 1) x y (by simpa using hx) (by simpa using hy))
theorem each_zip : ∀ {xs : List V} {us : List Value} {kz : List PyData}, Vals xs us → kz.length = xs.length → PySem.W.EachIs (fun (v : Value) (b : V × PyData) => RelV b.1 v) us (xs.zip kz)
  | _, _, [], .nil, _ => .nil
  | _, _, _ :: _, .nil, h => by simp at h
  | _, _, [], .cons _ _, h => by simp at h
  | _, _, k :: kz, .cons r rs, h => .cons r (each_zip rs (by simpa using h))
theorem vals_each : ∀ {us : List Value} {bs : List (V × PyData)}, PySem.W.EachIs (fun (v : Value) (b : V × PyData) => RelV b.1 v) us bs → Vals (bs.map Prod.fst) us
  | _, _, .nil => .nil
  | _, _, .cons r rs => .cons r (vals_each rs)
/-- an untracked thing of ours is changed -/
theorem inv_other {kS : Addr} {h' : Heap} {t' : Nat} (I : Inv X pins σ H s) (h1 : X.s_0.heap.objs.size ≤ kS) (h2 : kS ≠ X.env.locals) (h3 : ∀ x c, X.env.cells.lookup x = some c → c ≠ kS) (h4 : ∀ p ∈ X.pn ++ pins, p.1 ≠ kS) (h5 : H kS = none)
    (k : ∀ b o, b ≠ kS → s.heap.get? b = some o → h'.get? b = some o) : Inv X pins σ H { s with heap := h', toks := t' } := by
  have nc : ∀ b, b ∉ [kS] → b ≠ kS := fun b hb e => hb (by rw [e]; exact List.mem_singleton.mpr rfl)
  have nt : ∀ b u, H b = some u → b ≠ kS := fun b u q hb => by rw [hb, h5] at q; cases q
  refine I.step (g' := s.gens) (t' := t') (d' := s.drawn) (ch := [kS]) (fun b hb => ?_) (fun b ob _ _ hc q _ => k b ob (nc b hc) q) (fun b ob _ _ hc q _ => ⟨ob.slots, k b ob (nc b hc) q⟩) (fun _ _ _ _ n => n)
    (fun b ob hc q => ⟨ob, k b ob (nc b hc) q⟩) (fun _ _ q => q) (fun _ _ _ q => q) (fun b ps q => ⟨#[], by rw [q]; simp⟩) (fun m hm => ?_) (fun b u q => ?_) I.bare
  · rw [List.mem_singleton.mp hb]
    exact ⟨.inr h1, h2, h3, h4⟩
  · obtain ⟨ob, es, ep, ho, r⟩ := hm
    exact ⟨ob, es, ep, k _ ob (Ne.symm h2) ho, r⟩
  · refine (I.hok b u q).stay (fun c v hc y => k c v ?_ y) (fun _ y => y) fun _ _ y => y
    rcases hc with y | y
    · rw [y]; exact nt b u q
    · exact nt c _ y
/-- sorted(xs, key=f) -/
theorem call_sortedK {kf : Nat} {f : Addr} {fd : FuncData} {p : Str} {sp : Sp} (Fn : FnOk X.prog X.w X.K X.mg X.base CX0 kf f fd [p] sp) (hb : Binds X.K fd [p] []) (hr : Room (kf + 2) X.A) : CallRK X (.builtin "sorted") [Str.ofString "key"] (rSortK X.K sp f) := by
  intro pins s σ H vs zs us ws Q I r rz hyp
  obtain ⟨a, xs, kz, Wk, rfl, rfl, hs, hlen, hal, hsk, hdep, w0, turn, fin⟩ := hyp
  obtain rfl := Vals.ref1 r
  obtain rfl := Vals.ref1 rz
  obtain ⟨its, rv, pl, hz⟩ := I.list hs
  have hil : its.length = xs.length := rv.length.symm
  have hZ : its.length ≤ sizeLine := by rw [hil]; exact hz
  have hlk : kz.length = its.length := by rw [hlen, hil]
  -- what lies above the entry
  have above : ∀ c : Addr, s.heap.objs.size ≤ c → X.s_0.heap.objs.size ≤ c ∧ c ≠ X.env.locals ∧ (∀ y d, X.env.cells.lookup y = some d → d ≠ c) ∧ (∀ q ∈ X.pn ++ pins, q.1 ≠ c) ∧ c ∉ frs X.stack := by
    intro c hc
    have hL : X.env.locals < s.heap.objs.size := I.lt
    refine ⟨Nat.le_trans I.sz hc, fun e => ?_, fun y d hd e => ?_, fun q hq e => ?_, fun hm => ?_⟩
    · rw [e] at hc; exact absurd (Nat.lt_of_lt_of_le hL hc) (Nat.lt_irrefl _)
    · obtain ⟨u, o, ho, _⟩ := I.cell y d hd
      rw [e] at ho
      exact absurd (Nat.lt_of_lt_of_le (Heap.lt_size ho) hc) (Nat.lt_irrefl _)
    · have ho := (I.pin q hq).1
      rw [e] at ho
      exact absurd (Nat.lt_of_lt_of_le (Heap.lt_size ho) hc) (Nat.lt_irrefl _)
    · rcases List.mem_cons.mp (I.stkSub c hm) with e | e
      · rw [e] at hc; exact absurd (Nat.lt_of_lt_of_le hL hc) (Nat.lt_irrefl _)
      · exact I.nofs hc e
  refine PySem.W.sorted_of_sort pl.isList hZ (ksk_s1 _ _) (fun _ => ksk_l1 _ _) fun E' => ?_
  have I0 : Inv X pins σ H { s with heap := PySem.W.copyHeap s.heap its } := I.kept (t' := s.toks) fun b o e => PySem.W.copyHeap_old e
  have at0 := PySem.W.copyHeap_at s.heap its
  have hA : s.heap.objs.size ≤ s.heap.objs.size + 1 := Nat.le_succ _
  obtain ⟨z1, z2, z3, z4, z5⟩ := above _ hA
  have nA : H (s.heap.objs.size + 1) = none := I.hok.fresh hA
  generalize hC : PySem.W.copyHeap s.heap its = hc0 at I0 at0 ⊢
  generalize hN : s.heap.objs.size + 1 = aN at at0 z1 z2 z3 z4 z5 nA hA ⊢
  show wpAny _ _ (ksk_tree aN (.ref f) false) _ _ _
  unfold ksk_tree
  refine wpAny_bind (listItems_at at0 rfl ?_)
  refine wpAny_bind (listUpdate_at at0 rfl ?_ (by rw [List.size_toArray]; exact hZ) (Nat.zero_le _))
  have sb := Heap.SameBut.update hc0 aN (Obj.mapSeq fun _ => (#[] : Array Value))
  obtain ⟨e1, at1⟩ : ∃ e1, (hc0.update aN (Obj.mapSeq fun _ => (#[] : Array Value))).get? aN = some (seqObj "list" #[] e1) := ⟨_, get?_update_seq at0 fun _ => #[]⟩
  have I1 : Inv X pins σ H { s with heap := hc0.update aN (Obj.mapSeq fun _ => (#[] : Array Value)) } := inv_other (s := { s with heap := hc0 }) (t' := s.toks) I0 z1 z2 z3 z4 nA fun b o hb e => (sb.2 b hb).trans e
  generalize hc0.update aN (Obj.mapSeq fun _ => (#[] : Array Value)) = hc1 at at1 I1 ⊢
  refine wpAny_bind (seqEpoch_at at1 rfl ?_)
  refine wpAny_bind (wpAny_newTuple ?_ (by show its.length ≤ _; exact hZ))
  refine wpAny_bind (wpAny_newList ?_ (Nat.zero_le _))
  refine wpAny_holding ?_
  have hc0l : s.heap.objs.size ≤ hc1.objs.size := by
    have h1 : aN < hc1.objs.size := Heap.lt_size at1
    omega
  obtain ⟨kS, hkS⟩ : ∃ kS, kS = (hc1.push (seqObj "tuple" its.toArray 0)).objs.size := ⟨_, rfl⟩
  have kSb : s.heap.objs.size ≤ kS := by rw [hkS, size_push']; omega
  have kSa : kS ≠ aN := by
    have h1 := Heap.lt_size at1
    have h2 : kS = hc1.objs.size + 1 := by rw [hkS, size_push']
    intro e
    rw [h2] at e
    have h3 : aN < hc1.objs.size := h1
    omega
  obtain ⟨y1, y2, y3, y4, y5⟩ := above _ kSb
  have nK : H kS = none := I.hok.fresh kSb
  have at2 : ((hc1.push (seqObj "tuple" its.toArray 0)).push (seqObj "list" #[] 0)).get? aN = some (seqObj "list" #[] e1) := Heap.get?_push_of_some _ (Heap.get?_push_of_some _ at1)
  have ak2 : ((hc1.push (seqObj "tuple" its.toArray 0)).push (seqObj "list" #[] 0)).get? kS = some (seqObj "list" #[] 0) := by rw [hkS]; exact Heap.get?_push_size _ rfl
  have I2 : Inv X pins σ H { s with heap := (hc1.push (seqObj "tuple" its.toArray 0)).push (seqObj "list" #[] 0) } := I1.kept (t' := s.toks) fun b o e => Heap.get?_push_of_some _ (Heap.get?_push_of_some _ e)
  have eref : (hc1.push { cls := .type "tuple", data := .seq its.toArray }).objs.size = kS := hkS.symm
  show wpAny _ _ (ksk_rest aN (.ref f) false its.toArray e1 (.ref _)) _ _ _
  first
    | rw [show (Heap.push hc1 (seqObj "tuple" its.toArray 0)).objs.size = kS from hkS.symm]
    | skip
  unfold ksk_rest
  refine wpAny_bind (wpAny_rule ?_)
  first
    | rw [List.forIn_toArray]
    | (rw [← Array.forIn_toList]; simp only [List.toList_toArray])
    | rw [← Array.forIn_toList]
  show wpAny _ _ _ _ _ { s with heap := (hc1.push (seqObj "tuple" its.toArray 0)).push (seqObj "list" #[] 0) }
  have nst : ∀ (H1 : Hp) (s1 : Shared) (c : Addr), c ∉ frs X.stack → H1 c = none → ∀ (H2 : Hp) (s2 : Shared), Un (frs X.stack) [] H1 H2 s1.heap s2.heap → ∀ o, s1.heap.get? c = some o → s2.heap.get? c = some o ∧ H2 c = none := fun H1 s1 c h1 h2 H2 s2 u o e =>
    ⟨u.keep c o e h2 h1 (by simp), u.free c o e h2 (by simp)⟩
  refine wpAny_bind (ksk_fold (fun i s' => ∃ (H' : Hp) (kA : Array Value) (e : Nat), Inv X pins σ H' s' ∧ Wk i H' ∧ s'.heap.get? aN = some (seqObj "list" #[] e1) ∧ s'.heap.get? kS = some (seqObj "list" kA e) ∧ H' aN = none ∧ H' kS = none ∧ s'.os = s.os ∧
      kA.size = i ∧ (∀ (j : Nat) (k : PyData), j < i → kz[j]? = some k → ∃ (u : Value) (v : V), kA[j]? = some u ∧ RelV v u ∧ KeyV X.K H' v k)) its 0 _
    ⟨H, #[], 0, I2, w0, at2, ak2, nA, nK, rfl, rfl, fun j k hj => absurd hj (Nat.not_lt_zero j)⟩ ?step ?done)
  case step =>
    rintro j x s' hx ⟨H', kA, e, I', wj, ga, gk, na, nk, os', hsz, hks⟩
    simp only [Nat.zero_add] at wj hsz hks ⊢
    have hj : j < its.length := (List.getElem?_eq_some_iff.mp hx).1
    obtain ⟨k, hkj⟩ : ∃ k, kz[j]? = some k := ⟨_, List.getElem?_eq_getElem (by omega)⟩
    obtain ⟨xv, hxv⟩ : ∃ xv, xs[j]? = some xv := ⟨_, List.getElem?_eq_getElem (by omega)⟩
    obtain ⟨u0, hu0, rx⟩ := rv.get hxv
    rw [hx] at hu0
    cases hu0
    have hsp := turn j xv k H' hxv hkj wj
    have hr1 : Room kf X.A.in1.in1 := (Room.in1 (k := kf + 1) hr).in1
    refine wpAny_bind (wpAny_attempt (wpAny_call (codeAny_mono (Fn.run X.A.in1.in1 X.stack s' H' ⟨[x], []⟩ [x] [xv] _ E0 hr1 I'.env0.in1.in1 (hb s' [x] I'.kIn rfl) (.cons rx .nil) hsp) fun rr s'' hq => ?_)))
    cases rr with
    | error ee => exact False.elim hq
    | ok fl =>
      cases fl with
      | next => exact False.elim hq
      | brk => exact False.elim hq
      | cont => exact False.elim hq
      | ret u =>
        obtain ⟨v, H2, os2, bare2, un2, hok2, rvu, kv, wj2⟩ := hq
        have I2' : EP X pins σ (fun v' H' => v' = v ∧ H' = H2) u s'' := I'.after ⟨v, H2, os2, bare2, un2, hok2, rvu, rfl, rfl⟩
        obtain ⟨v', H2', I3, _, rfl, rfl⟩ := I2'
        obtain ⟨ga2, na2⟩ := nst H' s' aN z5 na _ s'' un2 _ ga
        obtain ⟨gk2, nk2⟩ := nst H' s' kS y5 nk _ s'' un2 _ gk
        try dsimp only
        obtain ⟨c2, hc2⟩ : ∃ c2, (s''.heap.update kS (Obj.mapSeq (·.push u))).get? kS = some (seqObj "list" (kA.push u) c2) := ⟨_, get?_update_seq gk2 (·.push u)⟩
        have s1 := Heap.SameBut.update s''.heap kS (Obj.mapSeq (·.push u))
        have hz1 : kA.size ≤ sizeLine := by rw [hsz]; exact Nat.le_trans (Nat.le_of_lt hj) hZ
        refine wpAny_bind (listUpdate_at gk2 rfl ?_ hz1 (Nat.le_trans (Nat.le_of_eq (Array.size_push ..)) (Nat.succ_le_succ hz1)))
        refine wpAny_pure ⟨rfl, H2', kA.push u, c2, inv_other (s := s'') (t' := s''.toks) I3 y1 y2 y3 y4 nk2 fun b o hb e => (s1.2 b hb).trans e, wj2, (s1.2 aN (Ne.symm kSa)).trans ga2, hc2, na2, nk2, os2.trans os', by rw [Array.size_push, hsz], fun j1 k1 hj1 hk1 => ?_⟩
        by_cases hjj : j1 < j
        · obtain ⟨u1, v1, g1, g2, g3⟩ := hks j1 k1 hjj hk1
          have hlt : j1 < kA.size := by omega
          refine ⟨u1, v1, ?_, g2, g3.tups un2.tups un2.frzs⟩
          rw [Array.getElem?_push_lt hlt]
          rw [Array.getElem?_eq_getElem hlt] at g1
          exact g1
        · have ej : j1 = j := by omega
          subst ej
          rw [hkj] at hk1
          cases hk1
          refine ⟨u, v', ?_, rvu, kv⟩
          rw [← hsz]
          simp
  case done =>
    rintro s' ⟨H', kA, e, I', wj, ga, gk, na, nk, os', hsz, hks⟩
    rw [Nat.zero_add] at wj hsz hks
    rw [hil] at wj
    try dsimp only
    refine wpAny_bind (listItems_at gk rfl ?_)
    obtain ⟨m, hm, _⟩ := I'.loc
    have hk' : PySem.W.EachIs (fun v k => ∃ as, Reads s'.heap v k as) kA.toList kz := by
      refine each_ix (by rw [Array.length_toList, hsz, hlk]) fun i u k hu hk => ?_
      have hi : i < its.length := by
        have := (List.getElem?_eq_some_iff.mp hk).1
        omega
      obtain ⟨u1, v1, g1, g2, g3⟩ := hks i k hi hk
      rw [Array.getElem?_toList, g1] at hu
      cases hu
      exact keyV_reads I' g3 g2
    have F0 : Fr ({} : Heap) X.env.locals s'.heap m := ⟨hm, fun b o e => by simp [Heap.get?] at e, Nat.zero_le _⟩
    have nw : ∀ b o, b ≠ X.env.locals → s'.heap.get? b = some o → (b, o) ∈ allNews ({} : Heap) s'.heap X.env.locals := fun b o h1 h2 => mem_allNews h1 (by simp [Heap.get?]) h2
    have N0 : News ({} : Heap) X.env.locals s'.heap ((allNews ({} : Heap) s'.heap X.env.locals).filter (fun p => decide (p.1 ≠ kS ∧ p.1 ≠ aN)) ++ [(kS, seqObj "list" kA e), (aN, seqObj "list" #[] e1)]) := fun p hp => by
      rcases List.mem_append.mp hp with hp | hp
      · exact news_all p (List.mem_filter.mp hp).1
      · rcases List.mem_cons.mp hp with rfl | hp
        · exact ⟨gk, y2, by simp [Heap.get?]⟩
        · rw [List.mem_singleton.mp hp]
          exact ⟨ga, z2, by simp [Heap.get?]⟩
    have hu : ∀ d, d ∈ kz → X.A.in1.in1.units + d.depth < cLine := fun d hd => by
      have h1 := hdep d hd
      have h2 := (Room.in1 (k := kf) (Room.in1 (k := kf + 1) hr)).units
      omega
    refine PySem.W.key_end (κ := PySem.W.dataKind s'.heap kz) F0 N0 kSa (fun p hp => (of_decide_eq_true (List.mem_filter.mp hp).2).1) (fun p hp => (of_decide_eq_true (List.mem_filter.mp hp).2).2)
      (PySem.W.SortsAt.data (s := s') hk' hal hsk hu) (by rw [hsz]) hZ fun h3 tk3 c F3 N3 => ⟨rfl, ?_⟩
    have e2 : (xs.zip kz).map Prod.snd = kz := List.map_snd_zip (by omega)
    have eo : PySem.W.EachIs (fun (v : Value) (b : V × PyData) => RelV b.1 v) (PySem.W.sortVals (PySem.W.dataKind s'.heap kz) false kA.toList its) ((xs.zip kz).mergeSort (PySem.W.dataLe false Prod.snd)) :=
      PySem.W.keyedOut_each (rev := false) Prod.snd (bs := xs.zip kz) (vs := its) ⟨s'.heap, kA.toList, by rw [e2]; exact hal, by rw [e2], by rw [e2]; exact hk'⟩ (each_zip rv hlen)
    have vo : Vals (sortK xs kz) (PySem.W.sortVals (PySem.W.dataKind s'.heap kz) false kA.toList its) := vals_each eo
    generalize PySem.W.sortVals (PySem.W.dataKind s'.heap kz) false kA.toList its = out at vo F3 N3 ⊢
    have ns : ∀ b o, b ≠ X.env.locals → b ≠ kS → b ≠ aN → s'.heap.get? b = some o → h3.get? b = some o := fun b o h1 h2 h3 e =>
      (N3 (b, o) (List.mem_cons_of_mem _ (List.mem_filter.mpr ⟨nw b o h1 e, decide_eq_true ⟨h2, h3⟩⟩))).1
    have nc : ∀ b, b ∉ [kS, aN] → b ≠ kS ∧ b ≠ aN := fun b hb => by simpa using hb
    have nt : ∀ b u, H' b = some u → b ≠ kS ∧ b ≠ aN ∧ b ≠ X.env.locals := fun b u q => ⟨fun z => by { rw [z, nk] at q; cases q }, fun z => by { rw [z, na] at q; cases q }, fun z => by { rw [z, I'.free] at q; cases q }⟩
    have hmem : (sortK xs kz).length ≤ sizeLine := by
      unfold sortK
      rw [List.length_map, List.length_mergeSort, List.length_zip]
      omega
    refine ⟨.ref aN, upd H' aN (.lst (sortK xs kz)), ?_, rfl, fin H' wj aN na⟩
    refine I'.step (g' := s'.gens) (t' := tk3) (d' := s'.drawn) (ch := [kS, aN]) (fun b hb => ?_) (fun b ob h1 _ hc q _ => ns b ob h1 (nc b hc).1 (nc b hc).2 q) (fun b ob h1 _ hc q _ => ⟨ob.slots, ns b ob h1 (nc b hc).1 (nc b hc).2 q⟩)
      (fun b ob hc _ n => by rw [upd_ne (nc b hc).2]; exact n) (fun b ob hc q => ?_) (fun b ys q => by rw [upd_ne (nt b _ q).2.1]; exact q) (fun b ob ys q => by rw [upd_ne (nt b _ q).2.1]; exact q) (fun b ps q => ⟨#[], by rw [upd_ne (nt b _ q).2.1, q]; simp⟩)
      (fun m2 hm2 => ?_) (fun b u q => ?_) I'.bare
    · rcases List.mem_cons.mp hb with rfl | hb
      · exact ⟨.inr y1, y2, y3, y4⟩
      · rw [List.mem_singleton.mp hb]
        exact ⟨.inr z1, z2, z3, z4⟩
    · by_cases hL : b = X.env.locals
      · obtain ⟨oL, _, _, ho, _⟩ := F3.ns
        rw [hL]
        exact ⟨oL, ho⟩
      · exact ⟨ob, ns b ob hL (nc b hc).1 (nc b hc).2 q⟩
    · rw [hm2.eq_nsMap, ← hm.eq_nsMap]
      exact F3.ns
    · by_cases hb : b = aN
      · subst hb
        rw [upd_same] at q
        cases q
        exact ⟨hmem, out, c, vo, (N3 _ List.mem_cons_self).1⟩
      · rw [upd_ne hb] at q
        refine (I'.hok b u q).stay (fun c v hc y => ?_) (fun c y => by rw [upd_ne (nt c _ y).2.1]; exact y) fun c ys y => by rw [upd_ne (nt c _ y).2.1]; exact y
        have hcx : c ≠ kS ∧ c ≠ aN ∧ c ≠ X.env.locals := by
          rcases hc with y' | y'
          · rw [y']; exact nt b u q
          · exact nt c _ y'
        exact ns c v hcx.2.2 hcx.1 hcx.2.1 y
end
/-! ### in data -/
def sortP (ps : List P) (kz : List PyData) : List P := ((ps.zip kz).mergeSort (dataLe false Prod.snd)).map Prod.fst
def KeyP (d : D) (k : PyData) : Prop := (∃ i, d = dI i ∧ k = .int i) ∨ (∃ s, d = dS s ∧ k = .str s) ∨ ∃ ns : List Int, d = dT (ns.map P.int) ∧ k = .tuple (ns.map .int)
section
variable {K : PySem.W.Frag} {Θ : Ctx} {env : Env'} {h : Hs} {R : D → Hs → Prop}
theorem KeyP.v {F H : Hp} {ρ : List Addr} {d : D} {v : V} {k : PyData} (kp : KeyP d k) (s : Same F H) (r : RD K F ρ d v) : KeyV K H v k := by
  rcases kp with ⟨i, rfl, rfl⟩ | ⟨z, rfl, rfl⟩ | ⟨ns, rfl, rfl⟩
  · exact .inl ⟨i, r.int, rfl⟩
  · exact .inr (.inl ⟨z, r.str, rfl⟩)
  · cases r with
    | p r =>
      cases r with
      | tup a b => exact .inr (.inr ⟨_, ns, rfl, by rw [← b.ints]; exact sqT_mono s a, rfl⟩)
theorem zip3 : ∀ {ps : List P} {vs : List V} {kz : List PyData}, ps.length = vs.length → kz.length = vs.length →
    (ps.zip (vs.zip kz)).map (fun t => (t.1, t.2.2)) = ps.zip kz ∧ (ps.zip (vs.zip kz)).map (fun t => (t.2.1, t.2.2)) = vs.zip kz
  | [], [], [], _, _ => ⟨rfl, rfl⟩
  | [], _ :: _, _, h, _ => by simp at h
  | _ :: _, [], _, h, _ => by simp at h
  | [], [], _ :: _, _, h => by simp at h
  | _ :: _, _ :: _, [], _, h => by simp at h
  | p :: ps, v :: vs, k :: kz, h1, h2 => by
    obtain ⟨a, b⟩ := zip3 (ps := ps) (vs := vs) (kz := kz) (by simpa using h1) (by simpa using h2)
    exact ⟨congrArg ((p, k) :: ·) a, congrArg ((v, k) :: ·) b⟩
theorem zip3_mem {F : Hp} : ∀ {ps : List P} {vs : List V} {kz : List PyData}, RPs K F ps vs → ∀ t ∈ ps.zip (vs.zip kz), RP K F t.1 t.2.1
  | _, _, _, .nil, t, h => by simp at h
  | _, _, [], .cons _ _, t, h => by simp at h
  | _, _, k :: kz, .cons r rs, t, h => by
    rcases List.mem_cons.mp h with rfl | h
    · exact r
    · exact zip3_mem rs t h
theorem rps_list {F : Hp} : ∀ (L : List (P × V × PyData)), (∀ t ∈ L, RP K F t.1 t.2.1) → RPs K F (L.map fun t => t.1) (L.map fun t => t.2.1)
  | [], _ => .nil
  | t :: L, h => .cons (h t List.mem_cons_self) (rps_list L fun u hu => h u (List.mem_cons_of_mem _ hu))
theorem rps_sort {F : Hp} {ps : List P} {vs : List V} {kz : List PyData} (r : RPs K F ps vs) (hl : kz.length = vs.length) : RPs K F (sortP ps kz) (sortK vs kz) := by
  obtain ⟨e1, e2⟩ := zip3 (r.len) hl
  have a1 : ((ps.zip (vs.zip kz)).mergeSort (dataLe false fun t => t.2.2)).map (fun t => (t.1, t.2.2)) = (ps.zip kz).mergeSort (dataLe false Prod.snd) := by
    conv => rhs; rw [← e1]
    exact List.map_mergeSort (f := fun t : P × V × PyData => (t.1, t.2.2)) fun a _ b _ => rfl
  have a2 : ((ps.zip (vs.zip kz)).mergeSort (dataLe false fun t => t.2.2)).map (fun t => (t.2.1, t.2.2)) = (vs.zip kz).mergeSort (dataLe false Prod.snd) := by
    conv => rhs; rw [← e2]
    exact List.map_mergeSort (f := fun t : P × V × PyData => (t.2.1, t.2.2)) fun a _ b _ => rfl
  unfold sortP sortK
  rw [← a1, ← a2, List.map_map, List.map_map]
  exact rps_list _ fun t ht => zip3_mem r t ((List.mergeSort_perm _ _).mem_iff.mp ht)
/-- what sorted(xs, key=f) wants -/
def SrtOk (W : Spc) (ps : List P) (kz : List PyData) (h : Hs) : Prop := kz.length = ps.length ∧ AllAlike kz ∧ Sortable kz ∧ (∀ d ∈ kz, d.depth ≤ 60) ∧
  ∀ (i : Nat) (p : P) (k : PyData), ps[i]? = some p → kz[i]? = some k → W [.p p] h fun d h' => h' = h ∧ KeyP d k
theorem srt_go {W : Spc} {f : Addr} {F H : Hp} {ρ : List Addr} {vs zs : List V} {ps : List P} {kz : List PyData} {Q : VK} (rl : Rel K Θ F ρ h H) (a : RA K F ρ [dL ps] vs) (z : RA K F ρ [.p (.cls f)] zs) (ok : SrtOk W ps kz h)
    (k : ∀ (us : List V) (F' : Hp) (H' : Hp) (p : Addr), Same F F' → Rel K Θ F' ρ h H' → H' p = none → RPs K F' (sortP ps kz) us → Q (.ref p) (upd H' p (.lst us))) : rSortK K (spD K Θ.tabs W) f vs zs H Q := by
  obtain ⟨hl, hal, hsk, hd, turn⟩ := ok
  cases a with
  | cons a b =>
    cases b
    cases z with
    | cons z b =>
      cases b
      cases z with
      | p z =>
        cases z
        cases a with
        | p a =>
          cases a with
          | @lst a _ vs ha rp =>
            refine ⟨a, vs, kz, fun _ H' => ∃ F', Same F F' ∧ Rel K Θ F' ρ h H', rfl, rfl, rl.same.seq ha, by rw [hl, rp.len], hal, hsk, hd, ⟨F, Same.refl _, rl⟩, ?_, ?_⟩
            · rintro i x kk H' hx hk ⟨F', s, r⟩
              obtain ⟨p, hp⟩ : ∃ p, ps[i]? = some p := ⟨_, List.getElem?_eq_getElem (by have := (List.getElem?_eq_some_iff.mp hk).1; omega)⟩
              obtain ⟨x', hx', rx⟩ := rp.get hp
              rw [hx] at hx'
              cases hx'
              refine ⟨[.p p], h, F', ρ, _, r.toBase, .cons (.p (rx.mono s)) .nil, turn i p kk hp hk, fun d h' v F3 ρ3 H3 s3 p3 r3 dv q => ?_⟩
              obtain ⟨rfl, kp⟩ := q
              refine ⟨kp.v r3.same dv, F3, s.trans s3, r.back s3 p3 (junk := []) ?_⟩
              rw [List.append_nil]
              exact ⟨r3, r.wish.mono s3 p3⟩
            · rintro H' ⟨F', s, r⟩ p hp
              exact k _ F' H' p s r hp ((rps_sort rp (by rw [hl, rp.len])).mono s)
/-- sorted(xs, key=f): a list that stays -/
theorem ve_sortedK {W : Spc} {f : Addr} {t tk : TA} (q : VA K Θ t env h fun xs h1 => VA K Θ tk env h1 fun zs h2 => ∃ ps kz, xs = [dL ps] ∧ zs = [.p (.cls f)] ∧ SrtOk W ps kz h2 ∧ R (dL (sortP ps kz)) h2) : VE K Θ (tCKw (rSortK K (spD K Θ.tabs W) f) t tk) env h R := fun F ρ σ H Q rl e k =>
  q F ρ σ H _ rl e fun xs h1 vs F1 ρ1 H1 s1 p1 r1 dx q1 => q1 F1 ρ1 σ H1 _ r1 (e.mono s1 p1) fun zs h2 ws F2 ρ2 H2 s2 p2 r2 dz q2 => by
    obtain ⟨ps, kz, rfl, rfl, ok, q2⟩ := q2
    refine srt_go r2 (dx.mono s2 p2) dz ok fun us F' H' p s r hp rp => ?_
    have sn := fun o => same_new (o := o) (r.free hp)
    exact k _ h2 _ _ ρ2 _ ((s1.trans (s2.trans s)).trans (sn _)) (p1.trans p2) (r.frz hp) (.p (.lst (.of upd_same) (rp.mono (sn _)))) q2
/-- sorted(xs, key=f): an own list -/
theorem ve_sortedKO {W : Spc} {f : Addr} {t tk : TA} (q : VA K Θ t env h fun xs h1 => VA K Θ tk env h1 fun zs h2 => ∃ ps kz, xs = [dL ps] ∧ zs = [.p (.cls f)] ∧ SrtOk W ps kz h2 ∧ R (.own h2.length) (h2 ++ [some (.lst ((sortP ps kz).map D.p))])) : VE K Θ (tCKw (rSortK K (spD K Θ.tabs W) f) t tk) env h R := fun F ρ σ H Q rl e k =>
  q F ρ σ H _ rl e fun xs h1 vs F1 ρ1 H1 s1 p1 r1 dx q1 => q1 F1 ρ1 σ H1 _ r1 (e.mono s1 p1) fun zs h2 ws F2 ρ2 H2 s2 p2 r2 dz q2 => by
    obtain ⟨ps, kz, rfl, rfl, ok, q2⟩ := q2
    refine srt_go r2 (dx.mono s2 p2) dz ok fun us F' H' p s r hp rp => ?_
    exact k _ _ _ F' (ρ2 ++ [p]) _ (s1.trans (s2.trans s)) ((p1.trans p2).trans (Pre.push _ _)) (r.push (o := .lst ((sortP ps kz).map D.p)) hp ⟨us, rfl, rp.data⟩) (.own (by rw [← r.len]; simp)) q2
theorem sortP_perm {ps : List P} {kz : List PyData} (h : kz.length = ps.length) : (sortP ps kz).Perm ps := by
  unfold sortP
  refine ((List.mergeSort_perm _ _).map _).trans ?_
  rw [List.map_fst_zip (by omega)]
end
end Kb

/-! Classes, isinstance, defs that call themselves. -/
namespace Kb
open PySem PySem.Spec PyProof.Rows L2
/-- __init__ of a class, as the top has it -/
structure InitAt (K : PySem.W.Frag) (C : Addr) (qual : Str) (st : Stmt) (ps : List Str) : Prop where
  ex : ∃ f fd, Fun K "__init__" qual st f fd ∧ Mk K C f ∧ Binds K fd ps []
structure MethAt (K : PySem.W.Frag) (C : Addr) (m qual : Str) (st : Stmt) (ps : List Str) : Prop where
  ex : ∃ f fd, Fun K m qual st f fd ∧ Meth K C m f ∧ Binds K fd ps []
structure HasMk (P : Program) (w : World) (K : PySem.W.Frag) (mg : Str → Option Value) (base : Heap) (CX : CXT) (k : Nat) (x : Str) (C : Addr) (ps : List Str) (sp : Sp) : Prop where
  ex : ∃ f fd, Mk K C f ∧ FnOk P w K mg base CX k f fd ps sp ∧ Binds K fd ps []
  at_ : mg x = some (.ref C)
structure HasM (P : Program) (w : World) (K : PySem.W.Frag) (mg : Str → Option Value) (base : Heap) (CX : CXT) (k : Nat) (C : Addr) (m : Str) (ps : List Str) (sp : Sp) : Prop where
  cl : Cls K C
  ex : ∃ f fd, Meth K C m f ∧ FnOk P w K mg base CX k f fd ps sp ∧ Binds K fd ps []
section
variable {X : Cx} {CX : CXT} {k : Nat} {x m : Str} {C : Addr} {ps : List Str} {sp : Sp} {E : XK} {p pos apos : Pos} {e o : Expr} {es : List Expr} {t : TA} {ta : TE}
theorem HasMk.make (h : HasMk X.prog X.w X.K X.mg X.base CX k x C ps sp) (hr : Room (k + 1) X.A) (hg : Gl X x) (hx : Passes CX X E)
    (ha : PA X (e :: es) t) (hdb : (x == ("__debug__" : Str)) = false := by decide) (he : starEach (e :: es) X.env = (false, eval e X.env) :: starEach es X.env := by rfl) (hpl : (backTo pos (starEach es X.env)).any (·.1) = false := by rfl) :
    PE X (.Call (.Name x p) (e :: es) [] pos) (tMake C sp [] E t) := by
  obtain ⟨f, fd, M, F, hb⟩ := h.ex
  exact pe_make M F hr hg h.at_ hb .nil hx ha hdb he hpl
theorem HasM.meth {pl : Sem Bool} (h : HasM X.prog X.w X.K X.mg X.base CX k C m ps sp) (hr : Room k X.A) (hx : Passes CX X E) (he : PE X o ta) (ha : PA X (e :: es) t)
    (hst : starEach (e :: es) X.env = (false, eval e X.env) :: starEach es X.env := by rfl) (hpl : (backTo pos (starEach es X.env)).any (·.1) = false := by rfl)
    (ht : eval (.Call (.Attribute o m apos) (e :: es) [] pos) X.env = (do
      let ov ← eval o X.env
      standAt apos.atName
      let (f, first) ← holding [ov] (getMethod ov m pl)
      callWith pos f first (backTo pos (starEach (e :: es) X.env)) (backToKw pos (keywordEach [] X.env))) := by rfl) :
    PE X (.Call (.Attribute o m apos) (e :: es) [] pos) (tMeth C m sp [] E ta t) := by
  obtain ⟨f, fd, M, F, hb⟩ := h.ex
  exact pe_meth he h.cl M F hr hb .nil hx ha hst hpl ht
theorem HasM.meth0 {pl : Sem Bool} (h : HasM X.prog X.w X.K X.mg X.base CX k C m ps sp) (hr : Room k X.A) (hx : Passes CX X E) (he : PE X o ta)
    (ht : eval (.Call (.Attribute o m apos) [] [] pos) X.env = (do
      let ov ← eval o X.env
      standAt apos.atName
      let (f, first) ← holding [ov] (getMethod ov m pl)
      callWith pos f first (backTo pos (starEach [] X.env)) (backToKw pos (keywordEach [] X.env))) := by rfl) :
    PE X (.Call (.Attribute o m apos) [] [] pos) (tMeth C m sp [] E ta tNil) := by
  obtain ⟨f, fd, M, F, hb⟩ := h.ex
  exact pe_meth0 he h.cl M F hr hb .nil hx ht
end
section
variable {Pg : Program} {w : World} {K : PySem.W.Frag} {T : List Addr} {mg : Str → Option Value} {base : Heap} {x m qual : Str} {st : Stmt} {N ps : List Str} {k : Nat} {C : Addr}
theorem fnD {x qual : Str} {f : Addr} {fd : FuncData} (F : Fun K x qual st f fd) (S : FnScope N ps (defScope st)) (W : Spc) (len : ∀ ds h R, W ds h R → ds.length = ps.length)
    (hbody : ∀ (cdv : Value) (A : Around) (outer : List Env) (s : Shared) (H : Hp) (E : XK), Room k (A.deeper (envOfC qual (defScope st) s.heap.objs.size f cdv)) →
      ∃ t, PSs (cxOf CX0 Pg w K mg base N qual (defScope st) f cdv A outer s H E).nox (defBody st) t ∧ ∀ ds h R, W ds h R → VS K (Ctx.plain T) t { nx := fun _ h' => R dN h', rt := R } (startD N ds) h) : FnOk Pg w K mg base CX0 (k + 1) f fd ps (spD K T W) := by
  refine F.ok S (fun vs H Q E h => ?_) fun cdv A outer s H vs Q E hr h => ?_
  · obtain ⟨ds, h, F, ρ, R, rl, ra, hw, _⟩ := h
    rw [← ra.len]
    exact len ds h R hw
  · obtain ⟨ds, h, F, ρ, R, rl, ra, hw, kq⟩ := h
    obtain ⟨t, ht, q⟩ := hbody cdv A outer s H E hr
    exact ⟨t, ht, q ds h R hw F ρ _ H _ rl.plain (renv_start ra) ⟨fun env' h' F' ρ' σ' H' s p r e q => kq dN h' .non F' ρ' H' s p r.toBase (.p .non) q, fun d h' v F' ρ' H' s p r dv q => kq d h' v F' ρ' H' s p r.toBase dv q, fun _ _ _ _ _ _ _ _ _ _ z => z.elim, fun _ _ _ _ _ _ _ _ _ _ z => z.elim⟩⟩
theorem InitAt.okD (A : InitAt K C qual st ps) (hm : mg x = some (.ref C)) (S : FnScope N ps (defScope st)) (W : Spc) (len : ∀ ds h R, W ds h R → ds.length = ps.length)
    (hbody : ∀ (f : Addr) (cdv : Value) (A : Around) (outer : List Env) (s : Shared) (H : Hp) (E : XK), Room k (A.deeper (envOfC qual (defScope st) s.heap.objs.size f cdv)) →
      ∃ t, PSs (cxOf CX0 Pg w K mg base N qual (defScope st) f cdv A outer s H E).nox (defBody st) t ∧ ∀ ds h R, W ds h R → VS K (Ctx.plain T) t { nx := fun _ h' => R dN h', rt := R } (startD N ds) h) : HasMk Pg w K mg base CX0 (k + 1) x C ps (spD K T W) := by
  obtain ⟨f, fd, F, M, hb⟩ := A.ex
  exact ⟨⟨f, fd, M, fnD F S W len (hbody f), hb⟩, hm⟩
theorem MethAt.okD (A : MethAt K C m qual st ps) (cl : Cls K C) (S : FnScope N ps (defScope st)) (W : Spc) (len : ∀ ds h R, W ds h R → ds.length = ps.length)
    (hbody : ∀ (f : Addr) (cdv : Value) (A : Around) (outer : List Env) (s : Shared) (H : Hp) (E : XK), Room k (A.deeper (envOfC qual (defScope st) s.heap.objs.size f cdv)) →
      ∃ t, PSs (cxOf CX0 Pg w K mg base N qual (defScope st) f cdv A outer s H E).nox (defBody st) t ∧ ∀ ds h R, W ds h R → VS K (Ctx.plain T) t { nx := fun _ h' => R dN h', rt := R } (startD N ds) h) : HasM Pg w K mg base CX0 (k + 1) C m ps (spD K T W) := by
  obtain ⟨f, fd, F, M, hb⟩ := A.ex
  exact ⟨cl, f, fd, M, fnD F S W len (hbody f), hb⟩
/-- a def that nobody may call yet -/
theorem HasF.never (A : DefAt K mg x st ps) (S : FnScope N ps (defScope st)) {W : Spc} (hw : ∀ ds h R, ¬ W ds h R) : HasF Pg w K mg base CX0 (k + 1) x ps (spD K T W) :=
  A.okD S W (fun ds h R q => (hw _ _ _ q).elim) fun f cdv A outer s H E hr => ⟨_, pss_never, fun ds h R q => (hw _ _ _ q).elim⟩
end
section
variable {K : PySem.W.Frag} {Θ : Ctx} {env : Env'} {h : Hs} {R : D → Hs → Prop} {ta : TE} {t : TA} {C : Addr}
/-- C(..), the instance stays as it is from then on -/
theorem ve_makeF {W : Spc} {E : XK} (q : VA K Θ t env h fun xs h1 => W (.own h1.length :: xs) (h1 ++ [some (.ins C [])]) fun d h2 => d = dN ∧ ∃ fs : List (Str × P), h2 = h1 ++ [some (.ins C (fs.map fun q => (q.1, D.p q.2)))] ∧ R (.p (.ins C fs)) h1) :
    VE K Θ (tMake C (spD K Θ.tabs W) [] E t) env h R := fun F ρ σ H Q rl e k =>
  q F ρ σ H _ rl e fun xs h1 vs F1 ρ1 H1 s1 p1 r1 dxs q1 => by
    intro x dx hx hdx hne
    have hx' : (upd H1 dx (.own x)) x = none := by rw [upd_ne (Ne.symm hne)]; exact hx
    have sn : Same F1 (upd F1 dx (.own x)) := same_new (r1.free hdx)
    have r2 : Rel K Θ (upd F1 dx (.own x)) ρ1 h1 (upd H1 dx (.own x)) := r1.frz hdx
    have r3 := r2.push (o := .ins C []) (u := .ins C dx []) hx' ⟨dx, [], rfl, .nil⟩
    refine ⟨.own h1.length :: xs, _, _, ρ1 ++ [x], _, r3.toBase, .cons (.own (by rw [← r1.len]; simp)) (by rw [List.append_nil]; exact dxs.mono sn (Pre.push _ _)), q1, fun d h' v F' ρ' H' s p r dv q2 => ?_⟩
    obtain ⟨rfl, fs, rfl, q2⟩ := q2
    refine ⟨dv.non, ?_⟩
    obtain ⟨a, u, e1, e2, e3, e4, r4⟩ := (⟨r, r3.wish.mono s p⟩ : Rel K Θ _ _ _ _).freeze (i := h1.length) (o := .ins C (fs.map fun q => (q.1, D.p q.2))) (by simp)
    have ea : ρ'[h1.length]? = some x := p _ _ (by rw [← r1.len]; simp)
    rw [ea] at e1
    cases e1
    obtain ⟨dx', gs, rfl, e5⟩ := e4
    have pp : Pre ρ1 ρ' := (Pre.push ρ1 x).trans p
    have r5 : Rel K Θ (upd F' x (.ins C dx' gs)) ρ' (h1 ++ [none]) H' := by
      have z := r4
      rw [List.set_append_right _ _ (Nat.le_refl _), Nat.sub_self] at z
      exact z
    exact k _ h1 _ _ ρ1 H' ((s1.trans (sn.trans s)).trans (same_new e2)) p1 (r1.back (sn.trans (s.trans (same_new e2))) pp r5) (.p (.ins upd_same e5.pure)) q2
def InsD (C : Addr) (m : Str) (x : D) (h : Hs) : Prop := match x with
  | .p (.ins C' fs) => C' = C ∧ (fs.map fun q => (q.1, D.p q.2)).lookup m = none
  | .own i => ∃ fs, h[i]? = some (some (.ins C fs)) ∧ fs.lookup m = none
  | _ => False
theorem ve_meth {m : Str} {W : Spc} {E : XK} (q : VE K Θ ta env h fun x h1 => InsD C m x h1 ∧ VA K Θ t env h1 fun xs h2 => W (x :: xs) h2 R) : VE K Θ (tMeth C m (spD K Θ.tabs W) [] E ta t) env h R := fun F ρ σ H Q rl e k =>
  q F ρ σ H _ rl e fun x h1 vx F1 ρ1 H1 s1 p1 r1 dx q1 => by
    obtain ⟨hi, q1⟩ := q1
    have go : ∀ a dd gs, vx = .ref a → H1 a = some (.ins C dd gs) → gs.lookup m = none → ∃ a dx fs, vx = .ref a ∧ H1 a = some (.ins C dx fs) ∧ fs.lookup m = none ∧ t σ H1 fun vs H2 => spD K Θ.tabs W (vx :: (vs ++ [])) H2 Q E := fun a dd gs g1 g2 g3 =>
      ⟨a, dd, gs, g1, g2, g3, q1 F1 ρ1 σ H1 _ r1 (e.mono s1 p1) fun xs h2 vs F2 ρ2 H2 s2 p2 r2 dxs q2 => ⟨x :: xs, h2, F2, ρ2, R, r2.toBase, .cons (dx.mono s2 p2) (by rw [List.append_nil]; exact dxs), q2, fun d h' v F' ρ' H' s3 p3 r3 dv q3 => k d h' v F' ρ' H' (s1.trans (s2.trans s3)) (p1.trans (p2.trans p3)) ⟨r3, r2.wish.mono s3 p3⟩ dv q3⟩⟩
    cases id dx with
    | p dx =>
      cases dx with
      | ins a b =>
        obtain ⟨rfl, l⟩ := hi
        exact go _ _ _ rfl (r1.same _ _ a) ((b.data (ρ := ρ1)).lookN l)
      | _ => exact hi.elim
    | own ho =>
      obtain ⟨fs, hx, l⟩ := hi
      obtain ⟨a, u, e1, e2, e3, dd, gs, e4, e5⟩ := r1.own _ _ hx
      rw [ho] at e1; cases e1
      subst e4
      exact go _ _ _ rfl e3 (e5.lookN l)
/-! ### isinstance -/
/-- the name of the type of what is written data -/
def tyN : P → Option String
  | .non => some "NoneType"
  | .bl _ => some "bool"
  | .int _ => some "int"
  | .str _ => some "str"
  | .tup _ => some "tuple"
  | .lst _ => some "list"
  | _ => none
def tyD (d : D) (h : Hs) (T : String) : Prop := match d with
  | .p p => tyN p = some T
  | .own i => T = "list" ∧ ∃ xs, h[i]? = some (some (.lst xs))
def isA (a b : String) : Bool := a == b || (a == "bool" && b == "int")
theorem tyD.v {F : Hp} {ρ : List Addr} {H : Hp} {d : D} {v : V} {T : String} (r : Rel K Θ F ρ h H) (q : RD K F ρ d v) (hT : tyD d h T) : TyX K H v (.type T) := by
  cases q with
  | p q =>
    cases q with
    | non => cases hT; exact .base .non
    | bl b => cases hT; exact .base (.bl b)
    | int b => cases hT; exact .base (.int b)
    | str b => cases hT; exact .base (.str b)
    | tup a b =>
      cases hT
      rcases sqT_mono r.same a with (a | ⟨o, a⟩) | ⟨o, its, n, a, c, _⟩
      · exact .base (.tup a)
      · exact .fTuple a
      · exact .kTuple a c
    | lst a b =>
      cases hT
      rcases r.same.seq a with (a | ⟨o, a⟩) | ⟨o, its, n, a, c, _⟩
      · exact .base (.lst a)
      · exact .base (.frz a)
      · exact .kList a c
    | ins a b => cases hT
    | ty n => cases hT
    | cls n => cases hT
  | own e =>
    obtain ⟨rfl, xs, hx⟩ := hT
    obtain ⟨a, u, e1, e2, e3, vs, e4, _⟩ := r.own _ _ hx
    rw [e] at e1; cases e1
    subst e4
    exact .base (.lst e3)
theorem isA_kit {a b : String} (ha : a ∈ ["NoneType", "bool", "int", "str", "tuple", "list"]) (hb : b ∈ ["bool", "int", "str", "tuple", "list", "dict"]) : PySem.W.kitOne K (.type a) (.type b) = some (isA a b) := by
  refine kit_ty ?_
  have all : ∀ a ∈ ["NoneType", "bool", "int", "str", "tuple", "list"], ∀ b ∈ ["bool", "int", "str", "tuple", "list", "dict"], kitB a b = some (isA a b) := by decide +kernel
  exact all a ha b hb
theorem tyD_mem {d : D} {T : String} (hT : tyD d h T) : T ∈ ["NoneType", "bool", "int", "str", "tuple", "list"] := by
  cases d with
  | p p =>
    cases p <;> first | (cases hT; decide) | cases hT
  | own i => rw [hT.1]; decide
/-- isinstance(x, T) -/
theorem vc_isi {x : D} {T n : String} (hT : tyD x h T) (hn : n ∈ ["bool", "int", "str", "tuple", "list", "dict"]) (q : R (dB (isA T n)) h) : VC K Θ (rIsiU K) [x, .p (.ty n)] h R := fun F ρ H vs Q rl a k => by
  cases a with
  | cons a b =>
    cases b with
    | cons b c =>
      cases c
      cases b with
      | p b =>
        cases b
        exact .inl ⟨_, _, _, _, _, rfl, .ty n, hT.v rl a, isA_kit (tyD_mem hT) hn, k _ h _ F ρ H (Same.refl _) (Pre.refl _) rl (.p (.bl _)) q⟩
/-- isinstance(x, (T, S)) -/
theorem ve_isi2 {m n : String} (q : VE K Θ ta env h fun x h1 => ∃ T, tyD x h1 T ∧ m ∈ ["bool", "int", "str", "tuple", "list", "dict"] ∧ n ∈ ["bool", "int", "str", "tuple", "list", "dict"] ∧ R (dB (isA T m || isA T n)) h1) :
    VE K Θ (tCB (rIsiU K) (tCons ta (tCons (tTup (tCons (tC (.ty m)) (tCons (tC (.ty n)) tNil))) tNil))) env h R := fun F ρ σ H Q rl e k =>
  q F ρ σ H _ rl e fun x h1 vx F1 ρ1 H1 s1 p1 r1 dx q1 => by
    obtain ⟨T, hT, hm, hn, q1⟩ := q1
    refine ⟨by show 2 ≤ sizeLine; exact sz_le (by decide), fun p hp => ?_⟩
    have r2 : Rel K Θ (upd F1 p (.tup [.ty m, .ty n])) ρ1 h1 (upd H1 p (.tup [.ty m, .ty n])) := r1.frz hp
    have sn : Same F1 (upd F1 p (.tup [.ty m, .ty n])) := same_new (r1.free hp)
    refine .inr ⟨vx, p, [.ty m, .ty n], _, [.type m, .type n], isA T m || isA T n, rfl, upd_same, .cons (.ty m) (.cons (.ty n) .nil), hT.v r2 (dx.mono sn (Pre.refl _)), ?_, ?_⟩
    · have e1 := isA_kit (K := K) (tyD_mem hT) hm
      have e2 := isA_kit (K := K) (tyD_mem hT) hn
      refine kitAny_cons e1 (fun z => ?_) fun z => by rw [z]; rfl
      rw [z, Bool.false_or]
      refine kitAny_cons e2 (fun z2 => ?_) fun z2 => z2
      rw [z2]
      rfl
    · exact k _ h1 _ _ ρ1 _ (s1.trans sn) p1 r2 (.p (.bl _)) q1
end
end Kb

/-! What is walked is a list or a tuple; data of bounded depth. -/
namespace Kb
open PySem PySem.Spec PyProof.Rows L2
/-- either kind -/
def iSeq (K : PySem.W.Frag) (tl : TE) : TI := fun σ H R => tl σ H fun x H1 => (∃ a, x = .ref a ∧ (∃ xs, SqL K H1 a xs) ∧ R (Itl K a) H1) ∨ ∃ a, x = .ref a ∧ (∃ xs, SqT K H1 a xs) ∧ R (Itt K a) H1
theorem pi_seq {X : Cx} {tg l : Expr} {tl : TE} (hl : PE X l tl) : PI X tg l (iSeq X.K tl) := by
  refine ⟨fun pins s σ H R I h => ?_⟩
  refine thn (hl.run pins s σ H _ I h) fun v s1 ⟨x, H1, I1, r1, q1⟩ => ?_
  have fin : ∀ b ∈ [s1.heap.objs.size], _ := fun b hb => by
    have e : b = s1.heap.objs.size := by simpa using hb
    subst e
    exact I1.fpOk (Nat.le_refl _) (I1.hok.fresh (Nat.le_refl _))
  rcases q1 with q1 | q1 <;> obtain ⟨a, e, ⟨xs, hq⟩, q⟩ := q1 <;> subst e <;> cases r1
  · obtain ⟨its, rv, p, hz⟩ := I1.list hq
    refine wpAny_pyIter_list p.isList ?_
    exact ⟨s1.heap.objs.size, [s1.heap.objs.size], _, _, H1, rfl, I1.kept (t' := s1.toks) fun b o e => Heap.get?_push_of_some _ e, turn_list a _, ⟨_, Heap.get?_push_size _ rfl, rfl, rfl⟩, fin, q⟩
  · obtain ⟨its, rv, p, hz⟩ := I1.tuple hq
    refine wpAny_pyIter_tuple (show s1.heap.IsTuple a its.toArray from p) ?_
    exact ⟨s1.heap.objs.size, [s1.heap.objs.size], _, _, H1, rfl, I1.kept (t' := s1.toks) fun b o e => Heap.get?_push_of_some _ e, turn_tuple a _, ⟨_, Heap.get?_push_size _ rfl, rfl, rfl⟩, fin, q⟩
section
variable {K : PySem.W.Frag} {Θ : Ctx} {env : Env'} {h : Hs}
theorem vi_seqL {tl : TE} {R : List D → (Hs → Prop) → Hs → Prop} (q : VE K Θ tl env h fun x h1 => ∃ ps, x = dL ps ∧ R (ps.map D.p) (fun _ => True) h1) : VI K Θ (iSeq K tl) env h R := fun F ρ σ H Q rl e k =>
  q F ρ σ H _ rl e fun x h1 vx F1 ρ1 H1 s1 p1 r1 dx q1 => by
    obtain ⟨ps, rfl, q1⟩ := q1
    cases dx with
    | p dx =>
      cases dx with
      | @lst a _ vs ha rp =>
        refine .inl ⟨a, rfl, ⟨vs, r1.same.seq ha⟩, k (ps.map D.p) (fun _ => True) h1 _ F1 ρ1 H1 s1 p1 r1 ⟨fun F' ρ' h' H' s p r _ => ?_, fun i F' ρ' h' H' s p r _ hi => ?_, fun i d F' ρ' h' H' x H2 s p r _ hd hy => ?_⟩ q1⟩
        · exact ⟨vs, r.same.seq (s.seq ha), by rw [List.length_map, rp.len]; exact Nat.le_refl _⟩
        · rw [List.length_map, rp.len] at hi
          exact ⟨vs, vs[i], r.same.seq (s.seq ha), List.getElem?_eq_getElem hi⟩
        · obtain ⟨e1, e2⟩ := hy
          subst e1
          rw [List.getElem?_map] at hd
          cases hp : ps[i]? with
          | none => rw [hp] at hd; cases hd
          | some p0 =>
            rw [hp] at hd; cases hd
            obtain ⟨v, hv, rv⟩ := rp.get hp
            have ev := e2 vs (r.same.seq (s.seq ha))
            rw [hv] at ev; cases ev
            exact ⟨F', Same.refl _, r, .p (rv.mono s)⟩
theorem vi_seqT {tl : TE} {R : List D → (Hs → Prop) → Hs → Prop} (q : VE K Θ tl env h fun x h1 => ∃ ps, x = dT ps ∧ R (ps.map D.p) (fun _ => True) h1) : VI K Θ (iSeq K tl) env h R := fun F ρ σ H Q rl e k =>
  q F ρ σ H _ rl e fun x h1 vx F1 ρ1 H1 s1 p1 r1 dx q1 => by
    obtain ⟨ps, rfl, q1⟩ := q1
    cases dx with
    | p dx =>
      cases dx with
      | @tup a _ vs ha rp =>
        refine .inr ⟨a, rfl, ⟨vs, sqT_mono r1.same ha⟩, k (ps.map D.p) (fun _ => True) h1 _ F1 ρ1 H1 s1 p1 r1 ⟨fun F' ρ' h' H' s p r _ => ?_, fun i F' ρ' h' H' s p r _ hi => ?_, fun i d F' ρ' h' H' x H2 s p r _ hd hy => ?_⟩ q1⟩
        · exact ⟨vs, sqT_mono r.same (sqU_mono s ha), by rw [List.length_map, rp.len]; exact Nat.le_refl _⟩
        · rw [List.length_map, rp.len] at hi
          exact ⟨vs, vs[i], sqT_mono r.same (sqU_mono s ha), List.getElem?_eq_getElem hi⟩
        · obtain ⟨e1, e2⟩ := hy
          subst e1
          rw [List.getElem?_map] at hd
          cases hp : ps[i]? with
          | none => rw [hp] at hd; cases hd
          | some p0 =>
            rw [hp] at hd; cases hd
            obtain ⟨v, hv, rv⟩ := rp.get hp
            have ev := e2 vs (sqT_mono r.same (sqU_mono s ha))
            rw [hv] at ev; cases ev
            exact ⟨F', Same.refl _, r, .p (rv.mono s)⟩
theorem vi_seqO {tl : TE} {R : List D → (Hs → Prop) → Hs → Prop} (q : VE K Θ tl env h fun x h1 => ∃ n xs, x = .own n ∧ h1[n]? = some (some (.lst xs)) ∧ R xs (fun h2 => h2[n]? = some (some (.lst xs))) h1) : VI K Θ (iSeq K tl) env h R := fun F ρ σ H Q rl e k =>
  q F ρ σ H _ rl e fun x h1 vx F1 ρ1 H1 s1 p1 r1 dx q1 => by
    obtain ⟨n, xs, rfl, hx, q1⟩ := q1
    cases dx with
    | @own a _ ha =>
      have at_ : ∀ (F' : Hp) (ρ' : List Addr) (h' : Hs) (H' : Hp), Pre ρ1 ρ' → Rel K Θ F' ρ' h' H' → h'[n]? = some (some (.lst xs)) → ∃ vs, H' a = some (.lst vs) ∧ RA K F' ρ' xs vs := fun F' ρ' h' H' p r hn => by
        obtain ⟨a', u, e1, e2, e3, vs, e4, e5⟩ := r.own _ _ hn
        rw [p _ _ ha] at e1; cases e1
        subst e4
        exact ⟨vs, e3, e5⟩
      obtain ⟨vs, hv, _⟩ := at_ F1 ρ1 h1 H1 (Pre.refl _) r1 hx
      refine .inl ⟨a, rfl, ⟨vs, .of hv⟩, k xs _ h1 _ F1 ρ1 H1 s1 p1 r1 ⟨fun F' ρ' h' H' s p r c => ?_, fun i F' ρ' h' H' s p r c hi => ?_, fun i d F' ρ' h' H' x H2 s p r c hd hy => ?_⟩ q1⟩
      · obtain ⟨vs, hv, rv⟩ := at_ F' ρ' h' H' p r c
        exact ⟨vs, .of hv, by rw [rv.len]; exact Nat.le_refl _⟩
      · obtain ⟨vs, hv, rv⟩ := at_ F' ρ' h' H' p r c
        rw [rv.len] at hi
        exact ⟨vs, vs[i], .of hv, List.getElem?_eq_getElem hi⟩
      · obtain ⟨e1, e2⟩ := hy
        subst e1
        obtain ⟨vs, hv, rv⟩ := at_ F' ρ' h' _ p r c
        obtain ⟨v, h1, h2⟩ := rv.get hd
        have ev := e2 vs (.of hv)
        rw [h1] at ev; cases ev
        exact ⟨F', Same.refl _, r, h2⟩

theorem vc_lenL {xs : List P} {R : D → Hs → Prop} (q : R (dI xs.length) h) : VC K Θ (fun xs H Q => ∃ x n, xs = [x] ∧ LenV K x H n ∧ Q (.int n) H) [dL xs] h R := vc_len (n := xs.length) rfl q
theorem vc_lenT {xs : List P} {R : D → Hs → Prop} (q : R (dI xs.length) h) : VC K Θ (fun xs H Q => ∃ x n, xs = [x] ∧ LenV K x H n ∧ Q (.int n) H) [dT xs] h R := vc_len (n := xs.length) rfl q
theorem vc_lenO {i : Nat} {xs : List D} {R : D → Hs → Prop} (hx : h[i]? = some (some (.lst xs))) (q : R (dI xs.length) h) : VC K Θ (fun xs H Q => ∃ x n, xs = [x] ∧ LenV K x H n ∧ Q (.int n) H) [.own i] h R := vc_len (n := xs.length) ⟨xs, hx, rfl⟩ q
theorem ite_nrefl {α : Type} [DecidableEq α] {a : α} {A B : Prop} (q : B) : if (!decide (a = a)) = true then A else B := by rw [decide_eq_true (rfl : a = a)]; exact q
theorem ite_refl {α : Type} [DecidableEq α] {a : α} {A B : Prop} (q : A) : if decide (a = a) = true then A else B := by rw [decide_eq_true (rfl : a = a)]; exact q
theorem isi2_i {x : D} {T m n : String} {S : String → Prop} (hT : tyD x h T) (hm : m ∈ ["bool", "int", "str", "tuple", "list", "dict"]) (hn : n ∈ ["bool", "int", "str", "tuple", "list", "dict"]) (q : S T) :
    ∃ T, tyD x h T ∧ m ∈ ["bool", "int", "str", "tuple", "list", "dict"] ∧ n ∈ ["bool", "int", "str", "tuple", "list", "dict"] ∧ S T := ⟨T, hT, hm, hn, q⟩
theorem ite_tt {c : Bool} {A B : Prop} (e : c = true) (q : A) : if c = true then A else B := by rw [if_pos e]; exact q
theorem ite_ff {c : Bool} {A B : Prop} (e : c = false) (q : B) : if c = true then A else B := by rw [e, if_neg Bool.false_ne_true]; exact q
theorem vt_yes {B : Bool → Hs → Prop} (q : B true h) : VT K Θ tYes env h B := fun F ρ σ H Q rl e k => k true h F ρ H (Same.refl _) (Pre.refl _) rl q
theorem fm_get {α : Type} (ys : List α) : (List.range ys.length).filterMap (fun i => ys[i]?) = ys := by
  induction ys with
  | nil => rfl
  | cons x xs ih =>
    rw [List.length_cons, List.range_succ_eq_map, List.filterMap_cons]
    simp only [List.getElem?_cons_zero, List.filterMap_map]
    exact congrArg (x :: ·) ih
theorem ve_lcMap {wi : TI} {g : TG} {te : TE} {vs : List Nat} {R : D → Hs → Prop} (tg : TgOk g vs)
    (q : VI K Θ wi env h fun ds C h1 => ∃ ys : List P, ys.length = ds.length ∧ ds.length < sizeLine ∧ (∀ acc, C (h1 ++ [some (.lst acc)])) ∧
      (∀ (i : Nat) (d : D) (y : P) (acc : List D), ds[i]? = some d → ys[i]? = some y → VG K Θ g d (wipeD env vs) (h1 ++ [some (.lst acc)]) fun env' h' => h' = h1 ++ [some (.lst acc)] ∧ VE K Θ te env' h' fun z h3 => h3 = h1 ++ [some (.lst acc)] ∧ z = .p y) ∧ R (dL ys) h1) : VE K Θ (tLc wi g tYes te vs) env h R :=
  ve_lc tg fun F ρ σ H Q rl e k => q F ρ σ H Q rl e fun ds C h' J F' ρ' H' s p r it ⟨ys, hl, hz, hC, turn, fin⟩ => k ds C h' J F' ρ' H' s p r it
    ⟨fun i => ys[i]?, hz, hC, fun i d acc hd => by
      have hi : i < ys.length := by rw [hl]; exact (List.getElem?_eq_some_iff.mp hd).1
      have ey : ys[i]? = some ys[i] := List.getElem?_eq_getElem hi
      refine fun F ρ σ H v Q rl e dv k => turn i d _ acc hd ey F ρ σ H v Q rl e dv fun env' h' F' ρ' σ' H' s p r e' ⟨eh, qe⟩ => k env' h' F' ρ' σ' H' s p r e' ⟨eh, vt_yes ⟨rfl, ite_tt rfl ?_⟩⟩
      exact VE.imp qe fun z h3 ⟨a, b⟩ => ⟨a.trans eh.symm, ys[i], b, ey⟩, by rw [← hl, fm_get]; exact fin⟩
end
/-- written data of bounded depth and bounded lengths -/
def okP : Nat → P → Bool
  | _, .non => true
  | _, .bl _ => true
  | _, .int _ => true
  | _, .str s => decide (s.length ≤ 100000)
  | n + 1, .tup xs => decide (xs.length ≤ 100000) && xs.all (okP n)
  | n + 1, .lst xs => decide (xs.length ≤ 100000) && xs.all (okP n)
  | _, _ => false
theorem okP_tup {n : Nat} {xs : List P} (h : okP n (.tup xs) = true) : ∃ m, n = m + 1 ∧ xs.length ≤ 100000 ∧ ∀ x ∈ xs, okP m x = true := by
  cases n with
  | zero => simp [okP] at h
  | succ n =>
    simp only [okP, Bool.and_eq_true, decide_eq_true_eq, List.all_eq_true] at h
    exact ⟨n, rfl, h.1, h.2⟩
theorem okP_lst {n : Nat} {xs : List P} (h : okP n (.lst xs) = true) : ∃ m, n = m + 1 ∧ xs.length ≤ 100000 ∧ ∀ x ∈ xs, okP m x = true := by
  cases n with
  | zero => simp [okP] at h
  | succ n =>
    simp only [okP, Bool.and_eq_true, decide_eq_true_eq, List.all_eq_true] at h
    exact ⟨n, rfl, h.1, h.2⟩
/-- tuples in place of all lists -/
def frzP : Nat → P → P
  | n + 1, .tup xs => .tup (xs.map (frzP n))
  | n + 1, .lst xs => .tup (xs.map (frzP n))
  | _, x => x
end Kb

/-! sum of a list or a tuple; fields; more steps. -/
namespace Kb
open PySem PySem.Spec PyProof.Rows L2
section
variable {prog : Program} {w : World} {A : Around} {E : Value → Shared → Prop} {s : Shared} {l : Addr} {its : List Value} {ns : List Int} {Q : Value → Shared → Prop}
theorem sum_tup (hh : A.handled = none) (hl : s.heap.IsTuple l its.toArray) (hi : IntsAre its ns)
    (h : ∀ h' tk t', (∀ b o, s.heap.get? b = some o → h'.get? b = some o) → Q (.int ns.sum t') { s with heap := h', toks := tk }) : wpAny (model prog w) A (call (.builtin "sum") [.ref l]) Q E s := by
  obtain ⟨xs, e⟩ := hi.allInts.items
  have hn : numsOf (intItems xs).toList = ns := by rw [← e]; exact hi.numsOf
  rw [nums_intItems] at hn
  rw [e] at hl
  have hlt : l < s.heap.objs.size := by obtain ⟨_, e, _⟩ := hl; exact Heap.lt_size e
  refine call_sum_walkG (wpAny_pyIter_tuple hl ?_)
  refine ⟨s.heap.objs.size, _, _, _, _, _, numAt xs, rfl, Walks.tuple (A := A.in1) hh _ l (Nat.ne_of_lt hlt) (intItems xs), ⟨⟨_, Heap.get?_push_size _ rfl, rfl, rfl⟩, hl.at fun o e => Heap.get?_push_of_some _ e⟩, fun b hb => ?_, (fun _ _ => intItems_at), fun h' tk t' hk => ?_⟩
  · show b < (s.heap.push _).objs.size
    rw [Heap.size_push]
    rcases List.mem_cons.mp hb with rfl | hb
    · exact Nat.lt_succ_self _
    · rw [List.mem_singleton.mp hb]
      exact Nat.lt_succ_of_lt hlt
  · have := h h' tk t' fun b o e => hk b o (fun hm => by rw [List.mem_singleton.mp hm] at e; exact absurd (Heap.lt_size e) (Nat.lt_irrefl _)) (Heap.get?_push_of_some _ e)
    have e3 : preSum (numAt xs) (intItems xs).size = ns.sum := by
      rw [show (intItems xs).size = xs.size from by simp [intItems], preSum_eq, List.take_of_length_le (by simp), hn]
    rw [e3]
    exact this
end
section
variable {X : Cx}
def rSumT (K : PySem.W.Frag) : List V → Hp → VK → Prop := fun vs H Q => ∃ (a : Addr) (ns : List Int), vs = [V.ref a] ∧ SqT K H a (ns.map V.int) ∧ Q (.int ns.sum) H
theorem cr_sumT (hc : X.calm = true) : CallR X (.builtin "sum") (rSumT X.K) := by
  intro pins s σ H vs us Q I r h
  obtain ⟨a, ns, rfl, hs, q⟩ := h
  obtain ⟨its, rv, hl, _⟩ := I.tuple hs
  rw [Vals.ref1 r]
  exact sum_tup (I.ok.hd hc) hl rv.ints fun h' tk t' hk => ⟨.int _, H, I.kept hk, ⟨_, rfl⟩, q⟩
def rSumU (K : PySem.W.Frag) : List V → Hp → VK → Prop := fun xs H Q => rSum K xs H Q ∨ rSumT K xs H Q
theorem cr_sumU (hc : X.calm = true) : CallR X (.builtin "sum") (rSumU X.K) := CallR.or (cr_sum hc) (cr_sumT hc)
end
section
variable {K : PySem.W.Frag} {Θ : Ctx} {env : Env'} {h : Hs} {R : D → Hs → Prop}
theorem vc_sumL {ns : List Int} (q : R (dI ns.sum) h) : VC K Θ (rSumU K) [dL (ns.map P.int)] h R := fun F ρ H vs Q rl a k => .inl (vc_sum (.inl rfl) q F ρ H vs Q rl a k)
theorem vc_sumT {ns : List Int} (q : R (dI ns.sum) h) : VC K Θ (rSumU K) [dT (ns.map P.int)] h R := fun F ρ H vs Q rl a k => .inr (by
  cases a with
  | cons a b =>
    cases b
    cases a with
    | p a =>
      cases a with
      | tup a r =>
        have e := r.ints
        subst e
        exact ⟨_, ns, rfl, sqT_mono rl.same a, k _ h _ F ρ H (Same.refl _) (Pre.refl _) rl (.p (.int _)) q⟩)
theorem fld_i {x : D} {f : Str} {C : Addr} {d : D} {S : D → Prop} (l : FldD f x h C d) (c : Cls K C) (n : NoAttr K C f) (q : S d) : ∃ C d, Cls K C ∧ NoAttr K C f ∧ FldD f x h C d ∧ S d := ⟨C, d, c, n, l, q⟩
class IsPs (xs : List D) (ps : outParam (List P)) : Prop where
  eq : xs = ps.map D.p
instance : IsPs [] [] := ⟨rfl⟩
instance {x : P} {ds : List D} {ps : List P} [h : IsPs ds ps] : IsPs (.p x :: ds) (x :: ps) := ⟨by rw [h.eq]; rfl⟩
theorem tup_j {S : List P → Prop} {xs : List D} {ps : List P} [ex : IsPs xs ps] (hl : Nat.ble xs.length 100000 = true) (q : S ps) : ∃ ps, xs = ps.map D.p ∧ xs.length ≤ sizeLine ∧ S ps := ⟨ps, ex.eq, sz_le (Nat.le_of_ble_eq_true hl), q⟩
theorem frz_idem : ∀ (n : Nat) (x : P), frzP n (frzP n x) = frzP n x
  | 0, x => rfl
  | n + 1, .tup xs => by
    show P.tup _ = P.tup _
    rw [List.map_map]
    exact congrArg P.tup (List.map_congr_left fun x _ => frz_idem n x)
  | n + 1, .lst xs => by
    show P.tup _ = P.tup _
    rw [List.map_map]
    exact congrArg P.tup (List.map_congr_left fun x _ => frz_idem n x)
  | n + 1, .non => rfl
  | n + 1, .bl _ => rfl
  | n + 1, .int _ => rfl
  | n + 1, .str _ => rfl
  | n + 1, .ins _ _ => rfl
  | n + 1, .ty _ => rfl
  | n + 1, .cls _ => rfl
theorem okP_frz : ∀ (n : Nat) (x : P), okP n x = true → okP n (frzP n x) = true
  | 0, x, h => h
  | n + 1, .tup xs, h => by
    simp only [okP, Bool.and_eq_true, decide_eq_true_eq, List.all_eq_true] at h
    simp only [frzP, okP, Bool.and_eq_true, decide_eq_true_eq, List.all_eq_true, List.length_map, List.mem_map]
    refine ⟨h.1, ?_⟩
    rintro y ⟨x, hx, rfl⟩
    exact okP_frz n x (h.2 x hx)
  | n + 1, .lst xs, h => by
    simp only [okP, Bool.and_eq_true, decide_eq_true_eq, List.all_eq_true] at h
    simp only [frzP, okP, Bool.and_eq_true, decide_eq_true_eq, List.all_eq_true, List.length_map, List.mem_map]
    refine ⟨h.1, ?_⟩
    rintro y ⟨x, hx, rfl⟩
    exact okP_frz n x (h.2 x hx)
  | n + 1, .non, h => h
  | n + 1, .bl _, h => h
  | n + 1, .int _, h => h
  | n + 1, .str _, h => h
  | n + 1, .ins _ _, h => h
  | n + 1, .ty _, h => h
  | n + 1, .cls _, h => h
theorem frz_ints (n : Nat) (ns : List Int) : frzP (n + 1) (.lst (ns.map P.int)) = .tup (ns.map P.int) ∧ frzP (n + 1) (.tup (ns.map P.int)) = .tup (ns.map P.int) := by
  have e : (ns.map P.int).map (frzP n) = ns.map P.int := by
    rw [List.map_map]
    refine List.map_congr_left fun x _ => ?_
    cases n <;> rfl
  exact ⟨congrArg P.tup e, congrArg P.tup e⟩
theorem okP_ints (n : Nat) (ns : List Int) (hl : ns.length ≤ 100000) : okP (n + 1) (.lst (ns.map P.int)) = true ∧ okP (n + 1) (.tup (ns.map P.int)) = true := by
  have e : ∀ x ∈ ns.map P.int, okP n x = true := fun x hx => by
    obtain ⟨i, _, rfl⟩ := List.mem_map.mp hx
    cases n <;> rfl
  constructor <;>
  · simp only [okP, Bool.and_eq_true, decide_eq_true_eq, List.all_eq_true, List.length_map]
    exact ⟨hl, e⟩
end
end Kb

/-! The rules with the kit's part named: they serve in the block of a comprehension too. -/
namespace Kb
open PySem PySem.Spec PyProof.Rows L2
section
variable {X : Cx} {K : PySem.W.Frag}
theorem op_addUK (hK : X.K = K) : OpR X (binaryOp .Add) (rAddU K) := hK ▸ op_addU
theorem op_eqUK (hK : X.K = K) (hu : X.A.units + 64 < cLine) : OpR X (compareOp .Eq) (rEqU K) := hK ▸ op_eqU hu
theorem op_neUK (hK : X.K = K) (hu : X.A.units + 64 < cLine) : OpR X (compareOp .NotEq) (rNeU K) := hK ▸ op_neU hu
theorem op_inUK (hK : X.K = K) : OpR X (compareOp .In) (rInU K) := hK ▸ op_inU
theorem op_ninUK (hK : X.K = K) : OpR X (compareOp .NotIn) (rNiU K) := hK ▸ op_ninU
theorem ix_seqK (hK : X.K = K) : IxR X (rIx K) := hK ▸ ix_seq
theorem sl_listK (hK : X.K = K) : SlR X (rSlL K) := hK ▸ sl_list
theorem call_lenK (hK : X.K = K) : CallR X (.builtin "len") (fun xs H Q => ∃ x n, xs = [x] ∧ LenV K x H n ∧ Q (.int n) H) := hK ▸ call_len
theorem call_isiUK (hK : X.K = K) : CallR X (.builtin "isinstance") (rIsiU K) := hK ▸ call_isiU
theorem cr_sumUK (hK : X.K = K) (hc : X.calm = true) : CallR X (.builtin "sum") (rSumU K) := hK ▸ cr_sumU hc
theorem call_list_ofK (hK : X.K = K) : CallR X (.type "list") (fun xs H Q => ∃ p ys, xs = [.ref p] ∧ (SqL K H p ys ∨ SqT K H p ys) ∧ ∀ l, H l = none → Q (.ref l) (upd H l (.lst ys))) := hK ▸ call_list_of
theorem call_tuple_ofK (hK : X.K = K) : CallR X (.type "tuple") (fun xs H Q => ∃ p ys, xs = [.ref p] ∧ ((SqL K H p ys ∧ ∀ l, H l = none → Q (.ref l) (upd H l (.tup ys))) ∨ (SqT K H p ys ∧ Q (.ref p) H))) := hK ▸ call_tuple_of
theorem pi_seqK {tg l : Expr} {tl : TE} (hK : X.K = K) (hl : PE X l tl) : PI X tg l (iSeq K tl) := hK ▸ pi_seq hl
theorem pe_fldK {e : Expr} {ta : TE} {f : Str} {pos : Pos} (hK : X.K = K) (he : PE X e ta) (hb : attributeBase e f X.env (eval e X.env) = eval e X.env) : PE X (.Attribute e f pos) (tFld K ta f) := hK ▸ pe_fld he hb
end
section
variable {K : PySem.W.Frag} {Θ : Ctx} {env : Env'} {h : Hs} {E : En} {t1 t2 : TS}
/-- what is known between two statements -/
theorem vs_cut (I : Env' → Hs → Prop) (q : VS K Θ t1 { E with nx := I } env h) (k : ∀ env' h', I env' h' → VS K Θ t2 E env' h') : VS K Θ (tSeq t1 t2) E env h :=
  vs_seq (VS.imp q k (fun _ _ x => x) (fun _ _ x => x) fun _ _ x => x)
end
end Kb

/-! Keys of three numbers; lists of pairs of numbers; membership. -/
namespace Kb
open PySem PySem.Spec PyProof.Rows L2
open PySem.W (dataLe dataLt AllAlike Sortable)
theorem dataLt_3 (a b c a' b' c' : Int) : dataLt (.tuple [.int a, .int b, .int c]) (.tuple [.int a', .int b', .int c']) = decide (a < a' ∨ (a = a' ∧ (b < b' ∨ (b = b' ∧ c < c')))) := by
  rw [PySem.W.dataLt_tuple, PySem.W.dataLt_cons (by simp [PySem.W.alike]), PySem.W.dataLt_cons (by simp [PySem.W.alike]), PySem.W.dataLt_cons (by simp [PySem.W.alike]), PySem.W.dataLt_int, PySem.W.dataLt_int, PySem.W.dataLt_int]
  have e : PyProof.Rows.lexLt PyProof.Rows.itemOrd (PySem.W.keyToksAll []) (PySem.W.keyToksAll []) = false := PyProof.Rows.lex_irrefl _
  rw [e]
  simp only [PyData.eqv, beq_iff_eq]
  by_cases h1 : a = a' <;> by_cases h2 : b = b' <;> by_cases h3 : c = c' <;> simp [h1, h2, h3]
def key3 {β : Type} (x y z : β → Int) (r : β) : PyData := .tuple [.int (x r), .int (y r), .int (z r)]
theorem dataLe_3 {β : Type} (x y z : β → Int) : dataLe false (key3 x y z) = fun p q => decide (x p < x q ∨ (x p = x q ∧ (y p < y q ∨ (y p = y q ∧ z p ≤ z q)))) := by
  rw [PySem.W.dataLe_eq]
  funext p q
  show (!dataLt (key3 x y z q) (key3 x y z p)) = _
  unfold key3
  rw [dataLt_3]
  by_cases h : x q < x p ∨ (x q = x p ∧ (y q < y p ∨ (y q = y p ∧ z q < z p)))
  · rw [decide_eq_true h]
    exact (decide_eq_false (by omega)).symm
  · rw [decide_eq_false h]
    exact (decide_eq_true (by omega)).symm
theorem sortP_map {β : Type} (rs : List β) (f : β → P) (g : β → PyData) : sortP (rs.map f) (rs.map g) = (rs.mergeSort (dataLe false g)).map f := by
  unfold sortP
  have e : (rs.map f).zip (rs.map g) = rs.map fun r => (f r, g r) := by
    induction rs with
    | nil => rfl
    | cons r rs ih => simp [ih]
  rw [e]
  have e2 : (rs.map fun r => (f r, g r)).mergeSort (dataLe false Prod.snd) = (rs.mergeSort (dataLe false g)).map fun r => (f r, g r) :=
    (List.map_mergeSort (f := fun r => (f r, g r)) fun a _ b _ => rfl).symm
  rw [e2, List.map_map]
  rfl
theorem sort3_pairwise {β : Type} (x y z : β → Int) (rs : List β) : (rs.mergeSort (dataLe false (key3 x y z))).Pairwise fun p q => x p < x q ∨ (x p = x q ∧ (y p < y q ∨ (y p = y q ∧ z p ≤ z q))) := by
  rw [dataLe_3]
  have h := List.pairwise_mergeSort (le := fun p q : β => decide (x p < x q ∨ (x p = x q ∧ (y p < y q ∨ (y p = y q ∧ z p ≤ z q)))))
    (fun a b c h1 h2 => by
      have h1 := of_decide_eq_true h1
      have h2 := of_decide_eq_true h2
      exact decide_eq_true (by omega))
    (fun a b => by
      rw [Bool.or_eq_true]
      by_cases h : x a < x b ∨ (x a = x b ∧ (y a < y b ∨ (y a = y b ∧ z a ≤ z b)))
      · exact .inl (decide_eq_true h)
      · exact .inr (decide_eq_true (by omega))) rs
  exact h.imp fun h => of_decide_eq_true h
theorem alike_key3 {β : Type} (x y z : β → Int) (rs : List β) : AllAlike (rs.map (key3 x y z)) := PySem.W.AllAlike.of fun b b' => by simp [key3, PySem.W.alike, PySem.W.alikeAll]
theorem sortable_key3 {β : Type} (x y z : β → Int) (rs : List β) : Sortable (rs.map (key3 x y z)) := PySem.W.Sortable.tuples fun b => ⟨_, _, rfl⟩
theorem depth_key3 {β : Type} (x y z : β → Int) (rs : List β) : ∀ d ∈ rs.map (key3 x y z), d.depth ≤ 60 := fun d hd => by
  obtain ⟨r, _, rfl⟩ := List.mem_map.mp hd
  simp [key3, PyData.depth, PyData.depthAll]
/-! ### pairs of numbers -/
abbrev pairP (a b : Int) : P := .tup [.int a, .int b]
theorem plain_pair {a b : Int} : plainP (pairP a b) = true := rfl
theorem shaped_pair {a b : Int} : SeqAt.shaped (pyOf (pairP a b)) = true := by
  simp [SeqAt.shaped, pyOf, pyOf.pyOfs, PyData.canLay0, PyData.canLayAll0, PyData.depth, PyData.depthAll]
theorem eqv_pair {a b c d : Int} : PyData.eqv (pyOf (pairP a b)) (pyOf (pairP c d)) = decide (a = c ∧ b = d) := by
  by_cases h1 : a = c <;> by_cases h2 : b = d <;> simp [pyOf, pyOf.pyOfs, PyData.eqv, PyData.eqvAll, h1, h2]
theorem plain_pairs {β : Type} (x y : β → Int) : ∀ rs : List β, plainP (.lst (rs.map fun r => pairP (x r) (y r))) = true
  | [] => rfl
  | r :: rs => by
    have ih := plain_pairs x y rs
    unfold plainP at ih ⊢
    rw [List.map_cons]
    unfold plainP.plainPs
    rw [ih]
    rfl
theorem shaped_pairs {β : Type} (x y : β → Int) (rs : List β) : SeqAt.shaped (pyOf (.lst (rs.map fun r => pairP (x r) (y r)))) = true := by
  have e : PyData.canLayAll0 (pyOf.pyOfs (rs.map fun r => pairP (x r) (y r))) = true ∧ PyData.depthAll (pyOf.pyOfs (rs.map fun r => pairP (x r) (y r))) ≤ 1 := by
    induction rs with
    | nil => simp [pyOf.pyOfs, PyData.canLayAll0, PyData.depthAll]
    | cons r rs ih => simp [pyOf.pyOfs, pyOf, PyData.canLayAll0, PyData.canLay0, PyData.depthAll, PyData.depth, ih.1]; exact Nat.max_le.mpr ⟨Nat.le_refl _, ih.2⟩
  simp only [SeqAt.shaped, pyOf, PyData.canLay0, PyData.depth, e.1, Bool.true_and, decide_eq_true_eq]
  omega
theorem eqv_shaped {d : PyData} (h : SeqAt.shaped d = true) : PyData.eqv d d = true := SeqAt.eqv_refl d (SeqAt.canLay_of_shaped h)
section
variable {K : PySem.W.Frag} {Θ : Ctx} {h : Hs} {R : D → Hs → Prop}
/-- two equal lists of pairs -/
theorem v2_nePairs {β : Type} {x y : β → Int} {rs : List β} (q : R (dB false) h) : V2 K Θ (rNeU K) (dL (rs.map fun r => pairP (x r) (y r))) (dL (rs.map fun r => pairP (x r) (y r))) h R :=
  v2_neP (plain_pairs x y rs) (plain_pairs x y rs) (shaped_pairs x y rs) (shaped_pairs x y rs) (by rw [eqv_shaped (shaped_pairs x y rs)]; exact q)
theorem v2_eqPair {a b c d : Int} (q : R (dB (decide (a = c ∧ b = d))) h) : V2 K Θ (rEqU K) (dT [.int a, .int b]) (dT [.int c, .int d]) h R :=
  v2_eqP plain_pair plain_pair shaped_pair shaped_pair (by rw [eqv_pair]; exact q)
theorem inV_ints {x : Int} : ∀ {ns : List Int}, inV (.int x) (ns.map V.int) = decide (x ∈ ns)
  | [] => rfl
  | n :: ns => by
    have ih := inV_ints (x := x) (ns := ns)
    unfold inV at ih ⊢
    rw [List.map_cons, List.any_cons, ih]
    show ((n == x) || _) = _
    by_cases e : n = x
    · simp [e]
    · simp [e, Ne.symm e]
/-- x in xs, an own list of numbers -/
theorem v2_inO {n : Nat} {x : Int} {ns : List Int} (hn : h[n]? = some (some (.lst (ns.map dI)))) (q : R (dB (decide (x ∈ ns))) h) : V2 K Θ (rInU K) (dI x) (.own n) h R := v2_or1 fun F ρ H vx vy Q rl a b k => by
  obtain rfl := a.int
  cases b with
  | own b =>
    obtain ⟨p, u, e1, e2, e3, vs, e4, e5⟩ := rl.own _ _ hn
    rw [b] at e1; cases e1
    subst e4
    have e6 : RA K F ρ ((ns.map P.int).map D.p) vs := by rw [List.map_map]; exact e5
    have e := e6.pure.ints
    subst e
    refine ⟨_, _, rfl, .inl (.of e3), rfl, by simp [flatV], ?_⟩
    show Q (.bl (inV (.int x) (ns.map V.int))) H
    rw [inV_ints]
    exact k _ h _ F ρ H (Same.refl _) (Pre.refl _) rl (.p (.bl _)) q
end
end Kb

/-! From what the top has written to the defs; from the def of the law to its row. -/
namespace Kb
open PySem PySem.Spec PyProof.Rows L2
section
variable {K : PySem.W.Frag} {Θ : Ctx} {h : Heap} {mg : Str → Option Value} {x m qual : Str} {st : Stmt} {ps : List Str} {f C : Addr} {oc : Value} {od an : Option Addr} {osl : Array (Option Value)} {kV doc pm cdv ct : Value}
theorem defAt_mk (X : K.In h) (G : h.Ns mainGlobals mg) (hb : ∀ (kV doc pm : Value) (an : Option Addr) (cdv ct : Value) (us : List Value), us.length = ps.length → bindArgs (PySem.W.fnOf x x (defArgs st) (defBody st) (defScope st) .none kV doc pm an cdv ct) ⟨us, []⟩ = pure (ps.zip us))
    (a : PySem.W.nsIn K mainGlobals x = some (some (.ref f))) (l : K.lookup f = some ⟨oc, od, .func (PySem.W.fnOf x x (defArgs st) (defBody st) (defScope st) .none kV doc pm an cdv ct), osl⟩) (c : PySem.W.codeIn K cdv x = true) (k : PySem.W.keepIn K (.ref f) = true) : DefAt K mg x st ps :=
  have F := fun_mk (st := st) l c k
  ⟨f, _, F, PySem.W.mg_of X G a, F.binds hb⟩
theorem methAt_mk (hb : ∀ (kV doc pm : Value) (an : Option Addr) (cdv ct : Value) (us : List Value), us.length = ps.length → bindArgs (PySem.W.fnOf m qual (defArgs st) (defBody st) (defScope st) .none kV doc pm an cdv ct) ⟨us, []⟩ = pure (ps.zip us))
    (a : PySem.W.findIn K (.ref C) m = some (some (.ref f))) (i : PySem.W.isFn K (.ref f) = true) (l : K.lookup f = some ⟨oc, od, .func (PySem.W.fnOf m qual (defArgs st) (defBody st) (defScope st) .none kV doc pm an cdv ct), osl⟩) (c : PySem.W.codeIn K cdv qual = true) (k : PySem.W.keepIn K (.ref f) = true) : MethAt K C m qual st ps :=
  have F := fun_mk (st := st) l c k
  ⟨f, _, F, ⟨a, i, k⟩, F.binds hb⟩
theorem initAt_mk (hb : ∀ (kV doc pm : Value) (an : Option Addr) (cdv ct : Value) (us : List Value), us.length = ps.length → bindArgs (PySem.W.fnOf "__init__" qual (defArgs st) (defBody st) (defScope st) .none kV doc pm an cdv ct) ⟨us, []⟩ = pure (ps.zip us))
    (a : PySem.W.findIn K (.ref C) "__init__" = some (some (.ref f))) (i : PySem.W.isFn K (.ref f) = true) (l : K.lookup f = some ⟨oc, od, .func (PySem.W.fnOf "__init__" qual (defArgs st) (defBody st) (defScope st) .none kV doc pm an cdv ct), osl⟩) (c : PySem.W.codeIn K cdv qual = true) (k : PySem.W.keepIn K (.ref f) = true)
    (mk : PySem.W.makesIn K C = true) (kc : PySem.W.keepIn K (.ref C) = true) : InitAt K C qual st ps :=
  have F := fun_mk (st := st) l c k
  ⟨f, _, F, ⟨mk, a, i, kc⟩, F.binds hb⟩
end
theorem bits_log {z : Int} (h : Builtin.Int.intBits z ≤ 1048576) : z.natAbs.log2 < 2000000 := by
  unfold Builtin.Int.intBits at h
  split at h
  · rename_i e
    have : z = 0 := by simpa using e
    subst this
    decide
  · omega
theorem RD.truB {K : PySem.W.Frag} {F : Hp} {ρ : List Addr} {v : V} (h : RD K F ρ (dB true) v) : v = .bl true := h.bl
/-- the law's promise at its own call; Θ: the tables -/
theorem spD_start {K : PySem.W.Frag} {T : List Addr} {W : Spc} {H : Hp} {a : Addr} {ns : List Int} {E : XK} (hT : ∀ P ∈ T, H P = some (.tbl #[])) (sq : SqL K H a (ns.map V.int)) (w : W [dL (ns.map P.int)] [] fun d _ => d = dB true) : spD K T W [.ref a] H (fun v _ => v = .bl true) E := by
  refine ⟨[dL (ns.map P.int)], [], fun b => if b ∈ T then none else H b, [], fun d _ => d = dB true, ⟨fun b o e => ?_, rfl, fun i o h => by simp at h, fun i j o u a h => by simp at h, fun P hP => ⟨if_pos hP, #[], hT P hP, trivial⟩⟩, .cons (.p (.lst ?_ (RPs.of_ints ns))) .nil, w, fun d h' v F' ρ' H' s p r dv e => ?_⟩
  · by_cases hb : b ∈ T
    · have e' := (if_pos hb).symm.trans e
      cases e'
    · exact (if_neg hb).symm.trans e
  · have na : ∀ u, H a = some u → (∀ q, u ≠ .tbl q) → a ∉ T := fun u e n hm => by
      rw [hT a hm] at e
      exact n _ (Option.some.inj e).symm
    rcases sq with (q | ⟨o, q⟩) | q
    · exact .inl (.inl ((if_neg (na _ q fun _ z => by cases z)).trans q))
    · exact .inl (.inr ⟨o, (if_neg (na _ q fun _ z => by cases z)).trans q⟩)
    · exact .inr q
  · subst e
    exact dv.bl
/-- the end of a law whose defs have tables (cs: code object, table) -/
theorem walkDT {l : PySem.W.OpenLaw} {k : Nat} {q : Program} {loose : List Str} {XP : (Str → Option Value) → Heap → Prop} {YP : World → Heap → Prop} {d : DefRec} {K : Params → PySem.W.Frag} {W : Spc}
    (hn : l.most = some 63) (hdf : d.params.defaults = []) (hr : Room k callerA) (hY : ∀ (w : World) (h : Heap), YP w h → (K w.params).In h)
    (hW : ∀ ns : List Int, ns.length ≤ 63 → (∀ n ∈ ns, n.natAbs.log2 < 2000000) → W [dL (ns.map P.int)] [] fun d _ => d = dB true)
    (F : ∀ (w : World) (mg : Str → Option Value) (fa : Addr) (h : Heap), YP w h → (K w.params).In h → h.Ns mainGlobals mg → mg d.name = some (.ref fa) →
      ∃ (fd : FuncData) (cs : List (Addr × Addr)), (∀ p ∈ cs, h.get? p.2 = some { cls := .none, data := .fields #[] }) ∧ (∀ p ∈ cs, (K w.params).lookup p.2 = none) ∧ (∀ p ∈ cs, PySem.W.CodeHd h p.1 p.2) ∧ (∀ (s : Shared) (u : Value), BindsTo s fd ⟨[u], []⟩ [("script", u)]) ∧
        ∀ base : Heap, (K w.params).In base → base.Ns mainGlobals mg → (∀ p ∈ cs, LamX.TabB base mg p.1 p.2) → FnOk l.prog w (K w.params) mg base CX0 k fa fd ["script"] (spD (K w.params) (cs.map (·.2)) W)) :
    PySem.W.WalkO q loose XP YP l.row.toRowW d [] (fun f vs => PySem.call f vs) :=
  LamX.walk_ofTs (n := 63) (k := k) (x := "script") (CX := fun _ => CX0) hn (by decide) hdf hr hY
    (fun w mg fa h Y KX G hm => by
      obtain ⟨fd, cs, h1, h2, h3, h4, h5⟩ := F w mg fa h Y KX G hm
      refine ⟨fd, cs, _, h1, h2, h3, h4, fun H a ns hl hb hT hS => spD_start (fun P hP => ?_) hS (hW ns hl fun n hm => bits_log (hb n hm)), h5⟩
      obtain ⟨p, hp, e⟩ := List.mem_map.mp hP
      rw [← e]
      exact hT p hp) fun _ _ _ _ _ z => z
/-- the end of a law without tables -/
theorem walkD {l : PySem.W.OpenLaw} {k : Nat} {q : Program} {loose : List Str} {XP : (Str → Option Value) → Heap → Prop} {YP : World → Heap → Prop} {d : DefRec} {K : Params → PySem.W.Frag} {W : Spc}
    (hn : l.most = some 63) (hdf : d.params.defaults = []) (hr : Room k callerA) (hY : ∀ (w : World) (h : Heap), YP w h → (K w.params).In h)
    (hW : ∀ ns : List Int, ns.length ≤ 63 → (∀ n ∈ ns, n.natAbs.log2 < 2000000) → W [dL (ns.map P.int)] [] fun d _ => d = dB true)
    (F : ∀ (w : World) (mg : Str → Option Value) (fa : Addr) (h : Heap), (K w.params).In h → h.Ns mainGlobals mg → mg d.name = some (.ref fa) →
      ∃ fd : FuncData, (∀ (s : Shared) (u : Value), BindsTo s fd ⟨[u], []⟩ [("script", u)]) ∧ ∀ base : Heap, (K w.params).In base → base.Ns mainGlobals mg → FnOk l.prog w (K w.params) mg base CX0 k fa fd ["script"] (spD (K w.params) [] W)) :
    PySem.W.WalkO q loose XP YP l.row.toRowW d [] (fun f vs => PySem.call f vs) :=
  L2.walk_ofB (n := 63) (k := k) (x := "script") (CX := fun _ => CX0) (sp := fun w => spD (K w.params) [] W) hn (by decide) hdf hr hY F
    (fun w H a ns hl hb _ hS => spD_start (fun P hP => by simp at hP) hS (hW ns hl fun n hm => bits_log (hb n hm))) fun _ _ _ _ _ z => z
end Kb

/-! any, all of a generator expression whose test may call defs: the generator's turns. -/
namespace Gx
open PySem PySem.Spec PyProof.Rows L2 GenW
section
variable {X : Cx} {Ag : Around} {elt tg iter : Expr} {scope : Scope} {gpos : Pos} {it : Addr} {fp : List Addr} {tn : Nat → Heap → Prop} {J : It} {g : TG} {te : TE} {vs : List Nat} {pins : List (Addr × Obj)} {σw : L2.St} {W : Nat → Hp → Prop} {N : Nat} {tr : Nat → Bool}
/-- where the generator stands between two turns -/
structure At (X : Cx) (pins : List (Addr × Obj)) (fp : List Addr) (tn : Nat → Heap → Prop) (σ : L2.St) (i : Nat) (H : Hp) (s : Shared) : Prop where
  inv : Inv X pins σ H s
  st : tn i s.heap
  fp : ∀ b ∈ fp, FpOk X pins H b
def YG (X : Cx) (pins : List (Addr × Obj)) (fp : List Addr) (tn : Nat → Heap → Prop) (σ : L2.St) (N : Nat) (W : Nat → Hp → Prop) (tr : Nat → Bool) : Protocol := fun m _ v s kap =>
  ∃ (i : Nat) (H : Hp), m + (i + 1) = N ∧ v = .bool (tr i) ∧ At X pins fp tn σ (i + 1) H s ∧ W (i + 1) H ∧ ∀ s'', At X pins fp tn σ (i + 1) H s'' → kap (.send .none) s''
def RG (X : Cx) (pins : List (Addr × Obj)) (σ : L2.St) (N : Nat) (W : Nat → Hp → Prop) : GenEnd := fun n _ r s => r = .ok .next ∧ n = 0 ∧ ∃ H, Inv X pins σ H s ∧ W N H
theorem seg_gx (hA : X.A = Ag.over (.compLoop (.GeneratorExp elt [⟨tg, iter, [], 0⟩] scope gpos) 0 (.ref it) .none X.env) []) (hc : X.calm = true) (T : Turn X.prog X.w X.K tg J fp it tn) (pg : PG X tg g) (pe : PE X elt te) (hx : X.xe = fun _ _ => False)
    (hco : X.env.scope.isCoroutine = false)
    (stop : ∀ H, W N H → J.stop N H)
    (step : ∀ i H, i < N → W i H → J.go i H ∧ ∀ x H', J.yld i H x H' → g x σw H' fun σ2 H2 => L2.wipe σ2 vs = σw ∧ te σ2 H2 fun y H3 => y = .bl (tr i) ∧ W (i + 1) H3) :
    ∀ (k i : Nat) (s₀ s : Shared) (H : Hp), N - i = k → i ≤ N → At X pins fp tn σw i H s → W i H →
      Seg (model X.prog X.w) Ag (RG X pins σw N W) (YG X pins fp tn σw N W tr) k s₀ (.compLoop (.GeneratorExp elt [⟨tg, iter, [], 0⟩] scope gpos) 0 (.ref it) .none X.env)
        ((model X.prog X.w).den (.compLoop (.GeneratorExp elt [⟨tg, iter, [], 0⟩] scope gpos) 0 (.ref it) .none X.env)) [] s := by
  intro k
  induction k with
  | zero =>
    intro i s₀ s H hk hi a w
    have e : i = N := by omega
    subst e
    have st := stop H w
    show Seg _ Ag _ _ _ s₀ _ ((compTurn (.GeneratorExp elt [⟨tg, iter, [], 0⟩] scope gpos) 0 (.ref it) .none X.env).onRaise (leaving X.env)) [] s
    rw [compTurn_gen, Sem.onRaise_eq_wrap]
    refine seg_bind_wrap (wpAny_standAt ?_)
    refine seg_bind_wrap ?_
    rw [← hA]
    refine thnF (T.done X rfl rfl rfl hc i pins s σw H (fun _ _ => False) a.inv a.fp a.st st) fun r s6 h6 => ?_
    obtain ⟨hr, I6⟩ := h6
    subst hr
    exact seg_end (.ok .next) ⟨rfl, rfl, H, I6, w⟩
  | succ k ih =>
    intro i s₀ s H hk hi a w
    have hlt : i < N := by omega
    obtain ⟨go, turn⟩ := step i H hlt w
    show Seg _ Ag _ _ _ s₀ _ ((compTurn (.GeneratorExp elt [⟨tg, iter, [], 0⟩] scope gpos) 0 (.ref it) .none X.env).onRaise (leaving X.env)) [] s
    rw [compTurn_gen, Sem.onRaise_eq_wrap]
    refine seg_bind_wrap (wpAny_standAt ?_)
    refine seg_bind_wrap ?_
    rw [← hA]
    refine thnF (T.item X rfl rfl rfl hc i pins s σw H (fun _ _ => False) a.inv a.fp a.st go) fun r s6 h6 => ?_
    obtain ⟨u, hr, h6⟩ := h6
    subst hr
    refine seg_bind_wrap ?_
    rw [← hA]
    refine thnF h6 fun _ s7 h7 => ?_
    obtain ⟨x, H7, I7, r7, y7, st7, n7⟩ := h7
    have fp7 : ∀ b ∈ fp, FpOk X pins H7 b := fun b hb => ⟨n7 b hb, (a.fp b hb).2⟩
    have I7' := I7.pinned fp7 (T.obj _ _ st7)
    refine seg_bind_wrap ?_
    rw [← hA]
    have z := pg.run _ s7 _ H7 x u _ I7' r7 (turn x H7 y7)
    rw [hx] at z
    refine thnF z fun _ s8 h8 => ?_
    obtain ⟨σ8, H8, I8, hw8, q8⟩ := h8
    have sl : σ8.length = σw.length := by rw [← hw8, wipe_length]
    have sw : ∀ (j : Nat) (v : V), σw[j]? = some (some v) → σ8[j]? = some (some v) := fun j v e => by
      rw [← hw8] at e
      exact (wipe_some e).1
    simp only [List.forIn_nil]
    refine seg_bind_wrap (wpAny_pure ?_)
    have hy : ∀ v, yieldOut X.env v = yieldValue v := fun v => by simp only [yieldOut, hco, Bool.false_eq_true, if_false]
    simp only [if_true, hy]
    rw [Sem.bind_eq_wrap', Sem.bind_eq_wrap', Sem.wrap_wrap, Sem.wrap_wrap]
    refine seg_wrap ?_
    rw [← hA]
    have z2 := pe.run _ s8 σ8 H8 _ I8 q8
    rw [hx] at z2
    refine thnF z2 fun y s9 h9 => ?_
    obtain ⟨yv, H9, I9, r9, rfl, w9⟩ := h9
    have ey : y = .bool (tr i) := r9
    subst ey
    have pin' : ∀ c ∈ fp, ∀ o, s7.heap.get? c = some o → s9.heap.get? c = some o ∧ H9 c = none := fun c hc o e =>
      let z := I9.pin (c, o) (List.mem_append_right _ (List.mem_append_right _ (mem_pinsAt hc e)))
      ⟨z.1, z.2.1⟩
    have a9 : At X pins fp tn σw (i + 1) H9 s9 := by
      refine ⟨(I9.unpinned (pins := pins)).weak sl.symm sw, T.keep _ _ _ st7 fun c hc o e => (pin' c hc o e).1, fun c hc => ?_⟩
      obtain ⟨o, e, _⟩ := T.obj _ _ st7 c hc
      exact ⟨(pin' c hc o e).2, (a.fp c hc).2⟩
    refine seg_at (seg_yield rfl rfl rfl ⟨i, H9, by omega, rfl, a9, w9, fun s'' a2 => ?_⟩)
    exact seg_again rfl (ih (i + 1) s'' s'' H9 (by omega) hlt a2 w9)
theorem seg_gxStart (T : Turn X.prog X.w X.K tg J fp it tn) {s₀ s : Shared} {H : Hp} (a : At X pins fp tn σw 0 H s)
    (loop : Seg (model X.prog X.w) Ag (RG X pins σw N W) (YG X pins fp tn σw N W tr) N s₀ (.compLoop (.GeneratorExp elt [⟨tg, iter, [], 0⟩] scope gpos) 0 (.ref it) .none X.env)
        ((model X.prog X.w).den (.compLoop (.GeneratorExp elt [⟨tg, iter, [], 0⟩] scope gpos) 0 (.ref it) .none X.env)) [] s) :
    Seg (model X.prog X.w) Ag (RG X pins σw N W) (YG X pins fp tn σw N W tr) N s₀ (.compStart (.GeneratorExp elt [⟨tg, iter, [], 0⟩] scope gpos) 0 (.ref it) .none X.env)
        ((model X.prog X.w).den (.compStart (.GeneratorExp elt [⟨tg, iter, [], 0⟩] scope gpos) 0 (.ref it) .none X.env)) [] s := by
  show Seg _ Ag _ _ _ s₀ _ ((compStart (.GeneratorExp elt [⟨tg, iter, [], 0⟩] scope gpos) 0 (.ref it) .none X.env).onRaise (leaving X.env)) [] s
  unfold compStart
  rw [Sem.onRaise_eq_wrap]
  show Seg _ Ag _ _ _ s₀ _ ((ask >>= _).wrap _ _ _ _) [] s
  refine seg_bind_wrap (wpAny_askSetting ?_)
  split
  · exact seg_again rfl loop
  · refine seg_bind_wrap (wpAny_rule ?_)
    show Seg _ Ag _ _ _ s₀ _ ((standAt iter.pos >>= _).wrap _ _ _ _) [] s
    exact seg_bind_wrap (wpAny_standAt (seg_bind_wrap (T.self _ 0 s _ _ a.st (seg_again rfl loop))))
/-! ### the one that asks -/
theorem inv_gens {s' : Shared} {σ : L2.St} {H : Hp} {s : Shared} (I : Inv X pins σ H s) (h1 : s'.heap = s.heap) (h2 : s'.os = s.os) (h3 : AllBare s'.gens) : Inv X pins σ H s' := by
  obtain ⟨hh, gg, dd, tt, oo⟩ := s'
  have e1 : hh = s.heap := h1
  have e2 : oo = s.os := h2
  subst e1 e2
  exact ⟨I.ok, I.os, h3, I.base, I.loc, I.cell, I.free, I.freeC, I.pin, I.hok, I.len⟩
theorem bare_set {s : Shared} {g : Nat} {x : GenState} (h : AllBare s.gens) (hx : x.bare = true) : AllBare (s.setGen g x).gens := fun y hy => by
  have hy' : y ∈ s.gens.setIfInBounds g x := hy
  rcases Array.mem_or_eq_of_mem_setIfInBounds hy' with z | z
  · exact h y z
  · rw [z]; exact hx
/-- the generator a stands before its j-th turn -/
structure GSt (X : Cx) (Ag : Around) (pins : List (Addr × Obj)) (fp : List Addr) (tn : Nat → Heap → Prop) (σ : L2.St) (N : Nat) (W : Nat → Hp → Prop) (tr : Nat → Bool) (a : Addr) (g : Nat) (j : Nat) (H : Hp) (s : Shared) : Prop where
  gen : s.heap.IsGen a g
  at_ : At X pins fp tn σ j H s
  w : W j H
  go : ∃ gs, s.gens[g]? = some gs ∧ ∀ s'', At X pins fp tn σ j H s'' → gs.Goes (model X.prog X.w) Ag (RG X pins σ N W) (YG X pins fp tn σ N W tr) (N - j) (.send .none) s''
theorem gx_next {Ac : Around} {a : Addr} {g j : Nat} {H : Hp} {s : Shared} {E : Value → Shared → Prop} {Q : Option Value → Shared → Prop} (hj : j ≤ N) (hh : Ac.handled = none) (hroom : Ac.depth < recursionLimit) (hpin : ∀ s' H', Inv X pins σw H' s' → s'.heap.IsGen a g)
    (G : GSt X Ac.in1 pins fp tn σw N W tr a g j H s) (hE : j = N → ∀ s' H', Inv X pins σw H' s' → W N H' → Q none s') (hY : j < N → ∀ s' H', GSt X Ac.in1 pins fp tn σw N W tr a g (j + 1) H' s' → Q (some (.bool (tr j))) s') :
    wpAny (model X.prog X.w) Ac (pyNext (.ref a)) Q E s := by
  obtain ⟨gs, hgs, hgo⟩ := G.go
  have hgl : g < s.gens.size := by
    rcases Nat.lt_or_ge g s.gens.size with h | h
    · exact h
    · rw [Array.getElem?_eq_none h] at hgs; cases hgs
  have ar : At X pins fp tn σw j H (s.setGen g .running) := ⟨inv_gens G.at_.inv rfl rfl (bare_set G.at_.inv.bare rfl), G.at_.st, G.at_.fp⟩
  refine wpAny_gsz (n := s.gens.size) (Nat.le_refl _) ?_
  refine wpAny_pyNext_genexpQ (P := fun n s₀ s₁ => n = 0 ∧ ∃ H, Inv X pins σw H s₁ ∧ W N H) hh G.at_.inv.nolimit hroom G.gen hgs (hgo _ ar) (fun v s₁ gs' hb hv => ?_) (fun s₁ hp h' hk => ?_)
  · obtain ⟨i, H', hm, rfl, a', w', kap⟩ := hv
    intro hsz
    have hlt : j < N := by
      rcases Nat.lt_or_ge j N with z | z
      · exact z
      · have e0 : N - j = 0 := by omega
        rw [e0] at kap
        exact (kap s₁ a').elim
    have ei : i = j := by omega
    subst ei
    refine hY hlt _ H' ⟨hpin _ H' (inv_gens a'.inv rfl rfl (bare_set a'.inv.bare hb)), ⟨inv_gens a'.inv rfl rfl (bare_set a'.inv.bare hb), a'.st, a'.fp⟩, w', gs', ?_, fun s'' a2 => ?_⟩
    · have e : (s₁.setGen g gs').gens.size = s₁.gens.size := by simp [Shared.setGen]
      rw [e] at hsz
      have hl1 : g < s₁.gens.size := Nat.lt_of_lt_of_le hgl hsz
      simp [Shared.setGen, hl1]
    · obtain ⟨m, hm2⟩ : ∃ m, N - i = m + 1 := ⟨N - i - 1, by omega⟩
      rw [hm2] at kap
      have e : N - (i + 1) = m := by omega
      rw [e]
      exact kap s'' a2
  · obtain ⟨h0, H', I', w'⟩ := hp
    intro _
    have ej : j = N := by omega
    refine hE ej _ H' ?_ w'
    have I2 : Inv X pins σw H' (s₁.setGen g .finished) := inv_gens I' rfl rfl (bare_set I'.bare rfl)
    exact I2.kept (t' := s₁.toks) hk
end
end Gx

/-! any, all: they ask the generator. -/
namespace Gx
open PySem PySem.Spec PyProof.Rows L2 GenW
section
variable {X : Cx} {A : Around} {fp : List Addr} {tn : Nat → Heap → Prop} {pins : List (Addr × Obj)} {σw : L2.St} {W : Nat → Hp → Prop} {N : Nat} {tr : Nat → Bool} {a : Addr} {g : Nat} {R : Result → Shared → Prop}
theorem drop_cons {N j : Nat} (h : j < N) : (List.range N).drop j = j :: (List.range N).drop (j + 1) := by
  rw [List.drop_eq_getElem_cons (by simpa using h)]
  simp
theorem any_loop (hh : A.handled = none) (hroom : A.depth < recursionLimit) (hpin : ∀ s' H', Inv X pins σw H' s' → s'.heap.IsGen a g) :
    ∀ (k j : Nat) (s : Shared) (H : Hp), N - j = k → j ≤ N → GSt X A.in1.in1 pins fp tn σw N W tr a g j H s →
      (∀ j' s' H', j' ≤ N → Inv X pins σw H' s' → W j' H' → R (.ok (.ret (.bool (((List.range N).drop j).any tr)))) s') → codeAny (model X.prog X.w) A (.builtin "any.loop" ⟨[.ref a], []⟩) R s := by
  intro k
  induction k with
  | zero =>
    intro j s H hk hj G hR
    have e : j = N := by omega
    subst e
    refine codeAny_builtin F.entry_any_loop ?_
    rw [Around.under_plainId F.plain_any_loop _]
    show wpAny _ A.in1 (pyNext (.ref a) >>= _) _ _ s
    refine wpAny_bind (gx_next (Ac := A.in1) hj hh hroom hpin G (fun _ s' H' I' w' => ?_) fun h => absurd h (Nat.lt_irrefl _))
    refine wpAny_bind (wpAny_rule (wpAny_pure ?_))
    have z := hR j s' H' (Nat.le_refl _) I' w'
    rw [List.drop_of_length_le (by simp)] at z
    exact z
  | succ k ih =>
    intro j s H hk hj G hR
    have hlt : j < N := by omega
    rw [drop_cons hlt, List.any_cons] at hR
    refine codeAny_builtin F.entry_any_loop ?_
    rw [Around.under_plainId F.plain_any_loop _]
    show wpAny _ A.in1 (pyNext (.ref a) >>= _) _ _ s
    refine wpAny_bind (gx_next (Ac := A.in1) hj hh hroom hpin G (fun e => absurd e (Nat.ne_of_lt hlt)) fun _ s' H' G' => ?_)
    refine wpAny_bind (wpAny_holding (wpAny_truthy_bool ?_))
    refine wpAny_bind (wpAny_letGo ?_)
    cases hb : tr j with
    | false =>
      rw [hb, Bool.false_or] at hR
      simp only [Bool.false_eq_true, if_false]
      exact wpAny_pure ⟨plainId_quiet F.plain_any_loop _, ih (j + 1) s' H' (by omega) hlt G' hR⟩
    | true =>
      rw [hb, Bool.true_or] at hR
      simp only [if_true]
      exact wpAny_bind (wpAny_rule (wpAny_pure (hR (j + 1) s' H' hlt G'.at_.inv G'.w)))
theorem all_loop (hh : A.handled = none) (hroom : A.depth < recursionLimit) (hpin : ∀ s' H', Inv X pins σw H' s' → s'.heap.IsGen a g) :
    ∀ (k j : Nat) (s : Shared) (H : Hp), N - j = k → j ≤ N → GSt X A.in1.in1 pins fp tn σw N W tr a g j H s →
      (∀ j' s' H', j' ≤ N → Inv X pins σw H' s' → W j' H' → R (.ok (.ret (.bool (((List.range N).drop j).all tr)))) s') → codeAny (model X.prog X.w) A (.builtin "all.loop" ⟨[.ref a], []⟩) R s := by
  intro k
  induction k with
  | zero =>
    intro j s H hk hj G hR
    have e : j = N := by omega
    subst e
    refine codeAny_builtin F.entry_all_loop ?_
    rw [Around.under_plainId F.plain_all_loop _]
    show wpAny _ A.in1 (pyNext (.ref a) >>= _) _ _ s
    refine wpAny_bind (gx_next (Ac := A.in1) hj hh hroom hpin G (fun _ s' H' I' w' => ?_) fun h => absurd h (Nat.lt_irrefl _))
    refine wpAny_bind (wpAny_rule (wpAny_pure ?_))
    have z := hR j s' H' (Nat.le_refl _) I' w'
    rw [List.drop_of_length_le (by simp)] at z
    exact z
  | succ k ih =>
    intro j s H hk hj G hR
    have hlt : j < N := by omega
    rw [drop_cons hlt, List.all_cons] at hR
    refine codeAny_builtin F.entry_all_loop ?_
    rw [Around.under_plainId F.plain_all_loop _]
    show wpAny _ A.in1 (pyNext (.ref a) >>= _) _ _ s
    refine wpAny_bind (gx_next (Ac := A.in1) hj hh hroom hpin G (fun e => absurd e (Nat.ne_of_lt hlt)) fun _ s' H' G' => ?_)
    refine wpAny_bind (wpAny_holding (wpAny_truthy_bool ?_))
    refine wpAny_bind (wpAny_letGo ?_)
    cases hb : tr j with
    | true =>
      rw [hb, Bool.true_and] at hR
      simp only [if_true]
      exact wpAny_pure ⟨plainId_quiet F.plain_all_loop _, ih (j + 1) s' H' (by omega) hlt G' hR⟩
    | false =>
      rw [hb, Bool.false_and] at hR
      simp only [Bool.false_eq_true, if_false]
      exact wpAny_bind (wpAny_rule (wpAny_pure (hR (j + 1) s' H' hlt G'.at_.inv G'.w)))
theorem call_anyG {s : Shared} {H : Hp} {E : Value → Shared → Prop} {Q : Value → Shared → Prop} (hh : A.handled = none) (hroom : A.depth < recursionLimit) (hpin : ∀ s' H', Inv X pins σw H' s' → s'.heap.IsGen a g)
    (G : GSt X A.in1.in1 pins fp tn σw N W tr a g 0 H s) (hQ : ∀ j' s' H', j' ≤ N → Inv X pins σw H' s' → W j' H' → Q (.bool ((List.range N).any tr)) s') : wpAny (model X.prog X.w) A (call (.builtin "any") [.ref a]) Q E s := by
  refine call_function_tree F.kind_any F.plain_any F.entry_any (F.args_any1 _) ?_
  unfold Builtin.«any»
  refine wpAny_bind (m := oneArg "any" _) (wpAny_pure ?_)
  refine wpAny_bind (wpAny_pyIter_gen G.gen ?_)
  exact wpAny_pure ⟨plainId_quiet F.plain_any_loop _, any_loop hh hroom hpin N 0 s H rfl (Nat.zero_le _) G fun j' s' H' h I w => by rw [List.drop_zero]; exact hQ j' s' H' h I w⟩
theorem call_allG {s : Shared} {H : Hp} {E : Value → Shared → Prop} {Q : Value → Shared → Prop} (hh : A.handled = none) (hroom : A.depth < recursionLimit) (hpin : ∀ s' H', Inv X pins σw H' s' → s'.heap.IsGen a g)
    (G : GSt X A.in1.in1 pins fp tn σw N W tr a g 0 H s) (hQ : ∀ j' s' H', j' ≤ N → Inv X pins σw H' s' → W j' H' → Q (.bool ((List.range N).all tr)) s') : wpAny (model X.prog X.w) A (call (.builtin "all") [.ref a]) Q E s := by
  refine call_function_tree F.kind_all F.plain_all F.entry_all (F.args_all1 _) ?_
  unfold Builtin.«all»
  refine wpAny_bind (m := oneArg "all" _) (wpAny_pure ?_)
  refine wpAny_bind (wpAny_pyIter_gen G.gen ?_)
  exact wpAny_pure ⟨plainId_quiet F.plain_all_loop _, all_loop hh hroom hpin N 0 s H rfl (Nat.zero_le _) G fun j' s' H' h I w => by rw [List.drop_zero]; exact hQ j' s' H' h I w⟩
end
end Gx

/-! The context in which a generator expression's test runs. -/
namespace Gx
open PySem PySem.Spec PyProof.Rows L2 GenW
/-- the generator's own context: its frame above all that run -/
abbrev gctx (X : Cx) (A : Around) (s : Shared) (H : Hp) (cenv : Env) (fp : List Addr) : Cx := { X with A := A, s_0 := s, H_0 := H, env := cenv, outer := X.stack, stack := cenv :: X.stack, ex := fp, fn := fun _ => false, pn := [], xe := fun _ _ => False }
/-- what its scope is: no cells of its own, «.0», its own names, captured ones -/
structure GOk (N : List Str) (sc scope : Scope) (own : List (Str × Nat)) : Prop where
  blk : BlkOk N sc scope own
  co : scope.isCoroutine = false
  cell : ∀ y ∈ scope.names, y.2 ≠ .cell
  dot : scope.names.lookup (".0" : Str) = some .local
section
variable {X : Cx} {pins0 : List (Addr × Obj)} {σ : L2.St} {H : Hp} {s : Shared} {scope : Scope} {own : List (Str × Nat)} {fp : List Addr} {A : Around} {code : Value} {h' : Heap} {tk : Nat} {gs : Array GenState} {itv : Value} {gob : Obj}
abbrev genv (X : Cx) (scope : Scope) (code : Value) (s : Shared) : Env := genEnv scope (cloFrom X.env.cells scope.names []) s.heap.objs.size code builtinsNs X.env
theorem clo_at (I : Inv X pins0 σ H s) (hfree : ∀ y ∈ scope.names, y.2 = .free → ∃ c, X.env.cells.lookup y.1 = some c) {y : Str} {c : Addr} (e : (cloFrom X.env.cells scope.names []).lookup y = some c) : X.env.cells.lookup y = some c ∧ c < s.heap.objs.size := by
  rcases cloFrom_mem (PySem.mem_of_lookup e) with z | ⟨h1, h2⟩
  · cases z
  · obtain ⟨c', hc⟩ := hfree _ h1 rfl
    rw [hc] at h2
    have e2 : c = c' := h2
    subst e2
    obtain ⟨v, hv⟩ := I.cell y c hc
    exact ⟨hc, hv.lt⟩
theorem clo_has (hfree : ∀ y ∈ scope.names, y.2 = .free → ∃ c, X.env.cells.lookup y.1 = some c) {y : Str} (hy : (y, NameKind.free) ∈ scope.names) : ∃ c, (cloFrom X.env.cells scope.names []).lookup y = some c := mem_lookup (cloFrom_has (cells := X.env.cells) (acc := []) hy)
theorem start_gx (I : Inv X pins0 σ H s) (hN : X.N.Nodup) (ok : GOk X.N X.env.scope scope own) (hfp : ∀ b ∈ fp, FpOk X pins0 H b ∧ b < s.heap.objs.size) (hA1 : X.calm = true → A.handled = none) (hA2 : A.frames = some (genv X scope code s :: X.stack))
    (hn : h'.Ns s.heap.objs.size fun y => if y = ".0" then some itv else none) (hk : ∀ b o, s.heap.get? b = some o → h'.get? b = some o) (hsz : s.heap.objs.size < h'.objs.size) (hfr : gob.isFreed = false) (hcl : ∀ v, gob.data ≠ .cell v) (hgs : AllBare gs) :
    Inv (gctx X A s H (genv X scope code s) fp) [(h'.objs.size, gob)] (wipe σ (own.map (·.2))) H { s with gens := gs, toks := tk, heap := h'.push gob } := by
  have hfree : ∀ y ∈ scope.names, y.2 = .free → ∃ c, X.env.cells.lookup y.1 = some c := fun y hy e => by
    rcases ok.blk.free y hy e with k | k
    · exact I.ok.has _ (.inl k)
    · exact I.ok.has _ (.inr k)
  have keep : ∀ b o, s.heap.get? b = some o → (h'.push gob).get? b = some o := fun b o e => Heap.get?_push_of_some _ (hk b o e)
  have kind : ∀ {x : Str}, (genv X scope code s).kindOf x = scope.names.lookup x := fun {x} => by
    simp [Env.kindOf, genEnv, ok.blk.kind]
  have okG : (gctx X A s H (genv X scope code s) fp).Ok := by
    refine ⟨I.ok.mod, ok.blk.kind, I.ok.glob, rfl, Nat.le_refl _, fun x y c e1 e2 => ?_, fun x hx => ?_, fun x c e _ => (by cases e), hA1, hA2, .inr ⟨rfl, rfl⟩, fun b hb => ⟨Nat.ne_of_lt (hfp b hb).2, fun x c e z => ?_⟩, I.bs, Nat.le_trans I.ok.bsz I.sz,
      fun b o e hb => ?_, fun b hb z => ?_, I.stack, I.stkFree⟩
    · exact I.ok.inj x y c (clo_at I hfree e1).1 (clo_at I hfree e2).1
    · have hx' : scope.names.lookup x = some .cell ∨ scope.names.lookup x = some .free := by
        rcases hx with h | h
        · exact .inl (by rw [← kind]; exact h)
        · exact .inr (by rw [← kind]; exact h)
      rcases hx' with h | h
      · exact absurd rfl (ok.cell _ (PySem.mem_of_lookup h))
      · exact clo_has hfree (PySem.mem_of_lookup h)
    · exact (hfp b hb).1.2.2.2.2.1 x c (clo_at I hfree e).1 z
    · rcases (hfp b hb).1.2.2.2.1 with z | z
      · exact I.ok.noex b o e z
      · exact absurd (Nat.lt_of_lt_of_le (Heap.lt_size e) (Nat.le_trans I.ok.bsz z)) (Nat.lt_irrefl _)
    · rcases List.mem_cons.mp (I.stkSub b z) with z | z
      · exact (hfp b hb).1.2.1 z
      · exact (hfp b hb).1.2.2.1 z
  refine ⟨okG, rfl, hgs, Un.kept keep, ⟨_, hn.push gob, fun i x v e1 e2 e3 => ?_⟩, fun x c e => ?_, I.hok.fresh (Nat.le_refl _), fun x c e => I.freeC x c (clo_at I hfree e).1, fun p hp => ?_, I.hok.kept keep, by rw [wipe_length]; exact I.len⟩
  · obtain ⟨e2, hne⟩ := wipe_some e2
    have no : ∀ k, scope.names.lookup x = some k → k = .free := fun k hk2 => by
      have hm := PySem.mem_of_lookup hk2
      cases k with
      | free => rfl
      | cell => exact absurd rfl (ok.cell _ hm)
      | «local» =>
        rcases ok.blk.own _ hm (.inl rfl) with q | q
        · obtain ⟨p, hp, hpy⟩ := List.mem_map.mp q
          have e4 := ok.blk.ix p hp
          have e5 : p.1 = x := hpy
          rw [e5] at e4
          exact absurd (List.mem_map.mpr ⟨p, hp, nodup_ix hN e4 e1⟩) hne
        · exact absurd (List.mem_of_getElem? e1) q
      | _ =>
        rcases e3 with q | q | q <;> (have q' : scope.names.lookup x = _ := q; rw [hk2] at q'; cases q')
    have e3' : scope.names.lookup x = some .free := by
      rcases e3 with q | q | q
      · have q' : scope.names.lookup x = some .local := q
        have := no _ q'
        cases this
      · have q' : scope.names.lookup x = some .cell := q
        have := no _ q'
        cases this
      · exact q
    obtain ⟨m, hm, hl⟩ := I.loc
    have hf := ok.blk.free _ (PySem.mem_of_lookup e3') rfl
    have hvis : Vis X.env.scope x := hf.elim (fun k => .inr (.inl k)) fun k => .inr (.inr k)
    obtain ⟨u, r, q⟩ := hl i x v e1 e2 hvis
    refine ⟨u, r, .inr ⟨.inr (by rw [kind]; exact e3'), ?_⟩⟩
    obtain ⟨c, hc⟩ := clo_has hfree (PySem.mem_of_lookup e3')
    have hc2 := (clo_at I hfree hc).1
    rcases q with ⟨k, _⟩ | ⟨_, c', e', z⟩
    · have k : X.env.scope.names.lookup x = some .local := k
      rcases hf with k' | k' <;> rw [show X.env.scope.names.lookup x = _ from k'] at k <;> cases k
    · rw [hc2] at e'
      cases e'
      exact ⟨c, hc, z.keeps keep⟩
  · obtain ⟨v, hv⟩ := I.cell x c (clo_at I hfree e).1
    exact ⟨v, hv.keeps keep⟩
  · have ep : p = (h'.objs.size, gob) := by simpa using hp
    subst ep
    refine ⟨Heap.get?_push_size _ hfr, I.hok.fresh (Nat.le_of_lt hsz), Nat.ne_of_gt hsz, fun hm => ?_, hcl⟩
    have hm2 : h'.objs.size ∈ frs X.stack := hm
    obtain ⟨_, o, ho, _⟩ := I.stack.mem hm2
    exact absurd (Nat.lt_trans (Heap.lt_size ho) hsz) (Nat.lt_irrefl _)
end
end Gx

/-! any(test for x in xs), all(..): the rules. -/
namespace Gx
open PySem PySem.Spec PyProof.Rows L2 GenW GxR
section
theorem over_gx {A : Around} {e : Expr} {cs : List Comprehension} {sc : Scope} {p : Pos} {u v : Value} {env : Env} : A.over (.compLoop (.GeneratorExp e cs sc p) 0 u v env) [] = A.deeper env := by
  obtain ⟨hd, d, fr, gs, un⟩ := A
  simp [Around.over, Around.deeper, marksOver, frameCount, unitsOf, envsOf, guardsOf, pushEnvs, pushGuards, Code.envs, Code.env?, Code.isFrame, Code.guards, Code.isGuard, Code.weight, Code.frames, Code.isCreation, Code.isCaller, Code.cUnits]
variable {X : Cx} {pins : List (Addr × Obj)} {σ : L2.St} {H : Hp} {s : Shared} {elt tg iter : Expr} {scope : Scope} {gpos : Pos} {own : List (Str × Nat)} {wi : TI} {g : TG} {te : TE} {c P : Addr} {k : Nat}
/-- what the test is to give, turn by turn; J: how the walk goes -/
def Turns (J : It) (g : TG) (te : TE) (vs : List Nat) (σw : L2.St) (N : Nat) (tr : Nat → Bool) (W : Nat → Hp → Prop) : Prop :=
  (∀ H, W N H → J.stop N H) ∧ ∀ i H, i < N → W i H → J.go i H ∧ ∀ x H', J.yld i H x H' → g x σw H' fun σ2 H2 => L2.wipe σ2 vs = σw ∧ te σ2 H2 fun y H3 => y = .bl (tr i) ∧ W (i + 1) H3
/-- the generator is made: what is then known -/
def Made (X : Cx) (pins : List (Addr × Obj)) (σ : L2.St) (N : Nat) (tr : Nat → Bool) (W : Nat → Hp → Prop) (u : Value) (s : Shared) : Prop :=
  ∃ (X' : Cx) (pins' : List (Addr × Obj)) (fp : List Addr) (tn : Nat → Heap → Prop) (σw : L2.St) (a : Addr) (n : Nat) (H : Hp), u = .ref a ∧ X'.prog = X.prog ∧ X'.w = X.w ∧ GSt X' X.A.in1.in1 pins' fp tn σw N W tr a n 0 H s ∧ (∀ s' H', Inv X' pins' σw H' s' → s'.heap.IsGen a n) ∧
    ∀ s' H', Inv X' pins' σw H' s' → Inv X pins σ H' s'
theorem made_gx {Q' : Value → Shared → Prop} {R : It → Hp → Prop} (hr : Room (k + 3) X.A) (TB : TabB X.base X.mg c P) (hcode : X.env.code = .ref c) (hc : X.calm = true) (hN : X.N.Nodup) (ok : GOk X.N X.env.scope scope own) (hi : PI X tg iter wi)
    (hg : ∀ (A : Around) (s : Shared) (H : Hp) (code : Value) (fp : List Addr), PG (gctx X A s H (genv X scope code s) fp) tg g) (he : ∀ (A : Around) (s : Shared) (H : Hp) (code : Value) (fp : List Addr), Room k A → PE (gctx X A s H (genv X scope code s) fp) elt te)
    (hs : ∀ v, genFold iter X.env v = pure v) (I : Inv X pins σ H s)
    (h : wi σ H R) (hR : ∀ J H1, R J H1 → TabG H1 P ∧ ∀ H2, Tabbed P H1 H2 → ∃ (N : Nat) (tr : Nat → Bool) (W : Nat → Hp → Prop), W 0 H2 ∧ Turns J g te (own.map (·.2)) (wipe σ (own.map (·.2))) N tr W ∧ ∀ u s', Made X pins σ N tr W u s' → Q' u s') :
    wpAny (model X.prog X.w) X.A (eval (.GeneratorExp elt [⟨tg, iter, [], 0⟩] scope gpos) X.env) Q' X.xe s := by
  have hfree : ∀ y ∈ scope.names, y.2 = .free → ∃ c, X.env.cells.lookup y.1 = some c := fun y hy e => by
    rcases ok.blk.free y hy e with k | k
    · exact I.ok.has _ (.inl k)
    · exact I.ok.has _ (.inr k)
  refine wpAny_GeneratorExp_make ok.co (closure_ok hfree) ok.cell ok.dot ok.blk.kind (by have := hr.dp; omega) ?_ hs
  refine thn (hi.run pins s σ H _ I h) fun xv s1 hx => thn hx fun itv s2 h2 => ?_
  obtain ⟨it, fp, tn, J, H1, rfl, I2, T, st2, f2, qR⟩ := h2
  obtain ⟨⟨ps, hP, ht⟩, q⟩ := hR J H1 qR
  refine ⟨I2.nolimit, ?_⟩
  have hPs : s2.heap.get? P = some { cls := .none, data := .fields ps } := I2.hok P _ hP
  have cd : PySem.W.CodeHd s2.heap c P := TB.code.keeps fun b u e => I2.bk b u e
  have cont : ∀ (code : Value) (h3 : Heap) (tk : Nat) (ps' : Array Value), Heap.ExtBut P s2.heap h3 → s2.heap.objs.size ≤ h3.objs.size → h3.get? P = some { cls := .none, data := .fields ps' } → (∃ more, ps' = ps ++ more) → TriplesOk ps'.toList →
      wpAny (model X.prog X.w) X.A (builtinsFor X.env.globals X.env.builtins) (fun bi s₄ => ∀ h', h'.Ns s₄.heap.objs.size (fun y => if y = ".0" then some (.ref it) else none) → Heap.SameBut s₄.heap.objs.size (s₄.heap.push { cls := .type "frame", data := .dict #[] }) h' →
          Q' (.ref h'.objs.size) { s₄ with gens := s₄.gens.push (.fresh (.compStart (.GeneratorExp elt [⟨tg, iter, [], 0⟩] scope gpos) 0 (.ref it) .none (genEnv scope (cloFrom X.env.cells scope.names []) s₄.heap.objs.size code bi X.env))), toks := s₄.toks + 1 + 1 + 1, heap := h'.push { cls := .type "generator", data := .fields #[.int s₄.gens.size 0, .str "<genexpr>" (s₄.toks + 1), .str (X.env.qual ++ "<genexpr>") (s₄.toks + 1 + 1)] } }) X.xe { s2 with heap := h3, toks := tk } := by
    intro code h3 tk ps' hx hsz hP3 hmore ht3
    obtain ⟨bm, ob, e1, e2, e3, e4, e5, e6, e7, e8⟩ := TB.bm
    have keep3 : ∀ b u, b ≠ P → s2.heap.get? b = some u → h3.get? b = some u := fun b u hb e => hx b u hb e
    refine wpAny_builtinsFor (m := X.mg) (by rw [I2.ok.glob]; exact (I2.mod.glob.keeps I2.bk).extBut hx TB.gP) e1 e2 (keep3 _ _ e4 (I2.bk _ _ e5)) e6 e7 e8 ?_
    intro h' hn' hs'
    obtain ⟨more, em⟩ := hmore
    have I3 : Inv X pins σ (upd H1 P (.tbl (ps ++ more))) { s2 with heap := h3, toks := tk } := inv_tab (more := more) (h' := h3) (g' := s2.gens) (d' := s2.drawn) (t' := tk) I2 hP keep3 (by rw [← em]; exact hP3) I2.bare
    have hT : Tabbed P H1 (upd H1 P (.tbl (ps ++ more))) := ⟨⟨ps ++ more, upd_same, by rw [← em]; exact ht3⟩, fun b hb => upd_ne hb⟩
    obtain ⟨N, tr, W, w0, turns, fin⟩ := q _ hT
    refine fin _ _ ?_
    have hsz' : h'.objs.size = h3.objs.size + 1 := by rw [hs'.1, Heap.size_push]
    have hk' : ∀ b o, h3.get? b = some o → h'.get? b = some o := fun b o e => hs'.extBut b o (Nat.ne_of_lt (Heap.lt_size e)) (Heap.get?_push_of_some _ e)
    have nP : ∀ b ∈ fp, b ≠ P := fun b hb z => by
      have := (f2 b hb).1
      rw [z, hP] at this
      cases this
    have objs : ∀ b ∈ fp, ∃ o, s2.heap.get? b = some o := fun b hb => let ⟨o, e, _⟩ := T.obj _ _ st2 b hb; ⟨o, e⟩
    have f3 : ∀ b ∈ fp, FpOk X pins (upd H1 P (.tbl (ps ++ more))) b ∧ b < h3.objs.size := fun b hb => by
      obtain ⟨o, e⟩ := objs b hb
      refine ⟨⟨?_, (f2 b hb).2⟩, Heap.lt_size (keep3 b o (nP b hb) e)⟩
      rw [upd_ne (nP b hb)]
      exact (f2 b hb).1
    generalize hs4 : ({ s2 with heap := h3, toks := tk } : Shared) = s4 at *
    have eh : s4.heap = h3 := by rw [← hs4]
    generalize hH2 : upd H1 P (.tbl (ps ++ more)) = H2 at *
    have hn4 : h'.Ns s4.heap.objs.size fun y => if y = ".0" then some (.ref it) else none := hn'
    have hrB : Room k (X.A.in1.in1.deeper (genv X scope code s4)) := ((hr.in1).in1).deeper _
    generalize hgo : ({ cls := .type "generator", data := .fields #[.int s4.gens.size 0, .str "<genexpr>" (s4.toks + 1), .str (X.env.qual ++ "<genexpr>") (s4.toks + 1 + 1)] } : Obj) = gob
    have I5 := start_gx (X := X) (pins0 := pins) (fp := fp) (A := X.A.in1.in1.deeper (genv X scope code s4)) (code := code) (tk := s4.toks + 1 + 1 + 1) (gs := s4.gens.push (.fresh (.compStart (.GeneratorExp elt [⟨tg, iter, [], 0⟩] scope gpos) 0 (.ref it) .none (genv X scope code s4)))) (itv := .ref it) (gob := gob) I3 hN ok
      (fun b hb => ⟨(f3 b hb).1, by rw [eh]; exact (f3 b hb).2⟩) (fun _ => hrB.hd) (Around.frames_deeper I3.ok.frames) hn4 (fun b o e => hk' b o (by rw [← eh]; exact e)) (by rw [eh, hsz']; exact Nat.lt_succ_self _) (by rw [← hgo]; rfl) (fun v => by rw [← hgo]; exact fun z => by cases z) (I3.bare.push rfl)
    have pg := hg (X.A.in1.in1.deeper (genv X scope code s4)) s4 H2 code fp
    have pe := he (X.A.in1.in1.deeper (genv X scope code s4)) s4 H2 code fp hrB
    have hgen : ∀ s' H', Inv (gctx X (X.A.in1.in1.deeper (genv X scope code s4)) s4 H2 (genv X scope code s4) fp) [(h'.objs.size, gob)] (wipe σ (own.map (·.2))) H' s' → s'.heap.IsGen h'.objs.size s4.gens.size := fun s' H' I' => by
      have z := (I'.pin (h'.objs.size, gob) (by simp)).1
      rw [← hgo] at z
      exact ⟨_, _, _, z, rfl, rfl, rfl⟩
    have stK : ∀ {h5 : Heap}, (∀ b o, b ≠ P → s2.heap.get? b = some o → h5.get? b = some o) → tn 0 h5 := fun {h5} hk5 => T.keep _ _ _ st2 fun b hb o e => hk5 b o (nP b hb) e
    have a0 : At (gctx X (X.A.in1.in1.deeper (genv X scope code s4)) s4 H2 (genv X scope code s4) fp) [(h'.objs.size, gob)] fp tn (wipe σ (own.map (·.2))) 0 H2 _ :=
      ⟨I5, stK fun b o hb e => Heap.get?_push_of_some _ (hk' b o (keep3 b o hb e)), fun b hb => ⟨(f3 b hb).1.1, (I5.ok.exf b hb).1, I5.ok.exfs b hb, .inl hb, fun x c e => (I5.ok.exf b hb).2 x c e, fun p hp => by
        have ep : p = (h'.objs.size, gob) := by simpa using hp
        subst ep
        have hl := (f3 b hb).2
        intro z
        have z' : h'.objs.size = b := z
        rw [← z', hsz'] at hl
        exact absurd (Nat.lt_trans (Nat.lt_succ_self _) hl) (Nat.lt_irrefl _)⟩⟩
    refine ⟨gctx X (X.A.in1.in1.deeper (genv X scope code s4)) s4 H2 (genv X scope code s4) fp, [(h'.objs.size, gob)], fp, tn, wipe σ (own.map (·.2)), h'.objs.size, s4.gens.size, H2, rfl, rfl, rfl, ⟨hgen _ _ I5, a0, w0, _, Array.getElem?_push_size .., fun s'' a2 => ?_⟩, hgen, fun s' H' I' => ?_⟩
    · rw [Nat.sub_zero]
      exact ⟨rfl, seg_gxStart (X := gctx X (X.A.in1.in1.deeper (genv X scope code s4)) s4 H2 (genv X scope code s4) fp) T a2 (seg_gx (X := gctx X (X.A.in1.in1.deeper (genv X scope code s4)) s4 H2 (genv X scope code s4) fp) over_gx.symm hc T pg pe rfl ok.co turns.1 turns.2 N 0 s'' s'' H2 rfl (Nat.zero_le _) a2 w0)⟩
    · exact I3.call' (ch := fp) I'.os I'.base I'.hok I'.bare fun b hb => ⟨(f3 b hb).1.2.2.2.1, (f3 b hb).1.2.1, (f3 b hb).1.2.2.2.2.1, (f3 b hb).1.2.2.2.2.2⟩
  cases hf : codeAmong gpos ps.toList with
  | none =>
    refine wpAny_genexprCodeX hcode (cd.code hPs ht) (cd.tab hPs) hf fun c' h' tk hx hge hlt hco' _ htab' _ => ?_
    obtain ⟨o1, vs, f1, tf, fl, tg, inF, tx, tt, op, _, _, _, _, _, _, _, _, _, htr, _⟩ := hco'
    exact cont _ h' tk _ hx (Nat.le_trans hge (Nat.le_of_lt hlt)) htab'.2 ⟨_, rfl⟩ htr
  | some cv =>
    refine wpAny_genexprCode_hit hcode (cd.code hPs ht) hf ?_
    exact cont cv s2.heap s2.toks ps (Heap.ExtBut.refl _ _) (Nat.le_refl _) hPs ⟨#[], by simp⟩ ht
/-- any(test for x in xs): the test gives W's turn after turn; behind it any of the turns may be the last one -/
def tAnyG (P : Addr) (wi : TI) (g : TG) (te : TE) (vs : List Nat) : TE := fun σ H Q => wi σ H fun J H1 => TabG H1 P ∧ ∀ H2, Tabbed P H1 H2 → ∃ (N : Nat) (tr : Nat → Bool) (W : Nat → Hp → Prop), W 0 H2 ∧ Turns J g te vs (wipe σ vs) N tr W ∧
  ∀ j H', j ≤ N → W j H' → Q (.bl ((List.range N).any tr)) H'
def tAllG (P : Addr) (wi : TI) (g : TG) (te : TE) (vs : List Nat) : TE := fun σ H Q => wi σ H fun J H1 => TabG H1 P ∧ ∀ H2, Tabbed P H1 H2 → ∃ (N : Nat) (tr : Nat → Bool) (W : Nat → Hp → Prop), W 0 H2 ∧ Turns J g te vs (wipe σ vs) N tr W ∧
  ∀ j H', j ≤ N → W j H' → Q (.bl ((List.range N).all tr)) H'
theorem pe_anyG {p pos : Pos} (hr : Room (k + 3) X.A) (hg' : Gl X "any") (hm : X.mg "any" = none) (TB : TabB X.base X.mg c P) (hcode : X.env.code = .ref c) (hc : X.calm = true) (hN : X.N.Nodup) (ok : GOk X.N X.env.scope scope own) (hi : PI X tg iter wi)
    (hg : ∀ (A : Around) (s : Shared) (H : Hp) (code : Value) (fp : List Addr), PG (gctx X A s H (genv X scope code s) fp) tg g) (he : ∀ (A : Around) (s : Shared) (H : Hp) (code : Value) (fp : List Addr), Room k A → PE (gctx X A s H (genv X scope code s) fp) elt te)
    (hs : ∀ v, genFold iter X.env v = pure v)
    (hst : starEach [.GeneratorExp elt [⟨tg, iter, [], 0⟩] scope gpos] X.env = (false, eval (.GeneratorExp elt [⟨tg, iter, [], 0⟩] scope gpos) X.env) :: starEach [] X.env := by rfl) :
    PE X (.Call (.Name "any" p) [.GeneratorExp elt [⟨tg, iter, [], 0⟩] scope gpos] [] pos) (tAnyG P wi g te (own.map (·.2))) := by
  refine ⟨fun pins s σ H Q I h => ?_⟩
  refine wpAny_Call_Name_kw (ld_blt I hg' hm boot_any ?_)
  refine PyProof.Rows.callWith_builtin1 ?_ hst (by rfl)
  rw [hst]
  show wpAny _ _ (spliced ((false, eval (.GeneratorExp elt [⟨tg, iter, [], 0⟩] scope gpos) X.env) :: backTo pos (starEach [] X.env))) _ _ s
  refine Calls.spliced_cons (made_gx hr TB hcode hc hN ok hi hg he hs I h fun J H1 q => ⟨q.1, fun H2 hT => ?_⟩)
  obtain ⟨N, tr, W, w0, turns, fin⟩ := q.2 H2 hT
  refine ⟨N, tr, W, w0, turns, fun u s' hM => ?_⟩
  obtain ⟨X', pins', fp, tn, σw, a, n, H5, rfl, e1, e2, G, hpin, back⟩ := hM
  refine Calls.spliced_nil ?_
  rw [← e1, ← e2]
  refine call_anyG hr.hd (by have := hr.dp; omega) hpin G fun j' s' H' hj I' w' => ?_
  exact ⟨.bl _, H', back s' H' I', rfl, fin j' H' hj w'⟩
theorem pe_allG {p pos : Pos} (hr : Room (k + 3) X.A) (hg' : Gl X "all") (hm : X.mg "all" = none) (hb : bootBuiltins "all" = some (.builtin "all")) (TB : TabB X.base X.mg c P) (hcode : X.env.code = .ref c) (hc : X.calm = true) (hN : X.N.Nodup) (ok : GOk X.N X.env.scope scope own) (hi : PI X tg iter wi)
    (hg : ∀ (A : Around) (s : Shared) (H : Hp) (code : Value) (fp : List Addr), PG (gctx X A s H (genv X scope code s) fp) tg g) (he : ∀ (A : Around) (s : Shared) (H : Hp) (code : Value) (fp : List Addr), Room k A → PE (gctx X A s H (genv X scope code s) fp) elt te)
    (hs : ∀ v, genFold iter X.env v = pure v)
    (hst : starEach [.GeneratorExp elt [⟨tg, iter, [], 0⟩] scope gpos] X.env = (false, eval (.GeneratorExp elt [⟨tg, iter, [], 0⟩] scope gpos) X.env) :: starEach [] X.env := by rfl) :
    PE X (.Call (.Name "all" p) [.GeneratorExp elt [⟨tg, iter, [], 0⟩] scope gpos] [] pos) (tAllG P wi g te (own.map (·.2))) := by
  refine ⟨fun pins s σ H Q I h => ?_⟩
  refine wpAny_Call_Name_kw (ld_blt I hg' hm hb ?_)
  refine PyProof.Rows.callWith_builtin1 ?_ hst (by rfl)
  rw [hst]
  show wpAny _ _ (spliced ((false, eval (.GeneratorExp elt [⟨tg, iter, [], 0⟩] scope gpos) X.env) :: backTo pos (starEach [] X.env))) _ _ s
  refine Calls.spliced_cons (made_gx hr TB hcode hc hN ok hi hg he hs I h fun J H1 q => ⟨q.1, fun H2 hT => ?_⟩)
  obtain ⟨N, tr, W, w0, turns, fin⟩ := q.2 H2 hT
  refine ⟨N, tr, W, w0, turns, fun u s' hM => ?_⟩
  obtain ⟨X', pins', fp, tn, σw, a, n, H5, rfl, e1, e2, G, hpin, back⟩ := hM
  refine Calls.spliced_nil ?_
  rw [← e1, ← e2]
  refine call_allG hr.hd (by have := hr.dp; omega) hpin G fun j' s' H' hj I' w' => ?_
  exact ⟨.bl _, H', back s' H' I', rfl, fin j' H' hj w'⟩
end
end Gx

/-! any(test for x in xs), all(..) in data. -/
namespace Kb
open PySem PySem.Spec PyProof.Rows L2 Gx GxR
section
variable {K : PySem.W.Frag} {Θ : Ctx} {env : Env'} {h : Hs} {R : D → Hs → Prop}
theorem Rel.tabbed {F : Hp} {ρ : List Addr} {H H2 : Hp} {P : Addr} (r : Rel K Θ F ρ h H) (hP : P ∈ Θ.tabs) (t : Tabbed P H H2) : Rel K Θ F ρ h H2 := by
  obtain ⟨tP, tk⟩ := t
  have tH := (r.tab P hP).2
  refine ⟨⟨fun b o e => ?_, r.len, fun i o hi => ?_, r.inj, fun P' hP' => ⟨(r.tab P' hP').1, ?_⟩⟩, r.wish⟩
  · by_cases hb : b = P
    · rw [hb, (r.tab P hP).1] at e
      cases e
    · rw [tk b hb]
      exact r.same b o e
  · obtain ⟨a, u, h1, h2, h3, h4⟩ := r.own i o hi
    exact ⟨a, u, h1, h2, by rw [tk a (tab_own tH h3 h4).symm]; exact h3, h4⟩
  · by_cases hb : P' = P
    · rw [hb]; exact tP
    · obtain ⟨ps, z1, z2⟩ := (r.tab P' hP').2
      exact ⟨ps, by rw [tk P' hb]; exact z1, z2⟩
/-- the target's slots stand alone: what was there stays -/
theorem TgOk.keeps {g : TG} {vs : List Nat} (t : TgOk g vs) {x : V} {σ : L2.St} {H : Hp} {Q : L2.St → Hp → Prop} (q : g x (L2.wipe σ vs) H Q) :
    g x (L2.wipe σ vs) H fun σ2 H2 => L2.wipe σ2 vs = L2.wipe σ vs ∧ Q σ2 H2 := t x σ H Q q
/-- what an element's test is to give -/
def GxTurn (K : PySem.W.Frag) (Θ : Ctx) (g : TG) (te : TE) (env : Env') (d : D) (h : Hs) (b : Bool) : Prop := VG K Θ g d env h fun env' h' => h' = h ∧ VE K Θ te env' h fun y h2 => h2 = h ∧ y = dB b
end
end Kb

/-! any, all of a generator expression in data. -/
namespace Kb
open PySem PySem.Spec PyProof.Rows L2 Gx GxR
section
variable {K : PySem.W.Frag} {Θ : Ctx} {env : Env'} {h : Hs} {R : D → Hs → Prop}
theorem gx_turns {wi : TI} {g : TG} {te : TE} {vs : List Nat} {F1 : Hp} {ρ1 : List Addr} {σ : L2.St} {ds : List D} {C : Hs → Prop} {h1 : Hs} {J : It} {tr : Nat → Bool} (tg : TgOk g vs) (e : REnv K F1 ρ1 env σ) (it : ItOk K Θ F1 ρ1 C ds J) (hC : C h1)
    (turn : ∀ (i : Nat) (d : D), ds[i]? = some d → GxTurn K Θ g te (wipeD env vs) d h1 (tr i)) :
    Turns J g te vs (L2.wipe σ vs) ds.length tr fun _ H => ∃ F', Same F1 F' ∧ Rel K Θ F' ρ1 h1 H := by
  refine ⟨fun H ⟨F', s, r⟩ => it.stop F' ρ1 h1 H s (Pre.refl _) r hC, fun i H hi ⟨F', s, r⟩ => ⟨it.go i F' ρ1 h1 H s (Pre.refl _) r hC hi, fun x H' hy => ?_⟩⟩
  have hd : ds[i]? = some ds[i] := List.getElem?_eq_getElem hi
  obtain ⟨F2, s2, r2, dx⟩ := it.yld i _ F' ρ1 h1 H x H' s (Pre.refl _) r hC hd hy
  have e2 : REnv K F2 ρ1 (wipeD env vs) (L2.wipe σ vs) := (e.mono (s.trans s2) (Pre.refl _)).wipes vs
  refine tg.keeps (turn i _ hd F2 ρ1 _ H' x _ r2 e2 dx fun env3 h3 F3 ρ3 σ3 H3 s3 p3 r3 e3 q3 => ?_)
  obtain ⟨rfl, q3⟩ := q3
  refine q3 F3 ρ3 σ3 H3 _ r3 e3 fun y h4 v F4 ρ4 H4 s4 p4 r4 dv q4 => ?_
  obtain ⟨rfl, rfl⟩ := q4
  refine ⟨dv.bl, F4, s.trans (s2.trans (s3.trans s4)), r2.back (s3.trans s4) (junk := []) (p3.trans p4) ?_⟩
  rw [List.append_nil]
  exact r4
/-- any(test for x in xs) -/
theorem ve_anyG {P : Addr} {wi : TI} {g : TG} {te : TE} {vs : List Nat} (hP : P ∈ Θ.tabs) (tg : TgOk g vs)
    (q : VI K Θ wi env h fun ds C h1 => ∃ tr : Nat → Bool, C h1 ∧ (∀ (i : Nat) (d : D), ds[i]? = some d → GxTurn K Θ g te (wipeD env vs) d h1 (tr i)) ∧ R (dB ((List.range ds.length).any tr)) h1) : VE K Θ (tAnyG P wi g te vs) env h R := fun F ρ σ H Q rl e k =>
  q F ρ σ H _ rl e fun ds C h1 J F1 ρ1 H1 s1 p1 r1 it q1 => by
    obtain ⟨tr, hC, turn, q1⟩ := q1
    refine ⟨(r1.tab P hP).2, fun H2 hT => ⟨ds.length, tr, _, ⟨F1, Same.refl _, r1.tabbed hP hT⟩, gx_turns (wi := wi) tg (e.mono s1 p1) it hC turn, fun j H' hj w => ?_⟩⟩
    obtain ⟨F', s, r⟩ := w
    exact k _ h1 _ F' ρ1 H' (s1.trans s) p1 r (.p (.bl _)) q1
/-- all(test for x in xs) -/
theorem ve_allG {P : Addr} {wi : TI} {g : TG} {te : TE} {vs : List Nat} (hP : P ∈ Θ.tabs) (tg : TgOk g vs)
    (q : VI K Θ wi env h fun ds C h1 => ∃ tr : Nat → Bool, C h1 ∧ (∀ (i : Nat) (d : D), ds[i]? = some d → GxTurn K Θ g te (wipeD env vs) d h1 (tr i)) ∧ R (dB ((List.range ds.length).all tr)) h1) : VE K Θ (tAllG P wi g te vs) env h R := fun F ρ σ H Q rl e k =>
  q F ρ σ H _ rl e fun ds C h1 J F1 ρ1 H1 s1 p1 r1 it q1 => by
    obtain ⟨tr, hC, turn, q1⟩ := q1
    refine ⟨(r1.tab P hP).2, fun H2 hT => ⟨ds.length, tr, _, ⟨F1, Same.refl _, r1.tabbed hP hT⟩, gx_turns (wi := wi) tg (e.mono s1 p1) it hC turn, fun j H' hj w => ?_⟩⟩
    obtain ⟨F', s, r⟩ := w
    exact k _ h1 _ F' ρ1 H' (s1.trans s) p1 r (.p (.bl _)) q1
end
end Kb

/-! Defs whose code object is known by address; the end with tables, by what the top's text says of them. -/
namespace Kb
open PySem PySem.Spec PyProof.Rows L2
/-- a def of the top whose code object is c -/
structure DefT (K : PySem.W.Frag) (mg : Str → Option Value) (x : Str) (st : Stmt) (ps : List Str) (c : Addr) : Prop where
  ex : ∃ (f : Addr) (oc : Value) (od : Option Addr) (kV doc pm : Value) (an : Option Addr) (ct : Value) (osl : Array (Option Value)),
    K.lookup f = some ⟨oc, od, .func (PySem.W.fnOf x x (defArgs st) (defBody st) (defScope st) .none kV doc pm an (.ref c) ct), osl⟩ ∧ PySem.W.codeIn K (.ref c) x = true ∧ PySem.W.keepIn K (.ref f) = true ∧
      mg x = some (.ref f) ∧ Binds K (PySem.W.fnOf x x (defArgs st) (defBody st) (defScope st) .none kV doc pm an (.ref c) ct) ps []
section
variable {K : PySem.W.Frag} {Θ : Ctx} {h : Heap} {mg : Str → Option Value} {x : Str} {st : Stmt} {ps : List Str} {f c : Addr} {oc : Value} {od an : Option Addr} {osl : Array (Option Value)} {kV doc pm ct : Value}
theorem defT_mk (X : K.In h) (G : h.Ns mainGlobals mg) (hb : ∀ (kV doc pm : Value) (an : Option Addr) (cdv ct : Value) (us : List Value), us.length = ps.length → bindArgs (PySem.W.fnOf x x (defArgs st) (defBody st) (defScope st) .none kV doc pm an cdv ct) ⟨us, []⟩ = pure (ps.zip us))
    (a : PySem.W.nsIn K mainGlobals x = some (some (.ref f))) (l : K.lookup f = some ⟨oc, od, .func (PySem.W.fnOf x x (defArgs st) (defBody st) (defScope st) .none kV doc pm an (.ref c) ct), osl⟩) (cc : PySem.W.codeIn K (.ref c) x = true) (k : PySem.W.keepIn K (.ref f) = true) : DefT K mg x st ps c :=
  ⟨f, oc, od, kV, doc, pm, an, ct, osl, l, cc, k, PySem.W.mg_of X G a, .all (hb kV doc pm an (.ref c) ct)⟩
variable {P : Program} {w : World} {base : Heap} {N : List Str} {k : Nat}
theorem DefT.at' (A : DefT K mg x st ps c) : DefAt K mg x st ps := by
  obtain ⟨f, oc, od, kV, doc, pm, an, ct, osl, l, cc, k, hm, hb⟩ := A.ex
  exact ⟨f, _, fun_mk (st := st) l cc k, hm, hb⟩
/-- a def whose body keeps a promise in data; its code object is known -/
theorem DefT.okD {T : List Addr} (A : DefT K mg x st ps c) (S : FnScope N ps (defScope st)) (W : Spc) (len : ∀ ds h R, W ds h R → ds.length = ps.length)
    (hbody : ∀ (f : Addr) (A : Around) (outer : List Env) (s : Shared) (H : Hp) (E : XK), Room k (A.deeper (envOfC x (defScope st) s.heap.objs.size f (.ref c))) →
      ∃ t, PSs (cxOf CX0 P w K mg base N x (defScope st) f (.ref c) A outer s H E).nox (defBody st) t ∧ ∀ ds h R, W ds h R → VS K (Ctx.plain T) t { nx := fun _ h' => R dN h', rt := R } (startD N ds) h) : HasF P w K mg base CX0 (k + 1) x ps (spD K T W) := by
  obtain ⟨f, oc, od, kV, doc, pm, an, ct, osl, l, cc, kp, hm, hb⟩ := A.ex
  refine ⟨f, _, fn_of l cc S (fun vs H Q E h => ?_) fun A outer s H vs Q E hr h => ?_, hm, kp, hb⟩
  · obtain ⟨ds, h, F, ρ, R, rl, ra, hw, _⟩ := h
    rw [← ra.len]
    exact len ds h R hw
  · obtain ⟨ds, h, F, ρ, R, rl, ra, hw, kq⟩ := h
    obtain ⟨t, ht, q⟩ := hbody f A outer s H E hr
    refine ⟨t, ht.nox, q ds h R hw F ρ _ H _ rl.plain (renv_start ra) ⟨fun env' h' F' ρ' σ' H' s p r e q => kq dN h' .non F' ρ' H' s p r.toBase (.p .non) q, fun d h' v F' ρ' H' s p r dv q => kq d h' v F' ρ' H' s p r.toBase dv q, fun _ _ _ _ _ _ _ _ _ _ z => z.elim, fun _ _ _ _ _ _ _ _ _ _ z => z.elim⟩⟩
end
/-- what the top's text says of a def's code object and its table -/
def TopTab (q : Program) (K : PySem.W.Frag) (h : Heap) : Prop := ∀ (x : Str) (d : DefRec) (c P : Addr), (recsOf q).find? (fun e => e.name == x) = some d → PySem.W.tabIn K x = some (c, P) → PySem.W.CodeHd h c P ∧ h.get? P = some { cls := .none, data := .fields #[] }
theorem tabIn_of {K : PySem.W.Frag} {x : Str} {f c P : Addr} {fd : FuncData} {oc o1 : Value} {od o2 : Option Addr} {osl o3 : Array (Option Value)} {vs : Array Value} (a : PySem.W.nsIn K mainGlobals x = some (some (.ref f))) (l : K.lookup f = some ⟨oc, od, .func fd, osl⟩) (hc : fd.code = .ref c)
    (lc : K.lookup c = some ⟨o1, o2, .fields vs, o3⟩) (hv : (vs[11]? : Option Value) = some (.ref P)) : PySem.W.tabIn K x = some (c, P) := by
  unfold PySem.W.tabIn
  rw [a]
  show (match K.lookup f with
    | some ⟨_, _, .func fd, _⟩ => (match fd.code with
      | .ref c => (match K.lookup c with
        | some ⟨_, _, .fields vs, _⟩ => (match (vs[11]? : Option Value) with
          | some (.ref P) => some (c, P)
          | _ => none)
        | _ => none)
      | _ => none)
    | _ => none) = some (c, P)
  rw [l]
  show (match fd.code with
      | .ref c => (match K.lookup c with
        | some ⟨_, _, .fields vs, _⟩ => (match (vs[11]? : Option Value) with
          | some (.ref P) => some (c, P)
          | _ => none)
        | _ => none)
      | _ => none) = some (c, P)
  rw [hc]
  show (match K.lookup c with
        | some ⟨_, _, .fields vs, _⟩ => (match (vs[11]? : Option Value) with
          | some (.ref P) => some (c, P)
          | _ => none)
        | _ => none) = some (c, P)
  rw [lc]
  show (match (vs[11]? : Option Value) with
          | some (.ref P) => some (c, P)
          | _ => none) = some (c, P)
  rw [hv]
/-- the table of a def's code object, as the end asks for it -/
structure TabIs (K : PySem.W.Frag) (h : Heap) (x : Str) (c P : Addr) : Prop where
  empty : h.get? P = some { cls := .none, data := .fields #[] }
  none : K.lookup P = none
  code : PySem.W.CodeHd h c P
theorem tabIs_mk {q : Program} {K : PySem.W.Frag} {h : Heap} {d : DefRec} {x : Str} {f c P : Addr} {fd : FuncData} {oc o1 : Value} {od o2 : Option Addr} {osl o3 : Array (Option Value)} {vs : Array Value} (T : TopTab q K h) (hr : (recsOf q).find? (fun e => e.name == x) = some d)
    (a : PySem.W.nsIn K mainGlobals x = some (some (.ref f))) (l : K.lookup f = some ⟨oc, od, .func fd, osl⟩) (hc : fd.code = .ref c) (lc : K.lookup c = some ⟨o1, o2, .fields vs, o3⟩) (hv : (vs[11]? : Option Value) = some (.ref P)) (np : K.lookup P = none) : TabIs K h x c P :=
  have z := T x d c P hr (tabIn_of a l hc lc hv)
  ⟨z.2, np, z.1⟩
/-- the end of a law whose defs have tables, by what the top's text says -/
theorem walkDT2 {l : PySem.W.OpenLaw} {k : Nat} {q : Program} {loose : List Str} {XP : (Str → Option Value) → Heap → Prop} {YP : World → Heap → Prop} {d : DefRec} {K : Params → PySem.W.Frag} {W : Spc}
    (hn : l.most = some 63) (hdf : d.params.defaults = []) (hr : Room k callerA) (hY : ∀ (w : World) (h : Heap), YP w h → (K w.params).In h)
    (hW : ∀ ns : List Int, ns.length ≤ 63 → (∀ n ∈ ns, n.natAbs.log2 < 2000000) → W [dL (ns.map P.int)] [] fun d _ => d = dB true)
    (F : ∀ (w : World) (mg : Str → Option Value) (fa : Addr) (h : Heap), YP w h → (K w.params).In h → h.Ns mainGlobals mg → mg d.name = some (.ref fa) → TopTab q (K w.params) h →
      ∃ (fd : FuncData) (cs : List (Addr × Addr)), (∀ p ∈ cs, h.get? p.2 = some { cls := .none, data := .fields #[] }) ∧ (∀ p ∈ cs, (K w.params).lookup p.2 = none) ∧ (∀ p ∈ cs, PySem.W.CodeHd h p.1 p.2) ∧ (∀ (s : Shared) (u : Value), BindsTo s fd ⟨[u], []⟩ [("script", u)]) ∧
        ∀ base : Heap, (K w.params).In base → base.Ns mainGlobals mg → (∀ p ∈ cs, LamX.TabB base mg p.1 p.2) → FnOk l.prog w (K w.params) mg base CX0 k fa fd ["script"] (spD (K w.params) (cs.map (·.2)) W)) :
    PySem.W.WalkO q loose XP YP l.row.toRowW d [] (fun f vs => PySem.call f vs) := by
  refine Att.attach_callB hn hdf fun w s₀ s₁ mg mb fa o pm cd doc a vs ns G Y ho hd hcd hmg hobj hints hlen hbits hg => ?_
  have KX := hY w _ Y
  obtain ⟨fd, cs, h1, h2, h3, h4, h5⟩ := F w mg fa _ Y KX G.T.g hmg fun x d c P hr ht => PySem.W.tab_of G.T KX hr ht
  refine LamX.law_callTs (CX := CX0) KX G.T.g G.T.b G.T.builtins G.T.nolimit hg h1 h2 h3 G.T.bmain hobj hints (Nat.le_trans hlen (by decide)) hr h5 h4 (fun H hT hS => spD_start (fun P hP => ?_) hS (hW ns hlen fun n hm => bits_log (hbits n hm))) fun _ _ _ z => z
  obtain ⟨p, hp, e⟩ := List.mem_map.mp hP
  rw [← e]
  exact hT p hp
end Kb

/-! Comprehensions with two sources, in data. -/
namespace Kb
open PySem PySem.Spec PyProof.Rows L2
/-- the first n parts, one behind the other -/
def catN (gs : Nat → List P) : Nat → List P
  | 0 => []
  | n + 1 => catN gs n ++ gs n
theorem catN_le {gs : Nat → List P} {i : Nat} : ∀ {n : Nat}, i ≤ n → (catN gs i).length ≤ (catN gs n).length
  | 0, h => by cases Nat.le_zero.mp h; exact Nat.le_refl _
  | n + 1, h => by
    rcases Nat.lt_or_ge i (n + 1) with z | z
    · refine Nat.le_trans (catN_le (Nat.lt_succ_iff.mp z)) ?_
      rw [catN, List.length_append]
      exact Nat.le_add_right _ _
    · cases Nat.le_antisymm h z
      exact Nat.le_refl _
theorem fm_le {α : Type} {f : Nat → Option α} {i : Nat} : ∀ {n : Nat}, i ≤ n → ((List.range i).filterMap f).length ≤ ((List.range n).filterMap f).length
  | 0, h => by cases Nat.le_zero.mp h; exact Nat.le_refl _
  | n + 1, h => by
    rcases Nat.lt_or_ge i (n + 1) with z | z
    · refine Nat.le_trans (fm_le (Nat.lt_succ_iff.mp z)) ?_
      rw [filterMap_succ, List.length_append]
      exact Nat.le_add_right _ _
    · cases Nat.le_antisymm h z
      exact Nat.le_refl _
section
variable {K : PySem.W.Frag} {Θ : Ctx} {env : Env'} {h : Hs} {R : D → Hs → Prop}
/-- what one turn of the first source must do: the heap as it was, the items o -/
def Lc2Turn (K : PySem.W.Frag) (Θ : Ctx) (g : TG) (tt : TT) (wi1 : TI) (g1 : TG) (tt1 : TT) (te : TE) (vs1 : List Nat) (env : Env') (d : D) (h1 : Hs) (acc0 : List D) (o : List P) : Prop :=
  VG K Θ g d env (h1 ++ [some (.lst acc0)]) fun env2 h2 => h2 = h1 ++ [some (.lst acc0)] ∧ VT K Θ tt env2 h2 fun b h3 => h3 = h2 ∧
    if b = true then VI K Θ wi1 env2 h3 (fun ds1 C1 h4 => h4 = h3 ∧ ∃ fs : Nat → Option P, (∀ acc, C1 (h1 ++ [some (.lst acc)])) ∧
      (∀ (j : Nat) (d1 : D) (acc : List D), ds1[j]? = some d1 → LcTurn K Θ g1 tt1 te (wipeD env2 vs1) d1 (h1 ++ [some (.lst acc)]) (fs j)) ∧ o = (List.range ds1.length).filterMap fs) else o = []
theorem lc2_run {wi wi1 : TI} {g g1 : TG} {tt tt1 : TT} {te : TE} {vs vs1 : List Nat} (tg : TgOk g vs) (tg1 : TgOk g1 vs1) {F : Hp} {ρ : List Addr} {σ : L2.St} {H1 : Hp} {ds : List D} {C : Hs → Prop} {h1 : Hs} {J : It} (Q : VK)
    (r1 : Rel K Θ F ρ h1 H1) (e : REnv K F ρ env σ) (it : ItOk K Θ F ρ C ds J) (gs : Nat → List P) (hl : (catN gs ds.length).length < sizeLine) (hC : ∀ acc, C (h1 ++ [some (.lst acc)]))
    (turn : ∀ i d acc, ds[i]? = some d → Lc2Turn K Θ g tt wi1 g1 tt1 te vs1 (wipeD env vs) d h1 acc (gs i))
    (fin : ∀ (p : Addr) (F' : Hp) (us : List V) (H : Hp), Same F F' → F' p = none → H p = some (.lst us) → H1 p = none → Rel K Θ F' (ρ ++ [p]) (h1 ++ [some (.lst ((catN gs ds.length).map D.p))]) H → RPs K F' (catN gs ds.length) us → Rel K Θ F' ρ h1 H → Q (.ref p) H) :
    ∀ D, H1 D = none → ∃ W : Nat → Nat → Hp → Prop, (∃ m, W 0 m (upd H1 D (.lst []))) ∧ ∀ i m H, W i m H →
  (J.stop i H ∧ Q (.ref D) H) ∨ (J.go i H ∧ ∃ Nx : Hp → Prop, (∀ H', Nx H' → ∃ m', m' < m ∧ W (i + 1) m' H') ∧ ∀ x H', J.yld i H x H' → g x (wipe σ vs) H' fun σ2 H2 => wipe σ2 vs = wipe σ vs ∧ tt σ2 H2 fun b H3 =>
    if b = true then wi1 σ2 H3 fun J1 H4 => ∃ W1 : Nat → Nat → Hp → Prop, (∃ m, W1 0 m H4) ∧ ∀ j k H, W1 j k H →
      (J1.stop j H ∧ Nx H) ∨ (J1.go j H ∧ ∃ Nx1 : Hp → Prop, (∀ H', Nx1 H' → ∃ k', k' < k ∧ W1 (j + 1) k' H') ∧ ∀ x H', J1.yld j H x H' → g1 x (wipe σ2 vs1) H' fun σ3 H5 => wipe σ3 vs1 = wipe σ2 vs1 ∧ tt1 σ3 H5 fun b H6 =>
        if b = true then te σ3 H6 fun y H7 => ∃ acc, H7 D = some (.lst acc) ∧ acc.length < sizeLine ∧ Nx1 (upd H7 D (.lst (acc ++ [y]))) else Nx1 H6)
    else Nx H3) := by
  intro p hp
  have hn : (h1 ++ [some (OO.lst [])])[h1.length]? = some (some (.lst [])) := by simp
  refine ⟨fun i m H => m = ds.length - i ∧ i ≤ ds.length ∧ ∃ F', Same F F' ∧ Rel K Θ F' (ρ ++ [p]) (h1 ++ [some (.lst ((catN gs i).map D.p))]) H, ⟨ds.length, by simp, Nat.zero_le _, F, Same.refl _, r1.push (o := .lst []) hp ⟨[], rfl, .nil⟩⟩, ?_⟩
  rintro i m H ⟨rfl, hi, F', s, r⟩
  have hpl : (ρ ++ [p])[h1.length]? = some p := by rw [← r1.len]; simp
  have got : ∀ (F' : Hp) (H : Hp) (xs : List D), Rel K Θ F' (ρ ++ [p]) (h1 ++ [some (.lst xs)]) H → ∃ us, H p = some (.lst us) ∧ F' p = none ∧ RA K F' (ρ ++ [p]) xs us := fun F' H xs r => by
    obtain ⟨a, u, e1, e2, e3, us, e4, e5⟩ := r.own h1.length (.lst xs) (by simp)
    rw [hpl] at e1; cases e1
    subst e4
    exact ⟨us, e3, e2, e5⟩
  by_cases hlt : i < ds.length
  · refine .inr ⟨it.go i F' (ρ ++ [p]) _ H s (Pre.push _ _) r (hC _) hlt, fun H' => ∃ F2, Same F F2 ∧ Rel K Θ F2 (ρ ++ [p]) (h1 ++ [some (.lst ((catN gs (i + 1)).map D.p))]) H', fun H' ⟨F2, s2, r2⟩ => ⟨ds.length - (i + 1), by omega, rfl, hlt, F2, s2, r2⟩, fun x H' hy => ?_⟩
    have hd : ds[i]? = some ds[i] := List.getElem?_eq_getElem hlt
    obtain ⟨F2, s2, r2, dx⟩ := it.yld i _ F' (ρ ++ [p]) _ H x H' s (Pre.push _ _) r (hC _) hd hy
    refine tg x σ H' _ ?_
    refine turn i _ _ hd F2 (ρ ++ [p]) (wipe σ vs) H' x _ r2 ((e.mono (s.trans s2) (Pre.push _ _)).wipes vs) dx fun env3 h3 F3 ρ3 σ3 H3 s3 p3 r3 e3 q3 => ?_
    obtain ⟨rfl, q3⟩ := q3
    have eρ : ρ3 = ρ ++ [p] := pre_eq p3 (by rw [r3.len, r2.len])
    subst eρ
    refine q3 F3 _ σ3 H3 _ r3 e3 fun b h4 F4 ρ4 H4 s4 p4 r4 q4 => ?_
    obtain ⟨rfl, q4⟩ := q4
    have eρ : ρ4 = ρ ++ [p] := pre_eq p4 (by rw [r4.len, r3.len])
    subst eρ
    have ss : Same F F4 := s.trans (s2.trans (s3.trans s4))
    cases b with
    | true =>
      rw [if_pos rfl] at q4 ⊢
      refine q4 F4 _ σ3 H4 _ r4 (e3.mono s4 p4) fun ds1 C1 h5 J1 F5 ρ5 H5 s5 p5 r5 it1 q5 => ?_
      obtain ⟨rfl, fs, hC1, turn1, eg⟩ := q5
      have eρ : ρ5 = ρ ++ [p] := pre_eq p5 (by rw [r5.len, r4.len])
      subst eρ
      have ss5 : Same F F5 := ss.trans s5
      have e5 : REnv K F5 (ρ ++ [p]) env3 σ3 := (e3.mono s4 p4).mono s5 p5
      refine ⟨fun j k H => k = ds1.length - j ∧ j ≤ ds1.length ∧ ∃ F', Same F5 F' ∧ Rel K Θ F' (ρ ++ [p]) (h1 ++ [some (.lst ((catN gs i ++ (List.range j).filterMap fs).map D.p))]) H, ⟨ds1.length, by simp, Nat.zero_le _, F5, Same.refl _, by simpa using r5⟩, ?_⟩
      rintro j k H6 ⟨rfl, hj, F6, s6, r6⟩
      by_cases hjt : j < ds1.length
      · refine .inr ⟨it1.go j F6 (ρ ++ [p]) _ H6 s6 (Pre.refl _) r6 (hC1 _) hjt, fun H' => ∃ F2, Same F5 F2 ∧ Rel K Θ F2 (ρ ++ [p]) (h1 ++ [some (.lst ((catN gs i ++ (List.range (j + 1)).filterMap fs).map D.p))]) H', fun H' ⟨F2, s2, r2⟩ => ⟨ds1.length - (j + 1), by omega, rfl, hjt, F2, s2, r2⟩, fun x1 H7 hy1 => ?_⟩
        have hd1 : ds1[j]? = some ds1[j] := List.getElem?_eq_getElem hjt
        obtain ⟨F7, s7, r7, dx1⟩ := it1.yld j _ F6 (ρ ++ [p]) _ H6 x1 H7 s6 (Pre.refl _) r6 (hC1 _) hd1 hy1
        refine tg1 x1 σ3 H7 _ ?_
        refine turn1 j _ _ hd1 F7 (ρ ++ [p]) (wipe σ3 vs1) H7 x1 _ r7 ((e5.mono (s6.trans s7) (Pre.refl _)).wipes vs1) dx1 fun env8 h8 F8 ρ8 σ8 H8 s8 p8 r8 e8 q8 => ?_
        obtain ⟨rfl, q8⟩ := q8
        have eρ : ρ8 = ρ ++ [p] := pre_eq p8 (by rw [r8.len, r7.len])
        subst eρ
        refine q8 F8 _ σ8 H8 _ r8 e8 fun b h9 F9 ρ9 H9 s9 p9 r9 q9 => ?_
        obtain ⟨rfl, q9⟩ := q9
        have eρ : ρ9 = ρ ++ [p] := pre_eq p9 (by rw [r9.len, r8.len])
        subst eρ
        have ss9 : Same F5 F9 := s6.trans (s7.trans (s8.trans s9))
        cases b with
        | true =>
          rw [if_pos rfl] at q9 ⊢
          refine q9 F9 _ σ8 H9 _ r9 (e8.mono s9 p9) fun y h10 v F10 ρ10 H10 s10 p10 r10 dv q10 => ?_
          obtain ⟨rfl, pp, rfl, ef⟩ := q10
          have eρ : ρ10 = ρ ++ [p] := pre_eq p10 (by rw [r10.len, r9.len])
          subst eρ
          obtain ⟨us, g1', g2, g3⟩ := got F10 H10 _ r10
          refine ⟨us, g1', ?_, F10, ss9.trans s10, ?_⟩
          · rw [← g3.len, List.length_map, List.length_append]
            have b1 := catN_le (gs := gs) (i := i + 1) (n := ds.length) hlt
            rw [catN, List.length_append, eg] at b1
            have b2 := fm_le (f := fs) (i := j + 1) (n := ds1.length) hjt
            rw [filterMap_succ, ef, List.length_append] at b2
            have b3 : (some pp).toList.length = 1 := rfl
            omega
          · have z := r10.put (i := h1.length) (o := .lst ((catN gs i ++ (List.range j).filterMap fs).map D.p)) (o' := .lst ((catN gs i ++ (List.range (j + 1)).filterMap fs).map D.p)) (by simp) hpl ⟨us ++ [v], rfl, by
              rw [filterMap_succ, ef, ← List.append_assoc, List.map_append]
              exact g3.append (.cons dv .nil)⟩
            rw [List.set_append_right _ _ (Nat.le_refl _), Nat.sub_self] at z
            exact z
        | false =>
          rw [if_neg Bool.false_ne_true] at q9 ⊢
          refine ⟨F9, ss9, ?_⟩
          rw [filterMap_succ, q9]
          simpa using r9
      · have ej : j = ds1.length := by omega
        subst ej
        refine .inl ⟨it1.stop F6 (ρ ++ [p]) _ H6 s6 (Pre.refl _) r6 (hC1 _), F6, ss5.trans s6, ?_⟩
        rw [catN, eg]
        exact r6
    | false =>
      rw [if_neg Bool.false_ne_true] at q4 ⊢
      refine ⟨F4, ss, ?_⟩
      rw [catN, q4, List.append_nil]
      exact r4
  · have ei : i = ds.length := by omega
    subst ei
    refine .inl ⟨it.stop F' (ρ ++ [p]) _ H s (Pre.push _ _) r (hC _), ?_⟩
    obtain ⟨us, g1, g2, g3⟩ := got F' H _ r
    refine fin p F' us H s g2 g1 hp r g3.pure (r.pop r1.len (r1.wish.mono s (Pre.refl _)) fun i o a hi ha u q => ?_)
    obtain ⟨a0, u0, f1, f2, f3, f4⟩ := r1.own i o hi
    exact f4.low q
/-- [.. for .. for ..]: a new list that stays as it is -/
theorem ve_lc2 {wi wi1 : TI} {g g1 : TG} {tt tt1 : TT} {te : TE} {vs vs1 : List Nat} (tg : TgOk g vs) (tg1 : TgOk g1 vs1)
    (q : VI K Θ wi env h fun ds C h1 => ∃ gs : Nat → List P, (catN gs ds.length).length < sizeLine ∧ (∀ acc, C (h1 ++ [some (.lst acc)])) ∧
      (∀ i d acc, ds[i]? = some d → Lc2Turn K Θ g tt wi1 g1 tt1 te vs1 (wipeD env vs) d h1 acc (gs i)) ∧ R (dL (catN gs ds.length)) h1) : VE K Θ (tLc2 wi g tt wi1 g1 tt1 te vs vs1) env h R := fun F ρ σ H Q rl e k =>
  q F ρ σ H _ rl e fun ds C h1 J F1 ρ1 H1 s1 p1 r1 it q1 => by
    obtain ⟨gs, hl, hC, turn, q1⟩ := q1
    refine lc2_run (wi := wi) tg tg1 Q r1 (e.mono s1 p1) it gs hl hC turn fun p F' us H s hn hp hp1 r rp r2 => ?_
    have sn : Same F' (upd F' p (.lst us)) := same_new hn
    refine k _ h1 (.ref p) (upd F' p (.lst us)) ρ1 H (s1.trans (s.trans sn)) p1 ?_ (.p (.lst (.of upd_same) (rp.mono sn))) q1
    have np : ∀ P ∈ Θ.tabs, P ≠ p := fun P hP => by
      obtain ⟨ps, z, _⟩ := (r2.tab P hP).2
      rintro rfl
      rw [hp] at z
      cases z
    refine ⟨⟨fun b o e => ?_, r2.len, fun i o hi => ?_, r2.inj, fun P hP => ⟨by rw [upd_ne (np P hP)]; exact (r2.tab P hP).1, (r2.tab P hP).2⟩⟩, r2.wish.mono sn (Pre.refl _)⟩
    · by_cases hb : b = p
      · subst hb; rw [upd_same] at e; rw [hp]; exact e
      · rw [upd_ne hb] at e; exact r2.same b o e
    · obtain ⟨a, u, f1, f2, f3, f4⟩ := r2.own i o hi
      have ha : a ≠ p := fun z => by
        subst z
        obtain ⟨a0, u0, g1, g2, g3, g4⟩ := r1.own i o hi
        rw [f1] at g1; cases g1
        rw [hp1] at g3; cases g3
      exact ⟨a, u, f1, by rw [upd_ne ha]; exact f2, f3, f4.mono sn (Pre.refl _)⟩
end
end Kb

/-! zip of two sequences; a tuple as a target, K named. -/
namespace Kb
open PySem PySem.Spec PyProof.Rows L2 RZ
section
variable {X : Cx} {K : PySem.W.Frag}
theorem pg_tupK {es : List Expr} {k : Nat} {t : TGs} {n : Nat} {pos : Pos} (hK : X.K = K) (hc : X.calm = true) (h : PGs X es t)
    (hn : (assignEach es X.env).length = n := by rfl) (hst : (assignEach es X.env).findIdx? (·.1) = none := by rfl) : PG X (.Tuple es k pos) (gTup K n t) := hK ▸ pg_tup hc h hn hst
theorem pi_zipK {e e2 : Expr} {ta : TA} {p pos tpos : Pos} {elts : List Expr} {kk : Nat} (hK : X.K = K) (hg : Gl X "zip") (hm : X.mg "zip" = none) (ha : PA X [e, e2] ta)
    (hs : starEach [e, e2] X.env = (false, eval e X.env) :: starEach [e2] X.env := by rfl) (hpl : (backTo pos (starEach [e2] X.env)).any (·.1) = false := by rfl) :
    PI X (.Tuple elts kk tpos) (.Call (.Name "zip" p) [e, e2] [] pos) (iZipA K ta) := hK ▸ pi_zipA hg hm ha hs hpl
end
section
variable {K : PySem.W.Frag} {Θ : Ctx} {env : Env'} {h : Hs}
def zipP (xs ys : List P) : List D := (xs.zip ys).map fun q => dT [q.1, q.2]
theorem zip_get {α β : Type} {xs : List α} {ys : List β} {i : Nat} {q : α × β} (h : (xs.zip ys)[i]? = some q) : xs[i]? = some q.1 ∧ ys[i]? = some q.2 := by
  rw [List.getElem?_zip_eq_some] at h
  exact h
/-- zip of two tuples that stay -/
theorem vi_zipT {ta : TA} {R : List D → (Hs → Prop) → Hs → Prop} (q : VA K Θ ta env h fun vs h1 => ∃ xs ys, vs = [dT xs, dT ys] ∧ R (zipP xs ys) (fun _ => True) h1) : VI K Θ (iZipA K ta) env h R := fun F ρ σ H Q rl e k =>
  q F ρ σ H _ rl e fun vs h1 us F1 ρ1 H1 s1 p1 r1 dus q1 => by
    obtain ⟨xs, ys, rfl, q1⟩ := q1
    cases dus with
    | cons dx du =>
    cases du with
    | cons dy dz =>
    cases dz
    cases dx with
    | p dx =>
    cases dy with
    | p dy =>
    cases dx with
    | @tup a _ us ha ru =>
    cases dy with
    | @tup b _ ws hb rw' =>
    have hz : (zipP xs ys).length = min us.length ws.length := by
      unfold zipP
      rw [List.length_map, List.length_zip, ru.len, rw'.len]
    refine ⟨a, b, us, ws, rfl, .inr ⟨sqT_mono r1.same ha, sqT_mono r1.same hb, k (zipP xs ys) (fun _ => True) h1 _ F1 ρ1 H1 s1 p1 r1 ⟨fun F' ρ' h' H' s p r _ => ?_, fun i F' ρ' h' H' s p r _ hi => ?_, fun i d F' ρ' h' H' x H2 s p r _ hd hy => ?_⟩ q1⟩⟩
    · refine ⟨us, ws, sqT_mono r.same (sqU_mono s ha), sqT_mono r.same (sqU_mono s hb), ?_⟩
      rw [hz]
      omega
    · rw [hz] at hi
      exact ⟨us, ws, us[i]'(by omega), ws[i]'(by omega), sqT_mono r.same (sqU_mono s ha), sqT_mono r.same (sqU_mono s hb), List.getElem?_eq_getElem _, List.getElem?_eq_getElem _⟩
    · obtain ⟨T, x1, y1, rfl, hT, rfl, gx, gy⟩ := hy
      unfold zipP at hd
      rw [List.getElem?_map] at hd
      cases hq : (xs.zip ys)[i]? with
      | none => rw [hq] at hd; cases hd
      | some q =>
        rw [hq] at hd; cases hd
        obtain ⟨e1, e2⟩ := zip_get hq
        obtain ⟨v1, f1, g1⟩ := ru.get e1
        obtain ⟨v2, f2, g2⟩ := rw'.get e2
        have z1 := gx us (sqT_mono r.same (sqU_mono s ha))
        have z2 := gy ws (sqT_mono r.same (sqU_mono s hb))
        rw [f1] at z1; cases z1
        rw [f2] at z2; cases z2
        have sn := same_new (o := .tup [x1, y1]) (r.free hT)
        exact ⟨upd F' T (.tup [x1, y1]), sn, r.frz hT, .p (.tup (.of upd_same) (.cons ((g1.mono s).mono sn) (.cons ((g2.mono s).mono sn) .nil)))⟩
end
end Kb

/-! xs[i] op= e; comprehensions whose turns change what is owned; more operators. -/
namespace Kb
open PySem PySem.Spec PyProof.Rows L2
section
variable {X : Cx}
theorem pget_list : PGet X (rIxL X.K) := by
  intro pins s σ H o i ov iv Q I ro ri h
  obtain ⟨p, xs, i, z, rfl, rfl, hq, he, q⟩ := h
  cases ro
  obtain ⟨t, rfl⟩ := ri
  obtain ⟨its, r, pl, hz⟩ := I.list hq
  obtain ⟨j, h1, h2, h3, h4, h5⟩ := atI_get he
  obtain ⟨w, ew, rw'⟩ := r.get h2
  have hl := r.length
  have hn := line63
  have fin : EP X pins σ Q w s := ⟨z, H, I, rw', q⟩
  by_cases h0 : 0 ≤ i
  · have hj : i.toNat = j := by
      rw [seqIndex_of h0 h5] at h1
      exact Option.some.inj h1
    exact wpAny_getItem_list pl.isList h0 (by omega) (by rw [hj]; simpa using ew) fin
  · have hj : (i + (its.toArray.size : Int)).toNat = j := by
      rw [seqIndex_neg (by omega) h4] at h1
      rw [List.size_toArray, ← hl]
      exact Option.some.inj h1
    exact wpAny_getItem_list_neg pl.isList (by omega) (by rw [List.size_toArray] <;> omega) (by omega) (by rw [hj]; simpa using ew) fin
theorem pget_listK {K : PySem.W.Frag} (hK : X.K = K) : PGet X (rIxL K) := hK ▸ pget_list
end
section
variable {K : PySem.W.Frag} {Θ : Ctx} {env : Env'} {h : Hs} {R : D → Hs → Prop} {E : En}
/-- xs[i] op= e, the list owned; e changes nothing -/
theorem vs_augS {to ti te : TE} {tip : TIp} (q : VE K Θ to env h fun o h1 => VE K Θ ti env h1 fun i h2 => ∃ n z xs j d0, o = .own n ∧ i = dI z ∧ h2[n]? = some (some (.lst xs)) ∧ ixN xs.length z = some j ∧ xs[j]? = some d0 ∧
    VE K Θ te env h2 fun y h3 => h3 = h2 ∧ V2 K Θ tip d0 y h3 fun w h4 => h4 = h3 ∧ E.nx env (h4.set n (some (.lst (xs.set j w))))) : VS K Θ (tAugS to ti te (rIxL K) tip rSetL) E env h := fun F ρ σ H D' rl e k =>
  q F ρ σ H _ rl e fun o h1 vo F1 ρ1 H1 s1 p1 r1 dlo q1 => q1 F1 ρ1 σ H1 _ r1 (e.mono s1 p1) fun i h2 vi F2 ρ2 H2 s2 p2 r2 di q2 => by
    obtain ⟨n, z, xs, j, d0, rfl, rfl, hx, hj, hd, q2⟩ := q2
    obtain rfl := di.int
    cases dlo with
    | own ho =>
      have ho' := p2 _ _ ho
      obtain ⟨a, u, e1, e2, e3, vs, e4, e5⟩ := r2.own _ _ hx
      rw [ho'] at e1; cases e1
      subst e4
      have hat : atI xs z = some d0 := by unfold atI; rw [hj]; exact hd
      obtain ⟨v0, g1, g2⟩ := e5.at_ hat
      refine ⟨_, vs, z, v0, rfl, rfl, .of e3, g1, ?_⟩
      refine q2 F2 ρ2 σ H2 _ r2 (e.mono (s1.trans s2) (p1.trans p2)) fun y h3 vy F3 ρ3 H3 s3 p3 r3 dy q3 => ?_
      obtain ⟨rfl, q3⟩ := q3
      refine q3 F3 ρ3 H3 v0 vy _ r3 (g2.mono s3 p3) dy fun w h4 vw F4 ρ4 H4 s4 p4 r4 dw q4 => ?_
      obtain ⟨rfl, q4⟩ := q4
      have ho4 := p4 _ _ (p3 _ _ ho')
      obtain ⟨a4, u4, f1, f2, f3, vs4, f4, f5⟩ := r4.own _ _ hx
      rw [ho4] at f1; cases f1
      subst f4
      refine ⟨_, vs4, z, j, rfl, rfl, f3, by rw [← f5.len]; exact hj, ?_⟩
      exact k.nx env _ F4 ρ4 σ _ (s1.trans (s2.trans (s3.trans s4))) (p1.trans (p2.trans (p3.trans p4))) (r4.put (o' := .lst (xs.set j w)) hx ho4 ⟨_, rfl, f5.set dw j⟩) (e.mono (s1.trans (s2.trans (s3.trans s4))) (p1.trans (p2.trans (p3.trans p4)))) q4
/-! ### what is owned names only what is older -/
def lowD (n : Nat) : D → Prop
  | .p _ => True
  | .own i => i < n
def lowO (n : Nat) : OO → Prop
  | .lst xs => ∀ x ∈ xs, lowD n x
  | .ins _ fs => ∀ q ∈ fs, lowD n q.2
  | .dK kvs => ∀ q ∈ kvs, lowD n q.2
  | .dT kvs => ∀ q ∈ kvs, lowD n q.2
/-- what stands there was there, or names only what is older -/
def lowH (h1 h : Hs) : Prop := ∀ (i : Nat) (o : OO), h[i]? = some (some o) → h1[i]? = some (some o) ∨ lowO h1.length o
theorem lowH.refl (h : Hs) : lowH h h := fun _ _ e => .inl e
theorem lowH.set {h1 h : Hs} {n : Nat} {o : OO} (l : lowH h1 h) (lo : lowO h1.length o) : lowH h1 (h.set n (some o)) := fun i u e => by
  by_cases hi : n = i
  · subst hi
    have hl : n < h.length := by
      have := (List.getElem?_eq_some_iff.mp e).1
      rwa [List.length_set] at this
    rw [List.getElem?_set_self hl] at e
    cases e
    exact .inr lo
  · rw [List.getElem?_set_ne hi] at e
    exact l i u e
theorem RD.low {F : Hp} {ρ : List Addr} {p : Addr} {d : D} {v : V} (l : lowD ρ.length d) (b : RD K F (ρ ++ [p]) d v) : RD K F ρ d v := by
  cases b with
  | p b => exact .p b
  | own b =>
    have hl : _ < ρ.length := l
    rw [List.getElem?_append_left hl] at b
    exact .own b
theorem RA.low' {F : Hp} {ρ : List Addr} {p : Addr} {ds : List D} {vs : List V} (b : RA K F (ρ ++ [p]) ds vs) : (∀ x ∈ ds, lowD ρ.length x) → RA K F ρ ds vs := by
  induction b with
  | nil => exact fun _ => .nil
  | cons b _ ih => exact fun l => .cons (b.low (l _ List.mem_cons_self)) (ih fun x hx => l x (List.mem_cons_of_mem _ hx))
theorem RF.low' {F : Hp} {ρ : List Addr} {p : Addr} {ds : List (Str × D)} {vs : List (Str × V)} (b : RF K F (ρ ++ [p]) ds vs) : (∀ x ∈ ds, lowD ρ.length x.2) → RF K F ρ ds vs := by
  induction b with
  | nil => exact fun _ => .nil
  | cons b _ ih => exact fun l => .cons (b.low (l _ List.mem_cons_self)) (ih fun x hx => l x (List.mem_cons_of_mem _ hx))
theorem RK.low' {κ : Type} {F : Hp} {ρ : List Addr} {p : Addr} {ds : List (κ × D)} {vs : List (κ × V)} (b : RK K F (ρ ++ [p]) ds vs) : (∀ x ∈ ds, lowD ρ.length x.2) → RK K F ρ ds vs := by
  induction b with
  | nil => exact fun _ => .nil
  | cons b _ ih => exact fun l => .cons (b.low (l _ List.mem_cons_self)) (ih fun x hx => l x (List.mem_cons_of_mem _ hx))
theorem RO.low' {F : Hp} {ρ : List Addr} {p : Addr} {o : OO} {u : HO} (l : lowO ρ.length o) (b : RO K F (ρ ++ [p]) o u) : RO K F ρ o u := by
  cases o with
  | lst xs =>
    obtain ⟨vs, e, r⟩ := b
    exact ⟨vs, e, r.low' l⟩
  | ins C fs =>
    obtain ⟨dx, gs, e, r⟩ := b
    exact ⟨dx, gs, e, r.low' l⟩
  | dK kvs =>
    obtain ⟨gs, e, r⟩ := b
    exact ⟨gs, e, r.low' l⟩
  | dT kvs =>
    obtain ⟨gs, e, r⟩ := b
    exact ⟨gs, e, r.low' l⟩
abbrev accO (acc : List P) : Option OO := some (.lst (acc.map D.p))
theorem lcI_run {wi : TI} {g : TG} {tt : TT} {te : TE} {vs : List Nat} (tg : TgOk g vs) {F : Hp} {ρ : List Addr} {σ : L2.St} {H1 : Hp} {ds : List D} {C : Hs → Prop} {h1 : Hs} {J : It} (Q : VK) (Inv : Nat → List P → Hs → Prop)
    (r1 : Rel K Θ F ρ h1 H1) (e : REnv K F ρ env σ) (it : ItOk K Θ F ρ C ds J) (hl : ds.length < sizeLine) (i0 : Inv 0 [] h1)
    (hI : ∀ i acc h', Inv i acc h' → h'.length = h1.length ∧ lowH h1 h' ∧ C (h' ++ [accO acc]))
    (turn : ∀ i d acc h', ds[i]? = some d → Inv i acc h' → VG K Θ g d (wipeD env vs) (h' ++ [accO acc]) fun env' h2 => VT K Θ tt env' h2 fun b h3 => if b = true then VE K Θ te env' h3 (fun y h4 => ∃ p h5, y = .p p ∧ h4 = h5 ++ [accO acc] ∧ Inv (i + 1) (acc ++ [p]) h5) else ∃ h5, h3 = h5 ++ [accO acc] ∧ Inv (i + 1) acc h5)
    (fin : ∀ (p : Addr) (F' : Hp) (us : List V) (H : Hp) (acc : List P) (h' : Hs), Same F F' → F' p = none → H p = some (.lst us) → H1 p = none → Inv ds.length acc h' → Rel K Θ F' (ρ ++ [p]) (h' ++ [accO acc]) H → RPs K F' acc us → Rel K Θ F' ρ h' H → Q (.ref p) H) :
    ∀ D, H1 D = none → ∃ W : Nat → Nat → Hp → Prop, (∃ m, W 0 m (upd H1 D (.lst []))) ∧ ∀ i m H, W i m H → (J.stop i H ∧ Q (.ref D) H) ∨
      (J.go i H ∧ ∃ Nx : Hp → Prop, (∀ H', Nx H' → ∃ m', m' < m ∧ W (i + 1) m' H') ∧ ∀ x H', J.yld i H x H' → g x (wipe σ vs) H' fun σ2 H2 => wipe σ2 vs = wipe σ vs ∧ tt σ2 H2 fun b H3 => if b = true then te σ2 H3 fun y H4 => ∃ acc, H4 D = some (.lst acc) ∧ acc.length < sizeLine ∧ Nx (upd H4 D (.lst (acc ++ [y]))) else Nx H3) := by
  intro p hp
  refine ⟨fun i m H => m = ds.length - i ∧ i ≤ ds.length ∧ ∃ F' acc h', Same F F' ∧ acc.length ≤ i ∧ Inv i acc h' ∧ Rel K Θ F' (ρ ++ [p]) (h' ++ [accO acc]) H, ⟨ds.length, by simp, Nat.zero_le _, F, [], h1, Same.refl _, Nat.le_refl _, i0, r1.push (o := .lst []) hp ⟨[], rfl, .nil⟩⟩, ?_⟩
  rintro i m H ⟨rfl, hi, F', acc, h', s, hacc, iv, r⟩
  obtain ⟨hlen, hlow, hC⟩ := hI i acc h' iv
  have hpl : (ρ ++ [p])[h1.length]? = some p := by rw [← r1.len]; simp
  have got : ∀ (F' : Hp) (H : Hp) (h' : Hs) (xs : List P), h'.length = h1.length → Rel K Θ F' (ρ ++ [p]) (h' ++ [accO xs]) H → ∃ us, H p = some (.lst us) ∧ F' p = none ∧ RPs K F' xs us := fun F' H h' xs el r => by
    obtain ⟨a, u, e1, e2, e3, us, e4, e5⟩ := r.own h1.length (.lst (xs.map D.p)) (by rw [← el]; simp)
    rw [hpl] at e1; cases e1
    subst e4
    exact ⟨us, e3, e2, e5.pure⟩
  by_cases hlt : i < ds.length
  · refine .inr ⟨it.go i F' (ρ ++ [p]) _ H s (Pre.push _ _) r hC hlt, fun H' => ∃ F2 acc2 h2, Same F F2 ∧ acc2.length ≤ i + 1 ∧ Inv (i + 1) acc2 h2 ∧ Rel K Θ F2 (ρ ++ [p]) (h2 ++ [accO acc2]) H', fun H' ⟨F2, acc2, h2, s2, l2, iv2, r2⟩ => ⟨ds.length - (i + 1), by omega, rfl, hlt, F2, acc2, h2, s2, l2, iv2, r2⟩, fun x H' hy => ?_⟩
    have hd : ds[i]? = some ds[i] := List.getElem?_eq_getElem hlt
    obtain ⟨F2, s2, r2, dx⟩ := it.yld i _ F' (ρ ++ [p]) _ H x H' s (Pre.push _ _) r hC hd hy
    refine tg x σ H' _ ?_
    refine turn i _ acc h' hd iv F2 (ρ ++ [p]) (wipe σ vs) H' x _ r2 ((e.mono (s.trans s2) (Pre.push _ _)).wipes vs) dx fun env3 h3 F3 ρ3 σ3 H3 s3 p3 r3 e3 q3 => ?_
    refine q3 F3 _ σ3 H3 _ r3 e3 fun b h4 F4 ρ4 H4 s4 p4 r4 q4 => ?_
    have ss : Same F F4 := s.trans (s2.trans (s3.trans s4))
    cases b with
    | true =>
      rw [if_pos rfl] at q4 ⊢
      refine q4 F4 _ σ3 H4 _ r4 (e3.mono s4 p4) fun y h5 v F5 ρ5 H5 s5 p5 r5 dv q5 => ?_
      obtain ⟨pp, h6, rfl, rfl, iv6⟩ := q5
      obtain ⟨hlen6, hlow6, hC6⟩ := hI _ _ _ iv6
      have eρ : ρ5 = ρ ++ [p] := pre_eq (p3.trans (p4.trans p5)) (by rw [r5.len, List.length_append, List.length_append, hlen6, r1.len]; rfl)
      subst eρ
      obtain ⟨us, g1, g2, g3⟩ := got F5 H5 h6 _ hlen6 r5
      refine ⟨us, g1, ?_, F5, acc ++ [pp], h6, ss.trans s5, ?_, iv6, ?_⟩
      · rw [← g3.len]; omega
      · rw [List.length_append]; exact Nat.succ_le_succ hacc
      · have z := r5.put (i := h1.length) (o := .lst (acc.map D.p)) (o' := .lst ((acc ++ [pp]).map D.p)) (by rw [← hlen6]; simp) hpl ⟨us ++ [v], rfl, by
          rw [List.map_append]
          exact g3.data.append (.cons dv .nil)⟩
        rw [← hlen6, List.set_append_right _ _ (Nat.le_refl _), Nat.sub_self] at z
        exact z
    | false =>
      rw [if_neg Bool.false_ne_true] at q4 ⊢
      obtain ⟨h6, rfl, iv6⟩ := q4
      obtain ⟨hlen6, hlow6, hC6⟩ := hI _ _ _ iv6
      have eρ : ρ4 = ρ ++ [p] := pre_eq (p3.trans p4) (by rw [r4.len, List.length_append, List.length_append, hlen6, r1.len]; rfl)
      subst eρ
      exact ⟨F4, acc, h6, ss, Nat.le_succ_of_le hacc, iv6, r4⟩
  · have ei : i = ds.length := by omega
    subst ei
    refine .inl ⟨it.stop F' (ρ ++ [p]) _ H s (Pre.push _ _) r hC, ?_⟩
    obtain ⟨us, g1, g2, g3⟩ := got F' H h' _ hlen r
    refine fin p F' us H acc h' s g2 g1 hp iv r g3 (r.pop (by rw [r1.len, hlen]) (r1.wish.mono s (Pre.refl _)) fun i o a hi ha u q => ?_)
    rcases hlow i o hi with z | z
    · obtain ⟨a0, u0, f1, f2, f3, f4⟩ := r1.own i o z
      exact f4.low q
    · exact q.low' (by rw [r1.len]; exact z)
/-- [..]: a new list that stays; the turns may change what is owned -/
theorem ve_lcI {wi : TI} {g : TG} {tt : TT} {te : TE} {vs : List Nat} (tg : TgOk g vs)
    (q : VI K Θ wi env h fun ds C h1 => ∃ Inv : Nat → List P → Hs → Prop, ds.length < sizeLine ∧ Inv 0 [] h1 ∧ (∀ i acc h', Inv i acc h' → h'.length = h1.length ∧ lowH h1 h' ∧ C (h' ++ [accO acc])) ∧
      (∀ i d acc h', ds[i]? = some d → Inv i acc h' → VG K Θ g d (wipeD env vs) (h' ++ [accO acc]) fun env' h2 => VT K Θ tt env' h2 fun b h3 => if b = true then VE K Θ te env' h3 (fun y h4 => ∃ p h5, y = .p p ∧ h4 = h5 ++ [accO acc] ∧ Inv (i + 1) (acc ++ [p]) h5) else ∃ h5, h3 = h5 ++ [accO acc] ∧ Inv (i + 1) acc h5) ∧
      (∀ acc h', Inv ds.length acc h' → R (dL acc) h')) : VE K Θ (tLc wi g tt te vs) env h R := fun F ρ σ H Q rl e k =>
  q F ρ σ H _ rl e fun ds C h1 J F1 ρ1 H1 s1 p1 r1 it q1 => by
    obtain ⟨Inv, hl, i0, hI, turn, q1⟩ := q1
    refine lcI_run (wi := wi) tg Q Inv r1 (e.mono s1 p1) it hl i0 hI turn fun p F' us H acc h' s hn hp hp1 iv r rp r2 => ?_
    have sn : Same F' (upd F' p (.lst us)) := same_new hn
    refine k _ h' (.ref p) (upd F' p (.lst us)) ρ1 H (s1.trans (s.trans sn)) p1 ?_ (.p (.lst (.of upd_same) (rp.mono sn))) (q1 acc h' iv)
    have np : ∀ P ∈ Θ.tabs, P ≠ p := fun P hP => by
      obtain ⟨ps, z, _⟩ := (r2.tab P hP).2
      rintro rfl
      rw [hp] at z
      cases z
    obtain ⟨hlen, hlow, _⟩ := hI _ _ _ iv
    refine ⟨⟨fun b o e => ?_, r2.len, fun i o hi => ?_, r2.inj, fun P hP => ⟨by rw [upd_ne (np P hP)]; exact (r2.tab P hP).1, (r2.tab P hP).2⟩⟩, r2.wish.mono sn (Pre.refl _)⟩
    · by_cases hb : b = p
      · subst hb; rw [upd_same] at e; rw [hp]; exact e
      · rw [upd_ne hb] at e; exact r2.same b o e
    · obtain ⟨a, u, f1, f2, f3, f4⟩ := r2.own i o hi
      have hil : i < h'.length := (List.getElem?_eq_some_iff.mp hi).1
      have ha : a ≠ p := fun z => by
        subst z
        have n1 : (h' ++ [accO acc])[i]? = some (some o) := by rw [List.getElem?_append_left hil]; exact hi
        have n2 : (h' ++ [accO acc])[h'.length]? = some (accO acc) := by simp
        have a1 : (ρ1 ++ [a])[i]? = some a := by rw [List.getElem?_append_left (by rw [r2.len]; exact hil)]; exact f1
        have a2 : (ρ1 ++ [a])[h'.length]? = some a := by rw [← r2.len]; simp
        exact absurd (r.inj i h'.length _ _ a n1 n2 a1 a2) (by omega)
      exact ⟨a, u, f1, by rw [upd_ne ha]; exact f2, f3, f4.mono sn (Pre.refl _)⟩
end
end Kb

/-! `is` a truth; lists that stay, joined; texts: times, join; `in` a list of texts; great divisors. -/
namespace Kb
open PySem PySem.Spec PyProof.Rows L2
section
variable {X : Cx}
def rIsBl : R2 := fun x y H Q => ∃ b : Bool, y = .bl b ∧ (∀ a, x ≠ .ref a) ∧ Q (.bl (decide (x = .bl b))) H
theorem op_isBlAny : OpR X (compareOp .Is) rIsBl := by
  intro pins s σ H x y v u Q I rx ry h
  obtain ⟨b, rfl, nr, q⟩ := h
  cases (show u = Value.bool b from ry)
  by_cases e : x = .bl b
  · subst e
    cases (show v = Value.bool b from rx)
    exact wpAny_is_self rfl ⟨.bl true, H, I, rfl, by simpa using q⟩
  · have qn : EP X pins σ Q (.bool false) s := ⟨.bl false, H, I, rfl, by simpa [e] using q⟩
    cases x with
    | non => cases rx; exact wpAny_is_other rfl (by intro z; cases z) qn
    | bl c => cases (show v = Value.bool c from rx); exact wpAny_is_other rfl (fun z => e (by rw [Value.bool.inj z])) qn
    | int i => obtain ⟨t, rfl⟩ := rx; exact wpAny_is_other rfl (by intro z; cases z) qn
    | str i => obtain ⟨t, rfl⟩ := rx; exact wpAny_is_other rfl (by intro z; cases z) qn
    | byt i => obtain ⟨t, rfl⟩ := rx; exact wpAny_is_other rfl (by intro z; cases z) qn
    | flt i => obtain ⟨t, rfl⟩ := rx; exact wpAny_is_other rfl (by intro z; cases z) qn
    | ref a => exact absurd rfl (nr a)
    | ty n => cases rx; exact wpAny_is_other rfl (by intro z; cases z) qn
def rIsNG : R2 := fun x y H Q => y = V.non ∧ Q (.bl (decide (x = .non))) H
/-- x is None, x is True, x is False -/
def rIsU : R2 := fun x y H Q => rIsNG x y H Q ∨ rIsBl x y H Q
theorem op_isU : OpR X (compareOp .Is) rIsU := OpR.or (r := rIsNG) op_isN op_isBlAny
/-- lists that stay, one behind the other: a new list -/
def rCatL (K : PySem.W.Frag) : R2 := fun x y H Q => ∃ l b xs zs, x = .ref l ∧ y = .ref b ∧ SqL K H l xs ∧ SqL K H b zs ∧ xs.length + zs.length ≤ sizeLine ∧ ∀ p, H p = none → Q (.ref p) (upd H p (.lst (xs ++ zs)))
theorem op_catL : OpR X (binaryOp .Add) (rCatL X.K) := by
  intro pins s σ H x y v u Q I rx ry h
  obtain ⟨l, b, xs, zs, rfl, rfl, hH, hB, hz, q⟩ := h
  cases rx
  cases ry
  obtain ⟨its, r, pl, _⟩ := I.list hH
  obtain ⟨its2, r2, pl2, _⟩ := I.list hB
  obtain ⟨⟨cls, dd, data, sl⟩, ho, hc, n, hd⟩ := pl.isList
  obtain ⟨⟨cls2, dd2, data2, sl2⟩, ho2, hc2, n2, hd2⟩ := pl2.isList
  simp only at hc hd hc2 hd2
  subst hc hd hc2 hd2
  have e : its.toArray ++ its2.toArray = (its ++ its2).toArray := by simp
  refine concat_meets ⟨_, ho, rfl⟩ ⟨_, ho2, rfl⟩ noFill_list_add seq_list_add PySem.F.slot_list_add PySem.F.entry_list_add (PySem.F.args_list_add_2 _ _) (list_addW l b its.toArray its2.toArray n n2 dd dd2 sl sl2 (by simp only [List.size_toArray]; rw [← r.length, ← r2.length]; exact hz)) ⟨ho, ho2, ?_⟩
  rw [e]
  exact ⟨.ref _, _, I.lnew (t' := s.toks) (r.append r2) (by rw [List.length_append]; exact hz), rfl, q _ I.fresh⟩
def rAddV (K : PySem.W.Frag) : R2 := fun x y H Q => rAddI x y H Q ∨ (rAddS' x y H Q ∨ (rCatT K x y H Q ∨ rCatL K x y H Q))
theorem op_addV : OpR X (binaryOp .Add) (rAddV X.K) := OpR.or (r := rAddI) op_add (OpR.or (r := rAddS') op_add_str (op_catT.or op_catL))
theorem op_addVK {K : PySem.W.Frag} (hK : X.K = K) : OpR X (binaryOp .Add) (rAddV K) := hK ▸ op_addV
/-- so many times the text -/
def repS (x : Str) (n : Int) : Str := ⟨(List.replicate n.toNat x.cps).foldl (· ++ ·) #[]⟩
theorem repS_cps (x : Str) (n : Int) : (repS x n).cps.toList = (List.replicate n.toNat x.cps.toList).flatten := by
  unfold repS
  have g : ∀ (k : Nat) (a : Array Nat), ((List.replicate k x.cps).foldl (· ++ ·) a).toList = a.toList ++ (List.replicate k x.cps.toList).flatten := by
    intro k
    induction k with
    | zero => intro a; simp
    | succ k ih => intro a; rw [List.replicate_succ, List.foldl_cons, ih]; simp [List.replicate_succ]
  rw [g]
  simp
theorem repS_len (x : Str) (n : Int) : (repS x n).length = n.toNat * x.length := by
  show (repS x n).cps.size = _
  rw [← Array.length_toList, repS_cps]
  simp [Str.length]
def rMulS : R2 := fun x y H Q => ∃ i j, x = .str i ∧ y = .int j ∧ -(2 ^ 20) ≤ j ∧ j < 2 ^ 20 ∧ i.length ≤ 2 ^ 20 ∧ i.length * j.toNat ≤ sizeLine ∧ Q (.str (repS i j)) H
theorem op_mulS : OpR X (binaryOp .Mult) rMulS := by
  intro pins s σ H x y v u Q I rx ry h
  obtain ⟨i, j, rfl, rfl, h1, h2, h3, h4, q⟩ := h
  obtain ⟨t, rfl⟩ := rx
  obtain ⟨t', rfl⟩ := ry
  refine PySem.P.mul_str ?_ (fun hn _ => ?_) (fun hn _ => ?_) ?_
  · rw [decide_eq_false (by omega), decide_eq_false (by omega)]; rfl
  · intro hgt
    have hj : 0 < j := by omega
    have z : (i.length : Int) * j ≤ 2 ^ 63 - 1 := by
      have : (i.length : Int) * j ≤ 2 ^ 20 * 2 ^ 20 := Int.mul_le_mul (by omega) (by omega) (by omega) (by omega)
      omega
    have := (Int.le_ediv_iff_mul_le hj).mpr z
    omega
  · unfold Builtin.Str.tooLong
    exact decide_eq_false (by have e := sizeLine_eq; omega)
  · have fs : ∀ (m : Str), m = repS i j → EP X pins σ Q (.str m s.toks) { s with toks := s.toks + 1 } := fun m e => by
      subst e
      exact ⟨.str _, H, I.tok _, ⟨_, rfl⟩, q⟩
    by_cases hn : j < 1
    · rw [if_pos hn]
      refine ⟨by decide, fs _ ?_⟩
      have : j.toNat = 0 := by omega
      unfold repS
      rw [this]
      rfl
    · rw [if_neg hn]
      by_cases h1 : (j == 1 || i.length == 0) = true
      · rw [if_pos h1]
        refine ⟨.str i, H, I, ⟨_, rfl⟩, ?_⟩
        have e : repS i j = i := by
          have e0 : (repS i j).cps.toList = i.cps.toList := by
            rw [repS_cps]
            rcases Bool.or_eq_true_iff.mp h1 with z | z
            · have : j = 1 := by simpa using z
              subst this
              simp
            · have hz : i.cps.toList = [] := by
                have : i.cps.size = 0 := by simpa [Str.length] using z
                rw [← List.length_eq_zero_iff, Array.length_toList]; exact this
              rw [hz]
              simp
          have hc := Array.toList_inj.mp e0
          cases hr : repS i j
          cases i
          rw [hr] at hc
          simpa using hc
        rw [← e]; exact q
      · rw [if_neg h1]
        refine ⟨?_, fs _ rfl⟩
        show (repS i j).length ≤ _
        rw [repS_len, Nat.mul_comm]
        exact h4
def rMulI : R2 := rI CMulX fun i j => .int (i * j)
def rMulU : R2 := fun x y H Q => rMulI x y H Q ∨ rMulS x y H Q
theorem op_mulU : OpR X (binaryOp .Mult) rMulU := OpR.or (r := rMulI) op_mulX op_mulS
/-- < of truths, of numbers, of texts -/
def b2n (b : Bool) : Int := if b then 1 else 0
def rLtB : R2 := fun x y H Q => ∃ i j, x = .bl i ∧ y = .bl j ∧ Q (.bl (decide (b2n i < b2n j))) H
theorem op_ltB : OpR X (compareOp .Lt) rLtB := by
  intro pins s σ H x y v u Q I rx ry h
  obtain ⟨i, j, rfl, rfl, q⟩ := h
  cases (show v = Value.bool i from rx)
  cases (show u = Value.bool j from ry)
  exact PyProof.Rows.lt_bool ⟨.bl _, H, I, rfl, by cases i <;> cases j <;> exact q⟩
def rLtI : R2 := rI0 fun i j => .bl (decide (i < j))
def rLtS : R2 := fun x y H Q => ∃ i j, x = .str i ∧ y = .str j ∧ Q (.bl (decide (i.cps.toList < j.cps.toList))) H
def rLtG : R2 := fun x y H Q => rLtI x y H Q ∨ (rLtB x y H Q ∨ rLtS x y H Q)
theorem op_ltG : OpR X (compareOp .Lt) rLtG := OpR.or (r := rLtI) op_lt (OpR.or (r := rLtB) op_ltB op_lt_str)
end
section
variable {K : PySem.W.Frag} {Θ : Ctx} {env : Env'} {h : Hs} {R : D → Hs → Prop} {x y : D}
/-- is it this truth -/
def isBlD (b : Bool) : D → Bool
  | .p (.bl c) => decide (c = b)
  | _ => false
/-- no thing of the heap -/
def flatD : D → Bool
  | .p .non => true
  | .p (.bl _) => true
  | .p (.int _) => true
  | .p (.str _) => true
  | _ => false
theorem v2_isNU (q : R (dB (isNonD x)) h) : V2 K Θ rIsU x dN h R := v2_or1 (v2_isN q)
theorem v2_isBl {b : Bool} (hx : flatD x = true) (q : R (dB (isBlD b x)) h) : V2 K Θ rIsU x (dB b) h R := v2_or2 fun F ρ H vx vy Q rl a c k => by
  obtain rfl := c.bl
  have kk := k _ h _ F ρ H (Same.refl _) (Pre.refl _) rl (.p (.bl _)) q
  cases a with
  | own _ => cases hx
  | p a =>
    cases a with
    | non => exact ⟨b, rfl, (fun _ z => by cases z), kk⟩
    | bl c =>
      refine ⟨b, rfl, (fun _ z => by cases z), ?_⟩
      have e : decide (V.bl c = V.bl b) = decide (c = b) := decide_eq_decide.mpr ⟨V.bl.inj, congrArg V.bl⟩
      rw [e]
      exact kk
    | int c => exact ⟨b, rfl, (fun _ z => by cases z), kk⟩
    | str c => exact ⟨b, rfl, (fun _ z => by cases z), kk⟩
    | tup _ _ => cases hx
    | lst _ _ => cases hx
    | ins _ _ => cases hx
    | ty _ => cases hx
    | cls _ => cases hx
theorem v2_addVI {i j : Int} (q : R (dI (i + j)) h) : V2 K Θ (rAddV K) (dI i) (dI j) h R := v2_or1 (v2_I0 q)
theorem v2_addVS {i j : Str} (hl : i.length + j.length ≤ sizeLine) (q : R (dS (i ++ j)) h) : V2 K Θ (rAddV K) (dS i) (dS j) h R := v2_or2 (v2_or1 fun F ρ H vx vy Q rl a b k => by
  obtain rfl := a.str
  obtain rfl := b.str
  exact ⟨i, j, rfl, rfl, hl, k _ h _ F ρ H (Same.refl _) (Pre.refl _) rl (.p (.str _)) q⟩)
theorem v2_addVL {i j : List P} (hl : i.length + j.length ≤ sizeLine) (q : R (dL (i ++ j)) h) : V2 K Θ (rAddV K) (dL i) (dL j) h R := v2_or2 (v2_or2 (v2_or2 fun F ρ H vx vy Q rl a b k => by
  cases a with
  | p a =>
    cases b with
    | p b =>
      cases a with
      | lst a1 a2 =>
        cases b with
        | lst b1 b2 =>
          refine ⟨_, _, _, _, rfl, rfl, rl.same.seq a1, rl.same.seq b1, by rw [← a2.len, ← b2.len]; exact hl, fun p hp => ?_⟩
          have sn := fun o => same_new (o := o) (rl.free hp)
          exact k _ h _ _ ρ _ (sn _) (Pre.refl _) (rl.frz hp) (.p (.lst (.of upd_same) ((a2.append b2).mono (sn _)))) q))
theorem v2_addVT {i j : List P} (hn : i ≠ []) (hl : i.length + j.length ≤ sizeLine) (q : R (dT (i ++ j)) h) : V2 K Θ (rAddV K) (dT i) (dT j) h R := v2_or2 (v2_or2 (v2_or1 fun F ρ H vx vy Q rl a b k => by
  cases a with
  | p a =>
    cases b with
    | p b =>
      cases a with
      | tup a1 a2 =>
        cases b with
        | tup b1 b2 =>
          refine ⟨_, _, _, _, rfl, rfl, sqT_mono rl.same a1, sqT_mono rl.same b1, fun z => ?_, by rw [← a2.len, ← b2.len]; exact hl, fun z => ?_, fun z p hp => ?_⟩
          · subst z; cases a2; exact hn rfl
          · subst z; cases b2
            rw [List.append_nil] at q
            exact k _ h _ F ρ H (Same.refl _) (Pre.refl _) rl (.p (.tup a1 a2)) q
          · have sn := fun o => same_new (o := o) (rl.free hp)
            exact k _ h _ _ ρ _ (sn _) (Pre.refl _) (rl.frz hp) (.p (.tup (.of upd_same) ((a2.append b2).mono (sn _)))) q))
theorem v2_mulU {i j : Int} (c : CMulX i j) (q : R (dI (i * j)) h) : V2 K Θ rMulU (dI i) (dI j) h R := v2_or1 (v2_mul c q)
theorem v2_mulS {i : Str} {j : Int} (h1 : -(2 ^ 20) ≤ j ∧ j < 2 ^ 20) (h2 : i.length ≤ 2 ^ 20) (h3 : i.length * j.toNat ≤ sizeLine) (q : R (dS (repS i j)) h) : V2 K Θ rMulU (dS i) (dI j) h R := v2_or2 fun F ρ H vx vy Q rl a b k => by
  obtain rfl := a.str
  obtain rfl := b.int
  exact ⟨i, j, rfl, rfl, h1.1, h1.2, h2, h3, k _ h _ F ρ H (Same.refl _) (Pre.refl _) rl (.p (.str _)) q⟩
theorem v2_divW {i j : Int} (c : 0 < j ∧ j.natAbs.log2 < 9000) (q : R (dI (i / j)) h) : V2 K Θ (rI CDivW fun i j => V.int (i / j)) (dI i) (dI j) h R := v2_I (g := fun i j => i / j) c q
theorem v2_ltI {i j : Int} (q : R (dB (decide (i < j))) h) : V2 K Θ rLtG (dI i) (dI j) h R := v2_or1 (v2_lt q)
theorem v2_ltB {i j : Bool} (q : R (dB (decide (b2n i < b2n j))) h) : V2 K Θ rLtG (dB i) (dB j) h R := v2_or2 (v2_or1 fun F ρ H vx vy Q rl a b k => by
  obtain rfl := a.bl
  obtain rfl := b.bl
  exact ⟨i, j, rfl, rfl, k _ h _ F ρ H (Same.refl _) (Pre.refl _) rl (.p (.bl _)) q⟩)
theorem v2_ltS {i j : Str} (q : R (dB (decide (i.cps.toList < j.cps.toList))) h) : V2 K Θ rLtG (dS i) (dS j) h R := v2_or2 (v2_or2 fun F ρ H vx vy Q rl a b k => by
  obtain rfl := a.str
  obtain rfl := b.str
  exact ⟨i, j, rfl, rfl, k _ h _ F ρ H (Same.refl _) (Pre.refl _) rl (.p (.bl _)) q⟩)
/-- texts -/
theorem RPs.strs {F : Hp} : ∀ {ns : List Str} {vs : List V}, RPs K F (ns.map P.str) vs → vs = ns.map V.str
  | [], _, .nil => rfl
  | n :: ns, _, .cons (.str _) r => by
    rw [RPs.strs r]
    rfl
theorem inV_strs {x : Str} : ∀ {ns : List Str}, inV (.str x) (ns.map V.str) = decide (x ∈ ns)
  | [] => rfl
  | n :: ns => by
    have ih := inV_strs (x := x) (ns := ns)
    unfold inV at ih ⊢
    rw [List.map_cons, List.any_cons, ih]
    show ((n == x) || _) = _
    by_cases e : n = x
    · simp [e]
    · simp [e, Ne.symm e]
/-- x in xs, texts -/
theorem v2_inS {x : Str} {ns : List Str} (q : R (dB (decide (x ∈ ns))) h) : V2 K Θ (rInU K) (dS x) (dL (ns.map P.str)) h R := v2_or1 fun F ρ H vx vy Q rl a b k => by
  obtain rfl := a.str
  cases b with
  | p b =>
    cases b with
    | lst b1 b2 =>
      have e := b2.strs
      subst e
      refine ⟨_, _, rfl, .inl (rl.same.seq b1), rfl, by simp [flatV], ?_⟩
      show Q (.bl (inV (.str x) (ns.map V.str))) H
      rw [inV_strs]
      exact k _ h _ F ρ H (Same.refl _) (Pre.refl _) rl (.p (.bl _)) q
theorem vm_join {a : Str} {ys : List Str} (hl : (ys.map (·.length)).sum + ys.length * a.length ≤ 16777216) (q : R (dS (Txt.join a ys)) h) :
    VM K Θ (fun x xs H Q => ∃ a p, ∃ ys : List Str, x = V.str a ∧ xs = [V.ref p] ∧ (SqL K H p (ys.map V.str) ∨ SqT K H p (ys.map V.str)) ∧ (ys.map (·.length)).sum + ys.length * a.length ≤ 16777216 ∧ Q (.str (Txt.join a ys)) H) (dS a) [dL (ys.map P.str)] h R := fun F ρ H vx vs Q rl b c k => by
  obtain rfl := b.str
  cases c with
  | cons c e =>
    cases e
    cases c with
    | p c =>
      cases c with
      | lst c1 c2 =>
        have e := c2.strs
        subst e
        exact ⟨a, _, ys, rfl, rfl, .inl (rl.same.seq c1), hl, k _ h _ F ρ H (Same.refl _) (Pre.refl _) rl (.p (.str _)) q⟩
theorem mt_joinK {X : Cx} (hK : X.K = K) : MtR X "str.join" (fun x xs H Q => ∃ a p, ∃ ys : List Str, x = .str a ∧ xs = [.ref p] ∧ (SqL K H p (ys.map V.str) ∨ SqT K H p (ys.map V.str)) ∧ (ys.map (·.length)).sum + ys.length * a.length ≤ 16777216 ∧ Q (.str (Txt.join a ys)) H) := hK ▸ mt_join
end
end Kb

/-! abs. -/
namespace Kb
open PySem PySem.Spec PyProof.Rows L2
section
variable {K : PySem.W.Frag} {Θ : Ctx} {env : Env'} {h : Hs} {R : D → Hs → Prop} {x y : D}
theorem vc_abs {i : Int} (q : R (dI (if i < 0 then -i else i)) h) : VC K Θ (fun xs H Q => ∃ i, xs = [V.int i] ∧ Q (.int (if i < 0 then -i else i)) H) [dI i] h R := fun F ρ H vs Q rl a k => by
  cases a with
  | cons a b =>
    cases b
    obtain rfl := a.int
    exact ⟨i, rfl, k _ h _ F ρ H (Same.refl _) (Pre.refl _) rl (.p (.int _)) q⟩
end
end Kb

/-! t < u, t <= u, t > u, t >= u for tuples of numbers and texts: items behind the first difference may be of any kind. -/
namespace Kb
open PySem PySem.Spec PyProof.Rows L2
/-- the answer of a comparison (op with up: < or <=; eq: with =) by the first difference -/
inductive CmpV (op : CmpOp) (up eq : Bool) (A : Around) (s : Shared) : List Value → List Value → Bool → Prop
  | nn : CmpV op up eq A s [] [] eq
  | nc (y : Value) (ys : List Value) : CmpV op up eq A s [] (y :: ys) up
  | cn (x : Value) (xs : List Value) : CmpV op up eq A s (x :: xs) [] (!up)
  | same {x y : Value} {xs ys : List Value} {c : Bool} : SeqAt.EqAt A s x y true → CmpV op up eq A s xs ys c → CmpV op up eq A s (x :: xs) (y :: ys) c
  | other {x y : Value} {xs ys : List Value} {c : Bool} : SeqAt.EqAt A s x y false → SeqAt.RcOp op A s x y c → CmpV op up eq A s (x :: xs) (y :: ys) c
section
open PySem.SeqAt
open PySem.AutoSeq1 (wpAny_loadPart')
open PySem.MeetsSeq PySem.MeetsSeq2 PySem.MeetsSeq3
/-- what is known while two tuples are walked -/
def WalkV (op : CmpOp) (up eq : Bool) (A : Around) (s0 : Shared) (na nb : Nat) (R : Bool → Prop) (rest : List (Value × Value)) : Prop :=
  ∃ us vs c, rest = us.zip vs ∧ CmpV op up eq A s0 us vs c ∧ us.length + nb = vs.length + na ∧ R c
theorem WalkV.last {op : CmpOp} {up eq : Bool} {A : Around} {s0 : Shared} {na nb : Nat} {R : Bool → Prop} (k : WalkV op up eq A s0 na nb R []) : (na = nb ∧ R eq) ∨ (na < nb ∧ R up) ∨ (nb < na ∧ R (!up)) := by
  obtain ⟨us, vs, c, hz, hc, hl, q⟩ := k
  cases hc with
  | nn => simp only [List.length_nil] at hl; exact .inl ⟨by omega, q⟩
  | nc y ys => simp only [List.length_nil, List.length_cons] at hl; exact .inr (.inl ⟨by omega, q⟩)
  | cn x xs => simp only [List.length_nil, List.length_cons] at hl; exact .inr (.inr ⟨by omega, q⟩)
  | same _ _ => rw [List.zip_cons_cons] at hz; cases hz
  | other _ _ => rw [List.zip_cons_cons] at hz; cases hz
theorem WalkV.step {op : CmpOp} {up eq : Bool} {A : Around} {s0 : Shared} {na nb : Nat} {R : Bool → Prop} {x y : Value} {rest : List (Value × Value)} (k : WalkV op up eq A s0 na nb R ((x, y) :: rest)) :
    (EqAt A s0 x y true ∧ WalkV op up eq A s0 na nb R rest) ∨ ∃ c, EqAt A s0 x y false ∧ RcOp op A s0 x y c ∧ R c := by
  obtain ⟨us, vs, c, hz, hc, hl, q⟩ := k
  cases hc with
  | nn => rw [List.zip_nil_left] at hz; cases hz
  | nc _ _ => rw [List.zip_nil_left] at hz; cases hz
  | cn _ _ => rw [List.zip_nil_right] at hz; cases hz
  | same he ht =>
    rw [List.zip_cons_cons] at hz
    injection hz with h1 h2
    injection h1 with h3 h4
    subst h3 h4
    simp only [List.length_cons] at hl
    exact .inl ⟨he, _, _, c, h2, ht, by omega, q⟩
  | other he ho =>
    rw [List.zip_cons_cons] at hz
    injection hz with h1 h2
    injection h1 with h3 h4
    subst h3 h4
    exact .inr ⟨c, he, ho, q⟩
theorem tupLtV (p q : Addr) (xs ys : Array Value) (i j : Nat) (da db : Option Addr) (sa sb : Array (Option Value)) (c : Bool) : Meets (Builtin.«tuple.__lt__» ⟨[.ref p, .ref q], []⟩)
    (fun A R s => s.heap.get? p = some ⟨.type "tuple", da, .seq xs i, sa⟩ ∧ s.heap.get? q = some ⟨.type "tuple", db, .seq ys j, sb⟩ ∧ CmpV .Lt true false A.in1 s xs.toList ys.toList c ∧ R (.ok (.ret (.bool c))) s) :=
  .of_wp fun prog w A R s hyp => by
    obtain ⟨H, G, D, T, O⟩ := s
    obtain ⟨ea, eb, hc, hR⟩ := hyp
    have sub := AutoSeq1.sub_tuple_tuple
    wp_walk using wpAny_loadPart' ea, wpAny_loadPart' eb, wpAny_forIn_list _ (fun rest z s' => z.1 = none ∧ s' = ⟨H, G, D, T, O⟩ ∧ WalkV .Lt true false A.in1 ⟨H, G, D, T, O⟩ xs.size ys.size (fun c => R (.ok (.ret (.bool c))) ⟨H, G, D, T, O⟩) rest) _
    case h => exact ⟨rfl, rfl, xs.toList, ys.toList, c, rfl, hc, by rw [Array.length_toList, Array.length_toList]; omega, hR⟩
    case turn =>
      rintro ⟨u, v⟩ rest z s' ⟨hz, rfl, k⟩
      rcases k.step with ⟨he, k'⟩ | ⟨c', he, ho, hR'⟩
      · refine wpAny_bind (he prog w _ _ ?_)
        wp_walk
        exact ⟨rfl, rfl, k'⟩
      · refine wpAny_bind (he prog w _ _ ?_)
        have hri : ∀ (E' : Value → Shared → Prop) (Q' : Value → Shared → Prop), Q' (.bool c') ⟨H, G, D, T, O⟩ → wpAny (model prog w) A.in1 (richCompare .Lt u v) Q' E' ⟨H, G, D, T, O⟩ := ho prog w
        wp_walk using hri
        exact ⟨_, rfl, hR'⟩
    case fin =>
      rintro ⟨z1, z2⟩ s' ⟨hz, rfl, k⟩
      simp only at hz
      subst hz
      have key : R (.ok (.ret (.bool (decide (xs.size < ys.size))))) ⟨H, G, D, T, O⟩ := by
        rcases k.last with ⟨e, r⟩ | ⟨e, r⟩ | ⟨e, r⟩
        all_goals first | (rw [decide_eq_true (by omega)]; exact r) | (rw [decide_eq_false (by omega)]; exact r)
      wp_walk
      exact ⟨_, rfl, by simpa [Builtin.Tuple.tupleCompareSizes] using key⟩
theorem tupLeV (p q : Addr) (xs ys : Array Value) (i j : Nat) (da db : Option Addr) (sa sb : Array (Option Value)) (c : Bool) : Meets (Builtin.«tuple.__le__» ⟨[.ref p, .ref q], []⟩)
    (fun A R s => s.heap.get? p = some ⟨.type "tuple", da, .seq xs i, sa⟩ ∧ s.heap.get? q = some ⟨.type "tuple", db, .seq ys j, sb⟩ ∧ CmpV .LtE true true A.in1 s xs.toList ys.toList c ∧ R (.ok (.ret (.bool c))) s) :=
  .of_wp fun prog w A R s hyp => by
    obtain ⟨H, G, D, T, O⟩ := s
    obtain ⟨ea, eb, hc, hR⟩ := hyp
    have sub := AutoSeq1.sub_tuple_tuple
    wp_walk using wpAny_loadPart' ea, wpAny_loadPart' eb, wpAny_forIn_list _ (fun rest z s' => z.1 = none ∧ s' = ⟨H, G, D, T, O⟩ ∧ WalkV .LtE true true A.in1 ⟨H, G, D, T, O⟩ xs.size ys.size (fun c => R (.ok (.ret (.bool c))) ⟨H, G, D, T, O⟩) rest) _
    case h => exact ⟨rfl, rfl, xs.toList, ys.toList, c, rfl, hc, by rw [Array.length_toList, Array.length_toList]; omega, hR⟩
    case turn =>
      rintro ⟨u, v⟩ rest z s' ⟨hz, rfl, k⟩
      rcases k.step with ⟨he, k'⟩ | ⟨c', he, ho, hR'⟩
      · refine wpAny_bind (he prog w _ _ ?_)
        wp_walk
        exact ⟨rfl, rfl, k'⟩
      · refine wpAny_bind (he prog w _ _ ?_)
        have hri : ∀ (E' : Value → Shared → Prop) (Q' : Value → Shared → Prop), Q' (.bool c') ⟨H, G, D, T, O⟩ → wpAny (model prog w) A.in1 (richCompare .LtE u v) Q' E' ⟨H, G, D, T, O⟩ := ho prog w
        wp_walk using hri
        exact ⟨_, rfl, hR'⟩
    case fin =>
      rintro ⟨z1, z2⟩ s' ⟨hz, rfl, k⟩
      simp only at hz
      subst hz
      have key : R (.ok (.ret (.bool (decide (xs.size ≤ ys.size))))) ⟨H, G, D, T, O⟩ := by
        rcases k.last with ⟨e, r⟩ | ⟨e, r⟩ | ⟨e, r⟩
        all_goals first | (rw [decide_eq_true (by omega)]; exact r) | (rw [decide_eq_false (by omega)]; exact r)
      wp_walk
      exact ⟨_, rfl, by simpa [Builtin.Tuple.tupleCompareSizes] using key⟩
theorem tupGtV (p q : Addr) (xs ys : Array Value) (i j : Nat) (da db : Option Addr) (sa sb : Array (Option Value)) (c : Bool) : Meets (Builtin.«tuple.__gt__» ⟨[.ref p, .ref q], []⟩)
    (fun A R s => s.heap.get? p = some ⟨.type "tuple", da, .seq xs i, sa⟩ ∧ s.heap.get? q = some ⟨.type "tuple", db, .seq ys j, sb⟩ ∧ CmpV .Gt false false A.in1 s xs.toList ys.toList c ∧ R (.ok (.ret (.bool c))) s) :=
  .of_wp fun prog w A R s hyp => by
    obtain ⟨H, G, D, T, O⟩ := s
    obtain ⟨ea, eb, hc, hR⟩ := hyp
    have sub := AutoSeq1.sub_tuple_tuple
    wp_walk using wpAny_loadPart' ea, wpAny_loadPart' eb, wpAny_forIn_list _ (fun rest z s' => z.1 = none ∧ s' = ⟨H, G, D, T, O⟩ ∧ WalkV .Gt false false A.in1 ⟨H, G, D, T, O⟩ xs.size ys.size (fun c => R (.ok (.ret (.bool c))) ⟨H, G, D, T, O⟩) rest) _
    case h => exact ⟨rfl, rfl, xs.toList, ys.toList, c, rfl, hc, by rw [Array.length_toList, Array.length_toList]; omega, hR⟩
    case turn =>
      rintro ⟨u, v⟩ rest z s' ⟨hz, rfl, k⟩
      rcases k.step with ⟨he, k'⟩ | ⟨c', he, ho, hR'⟩
      · refine wpAny_bind (he prog w _ _ ?_)
        wp_walk
        exact ⟨rfl, rfl, k'⟩
      · refine wpAny_bind (he prog w _ _ ?_)
        have hri : ∀ (E' : Value → Shared → Prop) (Q' : Value → Shared → Prop), Q' (.bool c') ⟨H, G, D, T, O⟩ → wpAny (model prog w) A.in1 (richCompare .Gt u v) Q' E' ⟨H, G, D, T, O⟩ := ho prog w
        wp_walk using hri
        exact ⟨_, rfl, hR'⟩
    case fin =>
      rintro ⟨z1, z2⟩ s' ⟨hz, rfl, k⟩
      simp only at hz
      subst hz
      have key : R (.ok (.ret (.bool (decide (xs.size > ys.size))))) ⟨H, G, D, T, O⟩ := by
        rcases k.last with ⟨e, r⟩ | ⟨e, r⟩ | ⟨e, r⟩
        all_goals first | (rw [decide_eq_true (by omega)]; exact r) | (rw [decide_eq_false (by omega)]; exact r)
      wp_walk
      exact ⟨_, rfl, by simpa [Builtin.Tuple.tupleCompareSizes] using key⟩
theorem tupGeV (p q : Addr) (xs ys : Array Value) (i j : Nat) (da db : Option Addr) (sa sb : Array (Option Value)) (c : Bool) : Meets (Builtin.«tuple.__ge__» ⟨[.ref p, .ref q], []⟩)
    (fun A R s => s.heap.get? p = some ⟨.type "tuple", da, .seq xs i, sa⟩ ∧ s.heap.get? q = some ⟨.type "tuple", db, .seq ys j, sb⟩ ∧ CmpV .GtE false true A.in1 s xs.toList ys.toList c ∧ R (.ok (.ret (.bool c))) s) :=
  .of_wp fun prog w A R s hyp => by
    obtain ⟨H, G, D, T, O⟩ := s
    obtain ⟨ea, eb, hc, hR⟩ := hyp
    have sub := AutoSeq1.sub_tuple_tuple
    wp_walk using wpAny_loadPart' ea, wpAny_loadPart' eb, wpAny_forIn_list _ (fun rest z s' => z.1 = none ∧ s' = ⟨H, G, D, T, O⟩ ∧ WalkV .GtE false true A.in1 ⟨H, G, D, T, O⟩ xs.size ys.size (fun c => R (.ok (.ret (.bool c))) ⟨H, G, D, T, O⟩) rest) _
    case h => exact ⟨rfl, rfl, xs.toList, ys.toList, c, rfl, hc, by rw [Array.length_toList, Array.length_toList]; omega, hR⟩
    case turn =>
      rintro ⟨u, v⟩ rest z s' ⟨hz, rfl, k⟩
      rcases k.step with ⟨he, k'⟩ | ⟨c', he, ho, hR'⟩
      · refine wpAny_bind (he prog w _ _ ?_)
        wp_walk
        exact ⟨rfl, rfl, k'⟩
      · refine wpAny_bind (he prog w _ _ ?_)
        have hri : ∀ (E' : Value → Shared → Prop) (Q' : Value → Shared → Prop), Q' (.bool c') ⟨H, G, D, T, O⟩ → wpAny (model prog w) A.in1 (richCompare .GtE u v) Q' E' ⟨H, G, D, T, O⟩ := ho prog w
        wp_walk using hri
        exact ⟨_, rfl, hR'⟩
    case fin =>
      rintro ⟨z1, z2⟩ s' ⟨hz, rfl, k⟩
      simp only at hz
      subst hz
      have key : R (.ok (.ret (.bool (decide (xs.size ≥ ys.size))))) ⟨H, G, D, T, O⟩ := by
        rcases k.last with ⟨e, r⟩ | ⟨e, r⟩ | ⟨e, r⟩
        all_goals first | (rw [decide_eq_true (by omega)]; exact r) | (rw [decide_eq_false (by omega)]; exact r)
      wp_walk
      exact ⟨_, rfl, by simpa [Builtin.Tuple.tupleCompareSizes] using key⟩
end
/-- the order of numbers and of texts, upwards or downwards -/
def ordB (up : Bool) {α : Type} (lt : α → α → Bool) (x y : α) : Bool := if up then lt x y else lt y x
structure AtomOps (op : CmpOp) (up : Bool) : Prop where
  int : ∀ (A : Around) (s : Shared) (a b : Int) (t u : Tok), a ≠ b → SeqAt.RcOp op A s (.int a t) (.int b u) (ordB up (fun x y : Int => decide (x < y)) a b)
  str : ∀ (A : Around) (s : Shared) (a b : Str) (t u : Tok), a ≠ b → SeqAt.RcOp op A s (.str a t) (.str b u) (ordB up (fun x y : Str => decide (x.cps.toList < y.cps.toList)) a b)
theorem cps_inj {a b : Str} (h : a.cps.toList = b.cps.toList) : a = b := by
  have e := Array.toList_inj.mp h
  cases a
  cases b
  simpa using e
theorem cps_tri {a b : Str} (h : a ≠ b) : (¬ b.cps.toList < a.cps.toList) = (a.cps.toList < b.cps.toList) := by
  have ne : a.cps.toList ≠ b.cps.toList := fun e => h (cps_inj e)
  refine propext ⟨fun z => ?_, fun z w => ?_⟩
  · rcases Std.lt_trichotomy a.cps.toList b.cps.toList with l | l | l
    · exact l
    · exact absurd l ne
    · exact absurd l z
  · exact absurd (List.lt_trans z w) (List.lt_irrefl _)
theorem ops_lt : AtomOps .Lt true := ⟨fun A s a b t u _ prog w E Q h => PyProof.Rows.lt_int h, fun A s a b t u _ prog w E Q h => PyProof.Rows.lt_str h⟩
theorem ops_gt : AtomOps .Gt false := ⟨fun A s a b t u _ prog w E Q h => P.gt_int h, fun A s a b t u _ prog w E Q h => P.gt_str h⟩
theorem ops_le : AtomOps .LtE true := ⟨fun A s a b t u n prog w E Q h => P.le_int (by
    have e : decide (a ≤ b) = decide (a < b) := decide_eq_decide.mpr (by omega)
    rw [e]; exact h), fun A s a b t u n prog w E Q h => P.le_str (by
    have e : (!decide (b.cps.toList < a.cps.toList)) = decide (a.cps.toList < b.cps.toList) := by rw [← decide_not]; exact decide_eq_decide.mpr (by rw [cps_tri n])
    rw [e]; exact h)⟩
theorem ops_ge : AtomOps .GtE false := ⟨fun A s a b t u n prog w E Q h => P.ge_int (by
    have e : decide (b ≤ a) = decide (b < a) := decide_eq_decide.mpr (by omega)
    rw [e]; exact h), fun A s a b t u n prog w E Q h => P.ge_str (by
    have e : (!decide (a.cps.toList < b.cps.toList)) = decide (b.cps.toList < a.cps.toList) := by rw [← decide_not]; exact decide_eq_decide.mpr (by rw [cps_tri (Ne.symm n)])
    rw [e]; exact h)⟩
/-- tuples of numbers and texts compared; none: a number meets a text -/
def keyV (up eq : Bool) : List V → List V → Option Bool
  | [], [] => some eq
  | [], _ :: _ => some up
  | _ :: _, [] => some (!up)
  | .int a :: xs, .int b :: ys => if a = b then keyV up eq xs ys else some (ordB up (fun x y : Int => decide (x < y)) a b)
  | .str a :: xs, .str b :: ys => if a = b then keyV up eq xs ys else some (ordB up (fun x y : Str => decide (x.cps.toList < y.cps.toList)) a b)
  | _ :: _, _ :: _ => none
theorem cmpV_of {op : CmpOp} {up eq : Bool} (o : AtomOps op up) {A : Around} {s : Shared} : ∀ {vs ws : List V} {us zs : List Value} {c : Bool}, Vals vs us → Vals ws zs → keyV up eq vs ws = some c → CmpV op up eq A s us zs c
  | _, _, _, _, _, .nil, .nil, h => by cases h; exact .nn
  | _, _, _, _, _, .nil, .cons _ _, h => by cases h; exact .nc _ _
  | x :: xs, _, _, _, c, .cons _ _, .nil, h => by
    have e : some (!up) = some c := by cases x <;> exact h
    cases e; exact .cn _ _
  | x :: xs, y :: ys, _, _, c, .cons rx rs, .cons ry qs, h => by
    cases x with
    | int a =>
      cases y with
      | int b =>
        obtain ⟨t, rfl⟩ := rx
        obtain ⟨u, rfl⟩ := ry
        unfold keyV at h
        have g := SeqAt.EqAt.int_int (A := A) (s := s) a t b u
        by_cases e : a = b
        · rw [if_pos e] at h
          rw [show (a == b) = true by simpa using e] at g
          exact .same g (cmpV_of o rs qs h)
        · rw [if_neg e] at h
          rw [show (a == b) = false by simpa using e] at g
          cases h
          exact .other g (o.int A s a b t u e)
      | _ => exact absurd h (by simp [keyV])
    | str a =>
      cases y with
      | str b =>
        obtain ⟨t, rfl⟩ := rx
        obtain ⟨u, rfl⟩ := ry
        unfold keyV at h
        have g := SeqAt.EqAt.str_str (A := A) (s := s) a t b u
        by_cases e : a = b
        · rw [if_pos e] at h
          rw [show (a == b) = true by simpa using e] at g
          exact .same g (cmpV_of o rs qs h)
        · rw [if_neg e] at h
          rw [show (a == b) = false by simpa using e] at g
          cases h
          exact .other g (o.str A s a b t u e)
      | _ => exact absurd h (by simp [keyV])
    | _ => exact absurd h (by cases y <;> simp [keyV])
end Kb

/-! Keys compared, as rules; int of a truth. -/
namespace Kb
open PySem PySem.Spec PyProof.Rows L2
def rKeyT (K : PySem.W.Frag) (up eq : Bool) : R2 := fun x y H Q => ∃ a b vs ws c, x = .ref a ∧ y = .ref b ∧ SqT K H a vs ∧ SqT K H b ws ∧ keyV up eq vs ws = some c ∧ Q (.bl c) H
section
variable {X : Cx} {K : PySem.W.Frag}
theorem op_keyLt (hu : X.A.units < cLine) : OpR X (compareOp .Lt) (rKeyT X.K true false) := by
  intro pins s σ H x y v u Q I rx ry h
  obtain ⟨a, b, vs, ws, c, rfl, rfl, ha, hb, hk, q⟩ := h
  cases rx
  cases ry
  obtain ⟨its, r1, p1, _⟩ := I.tuple ha
  obtain ⟨its2, r2, p2, _⟩ := I.tuple hb
  obtain ⟨⟨cls, dd, data, sl⟩, ho, hc, n, hd⟩ := id p1
  obtain ⟨⟨cls2, dd2, data2, sl2⟩, ho2, hc2, n2, hd2⟩ := id p2
  simp only at hc hd hc2 hd2
  subst hc hd hc2 hd2
  have cv := cmpV_of (A := X.A.in1) (s := s) (eq := false) ops_lt r1 r2 hk
  exact richCompare_meets_room (op := .Lt) ⟨_, ho, rfl⟩ ⟨_, ho2, rfl⟩ PySem.F.slot_tuple_lt PySem.F.entry_tuple_lt (PySem.F.args_tuple_lt_2 _ _) (tupLtV a b its.toArray its2.toArray n n2 dd dd2 sl sl2 c)
    ⟨ho, ho2, by simpa using cv, show Value.bool c ≠ Value.notImplemented ∧ EP X pins σ Q (.bool c) s from ⟨(fun x => nomatch x), .bl c, H, I, rfl, q⟩⟩ hu
theorem op_keyLtK (hK : X.K = K) (hu : X.A.units + 64 < cLine) : OpR X (compareOp .Lt) (rKeyT K true false) := hK ▸ op_keyLt (Nat.lt_of_le_of_lt (Nat.le_add_right _ 64) hu)
theorem op_keyLe (hu : X.A.units < cLine) : OpR X (compareOp .LtE) (rKeyT X.K true true) := by
  intro pins s σ H x y v u Q I rx ry h
  obtain ⟨a, b, vs, ws, c, rfl, rfl, ha, hb, hk, q⟩ := h
  cases rx
  cases ry
  obtain ⟨its, r1, p1, _⟩ := I.tuple ha
  obtain ⟨its2, r2, p2, _⟩ := I.tuple hb
  obtain ⟨⟨cls, dd, data, sl⟩, ho, hc, n, hd⟩ := id p1
  obtain ⟨⟨cls2, dd2, data2, sl2⟩, ho2, hc2, n2, hd2⟩ := id p2
  simp only at hc hd hc2 hd2
  subst hc hd hc2 hd2
  have cv := cmpV_of (A := X.A.in1) (s := s) (eq := true) ops_le r1 r2 hk
  exact richCompare_meets_room (op := .LtE) ⟨_, ho, rfl⟩ ⟨_, ho2, rfl⟩ PySem.F.slot_tuple_le PySem.F.entry_tuple_le (PySem.F.args_tuple_le_2 _ _) (tupLeV a b its.toArray its2.toArray n n2 dd dd2 sl sl2 c)
    ⟨ho, ho2, by simpa using cv, show Value.bool c ≠ Value.notImplemented ∧ EP X pins σ Q (.bool c) s from ⟨(fun x => nomatch x), .bl c, H, I, rfl, q⟩⟩ hu
theorem op_keyLeK (hK : X.K = K) (hu : X.A.units + 64 < cLine) : OpR X (compareOp .LtE) (rKeyT K true true) := hK ▸ op_keyLe (Nat.lt_of_le_of_lt (Nat.le_add_right _ 64) hu)
theorem op_keyGt (hu : X.A.units < cLine) : OpR X (compareOp .Gt) (rKeyT X.K false false) := by
  intro pins s σ H x y v u Q I rx ry h
  obtain ⟨a, b, vs, ws, c, rfl, rfl, ha, hb, hk, q⟩ := h
  cases rx
  cases ry
  obtain ⟨its, r1, p1, _⟩ := I.tuple ha
  obtain ⟨its2, r2, p2, _⟩ := I.tuple hb
  obtain ⟨⟨cls, dd, data, sl⟩, ho, hc, n, hd⟩ := id p1
  obtain ⟨⟨cls2, dd2, data2, sl2⟩, ho2, hc2, n2, hd2⟩ := id p2
  simp only at hc hd hc2 hd2
  subst hc hd hc2 hd2
  have cv := cmpV_of (A := X.A.in1) (s := s) (eq := false) ops_gt r1 r2 hk
  exact richCompare_meets_room (op := .Gt) ⟨_, ho, rfl⟩ ⟨_, ho2, rfl⟩ PySem.F.slot_tuple_gt PySem.F.entry_tuple_gt (PySem.F.args_tuple_gt_2 _ _) (tupGtV a b its.toArray its2.toArray n n2 dd dd2 sl sl2 c)
    ⟨ho, ho2, by simpa using cv, show Value.bool c ≠ Value.notImplemented ∧ EP X pins σ Q (.bool c) s from ⟨(fun x => nomatch x), .bl c, H, I, rfl, q⟩⟩ hu
theorem op_keyGtK (hK : X.K = K) (hu : X.A.units + 64 < cLine) : OpR X (compareOp .Gt) (rKeyT K false false) := hK ▸ op_keyGt (Nat.lt_of_le_of_lt (Nat.le_add_right _ 64) hu)
theorem op_keyGe (hu : X.A.units < cLine) : OpR X (compareOp .GtE) (rKeyT X.K false true) := by
  intro pins s σ H x y v u Q I rx ry h
  obtain ⟨a, b, vs, ws, c, rfl, rfl, ha, hb, hk, q⟩ := h
  cases rx
  cases ry
  obtain ⟨its, r1, p1, _⟩ := I.tuple ha
  obtain ⟨its2, r2, p2, _⟩ := I.tuple hb
  obtain ⟨⟨cls, dd, data, sl⟩, ho, hc, n, hd⟩ := id p1
  obtain ⟨⟨cls2, dd2, data2, sl2⟩, ho2, hc2, n2, hd2⟩ := id p2
  simp only at hc hd hc2 hd2
  subst hc hd hc2 hd2
  have cv := cmpV_of (A := X.A.in1) (s := s) (eq := true) ops_ge r1 r2 hk
  exact richCompare_meets_room (op := .GtE) ⟨_, ho, rfl⟩ ⟨_, ho2, rfl⟩ PySem.F.slot_tuple_ge PySem.F.entry_tuple_ge (PySem.F.args_tuple_ge_2 _ _) (tupGeV a b its.toArray its2.toArray n n2 dd dd2 sl sl2 c)
    ⟨ho, ho2, by simpa using cv, show Value.bool c ≠ Value.notImplemented ∧ EP X pins σ Q (.bool c) s from ⟨(fun x => nomatch x), .bl c, H, I, rfl, q⟩⟩ hu
theorem op_keyGeK (hK : X.K = K) (hu : X.A.units + 64 < cLine) : OpR X (compareOp .GtE) (rKeyT K false true) := hK ▸ op_keyGe (Nat.lt_of_le_of_lt (Nat.le_add_right _ 64) hu)
end
section
variable {K : PySem.W.Frag} {Θ : Ctx} {h : Hs} {R : D → Hs → Prop}
def toV : P → V
  | .bl b => .bl b
  | .int i => .int i
  | .str s => .str s
  | _ => .non
def atomB : P → Bool
  | .non => true
  | .bl _ => true
  | .int _ => true
  | .str _ => true
  | _ => false
theorem RPs.atoms {F : Hp} : ∀ {xs : List P} {vs : List V}, RPs K F xs vs → xs.all atomB = true → vs = xs.map toV
  | [], _, .nil, _ => rfl
  | x :: xs, _, .cons a r, h => by
    rw [List.all_cons, Bool.and_eq_true] at h
    rw [RPs.atoms r h.2, List.map_cons]
    congr 1
    cases a with
    | non => rfl
    | bl _ => rfl
    | int _ => rfl
    | str _ => rfl
    | tup _ _ => cases h.1
    | lst _ _ => cases h.1
    | ins _ _ => cases h.1
    | ty _ => cases h.1
    | cls _ => cases h.1
theorem v2_key {up eq c : Bool} {xs ys : List P} (hx : xs.all atomB = true) (hy : ys.all atomB = true) (hc : keyV up eq (xs.map toV) (ys.map toV) = some c) (q : R (dB c) h) : V2 K Θ (rKeyT K up eq) (dT xs) (dT ys) h R := fun F ρ H vx vy Q rl a b k => by
  cases a with
  | p a =>
    cases b with
    | p b =>
      cases a with
      | tup a1 a2 =>
        cases b with
        | tup b1 b2 =>
          have e1 := a2.atoms hx
          have e2 := b2.atoms hy
          subst e1 e2
          exact ⟨_, _, _, _, c, rfl, rfl, sqT_mono rl.same a1, sqT_mono rl.same b1, hc, k _ h _ F ρ H (Same.refl _) (Pre.refl _) rl (.p (.bl _)) q⟩
theorem vc_intB {b : Bool} (q : R (dI (if b then 1 else 0)) h) : VC K Θ rIntU [dB b] h R := fun F ρ H vs Q rl a k => by
  cases a with
  | cons a c =>
    cases c
    obtain rfl := a.bl
    exact .inl (.inr ⟨b, rfl, k _ h _ F ρ H (Same.refl _) (Pre.refl _) rl (.p (.int _)) q⟩)
end
end Kb

/-! Tuples of any length joined and cut; xs.extend(t); an own list made by a comprehension whose turns change what is owned. -/
namespace Kb
open PySem PySem.Spec PyProof.Rows L2
section
open PySem.AutoSeq1 (wpAny_loadPart')
theorem extTupW (p q : Addr) (xs ys : Array Value) (i j : Nat) (dt : Option Addr) (st : Array (Option Value)) (hz : xs.size + ys.size ≤ sizeLine) :
    Meets (Builtin.«list.extend» ⟨[.ref p, .ref q], []⟩)
      (fun _ R s => s.heap.get? p = some { cls := .type "list", data := .seq xs i } ∧ s.heap.get? q = some ⟨.type "tuple", dt, .seq ys j, st⟩ ∧ R (.ok (.ret .none)) { s with heap := s.heap.update p (Obj.mapSeq fun x => x ++ ys) }) :=
  .of_wp fun prog w A R s hyp => by
    obtain ⟨H, G, D, T, O⟩ := s
    obtain ⟨ep, eq, hR⟩ := hyp
    have g1 := AutoSeq1.idx_int
    have g2 := AutoSeq1.sub_tuple_tuple
    have g3 := AutoSeq1.sub_list_list
    have g4 := AutoSeq1.sub_tuple_list
    have g5 := AutoSeq1.sub_list_tuple
    have nl : ¬ (!xs.isEmpty && Builtin.List.listTooLong (xs.size + ys.size)) = true := by
      rw [notLongL hz, Bool.and_false]
      exact Bool.false_ne_true
    have z1 : xs.size ≤ sizeLine := Nat.le_trans (Nat.le_add_right _ _) hz
    have z2 : (xs ++ ys).size ≤ sizeLine + 1 := by rw [Array.size_append]; omega
    wp_walk using (wpAny_updateSeq ep rfl (hz := z1) (_hz' := z2)), wpAny_loadPart' ep, wpAny_loadPart' eq
    exact ⟨_, rfl, hR⟩
end
section
variable {X : Cx}
def rExtT (K : PySem.W.Frag) : V → List V → Hp → VK → Prop := fun x vs H Q => ∃ l b xs zs, x = .ref l ∧ vs = [.ref b] ∧ H l = some (.lst xs) ∧ SqT K H b zs ∧ xs.length + zs.length ≤ sizeLine ∧ Q .non (upd H l (.lst (xs ++ zs)))
theorem mt_extT : MtM X "list.extend" (rExtT X.K) := by
  intro pins s σ H x vs v us Q I rx rv h
  obtain ⟨l, b, xs, zs, rfl, rfl, hH, hB, hz, q⟩ := h
  cases rx
  obtain ⟨u, rfl, ru⟩ := rv.one
  cases ru
  obtain ⟨z, its, n, r, hl, e⟩ := I.lstM hH
  obtain ⟨its2, r2, pl, _⟩ := I.tuple hB
  obtain ⟨⟨cls, dd, data, sl⟩, ho, hc, n2, hd⟩ := id pl
  simp only at hc hd
  subst hc hd
  have l2 := r2.length
  refine call_meets PySem.F.slot_list_extend ⟨_, e, rfl⟩ PySem.F.entry_list_extend (PySem.F.args_list_extend_2 _ _) (extTupW l b its.toArray its2.toArray n n2 dd sl (by rw [List.size_toArray, List.size_toArray]; omega)) ⟨e, ho, ?_⟩
  refine ⟨.non, _, I.lset (its' := its ++ its2) hH e (by simp) (r.append r2) ?_, rfl, q⟩
  rw [List.length_append]
  exact hz
theorem mt_extTK {K : PySem.W.Frag} (hK : X.K = K) : MtM X "list.extend" (rExtT K) := hK ▸ mt_extT
def rAddW (K : PySem.W.Frag) : R2 := fun x y H Q => rAddI x y H Q ∨ (rAddS' x y H Q ∨ (rCatA K x y H Q ∨ rCatL K x y H Q))
theorem op_addW : OpR X (binaryOp .Add) (rAddW X.K) := OpR.or (r := rAddI) op_add (OpR.or (r := rAddS') op_add_str (op_catA.or op_catL))
theorem op_addWK {K : PySem.W.Frag} (hK : X.K = K) : OpR X (binaryOp .Add) (rAddW K) := hK ▸ op_addW
theorem sl_tupAK {K : PySem.W.Frag} (hK : X.K = K) : SlR X (rSlA K) := hK ▸ sl_tupA
end
section
variable {K : PySem.W.Frag} {Θ : Ctx} {env : Env'} {h : Hs} {R : D → Hs → Prop} {x y : D}
theorem v2_addWI {i j : Int} (q : R (dI (i + j)) h) : V2 K Θ (rAddW K) (dI i) (dI j) h R := v2_or1 (v2_I0 q)
theorem v2_addWS {i j : Str} (hl : i.length + j.length ≤ sizeLine) (q : R (dS (i ++ j)) h) : V2 K Θ (rAddW K) (dS i) (dS j) h R := v2_or2 (v2_or1 fun F ρ H vx vy Q rl a b k => by
  obtain rfl := a.str
  obtain rfl := b.str
  exact ⟨i, j, rfl, rfl, hl, k _ h _ F ρ H (Same.refl _) (Pre.refl _) rl (.p (.str _)) q⟩)
theorem v2_addWL {i j : List P} (hl : i.length + j.length ≤ sizeLine) (q : R (dL (i ++ j)) h) : V2 K Θ (rAddW K) (dL i) (dL j) h R := v2_or2 (v2_or2 (v2_or2 fun F ρ H vx vy Q rl a b k => by
  cases a with
  | p a =>
    cases b with
    | p b =>
      cases a with
      | lst a1 a2 =>
        cases b with
        | lst b1 b2 =>
          refine ⟨_, _, _, _, rfl, rfl, rl.same.seq a1, rl.same.seq b1, by rw [← a2.len, ← b2.len]; exact hl, fun p hp => ?_⟩
          have sn := fun o => same_new (o := o) (rl.free hp)
          exact k _ h _ _ ρ _ (sn _) (Pre.refl _) (rl.frz hp) (.p (.lst (.of upd_same) ((a2.append b2).mono (sn _)))) q))
theorem v2_addWT {i j : List P} (hl : i.length + j.length ≤ sizeLine) (q : R (dT (i ++ j)) h) : V2 K Θ (rAddW K) (dT i) (dT j) h R := v2_or2 (v2_or2 (v2_or1 fun F ρ H vx vy Q rl a b k => by
  cases a with
  | p a =>
    cases b with
    | p b =>
      cases a with
      | tup a1 a2 =>
        cases b with
        | tup b1 b2 =>
          refine ⟨_, _, _, _, rfl, rfl, sqT_mono rl.same a1, sqT_mono rl.same b1, by rw [← a2.len, ← b2.len]; exact hl, fun z => ?_, fun _ z => ?_, fun _ _ p hp => ?_⟩
          · subst z; cases a2
            exact k _ h _ F ρ H (Same.refl _) (Pre.refl _) rl (.p (.tup b1 b2)) q
          · subst z; cases b2
            rw [List.append_nil] at q
            exact k _ h _ F ρ H (Same.refl _) (Pre.refl _) rl (.p (.tup a1 a2)) q
          · have sn := fun o => same_new (o := o) (rl.free hp)
            exact k _ h _ _ ρ _ (sn _) (Pre.refl _) (rl.frz hp) (.p (.tup (.of upd_same) ((a2.append b2).mono (sn _)))) q))
theorem cut_whole {α : Type} {xs : List α} {lo hi : Option Int} (w : HT.sIx xs.length 0 lo = 0 ∧ HT.sIx xs.length xs.length hi = xs.length) : cutP xs lo hi = xs := by
  unfold cutP
  rw [w.1, w.2, List.drop_zero, Nat.sub_zero, List.take_length]
theorem ve_slT {te : TE} {tl th : TO} (q : VE K Θ te env h fun x h1 => VO K Θ tl env h1 fun lo h2 => VO K Θ th env h2 fun hi h3 => ∃ xs, x = dT xs ∧ R (dT (cutP xs lo hi)) h3) : VE K Θ (tSl (rSlA K) te tl th) env h R := fun F ρ σ H Q rl e k =>
  q F ρ σ H _ rl e fun x h1 v F1 ρ1 H1 s1 p1 r1 dx q1 => q1 F1 ρ1 σ H1 _ r1 (e.mono s1 p1) fun lo h2 F2 ρ2 H2 s2 p2 r2 q2 => q2 F2 ρ2 σ H2 _ r2 (e.mono (s1.trans s2) (p1.trans p2)) fun hi h3 F3 ρ3 H3 s3 p3 r3 q3 => by
    obtain ⟨xs, rfl, q3⟩ := q3
    have dx3 := dx.mono (s2.trans s3) (p2.trans p3)
    cases dx3 with
    | p a =>
      cases a with
      | tup a r =>
        refine ⟨_, _, rfl, sqT_mono r3.same a, fun w => ?_, fun w p hp => ?_⟩
        · rw [← r.len] at w
          rw [cut_whole w] at q3
          exact k _ h3 _ F3 ρ3 H3 (s1.trans (s2.trans s3)) (p1.trans (p2.trans p3)) r3 (.p (.tup a r)) q3
        · have sn := fun o => same_new (o := o) (r3.free hp)
          exact k _ h3 _ _ ρ3 _ ((s1.trans (s2.trans s3)).trans (sn _)) (p1.trans (p2.trans p3)) (r3.frz hp) (.p (.tup (.of upd_same) ((r.cut lo hi).mono (sn _)))) q3
theorem vm_extT {n : Nat} {xs : List D} {zs : List P} (hn : h[n]? = some (some (.lst xs))) (hl : xs.length + zs.length ≤ sizeLine) (q : R dN (h.set n (some (.lst (xs ++ zs.map D.p))))) : VM K Θ (rExtT K) (.own n) [dT zs] h R := fun F ρ H vx vs Q rl a b k => by
  cases a with
  | own a =>
    cases b with
    | cons b c =>
      cases c
      obtain ⟨p, u, e1, e2, e3, us, e4, e5⟩ := rl.own _ _ hn
      rw [a] at e1; cases e1
      subst e4
      cases b with
      | p b =>
        cases b with
        | tup b1 b2 =>
          refine ⟨_, _, us, _, rfl, rfl, e3, sqT_mono rl.same b1, by rw [← e5.len, ← b2.len]; exact hl, ?_⟩
          exact k _ _ _ F ρ _ (Same.refl _) (Pre.refl _) (rl.put (o' := .lst (xs ++ zs.map D.p)) hn a ⟨_, rfl, e5.append b2.data⟩) (.p .non) q
/-- [..]: a new list that is owned; the turns may change what is owned -/
theorem ve_lcIO {wi : TI} {g : TG} {tt : TT} {te : TE} {vs : List Nat} (tg : TgOk g vs)
    (q : VI K Θ wi env h fun ds C h1 => ∃ Inv : Nat → List P → Hs → Prop, ds.length < sizeLine ∧ Inv 0 [] h1 ∧ (∀ i acc h', Inv i acc h' → h'.length = h1.length ∧ lowH h1 h' ∧ C (h' ++ [accO acc])) ∧
      (∀ i d acc h', ds[i]? = some d → Inv i acc h' → VG K Θ g d (wipeD env vs) (h' ++ [accO acc]) fun env' h2 => VT K Θ tt env' h2 fun b h3 => if b = true then VE K Θ te env' h3 (fun y h4 => ∃ p h5, y = .p p ∧ h4 = h5 ++ [accO acc] ∧ Inv (i + 1) (acc ++ [p]) h5) else ∃ h5, h3 = h5 ++ [accO acc] ∧ Inv (i + 1) acc h5) ∧
      (∀ acc h', Inv ds.length acc h' → R (.own h'.length) (h' ++ [accO acc]))) : VE K Θ (tLc wi g tt te vs) env h R := fun F ρ σ H Q rl e k =>
  q F ρ σ H _ rl e fun ds C h1 J F1 ρ1 H1 s1 p1 r1 it q1 => by
    obtain ⟨Inv, hl, i0, hI, turn, q1⟩ := q1
    refine lcI_run (wi := wi) tg Q Inv r1 (e.mono s1 p1) it hl i0 hI turn fun p F' us H acc h' s hn hp hp1 iv r rp r2 => ?_
    exact k _ _ (.ref p) F' (ρ1 ++ [p]) H (s1.trans s) (p1.trans (Pre.push _ _)) r (.own (by rw [← r2.len]; simp)) (q1 acc h' iv)
end
end Kb

/-! Dicts that are owned, with keys that are tuples of numbers and texts; xs.insert; own lists read and joined. -/
namespace Kb
open PySem PySem.Spec PyProof.Rows L2
section
variable {κ β : Type} [DecidableEq κ]
def vK (kvs : List (κ × β)) (k : κ) : Option β := (kvs.find? fun kv => decide (kv.1 = k)).map (·.2)
def pK (kvs : List (κ × β)) (k : κ) (v : β) : List (κ × β) := if (kvs.any fun kv => decide (kv.1 = k)) = true then kvs.map (fun kv => if kv.1 = k then (kv.1, v) else kv) else kvs ++ [(k, v)]
theorem vK_pos {p : κ × β} {r : List (κ × β)} {k : κ} (e : p.1 = k) : vK (p :: r) k = some p.2 := by simp [vK, List.find?_cons, e]
theorem vK_neg {p : κ × β} {r : List (κ × β)} {k : κ} (e : ¬ p.1 = k) : vK (p :: r) k = vK r k := by simp [vK, List.find?_cons, e]
theorem vK_nil {k : κ} : vK ([] : List (κ × β)) k = none := rfl
theorem vK_any (k : κ) : ∀ kvs : List (κ × β), (kvs.any fun kv => decide (kv.1 = k)) = (vK kvs k).isSome
  | [] => rfl
  | p :: r => by
    rw [List.any_cons, vK_any k r]
    by_cases e : p.1 = k
    · rw [vK_pos e, decide_eq_true e]; rfl
    · rw [vK_neg e, decide_eq_false e, Bool.false_or]
theorem vK_app {k' k : κ} {v : β} : ∀ kvs : List (κ × β), vK (kvs ++ [(k, v)]) k' = (vK kvs k').or (if k = k' then some v else none)
  | [] => by
    by_cases e : k = k'
    · rw [if_pos e]; exact vK_pos e
    · rw [if_neg e]; exact vK_neg e
  | p :: r => by
    rw [List.cons_append]
    by_cases e : p.1 = k'
    · rw [vK_pos e, vK_pos e]; rfl
    · rw [vK_neg e, vK_neg e]; exact vK_app r
theorem vK_map {k' k : κ} {v : β} : ∀ kvs : List (κ × β), vK (kvs.map fun kv => if kv.1 = k then (kv.1, v) else kv) k' = if k = k' then (vK kvs k').map fun _ => v else vK kvs k'
  | [] => by rw [List.map_nil, vK_nil]; split <;> rfl
  | p :: r => by
    rw [List.map_cons]
    by_cases e : p.1 = k
    · rw [if_pos e]
      by_cases e2 : k = k'
      · rw [vK_pos (p := (p.1, v)) (e.trans e2), vK_pos (p := p) (e.trans e2), if_pos e2]; rfl
      · rw [vK_neg (p := (p.1, v)) (fun z => e2 (e.symm.trans z)), vK_neg (p := p) (fun z => e2 (e.symm.trans z)), vK_map r]
    · rw [if_neg e]
      by_cases e2 : p.1 = k'
      · rw [vK_pos e2, vK_pos e2, if_neg (fun z => e (e2.trans z.symm))]
      · rw [vK_neg e2, vK_neg e2, vK_map r]
theorem vK_put {k' k : κ} {v : β} (kvs : List (κ × β)) : vK (pK kvs k v) k' = if k = k' then some v else vK kvs k' := by
  unfold pK
  rw [vK_any]
  by_cases e : k = k'
  · rw [if_pos e]
    cases h : vK kvs k with
    | none => rw [if_neg (by simp), vK_app, ← e, h, if_pos rfl]; rfl
    | some w => rw [if_pos (by rfl), vK_map, if_pos e, ← e, h]; rfl
  · rw [if_neg e]
    cases h : vK kvs k with
    | none => rw [if_neg (by simp), vK_app, if_neg e]; cases vK kvs k' <;> rfl
    | some w => rw [if_pos (by rfl), vK_map, if_neg e]
theorem pK_len (kvs : List (κ × β)) (k : κ) (v : β) : (pK kvs k v).length ≤ kvs.length + 1 := by
  unfold pK
  split
  · rw [List.length_map]; omega
  · rw [List.length_append]; simp
end
section
variable {K : PySem.W.Frag} {Θ : Ctx} {env : Env'} {h : Hs} {R : D → Hs → Prop} {E : En} {x y : D}
theorem RK.look {κ : Type} [DecidableEq κ] {F : Hp} {ρ : List Addr} {k : κ} : ∀ {kvs : List (κ × D)} {gs : List (κ × V)}, RK K F ρ kvs gs → (vK kvs k = none ∧ valV gs k = none) ∨ ∃ d v, vK kvs k = some d ∧ valV gs k = some v ∧ RD K F ρ d v
  | _, _, .nil => .inl ⟨rfl, rfl⟩
  | _, _, .cons (f := f) (d := d) (v := v) q r => by
    by_cases e : f = k
    · exact .inr ⟨d, v, vK_pos e, valV_pos e, q⟩
    · rw [vK_neg (p := (f, d)) e, valV_neg (p := (f, v)) e]
      exact RK.look r
theorem RK.any {κ : Type} [DecidableEq κ] {F : Hp} {ρ : List Addr} {k : κ} : ∀ {kvs : List (κ × D)} {gs : List (κ × V)}, RK K F ρ kvs gs → (kvs.any fun kv => decide (kv.1 = k)) = gs.any fun kv => decide (kv.1 = k)
  | _, _, .nil => rfl
  | _, _, .cons q r => by rw [List.any_cons, List.any_cons, RK.any r]
theorem RK.map {κ : Type} [DecidableEq κ] {F : Hp} {ρ : List Addr} {k : κ} {d : D} {v : V} (q : RD K F ρ d v) : ∀ {kvs : List (κ × D)} {gs : List (κ × V)}, RK K F ρ kvs gs → RK K F ρ (kvs.map fun kv => if kv.1 = k then (kv.1, d) else kv) (gs.map fun kv => if kv.1 = k then (kv.1, v) else kv)
  | _, _, .nil => .nil
  | _, _, .cons (f := f) p r => by
    rw [List.map_cons, List.map_cons]
    by_cases e : f = k
    · rw [if_pos e, if_pos e]; exact .cons q (RK.map q r)
    · rw [if_neg e, if_neg e]; exact .cons p (RK.map q r)
theorem RK.app {κ : Type} {F : Hp} {ρ : List Addr} {k : κ} {d : D} {v : V} (q : RD K F ρ d v) : ∀ {kvs : List (κ × D)} {gs : List (κ × V)}, RK K F ρ kvs gs → RK K F ρ (kvs ++ [(k, d)]) (gs ++ [(k, v)])
  | _, _, .nil => .cons q .nil
  | _, _, .cons p r => .cons p (RK.app q r)
theorem RK.put {κ : Type} [DecidableEq κ] {F : Hp} {ρ : List Addr} {k : κ} {d : D} {v : V} {kvs : List (κ × D)} {gs : List (κ × V)} (q : RD K F ρ d v) (r : RK K F ρ kvs gs) : RK K F ρ (pK kvs k d) (putK gs k v) := by
  unfold pK putK
  rw [r.any]
  split
  · exact r.map q
  · exact r.app q
theorem RK.len {κ : Type} {F : Hp} {ρ : List Addr} : ∀ {kvs : List (κ × D)} {gs : List (κ × V)}, RK K F ρ kvs gs → kvs.length = gs.length
  | _, _, .nil => rfl
  | _, _, .cons _ r => congrArg (· + 1) (RK.len r)
/-- a key's part as data -/
def kP : Key → P
  | .inl i => .int i
  | .inr s => .str s
theorem RPs.keys {F : Hp} : ∀ {ks : List Key} {vs : List V}, RPs K F (ks.map kP) vs → vs = ks.map kV
  | [], _, .nil => rfl
  | .inl i :: ks, _, .cons (.int _) r => by rw [RPs.keys r]; rfl
  | .inr s :: ks, _, .cons (.str _) r => by rw [RPs.keys r]; rfl
theorem tupKey {F : Hp} {ρ : List Addr} {ks : List Key} {v : V} {H : Hp} (s : Same F H) (q : RD K F ρ (dT (ks.map kP)) v) : ∃ b, v = .ref b ∧ H b = some (.tup (ks.map kV)) := by
  cases q with
  | p q =>
    cases q with
    | tup a r =>
      have e := r.keys
      subst e
      exact ⟨_, rfl, s _ _ a⟩
/-- {} whose keys will be tuples -/
theorem ve_dnewT (q : R (.own h.length) (h ++ [some (.dT [])])) : VE K Θ tDNewT env h R := fun F ρ σ H Q rl e k => fun p hp =>
  k (.own h.length) _ (.ref p) F (ρ ++ [p]) _ (Same.refl _) (Pre.push _ _) (rl.push (o := .dT []) hp ⟨[], rfl, .nil⟩) (.own (by rw [← rl.len]; simp)) q
theorem isDT {F : Hp} {ρ : List Addr} {H : Hp} {n : Nat} {a : Addr} {kvs : List (List Key × D)} (rl : Rel K Θ F ρ h H) (ha : ρ[n]? = some a) (hn : h[n]? = some (some (.dT kvs))) : ∃ gs, H a = some (.dT gs) ∧ RK K F ρ kvs gs := by
  obtain ⟨b, u, e1, e2, e3, gs, e4, e5⟩ := rl.own _ _ hn
  rw [ha] at e1; cases e1
  subst e4
  exact ⟨gs, e3, e5⟩
/-- d.get(k, z) -/
theorem ve_dget2 {td ty tx : TE} (q : VE K Θ td env h fun x h1 => ∃ n kv, x = .own n ∧ h1[n]? = some (some (.dT kv)) ∧ VE K Θ ty env h1 fun y h2 => VE K Θ tx env h2 fun z h3 => ∃ kvs ks, y = dT (ks.map kP) ∧ h3[n]? = some (some (.dT kvs)) ∧ R ((vK kvs ks).getD z) h3) :
    VE K Θ (tDGet2 td ty tx) env h R := fun F ρ σ H Q rl e k =>
  q F ρ σ H _ rl e fun x h1 vx F1 ρ1 H1 s1 p1 r1 dx q1 => by
    obtain ⟨n, kv, rfl, hn, q1⟩ := q1
    cases dx with
    | @own a _ ha =>
      obtain ⟨gs, g1, _⟩ := isDT r1 ha hn
      refine ⟨a, rfl, .inr ⟨gs, .inl g1⟩, ?_⟩
      refine q1 F1 ρ1 σ H1 _ r1 (e.mono s1 p1) fun y h2 vy F2 ρ2 H2 s2 p2 r2 dy q2 => ?_
      refine q2 F2 ρ2 σ H2 _ r2 (e.mono (s1.trans s2) (p1.trans p2)) fun z h3 vz F3 ρ3 H3 s3 p3 r3 dz q3 => ?_
      obtain ⟨kvs, ks, rfl, hn3, q3⟩ := q3
      obtain ⟨gs3, g3, rk3⟩ := isDT r3 (p3 _ _ (p2 _ _ ha)) hn3
      obtain ⟨b, rfl, hb⟩ := tupKey (r3.same) (dy.mono s3 p3)
      refine ⟨valV gs3 ks, .t g3 hb, ?_⟩
      have ss := s1.trans (s2.trans s3)
      have pp := p1.trans (p2.trans p3)
      rcases rk3.look (k := ks) with ⟨l1, l2⟩ | ⟨d, v, l1, l2, l3⟩
      · rw [l2]; rw [l1] at q3
        exact k z h3 vz F3 ρ3 H3 ss pp r3 dz q3
      · rw [l2]; rw [l1] at q3
        exact k d h3 v F3 ρ3 H3 ss pp r3 l3 q3
/-- d[k] = v -/
theorem vs_dput {td ty tv : TE} (q : VE K Θ tv env h fun v h1 => VE K Θ td env h1 fun x h2 => VE K Θ ty env h2 fun y h3 => ∃ n kvs ks, x = .own n ∧ y = dT (ks.map kP) ∧ h3[n]? = some (some (.dT kvs)) ∧ kvs.length < sizeLine ∧ E.nx env (h3.set n (some (.dT (pK kvs ks v))))) :
    VS K Θ (sDPut td ty tv) E env h := fun F ρ σ H D' rl e k =>
  q F ρ σ H _ rl e fun v h1 vv F1 ρ1 H1 s1 p1 r1 dv q1 => q1 F1 ρ1 σ H1 _ r1 (e.mono s1 p1) fun x h2 vx F2 ρ2 H2 s2 p2 r2 dx q2 => q2 F2 ρ2 σ H2 _ r2 (e.mono (s1.trans s2) (p1.trans p2)) fun y h3 vy F3 ρ3 H3 s3 p3 r3 dy q3 => by
    obtain ⟨n, kvs, ks, rfl, rfl, hn, hl, q3⟩ := q3
    cases dx with
    | @own a _ ha =>
      have ha3 := p3 _ _ ha
      obtain ⟨gs, g, rk⟩ := isDT r3 ha3 hn
      obtain ⟨b, rfl, hb⟩ := tupKey r3.same dy
      refine ⟨a, _, rfl, .t g hb (by rw [← rk.len]; exact hl), ?_⟩
      have ss := s1.trans (s2.trans s3)
      have pp := p1.trans (p2.trans p3)
      exact k.nx env _ F3 ρ3 σ _ ss pp (r3.put (o' := .dT (pK kvs ks v)) hn ha3 ⟨_, rfl, RK.put (dv.mono (s2.trans s3) (p2.trans p3)) rk⟩) (e.mono ss pp) q3
/-- d[k] -= e; e changes nothing -/
theorem vs_daug {td ty tv : TE} {rd : R2} (q : VE K Θ td env h fun x h1 => VE K Θ ty env h1 fun y h2 => ∃ n kvs ks d0, x = .own n ∧ y = dT (ks.map kP) ∧ h2[n]? = some (some (.dT kvs)) ∧ vK kvs ks = some d0 ∧ kvs.length < sizeLine ∧
    VE K Θ tv env h2 fun z h3 => h3 = h2 ∧ V2 K Θ rd d0 z h3 fun w h4 => h4 = h3 ∧ E.nx env (h4.set n (some (.dT (pK kvs ks w))))) : VS K Θ (sDAug td ty tv rd) E env h := fun F ρ σ H D' rl e k =>
  q F ρ σ H _ rl e fun x h1 vx F1 ρ1 H1 s1 p1 r1 dx q1 => q1 F1 ρ1 σ H1 _ r1 (e.mono s1 p1) fun y h2 vy F2 ρ2 H2 s2 p2 r2 dy q2 => by
    obtain ⟨n, kvs, ks, d0, rfl, rfl, hn, hd, hl, q2⟩ := q2
    cases dx with
    | @own a _ ha =>
      have ha2 := p2 _ _ ha
      obtain ⟨gs, g, rk⟩ := isDT r2 ha2 hn
      obtain ⟨b, rfl, hb⟩ := tupKey r2.same dy
      rcases rk.look (k := ks) with ⟨l1, _⟩ | ⟨d, v, l1, l2, l3⟩
      · rw [hd] at l1; cases l1
      · rw [hd] at l1; cases l1
        have gg : DGet H2 a (.ref b) (some v) := by
          have z := DGet.t (k := ks) g hb
          rw [l2] at z
          exact z
        refine ⟨a, v, rfl, gg, ?_⟩
        refine q2 F2 ρ2 σ H2 _ r2 (e.mono (s1.trans s2) (p1.trans p2)) fun z h3 vz F3 ρ3 H3 s3 p3 r3 dz q3 => ?_
        obtain ⟨rfl, q3⟩ := q3
        refine q3 F3 ρ3 H3 v vz _ r3 (l3.mono s3 p3) dz fun w h4 vw F4 ρ4 H4 s4 p4 r4 dw q4 => ?_
        obtain ⟨rfl, q4⟩ := q4
        have ha4 := p4 _ _ (p3 _ _ ha2)
        obtain ⟨gs4, g4, rk4⟩ := isDT r4 ha4 hn
        obtain ⟨b4, eb, hb4⟩ := tupKey r4.same (dy.mono (s3.trans s4) (p3.trans p4))
        cases eb
        refine ⟨_, .t g4 hb4 (by rw [← rk4.len]; exact hl), ?_⟩
        have ss := s1.trans (s2.trans (s3.trans s4))
        have pp := p1.trans (p2.trans (p3.trans p4))
        exact k.nx env _ F4 ρ4 σ _ ss pp (r4.put (o' := .dT (pK kvs ks w)) hn ha4 ⟨_, rfl, RK.put dw rk4⟩) (e.mono ss pp) q4
theorem v2_rsub {i j : Int} (q : R (dI (i - j)) h) : V2 K Θ rSub (dI i) (dI j) h R := fun F ρ H vx vy Q rl a b k => by
  obtain rfl := a.int
  obtain rfl := b.int
  exact ⟨i, j, rfl, rfl, k _ h _ F ρ H (Same.refl _) (Pre.refl _) rl (.p (.int _)) q⟩
theorem v2_radd {i j : Int} (q : R (dI (i + j)) h) : V2 K Θ rAdd (dI i) (dI j) h R := fun F ρ H vx vy Q rl a b k => by
  obtain rfl := a.int
  obtain rfl := b.int
  exact ⟨i, j, rfl, rfl, k _ h _ F ρ H (Same.refl _) (Pre.refl _) rl (.p (.int _)) q⟩
/-! ### lists -/
theorem RA.take' {F : Hp} {ρ : List Addr} {ds : List D} {vs : List V} (r : RA K F ρ ds vs) (i : Nat) : RA K F ρ (ds.take i) (vs.take i) := r.take i
theorem vm_insert {n : Nat} {xs : List D} {i : Int} (hn : h[n]? = some (some (.lst xs))) (hl : xs.length < sizeLine) (h0 : 0 ≤ i ∧ i < 2 ^ 63) (q : R dN (h.set n (some (.lst (xs.take i.toNat ++ [y] ++ xs.drop i.toNat))))) :
    VM K Θ (fun x vs H Q => ∃ (l : Addr) (xs : List V) (i : Int) (y : V), x = .ref l ∧ vs = [.int i, y] ∧ H l = some (.lst xs) ∧ xs.length < sizeLine ∧ 0 ≤ i ∧ i < 2 ^ 63 ∧ Q .non (upd H l (.lst (xs.take i.toNat ++ [y] ++ xs.drop i.toNat)))) (.own n) [dI i, y] h R := fun F ρ H vx vs Q rl a b k => by
  cases a with
  | own a =>
    cases b with
    | cons b c =>
      cases c with
      | cons c c2 =>
        cases c2
        obtain rfl := b.int
        obtain ⟨p, u, e1, e2, e3, us, e4, e5⟩ := rl.own _ _ hn
        rw [a] at e1; cases e1
        subst e4
        refine ⟨_, us, i, _, rfl, rfl, e3, by rw [← e5.len]; exact hl, h0.1, h0.2, ?_⟩
        exact k _ _ _ F ρ _ (Same.refl _) (Pre.refl _) (rl.put (o' := .lst (xs.take i.toNat ++ [y] ++ xs.drop i.toNat)) hn a ⟨_, rfl, ((e5.take _).append (.cons c .nil)).append (e5.drop _)⟩) (.p .non) q
/-- an own list and one that stays, joined: a new list that stays -/
theorem v2_addWO {n : Nat} {i j : List P} (hn : h[n]? = some (some (.lst (i.map D.p)))) (hl : i.length + j.length ≤ sizeLine) (q : R (dL (i ++ j)) h) : V2 K Θ (rAddW K) (.own n) (dL j) h R := v2_or2 (v2_or2 (v2_or2 fun F ρ H vx vy Q rl a b k => by
  cases a with
  | own a =>
    cases b with
    | p b =>
      cases b with
      | lst b1 b2 =>
        obtain ⟨p, u, e1, e2, e3, us, e4, e5⟩ := rl.own _ _ hn
        rw [a] at e1; cases e1
        subst e4
        have a2 := e5.pure
        refine ⟨_, _, _, _, rfl, rfl, .of e3, rl.same.seq b1, by rw [← a2.len, ← b2.len]; exact hl, fun p hp => ?_⟩
        have sn := fun o => same_new (o := o) (rl.free hp)
        exact k _ h _ _ ρ _ (sn _) (Pre.refl _) (rl.frz hp) (.p (.lst (.of upd_same) ((a2.append b2).mono (sn _)))) q))
end
end Kb

/-! What may be raised: defs that raise, raise, try .. except. -/
namespace Kb
open PySem PySem.Spec PyProof.Rows L2
/-- a promise of a def that may raise: W args heap what-follows the-errors -/
abbrev SpcX := List D → Hs → (D → Hs → Prop) → (Exn → Hs → Prop) → Prop
def spDX (K : PySem.W.Frag) (T : List Addr) (W : SpcX) : Sp := fun vs H Q E => ∃ (ds : List D) (h : Hs) (F : Hp) (ρ : List Addr) (R : D → Hs → Prop) (RX : Exn → Hs → Prop), Base K T F ρ h H ∧ RA K F ρ ds vs ∧ W ds h R RX ∧
  (∀ (d : D) (h' : Hs) (v : V) (F' : Hp) (ρ' : List Addr) (H' : Hp), Same F F' → Pre ρ ρ' → Base K T F' ρ' h' H' → RD K F' ρ' d v → R d h' → Q v H') ∧ Wish K (Ctx.dfn T E RX) F ρ
section
variable {P : Program} {w : World} {K : PySem.W.Frag} {mg : Str → Option Value} {base : Heap} {x : Str} {st : Stmt} {N ps : List Str} {k : Nat} {T : List Addr}
/-- a def of the text that may raise -/
theorem DefAt.okX (A : DefAt K mg x st ps) (S : FnScope N ps (defScope st)) (W : SpcX) (len : ∀ ds h R RX, W ds h R RX → ds.length = ps.length)
    (hbody : ∀ (f : Addr) (cdv : Value) (A : Around) (outer : List Env) (s : Shared) (H : Hp) (E : XK), Room k (A.deeper (envOfC x (defScope st) s.heap.objs.size f cdv)) →
      ∃ t, PSs (cxOf (L2.CX P w) P w K mg base N x (defScope st) f cdv A outer s H E) (defBody st) t ∧ ∀ ds h R RX, W ds h R RX → VS K (Ctx.dfn T E RX) t { nx := fun _ h' => R dN h', rt := R } (startD N ds) h) : HasF P w K mg base (L2.CX P w) (k + 1) x ps (spDX K T W) := by
  obtain ⟨f, fd, F, hm, hb⟩ := A.ex
  refine ⟨⟨f, fd, F.okX S (fun vs H Q E h => ?_) (fun cdv A outer s H vs Q E hr h => ?_), hm, F.kp, hb⟩⟩
  · obtain ⟨ds, h, F, ρ, R, RX, rl, ra, hw, _⟩ := h
    rw [← ra.len]
    exact len ds h R RX hw
  · obtain ⟨ds, h, F, ρ, R, RX, rl, ra, hw, kq, wq⟩ := h
    obtain ⟨t, ht, q⟩ := hbody f cdv A outer s H E hr
    exact ⟨t, ht, q ds h R RX hw F ρ _ H _ ⟨rl, wq⟩ (renv_start ra) ⟨fun env' h' F' ρ' σ' H' s p r e q => kq dN h' .non F' ρ' H' s p r.toBase (.p .non) q, fun d h' v F' ρ' H' s p r dv q => kq d h' v F' ρ' H' s p r.toBase dv q, fun _ _ _ _ _ _ _ _ _ _ z => z.elim, fun _ _ _ _ _ _ _ _ _ _ z => z.elim⟩⟩
end
section
variable {K : PySem.W.Frag} {Θ : Ctx} {env : Env'} {h : Hs} {R : D → Hs → Prop} {ta : TE} {t : TA}
/-- raise C('..'): as a term -/
def tRaise (E : XK) (C : Addr) : TS := fun _ _ H => E (.ref C) none H
def tRaise1 (E : XK) (C : Addr) (ta : TE) : TS := fun _ σ H => ta σ H fun _ H1 => E (.ref C) none H1
theorem vs_raise {T : List Addr} {E : XK} {RX : Exn → Hs → Prop} {C : Addr} {N : En} (q : RX ⟨C, none⟩ h) : VS K (Ctx.dfn T E RX) (tRaise E C) N env h := fun F ρ σ H D' rl e k =>
  rl.wish.run ⟨C, none⟩ none env h F ρ σ H (Same.refl _) (Pre.refl _) rl.toBase e rfl q
theorem vs_raise1 {T : List Addr} {E : XK} {RX : Exn → Hs → Prop} {C : Addr} {N : En} (q : VE K (Ctx.dfn T E RX) ta env h fun _ h1 => RX ⟨C, none⟩ h1) : VS K (Ctx.dfn T E RX) (tRaise1 E C ta) N env h := fun F ρ σ H D' rl e k =>
  q F ρ σ H _ rl e fun d h1 v F1 ρ1 H1 s1 p1 r1 dv q1 => r1.wish.run ⟨C, none⟩ none env h1 F1 ρ1 σ H1 (Same.refl _) (Pre.refl _) r1.toBase (e.mono s1 p1) rfl q1
/-- f(..) of a def that may raise, in a def that may raise -/
theorem ve_callX {T : List Addr} {E : XK} {RX : Exn → Hs → Prop} {W : SpcX} (q : VA K (Ctx.dfn T E RX) t env h fun xs h1 => W xs h1 R RX) : VE K (Ctx.dfn T E RX) (tCall (spDX K T W) [] E t) env h R := fun F ρ σ H Q rl e k =>
  q F ρ σ H _ rl e fun xs h1 vs F1 ρ1 H1 s1 p1 r1 dxs q1 => ⟨xs, h1, F1, ρ1, R, RX, r1.toBase, by rw [List.append_nil]; exact dxs, q1,
    fun d h' v F' ρ' H' s3 p3 r3 dv q3 => k d h' v F' ρ' H' (s1.trans s3) (p1.trans p3) ⟨r3, r1.wish.mono s3 p3⟩ dv q3, ⟨r1.wish.run, fun _ _ z => by cases z⟩⟩
/-- f(..) of a def that may raise, within a try -/
theorem ve_callS {W : SpcX} (q : VA K Θ t env h fun xs h1 => W xs h1 R fun X h' => Θ.ex X env h') : VE K Θ (tCallS (spDX K Θ.tabs W) Θ.wish t) env h R := fun F ρ σ H Q rl e k =>
  q F ρ σ H _ rl e fun xs h1 vs F1 ρ1 H1 s1 p1 r1 dxs q1 => ⟨xs, h1, F1, ρ1, R, _, r1.toBase, dxs, q1,
    fun d h' v F' ρ' H' s3 p3 r3 dv q3 => k d h' v F' ρ' H' (s1.trans s3) (p1.trans p3) ⟨r3, r1.wish.mono s3 p3⟩ dv q3,
    ⟨fun X d env' h' F' ρ' σ' H' s3 p3 b _ xa ex => r1.wish.run X d env h' F' ρ' σ H' s3 p3 b (e.mono (s1.trans s3) (p1.trans p3)) xa ex, fun _ _ z => by cases z⟩⟩
/-- a try: the body's context -/
abbrev Ctx.try' (Θ : Ctx) (W : WX) (EX : Exn → Env' → Hs → Prop) : Ctx := ⟨Θ.tabs, fun σ cls d H => W cls d σ H, EX, Θ.fl⟩
theorem EnOk.try' {W : WX} {EX : Exn → Env' → Hs → Prop} {F : Hp} {ρ : List Addr} {E : En} {D' : Ends} (wi : Wish K Θ F ρ) (k : EnOk K Θ F ρ E D') : EnOk K (Θ.try' W EX) F ρ E D' :=
  ⟨fun env h F2 ρ2 σ H a b r => k.nx env h F2 ρ2 σ H a b ⟨r.toBase, wi.mono a b⟩, fun d h v F2 ρ2 H a b r => k.rt d h v F2 ρ2 H a b ⟨r.toBase, wi.mono a b⟩,
   fun env h F2 ρ2 σ H a b r => k.bk env h F2 ρ2 σ H a b ⟨r.toBase, wi.mono a b⟩, fun env h F2 ρ2 σ H a b r => k.ct env h F2 ρ2 σ H a b ⟨r.toBase, wi.mono a b⟩⟩
/-- try: .. except C: .. -/
def tTry (K : PySem.W.Frag) (c : Value) (tb : WX → TS) (ts : Addr → Value → Option Addr → TS) (Wout : WX) : TS := fun D σ H => tb (wOnly K c ts Wout D) D σ H
theorem vs_try {c : Value} {tb : WX → TS} {ts : Addr → Value → Option Addr → TS} {N : En} (EX : Exn → Env' → Hs → Prop) (q : ∀ W : WX, VS K (Θ.try' W EX) (tb W) N env h)
    (hx : ∀ (X : Exn) (env' : Env') (h' : Hs), EX X env' h' → ∃ b, PySem.W.exmOne K (.ref X.cls) c = some b ∧ (b = true → ∀ a d, (X.fs = none → d = none) → VS K Θ (ts a (.ref X.cls) d) N env' h') ∧ (b = false → Θ.ex X env' h')) :
    VS K Θ (tTry K c tb ts fun cls d σ H => Θ.wish σ cls d H) N env h := fun F ρ σ H D' rl e k => by
  refine q _ F ρ σ H D' ⟨rl.toBase, ⟨fun X d env' h' F' ρ' σ' H' s p b re xa ex => ?_, rl.wish.floor⟩⟩ e (k.try' rl.wish)
  obtain ⟨bb, hb, h1, h2⟩ := hx X env' h' ex
  refine ⟨bb, hb, fun z a na => h1 z a d (fun zf => ?_) F' ρ' σ' H' D' ⟨b, rl.wish.mono s p⟩ re (k.mono s p), fun z => rl.wish.run X d env' h' F' ρ' σ' H' s p b re xa (h2 z)⟩
  obtain ⟨c0, fs⟩ := X
  cases zf
  exact xa
/-- try: .. except C as n: .. -/
def tTryAs (K : PySem.W.Frag) (c : Value) (i : Nat) (tb : WX → TS) (ts : Addr → Value → Option Addr → TS) (Wout : WX) : TS := fun D σ H => tb (wAs K c i ts Wout D) D σ H
def En.wipe (i : Nat) (N : En) : En := { nx := fun env h => N.nx (env.set i none) h, rt := N.rt, bk := fun env h => N.bk (env.set i none) h, ct := fun env h => N.ct (env.set i none) h }
theorem EnOk.wipe {F : Hp} {ρ : List Addr} {N : En} {D' : Ends} (i : Nat) (k : EnOk K Θ F ρ N D') :
    EnOk K Θ F ρ (N.wipe i) { nx := fun σ' H' => D'.nx (σ'.set i none) H', rt := D'.rt, bk := fun σ' H' => D'.bk (σ'.set i none) H', ct := fun σ' H' => D'.ct (σ'.set i none) H' } :=
  ⟨fun env h F2 ρ2 σ H a b r e => k.nx _ h F2 ρ2 _ H a b r e.wipe, k.rt, fun env h F2 ρ2 σ H a b r e => k.bk _ h F2 ρ2 _ H a b r e.wipe, fun env h F2 ρ2 σ H a b r e => k.ct _ h F2 ρ2 _ H a b r e.wipe⟩
theorem vs_tryAs {c : Value} {i : Nat} {tb : WX → TS} {ts : Addr → Value → Option Addr → TS} {N : En} (EX : Exn → Env' → Hs → Prop) (q : ∀ W : WX, VS K (Θ.try' W EX) (tb W) N env h)
    (hx : ∀ (X : Exn) (env' : Env') (h' : Hs), EX X env' h' → ∃ b, PySem.W.exmOne K (.ref X.cls) c = some b ∧ (b = true → ∀ a d, (X.fs = none → d = none) → VS K Θ (ts a (.ref X.cls) d) (N.wipe i) (env'.set i (some (.p (.cls a)))) h') ∧ (b = false → Θ.ex X env' h')) :
    VS K Θ (tTryAs K c i tb ts fun cls d σ H => Θ.wish σ cls d H) N env h := fun F ρ σ H D' rl e k => by
  refine q _ F ρ σ H D' ⟨rl.toBase, ⟨fun X d env' h' F' ρ' σ' H' s p b re xa ex => ?_, rl.wish.floor⟩⟩ e (k.try' rl.wish)
  obtain ⟨bb, hb, h1, h2⟩ := hx X env' h' ex
  refine ⟨bb, hb, fun z a na => h1 z a d (fun zf => ?_) F' ρ' _ H' _ ⟨b, rl.wish.mono s p⟩ (re.set (.p (.cls a))) ((k.mono s p).wipe i), fun z => rl.wish.run X d env' h' F' ρ' σ' H' s p b re xa (h2 z)⟩
  obtain ⟨c0, fs⟩ := X
  cases zf
  exact xa
/-- a suite whose error's class is known -/
def tKnown (C : Addr) (ts : Addr → TS) (a : Addr) (cls : Value) (d : Option Addr) : TS := fun D σ H => cls = .ref C ∧ d = none ∧ ts a D σ H
theorem vs_known {C : Addr} {ts : Addr → TS} {a : Addr} {N : En} (q : VS K Θ (ts a) N env h) : VS K Θ (tKnown C ts a (.ref C) none) N env h := fun F ρ σ H D' rl e k => ⟨rfl, rfl, q F ρ σ H D' rl e k⟩
/-- isinstance(e, C), e the suite's own error -/
theorem vc_isE {Dc a : Addr} {c : D} {cv : Value} {b : Bool} (hc : (∃ n, c = .p (.ty n) ∧ cv = .type n) ∨ ∃ C, c = .p (.cls C) ∧ cv = .ref C) (e : PySem.W.kitOne K (.ref Dc) cv = some b) (q : R (dB b) h) : VC K Θ (rIsE K Dc a) [.p (.cls a), c] h R := fun F ρ H vs Q rl ra k => by
  cases ra with
  | cons r1 ra =>
    cases ra with
    | cons r2 ra =>
      cases ra
      cases r1 with
      | p r1 =>
        cases r1
        rcases hc with ⟨n, rfl, rfl⟩ | ⟨C, rfl, rfl⟩
        · cases r2 with
          | p r2 =>
            cases r2
            exact ⟨_, _, b, rfl, fun u z => z, e, k _ h _ F ρ H (Same.refl _) (Pre.refl _) rl (.p (.bl b)) q⟩
        · cases r2 with
          | p r2 =>
            cases r2
            exact ⟨_, _, b, rfl, fun u z => z, e, k _ h _ F ρ H (Same.refl _) (Pre.refl _) rl (.p (.bl b)) q⟩
end
section
variable {X : Cx} {C : Addr} {B newId initId : String} {bmB : List Value} {x : Str} {e : Expr} {ta : TE} {p pos pos' : Pos} {E : XK}
theorem ps_raiseD {m : Str} {j : Nat} {p2 : Pos} (hc : X.calm = true) (tk : Takes X fun cls d _ H => E cls d H) (F : ExcBaseFacts B newId initId bmB) (q : PySem.W.excIn X.K C bmB newId = true) (gC : X.mg x = some (.ref C)) (kC : PySem.W.keepIn X.K (.ref C) = true) (r : Raises X (.ref C)) (hg : Gl X x)
    (hdb : (x == ("__debug__" : Str)) = false := by decide) : PS X (.Raise (some (.Call (.Name x p) [.Constant (.str m) j p2] [] pos)) none pos') (tRaise E C) := ps_raise hc tk (pmk_own F q gC kC r hg hdb)
theorem ps_raiseD1 (hc : X.calm = true) (tk : Takes X fun cls d _ H => E cls d H) (F : ExcBaseFacts B newId initId bmB) (q : PySem.W.excIn X.K C bmB newId = true) (gC : X.mg x = some (.ref C)) (kC : PySem.W.keepIn X.K (.ref C) = true) (r : Raises X (.ref C)) (hg : Gl X x) (he : PE X e ta)
    (hs : starEach [e] X.env = (false, eval e X.env) :: starEach [] X.env := by rfl) (hdb : (x == ("__debug__" : Str)) = false := by decide) : PS X (.Raise (some (.Call (.Name x p) [e] [] pos)) none pos') (tRaise1 E C ta) := ps_raise hc tk (SkE.pmk_own1 F q gC kC r hg he hs hdb)
theorem call_isEK {K : PySem.W.Frag} {a D : Addr} {oe : Obj} {pn : List (Addr × Obj)} (hK : X.K = K) (C : ExcC K D) (hz : Zc (.ref D) none oe) (hf : ∃ vs, oe.data = .fields vs) : CallR (X.suite a ((a, oe) :: pn)) (.builtin "isinstance") (rIsE K D a) := by
  subst hK
  exact call_isE C hz hf
theorem pss_known {body : List Stmt} {ts : Addr → TS} (h : ∀ (a : Addr) (oe : Obj) (pn : List (Addr × Obj)), Zc (.ref C) none oe → (∃ vs, oe.data = .fields vs) → PSs (X.suite a ((a, oe) :: pn)) body (ts a)) :
    ∀ (a : Addr) (oe : Obj) (cls : Value) (d : Option Addr) (pn : List (Addr × Obj)), Zc cls d oe → (∃ vs, oe.data = .fields vs) → PSs (X.suite a ((a, oe) :: pn)) body (tKnown C ts a cls d) := fun a oe cls d pn hz hf =>
  ⟨fun pins s σ H D I z => by
    obtain ⟨rfl, rfl, z⟩ := z
    exact (h a oe pn hz hf).run pins s σ H D I z⟩
end
section
variable {X : Cx} {x n : Str} {c : Value} {i : Nat} {body suite : List Stmt} {b₀ : Stmt} {np pos pos' : Pos} {tb : WX → TS} {ts : Addr → Value → Option Addr → TS}
/-- a try that lets nothing else out -/
theorem ps_tryD {K : PySem.W.Frag} (hK : X.K = K) (hs : X.stack = X.env :: X.outer) (hf : X.env.frame = some X.env.locals) (hc : Names X x c)
    (hb : ∀ (W : WX) (pn : List (Addr × Obj)) (xe : Value → Shared → Prop), Takes (X.tr pn xe) W → PassesOwn (model X.prog X.w) X.A X.env xe → PSs (X.tr pn xe) body (tb W))
    (hsu : ∀ (a : Addr) (oe : Obj) (cls : Value) (d : Option Addr) (pn : List (Addr × Obj)), Zc cls d oe → (∃ vs, oe.data = .fields vs) → PSs (X.suite a ((a, oe) :: pn)) (b₀ :: suite) (ts a cls d)) :
    PS X (.Try body [.ExceptHandler (some (.Name x np)) none (b₀ :: suite) pos'] [] [] pos) (tTry K c tb ts fun _ _ _ _ => False) := hK ▸ ps_try_only hs hf hc takes0 hb hsu
theorem ps_tryAsD {K : PySem.W.Frag} (hK : X.K = K) (hs : X.stack = X.env :: X.outer) (hf : X.env.frame = some X.env.locals) (hN : X.N.Nodup) (hi : X.N[i]? = some n) (hln : X.env.kindOf n = some .local) (hc : Names X x c)
    (hb : ∀ (W : WX) (pn : List (Addr × Obj)) (xe : Value → Shared → Prop), Takes (X.tr pn xe) W → PassesOwn (model X.prog X.w) X.A X.env xe → PSs (X.tr pn xe) body (tb W))
    (hsu : ∀ (a : Addr) (oe : Obj) (cls : Value) (d : Option Addr) (pn : List (Addr × Obj)), Zc cls d oe → (∃ vs, oe.data = .fields vs) → PSs (X.suite a ((a, oe) :: pn)) (b₀ :: suite) (ts a cls d)) :
    PS X (.Try body [.ExceptHandler (some (.Name x np)) (some n) (b₀ :: suite) pos'] [] [] pos) (tTryAs K c i tb ts fun _ _ _ _ => False) := hK ▸ ps_try_as hs hf hN hi hln hc takes0 hb hsu
end
section
variable {X : Cx} {k : Nat} {x : Str} {ps : List Str} {sp : Sp} {p pos : Pos} {e : Expr} {es : List Expr} {t : TA} {W : WX}
theorem HasF.callS (h : HasF X.prog X.w X.K X.mg X.base (L2.CX X.prog X.w) k x ps sp) (hr : Room k X.A) (hg : Gl X x) (tk : Takes X W)
    (ha : PA X (e :: es) t) (hdb : (x == ("__debug__" : Str)) = false := by decide) (he : starEach (e :: es) X.env = (false, eval e X.env) :: starEach es X.env := by rfl) (hpl : (backTo pos (starEach es X.env)).any (·.1) = false := by rfl) :
    PE X (.Call (.Name x p) (e :: es) [] pos) (tCallS sp (WE W) t) := by
  obtain ⟨f, fd, F, hm, hk, hb⟩ := h.ex
  exact pe_callS F hr hg hm hk hb (fun σ => passAt tk σ) ha hdb he hpl
end
/-! ### what is known of an error's class -/
section
variable {K : PySem.W.Frag} {N D : Addr} {r : Bool}
theorem kitCls_of (i : PySem.W.isClsIn K D = true) (t : PySem.W.typeIn K (.ref D) = some (.type "type")) (s : PySem.W.subIn K (.ref N) (.ref D) = some r) : PySem.W.kitCls K (.ref N) (.ref D) = some r := by
  have i' : (PySem.W.clsIn K D).isSome = true := i
  show (if ((PySem.W.clsIn K D).isSome && PySem.W.typeIn K (.ref D) == some (.type "type")) = true then PySem.W.subIn K (.ref N) (.ref D) else none) = _
  rw [i', t, if_pos (by simp), s]
theorem exm_cls (b : PySem.W.subIn K (.ref D) (.type "BaseException") = some true) (i : PySem.W.isClsIn K D = true) (t : PySem.W.typeIn K (.ref D) = some (.type "type")) (s : PySem.W.subIn K (.ref N) (.ref D) = some r) : PySem.W.exmOne K (.ref N) (.ref D) = some r := by
  unfold PySem.W.exmOne
  rw [b, if_pos (by simp), kitCls_of i t s]
theorem kit_cls (n : (N == D) = false) (i : PySem.W.isClsIn K D = true) (t : PySem.W.typeIn K (.ref D) = some (.type "type")) (s : PySem.W.subIn K (.ref N) (.ref D) = some r) : PySem.W.kitOne K (.ref N) (.ref D) = some r := by
  unfold PySem.W.kitOne
  have n' : ¬ (Value.ref N == Value.ref D) = true := fun z => by
    have e := eq_of_beq z
    cases e
    simp at n
  rw [if_neg n', kitCls_of i t s]
theorem kit_self : PySem.W.kitOne K (.ref N) (.ref N) = some true := by
  unfold PySem.W.kitOne
  rw [if_pos (beq_self_eq_true _)]
theorem kit_base {T : String} (k : PySem.W.kitMeta T = true) (s : PySem.W.subIn K (.ref N) (.type T) = some r) : PySem.W.kitOne K (.ref N) (.type T) = some r := by
  unfold PySem.W.kitOne
  have n' : ¬ (Value.ref N == Value.type T) = true := fun z => by
    have e := eq_of_beq z
    cases e
  rw [if_neg n']
  show (if PySem.W.kitMeta T = true then PySem.W.subIn K (.ref N) (.type T) else none) = _
  rw [if_pos k, s]
end
end Kb

/-! Texts: walked over, split, sliced, put together; what stands in them. -/
namespace Kb
open PySem PySem.Spec PyProof.Rows L2
section
variable {K : PySem.W.Frag} {Θ : Ctx} {env : Env'} {h : Hs} {R : D → Hs → Prop} {te : TE}
/-- a text's characters -/
def chP (z : Str) : List P := z.cps.toList.map fun c => .str ⟨#[c]⟩
theorem vi_str {R : List D → (Hs → Prop) → Hs → Prop} (q : VE K Θ te env h fun x h1 => ∃ z, x = dS z ∧ R ((chP z).map D.p) (fun _ => True) h1) : VI K Θ (iStr te) env h R := fun F ρ σ H Q rl e k =>
  q F ρ σ H _ rl e fun x h1 vx F1 ρ1 H1 s1 p1 r1 dx q1 => by
    obtain ⟨z, rfl, q1⟩ := q1
    obtain rfl := dx.str
    have hl : ((chP z).map D.p).length = z.cps.size := by unfold chP; simp
    refine ⟨z, rfl, k ((chP z).map D.p) (fun _ => True) h1 _ F1 ρ1 H1 s1 p1 r1 ⟨fun F' ρ' h' H' s p r _ => ?_, fun i F' ρ' h' H' s p r _ hi => ?_, fun i d F' ρ' h' H' x H2 s p r _ hd hy => ?_⟩ q1⟩
    · show z.cps.size ≤ _
      rw [hl]
      exact Nat.le_refl _
    · rw [hl] at hi
      exact hi
    · obtain ⟨e1, c, e2, e3⟩ := hy
      subst e1 e3
      have : d = dS ⟨#[c]⟩ := by
        unfold chP at hd
        rw [List.getElem?_map, List.getElem?_map, Array.getElem?_toList, e2] at hd
        exact (Option.some.inj hd).symm
      subst this
      exact ⟨F', Same.refl _, r, .p (.str _)⟩
theorem RPs.of_strs {F : Hp} : ∀ ys : List Str, RPs K F (ys.map P.str) (ys.map V.str)
  | [] => .nil
  | y :: ys => .cons (.str y) (RPs.of_strs ys)
theorem vm_split {a b : Str} (hb : (b.length == 0) = false) (ha : a.length + 2 ≤ sizeLine) (q : R (dL ((Txt.split a b).map P.str)) h) :
    VM K Θ (fun x xs H Q => ∃ a b, x = V.str a ∧ xs = [V.str b] ∧ (b.length == 0) = false ∧ a.length + 2 ≤ sizeLine ∧ rNewStrs (Txt.split a b) H Q) (dS a) [dS b] h R := fun F ρ H vx vs Q rl x y k => by
  obtain rfl := x.str
  cases y with
  | cons y e =>
    cases e
    obtain rfl := y.str
    refine ⟨a, b, rfl, rfl, hb, ha, fun p hp => ?_⟩
    exact k _ h _ (upd F p (.lst ((Txt.split a b).map V.str))) ρ _ (same_new (rl.free hp)) (Pre.refl _) (rl.frz hp) (.p (.lst (.of upd_same) (RPs.of_strs _))) q
theorem ve_slS {tl th : TO} (q : VE K Θ te env h fun x h1 => VO K Θ tl env h1 fun lo h2 => VO K Θ th env h2 fun hi h3 => ∃ z, x = dS z ∧ z.length ≤ sizeLine ∧ R (dS (cutS z lo hi)) h3) : VE K Θ (tSl rSlS te tl th) env h R := fun F ρ σ H Q rl e k =>
  q F ρ σ H _ rl e fun x h1 v F1 ρ1 H1 s1 p1 r1 dx q1 => q1 F1 ρ1 σ H1 _ r1 (e.mono s1 p1) fun lo h2 F2 ρ2 H2 s2 p2 r2 q2 => q2 F2 ρ2 σ H2 _ r2 (e.mono (s1.trans s2) (p1.trans p2)) fun hi h3 F3 ρ3 H3 s3 p3 r3 q3 => by
    obtain ⟨z, rfl, hz, q3⟩ := q3
    obtain rfl := dx.str
    exact ⟨z, rfl, hz, k _ h3 _ F3 ρ3 _ (s1.trans (s2.trans s3)) (p1.trans (p2.trans p3)) r3 (.p (.str _)) q3⟩
theorem cutS_le (z : Str) (lo hi : Option Int) : (cutS z lo hi).length ≤ z.length := cutS_length z lo hi
theorem v2_inC {c : Nat} {z : Str} (q : R (dB (decide (c ∈ z.cps.toList))) h) : V2 K Θ (rInU K) (dS ⟨#[c]⟩) (dS z) h R := v2_or2 fun F ρ H vx vy Q rl a b k => by
  obtain rfl := a.str
  obtain rfl := b.str
  exact ⟨c, z, rfl, rfl, k _ h _ F ρ H (Same.refl _) (Pre.refl _) rl (.p (.bl _)) q⟩
theorem v2_ninC {c : Nat} {z : Str} (q : R (dB (!decide (c ∈ z.cps.toList))) h) : V2 K Θ (rNiU K) (dS ⟨#[c]⟩) (dS z) h R := v2_or2 fun F ρ H vx vy Q rl a b k => by
  obtain rfl := a.str
  obtain rfl := b.str
  exact ⟨c, z, rfl, rfl, k _ h _ F ρ H (Same.refl _) (Pre.refl _) rl (.p (.bl _)) q⟩
theorem RA.dropLast {F : Hp} {ρ : List Addr} {ds : List D} {vs : List V} (r : RA K F ρ ds vs) : RA K F ρ ds.dropLast vs.dropLast := by
  rw [List.dropLast_eq_take, List.dropLast_eq_take, r.len]
  exact r.take _
/-- xs.pop() -/
theorem vm_pop {n : Nat} {xs : List D} {d : D} (hn : h[n]? = some (some (.lst xs))) (hd : xs[xs.length - 1]? = some d) (q : R d (h.set n (some (.lst xs.dropLast)))) : VM K Θ rPop (.own n) [] h R := fun F ρ H vx vs Q rl a b k => by
  cases a with
  | own a =>
    cases b
    obtain ⟨p, u, e1, e2, e3, us, e4, e5⟩ := rl.own _ _ hn
    rw [a] at e1; cases e1
    subst e4
    obtain ⟨v, h1, h2⟩ := e5.get hd
    rw [e5.len] at h1
    exact ⟨_, us, v, rfl, rfl, e3, h1, k d _ v F ρ _ (Same.refl _) (Pre.refl _) (rl.put (o' := .lst xs.dropLast) hn a ⟨_, rfl, e5.dropLast⟩) h2 q⟩
theorem RA.strs {F : Hp} {ρ : List Addr} : ∀ {ns : List Str} {vs : List V}, RA K F ρ (ns.map dS) vs → vs = ns.map V.str
  | [], _, .nil => rfl
  | n :: ns, _, .cons a r => by
    rw [RA.strs r, a.str]
    rfl
/-- join of an own list -/
theorem vm_joinO {a : Str} {ys : List Str} {n : Nat} (hn : h[n]? = some (some (.lst (ys.map dS)))) (hl : (ys.map (·.length)).sum + ys.length * a.length ≤ 16777216) (q : R (dS (Txt.join a ys)) h) :
    VM K Θ (fun x xs H Q => ∃ a p, ∃ ys : List Str, x = V.str a ∧ xs = [V.ref p] ∧ (SqL K H p (ys.map V.str) ∨ SqT K H p (ys.map V.str)) ∧ (ys.map (·.length)).sum + ys.length * a.length ≤ 16777216 ∧ Q (.str (Txt.join a ys)) H) (dS a) [.own n] h R := fun F ρ H vx vs Q rl b c k => by
  obtain rfl := b.str
  cases c with
  | cons c e =>
    cases e
    cases c with
    | own c =>
      obtain ⟨p, u, e1, e2, e3, us, e4, e5⟩ := rl.own _ _ hn
      rw [c] at e1; cases e1
      subst e4
      obtain rfl := e5.strs
      exact ⟨a, _, ys, rfl, rfl, .inl (.of e3), hl, k _ h _ F ρ H (Same.refl _) (Pre.refl _) rl (.p (.str _)) q⟩
/-! ### f-strings -/
def VJ (K : PySem.W.Frag) (Θ : Ctx) : List TE → Str → Env' → Hs → (Str → Hs → Prop) → Prop
  | [], acc, _, h, R => R acc h
  | t :: ts, acc, env, h, R => VE K Θ t env h fun x h1 => ∃ y, x = dS y ∧ (acc ++ y).length ≤ sizeLine ∧ VJ K Θ ts (acc ++ y) env h1 R
theorem js_run : ∀ {ts : List TE} {acc : Str} {h : Hs} {R : Str → Hs → Prop} {F : Hp} {ρ : List Addr} {σ : L2.St} {H : Hp} {Q : Str → Hp → Prop}, VJ K Θ ts acc env h R → Rel K Θ F ρ h H → REnv K F ρ env σ →
    (∀ (y : Str) (h' : Hs) (F' : Hp) (ρ' : List Addr) (H' : Hp), Same F F' → Pre ρ ρ' → Rel K Θ F' ρ' h' H' → R y h' → Q y H') → tJs ts acc σ H Q
  | [], acc, h, R, F, ρ, σ, H, Q, q, rl, e, k => k acc h F ρ H (Same.refl _) (Pre.refl _) rl q
  | t :: ts, acc, h, R, F, ρ, σ, H, Q, q, rl, e, k => q F ρ σ H _ rl e fun x h1 v F1 ρ1 H1 s1 p1 r1 dx q1 => by
    obtain ⟨y, rfl, hl, q1⟩ := q1
    obtain rfl := dx.str
    exact ⟨y, rfl, hl, js_run q1 r1 (e.mono s1 p1) fun y h' F' ρ' H' s p r q2 => k y h' F' ρ' H' (s1.trans s) (p1.trans p) r q2⟩
theorem ve_js {ts : List TE} (q : VJ K Θ ts Str.empty env h fun y h1 => R (dS y) h1) : VE K Θ (fun σ H Q => tJs ts Str.empty σ H fun out H1 => Q (.str out) H1) env h R := fun F ρ σ H Q rl e k =>
  js_run q rl e fun y h' F' ρ' H' s p r q2 => k (dS y) h' _ F' ρ' H' s p r (.p (.str _)) q2
theorem ve_fmtI (q : VE K Θ te env h fun x h1 => ∃ i : Int, x = dI i ∧ i.natAbs.log2 < 1920 ∧ R (dS (toString i)) h1) : VE K Θ (tFmt te) env h R := fun F ρ σ H Q rl e k =>
  q F ρ σ H _ rl e fun x h1 v F1 ρ1 H1 s1 p1 r1 dx q1 => by
    obtain ⟨i, rfl, hl, q1⟩ := q1
    obtain rfl := dx.int
    exact .inr ⟨i, rfl, hl, k _ h1 _ F1 ρ1 H1 s1 p1 r1 (.p (.str _)) q1⟩
/-- the text of a natural number has few digits -/
theorem num_len {i : Int} {k : Nat} (hk : 0 < k) (h0 : 0 ≤ i) (h : i < (10 : Int) ^ k) : ((toString i : String) : Str).length ≤ k := by
  obtain ⟨n, rfl⟩ := Int.eq_ofNat_of_zero_le h0
  have e := SX.num_S n
  show (Str.ofString (toString (n : Int))).length ≤ k
  rw [e, SX.S_len]
  exact TL.numL_len hk (by exact_mod_cast h)
end
end Kb

/-! Errors with one field of their own. -/
namespace Kb
open PySem PySem.Spec PyProof.Rows L2
/-- what an __init__ of one field promises -/
def spInit1 (C : Addr) (f : Str) : Sp := fun vs H Q _ => ∃ (a : Addr) (v : V), vs = [.ref a, v] ∧ H a = some (exo a C none) ∧ ∀ dx, H dx = none → dx ≠ a → Q .non (upd (upd H dx (exd dx [(f, v)])) a (exo a C (some dx)))
/-- raise C(e): the field f holds e's value -/
def tRaiseF (E : XK) (C : Addr) (f : Str) (t : TA) : TS := fun _ σ H => tMkO C (spInit1 C f) [] t σ H fun cls d H' => E cls d H'
theorem upd_made {H : Hp} {a dx : Addr} {x y z : HO} {w : HO} (na : H a = none) (ne : dx ≠ a) : upd (del (upd (upd (upd H a x) dx y) a z) a) dx w = upd H dx w := by
  funext b
  by_cases h1 : b = dx
  · subst h1
    rw [upd_same, upd_same]
  · rw [upd_ne h1, upd_ne h1]
    by_cases h2 : b = a
    · subst h2
      rw [del_same, na]
    · rw [del_ne h2, upd_ne h2, upd_ne h1, upd_ne h2]
section
variable {K : PySem.W.Frag} {env : Env'} {h : Hs} {t : TA}
theorem vs_raiseF {T : List Addr} {E : XK} {RX : Exn → Hs → Prop} {C : Addr} {f : Str} {N : En} (q : VA K (Ctx.dfn T E RX) t env h fun xs h1 => ∃ p, xs = [.p p] ∧ RX ⟨C, some [(f, p)]⟩ h1) : VS K (Ctx.dfn T E RX) (tRaiseF E C f t) N env h := fun F ρ σ H D' rl e k =>
  q F ρ σ H _ rl e fun xs h1 vs F1 ρ1 H1 s1 p1 r1 dxs q1 => by
    obtain ⟨p, rfl, q1⟩ := q1
    cases dxs with
    | cons dv dr =>
      cases dr
      cases dv with
      | p dv =>
        refine ⟨by simp, fun a na => ?_⟩
        refine ⟨a, _, rfl, upd_same, fun dx nd ne => ?_⟩
        have nd' : H1 dx = none := by
          rw [upd_ne ne] at nd
          exact nd
        refine ⟨rfl, dx, _, upd_same, by rw [upd_ne ne, upd_same], nd', ?_⟩
        rw [upd_made na ne]
        rename_i v
        have r2 := r1.frz (p := dx) (o := .xd [(f, v)]) nd'
        exact r2.wish.run ⟨C, some [(f, p)]⟩ (some dx) env h1 _ ρ1 σ _ (Same.refl _) (Pre.refl _) r2.toBase ((e.mono s1 p1).mono (same_new (r1.free nd')) (Pre.refl _)) ⟨dx, _, rfl, upd_same, .cons (dv.mono (same_new (r1.free nd'))) .nil⟩ q1
/-- a floor: what is known to stand there -/
abbrev Ctx.on (Θ : Ctx) (F0 : Hp) : Ctx := ⟨Θ.tabs, Θ.wish, Θ.ex, F0⟩
theorem Wish.on {Θ : Ctx} {F0 F : Hp} {ρ : List Addr} (w : Wish K (Θ.on F0) F ρ) (s : Same Θ.fl F0) : Wish K Θ F ρ := ⟨w.run, s.trans w.floor⟩
theorem EnOk.on {Θ : Ctx} {F0 F : Hp} {ρ : List Addr} {E : En} {D' : Ends} (s : Same Θ.fl F0) (k : EnOk K Θ F ρ E D') : EnOk K (Θ.on F0) F ρ E D' :=
  ⟨fun env h F2 ρ2 σ H a b r => k.nx env h F2 ρ2 σ H a b ⟨r.toBase, r.wish.on s⟩, fun d h v F2 ρ2 H a b r => k.rt d h v F2 ρ2 H a b ⟨r.toBase, r.wish.on s⟩,
   fun env h F2 ρ2 σ H a b r => k.bk env h F2 ρ2 σ H a b ⟨r.toBase, r.wish.on s⟩, fun env h F2 ρ2 σ H a b r => k.ct env h F2 ρ2 σ H a b ⟨r.toBase, r.wish.on s⟩⟩
/-- try: .. except C as n: .., with what the error holds -/
theorem vs_tryAsF {Θ : Ctx} {h : Hs} {c : Value} {i : Nat} {tb : WX → TS} {ts : Addr → Value → Option Addr → TS} {N : En} (EX : Exn → Env' → Hs → Prop) (q : ∀ W : WX, VS K (Θ.try' W EX) (tb W) N env h)
    (hx : ∀ (X : Exn) (env' : Env') (h' : Hs), EX X env' h' → ∃ b, PySem.W.exmOne K (.ref X.cls) c = some b ∧ (b = true → ∀ a d F0, XnAt K F0 X d → VS K (Θ.on F0) (ts a (.ref X.cls) d) (N.wipe i) (env'.set i (some (.p (.cls a)))) h') ∧ (b = false → Θ.ex X env' h')) :
    VS K Θ (tTryAs K c i tb ts fun cls d σ H => Θ.wish σ cls d H) N env h := fun F ρ σ H D' rl e k => by
  refine q _ F ρ σ H D' ⟨rl.toBase, ⟨fun X d env' h' F' ρ' σ' H' s p b re xa ex => ?_, rl.wish.floor⟩⟩ e (k.try' rl.wish)
  obtain ⟨bb, hb, h1, h2⟩ := hx X env' h' ex
  have sf := rl.wish.floor.trans s
  exact ⟨bb, hb, fun z a na => h1 z a d F' xa F' ρ' _ H' _ ⟨b, ⟨(rl.wish.mono s p).run, Same.refl _⟩⟩ (re.set (.p (.cls a))) (((k.mono s p).wipe i).on sf), fun z => rl.wish.run X d env' h' F' ρ' σ' H' s p b re xa (h2 z)⟩
/-- a suite whose error's class is known, and that has a dict -/
def tKnownF (C : Addr) (ts : Addr → Addr → TS) (a : Addr) (cls : Value) (d : Option Addr) : TS := fun D σ H => cls = .ref C ∧ ∃ dd, d = some dd ∧ ts a dd D σ H
theorem vs_knownF {Θ : Ctx} {h : Hs} {C a dd : Addr} {ts : Addr → Addr → TS} {N : En} (q : VS K Θ (ts a dd) N env h) : VS K Θ (tKnownF C ts a (.ref C) (some dd)) N env h := fun F ρ σ H D' rl e k => ⟨rfl, dd, rfl, q F ρ σ H D' rl e k⟩
/-- err.f, err the suite's own error -/
theorem RPf.look {F : Hp} {f : Str} {p : P} : ∀ {fs : List (Str × P)} {gs : List (Str × V)}, RPf K F fs gs → fs.lookup f = some p → ∃ v, gs.lookup f = some v ∧ RP K F p v
  | _, _, .nil, h => by simp at h
  | _, _, .cons (f := g) q r, h => by
    by_cases e : f = g
    · subst e
      simp only [List.lookup, beq_self_eq_true] at h ⊢
      cases h
      exact ⟨_, rfl, q⟩
    · have e' : (f == g) = false := by simpa using e
      simp only [List.lookup, e'] at h ⊢
      exact RPf.look r h
theorem ve_xf {Θ : Ctx} {h : Hs} {C a dd : Addr} {f : Str} {te : TE} {R : D → Hs → Prop} {p : P} {fs : List (Str × P)} {F0 : Hp} (hx : XnAt K F0 ⟨C, some fs⟩ (some dd)) (hl : fs.lookup f = some p) (q : VE K (Θ.on F0) te env h fun x h1 => x = .p (.cls a) ∧ R (.p p) h1) :
    VE K (Θ.on F0) (tXf a (.ref C) (some dd) C f te) env h R := fun F ρ σ H Q rl e k =>
  q F ρ σ H _ rl e fun x h1 vx F1 ρ1 H1 s1 p1 r1 dx q1 => by
    obtain ⟨rfl, q1⟩ := q1
    obtain ⟨d1, gs, e1, e2, e3⟩ := hx
    cases e1
    obtain ⟨v, l1, l2⟩ := e3.look hl
    have sf := r1.wish.floor
    cases dx with
    | p dx =>
      cases dx
      exact ⟨rfl, rfl, dd, gs, v, rfl, (sf.trans r1.same) _ _ e2, l1, k _ h1 v F1 ρ1 H1 s1 p1 r1 (.p (l2.mono sf)) q1⟩
end
section
variable {P : Program} {w : World} {K : PySem.W.Frag} {mg : Str → Option Value} {base : Heap} {x qual f : Str} {st : Stmt} {N ps : List Str} {k : Nat} {fI C : Addr} {fd : FuncData}
/-- def __init__(self, f): self.f = f -/
theorem fn_init1 (F : Fun K x qual st fI fd) (S : FnScope N ps (defScope st)) (hps : ps.length = 2) (T : OexC K C) (no : PySem.W.findIn K (.ref C) f = some none)
    (hbody : ∀ (cdv : Value) (A : Around) (outer : List Env) (s : Shared) (H : Hp) (E : XK), PSs (cxOf CX0 P w K mg base N qual (defScope st) fI cdv A outer s H E).nox (defBody st) (tOst K f (tVar 0) (tVar 1))) :
    FnOk P w K mg base CX0 (k + 1) fI fd ps (spInit1 C f) := by
  refine F.ok S (fun vs H Q E h => ?_) fun cdv A outer s H vs Q E hr h => ?_
  · obtain ⟨a, v, rfl, _⟩ := h
    exact hps.symm
  · obtain ⟨a, v, rfl, h1, h2⟩ := h
    exact ⟨_, hbody cdv A outer s H E, v, rfl, .ref a, rfl, a, C, rfl, T, no, .inl ⟨h1, fun dx n1 n2 => h2 dx n1 n2⟩⟩
end
section
variable {X : Cx} {C fI : Addr} {x f : Str} {e : Expr} {es : List Expr} {ta : TA} {p pos pos' : Pos} {E : XK} {k : Nat} {fd : FuncData} {ps : List Str}
theorem ps_raiseF (hc : X.calm = true) (tk : Takes X fun cls d _ H => E cls d H) (T : OexC X.K C) (iC : PySem.W.findIn X.K (.ref C) "__init__" = some (some (.ref fI))) (tI : PySem.W.typeIn X.K (.ref fI) = some (.type "function"))
    (F1 : FnOk X.prog X.w X.K X.mg X.base CX0 k fI fd ps (spInit1 C f)) (hr : Room (k + 1) X.A) (hb : Binds X.K fd ps []) (hg : Gl X x) (hm : X.mg x = some (.ref C)) (ha : PA X (e :: es) ta)
    (hdb : (x == ("__debug__" : Str)) = false := by decide) (he : starEach (e :: es) X.env = (false, eval e X.env) :: starEach es X.env := by rfl) (hpl : (backTo pos (starEach es X.env)).any (·.1) = false := by rfl) :
    PS X (.Raise (some (.Call (.Name x p) (e :: es) [] pos)) none pos') (tRaiseF E C f ta) := ps_raise hc tk (pmk_oex T iC tI F1 hr hb .nil pass0 hg hm ha hdb he hpl)
theorem pss_knownF {body : List Stmt} {ts : Addr → Addr → TS} (h : ∀ (a dd : Addr) (oe : Obj) (pn : List (Addr × Obj)), Zc (.ref C) (some dd) oe → (∃ vs, oe.data = .fields vs) → PSs (X.suite a ((a, oe) :: pn)) body (ts a dd)) :
    ∀ (a : Addr) (oe : Obj) (cls : Value) (d : Option Addr) (pn : List (Addr × Obj)), Zc cls d oe → (∃ vs, oe.data = .fields vs) → PSs (X.suite a ((a, oe) :: pn)) body (tKnownF C ts a cls d) := fun a oe cls d pn hz hf =>
  ⟨fun pins s σ H D I z => by
    obtain ⟨rfl, dd, rfl, z⟩ := z
    exact (h a dd oe pn hz hf).run pins s σ H D I z⟩
end
/-- isinstance(e, c), e the suite's own error, whose dict is at dd -/
def rIsEF (K : PySem.W.Frag) (C a dd : Addr) : List V → Hp → VK → Prop := fun xs H Q => ∃ (c : V) (cv : Value) (b : Bool) (fs : List (Str × V)), xs = [.ref a, c] ∧ (∀ u, RelV c u → u = cv) ∧ H dd = some (.xd fs) ∧ PySem.W.kitOne K (.ref C) cv = some b ∧ Q (.bl b) H
theorem call_isEF {X : Cx} {K : PySem.W.Frag} {a dd C : Addr} {oe : Obj} {pn : List (Addr × Obj)} (hK : X.K = K) (T : ExcC K C) (hz : Zc (.ref C) (some dd) oe) (hf : ∃ vs, oe.data = .fields vs) : CallR (X.suite a ((a, oe) :: pn)) (.builtin "isinstance") (rIsEF K C a dd) := by
  subst hK
  intro pins s σ H xs us Q I r h
  obtain ⟨c, cv, b, fs, rfl, hcv, hd, e, q⟩ := h
  cases r with
  | cons rx rr =>
    cases rr with
    | cons rt rr =>
      cases rr
      cases rx
      have ec := hcv _ rt
      subst ec
      obtain ⟨hget, _⟩ := I.pin (a, oe) (List.mem_append.mpr (.inl List.mem_cons_self))
      obtain ⟨vs, hv⟩ := hf
      have hx : ObjOk X.prog X.w H s.heap dd (.xd fs) := I.hok dd _ hd
      obtain ⟨mA, hns, _⟩ := hx
      obtain ⟨od, ho, _⟩ := lookIn_ns hns
      have J : PySem.W.InstAt s.heap a oe C (some od) := ⟨hget, hz.1, by unfold PySem.W.notCls; rw [hv] <;> rfl, by rw [hz.2]; exact ho⟩
      have ic : (PySem.W.clsIn X.K C).isSome = true := by
        have z := T.hd
        unfold PySem.W.hasDictIn at z
        cases q : PySem.W.clsIn X.K C with
        | none => rw [q] at z; cases z
        | some cd => rfl
      exact PySem.W.kia_one (PySem.W.kitx_exc ic T.hg T.hk T.hs T.ha T.hn T.ht T.hm) I.kIn J e (fun z => nomatch z) fun tk => ⟨.bl b, H, I.kept (t' := tk) fun _ _ z => z, rfl, q⟩
section
variable {K : PySem.W.Frag} {h : Hs} {R : D → Hs → Prop}
theorem vc_isEF {Θ : Ctx} {F0 : Hp} {C a dd : Addr} {fs : List (Str × P)} {c : D} {cv : Value} {b : Bool} (hx : XnAt K F0 ⟨C, some fs⟩ (some dd)) (hc : (∃ n, c = .p (.ty n) ∧ cv = .type n) ∨ ∃ C, c = .p (.cls C) ∧ cv = .ref C) (e : PySem.W.kitOne K (.ref C) cv = some b) (q : R (dB b) h) :
    VC K (Θ.on F0) (rIsEF K C a dd) [.p (.cls a), c] h R := fun F ρ H vs Q rl ra k => by
  obtain ⟨d1, gs, e1, e2, e3⟩ := hx
  cases e1
  have hd := (rl.wish.floor.trans rl.same) _ _ e2
  cases ra with
  | cons r1 ra =>
    cases ra with
    | cons r2 ra =>
      cases ra
      cases r1 with
      | p r1 =>
        cases r1
        rcases hc with ⟨n, rfl, rfl⟩ | ⟨C', rfl, rfl⟩
        · cases r2 with
          | p r2 =>
            cases r2
            exact ⟨_, _, b, gs, rfl, fun u z => z, hd, e, k _ h _ F ρ H (Same.refl _) (Pre.refl _) rl (.p (.bl b)) q⟩
        · cases r2 with
          | p r2 =>
            cases r2
            exact ⟨_, _, b, gs, rfl, fun u z => z, hd, e, k _ h _ F ρ H (Same.refl _) (Pre.refl _) rl (.p (.bl b)) q⟩
end
end Kb

/-! del xs[a:]; instances that stay owned; dicts with written keys; own lists cut, joined, compared, walked over. -/
namespace Kb
open PySem PySem.Spec PyProof.Rows L2
section
theorem delPick {sel : Nat → Bool} {a : Nat} : ∀ (its : List Value) (o : Nat), (∀ k, k < o + its.length → sel k = decide (a ≤ k)) → ((its.zipIdx o).filterMap fun q => if sel q.2 = true then none else some q.1) = its.take (a - o)
  | [], _, _ => by simp
  | x :: r, o, h => by
    have ih := delPick (sel := sel) (a := a) r (o + 1) (fun k hk => h k (by rw [List.length_cons]; omega))
    rw [List.zipIdx_cons, List.filterMap_cons]
    have e := h o (by rw [List.length_cons]; omega)
    by_cases c : a ≤ o
    · have z : a - o = 0 := by omega
      have z' : a - (o + 1) = 0 := by omega
      rw [decide_eq_true c] at e
      simp only [e, if_true]
      rw [ih, z, z']
      simp
    · have z : a - o = (a - (o + 1)) + 1 := by omega
      rw [decide_eq_false c] at e
      simp only [e, if_false]
      rw [z, List.take_succ_cons, ← ih]
      simp
variable {prog : Program} {w : World} {A : Around} {E : Value → Shared → Prop} {s : Shared}
theorem delItem_from {l sl : Addr} {items : Array Value} {n a : Nat} {vl : Value} {lo : Option Int} {Q : Unit → Shared → Prop}
    (e : s.heap.get? l = some { cls := .type "list", data := .seq items n }) (hs : s.heap.IsSliceOf sl vl .none .none) (pl : IsPart vl lo) (ha : HT.sIx items.size 0 lo = a) (hsz : items.size ≤ sizeLine)
    (h : ∀ f : Array Value → Array Value, f items = (items.toList.take a).toArray → Q () { s with heap := s.heap.update l (Obj.mapSeq f) }) : wpAny (model prog w) A (delItem (.ref l) (.ref sl)) Q E s := by
  have hl : s.heap.IsList l items := PySem.IsL.isList e
  obtain ⟨os, hos, hcs, hds⟩ := id hs
  have hTs : s.TypeIs (.ref sl) "slice" := ⟨os, hos, hcs⟩
  have b3 := slice_bounds lo none items.size
  refine wpAny_delItem_slot hl.typeIs (by decide) F.slot_list_delitem (wpAny_call_entry F.slot_list_delitem hl.typeIs F.entry_list_delitem ?_ (F.args_list_delitem_2 _ _))
  show wpAny _ _ (Builtin.List.listSubscript? (.ref sl) >>= _) _ _ s
  refine wpAny_bind ?_
  unfold Builtin.List.listSubscript?; refine wpAny_bind (wpAny_specialOf hTs slice_no_index ?_); simp only [Option.isNone_none, if_true]
  refine wpAny_pure ?_
  show wpAny _ _ (typeOf (.ref sl) >>= _) _ _ s
  refine wpAny_bind (wpAny_typeOf hTs ?_); rw [if_neg (by decide)]; rw [listSliceParts_eq]
  refine wpAny_bind (wpAny_bind (wpAny_field hos hds (x := .none) rfl (wpAny_bind (wpAny_listPart (k := none) .none ?_)))); rw [if_neg (show ¬ (rawPart none == rawInt 0) = true from Bool.false_ne_true)]
  refine wpAny_bind (wpAny_field hos hds (x := vl) rfl (wpAny_bind (wpAny_listPart pl ?_))); refine wpAny_bind (wpAny_field hos hds (x := .none) rfl (wpAny_bind (wpAny_listPart (k := none) .none (wpAny_pure ?_))))
  unfold Builtin.List.listItems; refine wpAny_bind (wpAny_bind (wpAny_seqItems e rfl (wpAny_pure ?_)))
  refine wpAny_bind (wpAny_of_eq (sliceIndices_raw lo none none items.size (by simp)) ?_)
  refine wpAny_bind (wpAny_rule ?_)
  rw [b3.1, b3.2.1, b3.2.2, ha]
  have hN : HT.sIx items.size items.size none = items.size := by simp [HT.sIx]
  rw [hN]
  have hsel : ∀ (sel : Nat → Bool), (∀ k, k < items.size → sel k = decide (a ≤ k)) → (List.filterMap (fun q : Value × Nat => if sel q.2 = true then none else some q.1) items.toList.zipIdx).toArray = (items.toList.take a).toArray := fun sel hs => by
    rw [delPick (a := a) items.toList 0 (fun k hk => hs k (by rw [Array.length_toList] at hk; omega)), Nat.sub_zero]
  refine wpAny_bind (wpAny_updateSeq (hz := hsz) (_hz' := ?hz) e rfl ?_)
  case hz =>
    rw [List.size_toArray]
    refine Nat.le_trans (List.length_filterMap_le _ _) ?_
    rw [List.length_zipIdx, Array.length_toList]; omega
  refine wpAny_bind (wpAny_letGo ?_)
  refine wpAny_pure ⟨.none, rfl, h _ (hsel _ ?_)⟩
  intro k hk
  show (if (1 : Int) > 0 then (decide ((a : Int) ≤ (k : Int)) && decide ((k : Int) < (items.size : Int)) && ((k : Int) - (a : Int)) % 1 == 0) else _) = decide (a ≤ k)
  rw [if_pos (by decide), Int.emod_one]; simp; omega
end
section
variable {X : Cx} {o : Expr} {lo : Option Expr} {p2 tpos pos : Pos} {to : TE} {tl : TO}
def tDelS (to : TE) (tl : TO) : TS := fun D σ H => to σ H fun x H1 => tl σ H1 fun i H2 => ∃ (l : Addr) (xs : List V), x = .ref l ∧ H2 l = some (.lst xs) ∧ D.nx σ (upd H2 l (.lst (xs.take (HT.sIx xs.length 0 i))))
theorem ps_delS (ho : PE X o to) (hl : PO X lo tl) : PS X (.Delete [.Subscript o (.Slice lo none none p2) tpos] pos) (tDelS to tl) := by
  refine ⟨fun pins s σ H D I h => ?_⟩
  refine wpAny_Delete (wpAny_deleteEach_cons (wpAny_delete_Subscript (thn (ho.run pins s σ H _ I h) fun u s1 ⟨x, H1, I1, rx, q1⟩ => wpAny_Slice (thn (hl.run pins s1 σ H1 _ I1 q1) fun vl s2 ⟨i, H2, I2, pl, q2⟩ => ?_))))
  rw [evalPart_none]; refine wpAny_pure (wpAny_pure ?_)
  obtain ⟨l, xs, ex, hH, q2⟩ := q2
  subst ex
  cases (show u = Value.ref l from rx)
  have I4 : Inv X pins σ H2 { s2 with heap := s2.heap.push { cls := .type "slice", data := .fields #[vl, .none, .none] } } := I2.kept (t' := s2.toks) fun b ob q => Heap.get?_push_of_some _ q
  obtain ⟨z, its, n, r, hl2, e⟩ := I4.lstM hH
  have hz : its.toArray.size = xs.length := by rw [List.size_toArray]; exact r.length.symm
  refine delItem_from (a := HT.sIx xs.length 0 i) e (Heap.IsSliceOf.new ..) pl (by rw [hz]) (by rw [hz]; omega) fun f hf => wpAny_deleteEach_nil ⟨σ, _, I4.lset (its' := its.take (HT.sIx xs.length 0 i)) (t' := s2.toks) hH e hf (r.take _) ?_, q2⟩
  rw [List.length_take]; omega
end
section
variable {X : Cx} {CX : CXT} {k : Nat} {x : Str} {C : Addr} {ps : List Str} {sp : Sp} {E : XK} {p pos : Pos}
theorem HasMk.make0 (h : HasMk X.prog X.w X.K X.mg X.base CX k x C ps sp) (hr : Room (k + 1) X.A) (hg : Gl X x) (hx : Passes CX X E) (hdb : (x == ("__debug__" : Str)) = false := by decide) :
    PE X (.Call (.Name x p) [] [] pos) (tMake C sp [] E tNil) := by
  obtain ⟨f, fd, M, F, hb⟩ := h.ex
  exact pe_make0 M F hr hg h.at_ hb .nil hx hdb
end
section
variable {K : PySem.W.Frag} {Θ : Ctx} {env : Env'} {h : Hs} {R : D → Hs → Prop} {E : En} {x y : D} {te : TE} {t : TA} {C : Addr}
theorem vs_delS {to : TE} {tl : TO} (q : VE K Θ to env h fun x h1 => VO K Θ tl env h1 fun i h2 => ∃ n xs, x = .own n ∧ h2[n]? = some (some (.lst xs)) ∧ E.nx env (h2.set n (some (.lst (xs.take (HT.sIx xs.length 0 i)))))) : VS K Θ (tDelS to tl) E env h := fun F ρ σ H D' rl e k =>
  q F ρ σ H _ rl e fun x h1 vx F1 ρ1 H1 s1 p1 r1 dx q1 => q1 F1 ρ1 σ H1 _ r1 (e.mono s1 p1) fun i h2 F2 ρ2 H2 s2 p2 r2 q2 => by
    obtain ⟨n, xs, rfl, hx, q2⟩ := q2
    cases dx with
    | own ho =>
      have ho' := p2 _ _ ho
      obtain ⟨a, u, e1, e2, e3, vs, e4, e5⟩ := r2.own _ _ hx
      rw [ho'] at e1; cases e1
      subst e4
      refine ⟨_, vs, rfl, e3, ?_⟩
      rw [← e5.len]
      exact k.nx env _ F2 ρ2 σ _ (s1.trans s2) (p1.trans p2) (r2.put (o' := .lst (xs.take (HT.sIx xs.length 0 i))) hx ho' ⟨_, rfl, e5.take _⟩) (e.mono (s1.trans s2) (p1.trans p2)) q2
/-- C(..), the instance stays owned -/
theorem ve_makeO {W : Spc} {E : XK} (q : VA K Θ t env h fun xs h1 => W (.own h1.length :: xs) (h1 ++ [some (.ins C [])]) fun d h2 => d = dN ∧ R (.own h1.length) h2) : VE K Θ (tMake C (spD K Θ.tabs W) [] E t) env h R := fun F ρ σ H Q rl e k =>
  q F ρ σ H _ rl e fun xs h1 vs F1 ρ1 H1 s1 p1 r1 dxs q1 => by
    intro x dx hx hdx hne
    have hx' : (upd H1 dx (.own x)) x = none := by rw [upd_ne (Ne.symm hne)]; exact hx
    have sn : Same F1 (upd F1 dx (.own x)) := same_new (r1.free hdx)
    have r2 : Rel K Θ (upd F1 dx (.own x)) ρ1 h1 (upd H1 dx (.own x)) := r1.frz hdx
    have r3 := r2.push (o := .ins C []) (u := .ins C dx []) hx' ⟨dx, [], rfl, .nil⟩
    refine ⟨.own h1.length :: xs, _, _, ρ1 ++ [x], _, r3.toBase, .cons (.own (by rw [← r1.len]; simp)) (by rw [List.append_nil]; exact dxs.mono sn (Pre.push _ _)), q1, fun d h' v F' ρ' H' s p r dv q2 => ?_⟩
    obtain ⟨rfl, q2⟩ := q2
    refine ⟨dv.non, ?_⟩
    have ea : ρ'[h1.length]? = some x := p _ _ (by rw [← r1.len]; simp)
    exact k _ _ _ F' ρ' H' (s1.trans (sn.trans s)) (p1.trans ((Pre.push ρ1 x).trans p)) ⟨r, (r1.wish.mono (sn.trans s) ((Pre.push ρ1 x).trans p))⟩ (.own ea) q2
/-! ### dicts whose keys are numbers and texts -/
theorem isDK {F : Hp} {ρ : List Addr} {H : Hp} {n : Nat} {a : Addr} {kvs : List (Key × D)} (rl : Rel K Θ F ρ h H) (ha : ρ[n]? = some a) (hn : h[n]? = some (some (.dK kvs))) : ∃ gs, H a = some (.dK gs) ∧ RK K F ρ kvs gs := by
  obtain ⟨b, u, e1, e2, e3, gs, e4, e5⟩ := rl.own _ _ hn
  rw [ha] at e1; cases e1
  subst e4
  exact ⟨gs, e3, e5⟩
abbrev kD (k : Key) : D := .p (kP k)
theorem keyIs {F : Hp} {ρ : List Addr} {k : Key} {v : V} (q : RD K F ρ (kD k) v) : v = kV k := by
  cases k with
  | inl i => exact q.int
  | inr s => exact q.str
/-- d[k] -/
theorem ve_dix {td ty : TE} (q : VE K Θ td env h fun x h1 => VE K Θ ty env h1 fun y h2 => ∃ n kvs k d, x = .own n ∧ y = kD k ∧ h2[n]? = some (some (.dK kvs)) ∧ vK kvs k = some d ∧ R d h2) : VE K Θ (tDGet td ty) env h R := fun F ρ σ H Q rl e k =>
  q F ρ σ H _ rl e fun x h1 vx F1 ρ1 H1 s1 p1 r1 dx q1 => q1 F1 ρ1 σ H1 _ r1 (e.mono s1 p1) fun y h2 vy F2 ρ2 H2 s2 p2 r2 dy q2 => by
    obtain ⟨n, kvs, kk, d, rfl, rfl, hn, hd, q2⟩ := q2
    cases dx with
    | @own a _ ha =>
      obtain ⟨gs, g, rk⟩ := isDK r2 (p2 _ _ ha) hn
      rcases rk.look (k := kk) with ⟨l1, _⟩ | ⟨d', v, l1, l2, l3⟩
      · rw [hd] at l1; cases l1
      · rw [hd] at l1; cases l1
        refine ⟨a, v, rfl, ?_, k d h2 v F2 ρ2 H2 (s1.trans s2) (p1.trans p2) r2 l3 q2⟩
        rw [keyIs dy, ← l2]
        exact .k g
/-- d[k] = v -/
theorem vs_dputK {td ty tv : TE} (q : VE K Θ tv env h fun v h1 => VE K Θ td env h1 fun x h2 => VE K Θ ty env h2 fun y h3 => ∃ n kvs k, x = .own n ∧ y = kD k ∧ h3[n]? = some (some (.dK kvs)) ∧ kvs.length < sizeLine ∧ E.nx env (h3.set n (some (.dK (pK kvs k v))))) :
    VS K Θ (sDPut td ty tv) E env h := fun F ρ σ H D' rl e k =>
  q F ρ σ H _ rl e fun v h1 vv F1 ρ1 H1 s1 p1 r1 dv q1 => q1 F1 ρ1 σ H1 _ r1 (e.mono s1 p1) fun x h2 vx F2 ρ2 H2 s2 p2 r2 dx q2 => q2 F2 ρ2 σ H2 _ r2 (e.mono (s1.trans s2) (p1.trans p2)) fun y h3 vy F3 ρ3 H3 s3 p3 r3 dy q3 => by
    obtain ⟨n, kvs, kk, rfl, rfl, hn, hl, q3⟩ := q3
    cases dx with
    | @own a _ ha =>
      have ha3 := p3 _ _ ha
      obtain ⟨gs, g, rk⟩ := isDK r3 ha3 hn
      have ss := s1.trans (s2.trans s3)
      have pp := p1.trans (p2.trans p3)
      rw [keyIs dy]
      refine ⟨a, _, rfl, .k g (by rw [← rk.len]; exact hl), ?_⟩
      exact k.nx env _ F3 ρ3 σ _ ss pp (r3.put (o' := .dK (pK kvs kk v)) hn ha3 ⟨_, rfl, RK.put (dv.mono (s2.trans s3) (p2.trans p3)) rk⟩) (e.mono ss pp) q3
/-- the pairs of a display -/
inductive RPr (K : PySem.W.Frag) (F : Hp) (ρ : List Addr) : List (D × D) → List (V × V) → Prop
  | nil : RPr K F ρ [] []
  | cons {x y : D} {u v : V} {ds : List (D × D)} {vs : List (V × V)} : RD K F ρ x u → RD K F ρ y v → RPr K F ρ ds vs → RPr K F ρ ((x, y) :: ds) ((u, v) :: vs)
def VP (K : PySem.W.Frag) (Θ : Ctx) (trs : List (TE × TE)) (env : Env') (h : Hs) (R : List (D × D) → Hs → Prop) : Prop :=
  ∀ (F : Hp) (ρ : List Addr) (σ : L2.St) (H : Hp) (Q : List (V × V) → Hp → Prop), Rel K Θ F ρ h H → REnv K F ρ env σ →
    (∀ (d : List (D × D)) (h' : Hs) (v : List (V × V)) (F' : Hp) (ρ' : List Addr) (H' : Hp), Same F F' → Pre ρ ρ' → Rel K Θ F' ρ' h' H' → RPr K F' ρ' d v → R d h' → Q v H') → tPairs trs σ H Q
theorem RPr.mono {F F' : Hp} {ρ ρ' : List Addr} (e : Same F F') (p : Pre ρ ρ') : ∀ {d : List (D × D)} {v : List (V × V)}, RPr K F ρ d v → RPr K F' ρ' d v
  | _, _, .nil => .nil
  | _, _, .cons a b r => .cons (a.mono e p) (b.mono e p) (r.mono e p)
theorem vp_nil {R : List (D × D) → Hs → Prop} (q : R [] h) : VP K Θ [] env h R := fun F ρ σ H Q rl e k => k [] h [] F ρ H (Same.refl _) (Pre.refl _) rl .nil q
theorem vp_cons {tk tv : TE} {r : List (TE × TE)} {R : List (D × D) → Hs → Prop} (q : VE K Θ tk env h fun x h1 => VE K Θ tv env h1 fun y h2 => VP K Θ r env h2 fun ps h3 => R ((x, y) :: ps) h3) : VP K Θ ((tk, tv) :: r) env h R := fun F ρ σ H Q rl e k =>
  q F ρ σ H _ rl e fun x h1 vx F1 ρ1 H1 s1 p1 r1 dx q1 => q1 F1 ρ1 σ H1 _ r1 (e.mono s1 p1) fun y h2 vy F2 ρ2 H2 s2 p2 r2 dy q2 => q2 F2 ρ2 σ H2 _ r2 (e.mono (s1.trans s2) (p1.trans p2)) fun ps h3 vs F3 ρ3 H3 s3 p3 r3 dps q3 =>
    k _ h3 _ F3 ρ3 H3 (s1.trans (s2.trans s3)) (p1.trans (p2.trans p3)) r3 (.cons (dx.mono (s2.trans s3) (p2.trans p3)) (dy.mono s3 p3) dps) q3
def mergeD (kvs more : List (Key × D)) : List (Key × D) := more.foldl (fun acc kv => pK acc kv.1 kv.2) kvs
theorem RPr.keys {F : Hp} {ρ : List Addr} : ∀ {kvs : List (Key × D)} {vs : List (V × V)}, RPr K F ρ (kvs.map fun kv => (kD kv.1, kv.2)) vs → ∃ gs : List (Key × V), vs = gs.map (fun kv => (kV kv.1, kv.2)) ∧ RK K F ρ kvs gs
  | [], _, .nil => ⟨[], rfl, .nil⟩
  | (kk, d) :: r, _, .cons a b t => by
    obtain ⟨gs, e, q⟩ := t.keys
    rw [keyIs a, e]
    exact ⟨(kk, _) :: gs, rfl, .cons b q⟩
theorem RK.merge {F : Hp} {ρ : List Addr} : ∀ {more : List (Key × D)} {ms : List (Key × V)} {kvs : List (Key × D)} {gs : List (Key × V)}, RK K F ρ more ms → RK K F ρ kvs gs → RK K F ρ (mergeD kvs more) (mergeK gs ms)
  | [], _, _, _, .nil, r => r
  | (kk, _) :: _, _, _, _, .cons q t, r => by
    have z := RK.merge t (RK.put (k := kk) q r)
    exact z
theorem ve_disp {trs : List (TE × TE)} (q : VP K Θ trs env (h ++ [some (.dK [])]) fun ps h1 => h1[h.length]? = some (some (.dK [])) ∧ ∃ kvs : List (Key × D), ps = kvs.map (fun kv => (kD kv.1, kv.2)) ∧ kvs.length ≤ 15 ∧ R (.own h.length) (h1.set h.length (some (.dK (mergeD [] kvs))))) :
    VE K Θ (tDisp trs) env h R := fun F ρ σ H Q rl e k p hp =>
  q F (ρ ++ [p]) σ _ _ (rl.push (o := .dK []) hp ⟨[], rfl, .nil⟩) (e.mono (Same.refl _) (Pre.push _ _)) fun ps h1 vs F1 ρ1 H1 s1 p1 r1 dps q1 => by
    obtain ⟨hn, kvs, rfl, hl, q1⟩ := q1
    have ha : ρ1[h.length]? = some p := p1 _ _ (by rw [← rl.len]; simp)
    obtain ⟨gs0, g, rk0⟩ := isDK r1 ha hn
    cases rk0
    obtain ⟨gs, rfl, rk⟩ := dps.keys
    refine ⟨g, gs, rfl, by rw [← rk.len]; exact hl, ?_⟩
    exact k _ _ (.ref p) F1 ρ1 _ s1 ((Pre.push ρ p).trans p1) (r1.put (o' := .dK (mergeD [] kvs)) hn ha ⟨_, rfl, RK.merge rk .nil⟩) (.own ha) q1
/-- a list that stays, or an own one -/
def SeqL (d : D) (h : Hs) (ps : List P) : Prop := match d with
  | .p (.lst xs) => xs = ps
  | .own i => h[i]? = some (some (.lst (ps.map D.p)))
  | _ => False
theorem SeqL.v {F : Hp} {ρ : List Addr} {H : Hp} {d : D} {v : V} {ps : List P} (s : SeqL d h ps) (rl : Rel K Θ F ρ h H) (a : RD K F ρ d v) : ∃ p vs, v = .ref p ∧ SqL K H p vs ∧ RPs K F ps vs := by
  cases a with
  | p a =>
    cases a with
    | lst a r => cases s; exact ⟨_, _, rfl, rl.same.seq a, r⟩
    | _ => exact s.elim
  | own a =>
    obtain ⟨p, u, e1, e2, e3, vs, e4, e5⟩ := rl.own _ _ s
    rw [a] at e1; cases e1
    subst e4
    exact ⟨_, _, rfl, .of e3, e5.pure⟩
/-- plain data, or an own list of such -/
def PyD (d : D) (h : Hs) (p : P) : Prop := match d with
  | .p y => y = p
  | .own i => ∃ ps, p = .lst ps ∧ h[i]? = some (some (.lst (ps.map D.p)))
theorem PyD.dp {F : Hp} {ρ : List Addr} {H : Hp} {d : D} {v : V} {p : P} (s : PyD d h p) (rl : Rel K Θ F ρ h H) (a : RD K F ρ d v) (pl : plainP p = true) : Dp K H v (pyOf p) := by
  cases a with
  | p a => cases s; exact a.dp rl.same pl
  | own a =>
    obtain ⟨ps, rfl, hn⟩ := s
    obtain ⟨q, u, e1, e2, e3, vs, e4, e5⟩ := rl.own _ _ hn
    rw [a] at e1; cases e1
    subst e4
    exact .lst (.of e3) (RPs.dp rl.same e5.pure (by unfold plainP at pl; exact pl))
theorem v2_eqM {x y : D} {p p' : P} (hx : PyD x h p) (hy : PyD y h p') (lx : plainP p = true) (ly : plainP p' = true) (sx : SeqAt.shaped (pyOf p) = true) (sy : SeqAt.shaped (pyOf p') = true) (q : R (dB (PyData.eqv (pyOf p) (pyOf p'))) h) : V2 K Θ (rEqU K) x y h R := v2_or2 fun F ρ H vx vy Q rl a b k =>
  ⟨_, _, hx.dp rl a lx, hy.dp rl b ly, sx, sy, k _ h _ F ρ H (Same.refl _) (Pre.refl _) rl (.p (.bl _)) q⟩
theorem v2_neM {x y : D} {p p' : P} (hx : PyD x h p) (hy : PyD y h p') (lx : plainP p = true) (ly : plainP p' = true) (sx : SeqAt.shaped (pyOf p) = true) (sy : SeqAt.shaped (pyOf p') = true) (q : R (dB (!PyData.eqv (pyOf p) (pyOf p'))) h) : V2 K Θ (rNeU K) x y h R := v2_or2 fun F ρ H vx vy Q rl a b k =>
  ⟨_, _, hx.dp rl a lx, hy.dp rl b ly, sx, sy, k _ h _ F ρ H (Same.refl _) (Pre.refl _) rl (.p (.bl _)) q⟩
theorem plain_ints (ns : List Int) : plainP (.lst (ns.map P.int)) = true := by
  unfold plainP
  induction ns with
  | nil => rfl
  | cons n ns ih => rw [List.map_cons]; unfold plainP.plainPs; rw [ih]; rfl
theorem shaped_ints (ns : List Int) : SeqAt.shaped (pyOf (.lst (ns.map P.int))) = true := by
  have e : PyData.canLayAll0 (pyOf.pyOfs (ns.map P.int)) = true ∧ PyData.depthAll (pyOf.pyOfs (ns.map P.int)) = 0 := by
    induction ns with
    | nil => simp [pyOf.pyOfs, PyData.canLayAll0, PyData.depthAll]
    | cons r rs ih => simp [pyOf.pyOfs, pyOf, PyData.canLayAll0, PyData.canLay0, PyData.depthAll, PyData.depth, ih.1, ih.2]
  simp only [SeqAt.shaped, pyOf, PyData.canLay0, PyData.depth, e.1, Bool.true_and, decide_eq_true_eq, e.2]
  omega
theorem eqvAll_ints : ∀ ns ms : List Int, PyData.eqvAll (pyOf.pyOfs (ns.map P.int)) (pyOf.pyOfs (ms.map P.int)) = decide (ns = ms)
  | [], [] => rfl
  | [], _ :: _ => rfl
  | _ :: _, [] => rfl
  | n :: ns, m :: ms => by
    have ih := eqvAll_ints ns ms
    simp only [List.map_cons, pyOf.pyOfs, pyOf, PyData.eqvAll, PyData.eqv, ih]
    by_cases e : n = m
    · subst e; simp
    · simp [e]
theorem eqv_ints (ns ms : List Int) : PyData.eqv (pyOf (.lst (ns.map P.int))) (pyOf (.lst (ms.map P.int))) = decide (ns = ms) := by
  show PyData.eqvAll _ _ = _
  exact eqvAll_ints ns ms
theorem v2_eqInts {x y : D} {ns ms : List Int} (hx : PyD x h (.lst (ns.map P.int))) (hy : PyD y h (.lst (ms.map P.int))) (q : R (dB (decide (ns = ms))) h) : V2 K Θ (rEqU K) x y h R :=
  v2_eqM hx hy (plain_ints ns) (plain_ints ms) (shaped_ints ns) (shaped_ints ms) (by rw [eqv_ints]; exact q)
theorem v2_neInts {x y : D} {ns ms : List Int} (hx : PyD x h (.lst (ns.map P.int))) (hy : PyD y h (.lst (ms.map P.int))) (q : R (dB (!decide (ns = ms))) h) : V2 K Θ (rNeU K) x y h R :=
  v2_neM hx hy (plain_ints ns) (plain_ints ms) (shaped_ints ns) (shaped_ints ms) (by rw [eqv_ints]; exact q)
/-! ### own lists -/
/-- own n extended by an own list -/
theorem vm_extO {n m : Nat} {xs ys : List D} (hn : h[n]? = some (some (.lst xs))) (hm : h[m]? = some (some (.lst ys))) (hl : xs.length + ys.length ≤ sizeLine) (q : R dN (h.set n (some (.lst (xs ++ ys))))) : VM K Θ rExtend (.own n) [.own m] h R := fun F ρ H vx vs Q rl a b k => by
  cases a with
  | own a =>
    cases b with
    | cons b c =>
      cases c
      cases b with
      | own b =>
        obtain ⟨p, u, e1, e2, e3, us, e4, e5⟩ := rl.own _ _ hn
        rw [a] at e1; cases e1
        subst e4
        obtain ⟨p2, u2, g1, g2, g3, us2, g4, g5⟩ := rl.own _ _ hm
        rw [b] at g1; cases g1
        subst g4
        refine ⟨_, _, us, us2, rfl, rfl, e3, g3, by rw [← e5.len, ← g5.len]; exact hl, ?_⟩
        exact k _ _ _ F ρ _ (Same.refl _) (Pre.refl _) (rl.put (o' := .lst (xs ++ ys)) hn a ⟨_, rfl, e5.append g5⟩) (.p .non) q
theorem RA.cut {F : Hp} {ρ : List Addr} {xs : List D} {vs : List V} (r : RA K F ρ xs vs) (lo hi : Option Int) : RA K F ρ (cutP xs lo hi) (cutV vs lo hi) := by
  unfold cutP cutV
  rw [r.len]
  exact (r.drop _).take _
/-- xs[lo:hi] of a list that stays: a new list that is owned -/
theorem ve_slLO {tl th : TO} (q : VE K Θ te env h fun x h1 => VO K Θ tl env h1 fun lo h2 => VO K Θ th env h2 fun hi h3 => ∃ ps, SeqL x h3 ps ∧ R (.own h3.length) (h3 ++ [some (.lst ((cutP ps lo hi).map D.p))])) : VE K Θ (tSl (rSlL K) te tl th) env h R := fun F ρ σ H Q rl e k =>
  q F ρ σ H _ rl e fun x h1 v F1 ρ1 H1 s1 p1 r1 dx q1 => q1 F1 ρ1 σ H1 _ r1 (e.mono s1 p1) fun lo h2 F2 ρ2 H2 s2 p2 r2 q2 => q2 F2 ρ2 σ H2 _ r2 (e.mono (s1.trans s2) (p1.trans p2)) fun hi h3 F3 ρ3 H3 s3 p3 r3 q3 => by
    obtain ⟨ps, sq, q3⟩ := q3
    obtain ⟨a, vs, rfl, hs, r⟩ := sq.v r3 (dx.mono (s2.trans s3) (p2.trans p3))
    refine ⟨_, _, rfl, hs, fun p hp => ?_⟩
    exact k _ _ _ F3 (ρ3 ++ [p]) _ (s1.trans (s2.trans s3)) (p1.trans (p2.trans (p3.trans (Pre.push _ _)))) (r3.push (o := .lst ((cutP ps lo hi).map D.p)) hp ⟨_, rfl, (r.cut lo hi).data⟩) (.own (by rw [← r3.len]; simp)) q3
/-- a new list that stays -/
theorem ve_slLF {tl th : TO} (q : VE K Θ te env h fun x h1 => VO K Θ tl env h1 fun lo h2 => VO K Θ th env h2 fun hi h3 => ∃ ps, SeqL x h3 ps ∧ R (dL (cutP ps lo hi)) h3) : VE K Θ (tSl (rSlL K) te tl th) env h R := fun F ρ σ H Q rl e k =>
  q F ρ σ H _ rl e fun x h1 v F1 ρ1 H1 s1 p1 r1 dx q1 => q1 F1 ρ1 σ H1 _ r1 (e.mono s1 p1) fun lo h2 F2 ρ2 H2 s2 p2 r2 q2 => q2 F2 ρ2 σ H2 _ r2 (e.mono (s1.trans s2) (p1.trans p2)) fun hi h3 F3 ρ3 H3 s3 p3 r3 q3 => by
    obtain ⟨ps, sq, q3⟩ := q3
    obtain ⟨a, vs, rfl, hs, r⟩ := sq.v r3 (dx.mono (s2.trans s3) (p2.trans p3))
    refine ⟨_, _, rfl, hs, fun p hp => ?_⟩
    have sn := fun o => same_new (o := o) (r3.free hp)
    exact k _ h3 _ _ ρ3 _ ((s1.trans (s2.trans s3)).trans (sn _)) (p1.trans (p2.trans p3)) (r3.frz hp) (.p (.lst (.of upd_same) ((r.cut lo hi).mono (sn _)))) q3
end
end Kb

/-! Promises that follow from others. -/
namespace Kb
open PySem PySem.Spec PyProof.Rows L2
section
variable {P : Program} {w : World} {K : PySem.W.Frag} {T : List Addr} {mg : Str → Option Value} {base : Heap} {CX : CXT} {k : Nat} {x m : Str} {C : Addr} {ps : List Str} {W W' : Spc}
theorem spD_weak (i : ∀ ds h R, W' ds h R → W ds h R) : ∀ vs H Q E, spD K T W' vs H Q E → spD K T W vs H Q E := fun vs H Q E ⟨ds, h, F, ρ, R, rl, ra, hw, kq⟩ => ⟨ds, h, F, ρ, R, rl, ra, i _ _ _ hw, kq⟩
theorem spD_fin (i : ∀ ds h R, W' ds h R → W ds h (Fin h R)) : ∀ vs H Q E, spD K T W' vs H Q E → spD K T W vs H Q E := fun vs H Q E ⟨ds, h, F, ρ, R, rl, ra, hw, kq⟩ =>
  ⟨ds, h, F, ρ, Fin h R, rl, ra, i _ _ _ hw, fun d h' v F' ρ' H' s p r dv f => fin_run (Θ := Ctx.plain T) (Q := fun v H => Q v H) rl.plain s p r.plain dv f fun d F2 s2 r2 d2 q2 => kq d h v F2 ρ H' s2 (Pre.refl _) r2.toBase d2 q2⟩
theorem HasF.weak (h : HasF P w K mg base CX k x ps (spD K T W)) (i : ∀ ds h R, W' ds h R → W ds h R) : HasF P w K mg base CX k x ps (spD K T W') := by
  obtain ⟨f, fd, F, a, b, c⟩ := h.ex
  exact ⟨f, fd, F.imp (spD_weak i), a, b, c⟩
theorem HasF.fin (h : HasF P w K mg base CX k x ps (spD K T W)) (i : ∀ ds h R, W' ds h R → W ds h (Fin h R)) : HasF P w K mg base CX k x ps (spD K T W') := by
  obtain ⟨f, fd, F, a, b, c⟩ := h.ex
  exact ⟨f, fd, F.imp (spD_fin i), a, b, c⟩
theorem HasM.weak (h : HasM P w K mg base CX k C m ps (spD K T W)) (i : ∀ ds h R, W' ds h R → W ds h R) : HasM P w K mg base CX k C m ps (spD K T W') := by
  obtain ⟨f, fd, M, F, b⟩ := h.ex
  exact ⟨h.cl, f, fd, M, F.imp (spD_weak i), b⟩
theorem HasM.fin (h : HasM P w K mg base CX k C m ps (spD K T W)) (i : ∀ ds h R, W' ds h R → W ds h (Fin h R)) : HasM P w K mg base CX k C m ps (spD K T W') := by
  obtain ⟨f, fd, M, F, b⟩ := h.ex
  exact ⟨h.cl, f, fd, M, F.imp (spD_fin i), b⟩
end
/-- an own list of written data as the def's end -/
theorem fin_own {h : Hs} {R : D → Hs → Prop} {ps : List P} {o : Option OO} (e : o = some (.lst (ps.map D.p))) (q : R (dL ps) h) : Fin h R (.own h.length) (h ++ [o]) :=
  ⟨[o], rfl, .inr (.inl ⟨h.length, ps, rfl, Nat.le_refl _, by simp [e], q⟩)⟩
/-- dicts stay as they are -/
def DSame (h h' : Hs) : Prop := ∀ (i : Nat) (kv : List (Key × D)), h[i]? = some (some (.dK kv)) → h'[i]? = some (some (.dK kv))
theorem DSame.refl (h : Hs) : DSame h h := fun _ _ e => e
theorem DSame.trans {a b c : Hs} (x : DSame a b) (y : DSame b c) : DSame a c := fun i kv e => y i kv (x i kv e)
theorem DSame.push {h : Hs} {o : Option OO} : DSame h (h ++ [o]) := fun i kv e => by
  rw [List.getElem?_append_left (List.getElem?_eq_some_iff.mp e).1]; exact e
theorem DSame.set {h : Hs} {n : Nat} {o u : Option OO} (hn : h[n]? = some u) (nd : ∀ kv, u ≠ some (.dK kv)) : DSame h (h.set n o) := fun i kv e => by
  have ne : n ≠ i := fun z => by rw [z, e] at hn; exact nd kv (Option.some.inj hn).symm
  rw [List.getElem?_set_ne ne]; exact e
end Kb

/-! Methods that raise; own lists that stay from here on; reversed(xs); lists of either kind joined. -/
namespace Kb
open PySem PySem.Spec PyProof.Rows L2
section
variable {P : Program} {w : World} {K : PySem.W.Frag} {mg : Str → Option Value} {base : Heap} {m qual : Str} {st : Stmt} {N ps : List Str} {k : Nat} {T : List Addr} {C : Addr}
/-- a method of the text that may raise -/
theorem MethAt.okX (A : MethAt K C m qual st ps) (cl : Cls K C) (S : FnScope N ps (defScope st)) (W : SpcX) (len : ∀ ds h R RX, W ds h R RX → ds.length = ps.length)
    (hbody : ∀ (f : Addr) (cdv : Value) (A : Around) (outer : List Env) (s : Shared) (H : Hp) (E : XK), Room k (A.deeper (envOfC qual (defScope st) s.heap.objs.size f cdv)) →
      ∃ t, PSs (cxOf (L2.CX P w) P w K mg base N qual (defScope st) f cdv A outer s H E) (defBody st) t ∧ ∀ ds h R RX, W ds h R RX → VS K (Ctx.dfn T E RX) t { nx := fun _ h' => R dN h', rt := R } (startD N ds) h) : HasM P w K mg base (L2.CX P w) (k + 1) C m ps (spDX K T W) := by
  obtain ⟨f, fd, F, M, hb⟩ := A.ex
  refine ⟨cl, ⟨f, fd, M, F.okX S (fun vs H Q E h => ?_) (fun cdv A outer s H vs Q E hr h => ?_), hb⟩⟩
  · obtain ⟨ds, h, F, ρ, R, RX, rl, ra, hw, _⟩ := h
    rw [← ra.len]
    exact len ds h R RX hw
  · obtain ⟨ds, h, F, ρ, R, RX, rl, ra, hw, kq, wq⟩ := h
    obtain ⟨t, ht, q⟩ := hbody f cdv A outer s H E hr
    exact ⟨t, ht, q ds h R RX hw F ρ _ H _ ⟨rl, wq⟩ (renv_start ra) ⟨fun env' h' F' ρ' σ' H' s p r e q => kq dN h' .non F' ρ' H' s p r.toBase (.p .non) q, fun d h' v F' ρ' H' s p r dv q => kq d h' v F' ρ' H' s p r.toBase dv q, fun _ _ _ _ _ _ _ _ _ _ z => z.elim, fun _ _ _ _ _ _ _ _ _ _ z => z.elim⟩⟩
end
theorem pi_reversedK {X : Cx} {tg e : Expr} {ta : TA} {p pos : Pos} {K : PySem.W.Frag} (hK : X.K = K) (hg : Gl X "reversed") (hm : X.mg "reversed" = none) (ha : PA X [e] ta) (hs : starEach [e] X.env = [(false, eval e X.env)] := by rfl) : PI X tg (.Call (.Name "reversed" p) [e] [] pos) (iRev K ta) := hK ▸ pi_reversed hg hm ha hs
/-- o.m() of a method that may raise, within a try -/
def tMethS0 (C : Addr) (m : Str) (sp : Sp) (E : L2.St → XK) (ta : TE) : TE := fun σ H Q => ta σ H fun x H1 => ∃ a dx fs, x = .ref a ∧ H1 a = some (.ins C dx fs) ∧ fs.lookup m = none ∧ sp [x] H1 Q (E σ)
section
variable {X : Cx} {k : Nat} {C : Addr} {m : Str} {ps : List Str} {sp : Sp} {pos apos : Pos} {o : Expr} {ta : TE} {W : WX}
theorem HasM.meth0S {pl : Sem Bool} (h : HasM X.prog X.w X.K X.mg X.base (L2.CX X.prog X.w) k C m ps sp) (hr : Room k X.A) (tk : Takes X W) (he : PE X o ta)
    (ht : eval (.Call (.Attribute o m apos) [] [] pos) X.env = (do
      let ov ← eval o X.env
      standAt apos.atName
      let (f, first) ← holding [ov] (getMethod ov m pl); callWith pos f first (backTo pos (starEach [] X.env)) (backToKw pos (keywordEach [] X.env))) := by rfl) :
    PE X (.Call (.Attribute o m apos) [] [] pos) (tMethS0 C m sp (WE W) ta) := by
  obtain ⟨f, fd, hm, F, hb⟩ := h.ex
  refine ⟨fun pins s σ H Q I h2 => ?_⟩
  refine PySem.W.methodCall_KW (pl := pl) (thn (he.run pins s σ H _ I h2) fun u s1 ⟨x, H1, I1, rx, a, dx, fs, ex, ea, l, q⟩ => ?_) ht
  subst ex
  obtain rfl : u = Value.ref a := rx
  refine getmeth_ok I1 ea h.cl hm l ?_
  exact PySem.W.callWith_K0 (first := [.ref a]) I1.kIn hm.kp (run_fnS (us := [.ref a]) (vs := [.ref a]) F hr hb (passAt tk σ) I1 (.cons rfl .nil) q)
end
section
variable {K : PySem.W.Frag} {Θ : Ctx} {env : Env'} {h : Hs} {R : D → Hs → Prop} {E : En} {ta : TE} {ts : TS}
theorem ve_meth0S {C : Addr} {m : Str} {W : SpcX} (q : VE K Θ ta env h fun x h1 => InsD C m x h1 ∧ W [x] h1 R fun X h' => Θ.ex X env h') : VE K Θ (tMethS0 C m (spDX K Θ.tabs W) Θ.wish ta) env h R := fun F ρ σ H Q rl e k =>
  q F ρ σ H _ rl e fun x h1 vx F1 ρ1 H1 s1 p1 r1 dx q1 => by
    obtain ⟨hi, q1⟩ := q1
    have go : ∀ a dd gs, vx = .ref a → H1 a = some (.ins C dd gs) → gs.lookup m = none → ∃ a dx fs, vx = .ref a ∧ H1 a = some (.ins C dx fs) ∧ fs.lookup m = none ∧ spDX K Θ.tabs W [vx] H1 Q (Θ.wish σ) := fun a dd gs g1 g2 g3 =>
      ⟨a, dd, gs, g1, g2, g3, [x], h1, F1, ρ1, R, _, r1.toBase, .cons dx .nil, q1, fun d h' v F' ρ' H' s3 p3 r3 dv q3 => k d h' v F' ρ' H' (s1.trans s3) (p1.trans p3) ⟨r3, r1.wish.mono s3 p3⟩ dv q3,
        ⟨fun X d env' h' F' ρ' σ' H' s3 p3 b _ xa ex => r1.wish.run X d env h' F' ρ' σ H' s3 p3 b (e.mono (s1.trans s3) (p1.trans p3)) xa ex, fun _ _ z => by cases z⟩⟩
    cases id dx with
    | p dx =>
      cases dx with
      | ins a b =>
        obtain ⟨rfl, l⟩ := hi
        exact go _ _ _ rfl (r1.same _ _ a) ((b.data (ρ := ρ1)).lookN l)
      | _ => exact hi.elim
    | own ho =>
      obtain ⟨fs, hx, l⟩ := hi
      obtain ⟨a, u, e1, e2, e3, dd, gs, e4, e5⟩ := r1.own _ _ hx
      rw [ho] at e1; cases e1
      subst e4
      exact go _ _ _ rfl e3 (e5.lookN l)
/-- from here on the own list in slot i stays as it is -/
theorem vs_freeze {i n : Nat} {ps : List P} (he : env[i]? = some (some (.own n))) (hn : h[n]? = some (some (.lst (ps.map D.p)))) (q : VS K Θ ts E (env.set i (some (dL ps))) (h.set n none)) : VS K Θ ts E env h := fun F ρ σ H D' rl e k => by
  obtain ⟨a, u, e1, e2, e3, e4, r4⟩ := rl.freeze hn
  obtain ⟨vs, rfl, e5⟩ := e4
  have sn := same_new (o := .lst vs) e2
  obtain ⟨v, g1, g2⟩ := e.get i _ he
  cases g2 with
  | own g2 =>
    rw [e1] at g2; cases g2
    have eσ : σ.set i (some (V.ref a)) = σ := by
      refine List.ext_getElem? fun j => ?_
      by_cases hj : i = j
      · subst hj
        rw [List.getElem?_set_self (List.getElem?_eq_some_iff.mp g1).1, g1]
      · rw [List.getElem?_set_ne hj]
    have z := (e.mono sn (Pre.refl _)).set (i := i) (d := dL ps) (v := .ref a) (.p (.lst (.of upd_same) e5.pure))
    rw [eσ] at z
    exact q _ ρ σ H D' r4 z (k.mono sn (Pre.refl _))
/-- reversed(xs), xs a list that stays -/
theorem vi_rev {t : TA} {R : List D → (Hs → Prop) → Hs → Prop} (q : VA K Θ t env h fun xs h1 => ∃ ps, xs = [dL ps] ∧ R (ps.reverse.map D.p) (fun _ => True) h1) : VI K Θ (iRev K t) env h R := fun F ρ σ H Q rl e k =>
  q F ρ σ H _ rl e fun xs h1 vs F1 ρ1 H1 s1 p1 r1 dxs q1 => by
    obtain ⟨ps, rfl, q1⟩ := q1
    cases dxs with
    | cons dx dn =>
      cases dn
      cases dx with
      | p dx =>
        cases dx with
        | @lst a _ us ha rp =>
          refine ⟨a, us, rfl, r1.same.seq ha, k (ps.reverse.map D.p) (fun _ => True) h1 _ F1 ρ1 H1 s1 p1 r1 ⟨fun F' ρ' h' H' s p r _ => ?_, fun i F' ρ' h' H' s p r _ hi => ?_, fun i d F' ρ' h' H' x H2 s p r _ hd hy => ?_⟩ q1⟩
          · show us.length ≤ _
            rw [List.length_map, List.length_reverse, rp.len]; exact Nat.le_refl _
          · rw [List.length_map, List.length_reverse, rp.len] at hi
            exact ⟨hi, us, us[us.length - 1 - i]'(by omega), r.same.seq (s.seq ha), List.getElem?_eq_getElem _⟩
          · obtain ⟨e1, e2⟩ := hy
            subst e1
            rw [List.getElem?_map] at hd
            have hil : i < ps.length := by
              cases hp : ps.reverse[i]? with
              | none => rw [hp] at hd; cases hd
              | some p0 =>
                have := (List.getElem?_eq_some_iff.mp hp).1
                rwa [List.length_reverse] at this
            rw [List.getElem?_reverse hil] at hd
            cases hp : ps[ps.length - 1 - i]? with
            | none => rw [hp] at hd; cases hd
            | some p0 =>
              rw [hp] at hd; cases hd
              obtain ⟨v, hv, rv⟩ := rp.get hp
              have ev := e2 us (r.same.seq (s.seq ha))
              rw [rp.len] at hv
              rw [hv] at ev; cases ev
              exact ⟨F', Same.refl _, r, .p (rv.mono s)⟩
/-- lists of either kind joined: a new list that stays; one that is owned -/
theorem v2_addWM {x y : D} {i j : List P} (hx : SeqL x h i) (hy : SeqL y h j) (hl : i.length + j.length ≤ sizeLine) (q : R (dL (i ++ j)) h) : V2 K Θ (rAddW K) x y h R := v2_or2 (v2_or2 (v2_or2 fun F ρ H vx vy Q rl a b k => by
  obtain ⟨p1, us, rfl, s1, r1⟩ := hx.v rl a
  obtain ⟨p2, ws, rfl, s2, r2⟩ := hy.v rl b
  refine ⟨_, _, _, _, rfl, rfl, s1, s2, by rw [← r1.len, ← r2.len]; exact hl, fun p hp => ?_⟩
  have sn := fun o => same_new (o := o) (rl.free hp)
  exact k _ h _ _ ρ _ (sn _) (Pre.refl _) (rl.frz hp) (.p (.lst (.of upd_same) ((r1.append r2).mono (sn _)))) q))
theorem v2_addWMO {x y : D} {i j : List P} (hx : SeqL x h i) (hy : SeqL y h j) (hl : i.length + j.length ≤ sizeLine) (q : R (.own h.length) (h ++ [some (.lst ((i ++ j).map D.p))])) : V2 K Θ (rAddW K) x y h R := v2_or2 (v2_or2 (v2_or2 fun F ρ H vx vy Q rl a b k => by
  obtain ⟨p1, us, rfl, s1, r1⟩ := hx.v rl a
  obtain ⟨p2, ws, rfl, s2, r2⟩ := hy.v rl b
  refine ⟨_, _, _, _, rfl, rfl, s1, s2, by rw [← r1.len, ← r2.len]; exact hl, fun p hp => ?_⟩
  exact k _ _ _ F (ρ ++ [p]) _ (Same.refl _) (Pre.push _ _) (rl.push (o := .lst ((i ++ j).map D.p)) hp ⟨_, rfl, (r1.append r2).data⟩) (.own (by rw [← rl.len]; simp)) q))
/-- xs[i] of a list of either kind -/
theorem v2_ixM {x : D} {xs : List P} {i : Int} {p : P} (hx : SeqL x h xs) (ha : atI xs i = some p) (q : R (.p p) h) : V2 K Θ (rIx K) x (dI i) h R := by
  cases x with
  | p x =>
    cases x with
    | lst ys => cases hx; exact v2_ixL ha q
    | _ => exact hx.elim
  | own n =>
    refine v2_ixO (xs := xs.map D.p) hx ?_ q
    unfold atI at ha ⊢
    rw [List.length_map]
    cases e : ixN xs.length i with
    | none => rw [e] at ha; cases ha
    | some j =>
      rw [e] at ha
      simp only [Option.bind_some] at ha ⊢
      rw [List.getElem?_map, ha]; rfl
end
end Kb

/-! Numbers as bytes, seven bits in each. -/
namespace Kb
open PySem PySem.Spec PyProof.Rows L2
def Byts (g : List Int) : Prop := ∀ b ∈ g, 0 ≤ b ∧ b < 256
theorem Byts.app {a b : List Int} (x : Byts a) (y : Byts b) : Byts (a ++ b) := fun z hz => by
  rcases List.mem_append.mp hz with h | h
  · exact x z h
  · exact y z h
theorem Byts.left {a b : List Int} (x : Byts (a ++ b)) : Byts a := fun z hz => x z (List.mem_append.mpr (.inl hz))
theorem Byts.right {a b : List Int} (x : Byts (a ++ b)) : Byts b := fun z hz => x z (List.mem_append.mpr (.inr hz))
theorem Byts.take {a : List Int} (x : Byts a) (n : Nat) : Byts (a.take n) := fun z hz => x z (List.mem_of_mem_take hz)
theorem Byts.drop {a : List Int} (x : Byts a) (n : Nat) : Byts (a.drop n) := fun z hz => x z (List.mem_of_mem_drop hz)
def wnum (n : Nat) : List Int := if h : n < 128 then [(n : Int)] else ((n % 128 + 128 : Nat) : Int) :: wnum (n / 128)
termination_by n
decreasing_by omega
theorem wnum_small {n : Nat} (h : n < 128) : wnum n = [(n : Int)] := by rw [wnum, dif_pos h]
theorem wnum_great {n : Nat} (h : ¬ n < 128) : wnum n = ((n % 128 + 128 : Nat) : Int) :: wnum (n / 128) := by rw [wnum, dif_neg h]
/-- all bytes but the last -/
theorem wnum_form (n : Nat) : ∃ (hs : List Int) (l : Int), wnum n = hs ++ [l] ∧ (∀ b ∈ hs, 128 ≤ b ∧ b < 256) ∧ 0 ≤ l ∧ l < 128 ∧ (128 ≤ n → hs ≠ []) ∧ (1 ≤ n → l ≠ 0) := by
  induction n using Nat.strongRecOn with
  | ind n ih =>
    by_cases h : n < 128
    · exact ⟨[], n, wnum_small h, (fun b hb => by cases hb), by omega, by omega, (fun z => by omega), (fun z => by omega)⟩
    · obtain ⟨hs, l, e, a, b, c, d, f⟩ := ih (n / 128) (by omega)
      refine ⟨((n % 128 + 128 : Nat) : Int) :: hs, l, by rw [wnum_great h, e]; rfl, fun x hx => ?_, b, c, (fun _ z => by cases z), (fun _ => f (by omega))⟩
      rcases List.mem_cons.mp hx with rfl | hx
      · omega
      · exact a x hx
theorem wnum_byts (n : Nat) : Byts (wnum n) := by
  obtain ⟨hs, l, e, a, b, c, _⟩ := wnum_form n
  rw [e]
  intro x hx
  rcases List.mem_append.mp hx with h | h
  · have := a x h; omega
  · rw [List.mem_singleton.mp h]; omega
theorem wnum_len : ∀ (k n : Nat), n < 128 ^ (k + 1) → (wnum n).length ≤ k + 1
  | 0, n, h => by rw [wnum_small (by simpa using h)]; simp
  | k + 1, n, h => by
    by_cases c : n < 128
    · rw [wnum_small c]; simp
    · rw [wnum_great c, List.length_cons]
      have := wnum_len k (n / 128) (by
        rw [Nat.div_lt_iff_lt_mul (by decide)]
        rw [Nat.pow_succ] at h
        exact h)
      omega
theorem wnum_pos (n : Nat) : 0 < (wnum n).length := by
  by_cases c : n < 128
  · rw [wnum_small c]; simp
  · rw [wnum_great c, List.length_cons]; omega
def lead : List Int → Nat
  | [] => 0
  | b :: r => if 128 ≤ b then lead r + 1 else 0
theorem lead_le : ∀ r : List Int, lead r ≤ r.length
  | [] => Nat.le_refl _
  | b :: r => by
    have := lead_le r
    unfold lead
    rw [List.length_cons]
    split <;> omega
theorem lead_app : ∀ {hs : List Int} {l : Int} {rest : List Int}, (∀ b ∈ hs, 128 ≤ b) → l < 128 → lead (hs ++ l :: rest) = hs.length
  | [], l, rest, _, h => by
    show (if 128 ≤ l then lead rest + 1 else 0) = 0
    rw [if_neg (by omega)]
  | b :: hs, l, rest, a, h => by
    show (if 128 ≤ b then lead (hs ++ l :: rest) + 1 else 0) = _
    rw [if_pos (a b (List.mem_cons_self ..)), lead_app (fun x hx => a x (List.mem_cons_of_mem _ hx)) h, List.length_cons]
theorem lead_all : ∀ {hs : List Int}, (∀ b ∈ hs, 128 ≤ b) → lead hs = hs.length
  | [], _ => rfl
  | b :: hs, a => by
    show (if 128 ≤ b then lead hs + 1 else 0) = _
    rw [if_pos (a b (List.mem_cons_self ..)), lead_all (fun x hx => a x (List.mem_cons_of_mem _ hx)), List.length_cons]
def val (bs : List Int) : Int := bs.foldr (fun b s => s * 128 + b % 128) 0
theorem val_cons (b : Int) (r : List Int) : val (b :: r) = val r * 128 + b % 128 := rfl
theorem val_lo : ∀ bs : List Int, 0 ≤ val bs
  | [] => Int.le_refl _
  | b :: r => by
    have := val_lo r
    rw [val_cons]
    omega
theorem val_hi : ∀ bs : List Int, val bs < 128 ^ bs.length
  | [] => by decide
  | b :: r => by
    have := val_hi r
    rw [val_cons, List.length_cons, Int.pow_succ]
    omega
theorem val_wnum (n : Nat) : val (wnum n) = n := by
  induction n using Nat.strongRecOn with
  | ind n ih =>
    by_cases h : n < 128
    · rw [wnum_small h, val_cons]
      show (0 : Int) * 128 + (n : Int) % 128 = n
      omega
    · rw [wnum_great h, val_cons, ih (n / 128) (by omega)]
      omega
def numOf (r : List Int) : Option (Nat × Int) := if lead r = r.length ∨ 60 ≤ lead r ∨ (0 < lead r ∧ r[lead r]? = some 0) then none else some (lead r + 1, val (r.take (lead r + 1)))
theorem numOf_wnum {n : Nat} (h : n < 128 ^ 60) (rest : List Int) : numOf (wnum n ++ rest) = some ((wnum n).length, (n : Int)) := by
  obtain ⟨hs, l, e, a, b, c, d, f⟩ := wnum_form n
  have hl := wnum_len 59 n h
  have e1 : wnum n ++ rest = hs ++ l :: rest := by rw [e, List.append_assoc]; rfl
  have e2 : lead (wnum n ++ rest) = hs.length := by rw [e1]; exact lead_app (fun x hx => (a x hx).1) c
  have e3 : (wnum n).length = hs.length + 1 := by rw [e, List.length_append]; rfl
  unfold numOf
  rw [e2, if_neg, ← e3, List.take_left, val_wnum]
  rintro (z | z | ⟨z1, z2⟩)
  · rw [List.length_append, e3] at z; omega
  · omega
  · rw [e1, List.getElem?_append_right (Nat.le_refl _), Nat.sub_self] at z2
    have n1 : 1 ≤ n := by
      by_cases q : n < 128
      · have e5 : (wnum n).length = 1 := by rw [wnum_small q]; rfl
        omega
      · omega
    exact f n1 (by simpa using z2)
theorem numOf_short {n k : Nat} (h : k < (wnum n).length) : numOf ((wnum n).take k) = none := by
  obtain ⟨hs, l, e, a, _⟩ := wnum_form n
  have e3 : (wnum n).length = hs.length + 1 := by rw [e, List.length_append]; rfl
  have e4 : (wnum n).take k = hs.take k := by rw [e, List.take_append_of_le_length (by omega)]
  unfold numOf
  rw [e4, if_pos (.inl (lead_all fun b hb => (a b (List.mem_of_mem_take hb)).1))]
theorem numOf_some {r : List Int} {c : Nat} {v : Int} (h : numOf r = some (c, v)) : 0 ≤ v ∧ c ≤ r.length ∧ 0 < c ∧ c ≤ 60 ∧ v < 128 ^ 60 := by
  unfold numOf at h
  split at h
  · cases h
  · rename_i hn
    cases h
    have := lead_le r
    have h1 : ¬ lead r = r.length := fun z => hn (.inl z)
    have h2 : ¬ 60 ≤ lead r := fun z => hn (.inr (.inl z))
    refine ⟨val_lo _, by omega, by omega, by omega, Int.lt_of_lt_of_le (val_hi _) ?_⟩
    have hl : (r.take (lead r + 1)).length ≤ 60 := by rw [List.length_take]; omega
    have z : (128 : Nat) ^ (r.take (lead r + 1)).length ≤ 128 ^ 60 := Nat.pow_le_pow_right (by decide) hl
    exact_mod_cast z
theorem lead_drop {r : List Int} {b : Int} {a : Nat} (h : r[a]? = some b) (hb : 128 ≤ b) : lead (r.drop a) = lead (r.drop (a + 1)) + 1 := by
  have hl := (List.getElem?_eq_some_iff.mp h)
  obtain ⟨hl, e⟩ := hl
  rw [List.drop_eq_getElem_cons hl, e]
  show (if 128 ≤ b then lead (r.drop (a + 1)) + 1 else 0) = _
  rw [if_pos hb]
theorem lead_drop0 {r : List Int} {b : Int} {a : Nat} (h : r[a]? = some b) (hb : ¬ 128 ≤ b) : lead (r.drop a) = 0 := by
  obtain ⟨hl, e⟩ := (List.getElem?_eq_some_iff.mp h)
  rw [List.drop_eq_getElem_cons hl, e]
  show (if 128 ≤ b then lead (r.drop (a + 1)) + 1 else 0) = _
  rw [if_neg hb]
theorem lead_end {r : List Int} {a : Nat} (h : r.length ≤ a) : lead (r.drop a) = 0 := by rw [List.drop_eq_nil_of_le h]; rfl
section
variable {K : PySem.W.Frag} {Θ : Ctx} {env : Env'} {h : Hs} {E : En} {t : TA} {i j : Nat}
/-- a, b = e1, e2 -/
theorem vs_par (q : VA K Θ t env h fun xs h1 => ∃ x y, xs = [x, y] ∧ E.nx ((env.set i (some x)).set j (some y)) h1) : VS K Θ (tPar i j t) E env h := fun F ρ σ H D' rl e k =>
  q F ρ σ H _ rl e fun xs h1 vs F1 ρ1 H1 s1 p1 r1 dxs q1 => by
    obtain ⟨x, y, rfl, q1⟩ := q1
    cases dxs with
    | cons a b =>
      cases b with
      | cons b c =>
        cases c
        exact ⟨_, _, rfl, k.nx _ h1 F1 ρ1 _ H1 s1 p1 r1 (((e.mono s1 p1).set a).set b) q1⟩
end
end Kb

/-! Plain data of bounded depth, compared. -/
namespace Kb
open PySem PySem.Spec PyProof.Rows L2
structure Flat (n : Nat) (x : P) : Prop where
  lay : PyData.canLay0 (pyOf x) = true
  dep : PyData.depth (pyOf x) ≤ n
  pl : plainP x = true
theorem Flat.int {n : Nat} (i : Int) : Flat n (.int i) := ⟨rfl, Nat.zero_le _, rfl⟩
theorem Flat.bl {n : Nat} (b : Bool) : Flat n (.bl b) := ⟨rfl, Nat.zero_le _, rfl⟩
theorem Flat.non {n : Nat} : Flat n .non := ⟨rfl, Nat.zero_le _, rfl⟩
theorem flats {n : Nat} : ∀ {xs : List P}, (∀ x ∈ xs, Flat n x) → PyData.canLayAll0 (pyOf.pyOfs xs) = true ∧ PyData.depthAll (pyOf.pyOfs xs) ≤ n ∧ plainP.plainPs xs = true
  | [], _ => ⟨rfl, Nat.zero_le _, rfl⟩
  | x :: xs, h => by
    obtain ⟨a, b, c⟩ := h x (List.mem_cons_self ..)
    obtain ⟨a', b', c'⟩ := flats fun y hy => h y (List.mem_cons_of_mem _ hy)
    refine ⟨?_, ?_, ?_⟩
    · simp [pyOf.pyOfs, PyData.canLayAll0, a, a']
    · simp [pyOf.pyOfs, PyData.depthAll]
      omega
    · simp [plainP.plainPs, c, c']
theorem Flat.lst {n : Nat} {xs : List P} (h : ∀ x ∈ xs, Flat n x) : Flat (n + 1) (.lst xs) := by
  obtain ⟨a, b, c⟩ := flats h
  refine ⟨?_, ?_, ?_⟩
  · simpa [pyOf, PyData.canLay0] using a
  · simp [pyOf, PyData.depth]; omega
  · unfold plainP; exact c
theorem Flat.tup {n : Nat} {xs : List P} (h : ∀ x ∈ xs, Flat n x) : Flat (n + 1) (.tup xs) := by
  obtain ⟨a, b, c⟩ := flats h
  refine ⟨?_, ?_, ?_⟩
  · simpa [pyOf, PyData.canLay0] using a
  · simp [pyOf, PyData.depth]; omega
  · unfold plainP; exact c
theorem Flat.ints {n : Nat} (ns : List Int) : Flat (n + 1) (.lst (ns.map P.int)) := .lst fun x hx => by
  obtain ⟨i, _, rfl⟩ := List.mem_map.mp hx
  exact .int i
theorem Flat.shaped {n : Nat} {x : P} (f : Flat n x) (h : n ≤ 64) : SeqAt.shaped (pyOf x) = true := by
  have d := f.dep
  simp only [SeqAt.shaped, f.lay, Bool.true_and, decide_eq_true_eq]
  omega
section
variable {K : PySem.W.Frag} {Θ : Ctx} {h : Hs} {R : D → Hs → Prop} {n : Nat} {x : P}
/-- equal data -/
theorem v2_neF (f : Flat n x) (hn : n ≤ 64) (q : R (dB false) h) : V2 K Θ (rNeU K) (.p x) (.p x) h R :=
  v2_neP f.pl f.pl (f.shaped hn) (f.shaped hn) (by rw [eqv_shaped (f.shaped hn)]; exact q)
theorem v2_eqF (f : Flat n x) (hn : n ≤ 64) (q : R (dB true) h) : V2 K Θ (rEqU K) (.p x) (.p x) h R :=
  v2_eqP f.pl f.pl (f.shaped hn) (f.shaped hn) (by rw [eqv_shaped (f.shaped hn)]; exact q)
end
end Kb

/-! Defs as values, called; what the program's top holds: tuples and dicts; a list extended by one that stays. -/
namespace Kb
open PySem PySem.Spec PyProof.Rows L2 RZ
/-- two readings of one expression -/
theorem pe_orE {X : Cx} {e : Expr} {t1 t2 : TE} (h1 : PE X e t1) (h2 : PE X e t2) : PE X e (fun σ H Q => t1 σ H Q ∨ t2 σ H Q) := ⟨fun pins s σ H Q I h => by
  rcases h with h | h
  · exact h1.run pins s σ H Q I h
  · exact h2.run pins s σ H Q I h⟩
/-- a statement that is never reached -/
theorem ps_no {X : Cx} {st : Stmt} : PS X st (fun _ _ _ => False) := ⟨fun _ _ _ _ _ _ h => h.elim⟩
/-- the def at f keeps a promise -/
structure FnAt (P : Program) (w : World) (K : PySem.W.Frag) (mg : Str → Option Value) (base : Heap) (CX : CXT) (k : Nat) (f : Addr) (ps : List Str) (sp : Sp) : Prop where
  ex : ∃ fd, FnOk P w K mg base CX k f fd ps sp ∧ PySem.W.keepIn K (.ref f) = true ∧ Binds K fd ps []
theorem HasF.at_ {P : Program} {w : World} {K : PySem.W.Frag} {mg : Str → Option Value} {base : Heap} {CX : CXT} {k : Nat} {x : Str} {ps : List Str} {sp : Sp} {f : Addr} (h : HasF P w K mg base CX k x ps sp) (hf : mg x = some (.ref f)) : FnAt P w K mg base CX k f ps sp := by
  obtain ⟨g, fd, F, a, b, c⟩ := h.ex
  rw [hf] at a
  cases a
  exact ⟨fd, F, b, c⟩
theorem FnAt.mono {P : Program} {w : World} {K : PySem.W.Frag} {mg : Str → Option Value} {base : Heap} {CX : CXT} {j k : Nat} {f : Addr} {ps : List Str} {sp : Sp} (h : FnAt P w K mg base CX j f ps sp) (hk : j ≤ k) : FnAt P w K mg base CX k f ps sp := by
  obtain ⟨fd, F, b, c⟩ := h.ex
  exact ⟨fd, F.mono hk, b, c⟩
theorem FnAt.callV {X : Cx} {CX : CXT} {k i : Nat} {f : Addr} {ps : List Str} {sp : Sp} {E : XK} {x : Str} {e : Expr} {es : List Expr} {t : TA} {p pos : Pos} (h : FnAt X.prog X.w X.K X.mg X.base CX k f ps sp) (hr : Room k X.A) (hx : Passes CX X E) (hN : X.N[i]? = some x) (ha : PA X (e :: es) t)
    (hv : Vis X.env.scope x := by first | exact Or.inl rfl | exact Or.inr (Or.inl rfl) | exact Or.inr (Or.inr rfl)) (hd : (x == ("__debug__" : Str)) = false := by decide) (hcd : (x == ("__classdict__" : Str)) = false := by decide)
    (he : starEach (e :: es) X.env = (false, eval e X.env) :: starEach es X.env := by rfl) (hpl : (backTo pos (starEach es X.env)).any (·.1) = false := by rfl) : PE X (.Call (.Name x p) (e :: es) [] pos) (ItX.tCallV i f sp E t) := by
  obtain ⟨fd, F, hk, hb⟩ := h.ex
  have G : FnR X.prog X.w X.K X.mg X.base CX k f sp := FnR.imp (F.raw hb .nil) fun vs H Q E q => by rw [List.append_nil]; exact q
  exact ItX.pe_callV G hr hk hx hN hv ha hd hcd he hpl
section
variable {K : PySem.W.Frag} {Θ : Ctx} {env : Env'} {h : Hs} {R : D → Hs → Prop} {E : En} {t : TA}
theorem ve_or1 {t1 t2 : TE} (q : VE K Θ t1 env h R) : VE K Θ (fun σ H Q => t1 σ H Q ∨ t2 σ H Q) env h R := fun F ρ σ H Q rl e k => .inl (q F ρ σ H Q rl e k)
theorem ve_or2 {t1 t2 : TE} (q : VE K Θ t2 env h R) : VE K Θ (fun σ H Q => t1 σ H Q ∨ t2 σ H Q) env h R := fun F ρ σ H Q rl e k => .inr (q F ρ σ H Q rl e k)
theorem RD.cls {F : Hp} {ρ : List Addr} {c : Addr} {v : V} (a : RD K F ρ (.p (.cls c)) v) : v = .ref c := by
  cases a with
  | p a => cases a; rfl
theorem ve_callV {i : Nat} {f : Addr} {W : Spc} {E : XK} (hi : env[i]? = some (some (.p (.cls f)))) (q : VA K Θ t env h fun xs h1 => W xs h1 R) : VE K Θ (ItX.tCallV i f (spD K Θ.tabs W) E t) env h R := fun F ρ σ H Q rl e k => by
  obtain ⟨v, h1, h2⟩ := e.get i _ hi
  obtain rfl := h2.cls
  exact ⟨h1, q F ρ σ H _ rl e fun xs h1 vs F1 ρ1 H1 s1 p1 r1 dxs q1 => ⟨xs, h1, F1, ρ1, R, r1.toBase, dxs, q1, fun d h' v F' ρ' H' s3 p3 r3 dv q3 => k d h' v F' ρ' H' (s1.trans s3) (p1.trans p3) ⟨r3, r1.wish.mono s3 p3⟩ dv q3⟩⟩
/-! ### what the top holds -/
/-- a tuple of the top -/
def KTup (K : PySem.W.Frag) (a : Addr) (vs : List V) : Prop := ∃ (o : Obj) (its : Array Value) (n : Nat), K.lookup a = some o ∧ o.cls = .type "tuple" ∧ o.data = .seq its n ∧ its.size ≤ sizeLine ∧ Vals vs its.toList
theorem KTup.sq {a : Addr} {vs : List V} (c : KTup K a vs) (H : Hp) : SqT K H a vs := .inr c
/-- an item of it -/
inductive CK : D → V → Prop
  | str (s : Str) : CK (dS s) (.str s)
  | int (i : Int) : CK (dI i) (.int i)
  | ref (a : Addr) : CK (.p (.cls a)) (.ref a)
theorem CK.rd {F : Hp} {ρ : List Addr} {d : D} {v : V} (c : CK d v) : RD K F ρ d v := by
  cases c with
  | str s => exact .p (.str s)
  | int i => exact .p (.int i)
  | ref a => exact .p (.cls a)
inductive CKs : List D → List V → Prop
  | nil : CKs [] []
  | cons {d : D} {v : V} {ds : List D} {vs : List V} : CK d v → CKs ds vs → CKs (d :: ds) (v :: vs)
theorem CKs.strs : ∀ ys : List Str, CKs (ys.map dS) (ys.map V.str)
  | [] => .nil
  | y :: ys => .cons (.str y) (CKs.strs ys)
theorem CKs.len : ∀ {ds : List D} {vs : List V}, CKs ds vs → ds.length = vs.length
  | _, _, .nil => rfl
  | _, _, .cons _ r => congrArg (· + 1) r.len
theorem CKs.rd {F : Hp} {ρ : List Addr} : ∀ {ds : List D} {vs : List V}, CKs ds vs → RA K F ρ ds vs
  | _, _, .nil => .nil
  | _, _, .cons c r => .cons c.rd r.rd
theorem CKs.get {i : Nat} {d : D} : ∀ {ds : List D} {vs : List V}, CKs ds vs → ds[i]? = some d → ∃ v, vs[i]? = some v ∧ CK d v
  | _, _, .nil, h => by simp at h
  | _, _, .cons c r, h => by
    cases i with
    | zero => cases h; exact ⟨_, rfl, c⟩
    | succ j =>
      obtain ⟨v, h1, h2⟩ := r.get (i := j) (by simpa using h)
      exact ⟨v, by simpa using h1, h2⟩
theorem v2_ixK {c : Addr} {ds : List D} {vs : List V} {i : Nat} {d : D} (hc : KTup K c vs) (ck : CKs ds vs) (hi : ds[i]? = some d) (q : R d h) : V2 K Θ (rIx K) (.p (.cls c)) (dI i) h R := fun F ρ H vx vy Q rl a b k => by
  obtain rfl := a.cls
  obtain rfl := b.int
  obtain ⟨v, h1, h2⟩ := ck.get hi
  exact .inr (.inl ⟨_, _, _, v, rfl, rfl, hc.sq H, atI_nat h1, k _ h _ F ρ H (Same.refl _) (Pre.refl _) rl h2.rd q⟩)
theorem vc_lenK {c : Addr} {vs : List V} (hc : KTup K c vs) (q : R (dI vs.length) h) : VC K Θ (fun xs H Q => ∃ x n, xs = [x] ∧ LenV K x H n ∧ Q (.int n) H) [.p (.cls c)] h R := fun F ρ H vs' Q rl a k => by
  cases a with
  | cons a b =>
    cases b
    obtain rfl := a.cls
    exact ⟨_, _, rfl, .inr ⟨vs, hc.sq H, rfl⟩, k _ h _ F ρ H (Same.refl _) (Pre.refl _) rl (.p (.int _)) q⟩
theorem vi_seqK {tl : TE} {R : List D → (Hs → Prop) → Hs → Prop} (q : VE K Θ tl env h fun x h1 => ∃ c ds vs, x = .p (.cls c) ∧ KTup K c vs ∧ CKs ds vs ∧ R ds (fun _ => True) h1) : VI K Θ (iSeq K tl) env h R := fun F ρ σ H Q rl e k =>
  q F ρ σ H _ rl e fun x h1 vx F1 ρ1 H1 s1 p1 r1 dx q1 => by
    obtain ⟨c, ds, vs, rfl, hc, ck, q1⟩ := q1
    obtain rfl := dx.cls
    refine .inr ⟨c, rfl, ⟨vs, hc.sq H1⟩, k ds (fun _ => True) h1 _ F1 ρ1 H1 s1 p1 r1 ⟨fun F' ρ' h' H' s p r _ => ?_, fun i F' ρ' h' H' s p r _ hi => ?_, fun i d F' ρ' h' H' x H2 s p r _ hd hy => ?_⟩ q1⟩
    · exact ⟨vs, hc.sq H', by rw [ck.len]; exact Nat.le_refl _⟩
    · rw [ck.len] at hi
      exact ⟨vs, vs[i], hc.sq H', List.getElem?_eq_getElem hi⟩
    · obtain ⟨e1, e2⟩ := hy
      subst e1
      obtain ⟨v, hv, rv⟩ := ck.get hd
      have ev := e2 vs (hc.sq H2)
      rw [hv] at ev; cases ev
      exact ⟨F', Same.refl _, r, rv.rd⟩
theorem vg_tupK {n : Nat} {gs : TGs} {c : Addr} {ds : List D} {vs : List V} {N : Env' → Hs → Prop} (hc : KTup K c vs) (ck : CKs ds vs) (hl : ds.length = n) (q : VGs K Θ gs ds env h N) : VG K Θ (gTup K n gs) (.p (.cls c)) env h N := fun F ρ σ H v Q rl e dv k => by
  obtain rfl := dv.cls
  exact ⟨c, vs, rfl, hc.sq H, by rw [← ck.len]; exact hl, q F ρ σ H _ Q rl e ck.rd k⟩
/-- t.index(z), t a tuple of texts of the top -/
theorem vm_indexK {c : Addr} {ys : List Str} {z : Str} {j : Nat} (hc : KTup K c (ys.map V.str)) (hj : ys[j]? = some z) (hno : ∀ m, m < j → ys[m]? ≠ some z) (q : R (dI j) h) :
    VM K Θ (fun x xs H Q => ∃ p, ∃ ys : List Str, ∃ z j, x = .ref p ∧ xs = [.str z] ∧ SqT K H p (ys.map V.str) ∧ ys[j]? = some z ∧ (∀ m, m < j → ys[m]? ≠ some z) ∧ Q (.int (j : Nat)) H) (.p (.cls c)) [dS z] h R := fun F ρ H vx vs Q rl a b k => by
  obtain rfl := a.cls
  cases b with
  | cons b e =>
    cases e
    obtain rfl := b.str
    exact ⟨c, ys, z, j, rfl, rfl, hc.sq H, hj, hno, k _ h _ F ρ H (Same.refl _) (Pre.refl _) rl (.p (.int _)) q⟩
/-- d[z], d a dict of the top with texts for keys that holds defs -/
theorem v2_ixDK {w : World} {c f : Addr} {z : Str} (hd : KDct K w c z (.ref f)) (q : R (.p (.cls f)) h) : V2 K Θ (rIxD K w) (.p (.cls c)) (dS z) h R := fun F ρ H vx vy Q rl a b k => by
  obtain rfl := a.cls
  obtain rfl := b.str
  exact ⟨c, z, _, rfl, rfl, hd, k _ h _ F ρ H (Same.refl _) (Pre.refl _) rl (.p (.cls f)) q⟩
/-- zip of a tuple of the top and one that stays -/
theorem vi_zipK {ta : TA} {R : List D → (Hs → Prop) → Hs → Prop} (q : VA K Θ ta env h fun vs h1 => ∃ (c : Addr) (zs : List Str) (ys : List P), vs = [.p (.cls c), dT ys] ∧ KTup K c (zs.map V.str) ∧ R (zipP (zs.map P.str) ys) (fun _ => True) h1) : VI K Θ (iZipA K ta) env h R := fun F ρ σ H Q rl e k =>
  q F ρ σ H _ rl e fun vs h1 us F1 ρ1 H1 s1 p1 r1 dus q1 => by
    obtain ⟨c, zs, ys, rfl, hc, q1⟩ := q1
    cases dus with
    | cons dx du =>
      cases du with
      | cons dy dn =>
        cases dn
        obtain rfl := dx.cls
        cases dy with
        | p dy =>
          cases dy with
          | @tup b _ ws hb rw' =>
            have hz : (zipP (zs.map P.str) ys).length = min (zs.map V.str).length ws.length := by
              unfold zipP
              rw [List.length_map, List.length_zip, rw'.len, List.length_map, List.length_map]
            refine ⟨c, b, zs.map V.str, ws, rfl, .inr ⟨hc.sq H1, sqT_mono r1.same hb, k (zipP (zs.map P.str) ys) (fun _ => True) h1 _ F1 ρ1 H1 s1 p1 r1 ⟨fun F' ρ' h' H' s p r _ => ?_, fun i F' ρ' h' H' s p r _ hi => ?_, fun i d F' ρ' h' H' x H2 s p r _ hd hy => ?_⟩ q1⟩⟩
            · refine ⟨zs.map V.str, ws, hc.sq H', sqT_mono r.same (sqU_mono s hb), ?_⟩
              rw [hz]
              omega
            · rw [hz] at hi
              exact ⟨zs.map V.str, ws, (zs.map V.str)[i]'(by omega), ws[i]'(by omega), hc.sq H', sqT_mono r.same (sqU_mono s hb), List.getElem?_eq_getElem _, List.getElem?_eq_getElem _⟩
            · obtain ⟨T, x1, y1, rfl, hT, rfl, gx, gy⟩ := hy
              unfold zipP at hd
              rw [List.getElem?_map] at hd
              cases hq : ((zs.map P.str).zip ys)[i]? with
              | none => rw [hq] at hd; cases hd
              | some q =>
                rw [hq] at hd; cases hd
                obtain ⟨e1, e2⟩ := zip_get hq
                obtain ⟨v1, f1, g1⟩ := (RPs.of_strs (K := K) (F := F') zs).get e1
                obtain ⟨v2, f2, g2⟩ := rw'.get e2
                have z1 := gx (zs.map V.str) (hc.sq _)
                have z2 := gy ws (sqT_mono r.same (sqU_mono s hb))
                rw [f1] at z1; cases z1
                rw [f2] at z2; cases z2
                have sn := same_new (o := .tup [x1, y1]) (r.free hT)
                exact ⟨upd F' T (.tup [x1, y1]), sn, r.frz hT, .p (.tup (.of upd_same) (.cons (g1.mono sn) (.cons ((g2.mono s).mono sn) .nil)))⟩
end
end Kb

/-! An own list extended by a list of either kind. -/
namespace Kb
open PySem PySem.Spec PyProof.Rows L2 RZ
section
open PySem.AutoSeq1 (wpAny_loadPart')
theorem extLstW (p q : Addr) (xs ys : Array Value) (i j : Nat) (dt : Option Addr) (st : Array (Option Value)) (hz : xs.size + ys.size ≤ sizeLine) :
    Meets (Builtin.«list.extend» ⟨[.ref p, .ref q], []⟩)
      (fun _ R s => s.heap.get? p = some { cls := .type "list", data := .seq xs i } ∧ s.heap.get? q = some ⟨.type "list", dt, .seq ys j, st⟩ ∧ R (.ok (.ret .none)) { s with heap := s.heap.update p (Obj.mapSeq fun x => x ++ ys) }) :=
  .of_wp fun prog w A R s hyp => by
    obtain ⟨H, G, D, T, O⟩ := s; obtain ⟨ep, eq, hR⟩ := hyp
    have g1 := AutoSeq1.idx_int; have g2 := AutoSeq1.sub_tuple_tuple
    have g3 := AutoSeq1.sub_list_list; have g4 := AutoSeq1.sub_tuple_list; have g5 := AutoSeq1.sub_list_tuple
    have nl : ¬ (!xs.isEmpty && Builtin.List.listTooLong (xs.size + ys.size)) = true := by rw [notLongL hz, Bool.and_false]; exact Bool.false_ne_true
    have z1 : xs.size ≤ sizeLine := Nat.le_trans (Nat.le_add_right _ _) hz
    have z2 : (xs ++ ys).size ≤ sizeLine + 1 := by rw [Array.size_append]; omega
    wp_walk using (wpAny_updateSeq ep rfl (hz := z1) (_hz' := z2)), wpAny_loadPart' ep, wpAny_loadPart' eq
    exact ⟨_, rfl, hR⟩
end
section
variable {X : Cx}
def rExtL (K : PySem.W.Frag) : V → List V → Hp → VK → Prop := fun x vs H Q => ∃ l b xs zs, x = .ref l ∧ vs = [.ref b] ∧ H l = some (.lst xs) ∧ SqL K H b zs ∧ xs.length + zs.length ≤ sizeLine ∧ Q .non (upd H l (.lst (xs ++ zs)))
theorem mt_extL : MtM X "list.extend" (rExtL X.K) := by
  intro pins s σ H x vs v us Q I rx rv h
  obtain ⟨l, b, xs, zs, rfl, rfl, hH, hB, hz, q⟩ := h
  cases rx
  obtain ⟨u, rfl, ru⟩ := rv.one
  cases ru
  obtain ⟨z, its, n, r, hl, e⟩ := I.lstM hH
  obtain ⟨its2, r2, ⟨⟨cls, dd, data, sl⟩, n2, ho, hc, hdn, hd⟩, _⟩ := I.list hB
  simp only at hc hd
  subst hc hd
  have l2 := r2.length
  refine call_meets PySem.F.slot_list_extend ⟨_, e, rfl⟩ PySem.F.entry_list_extend (PySem.F.args_list_extend_2 _ _) (extLstW l b its.toArray its2.toArray n n2 dd sl (by rw [List.size_toArray, List.size_toArray]; omega)) ⟨e, ho, ?_⟩
  refine ⟨.non, _, I.lset (its' := its ++ its2) hH e (by simp) (r.append r2) ?_, rfl, q⟩
  rw [List.length_append]
  exact hz
theorem mt_extLK {K : PySem.W.Frag} (hK : X.K = K) : MtM X "list.extend" (rExtL K) := hK ▸ mt_extL
end
section
variable {K : PySem.W.Frag} {Θ : Ctx} {h : Hs} {R : D → Hs → Prop} {x y : D}
theorem vm_extL {n : Nat} {xs : List D} {zs : List P} {y : D} (hn : h[n]? = some (some (.lst xs))) (hy : SeqL y h zs) (hl : xs.length + zs.length ≤ sizeLine) (q : R dN (h.set n (some (.lst (xs ++ zs.map D.p))))) : VM K Θ (rExtL K) (.own n) [y] h R := fun F ρ H vx vs Q rl a b k => by
  cases a with
  | own a =>
    cases b with
    | cons b c =>
      cases c
      obtain ⟨p, u, e1, e2, e3, us, e4, e5⟩ := rl.own _ _ hn
      rw [a] at e1; cases e1
      subst e4
      obtain ⟨p2, ws, rfl, s2, r2⟩ := hy.v rl b
      refine ⟨_, _, us, _, rfl, rfl, e3, s2, by rw [← e5.len, ← r2.len]; exact hl, ?_⟩
      exact k _ _ _ F ρ _ (Same.refl _) (Pre.refl _) (rl.put (o' := .lst (xs ++ zs.map D.p)) hn a ⟨_, rfl, e5.append r2.data⟩) (.p .non) q
theorem call_ordD {c : Nat} (q : R (dI c) h) : VC K Θ (fun xs H Q => ∃ x, xs = [.str x] ∧ x.length = 1 ∧ Q (.int (x.cps.getD 0 0 : Nat)) H) [dS ⟨#[c]⟩] h R := fun F ρ H vs Q rl a k => by
  cases a with
  | cons a b =>
    cases b
    obtain rfl := a.str
    exact ⟨_, rfl, rfl, k _ h _ F ρ H (Same.refl _) (Pre.refl _) rl (.p (.int _)) q⟩
theorem vm_indexL {ys : List Str} {z : Str} {j : Nat} (hj : ys[j]? = some z) (hno : ∀ m, m < j → ys[m]? ≠ some z) (q : R (dI j) h) : VM K Θ (rIndex K) (dL (ys.map P.str)) [dS z] h R := fun F ρ H vx vs Q rl a b k => by
  cases a with
  | p a =>
    cases a with
    | lst a r =>
      cases b with
      | cons b e =>
        cases e
        obtain rfl := b.str
        have er : ∀ {zs : List Str} {us : List V}, RPs K F (zs.map P.str) us → us = zs.map V.str := fun {zs} => by
          induction zs with
          | nil => intro us r; cases r; rfl
          | cons z zs ih =>
            intro us r
            cases r with
            | cons r1 r2 => cases r1; rw [ih r2]; rfl
        have e := er r
        subst e
        refine ⟨_, ys.map V.str, .str z, j, .str z, rfl, rfl, rl.same.seq a, rfl, ?_, ?_, ?_, ?_, k _ h _ F ρ H (Same.refl _) (Pre.refl _) rl (.p (.int _)) q⟩
        · rw [List.all_eq_true]
          intro x hx
          obtain ⟨s, _, rfl⟩ := List.mem_map.mp hx
          rfl
        · rw [List.getElem?_map, hj]; rfl
        · show (z == z) = true
          exact beq_self_eq_true z
        · intro m z' hm hz'
          rw [List.getElem?_map] at hz'
          cases e : ys[m]? with
          | none => rw [e] at hz'; cases hz'
          | some s =>
            rw [e] at hz'; cases hz'
            show (s == z) = false
            exact beq_eq_false_iff_ne.mpr fun q => hno m hm (by rw [e, q])
end
section
variable {X : Cx} {K : PySem.W.Frag} {w : World}
theorem ix_kdictK (hK : X.K = K) (hw : X.w = w) : IxR X (rIxD K w) := by
  subst hK hw
  exact ix_kdict
theorem mt_tup_indexK (hK : X.K = K) : MtR X "tuple.index" (fun x xs H Q => ∃ p, ∃ ys : List Str, ∃ z j, x = .ref p ∧ xs = [.str z] ∧ SqT K H p (ys.map V.str) ∧ ys[j]? = some z ∧ (∀ m, m < j → ys[m]? ≠ some z) ∧ Q (.int (j : Nat)) H) := hK ▸ mt_tup_index
theorem mt_indexK (hK : X.K = K) : MtR X "list.index" (rIndex K) := hK ▸ mt_index
end
end Kb

/-! Texts read: a tuple of the top as a tuple in data, `in` a tuple, find from a place, replace behind a written text; a promise without errors out of one with errors. -/
namespace Kb
open PySem PySem.Spec PyProof.Rows L2
section
variable {P : Program} {w : World} {K : PySem.W.Frag} {T : List Addr} {mg : Str → Option Value} {base : Heap} {k : Nat} {x : Str} {ps : List Str} {W : SpcX} {W' : Spc}
/-- where it does not raise -/
theorem HasF.calm (h : HasF P w K mg base (L2.CX P w) k x ps (spDX K T W)) (i : ∀ ds h R, W' ds h R → W ds h R fun _ _ => False) : HasF P w K mg base CX0 k x ps (spD K T W') := by
  obtain ⟨f, fd, F, a, b, c⟩ := h.ex
  refine ⟨f, fd, ⟨fun vs H Q E h => ?_, fun A outer s H args us vs Q E hr e0 hb hv h => ?_⟩, a, b, c⟩
  · obtain ⟨ds, h, F1, ρ, R, rl, ra, hw, kq⟩ := h
    exact F.len vs H Q E0 ⟨ds, h, F1, ρ, R, _, rl, ra, i _ _ _ hw, kq, ⟨fun _ _ _ _ _ _ _ _ _ _ _ _ _ z => z.elim, fun _ _ z => by cases z⟩⟩
  · obtain ⟨ds, h, F1, ρ, R, rl, ra, hw, kq⟩ := h
    refine codeAny_mono (F.run A outer s H args us vs Q E0 hr e0 hb hv ⟨ds, h, F1, ρ, R, _, rl, ra, i _ _ _ hw, kq, ⟨fun _ _ _ _ _ _ _ _ _ _ _ _ _ z => z.elim, fun _ _ z => by cases z⟩⟩) fun r s' q => ?_
    cases r with
    | ok v =>
      cases v with
      | ret u => exact q
      | next => exact q.elim
      | brk => exact q.elim
      | cont => exact q.elim
    | error e =>
      obtain ⟨_, _, _, _, _, _, _, _, _, _, _, _, z⟩ := q
      exact z.elim
end
section
variable {X : Cx}
/-- c + o.replace(y, z), c, y, z written -/
def tCatRep (c y z : Str) (to : TE) : TE := fun σ H Q => to σ H fun x H1 => ∃ a, x = .str a ∧ a.length + (a.length + 1) * z.length ≤ 16777216 ∧ c.length + (Txt.replace a y z).length ≤ sizeLine ∧ Q (.str (c ++ Txt.replace a y z)) H1
theorem pe_catRep {o : Expr} {to : TE} {c y z : Str} {j j0 j1 : Nat} {cp c0 c1 apos cpos pos : Pos} (hyz : (y == z) = false) (ho : PE X o to)
    (hbase : attributeBase o "replace" X.env (eval o X.env) = eval o X.env := by rfl)
    (hst : starEach [.Constant (.str y) j0 c0, .Constant (.str z) j1 c1] X.env = [(false, eval (.Constant (.str y) j0 c0) X.env), (false, eval (.Constant (.str z) j1 c1) X.env)] := by rfl)
    (hfew : ((backTo cpos (starEach [.Constant (.str y) j0 c0, .Constant (.str z) j1 c1] X.env)).all (fun x => !x.1) && (backToKw cpos (keywordEach [] X.env)).all (fun x => x.1.isSome)
      && decide (([.Constant (.str y) j0 c0, .Constant (.str z) j1 c1] : List Expr).length + ([] : List Keyword).length + (if ([] : List Keyword).isEmpty then 0 else 1) < 30)) = true := by rfl)
    (hline : (apos.endLine == cpos.line) = true := by rfl) :
    PE X (.BinOp (.Constant (.str c) j cp) .Add (.Call (.Attribute o "replace" apos) [.Constant (.str y) j0 c0, .Constant (.str z) j1 c1] [] cpos) pos) (tCatRep c y z to) := by
  refine ⟨fun pins s σ H Q I h => ?_⟩
  refine wpAny_BinOp (Calls.Constant_str ?_)
  have I0 : Inv X pins σ H { s with toks := s.toks + 1 } := I.tok _
  refine wpAny_Call_method_late hbase hfew hline rfl (wpAny_mono (PySem.wpAny_toks (ho.run pins _ σ H _ I0 h)) (fun v s1 q => ?_) fun _ _ z => z.2)
  obtain ⟨hk, x, H1, I1, r1, a, rfl, hb, hz, q1⟩ := q
  have hk' : s.toks + 1 ≤ s1.toks := hk
  obtain ⟨t, rfl⟩ := r1
  refine ⟨"str", _, F.plainAttrs_str, F.slot_str_replace, F.type_str_replace, typeIs_str _ _ _, (fun _ e => nomatch e), Calls.callWith_builtin rfl (Calls.evalArgs_plain ?_)⟩
  show wpAny _ _ (spliced ((false, eval (.Constant (.str y) j0 c0) X.env) :: backTo cpos (starEach [.Constant (.str z) j1 c1] X.env))) _ _ _
  refine Calls.spliced_cons (Calls.Constant_str ?_)
  show wpAny _ _ (spliced ((false, eval (.Constant (.str z) j1 c1) X.env) :: backTo cpos (starEach [] X.env))) _ _ _
  refine Calls.spliced_cons (Calls.Constant_str (Calls.spliced_nil ?_))
  refine PySem.SC.replace (show s1.toks ≠ 0 by omega) (show s1.toks + 1 ≠ 0 by omega) (show s1.toks ≠ s1.toks + 1 by omega) hyz hb fun t' k => ?_
  exact op_add_str pins _ σ H1 (.str c) (.str (Txt.replace a y z)) _ _ Q (I1.tok k) ⟨_, rfl⟩ ⟨t', rfl⟩ ⟨c, _, rfl, rfl, hz, q1⟩
/-- str of a number or of a text -/
def rStr1 : List V → Hp → VK → Prop := fun xs H Q => ∃ i, xs = [.int i] ∧ i.natAbs.log2 < 1920 ∧ Q (.str (toString i)) H
def rStr2 : List V → Hp → VK → Prop := fun xs H Q => ∃ a, xs = [.str a] ∧ Q (.str a) H
def rStrU : List V → Hp → VK → Prop := fun xs H Q => rStr1 xs H Q ∨ rStr2 xs H Q
theorem call_strU : CallR X (.type "str") rStrU := CallR.or (r := rStr1) (r' := rStr2) call_str_int SkE.call_str_str
end
section
variable {K : PySem.W.Frag} {Θ : Ctx} {env : Env'} {h : Hs} {R : D → Hs → Prop} {ta to : TE}
theorem ve_catRep {c y z : Str} (q : VE K Θ to env h fun x h1 => ∃ a, x = dS a ∧ a.length + (a.length + 1) * z.length ≤ 16777216 ∧ c.length + (Txt.replace a y z).length ≤ sizeLine ∧ R (dS (c ++ Txt.replace a y z)) h1) : VE K Θ (tCatRep c y z to) env h R := fun F ρ σ H Q rl e k =>
  q F ρ σ H _ rl e fun x h1 vx F1 ρ1 H1 s1 p1 r1 dx q1 => by
    obtain ⟨a, rfl, hb, hz, q1⟩ := q1
    obtain rfl := dx.str
    exact ⟨a, rfl, hb, hz, k _ h1 _ F1 ρ1 H1 s1 p1 r1 (.p (.str _)) q1⟩
theorem vc_strI {i : Int} (hl : i.natAbs.log2 < 1920) (q : R (dS (toString i)) h) : VC K Θ rStrU [dI i] h R := fun F ρ H vs Q rl a k => by
  cases a with
  | cons a b =>
    cases b
    obtain rfl := a.int
    exact .inl ⟨i, rfl, hl, k _ h _ F ρ H (Same.refl _) (Pre.refl _) rl (.p (.str _)) q⟩
theorem vc_strS {z : Str} (q : R (dS z) h) : VC K Θ rStrU [dS z] h R := fun F ρ H vs Q rl a k => by
  cases a with
  | cons a b =>
    cases b
    obtain rfl := a.str
    exact .inr ⟨z, rfl, k _ h _ F ρ H (Same.refl _) (Pre.refl _) rl (.p (.str _)) q⟩
/-- x in a tuple of the top -/
theorem v2_inK {x : Str} {c : Addr} {ns : List Str} (hc : KTup K c (ns.map V.str)) (q : R (dB (decide (x ∈ ns))) h) : V2 K Θ (rInU K) (dS x) (.p (.cls c)) h R := v2_or1 fun F ρ H vx vy Q rl a b k => by
  obtain rfl := a.str
  obtain rfl := b.cls
  refine ⟨_, _, rfl, .inr (hc.sq H), rfl, by simp [flatV], ?_⟩
  show Q (.bl (inV (.str x) (ns.map V.str))) H
  rw [inV_strs]
  exact k _ h _ F ρ H (Same.refl _) (Pre.refl _) rl (.p (.bl _)) q
/-- isinstance of a tuple of the top -/
theorem vc_isiK {c : Addr} {vs' : List V} {n : String} (hc : KTup K c vs') (hn : n ∈ ["bool", "int", "str", "tuple", "list", "dict"]) (q : R (dB (isA "tuple" n)) h) : VC K Θ (rIsiU K) [.p (.cls c), .p (.ty n)] h R := fun F ρ H vs Q rl a k => by
  cases a with
  | cons a b =>
    obtain rfl := a.cls
    cases b with
    | cons b c' =>
      cases c'
      cases b with
      | p b =>
        cases b
        obtain ⟨o, its, m, h1, h2, _⟩ := hc
        exact .inl ⟨_, _, _, _, _, rfl, .ty n, .kTuple h1 h2, isA_kit (by decide) hn, k _ h _ F ρ H (Same.refl _) (Pre.refl _) rl (.p (.bl _)) q⟩
theorem v2_inTS {x : Str} {ns : List Str} (q : R (dB (decide (x ∈ ns))) h) : V2 K Θ (rInU K) (dS x) (dT (ns.map P.str)) h R := v2_or1 fun F ρ H vx vy Q rl a b k => by
  obtain rfl := a.str
  cases b with
  | p b =>
    cases b with
    | tup b1 b2 =>
      have e := b2.strs
      subst e
      refine ⟨_, _, rfl, .inr (sqT_mono rl.same b1), rfl, by simp [flatV], ?_⟩
      show Q (.bl (inV (.str x) (ns.map V.str))) H
      rw [inV_strs]
      exact k _ h _ F ρ H (Same.refl _) (Pre.refl _) rl (.p (.bl _)) q
theorem v2_ninTI {x : Int} {ns : List Int} (q : R (dB (!decide (x ∈ ns))) h) : V2 K Θ (rNiU K) (dI x) (dT (ns.map P.int)) h R := v2_or1 fun F ρ H vx vy Q rl a b k => by
  obtain rfl := a.int
  cases b with
  | p b =>
    cases b with
    | tup b1 b2 =>
      have e := b2.ints
      subst e
      refine ⟨_, _, rfl, .inr (sqT_mono rl.same b1), rfl, by simp [flatV], ?_⟩
      show Q (.bl (!inV (.int x) (ns.map V.int))) H
      rw [inV_ints]
      exact k _ h _ F ρ H (Same.refl _) (Pre.refl _) rl (.p (.bl _)) q
theorem vm_find3 {a b : Str} {i : Int} (q : R (dI (Txt.find3 a b i)) h) : VM K Θ (fun x xs H Q => ∃ (a b : Str) (i : Int), x = V.str a ∧ xs = [V.str b, .int i] ∧ Q (.int (Txt.find3 a b i)) H) (dS a) [dS b, dI i] h R := fun F ρ H vx vs Q rl x y k => by
  obtain rfl := x.str
  cases y with
  | cons y e =>
    obtain rfl := y.str
    cases e with
    | cons z e =>
      cases e
      obtain rfl := z.int
      exact ⟨a, b, i, rfl, rfl, k _ h _ F ρ H (Same.refl _) (Pre.refl _) rl (.p (.int _)) q⟩
end
end Kb

/-! Tokens of a text: what stands at a place of it. -/
namespace Tz
open PySem PySem.Spec PyProof.Rows L2 Kb SX NumText
def lets : Str := "abcdefghijklmnopqrstuvwxyz"
def digs : Str := "0123456789"
def ofws : Str := "abcdefghijklmnopqrstuvwxyz0123456789_"
def blks : Str := " \n"
def longs : List Str := ["<>", "<=", ">=", "||"]
def shorts : Str := "(),.+-*/=<>"
def kwS : List String := ["select", "distinct", "from", "where", "group", "by", "having", "order", "limit", "as", "join", "left", "on", "union", "all", "except", "intersect", "and", "or", "not", "is", "null", "true", "false", "in", "exists", "case", "when", "then", "else", "end", "count", "sum", "min", "max", "mod", "desc"]
def kws : List Str := kwS.map Str.ofString
abbrev inS (z : Str) (c : Nat) : Bool := decide (c ∈ z.cps.toList)
abbrev run (z : Str) (u : List Nat) : List Nat := u.takeWhile (inS z)
/-- the rest of a text token: what it tells, how much of it is used -/
def quo : List Nat → Option (List Nat × Nat)
  | [] => none
  | c :: r => if c = 39 then (match r with
      | [] => some ([], 1)
      | d :: r' => if d = 39 then (quo r').map fun q => (39 :: q.1, q.2 + 2) else some ([], 1))
    else (quo r).map fun q => (c :: q.1, q.2 + 1)
def kindW (w : List Nat) : Str := if decide (S w ∈ kws) = true then "keyword" else "name"
/-- the token that stands at the beginning: kind, value, how long -/
def tokC (c : Nat) (r : List Nat) : Option (Str × P × Nat) :=
    if inS lets c = true then some (kindW (run ofws (c :: r)), .str (S (run ofws (c :: r))), (run ofws (c :: r)).length)
    else if inS digs c = true then (if 30 < (run digs (c :: r)).length then none else some ("integer", .int (digitsVal (run digs (c :: r)) : Nat), (run digs (c :: r)).length))
    else if c = 39 then (match quo r with
      | none => none
      | some (t, n) => if 2000 < t.length then none else some ("text", .str (S t), n + 1))
    else if c = 36 then (if (run digs r).length = 1 ∨ (run digs r).length = 2 then some ("parameter", .int (digitsVal (run digs r) : Nat), (run digs r).length + 1) else none)
    else if decide (S ((c :: r).take 2) ∈ longs) = true then some ("sign", .str (S ((c :: r).take 2)), 2)
    else if inS shorts c = true then some ("sign", .str (S [c]), 1)
    else none
def tokR : List Nat → Option (Str × P × Nat)
  | [] => none
  | c :: r => tokC c r
abbrev tokP (k : Str) (v : P) (a : Nat) : P := .tup [.str k, v, .int (a : Nat)]
/-- the tokens of what stands from a place on; where it is refused -/
inductive Toks : List Nat → Nat → List P → Option Nat → Prop
  | nil {a : Nat} : Toks [] a [] none
  | blank {c a : Nat} {u : List Nat} {ts : List P} {r : Option Nat} : inS blks c = true → Toks u (a + 1) ts r → Toks (c :: u) a ts r
  | tok {c a n : Nat} {u : List Nat} {k : Str} {v : P} {ts : List P} {r : Option Nat} : inS blks c = false → tokR (c :: u) = some (k, v, n) → 0 < n → n ≤ (c :: u).length → Toks ((c :: u).drop n) (a + n) ts r → Toks (c :: u) a (tokP k v a :: ts) r
  | no {c a : Nat} {u : List Nat} : inS blks c = false → tokR (c :: u) = none → Toks (c :: u) a [] (some a)
/-! ### runs -/
theorem run_all {z : Str} {w u : List Nat} (hw : ∀ c ∈ w, inS z c = true) (hu : ∀ c, u.head? = some c → inS z c = false) : run z (w ++ u) = w := by
  induction w with
  | nil =>
    cases u with
    | nil => rfl
    | cons c u =>
      show List.takeWhile (inS z) (c :: u) = []
      rw [List.takeWhile_cons, hu c rfl]; rfl
  | cons c w ih =>
    show List.takeWhile (inS z) (c :: (w ++ u)) = c :: w
    rw [List.takeWhile_cons, hw c List.mem_cons_self, if_pos rfl]
    exact congrArg (c :: ·) (ih fun d hd => hw d (List.mem_cons_of_mem _ hd))
theorem run_le (z : Str) (u : List Nat) : (run z u).length ≤ u.length := List.Sublist.length_le (List.takeWhile_sublist _)
theorem run_in {z : Str} {u : List Nat} : ∀ c ∈ run z u, inS z c = true := by
  induction u with
  | nil => intro c hc; simp [run] at hc
  | cons d u ih =>
    intro c hc
    unfold run at hc ih
    rw [List.takeWhile_cons] at hc
    cases e : inS z d with
    | false => rw [e] at hc; simp at hc
    | true =>
      rw [e, if_pos rfl] at hc
      rcases List.mem_cons.mp hc with rfl | hc
      · exact e
      · exact ih c hc
theorem run_take {z : Str} {u : List Nat} : u.take (run z u).length = run z u := by
  induction u with
  | nil => rfl
  | cons d u ih =>
    unfold run at ih ⊢
    rw [List.takeWhile_cons]
    cases e : inS z d with
    | false => rfl
    | true =>
      rw [if_pos rfl, List.length_cons, List.take_succ_cons, ih]
theorem dig_ok {w : List Nat} (h : ∀ c ∈ w, inS digs c = true) : w.all (fun c => decide (48 ≤ c) && decide (c ≤ 57)) = true := by
  rw [List.all_eq_true]
  intro c hc
  have all : ∀ d ∈ digs.cps.toList, (decide (48 ≤ d) && decide (d ≤ 57)) = true := by decide +kernel
  exact all c (of_decide_eq_true (h c hc))
theorem dig_in {c : Nat} (h0 : 48 ≤ c) (h1 : c ≤ 57) : inS digs c = true := by
  have all : ∀ k : Fin 10, inS digs (48 + k.val) = true := by decide +kernel
  have z := all ⟨c - 48, by omega⟩
  have e : 48 + (c - 48) = c := by omega
  rw [show 48 + ((⟨c - 48, by omega⟩ : Fin 10).val) = c from e] at z
  exact z
/-! ### texts -/
theorem quo_no {u : List Nat} (h : ∀ c ∈ u, c ≠ 39) : quo u = none := by
  induction u with
  | nil => rfl
  | cons c u ih =>
    unfold quo
    rw [if_neg (h c List.mem_cons_self), ih fun d hd => h d (List.mem_cons_of_mem _ hd)]
    rfl
theorem quo_app {s u : List Nat} (h : ∀ c ∈ s, c ≠ 39) : quo (s ++ u) = (quo u).map fun q => (s ++ q.1, q.2 + s.length) := by
  induction s with
  | nil =>
    rw [List.nil_append]
    cases e : quo u <;> rfl
  | cons c s ih =>
    rw [List.cons_append, quo.eq_def]
    show (if c = 39 then _ else (quo (s ++ u)).map fun q => (c :: q.1, q.2 + 1)) = _
    rw [if_neg (h c List.mem_cons_self), ih fun d hd => h d (List.mem_cons_of_mem _ hd)]
    cases quo u with
    | none => rfl
    | some q => simp; omega
theorem quo_qq {u : List Nat} : quo (39 :: 39 :: u) = (quo u).map fun q => (39 :: q.1, q.2 + 2) := by
  rw [quo.eq_def]
  simp
theorem quo_q {u : List Nat} (h : ∀ c, u.head? = some c → c ≠ 39) : quo (39 :: u) = some ([], 1) := by
  rw [quo.eq_def]
  cases u with
  | nil => simp
  | cons d u => simp [h d rfl]
/-- a text's quotes doubled -/
def esc (t : List Nat) : List Nat := PySem.StrLaws.replL [39] [39, 39] t
theorem esc_nil : esc [] = [] := PySem.StrLaws.replL_nil
theorem esc_q {t : List Nat} : esc (39 :: t) = 39 :: 39 :: esc t := by
  unfold esc
  rw [PySem.StrLaws.replL_hit (by simp) (by simp)]
  rfl
theorem esc_c {c : Nat} {t : List Nat} (h : c ≠ 39) : esc (c :: t) = c :: esc t := by
  unfold esc
  rw [PySem.StrLaws.replL_miss (by simpa using h)]
theorem esc_len (t : List Nat) : (esc t).length ≤ 2 * t.length := by
  induction t with
  | nil => rw [esc_nil]; simp
  | cons c t ih =>
    by_cases h : c = 39
    · subst h
      rw [esc_q]; simp only [List.length_cons]; omega
    · rw [esc_c h]; simp only [List.length_cons]; omega
theorem quo_esc {t u : List Nat} (h : ∀ c, u.head? = some c → c ≠ 39) : quo (esc t ++ 39 :: u) = some (t, (esc t).length + 1) := by
  induction t with
  | nil => rw [esc_nil, List.nil_append, quo_q h]; rfl
  | cons c t ih =>
    by_cases hc : c = 39
    · subst hc
      rw [esc_q, List.cons_append, List.cons_append, quo_qq, ih]
      rfl
    · rw [esc_c hc, List.cons_append, quo.eq_def]
      show (if c = 39 then _ else (quo (esc t ++ 39 :: u)).map fun q => (c :: q.1, q.2 + 1)) = _
      rw [if_neg hc, ih]
      rfl
/-! ### what may stand behind a written token -/
def joinC (p : List Nat) (c : Nat) : Bool :=
  if inS lets (p.head?.getD 0) then inS ofws c
  else if inS ("$0123456789" : Str) (p.head?.getD 0) then inS digs c
  else if p.head?.getD 0 = 39 then decide (c = 39)
  else (inS ("<>|" : Str) (p.getLast?.getD 0) && inS ("=<>|" : Str) c)
def Free (p u : List Nat) : Prop := ∀ c, u.head? = some c → joinC p c = false
theorem free_blank {p u : List Nat} {c : Nat} (h : inS blks c = true) : Free p (c :: u) := by
  intro d hd
  cases hd
  have all : ∀ d ∈ blks.cps.toList, inS ofws d = false ∧ inS digs d = false ∧ decide (d = 39) = false ∧ inS ("=<>|" : Str) d = false := by decide +kernel
  obtain ⟨a1, a2, a3, a4⟩ := all c (of_decide_eq_true h)
  unfold joinC
  rw [a1, a2, a3, a4, Bool.and_false]
  split
  · rfl
  · split
    · rfl
    · split <;> rfl
theorem free_nil {p : List Nat} : Free p [] := fun c h => by cases h
/-- a token that is written: kind, value, the codes -/
inductive Drawn : Str → P → List Nat → Prop
  | word {c : Nat} {w : List Nat} : inS lets c = true → (∀ d ∈ w, inS ofws d = true) → w.length < 100 → Drawn (kindW (c :: w)) (.str (S (c :: w))) (c :: w)
  | int {w : List Nat} : w ≠ [] → (∀ d ∈ w, inS digs d = true) → w.length ≤ 30 → Drawn "integer" (.int (digitsVal w : Nat)) w
  | text {t : List Nat} : t.length ≤ 2000 → Drawn "text" (.str (S t)) (39 :: (esc t ++ [39]))
  | par {w : List Nat} : w ≠ [] → (∀ d ∈ w, inS digs d = true) → w.length ≤ 2 → Drawn "parameter" (.int (digitsVal w : Nat)) (36 :: w)
  | sign {w : List Nat} : w ∈ [[40], [41], [44], [46], [43], [45], [42], [47], [61], [60, 62], [60], [60, 61], [62], [62, 61], [124, 124]] → Drawn "sign" (.str (S w)) w
theorem Drawn.len {k : Str} {v : P} {w : List Nat} (h : Drawn k v w) : 0 < w.length ∧ w.length ≤ 4002 := by
  cases h with
  | word _ _ h => simp only [List.length_cons]; omega
  | int h0 _ h => have := List.length_pos_iff.mpr h0; omega
  | text h => rename_i t; have := esc_len t; simp only [List.length_cons, List.length_append, List.length_nil]; omega
  | par h0 _ h => simp only [List.length_cons]; omega
  | sign h =>
    have all : ∀ w ∈ ([[40], [41], [44], [46], [43], [45], [42], [47], [61], [60, 62], [60], [60, 61], [62], [62, 61], [124, 124]] : List (List Nat)), 0 < w.length ∧ w.length ≤ 4002 := by decide
    exact all w h
theorem Drawn.head {k : Str} {v : P} {w : List Nat} (h : Drawn k v w) : ∃ c u, w = c :: u ∧ inS blks c = false := by
  cases h with
  | word h _ _ =>
    have all : ∀ d ∈ lets.cps.toList, inS blks d = false := by decide +kernel
    exact ⟨_, _, rfl, all _ (of_decide_eq_true h)⟩
  | int h0 h _ =>
    cases w with
    | nil => exact absurd rfl h0
    | cons c w =>
      have all : ∀ d ∈ digs.cps.toList, inS blks d = false := by decide +kernel
      exact ⟨_, _, rfl, all _ (of_decide_eq_true (h c List.mem_cons_self))⟩
  | text h => exact ⟨_, _, rfl, by decide +kernel⟩
  | par h0 _ h => exact ⟨_, _, rfl, by decide +kernel⟩
  | sign h =>
    have all : ∀ w ∈ ([[40], [41], [44], [46], [43], [45], [42], [47], [61], [60, 62], [60], [60, 61], [62], [62, 61], [124, 124]] : List (List Nat)), ∃ c u, w = c :: u ∧ inS blks c = false := by
      intro w hw
      simp only [List.mem_cons, List.mem_nil_iff, or_false] at hw
      rcases hw with rfl | rfl | rfl | rfl | rfl | rfl | rfl | rfl | rfl | rfl | rfl | rfl | rfl | rfl | rfl <;> exact ⟨_, _, rfl, by decide +kernel⟩
    exact all w h
theorem digs_lets {c : Nat} (h : inS digs c = true) : inS lets c = false ∧ c ≠ 39 ∧ c ≠ 36 := by
  have all : ∀ d ∈ digs.cps.toList, inS lets d = false ∧ d ≠ 39 ∧ d ≠ 36 := by decide +kernel
  exact all c (of_decide_eq_true h)
/-- it is read as itself -/
theorem Drawn.read {k : Str} {v : P} {w u : List Nat} (h : Drawn k v w) (f : Free w u) : tokR (w ++ u) = some (k, v, w.length) := by
  cases h with
  | word hc hw hl =>
    rename_i c w
    have fu : ∀ d, u.head? = some d → inS ofws d = false := fun d hd => by
      have z := f d hd
      unfold joinC at z
      rw [show (c :: w).head?.getD 0 = c from rfl, hc, if_pos rfl] at z
      exact z
    have lo : ∀ d ∈ lets.cps.toList, inS ofws d = true := by decide +kernel
    have e : run ofws (c :: w ++ u) = c :: w := run_all (fun d hd => by
      rcases List.mem_cons.mp hd with rfl | hd
      · exact lo _ (of_decide_eq_true hc)
      · exact hw d hd) fu
    rw [List.cons_append] at e ⊢
    show tokC _ _ = _
    unfold tokC
    rw [hc, if_pos rfl, e]
  | int h0 hw hl =>
    cases w with
    | nil => exact absurd rfl h0
    | cons c w =>
      have hc := hw c List.mem_cons_self
      obtain ⟨d1, d2, d3⟩ := digs_lets hc
      have dd : ∀ d ∈ digs.cps.toList, inS ("$0123456789" : Str) d = true := by decide +kernel
      have fu : ∀ d, u.head? = some d → inS digs d = false := fun d hd => by
        have z := f d hd
        unfold joinC at z
        rw [show (c :: w).head?.getD 0 = c from rfl, d1, if_neg (by decide), dd c (of_decide_eq_true hc), if_pos rfl] at z
        exact z
      have e : run digs (c :: w ++ u) = c :: w := run_all hw fu
      rw [List.cons_append] at e ⊢
      show tokC _ _ = _
      unfold tokC
      rw [d1, if_neg (by decide), hc, if_pos rfl, e, if_neg (by omega)]
  | text hl =>
    rename_i t
    have fu : ∀ d, u.head? = some d → d ≠ 39 := fun d hd e => by
      have z := f d hd
      unfold joinC at z
      have e1 : inS lets ((39 :: (esc t ++ [39])).head?.getD 0) = false := by show inS lets 39 = false; decide +kernel
      have e2 : inS ("$0123456789" : Str) ((39 :: (esc t ++ [39])).head?.getD 0) = false := by show inS ("$0123456789" : Str) 39 = false; decide +kernel
      rw [e1, if_neg (by decide), e2, if_neg (by decide), if_pos (show (39 :: (esc t ++ [39])).head?.getD 0 = 39 from rfl), e] at z
      cases z
    have e := quo_esc (t := t) fu
    have e1 : inS lets 39 = false := by decide +kernel
    have e2 : inS digs 39 = false := by decide +kernel
    rw [List.cons_append, List.append_assoc]
    show tokC _ _ = _
    unfold tokC
    rw [e1, if_neg (by decide), e2, if_neg (by decide), if_pos rfl]
    show (match quo (esc t ++ (39 :: u)) with | none => none | some (t, n) => if 2000 < t.length then none else some (("text" : Str), P.str (S t), n + 1)) = _
    rw [e]
    show (if 2000 < t.length then none else some (("text" : Str), P.str (S t), (esc t).length + 1 + 1)) = _
    rw [if_neg (by omega)]
    simp
  | par h0 hw hl =>
    rename_i w
    have e1 : inS lets 36 = false := by decide +kernel
    have e2 : inS digs 36 = false := by decide +kernel
    have e3 : inS ("$0123456789" : Str) 36 = true := by decide +kernel
    have fu : ∀ d, u.head? = some d → inS digs d = false := fun d hd => by
      have z := f d hd
      unfold joinC at z
      rw [show (36 :: w).head?.getD 0 = 36 from rfl, e1, if_neg (by decide), e3, if_pos rfl] at z
      exact z
    have e : run digs (w ++ u) = w := run_all hw fu
    have hp := List.length_pos_iff.mpr h0
    rw [List.cons_append]
    show tokC _ _ = _
    unfold tokC
    rw [e1, if_neg (by decide), e2, if_neg (by decide), if_neg (by decide), if_pos rfl, e, if_pos (by omega)]
    simp
  | sign hw =>
    have fu : inS ("<>|" : Str) (w.getLast?.getD 0) = true → (inS lets (w.head?.getD 0) = false) → (inS ("$0123456789" : Str) (w.head?.getD 0) = false) → (w.head?.getD 0 ≠ 39) → ∀ d, u.head? = some d → inS ("=<>|" : Str) d = false := fun a b c e d hd => by
      have z := f d hd
      unfold joinC at z
      rw [b, if_neg (by decide), c, if_neg (by decide), if_neg e, a, Bool.true_and] at z
      exact z
    have one : ∀ c ∈ [40, 41, 44, 46, 43, 45, 42, 47, 61], ∀ u : List Nat, tokR ([c] ++ u) = some (("sign" : Str), P.str (S [c]), 1) := by
      intro c hc u
      have no : decide (S ((c :: u).take 2) ∈ longs) = false := by
        refine decide_eq_false fun z => ?_
        have hd : ∀ s ∈ longs, s.cps.toList.head?.getD 0 ∉ [40, 41, 44, 46, 43, 45, 42, 47, 61] := by decide +kernel
        refine hd _ z ?_
        show (List.take 2 (c :: u)).head?.getD 0 ∈ _
        exact hc
      have hh : ∀ c ∈ [40, 41, 44, 46, 43, 45, 42, 47, 61], inS lets c = false ∧ inS digs c = false ∧ c ≠ 39 ∧ c ≠ 36 ∧ inS shorts c = true := by decide +kernel
      obtain ⟨a1, a2, a3, a4, a5⟩ := hh c hc
      show tokR (c :: u) = _
      show tokC _ _ = _
      unfold tokC
      rw [a1, if_neg (by decide), a2, if_neg (by decide), if_neg a3, if_neg a4, no, if_neg (by decide), a5, if_pos rfl]
    have lone : ∀ c ∈ [60, 62], (∀ d, u.head? = some d → inS ("=<>|" : Str) d = false) → tokR ([c] ++ u) = some (("sign" : Str), P.str (S [c]), 1) := by
      intro c hc fu
      have no : decide (S ((c :: u).take 2) ∈ longs) = false := by
        refine decide_eq_false fun z => ?_
        have hd : ∀ s ∈ longs, s.cps.toList.length = 2 ∧ inS ("=<>|" : Str) (s.cps.toList.getLast?.getD 0) = true := by decide +kernel
        obtain ⟨z1, z2⟩ := hd _ z
        cases u with
        | nil => cases z1
        | cons d u =>
          have e : (S ((c :: d :: u).take 2)).cps.toList.getLast?.getD 0 = d := rfl
          rw [e, fu d rfl] at z2
          cases z2
      have hh : ∀ c ∈ [60, 62], inS lets c = false ∧ inS digs c = false ∧ c ≠ 39 ∧ c ≠ 36 ∧ inS shorts c = true := by decide +kernel
      obtain ⟨a1, a2, a3, a4, a5⟩ := hh c hc
      show tokR (c :: u) = _
      show tokC _ _ = _
      unfold tokC
      rw [a1, if_neg (by decide), a2, if_neg (by decide), if_neg a3, if_neg a4, no, if_neg (by decide), a5, if_pos rfl]
    have two : ∀ w ∈ ([[60, 62], [60, 61], [62, 61], [124, 124]] : List (List Nat)), tokR (w ++ u) = some (("sign" : Str), P.str (S w), w.length) := by
      intro w hw
      simp only [List.mem_cons, List.mem_nil_iff, or_false] at hw
      have hh : ∀ c ∈ [60, 62, 124], inS lets c = false ∧ inS digs c = false ∧ c ≠ 39 ∧ c ≠ 36 := by decide +kernel
      rcases hw with rfl | rfl | rfl | rfl
      · have yes : decide (S [60, 62] ∈ longs) = true := by decide +kernel
        obtain ⟨a1, a2, a3, a4⟩ := hh 60 (by decide)
        show tokR (60 :: 62 :: u) = _
        show tokC _ _ = _
        unfold tokC
        rw [a1, if_neg (by decide), a2, if_neg (by decide), if_neg a3, if_neg a4, show (60 :: 62 :: u).take 2 = [60, 62] from rfl, yes, if_pos rfl]
        rfl
      · have yes : decide (S [60, 61] ∈ longs) = true := by decide +kernel
        obtain ⟨a1, a2, a3, a4⟩ := hh 60 (by decide)
        show tokR (60 :: 61 :: u) = _
        show tokC _ _ = _
        unfold tokC
        rw [a1, if_neg (by decide), a2, if_neg (by decide), if_neg a3, if_neg a4, show (60 :: 61 :: u).take 2 = [60, 61] from rfl, yes, if_pos rfl]
        rfl
      · have yes : decide (S [62, 61] ∈ longs) = true := by decide +kernel
        obtain ⟨a1, a2, a3, a4⟩ := hh 62 (by decide)
        show tokR (62 :: 61 :: u) = _
        show tokC _ _ = _
        unfold tokC
        rw [a1, if_neg (by decide), a2, if_neg (by decide), if_neg a3, if_neg a4, show (62 :: 61 :: u).take 2 = [62, 61] from rfl, yes, if_pos rfl]
        rfl
      · have yes : decide (S [124, 124] ∈ longs) = true := by decide +kernel
        obtain ⟨a1, a2, a3, a4⟩ := hh 124 (by decide)
        show tokR (124 :: 124 :: u) = _
        show tokC _ _ = _
        unfold tokC
        rw [a1, if_neg (by decide), a2, if_neg (by decide), if_neg a3, if_neg a4, show (124 :: 124 :: u).take 2 = [124, 124] from rfl, yes, if_pos rfl]
        rfl
    simp only [List.mem_cons, List.mem_nil_iff, or_false] at hw
    rcases hw with rfl | rfl | rfl | rfl | rfl | rfl | rfl | rfl | rfl | rfl | rfl | rfl | rfl | rfl | rfl
    · exact one 40 (by decide) u
    · exact one 41 (by decide) u
    · exact one 44 (by decide) u
    · exact one 46 (by decide) u
    · exact one 43 (by decide) u
    · exact one 45 (by decide) u
    · exact one 42 (by decide) u
    · exact one 47 (by decide) u
    · exact one 61 (by decide) u
    · exact two [60, 62] (by decide)
    · exact lone 60 (by decide) (fu (by decide +kernel) (by decide +kernel) (by decide +kernel) (by decide))
    · exact two [60, 61] (by decide)
    · exact lone 62 (by decide) (fu (by decide +kernel) (by decide +kernel) (by decide +kernel) (by decide))
    · exact two [62, 61] (by decide)
    · exact two [124, 124] (by decide)
/-! ### a text that grows -/
theorem toks_blanks {g u : List Nat} {a : Nat} {ts : List P} {r : Option Nat} (hg : ∀ c ∈ g, inS blks c = true) (h : Toks u (a + g.length) ts r) : Toks (g ++ u) a ts r := by
  induction g generalizing a with
  | nil => exact h
  | cons c g ih =>
    refine .blank (hg c List.mem_cons_self) (ih (fun d hd => hg d (List.mem_cons_of_mem _ hd)) ?_)
    rw [List.length_cons] at h
    rw [show a + 1 + g.length = a + (g.length + 1) by omega]
    exact h
theorem toks_tok {k : Str} {v : P} {w u : List Nat} {a : Nat} {ts : List P} {r : Option Nat} (d : Drawn k v w) (f : Free w u) (h : Toks u (a + w.length) ts r) : Toks (w ++ u) a (tokP k v a :: ts) r := by
  have e := d.read f
  obtain ⟨l0, _⟩ := d.len
  obtain ⟨c, w', rfl, hb⟩ := d.head
  refine .tok (n := (c :: w').length) hb e l0 (by show (c :: w').length ≤ (c :: (w' ++ u)).length; rw [List.length_cons, List.length_cons, List.length_append]; omega) ?_
  show Toks (List.drop (c :: w').length ((c :: w') ++ u)) (a + (c :: w').length) ts r
  rw [List.drop_left]
  exact h
/-- what is read of a text so far, whatever follows that may stand behind p -/
def Grown (p l : List Nat) (ts : List P) : Prop := ∀ (u : List Nat) (us : List P) (r : Option Nat), Free p u → Toks u l.length us r → Toks (l ++ u) 0 (ts ++ us) r
theorem grown_gap {g : List Nat} (hg : ∀ c ∈ g, inS blks c = true) (p : List Nat) : Grown p g [] := fun u us r _ h => toks_blanks hg (by rw [Nat.zero_add]; exact h)
theorem Grown.tok {p l g w : List Nat} {ts : List P} {k : Str} {v : P} (G : Grown p l ts) (d : Drawn k v w) (hg : ∀ c ∈ g, inS blks c = true) (hn : joinC p (w.head?.getD 0) = true → g ≠ []) :
    Grown w (l ++ g ++ w) (ts ++ [tokP k v (l ++ g).length]) := fun u us r f h => by
  rw [List.append_assoc, List.append_assoc, List.append_assoc]
  refine G (g ++ (w ++ u)) ([tokP k v (l ++ g).length] ++ us) r ?_ ?_
  · cases g with
    | nil =>
      obtain ⟨c, w', rfl, _⟩ := d.head
      intro x hx
      cases hx
      cases e : joinC p c with
      | false => rfl
      | true => exact absurd rfl (hn e)
    | cons c g => exact free_blank (hg c List.mem_cons_self)
  · refine toks_blanks hg ?_
    rw [← List.length_append]
    refine toks_tok d f ?_
    rw [← List.length_append]
    exact h
theorem Grown.blanks {p l g : List Nat} {ts : List P} (G : Grown p l ts) (hg : ∀ c ∈ g, inS blks c = true) : Toks (l ++ g) 0 ts none := by
  have z := G g [] none (by
    cases g with
    | nil => exact free_nil
    | cons c g => exact free_blank (hg c List.mem_cons_self)) (by
      have z := toks_blanks (u := []) (a := l.length) hg .nil
      rw [List.append_nil] at z
      exact z)
  rw [List.append_nil] at z
  exact z
/-- something strange behind a gap -/
theorem Grown.no {p l g s : List Nat} {ts : List P} (G : Grown p l ts) (hg : ∀ c ∈ g, inS blks c = true) (h0 : g ≠ []) (hs : ∃ c u, s = c :: u ∧ inS blks c = false) (e : tokR s = none) : Toks (l ++ g ++ s) 0 ts (some (l ++ g).length) := by
  obtain ⟨c, u, rfl, hb⟩ := hs
  have z := G (g ++ c :: u) [] (some (l ++ g).length) (by
    cases g with
    | nil => exact absurd rfl h0
    | cons c g => exact free_blank (hg c List.mem_cons_self)) (toks_blanks hg (by rw [← List.length_append]; exact .no hb e))
  rw [List.append_nil, ← List.append_assoc] at z
  exact z
/-- one token by itself -/
theorem toks_one {k : Str} {v : P} {w : List Nat} (d : Drawn k v w) : Toks w 0 [tokP k v 0] none := by
  have z := toks_tok (u := []) (a := 0) d free_nil .nil
  rw [List.append_nil] at z
  exact z
/-! ### what is no token -/
theorem no_par {w u : List Nat} (hw : ∀ d ∈ w, inS digs d = true) (hl : w.length = 0 ∨ 3 ≤ w.length) (fu : ∀ d, u.head? = some d → inS digs d = false) : tokR (36 :: (w ++ u)) = none := by
  have e1 : inS lets 36 = false := by decide +kernel
  have e2 : inS digs 36 = false := by decide +kernel
  show tokC _ _ = _
  unfold tokC
  rw [e1, if_neg (by decide), e2, if_neg (by decide), if_neg (by decide), if_pos rfl, run_all hw fu, if_neg (by omega)]
theorem no_int {w u : List Nat} (hw : ∀ d ∈ w, inS digs d = true) (hl : 30 < w.length) (fu : ∀ d, u.head? = some d → inS digs d = false) : tokR (w ++ u) = none := by
  cases w with
  | nil => simp at hl
  | cons c w =>
    have hc := hw c List.mem_cons_self
    obtain ⟨d1, d2, d3⟩ := digs_lets hc
    have e : run digs (c :: w ++ u) = c :: w := run_all hw fu
    rw [List.cons_append] at e ⊢
    show tokC _ _ = _
    unfold tokC
    rw [d1, if_neg (by decide), hc, if_pos rfl, e, if_pos hl]
theorem no_text {t u : List Nat} (hl : 2000 < t.length) (fu : ∀ d, u.head? = some d → d ≠ 39) : tokR (39 :: (esc t ++ 39 :: u)) = none := by
  have e1 : inS lets 39 = false := by decide +kernel
  have e2 : inS digs 39 = false := by decide +kernel
  show tokC _ _ = _
  unfold tokC
  rw [e1, if_neg (by decide), e2, if_neg (by decide), if_pos rfl, quo_esc fu]
  show (if 2000 < t.length then none else some (("text" : Str), P.str (S t), (esc t).length + 1 + 1)) = _
  rw [if_pos hl]
theorem no_end {c : Nat} (hc : c = 32 ∨ c = 99) : tokR [39, 97, 39, 39, 98, c] = none := by
  rcases hc with rfl | rfl <;> decide +kernel
theorem no_sign {c : Nat} {u : List Nat} (hc : c ∈ ("!\"#&:;?@ABCDEFGHIJKLMNOPQRSTUVWXYZ[\\]^_`{}~|" : Str).cps.toList) : tokR (c :: 32 :: u) = none := by
  have hh : ∀ c ∈ ("!\"#&:;?@ABCDEFGHIJKLMNOPQRSTUVWXYZ[\\]^_`{}~|" : Str).cps.toList, inS lets c = false ∧ inS digs c = false ∧ c ≠ 39 ∧ c ≠ 36 ∧ inS shorts c = false ∧ decide (S [c, 32] ∈ longs) = false := by decide +kernel
  obtain ⟨a1, a2, a3, a4, a5, a6⟩ := hh c hc
  show tokC _ _ = _
  unfold tokC
  rw [a1, if_neg (by decide), a2, if_neg (by decide), if_neg a3, if_neg a4, show (c :: 32 :: u).take 2 = [c, 32] from rfl, a6, if_neg (by decide), a5, if_neg (by decide)]
end Tz

/-! A call without arguments; what is drawn, gathered. -/
namespace Kb
open PySem PySem.Spec PyProof.Rows L2
section
variable {X : Cx} {CX : CXT} {k : Nat} {x : Str} {ps : List Str} {sp : Sp} {E : XK} {p pos : Pos}
theorem HasF.call0 (h : HasF X.prog X.w X.K X.mg X.base CX k x ps sp) (hr : Room k X.A) (hg : Gl X x) (hx : Passes CX X E) (hdb : (x == ("__debug__" : Str)) = false := by decide) :
    PE X (.Call (.Name x p) [] [] pos) (tCall sp [] E tNil) := by
  obtain ⟨f, fd, F, hm, hk, hb⟩ := h.ex
  exact pe_call0 F hr hg hm hk hb .nil hx hdb
end
/-- texts of one character, gathered -/
theorem gather {S : Nat → Prop} : ∀ {acc : List P}, (∀ p ∈ acc, ∃ d, p = .str (SX.S [d]) ∧ S d) → ∃ w : List Nat, acc = (w.map fun d => SX.S [d]).map P.str ∧ w.length = acc.length ∧ ∀ d ∈ w, S d
  | [], _ => ⟨[], rfl, rfl, fun _ h => by simp at h⟩
  | p :: acc, h => by
    obtain ⟨d, rfl, hd⟩ := h p List.mem_cons_self
    obtain ⟨w, rfl, e2, e3⟩ := gather fun q hq => h q (List.mem_cons_of_mem _ hq)
    refine ⟨d :: w, rfl, by simp, fun x hx => ?_⟩
    rcases List.mem_cons.mp hx with rfl | hx
    · exact hd
    · exact e3 x hx
end Kb

namespace Law
open PySem PySem.Spec PyProof.Rows L2 Kb
def topS (i : Nat) : Stmt := PySem.Challenge.pw_kithbase_k22_tokens_read_back.main.body.getD i (.Pass ⟨0, 0, 0, 0⟩)
-- the steps that are tried: k_clsL a side condition; k_subL one step; k_places steps as long as one fits
local macro_rules | `(tactic| k_clsL) => `(tactic| first | assumption | decide | omega)
local macro_rules | `(tactic| k_subL) => `(tactic| first
  | (with_reducible refine vs_seq ?_) | (with_reducible refine vs_asg ?_) | (with_reducible refine vg_name ?_) | (with_reducible refine vs_ret ?_) | (with_reducible refine vs_if ?_) | (with_reducible refine vs_next ?_) | (with_reducible refine vs_drop ?_)
  | (with_reducible refine vt_test ?_) | (with_reducible refine vt_B ?_) | (with_reducible refine vt_and ?_) | (with_reducible refine vt_or ?_) | (with_reducible refine vt_not ?_) | (with_reducible refine vt_truth ?_)
  | (with_reducible refine ve_op ?_) | (with_reducible refine ve_isi2 ?_) | ((with_reducible refine isi2_i (T := "tuple") ?hT ?hm ?hn ?_); (case hT => exact rfl); (case hm => decide); (case hn => decide)) | ((with_reducible refine isi2_i (T := "list") ?hT ?hm ?hn ?_); (case hT => exact rfl); (case hm => decide); (case hn => decide)) | ((with_reducible refine isi2_i (T := "int") ?hT ?hm ?hn ?_); (case hT => exact rfl); (case hm => decide); (case hn => decide)) | ((with_reducible refine isi2_i (T := "bool") ?hT ?hm ?hn ?_); (case hT => exact rfl); (case hm => decide); (case hn => decide)) | ((with_reducible refine isi2_i (T := "str") ?hT ?hm ?hn ?_); (case hT => exact rfl); (case hm => decide); (case hn => decide)) | ((with_reducible refine isi2_i (T := "NoneType") ?hT ?hm ?hn ?_); (case hT => exact rfl); (case hm => decide); (case hn => decide)) | (with_reducible refine ve_cb ?_) | (with_reducible refine va_cons ?_) | (with_reducible refine va_nil ?_) | (with_reducible refine ve_call ?_)
  | (with_reducible refine ve_int ?_) | (with_reducible refine ve_str ?_) | (with_reducible refine ve_bl ?_) | (with_reducible refine ve_non ?_) | (with_reducible refine ve_ty ?_)
  | (refine ve_var (by exact rfl) ?_)
  | (with_reducible refine ve_and ?_) | (with_reducible refine ve_or ?_) | (with_reducible refine ve_not ?_) | (with_reducible refine ve_chain ?_) | (with_reducible refine ve_un ?_) | (with_reducible refine ve_if ?_)
  | (with_reducible refine bool_ans ?_) | (with_reducible refine tru_bl ?_)
  | (with_reducible refine vc_intI ?_) | (with_reducible refine vc_intB ?_) | (with_reducible refine v2_addI ?_) | (with_reducible refine v2_sub ?_)
  | (with_reducible refine v2_lt ?_) | (with_reducible refine v2_le ?_) | (with_reducible refine v2_gt ?_) | (with_reducible refine v2_ge ?_)
  | (with_reducible refine v2_eqI ?_) | (with_reducible refine v2_eqS ?_) | (with_reducible refine v2_eqB ?_) | (with_reducible refine v2_neI ?_) | (with_reducible refine v2_neS ?_) | (with_reducible refine v2_neB ?_)
  | (with_reducible refine v2_isN ?_) | (with_reducible refine v2_notN ?_) | (with_reducible refine v2_isNU ?_) | ((with_reducible refine v2_isBl ?hx ?_); (case hx => exact rfl))
  | (with_reducible refine v2_addVI ?_) | (with_reducible refine v2_addWI ?_) | (with_reducible refine v2_ltI ?_) | (with_reducible refine v2_ltB ?_) | (with_reducible refine v2_ltS ?_)
  | ((with_reducible refine v2_divW ?hm ?_); case hm => (constructor <;> k_clsL))
  | ((with_reducible refine v2_mulU ?hm ?_); case hm => first | exact cmul_small (by k_clsL) (by k_clsL) | exact cmul_wide (by k_clsL) (by k_clsL))
  | ((with_reducible refine v2_mod ?hm ?_); case hm => k_clsL) | ((with_reducible refine v2_div ?hm ?_); case hm => (constructor <;> k_clsL))
  | ((with_reducible refine v2_mul ?hm ?_); case hm => first | exact cmul_small (by k_clsL) (by k_clsL) | exact cmul_wide (by k_clsL) (by k_clsL))
  | (with_reducible refine vc_abs ?_) | (with_reducible refine vc_min2 ?_) | (with_reducible refine vc_max2 ?_)
  | (with_reducible refine ve_tup ?_) | ((with_reducible refine tup_j ?hl ?_); (case hl => exact rfl))
  | ((with_reducible refine vc_isi (T := "tuple") ?hT ?hn ?_); (case hT => first | exact rfl | exact ⟨rfl, _, by first | assumption | simp⟩); (case hn => decide)) | ((with_reducible refine vc_isi (T := "list") ?hT ?hn ?_); (case hT => first | exact rfl | exact ⟨rfl, _, by first | assumption | simp⟩); (case hn => decide)) | ((with_reducible refine vc_isi (T := "int") ?hT ?hn ?_); (case hT => first | exact rfl | exact ⟨rfl, _, by first | assumption | simp⟩); (case hn => decide)) | ((with_reducible refine vc_isi (T := "bool") ?hT ?hn ?_); (case hT => first | exact rfl | exact ⟨rfl, _, by first | assumption | simp⟩); (case hn => decide)) | ((with_reducible refine vc_isi (T := "str") ?hT ?hn ?_); (case hT => first | exact rfl | exact ⟨rfl, _, by first | assumption | simp⟩); (case hn => decide)) | ((with_reducible refine vc_isi (T := "NoneType") ?hT ?hn ?_); (case hT => first | exact rfl | exact ⟨rfl, _, by first | assumption | simp⟩); (case hn => decide))
  | (with_reducible refine vc_lenL ?_) | (with_reducible refine vc_lenT ?_) | (with_reducible refine ite_nrefl ?_) | (with_reducible refine ite_refl ?_)
  | ((with_reducible refine ite_tt ?hc ?_); (case hc => first | decide | exact rfl)) | ((with_reducible refine ite_ff ?hc ?_); (case hc => first | decide | exact rfl))
  | (with_reducible refine v1_U ?_))
local macro_rules | `(tactic| k_places) => `(tactic| repeat k_subL)

section
variable {Pg : Program} {w : World} {K : PySem.W.Frag} {Θ : List Addr} {mg : Str → Option Value} {base : Heap}
/-- the state of the draws -/
def stO (ns : List Int) (a b c : Int) : OO := .lst [dL (ns.map P.int), dI a, dI b, dI c]
structure OkSt (ns : List Int) (a b c : Int) : Prop where
  len : ns.length ≤ 63
  a0 : 0 ≤ a
  al : a ≤ ns.length
  b0 : 0 ≤ b
  c0 : 0 ≤ c
  cl : c < 2147483647
theorem set_same {α : Type} {h : List α} {n : Nat} {o : α} (e : h[n]? = some o) : h.set n o = h := by
  refine List.ext_getElem? fun i => ?_
  by_cases hi : n = i
  · subst hi
    rw [List.getElem?_set_self (List.getElem?_eq_some_iff.mp e).1, e]
  · rw [List.getElem?_set_ne hi]
theorem get_set {α : Type} {h : List α} {n : Nat} {o u : α} (e : h[n]? = some o) : (h.set n u)[n]? = some u := List.getElem?_set_self (List.getElem?_eq_some_iff.mp e).1
abbrev st_next : Stmt := (topS 24)
theorem sc_next : FnScope ["state", "limit", "cell", "value"] ["state", "limit"] (defScope st_next) := ⟨rfl, rfl, rfl, by decide +kernel, rfl, by decide +kernel, by decide +kernel⟩
def W_next : Spc := fun ds h R => ∃ (n : Nat) (ns : List Int) (a b c limit : Int), ds = [.own n, dI limit] ∧ h[n]? = some (some (stO ns a b c)) ∧ OkSt ns a b c ∧ 0 < limit ∧ limit.natAbs.log2 < 9000 ∧
  ∀ v a' b' c' : Int, OkSt ns a' b' c' → 0 ≤ v → v < limit → R (dI v) (h.set n (some (stO ns a' b' c')))
theorem ok_next (A : DefAt K mg "_law_next" st_next ["state", "limit"]) (m_int : mg "int" = none) (m_len : mg "len" = none) : HasF Pg w K mg base CX0 1 "_law_next" ["state", "limit"] (spD K Θ W_next) := by
  have sc := sc_next
  refine A.okD sc W_next (fun ds h R ⟨_, _, _, _, _, _, e, _⟩ => by rw [e]; rfl) fun f cdv A outer s H E hr => ?_
  refine ⟨_, (pss_cons (ps_if (PW.pt (pw_and (pt_cmpR (op_eqUK (K := K) (by rfl) hr.units) (pe_ix (ix_seqK (K := K) (by rfl)) (pv 0) pe_int (fun _ _ => rfl)) pe_int (nomark _)) (pw_and1 (pt_cmpR op_lt (pe_ix (ix_seqK (K := K) (by rfl)) (pv 0) pe_int (fun _ _ => rfl)) (pe_callB (call_lenK (K := K) (by rfl)) (by rfl) m_len (by decide +kernel) (pa_cons (pe_ix (ix_seqK (K := K) (by rfl)) (pv 0) pe_int (fun _ _ => rfl)) pa_nil)) (nomark _))))) (pss_cons (ps_set (i := 2) sc.nd rfl (.inl rfl) (pe_ix (ix_seqK (K := K) (by rfl)) (pe_ix (ix_seqK (K := K) (by rfl)) (pv 0) pe_int (fun _ _ => rfl)) (pe_ix (ix_seqK (K := K) (by rfl)) (pv 0) pe_int (fun _ _ => rfl)) (fun _ _ => rfl)))
  (pss_cons (ps_augS (pv 0) pe_int (pget_listK (K := K) (by rfl)) pe_int ip_add set_list)
  (pss_one (ps_if (pt_cmpR op_ge (pv 2) (pe_op op_pow pe_int pe_int) (nomark _)) (pss_one (ps_asg (pv 2) (pg_sub (pv 0) pe_int set_list))) (pss_one (ps_asg (pe_op op_mod (pe_callTy call_intU (by rfl) m_int (by decide +kernel) (pa_cons (pe_op (op_addWK (K := K) (by rfl)) (pe_op (op_addWK (K := K) (by rfl)) (pe_op op_mulU (pe_ix (ix_seqK (K := K) (by rfl)) (pv 0) pe_int (fun _ _ => rfl)) pe_int) (pe_op op_mod (pe_callTy call_intU (by rfl) m_int (by decide +kernel) (pa_cons (pv 2) pa_nil)) pe_int)) pe_int) pa_nil)) pe_int) (pg_sub (pv 0) pe_int set_list))))))) pss_nil)
  (pss_cons (ps_if (pt_cmpR op_gt (pe_ix (ix_seqK (K := K) (by rfl)) (pv 0) pe_int (fun _ _ => rfl)) pe_int (nomark _)) (pss_cons (ps_set (i := 3) sc.nd rfl (.inl rfl) (pe_op op_mod (pe_callTy call_intU (by rfl) m_int (by decide +kernel) (pa_cons (pe_ix (ix_seqK (K := K) (by rfl)) (pv 0) pe_int (fun _ _ => rfl)) pa_nil)) (pv 1)))
  (pss_cons (ps_asg (pe_op op_fdivW (pe_ix (ix_seqK (K := K) (by rfl)) (pv 0) pe_int (fun _ _ => rfl)) (pv 1)) (pg_sub (pv 0) pe_int set_list))
  (pss_one (ps_ret (pv 3))))) pss_nil)
  (pss_cons (ps_asg (pe_op op_mod (pe_callTy call_intU (by rfl) m_int (by decide +kernel) (pa_cons (pe_op (op_addWK (K := K) (by rfl)) (pe_op op_mulU (pe_ix (ix_seqK (K := K) (by rfl)) (pv 0) pe_int (fun _ _ => rfl)) pe_int) pe_int) pa_nil)) pe_int) (pg_sub (pv 0) pe_int set_list))
  (pss_one (ps_ret (pe_op op_mod (pe_callTy call_intU (by rfl) m_int (by decide +kernel) (pa_cons (pe_op op_fdivW (pe_ix (ix_seqK (K := K) (by rfl)) (pv 0) pe_int (fun _ _ => rfl)) pe_int) pa_nil)) (pv 1))))))), ?_⟩
  try dsimp only [cxOf]
  rintro ds h R ⟨n, ns, a, b, c, limit, rfl, hn, ok, hl0, hl, q⟩
  obtain ⟨hlen, a0, al, b0, c0, cl⟩ := ok
  refine vs_cut (fun env' h' => ∃ (a b c : Int) (o2 o3 : Option D), env' = [some (.own n), some (dI limit), o2, o3] ∧ h' = h.set n (some (stO ns a b c)) ∧ OkSt ns a b c) ?_ ?_
  · have stay : ∃ (a b c : Int) (o2 o3 : Option D), startD ["state", "limit", "cell", "value"] [.own n, dI limit] = [some (.own n), some (dI limit), o2, o3] ∧ h = h.set n (some (stO ns a b c)) ∧ OkSt ns a b c :=
      ⟨a, b, c, none, none, rfl, (set_same hn).symm, hlen, a0, al, b0, c0, cl⟩
    k_places
    refine v2_ixO hn rfl ?_
    k_places
    refine ite_dec (fun e1 => ?_) (fun e1 => ?_)
    · k_places
      refine v2_ixO hn rfl ?_
      k_places
      refine v2_ixO hn rfl ?_
      k_places
      rw [List.length_map]
      refine ite_dec (fun e2 => ?_) (fun e2 => ?_)
      · k_places
        refine v2_ixO hn rfl ?_
        k_places
        refine v2_ixO hn rfl ?_
        have hi : a.toNat < ns.length := by omega
        refine v2_ixL (at_nat a.toNat (by omega) (by rw [List.getElem?_map, List.getElem?_eq_getElem hi]; rfl)) ?_
        k_places
        refine vs_augS ?_
        k_places
        refine ⟨n, 1, _, 1, dI a, rfl, rfl, hn, rfl, rfl, ?_⟩
        k_places
        refine ⟨rfl, v2_ip (g := fun i j => i + j) ⟨rfl, ?_⟩⟩
        have hn2 := get_set (u := some (stO ns (a + 1) b c)) hn
        k_places
        refine v2_pow (by decide) ?_
        k_places
        refine ite_dec (fun e3 => ?_) (fun e3 => ?_)
        · k_places
          refine vg_sub ?_
          k_places
          refine ⟨n, 2, _, 2, rfl, rfl, hn2, rfl, ?_⟩
          refine ⟨a + 1, ns[a.toNat], c, _, _, rfl, List.set_set _, hlen, by omega, by omega, ?_, c0, cl⟩
          have e4 : (10 : Int) ^ (18 : Int).toNat = 1000000000000000000 := rfl
          rw [e4] at e3
          omega
        · k_places
          refine v2_ixO hn2 rfl ?_
          k_places
          refine vg_sub ?_
          k_places
          refine ⟨n, 3, _, 3, rfl, rfl, hn2, rfl, ?_⟩
          refine ⟨a + 1, b, _, _, _, rfl, List.set_set _, hlen, by omega, by omega, b0, ?_, ?_⟩
          · exact Int.emod_nonneg _ (by decide)
          · exact Int.emod_lt_of_pos _ (by decide)
      · k_places
        exact stay
    · k_places
      exact stay
  · rintro env' h' ⟨a, b, c, o2, o3, rfl, rfl, ok⟩
    obtain ⟨hlen, a0, al, b0, c0, cl⟩ := ok
    have hn2 := get_set (u := some (stO ns a b c)) hn
    k_places
    refine v2_ixO hn2 rfl ?_
    k_places
    refine ite_dec (fun e1 => ?_) (fun e1 => ?_)
    · k_places
      refine v2_ixO hn2 rfl ?_
      k_places
      refine v2_ixO hn2 rfl ?_
      k_places
      refine vg_sub ?_
      k_places
      refine ⟨n, 2, _, 2, rfl, rfl, hn2, rfl, ?_⟩
      k_places
      rw [List.set_set]
      exact q _ _ _ _ ⟨hlen, a0, al, Int.ediv_nonneg b0 (by omega), c0, cl⟩ (Int.emod_nonneg _ (by omega)) (Int.emod_lt_of_pos _ hl0)
    · k_places
      refine v2_ixO hn2 rfl ?_
      k_places
      refine vg_sub ?_
      k_places
      refine ⟨n, 3, _, 3, rfl, rfl, hn2, rfl, ?_⟩
      have hn3 := get_set (u := some (stO ns a b ((c * 69621 + 12345) % 2147483647))) hn
      rw [List.set_set]
      k_places
      refine v2_ixO hn3 rfl ?_
      k_places
      exact q _ _ _ _ ⟨hlen, a0, al, b0, Int.emod_nonneg _ (by decide), Int.emod_lt_of_pos _ (by decide)⟩ (Int.emod_nonneg _ (by omega)) (Int.emod_lt_of_pos _ hl0)
end
end Law

namespace Law
open PySem PySem.Spec PyProof.Rows L2 Kb
-- the steps that are tried: k_clsL a side condition; k_subL one step; k_places steps as long as one fits
local macro_rules | `(tactic| k_clsL) => `(tactic| first | assumption | decide | omega)
local macro_rules | `(tactic| k_subL) => `(tactic| first
  | (with_reducible refine vs_seq ?_) | (with_reducible refine vs_asg ?_) | (with_reducible refine vg_name ?_) | (with_reducible refine vs_ret ?_) | (with_reducible refine vs_if ?_) | (with_reducible refine vs_next ?_) | (with_reducible refine vs_drop ?_)
  | (with_reducible refine vt_test ?_) | (with_reducible refine vt_B ?_) | (with_reducible refine vt_and ?_) | (with_reducible refine vt_or ?_) | (with_reducible refine vt_not ?_) | (with_reducible refine vt_truth ?_)
  | (with_reducible refine ve_op ?_) | (with_reducible refine ve_isi2 ?_) | ((with_reducible refine isi2_i (T := "tuple") ?hT ?hm ?hn ?_); (case hT => exact rfl); (case hm => decide); (case hn => decide)) | ((with_reducible refine isi2_i (T := "list") ?hT ?hm ?hn ?_); (case hT => exact rfl); (case hm => decide); (case hn => decide)) | ((with_reducible refine isi2_i (T := "int") ?hT ?hm ?hn ?_); (case hT => exact rfl); (case hm => decide); (case hn => decide)) | ((with_reducible refine isi2_i (T := "bool") ?hT ?hm ?hn ?_); (case hT => exact rfl); (case hm => decide); (case hn => decide)) | ((with_reducible refine isi2_i (T := "str") ?hT ?hm ?hn ?_); (case hT => exact rfl); (case hm => decide); (case hn => decide)) | ((with_reducible refine isi2_i (T := "NoneType") ?hT ?hm ?hn ?_); (case hT => exact rfl); (case hm => decide); (case hn => decide)) | (with_reducible refine ve_cb ?_) | (with_reducible refine va_cons ?_) | (with_reducible refine va_nil ?_) | (with_reducible refine ve_call ?_)
  | (with_reducible refine ve_int ?_) | (with_reducible refine ve_str ?_) | (with_reducible refine ve_bl ?_) | (with_reducible refine ve_non ?_) | (with_reducible refine ve_ty ?_)
  | (refine ve_var (by exact rfl) ?_)
  | (with_reducible refine ve_and ?_) | (with_reducible refine ve_or ?_) | (with_reducible refine ve_not ?_) | (with_reducible refine ve_chain ?_) | (with_reducible refine ve_un ?_) | (with_reducible refine ve_if ?_)
  | (with_reducible refine bool_ans ?_) | (with_reducible refine tru_bl ?_)
  | (with_reducible refine vc_intI ?_) | (with_reducible refine vc_intB ?_) | (with_reducible refine v2_addI ?_) | (with_reducible refine v2_sub ?_)
  | (with_reducible refine v2_lt ?_) | (with_reducible refine v2_le ?_) | (with_reducible refine v2_gt ?_) | (with_reducible refine v2_ge ?_)
  | (with_reducible refine v2_eqI ?_) | (with_reducible refine v2_eqS ?_) | (with_reducible refine v2_eqB ?_) | (with_reducible refine v2_neI ?_) | (with_reducible refine v2_neS ?_) | (with_reducible refine v2_neB ?_)
  | (with_reducible refine v2_isN ?_) | (with_reducible refine v2_notN ?_) | (with_reducible refine v2_isNU ?_) | ((with_reducible refine v2_isBl ?hx ?_); (case hx => exact rfl))
  | (with_reducible refine v2_addVI ?_) | (with_reducible refine v2_addWI ?_) | (with_reducible refine v2_ltI ?_) | (with_reducible refine v2_ltB ?_) | (with_reducible refine v2_ltS ?_)
  | ((with_reducible refine v2_divW ?hm ?_); case hm => (constructor <;> k_clsL))
  | ((with_reducible refine v2_mulU ?hm ?_); case hm => first | exact cmul_small (by k_clsL) (by k_clsL) | exact cmul_wide (by k_clsL) (by k_clsL))
  | ((with_reducible refine v2_mod ?hm ?_); case hm => k_clsL) | ((with_reducible refine v2_div ?hm ?_); case hm => (constructor <;> k_clsL))
  | ((with_reducible refine v2_mul ?hm ?_); case hm => first | exact cmul_small (by k_clsL) (by k_clsL) | exact cmul_wide (by k_clsL) (by k_clsL))
  | (with_reducible refine vc_abs ?_) | (with_reducible refine vc_min2 ?_) | (with_reducible refine vc_max2 ?_)
  | (with_reducible refine ve_tup ?_) | ((with_reducible refine tup_j ?hl ?_); (case hl => exact rfl))
  | ((with_reducible refine vc_isi (T := "tuple") ?hT ?hn ?_); (case hT => first | exact rfl | exact ⟨rfl, _, by first | assumption | simp⟩); (case hn => decide)) | ((with_reducible refine vc_isi (T := "list") ?hT ?hn ?_); (case hT => first | exact rfl | exact ⟨rfl, _, by first | assumption | simp⟩); (case hn => decide)) | ((with_reducible refine vc_isi (T := "int") ?hT ?hn ?_); (case hT => first | exact rfl | exact ⟨rfl, _, by first | assumption | simp⟩); (case hn => decide)) | ((with_reducible refine vc_isi (T := "bool") ?hT ?hn ?_); (case hT => first | exact rfl | exact ⟨rfl, _, by first | assumption | simp⟩); (case hn => decide)) | ((with_reducible refine vc_isi (T := "str") ?hT ?hn ?_); (case hT => first | exact rfl | exact ⟨rfl, _, by first | assumption | simp⟩); (case hn => decide)) | ((with_reducible refine vc_isi (T := "NoneType") ?hT ?hn ?_); (case hT => first | exact rfl | exact ⟨rfl, _, by first | assumption | simp⟩); (case hn => decide))
  | (with_reducible refine vc_lenL ?_) | (with_reducible refine vc_lenT ?_) | (with_reducible refine ite_nrefl ?_) | (with_reducible refine ite_refl ?_)
  | ((with_reducible refine ite_tt ?hc ?_); (case hc => first | decide | exact rfl)) | ((with_reducible refine ite_ff ?hc ?_); (case hc => first | decide | exact rfl))
  | (with_reducible refine v1_U ?_))
local macro_rules | `(tactic| k_places) => `(tactic| repeat k_subL)

section
variable {Pg : Program} {w : World} {K : PySem.W.Frag} {Θ : List Addr} {mg : Str → Option Value} {base : Heap}
/-- characters that a text may have -/
def CharOk (c : Nat) : Prop := (c = 10 ∨ (32 ≤ c ∧ c ≤ 126)) ∧ c ≠ 37
instance (c : Nat) : Decidable (CharOk c) := by unfold CharOk; infer_instance
theorem v2_char {z : Str} {i : Int} {h : Hs} {R : D → Hs → Prop} (hl : z.length ≤ sizeLine) (hz : z.cps.toList.length = 95) (hc : ∀ c ∈ z.cps.toList, CharOk c) (q : ∀ c, CharOk c → R (dS ⟨#[c]⟩) h) : V2 K Θ (rIx K) (dS z) (dI (i % 95)) h R := by
  have i0 := Int.emod_nonneg i (show (95 : Int) ≠ 0 by decide)
  have i1 := Int.emod_lt_of_pos i (show (0 : Int) < 95 by decide)
  have hi : (i % 95).toNat < z.cps.toList.length := by rw [hz]; omega
  exact v2_ixS hl (at_nat (i % 95).toNat (by omega) (List.getElem?_eq_getElem hi)) (q _ (hc _ (List.getElem_mem hi)))
abbrev st_char : Stmt := (topS 28)
theorem sc_char : FnScope ["index", "chars"] ["index"] (defScope st_char) := ⟨rfl, rfl, rfl, by decide +kernel, rfl, by decide +kernel, by decide +kernel⟩
def W_char : Spc := fun ds h R => ∃ i : Int, ds = [dI i] ∧ ∀ c : Nat, CharOk c → R (dS ⟨#[c]⟩) h
theorem ok_char (A : DefAt K mg "_law_char" st_char ["index"]) (m_int : mg "int" = none) : HasF Pg w K mg base CX0 1 "_law_char" ["index"] (spD K Θ W_char) := by
  have sc := sc_char
  refine A.okD sc W_char (fun ds h R ⟨_, e, _⟩ => by rw [e]; rfl) fun f cdv A outer s H E hr => ?_
  refine ⟨_, (pss_cons (ps_set (i := 1) sc.nd rfl (.inl rfl) pe_str)
  (pss_cons (ps_set (i := 1) sc.nd rfl (.inl rfl) (pe_op (op_addWK (K := K) (by rfl)) (pv 1) pe_str))
  (pss_one (ps_ret (pe_ix (ix_seqK (K := K) (by rfl)) (pv 1) (pe_op op_mod (pe_callTy call_intU (by rfl) m_int (by decide +kernel) (pa_cons (pv 0) pa_nil)) pe_int) (fun _ _ => rfl)))))), ?_⟩
  try dsimp only [cxOf]
  rintro ds h R ⟨i, rfl, q⟩
  k_places
  refine v2_addWS (by decide +kernel) ?_
  k_places
  refine v2_char ?_ ?_ ?_ q <;> decide +kernel
/-- the same, the kinds of all parts the same -/
noncomputable def eqB (a b : P) : Bool := @decide (a = b) (Classical.propDecidable _)
theorem eqB_ne {a b : P} (h : a ≠ b) : eqB a b = false := @decide_eq_false _ (Classical.propDecidable _) h
theorem eqB_eq {a b : P} (h : a = b) : eqB a b = true := @decide_eq_true _ (Classical.propDecidable _) h
theorem eqB_iff {a b : P} : eqB a b = true ↔ a = b := ⟨fun h => @of_decide_eq_true _ (Classical.propDecidable _) h, eqB_eq⟩
theorem eqB_of {a b : P} {c : Bool} (h : a = b ↔ c = true) : eqB a b = c := by
  cases c with
  | true => exact eqB_eq (h.mpr rfl)
  | false => exact eqB_ne fun z => Bool.noConfusion (h.mp z)
theorem eqB_bl {x y : Bool} : eqB (.bl x) (.bl y) = decide (x = y) := eqB_of ⟨fun e => decide_eq_true (P.bl.inj e), fun e => congrArg P.bl (of_decide_eq_true e)⟩
theorem eqB_int {x y : Int} : eqB (.int x) (.int y) = decide (x = y) := eqB_of ⟨fun e => decide_eq_true (P.int.inj e), fun e => congrArg P.int (of_decide_eq_true e)⟩
theorem eqB_str {x y : Str} : eqB (.str x) (.str y) = decide (x = y) := eqB_of ⟨fun e => decide_eq_true (P.str.inj e), fun e => congrArg P.str (of_decide_eq_true e)⟩
theorem plainPs_mem : ∀ {xs : List P}, plainP.plainPs xs = true → ∀ x ∈ xs, plainP x = true
  | [], _, x, hx => by simp at hx
  | y :: ys, h, x, hx => by
    unfold plainP.plainPs at h
    rw [Bool.and_eq_true] at h
    rcases List.mem_cons.mp hx with rfl | hx
    · exact h.1
    · exact plainPs_mem h.2 x hx
end
end Law

namespace Law
open PySem PySem.Spec PyProof.Rows L2 Kb TL
-- the steps that are tried: k_clsL a side condition; k_subL one step; k_places steps as long as one fits
local macro_rules | `(tactic| k_clsL) => `(tactic| first | assumption | decide | omega)
local macro_rules | `(tactic| k_subL) => `(tactic| first
  | (with_reducible refine vs_seq ?_) | (with_reducible refine vs_asg ?_) | (with_reducible refine vg_name ?_) | (with_reducible refine vs_ret ?_) | (with_reducible refine vs_if ?_) | (with_reducible refine vs_next ?_) | (with_reducible refine vs_drop ?_)
  | (with_reducible refine vt_test ?_) | (with_reducible refine vt_B ?_) | (with_reducible refine vt_and ?_) | (with_reducible refine vt_or ?_) | (with_reducible refine vt_not ?_) | (with_reducible refine vt_truth ?_)
  | (with_reducible refine ve_op ?_) | (with_reducible refine ve_isi2 ?_) | ((with_reducible refine isi2_i (T := "tuple") ?hT ?hm ?hn ?_); (case hT => exact rfl); (case hm => decide); (case hn => decide)) | ((with_reducible refine isi2_i (T := "list") ?hT ?hm ?hn ?_); (case hT => exact rfl); (case hm => decide); (case hn => decide)) | ((with_reducible refine isi2_i (T := "int") ?hT ?hm ?hn ?_); (case hT => exact rfl); (case hm => decide); (case hn => decide)) | ((with_reducible refine isi2_i (T := "bool") ?hT ?hm ?hn ?_); (case hT => exact rfl); (case hm => decide); (case hn => decide)) | ((with_reducible refine isi2_i (T := "str") ?hT ?hm ?hn ?_); (case hT => exact rfl); (case hm => decide); (case hn => decide)) | ((with_reducible refine isi2_i (T := "NoneType") ?hT ?hm ?hn ?_); (case hT => exact rfl); (case hm => decide); (case hn => decide)) | (with_reducible refine ve_cb ?_) | (with_reducible refine va_cons ?_) | (with_reducible refine va_nil ?_) | (with_reducible refine ve_call ?_)
  | (with_reducible refine ve_int ?_) | (with_reducible refine ve_str ?_) | (with_reducible refine ve_bl ?_) | (with_reducible refine ve_non ?_) | (with_reducible refine ve_ty ?_)
  | (refine ve_var (by exact rfl) ?_)
  | (with_reducible refine ve_and ?_) | (with_reducible refine ve_or ?_) | (with_reducible refine ve_not ?_) | (with_reducible refine ve_chain ?_) | (with_reducible refine ve_un ?_) | (with_reducible refine ve_if ?_)
  | (with_reducible refine bool_ans ?_) | (with_reducible refine tru_bl ?_)
  | (with_reducible refine vc_intI ?_) | (with_reducible refine vc_intB ?_) | (with_reducible refine v2_addI ?_) | (with_reducible refine v2_sub ?_)
  | (with_reducible refine v2_lt ?_) | (with_reducible refine v2_le ?_) | (with_reducible refine v2_gt ?_) | (with_reducible refine v2_ge ?_)
  | (with_reducible refine v2_eqI ?_) | (with_reducible refine v2_eqS ?_) | (with_reducible refine v2_eqB ?_) | (with_reducible refine v2_neI ?_) | (with_reducible refine v2_neS ?_) | (with_reducible refine v2_neB ?_)
  | (with_reducible refine v2_isN ?_) | (with_reducible refine v2_notN ?_) | (with_reducible refine v2_isNU ?_) | ((with_reducible refine v2_isBl ?hx ?_); (case hx => exact rfl))
  | (with_reducible refine v2_addVI ?_) | (with_reducible refine v2_addWI ?_) | (with_reducible refine v2_ltI ?_) | (with_reducible refine v2_ltB ?_) | (with_reducible refine v2_ltS ?_)
  | ((with_reducible refine v2_divW ?hm ?_); case hm => (constructor <;> k_clsL))
  | ((with_reducible refine v2_mulU ?hm ?_); case hm => first | exact cmul_small (by k_clsL) (by k_clsL) | exact cmul_wide (by k_clsL) (by k_clsL))
  | ((with_reducible refine v2_mod ?hm ?_); case hm => k_clsL) | ((with_reducible refine v2_div ?hm ?_); case hm => (constructor <;> k_clsL))
  | ((with_reducible refine v2_mul ?hm ?_); case hm => first | exact cmul_small (by k_clsL) (by k_clsL) | exact cmul_wide (by k_clsL) (by k_clsL))
  | (with_reducible refine vc_abs ?_) | (with_reducible refine vc_min2 ?_) | (with_reducible refine vc_max2 ?_)
  | (with_reducible refine ve_tup ?_) | ((with_reducible refine tup_j ?hl ?_); (case hl => exact rfl))
  | ((with_reducible refine vc_isi (T := "tuple") ?hT ?hn ?_); (case hT => first | exact rfl | exact ⟨rfl, _, by first | assumption | simp⟩); (case hn => decide)) | ((with_reducible refine vc_isi (T := "list") ?hT ?hn ?_); (case hT => first | exact rfl | exact ⟨rfl, _, by first | assumption | simp⟩); (case hn => decide)) | ((with_reducible refine vc_isi (T := "int") ?hT ?hn ?_); (case hT => first | exact rfl | exact ⟨rfl, _, by first | assumption | simp⟩); (case hn => decide)) | ((with_reducible refine vc_isi (T := "bool") ?hT ?hn ?_); (case hT => first | exact rfl | exact ⟨rfl, _, by first | assumption | simp⟩); (case hn => decide)) | ((with_reducible refine vc_isi (T := "str") ?hT ?hn ?_); (case hT => first | exact rfl | exact ⟨rfl, _, by first | assumption | simp⟩); (case hn => decide)) | ((with_reducible refine vc_isi (T := "NoneType") ?hT ?hn ?_); (case hT => first | exact rfl | exact ⟨rfl, _, by first | assumption | simp⟩); (case hn => decide))
  | (with_reducible refine vc_lenL ?_) | (with_reducible refine vc_lenT ?_) | (with_reducible refine ite_nrefl ?_) | (with_reducible refine ite_refl ?_)
  | ((with_reducible refine ite_tt ?hc ?_); (case hc => first | decide | exact rfl)) | ((with_reducible refine ite_ff ?hc ?_); (case hc => first | decide | exact rfl))
  | (with_reducible refine v1_U ?_))
local macro_rules | `(tactic| k_places) => `(tactic| repeat k_subL)

section
variable {Pg : Program} {w : World} {K : PySem.W.Frag} {Θ : List Addr} {mg : Str → Option Value} {base : Heap}
/-- texts that are drawn -/
structure TextOk (s : Str) (m : Nat) : Prop where
  len : s.length ≤ m
  ok : ∀ c ∈ s.cps.toList, CharOk c
theorem stO_low {n : Nat} {ns : List Int} {a b c : Int} : lowO n (stO ns a b c) := fun x hx => by
  simp only [List.mem_cons, List.mem_nil_iff, or_false] at hx
  rcases hx with rfl | rfl | rfl | rfl <;> trivial
theorem joinL_nil : ∀ ps : List (List Nat), joinL [] ps = ps.flatten
  | [] => rfl
  | [p] => by simp [joinL]
  | p :: q :: r => by rw [joinL, joinL_nil (q :: r)]; simp
theorem join_chars : ∀ cs : List Nat, (Txt.join (Str.ofString "") (cs.map fun c => (⟨#[c]⟩ : Str))).cps.toList = cs := fun cs => by
  rw [join_eq]
  have e := tl_join (Str.ofString "") (cs.map fun c => (⟨#[c]⟩ : Str))
  have e0 : tl (Str.ofString "") = [] := by decide +kernel
  rw [e0, joinL_nil, List.map_map] at e
  refine e.trans ?_
  induction cs with
  | nil => rfl
  | cons c cs ih =>
    have e' := tl_join (Str.ofString "") (cs.map fun c => (⟨#[c]⟩ : Str))
    rw [e0, joinL_nil, List.map_map] at e'
    rw [List.map_cons, List.flatten_cons, ih e']
    rfl
theorem sum_ones : ∀ cs : List Nat, (cs.map fun _ => 1).sum = cs.length
  | [] => rfl
  | c :: cs => by rw [List.map_cons, List.sum_cons, sum_ones cs, List.length_cons]; omega
theorem app_get {h : Hs} {n : Nat} {o : OO} {x : Option OO} (e : h[n]? = some (some o)) : (h ++ [x])[n]? = some (some o) := by
  rw [List.getElem?_append_left (List.getElem?_eq_some_iff.mp e).1]; exact e
theorem app_set {h : Hs} {n : Nat} {o : OO} {x u : Option OO} (e : h[n]? = some (some o)) : (h ++ [x]).set n u = h.set n u ++ [x] := List.set_append_left _ _ (List.getElem?_eq_some_iff.mp e).1
/-- ''.join([_law_char(_law_next(state, 95)) for k in range(_law_next(state, lim))]) -/
theorem ve_text {sl kk n : Nat} {lim : Int} {E1 E2 E3 : XK} {env : Env'} {h : Hs} {R : D → Hs → Prop} {ns : List Int} {a b c : Int} (hsl : env[sl]? = some (some (.own n))) (hne : kk ≠ sl) (hn : h[n]? = some (some (stO ns a b c))) (ok : OkSt ns a b c) (h0 : 0 < lim) (h1 : lim ≤ 1000)
    (q : ∀ (s : Str) (a' b' c' : Int), OkSt ns a' b' c' → TextOk s (lim - 1).toNat → R (dS s) (h.set n (some (stO ns a' b' c')))) :
    VE K Θ (tBM K "str" (fun x xs H Q => ∃ a p, ∃ ys : List Str, x = V.str a ∧ xs = [V.ref p] ∧ (SqL K H p (ys.map V.str) ∨ SqT K H p (ys.map V.str)) ∧ (ys.map (·.length)).sum + ys.length * a.length ≤ 16777216 ∧ Q (.str (Txt.join a ys)) H) (tC (.str (Str.ofString "")))
      (tCons (tLc (iRng1 (tCons (tCall (spD K Θ W_next) [] E1 (tCons (tVar sl) (tCons (tC (.int lim)) tNil))) tNil)) (gName kk) tYes (tCall (spD K Θ W_char) [] E2 (tCons (tCall (spD K Θ W_next) [] E3 (tCons (tVar sl) (tCons (tC (.int 95)) tNil))) tNil)) [kk]) tNil)) env h R := by
  refine ve_bm (ve_str ⟨rfl, va_cons ?_⟩)
  refine ve_lcI tg_name ?_
  refine vi_range1 (va_cons (ve_call (va_cons (ve_var hsl (va_cons (ve_int (va_nil ?_)))))))
  refine ⟨n, ns, a, b, c, lim, rfl, hn, ok, h0, Nat.lt_trans (log2_small (n := lim.natAbs) (by omega)) (by decide), fun v a1 b1 c1 ok1 v0 v1 => va_nil ?_⟩
  refine ⟨v, rfl, by omega, by omega, ?_⟩
  refine ⟨fun i acc h' => ∃ (cs : List Nat) (a b c : Int), acc = (cs.map fun c => (⟨#[c]⟩ : Str)).map P.str ∧ cs.length = i ∧ (∀ c ∈ cs, CharOk c) ∧ h' = h.set n (some (stO ns a b c)) ∧ OkSt ns a b c, ?_, ?_, ?_, ?_, ?_⟩
  · rw [rng_len]; have e := sizeLine_eq; omega
  · exact ⟨[], a1, b1, c1, rfl, rfl, fun _ z => by simp at z, rfl, ok1⟩
  · rintro i acc h' ⟨cs, a2, b2, c2, rfl, hl, hc, rfl, ok2⟩
    refine ⟨by simp, ?_, trivial⟩
    have z := (lowH.refl (h.set n (some (stO ns a1 b1 c1)))).set (n := n) (o := stO ns a2 b2 c2) stO_low
    rw [List.set_set] at z
    exact z
  · rintro i d acc h' hd ⟨cs, a2, b2, c2, rfl, hl, hc, rfl, ok2⟩
    refine vg_name (vt_yes (ite_t ?_))
    refine ve_call (va_cons (ve_call (va_cons (ve_var (d := .own n) ?_ (va_cons (ve_int (va_nil ?_)))))))
    · show (((env.set kk none).set kk (some d))[sl]?) = _
      rw [List.getElem?_set_ne hne, List.getElem?_set_ne hne]
      exact hsl
    · have hn2 := get_set (u := some (stO ns a2 b2 c2)) hn
      refine ⟨n, ns, a2, b2, c2, 95, rfl, app_get hn2, ok2, by decide, by decide, fun v3 a3 b3 c3 ok3 _ _ => va_nil ⟨v3, rfl, fun ch hch => ?_⟩⟩
      refine ⟨_, h.set n (some (stO ns a3 b3 c3)), rfl, ?_, cs ++ [ch], a3, b3, c3, by simp, by simp [hl], ?_, rfl, ok3⟩
      · rw [app_set hn2, List.set_set]
      · intro x hx
        rcases List.mem_append.mp hx with hx | hx
        · exact hc x hx
        · rw [List.mem_singleton.mp hx]; exact hch
  · rintro acc h' ⟨cs, a2, b2, c2, rfl, hl, hc, rfl, ok2⟩
    rw [rng_len] at hl
    refine va_nil (vm_join ?_ (q _ a2 b2 c2 ok2 ⟨?_, ?_⟩))
    · have e1 : ((cs.map fun c => (⟨#[c]⟩ : Str)).map (·.length)).sum = cs.length := by
        rw [List.map_map]
        have : ((fun s : Str => s.length) ∘ fun c : Nat => (⟨#[c]⟩ : Str)) = fun _ => 1 := rfl
        rw [this]
        exact sum_ones cs
      have e2 : (Str.ofString "").length = 0 := by decide +kernel
      rw [e1, e2, Nat.mul_zero]
      omega
    · have e := join_chars cs
      show (Txt.join (Str.ofString "") (cs.map fun c => (⟨#[c]⟩ : Str))).cps.size ≤ _
      rw [← Array.length_toList, e]
      omega
    · rw [join_chars]
      exact hc
/-- a draw, the heap told from its beginning -/
theorem next_i {n : Nat} {ns : List Int} {a b c limit : Int} {h0 : Hs} {R : D → Hs → Prop} (hl : n < h0.length) (ok : OkSt ns a b c) (p0 : 0 < limit) (p1 : limit.natAbs.log2 < 9000)
    (q : ∀ v a' b' c' : Int, OkSt ns a' b' c' → 0 ≤ v → v < limit → R (dI v) (h0.set n (some (stO ns a' b' c')))) : W_next [.own n, dI limit] (h0.set n (some (stO ns a b c))) R :=
  ⟨n, ns, a, b, c, limit, rfl, List.getElem?_set_self hl, ok, p0, p1, fun v a' b' c' ok' v0 v1 => by rw [List.set_set]; exact q v a' b' c' ok' v0 v1⟩
theorem text_i {sl kk n : Nat} {lim : Int} {E1 E2 E3 : XK} {env : Env'} {h0 : Hs} {R : D → Hs → Prop} {ns : List Int} {a b c : Int} (hl : n < h0.length) (hsl : env[sl]? = some (some (.own n))) (hne : kk ≠ sl) (ok : OkSt ns a b c) (p0 : 0 < lim) (p1 : lim ≤ 1000)
    (q : ∀ (s : Str) (a' b' c' : Int), OkSt ns a' b' c' → TextOk s (lim - 1).toNat → R (dS s) (h0.set n (some (stO ns a' b' c')))) :
    VE K Θ (tBM K "str" (fun x xs H Q => ∃ a p, ∃ ys : List Str, x = V.str a ∧ xs = [V.ref p] ∧ (SqL K H p (ys.map V.str) ∨ SqT K H p (ys.map V.str)) ∧ (ys.map (·.length)).sum + ys.length * a.length ≤ 16777216 ∧ Q (.str (Txt.join a ys)) H) (tC (.str (Str.ofString "")))
      (tCons (tLc (iRng1 (tCons (tCall (spD K Θ W_next) [] E1 (tCons (tVar sl) (tCons (tC (.int lim)) tNil))) tNil)) (gName kk) tYes (tCall (spD K Θ W_char) [] E2 (tCons (tCall (spD K Θ W_next) [] E3 (tCons (tVar sl) (tCons (tC (.int 95)) tNil))) tNil)) [kk]) tNil)) env (h0.set n (some (stO ns a b c))) R :=
  ve_text hsl hne (List.getElem?_set_self hl) ok p0 p1 fun s a' b' c' ok' t => by rw [List.set_set]; exact q s a' b' c' ok' t
end
end Law

namespace Law
open PySem PySem.Spec PyProof.Rows L2 Kb
-- the steps that are tried: k_clsL a side condition; k_subL one step; k_places steps as long as one fits
local macro_rules | `(tactic| k_clsL) => `(tactic| first | assumption | decide | omega)
local macro_rules | `(tactic| k_subL) => `(tactic| first
  | (with_reducible refine vs_seq ?_) | (with_reducible refine vs_asg ?_) | (with_reducible refine vg_name ?_) | (with_reducible refine vs_ret ?_) | (with_reducible refine vs_if ?_) | (with_reducible refine vs_next ?_) | (with_reducible refine vs_drop ?_)
  | (with_reducible refine vt_test ?_) | (with_reducible refine vt_B ?_) | (with_reducible refine vt_and ?_) | (with_reducible refine vt_or ?_) | (with_reducible refine vt_not ?_) | (with_reducible refine vt_truth ?_)
  | (with_reducible refine ve_op ?_) | (with_reducible refine ve_isi2 ?_) | ((with_reducible refine isi2_i (T := "tuple") ?hT ?hm ?hn ?_); (case hT => exact rfl); (case hm => decide); (case hn => decide)) | ((with_reducible refine isi2_i (T := "list") ?hT ?hm ?hn ?_); (case hT => exact rfl); (case hm => decide); (case hn => decide)) | ((with_reducible refine isi2_i (T := "int") ?hT ?hm ?hn ?_); (case hT => exact rfl); (case hm => decide); (case hn => decide)) | ((with_reducible refine isi2_i (T := "bool") ?hT ?hm ?hn ?_); (case hT => exact rfl); (case hm => decide); (case hn => decide)) | ((with_reducible refine isi2_i (T := "str") ?hT ?hm ?hn ?_); (case hT => exact rfl); (case hm => decide); (case hn => decide)) | ((with_reducible refine isi2_i (T := "NoneType") ?hT ?hm ?hn ?_); (case hT => exact rfl); (case hm => decide); (case hn => decide)) | (with_reducible refine ve_cb ?_) | (with_reducible refine va_cons ?_) | (with_reducible refine va_nil ?_) | (with_reducible refine ve_call ?_)
  | (with_reducible refine ve_int ?_) | (with_reducible refine ve_str ?_) | (with_reducible refine ve_bl ?_) | (with_reducible refine ve_non ?_) | (with_reducible refine ve_ty ?_)
  | (refine ve_var (by exact rfl) ?_)
  | (with_reducible refine ve_and ?_) | (with_reducible refine ve_or ?_) | (with_reducible refine ve_not ?_) | (with_reducible refine ve_chain ?_) | (with_reducible refine ve_un ?_) | (with_reducible refine ve_if ?_)
  | (with_reducible refine bool_ans ?_) | (with_reducible refine tru_bl ?_)
  | (with_reducible refine vc_intI ?_) | (with_reducible refine vc_intB ?_) | (with_reducible refine v2_addI ?_) | (with_reducible refine v2_sub ?_)
  | (with_reducible refine v2_lt ?_) | (with_reducible refine v2_le ?_) | (with_reducible refine v2_gt ?_) | (with_reducible refine v2_ge ?_)
  | (with_reducible refine v2_eqI ?_) | (with_reducible refine v2_eqS ?_) | (with_reducible refine v2_eqB ?_) | (with_reducible refine v2_neI ?_) | (with_reducible refine v2_neS ?_) | (with_reducible refine v2_neB ?_)
  | (with_reducible refine v2_isN ?_) | (with_reducible refine v2_notN ?_) | (with_reducible refine v2_isNU ?_) | ((with_reducible refine v2_isBl ?hx ?_); (case hx => exact rfl))
  | (with_reducible refine v2_addVI ?_) | (with_reducible refine v2_addWI ?_) | (with_reducible refine v2_ltI ?_) | (with_reducible refine v2_ltB ?_) | (with_reducible refine v2_ltS ?_)
  | ((with_reducible refine v2_divW ?hm ?_); case hm => (constructor <;> k_clsL))
  | ((with_reducible refine v2_mulU ?hm ?_); case hm => first | exact cmul_small (by k_clsL) (by k_clsL) | exact cmul_wide (by k_clsL) (by k_clsL))
  | ((with_reducible refine v2_mod ?hm ?_); case hm => k_clsL) | ((with_reducible refine v2_div ?hm ?_); case hm => (constructor <;> k_clsL))
  | ((with_reducible refine v2_mul ?hm ?_); case hm => first | exact cmul_small (by k_clsL) (by k_clsL) | exact cmul_wide (by k_clsL) (by k_clsL))
  | (with_reducible refine vc_abs ?_) | (with_reducible refine vc_min2 ?_) | (with_reducible refine vc_max2 ?_)
  | (with_reducible refine ve_tup ?_) | ((with_reducible refine tup_j ?hl ?_); (case hl => exact rfl))
  | ((with_reducible refine vc_isi (T := "tuple") ?hT ?hn ?_); (case hT => first | exact rfl | exact ⟨rfl, _, by first | assumption | simp⟩); (case hn => decide)) | ((with_reducible refine vc_isi (T := "list") ?hT ?hn ?_); (case hT => first | exact rfl | exact ⟨rfl, _, by first | assumption | simp⟩); (case hn => decide)) | ((with_reducible refine vc_isi (T := "int") ?hT ?hn ?_); (case hT => first | exact rfl | exact ⟨rfl, _, by first | assumption | simp⟩); (case hn => decide)) | ((with_reducible refine vc_isi (T := "bool") ?hT ?hn ?_); (case hT => first | exact rfl | exact ⟨rfl, _, by first | assumption | simp⟩); (case hn => decide)) | ((with_reducible refine vc_isi (T := "str") ?hT ?hn ?_); (case hT => first | exact rfl | exact ⟨rfl, _, by first | assumption | simp⟩); (case hn => decide)) | ((with_reducible refine vc_isi (T := "NoneType") ?hT ?hn ?_); (case hT => first | exact rfl | exact ⟨rfl, _, by first | assumption | simp⟩); (case hn => decide))
  | (with_reducible refine vc_lenL ?_) | (with_reducible refine vc_lenT ?_) | (with_reducible refine ite_nrefl ?_) | (with_reducible refine ite_refl ?_)
  | ((with_reducible refine ite_tt ?hc ?_); (case hc => first | decide | exact rfl)) | ((with_reducible refine ite_ff ?hc ?_); (case hc => first | decide | exact rfl))
  | (with_reducible refine v1_U ?_))
local macro_rules | `(tactic| k_places) => `(tactic| repeat k_subL)

section
variable {Pg : Program} {w : World} {K : PySem.W.Frag} {Θ : List Addr} {mg : Str → Option Value} {base : Heap}
abbrev st_same : Stmt := (topS 25)
theorem sc_same : FnScope ["actual", "expected", "k"] ["actual", "expected"] (defScope st_same) := ⟨rfl, rfl, rfl, by decide +kernel, rfl, by decide +kernel, by decide +kernel⟩
def W_same : Nat → Spc
  | 0 => fun _ _ _ => False
  | n + 1 => fun ds h R => ∃ a b : P, ds = [.p a, .p b] ∧ plainP a = true ∧ okP n b = true ∧ R (dB (eqB a b)) h
theorem ok_same (A : DefAt K mg "_law_same" st_same ["actual", "expected"]) (m_int : mg "int" = none) (m_bool : mg "bool" = none) (m_str : mg "str" = none) (m_list : mg "list" = none) (m_tuple : mg "tuple" = none) (m_len : mg "len" = none) (m_range : mg "range" = none) (m_isinstance : mg "isinstance" = none) :
    ∀ n : Nat, HasF Pg w K mg base CX0 (n + 1) "_law_same" ["actual", "expected"] (spD K Θ (W_same n))
  | 0 => .never A sc_same fun _ _ _ h => h
  | n + 1 => by
    have sc := sc_same
    have h__law_same := ok_same A m_int m_bool m_str m_list m_tuple m_len m_range m_isinstance n
    refine A.okD sc (W_same (n + 1)) (fun ds h R ⟨a, b, e, _⟩ => by rw [e]; rfl) fun f cdv A outer s H E hr => ?_
    refine ⟨_, (pss_cons (ps_if (pt_cmpR op_isU (pv 1) pe_non (nomark _)) (pss_one (ps_ret (pe_cmpR op_isU (pv 0) pe_non (nomark _)))) pss_nil)
  (pss_cons (ps_if (pt_val (pe_callB (call_isiUK (K := K) (by rfl)) (by rfl) m_isinstance (by decide +kernel) (pa_cons (pv 1) (pa_cons (pe_bltn (v := .ty "bool") rfl m_bool (by decide +kernel) rfl) pa_nil)))) (pss_one (ps_ret (pe_and (pe_callB (call_isiUK (K := K) (by rfl)) (by rfl) m_isinstance (by decide +kernel) (pa_cons (pv 0) (pa_cons (pe_bltn (v := .ty "bool") rfl m_bool (by decide +kernel) rfl) pa_nil))) (pe_one (pe_cmpR (op_eqUK (K := K) (by rfl) hr.units) (pv 0) (pv 1) (nomark _)))))) pss_nil)
  (pss_cons (ps_if (pt_val (pe_callB (call_isiUK (K := K) (by rfl)) (by rfl) m_isinstance (by decide +kernel) (pa_cons (pv 1) (pa_cons (pe_bltn (v := .ty "int") rfl m_int (by decide +kernel) rfl) pa_nil)))) (pss_one (ps_ret (pe_and (pe_callB (call_isiUK (K := K) (by rfl)) (by rfl) m_isinstance (by decide +kernel) (pa_cons (pv 0) (pa_cons (pe_bltn (v := .ty "int") rfl m_int (by decide +kernel) rfl) pa_nil))) (pe_and (pe_not (pe_callB (call_isiUK (K := K) (by rfl)) (by rfl) m_isinstance (by decide +kernel) (pa_cons (pv 0) (pa_cons (pe_bltn (v := .ty "bool") rfl m_bool (by decide +kernel) rfl) pa_nil)))) (pe_one (pe_cmpR (op_eqUK (K := K) (by rfl) hr.units) (pv 0) (pv 1) (nomark _))))))) pss_nil)
  (pss_cons (ps_if (pt_val (pe_callB (call_isiUK (K := K) (by rfl)) (by rfl) m_isinstance (by decide +kernel) (pa_cons (pv 1) (pa_cons (pe_bltn (v := .ty "str") rfl m_str (by decide +kernel) rfl) pa_nil)))) (pss_one (ps_ret (pe_and (pe_callB (call_isiUK (K := K) (by rfl)) (by rfl) m_isinstance (by decide +kernel) (pa_cons (pv 0) (pa_cons (pe_bltn (v := .ty "str") rfl m_str (by decide +kernel) rfl) pa_nil))) (pe_one (pe_cmpR (op_eqUK (K := K) (by rfl) hr.units) (pv 0) (pv 1) (nomark _)))))) pss_nil)
  (pss_cons (ps_if (PW.pt (pw_and (pt_val (pe_callB (call_isiUK (K := K) (by rfl)) (by rfl) m_isinstance (by decide +kernel) (pa_cons (pv 1) (pa_cons (pe_bltn (v := .ty "tuple") rfl m_tuple (by decide +kernel) rfl) pa_nil)))) (pw_and1 (pt_not (pt_val (pe_callB (call_isiUK (K := K) (by rfl)) (by rfl) m_isinstance (by decide +kernel) (pa_cons (pv 0) (pa_cons (pe_bltn (v := .ty "tuple") rfl m_tuple (by decide +kernel) rfl) pa_nil)))))))) (pss_one (ps_ret pe_bl)) pss_nil)
  (pss_cons (ps_if (PW.pt (pw_and (pt_val (pe_callB (call_isiUK (K := K) (by rfl)) (by rfl) m_isinstance (by decide +kernel) (pa_cons (pv 1) (pa_cons (pe_bltn (v := .ty "list") rfl m_list (by decide +kernel) rfl) pa_nil)))) (pw_and1 (pt_not (pt_val (pe_callB (call_isiUK (K := K) (by rfl)) (by rfl) m_isinstance (by decide +kernel) (pa_cons (pv 0) (pa_cons (pe_bltn (v := .ty "list") rfl m_list (by decide +kernel) rfl) pa_nil)))))))) (pss_one (ps_ret pe_bl)) pss_nil)
  (pss_cons (ps_if (pt_cmpR (op_neUK (K := K) (by rfl) hr.units) (pe_callB (call_lenK (K := K) (by rfl)) (by rfl) m_len (by decide +kernel) (pa_cons (pv 0) pa_nil)) (pe_callB (call_lenK (K := K) (by rfl)) (by rfl) m_len (by decide +kernel) (pa_cons (pv 1) pa_nil)) (nomark _)) (pss_one (ps_ret pe_bl)) pss_nil)
  (pss_cons (ps_for PassesOwn.never rfl (pi_range1 rfl m_range (pa_cons (pe_callB (call_lenK (K := K) (by rfl)) (by rfl) m_len (by decide +kernel) (pa_cons (pv 1) pa_nil)) pa_nil)) (pg_name (i := 2) sc.nd rfl (.inl rfl))
  (pss_one (ps_if (pt_not (pt_val (h__law_same.call (hr.mono (by first | decide | omega)) rfl pass0 (pa_cons (pe_ix (ix_seqK (K := K) (by rfl)) (pv 0) (pv 2) (fun _ _ => rfl)) (pa_cons (pe_ix (ix_seqK (K := K) (by rfl)) (pv 1) (pv 2) (fun _ _ => rfl)) pa_nil))))) (pss_one (ps_ret pe_bl)) pss_nil)))
  (pss_one (ps_ret pe_bl)))))))))), ?_⟩
    try dsimp only [cxOf]
    rintro ds h R ⟨a, b, rfl, ha, hb, q⟩
    refine vs_fin ?_
    cases b with
    | ty _ => simp [okP] at hb
    | cls _ => simp [okP] at hb
    | ins _ _ => simp [okP] at hb
    | non =>
      cases a with
      | non => k_places; exact fin_p0 (by rw [eqB_eq rfl] at q; exact q)
      | ty _ => cases ha
      | cls _ => cases ha
      | ins _ _ => cases ha
      | _ => k_places; exact fin_p0 (by rw [eqB_ne (by intro z; cases z)] at q; exact q)
    | bl y =>
      cases a with
      | bl x => k_places; exact fin_p0 (by rw [eqB_bl] at q; exact q)
      | ty _ => cases ha
      | cls _ => cases ha
      | ins _ _ => cases ha
      | _ => k_places; exact fin_p0 (by rw [eqB_ne (by intro z; cases z)] at q; exact q)
    | int y =>
      cases a with
      | int x => k_places; exact fin_p0 (by rw [eqB_int] at q; exact q)
      | ty _ => cases ha
      | cls _ => cases ha
      | ins _ _ => cases ha
      | _ => k_places; exact fin_p0 (by rw [eqB_ne (by intro z; cases z)] at q; exact q)
    | str y =>
      cases a with
      | str x => k_places; exact fin_p0 (by rw [eqB_str] at q; exact q)
      | ty _ => cases ha
      | cls _ => cases ha
      | ins _ _ => cases ha
      | _ => k_places; exact fin_p0 (by rw [eqB_ne (by intro z; cases z)] at q; exact q)
    | tup ys =>
      cases a with
      | ty _ => cases ha
      | cls _ => cases ha
      | ins _ _ => cases ha
      | tup xs =>
        obtain ⟨m, rfl, hl, hy⟩ := okP_tup hb
        have hx := plainPs_mem (xs := xs) (by unfold plainP at ha; exact ha)
        k_places
        refine ite_ndec (fun hne => ?_) (fun heq => ?_)
        · k_places
          exact fin_p0 (by rw [eqB_ne (fun z => hne (by cases z; rfl))] at q; exact q)
        k_places
        refine vs_for (vi_range1 ?_)
        k_places
        refine ⟨_, rfl, by omega, by omega, ?_⟩
        refine ⟨fun i env h' => (∃ o, env = [some (dT xs), some (dT ys), o]) ∧ h' = h ∧ ∀ j, j < i → xs[j]? = ys[j]?, ?_, ?_, ?_, ?_⟩
        · exact ⟨⟨none, rfl⟩, rfl, fun j hj => absurd hj (Nat.not_lt_zero _)⟩
        · exact fun _ _ _ _ => trivial
        · rintro i d env h' hd ⟨⟨o, rfl⟩, rfl, hpre⟩
          obtain ⟨hi, rfl⟩ := rng_get hd
          have hiy : i < ys.length := by omega
          have hix : i < xs.length := by omega
          k_places
          refine v2_ixT (at_nat i (by omega) (List.getElem?_eq_getElem hix)) ?_
          k_places
          refine v2_ixT (at_nat i (by omega) (List.getElem?_eq_getElem hiy)) ?_
          k_places
          refine ⟨_, _, rfl, hx _ (List.getElem_mem hix), hy _ (List.getElem_mem hiy), ?_⟩
          k_places
          refine ite_nb (fun e => ?_) (fun e => ?_)
          · k_places
            refine fin_p0 ?_
            rw [eqB_ne (fun z => ?_)] at q
            · exact q
            · cases z
              rw [eqB_eq rfl] at e
              cases e
          · k_places
            refine ⟨⟨_, rfl⟩, rfl, fun j hj => ?_⟩
            rcases Nat.lt_succ_iff_lt_or_eq.mp hj with hj | rfl
            · exact hpre j hj
            · rw [List.getElem?_eq_getElem hix, List.getElem?_eq_getElem hiy, eqB_iff.mp e]
        · rintro env h' ⟨⟨o, rfl⟩, rfl, hpre⟩
          rw [rng_len] at hpre
          k_places
          refine fin_p0 ?_
          have e : xs = ys := by
            refine List.ext_getElem? fun j => ?_
            by_cases hj : j < ys.length
            · exact hpre j (by omega)
            · rw [List.getElem?_eq_none_iff.mpr (by omega), List.getElem?_eq_none_iff.mpr (by omega)]
          rw [eqB_eq (congrArg P.tup e)] at q
          exact q
      | _ => k_places; exact fin_p0 (by rw [eqB_ne (by intro z; cases z)] at q; exact q)
    | lst ys =>
      cases a with
      | ty _ => cases ha
      | cls _ => cases ha
      | ins _ _ => cases ha
      | lst xs =>
        obtain ⟨m, rfl, hl, hy⟩ := okP_lst hb
        have hx := plainPs_mem (xs := xs) (by unfold plainP at ha; exact ha)
        k_places
        refine ite_ndec (fun hne => ?_) (fun heq => ?_)
        · k_places
          exact fin_p0 (by rw [eqB_ne (fun z => hne (by cases z; rfl))] at q; exact q)
        k_places
        refine vs_for (vi_range1 ?_)
        k_places
        refine ⟨_, rfl, by omega, by omega, ?_⟩
        refine ⟨fun i env h' => (∃ o, env = [some (dL xs), some (dL ys), o]) ∧ h' = h ∧ ∀ j, j < i → xs[j]? = ys[j]?, ?_, ?_, ?_, ?_⟩
        · exact ⟨⟨none, rfl⟩, rfl, fun j hj => absurd hj (Nat.not_lt_zero _)⟩
        · exact fun _ _ _ _ => trivial
        · rintro i d env h' hd ⟨⟨o, rfl⟩, rfl, hpre⟩
          obtain ⟨hi, rfl⟩ := rng_get hd
          have hiy : i < ys.length := by omega
          have hix : i < xs.length := by omega
          k_places
          refine v2_ixL (at_nat i (by omega) (List.getElem?_eq_getElem hix)) ?_
          k_places
          refine v2_ixL (at_nat i (by omega) (List.getElem?_eq_getElem hiy)) ?_
          k_places
          refine ⟨_, _, rfl, hx _ (List.getElem_mem hix), hy _ (List.getElem_mem hiy), ?_⟩
          k_places
          refine ite_nb (fun e => ?_) (fun e => ?_)
          · k_places
            refine fin_p0 ?_
            rw [eqB_ne (fun z => ?_)] at q
            · exact q
            · cases z
              rw [eqB_eq rfl] at e
              cases e
          · k_places
            refine ⟨⟨_, rfl⟩, rfl, fun j hj => ?_⟩
            rcases Nat.lt_succ_iff_lt_or_eq.mp hj with hj | rfl
            · exact hpre j hj
            · rw [List.getElem?_eq_getElem hix, List.getElem?_eq_getElem hiy, eqB_iff.mp e]
        · rintro env h' ⟨⟨o, rfl⟩, rfl, hpre⟩
          rw [rng_len] at hpre
          k_places
          refine fin_p0 ?_
          have e : xs = ys := by
            refine List.ext_getElem? fun j => ?_
            by_cases hj : j < ys.length
            · exact hpre j (by omega)
            · rw [List.getElem?_eq_none_iff.mpr (by omega), List.getElem?_eq_none_iff.mpr (by omega)]
          rw [eqB_eq (congrArg P.lst e)] at q
          exact q
      | _ => k_places; exact fin_p0 (by rw [eqB_ne (by intro z; cases z)] at q; exact q)
end
end Law

namespace Law
open PySem PySem.Spec PyProof.Rows L2 Kb
-- the steps that are tried: k_clsL a side condition; k_subL one step; k_places steps as long as one fits
local macro_rules | `(tactic| k_clsL) => `(tactic| first | assumption | decide | omega)
local macro_rules | `(tactic| k_subL) => `(tactic| first
  | (with_reducible refine vs_seq ?_) | (with_reducible refine vs_asg ?_) | (with_reducible refine vg_name ?_) | (with_reducible refine vs_ret ?_) | (with_reducible refine vs_if ?_) | (with_reducible refine vs_next ?_) | (with_reducible refine vs_drop ?_)
  | (with_reducible refine vt_test ?_) | (with_reducible refine vt_B ?_) | (with_reducible refine vt_and ?_) | (with_reducible refine vt_or ?_) | (with_reducible refine vt_not ?_) | (with_reducible refine vt_truth ?_)
  | (with_reducible refine ve_op ?_) | (with_reducible refine ve_isi2 ?_) | ((with_reducible refine isi2_i (T := "tuple") ?hT ?hm ?hn ?_); (case hT => exact rfl); (case hm => decide); (case hn => decide)) | ((with_reducible refine isi2_i (T := "list") ?hT ?hm ?hn ?_); (case hT => exact rfl); (case hm => decide); (case hn => decide)) | ((with_reducible refine isi2_i (T := "int") ?hT ?hm ?hn ?_); (case hT => exact rfl); (case hm => decide); (case hn => decide)) | ((with_reducible refine isi2_i (T := "bool") ?hT ?hm ?hn ?_); (case hT => exact rfl); (case hm => decide); (case hn => decide)) | ((with_reducible refine isi2_i (T := "str") ?hT ?hm ?hn ?_); (case hT => exact rfl); (case hm => decide); (case hn => decide)) | ((with_reducible refine isi2_i (T := "NoneType") ?hT ?hm ?hn ?_); (case hT => exact rfl); (case hm => decide); (case hn => decide)) | (with_reducible refine ve_cb ?_) | (with_reducible refine va_cons ?_) | (with_reducible refine va_nil ?_) | (with_reducible refine ve_call ?_)
  | (with_reducible refine ve_int ?_) | (with_reducible refine ve_str ?_) | (with_reducible refine ve_bl ?_) | (with_reducible refine ve_non ?_) | (with_reducible refine ve_ty ?_)
  | (refine ve_var (by exact rfl) ?_)
  | (with_reducible refine ve_and ?_) | (with_reducible refine ve_or ?_) | (with_reducible refine ve_not ?_) | (with_reducible refine ve_chain ?_) | (with_reducible refine ve_un ?_) | (with_reducible refine ve_if ?_)
  | (with_reducible refine bool_ans ?_) | (with_reducible refine tru_bl ?_)
  | (with_reducible refine vc_intI ?_) | (with_reducible refine vc_intB ?_) | (with_reducible refine v2_addI ?_) | (with_reducible refine v2_sub ?_)
  | (with_reducible refine v2_lt ?_) | (with_reducible refine v2_le ?_) | (with_reducible refine v2_gt ?_) | (with_reducible refine v2_ge ?_)
  | (with_reducible refine v2_eqI ?_) | (with_reducible refine v2_eqS ?_) | (with_reducible refine v2_eqB ?_) | (with_reducible refine v2_neI ?_) | (with_reducible refine v2_neS ?_) | (with_reducible refine v2_neB ?_)
  | (with_reducible refine v2_isN ?_) | (with_reducible refine v2_notN ?_) | (with_reducible refine v2_isNU ?_) | ((with_reducible refine v2_isBl ?hx ?_); (case hx => exact rfl))
  | (with_reducible refine v2_addVI ?_) | (with_reducible refine v2_addWI ?_) | (with_reducible refine v2_ltI ?_) | (with_reducible refine v2_ltB ?_) | (with_reducible refine v2_ltS ?_)
  | ((with_reducible refine v2_divW ?hm ?_); case hm => (constructor <;> k_clsL))
  | ((with_reducible refine v2_mulU ?hm ?_); case hm => first | exact cmul_small (by k_clsL) (by k_clsL) | exact cmul_wide (by k_clsL) (by k_clsL))
  | ((with_reducible refine v2_mod ?hm ?_); case hm => k_clsL) | ((with_reducible refine v2_div ?hm ?_); case hm => (constructor <;> k_clsL))
  | ((with_reducible refine v2_mul ?hm ?_); case hm => first | exact cmul_small (by k_clsL) (by k_clsL) | exact cmul_wide (by k_clsL) (by k_clsL))
  | (with_reducible refine vc_abs ?_) | (with_reducible refine vc_min2 ?_) | (with_reducible refine vc_max2 ?_)
  | (with_reducible refine ve_tup ?_) | ((with_reducible refine tup_j ?hl ?_); (case hl => exact rfl))
  | ((with_reducible refine vc_isi (T := "tuple") ?hT ?hn ?_); (case hT => first | exact rfl | exact ⟨rfl, _, by first | assumption | simp⟩); (case hn => decide)) | ((with_reducible refine vc_isi (T := "list") ?hT ?hn ?_); (case hT => first | exact rfl | exact ⟨rfl, _, by first | assumption | simp⟩); (case hn => decide)) | ((with_reducible refine vc_isi (T := "int") ?hT ?hn ?_); (case hT => first | exact rfl | exact ⟨rfl, _, by first | assumption | simp⟩); (case hn => decide)) | ((with_reducible refine vc_isi (T := "bool") ?hT ?hn ?_); (case hT => first | exact rfl | exact ⟨rfl, _, by first | assumption | simp⟩); (case hn => decide)) | ((with_reducible refine vc_isi (T := "str") ?hT ?hn ?_); (case hT => first | exact rfl | exact ⟨rfl, _, by first | assumption | simp⟩); (case hn => decide)) | ((with_reducible refine vc_isi (T := "NoneType") ?hT ?hn ?_); (case hT => first | exact rfl | exact ⟨rfl, _, by first | assumption | simp⟩); (case hn => decide))
  | (with_reducible refine vc_lenL ?_) | (with_reducible refine vc_lenT ?_) | (with_reducible refine ite_nrefl ?_) | (with_reducible refine ite_refl ?_)
  | ((with_reducible refine ite_tt ?hc ?_); (case hc => first | decide | exact rfl)) | ((with_reducible refine ite_ff ?hc ?_); (case hc => first | decide | exact rfl))
  | (with_reducible refine v1_U ?_))
local macro_rules | `(tactic| k_places) => `(tactic| repeat k_subL)

/-- a def that draws a value by the state -/
def W_draw (S : P → Prop) : Spc := fun ds h R => ∃ (n : Nat) (ns : List Int) (a b c : Int), ds = [.own n] ∧ h[n]? = some (some (stO ns a b c)) ∧ OkSt ns a b c ∧
  ∀ (v : P) (a' b' c' : Int), OkSt ns a' b' c' → S v → R (.p v) (h.set n (some (stO ns a' b' c')))
def W_law : Spc := fun ds h R => ∃ ns : List Int, ds = [dL (ns.map P.int)] ∧ h = [] ∧ ns.length ≤ 63 ∧ ∀ h', R (dB true) h'
abbrev h0 : Hs := [none]
abbrev hst (ns : List Int) (a b c : Int) : Hs := List.set h0 0 (some (stO ns a b c))
theorem ok_start {ns : List Int} (hl : ns.length ≤ 63) : OkSt ns 0 0 1 := ⟨hl, by decide, by omega, by decide, by decide, by decide⟩
theorem draw_i {S : P → Prop} {n : Nat} {h0 : Hs} {ns : List Int} {a b c : Int} {R : D → Hs → Prop} (hl : n < h0.length) (ok : OkSt ns a b c) (q : ∀ (v : P) (a b c : Int), OkSt ns a b c → S v → R (.p v) (h0.set n (some (stO ns a b c)))) : W_draw S [.own n] (h0.set n (some (stO ns a b c))) R :=
  ⟨n, ns, a, b, c, rfl, List.getElem?_set_self hl, ok, fun v a b c ok hv => by rw [List.set_set]; exact q v a b c ok hv⟩
theorem e40 : (10 : Int) ^ (40 : Int).toNat = 10000000000000000000000000000000000000000 := by decide +kernel
/-- the state, behind it other things: told from the beginning -/
theorem set_app {h0 : Hs} {n : Nat} {x y : Option OO} (hl : n < h0.length) : (h0 ++ [y]).set n x = h0.set n x ++ [y] := List.set_append_left _ _ hl
end Law

namespace Law
open PySem PySem.Spec PyProof.Rows L2 Kb
-- the steps that are tried: k_clsL a side condition; k_subL one step; k_places steps as long as one fits
local macro_rules | `(tactic| k_clsL) => `(tactic| first | assumption | decide | omega)
local macro_rules | `(tactic| k_subL) => `(tactic| first
  | (with_reducible refine vs_seq ?_) | (with_reducible refine vs_asg ?_) | (with_reducible refine vg_name ?_) | (with_reducible refine vs_ret ?_) | (with_reducible refine vs_if ?_) | (with_reducible refine vs_next ?_) | (with_reducible refine vs_drop ?_)
  | (with_reducible refine vt_test ?_) | (with_reducible refine vt_B ?_) | (with_reducible refine vt_and ?_) | (with_reducible refine vt_or ?_) | (with_reducible refine vt_not ?_) | (with_reducible refine vt_truth ?_)
  | (with_reducible refine ve_op ?_) | (with_reducible refine ve_isi2 ?_) | ((with_reducible refine isi2_i (T := "tuple") ?hT ?hm ?hn ?_); (case hT => exact rfl); (case hm => decide); (case hn => decide)) | ((with_reducible refine isi2_i (T := "list") ?hT ?hm ?hn ?_); (case hT => exact rfl); (case hm => decide); (case hn => decide)) | ((with_reducible refine isi2_i (T := "int") ?hT ?hm ?hn ?_); (case hT => exact rfl); (case hm => decide); (case hn => decide)) | ((with_reducible refine isi2_i (T := "bool") ?hT ?hm ?hn ?_); (case hT => exact rfl); (case hm => decide); (case hn => decide)) | ((with_reducible refine isi2_i (T := "str") ?hT ?hm ?hn ?_); (case hT => exact rfl); (case hm => decide); (case hn => decide)) | ((with_reducible refine isi2_i (T := "NoneType") ?hT ?hm ?hn ?_); (case hT => exact rfl); (case hm => decide); (case hn => decide)) | (with_reducible refine ve_cb ?_) | (with_reducible refine va_cons ?_) | (with_reducible refine va_nil ?_) | (with_reducible refine ve_call ?_)
  | (with_reducible refine ve_int ?_) | (with_reducible refine ve_str ?_) | (with_reducible refine ve_bl ?_) | (with_reducible refine ve_non ?_) | (with_reducible refine ve_ty ?_)
  | (refine ve_var (by exact rfl) ?_)
  | (with_reducible refine ve_and ?_) | (with_reducible refine ve_or ?_) | (with_reducible refine ve_not ?_) | (with_reducible refine ve_chain ?_) | (with_reducible refine ve_un ?_) | (with_reducible refine ve_if ?_)
  | (with_reducible refine bool_ans ?_) | (with_reducible refine tru_bl ?_)
  | (with_reducible refine vc_intI ?_) | (with_reducible refine vc_intB ?_) | (with_reducible refine v2_addI ?_) | (with_reducible refine v2_sub ?_)
  | (with_reducible refine v2_lt ?_) | (with_reducible refine v2_le ?_) | (with_reducible refine v2_gt ?_) | (with_reducible refine v2_ge ?_)
  | (with_reducible refine v2_eqI ?_) | (with_reducible refine v2_eqS ?_) | (with_reducible refine v2_eqB ?_) | (with_reducible refine v2_neI ?_) | (with_reducible refine v2_neS ?_) | (with_reducible refine v2_neB ?_)
  | (with_reducible refine v2_isN ?_) | (with_reducible refine v2_notN ?_) | (with_reducible refine v2_isNU ?_) | ((with_reducible refine v2_isBl ?hx ?_); (case hx => exact rfl))
  | (with_reducible refine v2_addVI ?_) | (with_reducible refine v2_addWI ?_) | (with_reducible refine v2_ltI ?_) | (with_reducible refine v2_ltB ?_) | (with_reducible refine v2_ltS ?_)
  | ((with_reducible refine v2_divW ?hm ?_); case hm => (constructor <;> k_clsL))
  | ((with_reducible refine v2_mulU ?hm ?_); case hm => first | exact cmul_small (by k_clsL) (by k_clsL) | exact cmul_wide (by k_clsL) (by k_clsL))
  | ((with_reducible refine v2_mod ?hm ?_); case hm => k_clsL) | ((with_reducible refine v2_div ?hm ?_); case hm => (constructor <;> k_clsL))
  | ((with_reducible refine v2_mul ?hm ?_); case hm => first | exact cmul_small (by k_clsL) (by k_clsL) | exact cmul_wide (by k_clsL) (by k_clsL))
  | (with_reducible refine vc_abs ?_) | (with_reducible refine vc_min2 ?_) | (with_reducible refine vc_max2 ?_)
  | (with_reducible refine ve_tup ?_) | ((with_reducible refine tup_j ?hl ?_); (case hl => exact rfl))
  | ((with_reducible refine vc_isi (T := "tuple") ?hT ?hn ?_); (case hT => first | exact rfl | exact ⟨rfl, _, by first | assumption | simp⟩); (case hn => decide)) | ((with_reducible refine vc_isi (T := "list") ?hT ?hn ?_); (case hT => first | exact rfl | exact ⟨rfl, _, by first | assumption | simp⟩); (case hn => decide)) | ((with_reducible refine vc_isi (T := "int") ?hT ?hn ?_); (case hT => first | exact rfl | exact ⟨rfl, _, by first | assumption | simp⟩); (case hn => decide)) | ((with_reducible refine vc_isi (T := "bool") ?hT ?hn ?_); (case hT => first | exact rfl | exact ⟨rfl, _, by first | assumption | simp⟩); (case hn => decide)) | ((with_reducible refine vc_isi (T := "str") ?hT ?hn ?_); (case hT => first | exact rfl | exact ⟨rfl, _, by first | assumption | simp⟩); (case hn => decide)) | ((with_reducible refine vc_isi (T := "NoneType") ?hT ?hn ?_); (case hT => first | exact rfl | exact ⟨rfl, _, by first | assumption | simp⟩); (case hn => decide))
  | (with_reducible refine vc_lenL ?_) | (with_reducible refine vc_lenT ?_) | (with_reducible refine ite_nrefl ?_) | (with_reducible refine ite_refl ?_)
  | ((with_reducible refine ite_tt ?hc ?_); (case hc => first | decide | exact rfl)) | ((with_reducible refine ite_ff ?hc ?_); (case hc => first | decide | exact rfl))
  | (with_reducible refine v1_U ?_))
local macro_rules | `(tactic| k_places) => `(tactic| repeat k_subL)

section
variable {K : PySem.W.Frag} {Θ : List Addr}
/-- the turns of a comprehension each of which draws a value: e(i, acc, what follows) -/
theorem draws_of {S : P → Prop} {te : TE} {kk n m : Nat} {env : Env'} {h0 : Hs} {Z : List P → Hs → Prop} {ns : List Int} {a b c : Int} (hl : n < h0.length) (ok : OkSt ns a b c) (hm : m < sizeLine)
    (turn : ∀ (i : Nat) (acc : List P) (a b c : Int) (T : D → Hs → Prop), OkSt ns a b c → (∀ (p : P) (a b c : Int), OkSt ns a b c → S p → T (.p p) (h0.set n (some (stO ns a b c)) ++ [accO acc])) →
      VE K Θ te ((env.set kk none).set kk (some (dI (0 + (i : Int))))) (h0.set n (some (stO ns a b c)) ++ [accO acc]) T)
    (q : ∀ (acc : List P) (a b c : Int), acc.length = m → (∀ p ∈ acc, S p) → OkSt ns a b c → Z acc (h0.set n (some (stO ns a b c)))) :
    ∃ Inv : Nat → List P → Hs → Prop, (rng 0 m).length < sizeLine ∧ Inv 0 [] (h0.set n (some (stO ns a b c))) ∧
      (∀ i acc h', Inv i acc h' → h'.length = (h0.set n (some (stO ns a b c))).length ∧ lowH (h0.set n (some (stO ns a b c))) h' ∧ (fun _ => True) (h' ++ [accO acc])) ∧
      (∀ i d acc h', (rng 0 m)[i]? = some d → Inv i acc h' → VG K Θ (gName kk) d (wipeD env [kk]) (h' ++ [accO acc]) fun env' h2 => VT K Θ tYes env' h2 fun b h3 => if b = true then VE K Θ te env' h3 (fun y h4 => ∃ p h5, y = .p p ∧ h4 = h5 ++ [accO acc] ∧ Inv (i + 1) (acc ++ [p]) h5) else ∃ h5, h3 = h5 ++ [accO acc] ∧ Inv (i + 1) acc h5) ∧
      (∀ acc h', Inv (rng 0 m).length acc h' → Z acc h') := by
  refine ⟨fun i acc h' => ∃ a b c : Int, acc.length = i ∧ (∀ p ∈ acc, S p) ∧ h' = h0.set n (some (stO ns a b c)) ∧ OkSt ns a b c, by rw [rng_len]; exact hm, ⟨a, b, c, rfl, fun _ z => by simp at z, rfl, ok⟩, ?_, ?_, ?_⟩
  · rintro i acc h' ⟨a2, b2, c2, hi, hs, rfl, ok2⟩
    refine ⟨by simp, ?_, trivial⟩
    have z := (lowH.refl (h0.set n (some (stO ns a b c)))).set (n := n) (o := stO ns a2 b2 c2) stO_low
    rw [List.set_set] at z
    exact z
  · rintro i d acc h' hd ⟨a2, b2, c2, hi, hs, rfl, ok2⟩
    obtain ⟨_, rfl⟩ := rng_get hd
    refine vg_name (vt_yes (ite_t ?_))
    refine turn i acc a2 b2 c2 _ ok2 fun p a3 b3 c3 ok3 hp => ⟨p, _, rfl, rfl, a3, b3, c3, by simp [hi], fun x hx => ?_, rfl, ok3⟩
    rcases List.mem_append.mp hx with hx | hx
    · exact hs x hx
    · rw [List.mem_singleton.mp hx]; exact hp
  · rintro acc h' ⟨a2, b2, c2, hi, hs, rfl, ok2⟩
    rw [rng_len] at hi
    exact q acc a2 b2 c2 hi hs ok2
theorem app_assoc' {h0 : Hs} {n : Nat} {x y : Option OO} (hl : n < h0.length) : h0.set n x ++ [y] = (h0 ++ [y]).set n x := (List.set_append_left _ _ hl).symm
end
/-- the last item -/
theorem at_last {α : Type} {xs : List α} (h : 0 < xs.length) : atI xs (-1) = some (xs[xs.length - 1]'(by omega)) := by
  have e : ixN xs.length (-1) = some (xs.length - 1) := by
    unfold ixN
    rw [if_neg (by omega)]
    rw [if_pos (by omega)]
    congr 1
    omega
  unfold atI
  rw [e]
  exact List.getElem?_eq_getElem _
theorem cut_init {α : Type} (xs : List α) : cutP xs none (some (-1)) = xs.take (xs.length - 1) := by
  unfold cutP
  have e1 : HT.sIx xs.length 0 none = 0 := rfl
  have e2 : HT.sIx xs.length xs.length (some (-1)) = xs.length - 1 := by
    show (if (-1 : Int) < 0 then ((-1 : Int) + (xs.length : Int)).toNat else min (-1 : Int).toNat xs.length) = _
    rw [if_pos (by decide)]
    omega
  rw [e1, e2, List.drop_zero, Nat.sub_zero]
end Law

namespace Law
open PySem PySem.Spec PyProof.Rows L2 Kb SX
-- the steps that are tried: k_clsL a side condition; k_subL one step; k_places steps as long as one fits
local macro_rules | `(tactic| k_clsL) => `(tactic| first | assumption | decide | omega)
local macro_rules | `(tactic| k_subL) => `(tactic| first
  | (with_reducible refine vs_seq ?_) | (with_reducible refine vs_asg ?_) | (with_reducible refine vg_name ?_) | (with_reducible refine vs_ret ?_) | (with_reducible refine vs_if ?_) | (with_reducible refine vs_next ?_) | (with_reducible refine vs_drop ?_)
  | (with_reducible refine vt_test ?_) | (with_reducible refine vt_B ?_) | (with_reducible refine vt_and ?_) | (with_reducible refine vt_or ?_) | (with_reducible refine vt_not ?_) | (with_reducible refine vt_truth ?_)
  | (with_reducible refine ve_op ?_) | (with_reducible refine ve_isi2 ?_) | ((with_reducible refine isi2_i (T := "tuple") ?hT ?hm ?hn ?_); (case hT => exact rfl); (case hm => decide); (case hn => decide)) | ((with_reducible refine isi2_i (T := "list") ?hT ?hm ?hn ?_); (case hT => exact rfl); (case hm => decide); (case hn => decide)) | ((with_reducible refine isi2_i (T := "int") ?hT ?hm ?hn ?_); (case hT => exact rfl); (case hm => decide); (case hn => decide)) | ((with_reducible refine isi2_i (T := "bool") ?hT ?hm ?hn ?_); (case hT => exact rfl); (case hm => decide); (case hn => decide)) | ((with_reducible refine isi2_i (T := "str") ?hT ?hm ?hn ?_); (case hT => exact rfl); (case hm => decide); (case hn => decide)) | ((with_reducible refine isi2_i (T := "NoneType") ?hT ?hm ?hn ?_); (case hT => exact rfl); (case hm => decide); (case hn => decide)) | (with_reducible refine ve_cb ?_) | (with_reducible refine va_cons ?_) | (with_reducible refine va_nil ?_) | (with_reducible refine ve_call ?_)
  | (with_reducible refine ve_int ?_) | (with_reducible refine ve_str ?_) | (with_reducible refine ve_bl ?_) | (with_reducible refine ve_non ?_) | (with_reducible refine ve_ty ?_)
  | (refine ve_var (by exact rfl) ?_)
  | (with_reducible refine ve_and ?_) | (with_reducible refine ve_or ?_) | (with_reducible refine ve_not ?_) | (with_reducible refine ve_chain ?_) | (with_reducible refine ve_un ?_) | (with_reducible refine ve_if ?_)
  | (with_reducible refine bool_ans ?_) | (with_reducible refine tru_bl ?_)
  | (with_reducible refine vc_intI ?_) | (with_reducible refine vc_intB ?_) | (with_reducible refine v2_addI ?_) | (with_reducible refine v2_sub ?_)
  | (with_reducible refine v2_lt ?_) | (with_reducible refine v2_le ?_) | (with_reducible refine v2_gt ?_) | (with_reducible refine v2_ge ?_)
  | (with_reducible refine v2_eqI ?_) | (with_reducible refine v2_eqS ?_) | (with_reducible refine v2_eqB ?_) | (with_reducible refine v2_neI ?_) | (with_reducible refine v2_neS ?_) | (with_reducible refine v2_neB ?_)
  | (with_reducible refine v2_isN ?_) | (with_reducible refine v2_notN ?_) | (with_reducible refine v2_isNU ?_) | ((with_reducible refine v2_isBl ?hx ?_); (case hx => exact rfl))
  | (with_reducible refine v2_addVI ?_) | (with_reducible refine v2_addWI ?_) | (with_reducible refine v2_ltI ?_) | (with_reducible refine v2_ltB ?_) | (with_reducible refine v2_ltS ?_)
  | ((with_reducible refine v2_divW ?hm ?_); case hm => (constructor <;> k_clsL))
  | ((with_reducible refine v2_mulU ?hm ?_); case hm => first | exact cmul_small (by k_clsL) (by k_clsL) | exact cmul_wide (by k_clsL) (by k_clsL))
  | ((with_reducible refine v2_mod ?hm ?_); case hm => k_clsL) | ((with_reducible refine v2_div ?hm ?_); case hm => (constructor <;> k_clsL))
  | ((with_reducible refine v2_mul ?hm ?_); case hm => first | exact cmul_small (by k_clsL) (by k_clsL) | exact cmul_wide (by k_clsL) (by k_clsL))
  | (with_reducible refine vc_abs ?_) | (with_reducible refine vc_min2 ?_) | (with_reducible refine vc_max2 ?_)
  | (with_reducible refine ve_tup ?_) | ((with_reducible refine tup_j ?hl ?_); (case hl => exact rfl))
  | ((with_reducible refine vc_isi (T := "tuple") ?hT ?hn ?_); (case hT => first | exact rfl | exact ⟨rfl, _, by first | assumption | simp⟩); (case hn => decide)) | ((with_reducible refine vc_isi (T := "list") ?hT ?hn ?_); (case hT => first | exact rfl | exact ⟨rfl, _, by first | assumption | simp⟩); (case hn => decide)) | ((with_reducible refine vc_isi (T := "int") ?hT ?hn ?_); (case hT => first | exact rfl | exact ⟨rfl, _, by first | assumption | simp⟩); (case hn => decide)) | ((with_reducible refine vc_isi (T := "bool") ?hT ?hn ?_); (case hT => first | exact rfl | exact ⟨rfl, _, by first | assumption | simp⟩); (case hn => decide)) | ((with_reducible refine vc_isi (T := "str") ?hT ?hn ?_); (case hT => first | exact rfl | exact ⟨rfl, _, by first | assumption | simp⟩); (case hn => decide)) | ((with_reducible refine vc_isi (T := "NoneType") ?hT ?hn ?_); (case hT => first | exact rfl | exact ⟨rfl, _, by first | assumption | simp⟩); (case hn => decide))
  | (with_reducible refine vc_lenL ?_) | (with_reducible refine vc_lenT ?_) | (with_reducible refine ite_nrefl ?_) | (with_reducible refine ite_refl ?_)
  | ((with_reducible refine ite_tt ?hc ?_); (case hc => first | decide | exact rfl)) | ((with_reducible refine ite_ff ?hc ?_); (case hc => first | decide | exact rfl))
  | (with_reducible refine v1_U ?_))
local macro_rules | `(tactic| k_places) => `(tactic| repeat k_subL)

/-- what the tokens' constants are -/
structure TokC (K : PySem.W.Frag) (mg : Str → Option Value) (aK aL : Addr) : Prop where
  lets : ∃ t, mg "LETTERS" = some (.str Tz.lets t)
  digs : ∃ t, mg "DIGITS" = some (.str Tz.digs t)
  ofws : ∃ t, mg "OF_WORDS" = some (.str Tz.ofws t)
  blks : ∃ t, mg "BLANKS" = some (.str Tz.blks t)
  shorts : ∃ t, mg "SHORT_SIGNS" = some (.str Tz.shorts t)
  md : ∃ t, mg "MOST_DIGITS" = some (.int 30 t)
  mc : ∃ t, mg "MOST_CHARACTERS" = some (.int 2000 t)
  gk : mg "KEYWORDS" = some (.ref aK)
  gl : mg "LONG_SIGNS" = some (.ref aL)
  kk : KTup K aK (Tz.kws.map V.str)
  kl : KTup K aL (Tz.longs.map V.str)
abbrev st_rini : Stmt := (inClass (topS 3) 0)
theorem sc_rini : FnScope ["self", "position"] ["self", "position"] (defScope st_rini) := ⟨rfl, rfl, rfl, by decide +kernel, rfl, by decide +kernel, by decide +kernel⟩
/-- the error's class -/
structure RefC (K : PySem.W.Frag) (mg : Str → Option Value) (C : Addr) : Prop where
  oe : OexC K C
  xf : XfC K C
  ec : ExcC K C
  no : PySem.W.findIn K (.ref C) "position" = some none
  ini : ∃ fI fd, Fun K "__init__" "RefusedText.__init__" st_rini fI fd ∧ PySem.W.findIn K (.ref C) "__init__" = some (some (.ref fI)) ∧ PySem.W.typeIn K (.ref fI) = some (.type "function") ∧ Binds K fd ["self", "position"] []
  at_ : mg "RefusedText" = some (.ref C)
section
variable {Pg : Program} {w : World} {K : PySem.W.Frag} {Θ : List Addr} {mg : Str → Option Value} {base : Heap} {C aK aL : Addr}
theorem ref_init (Z : RefC K mg C) : ∃ fI fd, FnOk Pg w K mg base CX0 1 fI fd ["self", "position"] (spInit1 C "position") ∧ PySem.W.findIn K (.ref C) "__init__" = some (some (.ref fI)) ∧ PySem.W.typeIn K (.ref fI) = some (.type "function") ∧ Binds K fd ["self", "position"] [] := by
  obtain ⟨fI, fd, F, i1, i2, b⟩ := Z.ini
  have sc := sc_rini
  exact ⟨fI, fd, fn_init1 (k := 0) F sc rfl Z.oe Z.no fun cdv A outer s H E => (pss_one (ps_ost (pv 0) (pv 1))), i1, i2, b⟩
abbrev st_run : Stmt := (topS 17)
theorem sc_run : FnScope ["text", "at", "characters"] ["text", "at", "characters"] (defScope st_run) := ⟨rfl, rfl, rfl, by decide +kernel, rfl, by decide +kernel, by decide +kernel⟩
def W_run : Spc := fun ds h R => ∃ (L : List Nat) (a : Nat) (z : Str), ds = [dS (S L), dI a, dS z] ∧ a ≤ L.length ∧ L.length ≤ sizeLine ∧ R (dI (a + (Tz.run z (L.drop a)).length : Nat)) h
theorem run_get {z : Str} {u : List Nat} {i : Nat} (hi : i < (Tz.run z u).length) : ∃ c, u[i]? = some c ∧ Tz.inS z c = true := by
  have e : (Tz.run z u)[i]? = u[i]? := by
    have z1 := Tz.run_take (z := z) (u := u)
    rw [← z1, List.getElem?_take, if_pos hi]
  rw [List.getElem?_eq_getElem hi] at e
  exact ⟨_, e.symm, Tz.run_in _ (List.getElem_mem hi)⟩
theorem run_end {z : Str} {u : List Nat} {c : Nat} (h : u[(Tz.run z u).length]? = some c) : Tz.inS z c = false := by
  induction u with
  | nil => simp at h
  | cons d u ih =>
    unfold Tz.run at h ih
    rw [List.takeWhile_cons] at h
    cases e : Tz.inS z d with
    | false => rw [e] at h; cases h; exact e
    | true =>
      rw [e, if_pos rfl, List.length_cons, List.getElem?_cons_succ] at h
      exact ih h
theorem ok_run (A : DefAt K mg "_end_of_run" st_run ["text", "at", "characters"]) (m_len : mg "len" = none) : HasF Pg w K mg base CX0 1 "_end_of_run" ["text", "at", "characters"] (spD K Θ W_run) := by
  have sc := sc_run
  refine A.okD sc W_run (fun ds h R ⟨_, _, _, e, _⟩ => by rw [e]; rfl) fun f cdv A outer s H E hr => ?_
  refine ⟨_, (pss_cons (ps_while PassesOwn.never (PW.pt (pw_and (pt_cmpR op_lt (pv 1) (pe_callB (call_lenK (K := K) (by rfl)) (by rfl) m_len (by decide +kernel) (pa_cons (pv 0) pa_nil)) (nomark _)) (pw_and1 (pt_cmpR (op_inUK (K := K) (by rfl)) (pe_ix (ix_seqK (K := K) (by rfl)) (pv 0) (pv 1) (fun _ _ => rfl)) (pv 2) (by rfl)))))
  (pss_one (ps_aug (i := 1) sc.nd rfl (.inl rfl) pe_int ip_add)))
  (pss_one (ps_ret (pv 1)))), ?_⟩
  try dsimp only [cxOf]
  rintro ds h R ⟨L, a, z, rfl, ha, hl, q⟩
  have rl := Tz.run_le z (L.drop a)
  rw [List.length_drop] at rl
  refine vs_seq ?_
  refine vs_while (fun env' h' => ∃ i : Nat, i ≤ (Tz.run z (L.drop a)).length ∧ env' = [some (dS (S L)), some (dI (a + i : Nat)), some (dS z)] ∧ h' = h) (fun env' _ => match env' with | [_, some (.p (.int x)), _] => (L.length - x.toNat) | _ => 0) ⟨0, Nat.zero_le _, rfl, rfl⟩ ?_
  rintro env' h' ⟨i, hi, rfl, rfl⟩
  k_places
  refine vc_len (n := L.length) ⟨by rw [S_len]; exact hl, S_len L⟩ ?_
  k_places
  by_cases c1 : a + i < L.length
  · refine ite_tt (decide_eq_true (by exact_mod_cast c1)) ?_
    k_places
    refine v2_ixS (by rw [S_len]; exact hl) (at_nat (a + i) (by omega) (List.getElem?_eq_getElem c1)) ?_
    k_places
    refine v2_inC ?_
    have eg : (L.drop a)[i]? = some L[a + i] := by rw [List.getElem?_drop, List.getElem?_eq_getElem c1]
    by_cases c2 : i < (Tz.run z (L.drop a)).length
    · obtain ⟨c, e1, e2⟩ := run_get c2
      rw [eg] at e1
      cases e1
      refine ⟨_, rfl, ite_tt e2 ?_⟩
      refine vs_aug rfl ?_
      k_places
      refine v2_ip (g := fun i j => i + j) ?_
      refine ⟨⟨i + 1, by omega, by rw [show (a + (i + 1) : Nat) = a + i + 1 from rfl]; rfl, rfl⟩, ?_⟩
      show L.length - ((a + i : Nat) + 1 : Int).toNat < L.length - ((a + i : Nat) : Int).toNat
      omega
    · have e : i = (Tz.run z (L.drop a)).length := by omega
      subst e
      have z1 := run_end eg
      refine ⟨_, rfl, ite_ff z1 ?_⟩
      k_places
      exact q
  · refine ite_ff (decide_eq_false (by exact_mod_cast c1)) ?_
    k_places
    have e : i = (Tz.run z (L.drop a)).length := by omega
    subst e
    exact q
end
end Law

namespace Law
open PySem PySem.Spec PyProof.Rows L2 Kb SX
-- the steps that are tried: k_clsL a side condition; k_subL one step; k_places steps as long as one fits
local macro_rules | `(tactic| k_clsL) => `(tactic| first | assumption | decide | omega)
local macro_rules | `(tactic| k_subL) => `(tactic| first
  | (with_reducible refine vs_seq ?_) | (with_reducible refine vs_asg ?_) | (with_reducible refine vg_name ?_) | (with_reducible refine vs_ret ?_) | (with_reducible refine vs_if ?_) | (with_reducible refine vs_next ?_) | (with_reducible refine vs_drop ?_)
  | (with_reducible refine vt_test ?_) | (with_reducible refine vt_B ?_) | (with_reducible refine vt_and ?_) | (with_reducible refine vt_or ?_) | (with_reducible refine vt_not ?_) | (with_reducible refine vt_truth ?_)
  | (with_reducible refine ve_op ?_) | (with_reducible refine ve_isi2 ?_) | ((with_reducible refine isi2_i (T := "tuple") ?hT ?hm ?hn ?_); (case hT => exact rfl); (case hm => decide); (case hn => decide)) | ((with_reducible refine isi2_i (T := "list") ?hT ?hm ?hn ?_); (case hT => exact rfl); (case hm => decide); (case hn => decide)) | ((with_reducible refine isi2_i (T := "int") ?hT ?hm ?hn ?_); (case hT => exact rfl); (case hm => decide); (case hn => decide)) | ((with_reducible refine isi2_i (T := "bool") ?hT ?hm ?hn ?_); (case hT => exact rfl); (case hm => decide); (case hn => decide)) | ((with_reducible refine isi2_i (T := "str") ?hT ?hm ?hn ?_); (case hT => exact rfl); (case hm => decide); (case hn => decide)) | ((with_reducible refine isi2_i (T := "NoneType") ?hT ?hm ?hn ?_); (case hT => exact rfl); (case hm => decide); (case hn => decide)) | (with_reducible refine ve_cb ?_) | (with_reducible refine va_cons ?_) | (with_reducible refine va_nil ?_) | (with_reducible refine ve_call ?_)
  | (with_reducible refine ve_int ?_) | (with_reducible refine ve_str ?_) | (with_reducible refine ve_bl ?_) | (with_reducible refine ve_non ?_) | (with_reducible refine ve_ty ?_)
  | (refine ve_var (by exact rfl) ?_)
  | (with_reducible refine ve_and ?_) | (with_reducible refine ve_or ?_) | (with_reducible refine ve_not ?_) | (with_reducible refine ve_chain ?_) | (with_reducible refine ve_un ?_) | (with_reducible refine ve_if ?_)
  | (with_reducible refine bool_ans ?_) | (with_reducible refine tru_bl ?_)
  | (with_reducible refine vc_intI ?_) | (with_reducible refine vc_intB ?_) | (with_reducible refine v2_addI ?_) | (with_reducible refine v2_sub ?_)
  | (with_reducible refine v2_lt ?_) | (with_reducible refine v2_le ?_) | (with_reducible refine v2_gt ?_) | (with_reducible refine v2_ge ?_)
  | (with_reducible refine v2_eqI ?_) | (with_reducible refine v2_eqS ?_) | (with_reducible refine v2_eqB ?_) | (with_reducible refine v2_neI ?_) | (with_reducible refine v2_neS ?_) | (with_reducible refine v2_neB ?_)
  | (with_reducible refine v2_isN ?_) | (with_reducible refine v2_notN ?_) | (with_reducible refine v2_isNU ?_) | ((with_reducible refine v2_isBl ?hx ?_); (case hx => exact rfl))
  | (with_reducible refine v2_addVI ?_) | (with_reducible refine v2_addWI ?_) | (with_reducible refine v2_ltI ?_) | (with_reducible refine v2_ltB ?_) | (with_reducible refine v2_ltS ?_)
  | ((with_reducible refine v2_divW ?hm ?_); case hm => (constructor <;> k_clsL))
  | ((with_reducible refine v2_mulU ?hm ?_); case hm => first | exact cmul_small (by k_clsL) (by k_clsL) | exact cmul_wide (by k_clsL) (by k_clsL))
  | ((with_reducible refine v2_mod ?hm ?_); case hm => k_clsL) | ((with_reducible refine v2_div ?hm ?_); case hm => (constructor <;> k_clsL))
  | ((with_reducible refine v2_mul ?hm ?_); case hm => first | exact cmul_small (by k_clsL) (by k_clsL) | exact cmul_wide (by k_clsL) (by k_clsL))
  | (with_reducible refine vc_abs ?_) | (with_reducible refine vc_min2 ?_) | (with_reducible refine vc_max2 ?_)
  | (with_reducible refine ve_tup ?_) | ((with_reducible refine tup_j ?hl ?_); (case hl => exact rfl))
  | ((with_reducible refine vc_isi (T := "tuple") ?hT ?hn ?_); (case hT => first | exact rfl | exact ⟨rfl, _, by first | assumption | simp⟩); (case hn => decide)) | ((with_reducible refine vc_isi (T := "list") ?hT ?hn ?_); (case hT => first | exact rfl | exact ⟨rfl, _, by first | assumption | simp⟩); (case hn => decide)) | ((with_reducible refine vc_isi (T := "int") ?hT ?hn ?_); (case hT => first | exact rfl | exact ⟨rfl, _, by first | assumption | simp⟩); (case hn => decide)) | ((with_reducible refine vc_isi (T := "bool") ?hT ?hn ?_); (case hT => first | exact rfl | exact ⟨rfl, _, by first | assumption | simp⟩); (case hn => decide)) | ((with_reducible refine vc_isi (T := "str") ?hT ?hn ?_); (case hT => first | exact rfl | exact ⟨rfl, _, by first | assumption | simp⟩); (case hn => decide)) | ((with_reducible refine vc_isi (T := "NoneType") ?hT ?hn ?_); (case hT => first | exact rfl | exact ⟨rfl, _, by first | assumption | simp⟩); (case hn => decide))
  | (with_reducible refine vc_lenL ?_) | (with_reducible refine vc_lenT ?_) | (with_reducible refine ite_nrefl ?_) | (with_reducible refine ite_refl ?_)
  | ((with_reducible refine ite_tt ?hc ?_); (case hc => first | decide | exact rfl)) | ((with_reducible refine ite_ff ?hc ?_); (case hc => first | decide | exact rfl))
  | (with_reducible refine v1_U ?_))
local macro_rules | `(tactic| k_places) => `(tactic| repeat k_subL)

theorem cutS_S (L : List Nat) (a b : Nat) (h : a ≤ b) : cutS (S L) (some (a : Int)) (some (b : Int)) = S ((L.drop a).take (b - a)) := by
  have e : cutS (S L) (some (a : Int)) (some (b : Int)) = S (cutP L (some (a : Int)) (some (b : Int))) := rfl
  rw [e]
  congr 1
  unfold cutP
  have e1 : HT.sIx L.length 0 (some (a : Int)) = min a L.length := by
    unfold HT.sIx
    simp only []
    split <;> omega
  have e2 : HT.sIx L.length L.length (some (b : Int)) = min b L.length := by
    unfold HT.sIx
    simp only []
    split <;> omega
  rw [e1, e2]
  by_cases c : a ≤ L.length
  · rw [Nat.min_eq_left c, List.take_eq_take_iff, List.length_drop]
    omega
  · have d1 : L.drop (min a L.length) = [] := List.drop_eq_nil_of_le (by omega)
    have d2 : L.drop a = [] := List.drop_eq_nil_of_le (by omega)
    rw [d1, d2, List.take_nil, List.take_nil]
/-- the text from a place on, cut -/
theorem ve_cutS {env : Env'} {K : PySem.W.Frag} {Θ : Kb.Ctx} {h : Hs} {R : D → Hs → Prop} {te : TE} {tl th : TO} (q : VE K Θ te env h fun x h1 => VO K Θ tl env h1 fun lo h2 => VO K Θ th env h2 fun hi h3 => ∃ (L : List Nat) (a b : Nat), x = dS (S L) ∧ lo = some (a : Int) ∧ hi = some (b : Int) ∧ a ≤ b ∧ L.length ≤ sizeLine ∧ R (dS (S ((L.drop a).take (b - a)))) h3) :
    VE K Θ (tSl rSlS te tl th) env h R := ve_slS (fun F ρ σ H Q rl e k => q F ρ σ H Q rl e fun x h1 v F1 ρ1 H1 s1 p1 r1 dx q1 => k x h1 v F1 ρ1 H1 s1 p1 r1 dx (fun F ρ σ H Q rl e k => q1 F ρ σ H Q rl e fun lo h2 F2 ρ2 H2 s2 p2 r2 q2 => k lo h2 F2 ρ2 H2 s2 p2 r2 (fun F ρ σ H Q rl e k => q2 F ρ σ H Q rl e fun hi h3 F3 ρ3 H3 s3 p3 r3 q3 => k hi h3 F3 ρ3 H3 s3 p3 r3 (by
      obtain ⟨L, a, b, rfl, rfl, rfl, hab, hl, q3⟩ := q3
      exact ⟨S L, rfl, by rw [S_len]; exact hl, by rw [cutS_S L a b hab]; exact q3⟩))))
section
variable {Pg : Program} {w : World} {K : PySem.W.Frag} {Θ : List Addr} {mg : Str → Option Value} {base : Heap} {C aK aL : Addr}
abbrev st_word : Stmt := (topS 18)
theorem sc_word : FnScope ["text", "at", "end", "word"] ["text", "at"] (defScope st_word) := ⟨rfl, rfl, rfl, by decide +kernel, rfl, by decide +kernel, by decide +kernel⟩
def W_word : Spc := fun ds h R => ∃ (L : List Nat) (a : Nat), ds = [dS (S L), dI a] ∧ a < L.length ∧ L.length ≤ sizeLine ∧ R (dT [.str (Tz.kindW (Tz.run Tz.ofws (L.drop a))), .str (S (Tz.run Tz.ofws (L.drop a))), .int (a + (Tz.run Tz.ofws (L.drop a)).length : Nat)]) h
theorem ok_word (A : DefAt K mg "_word_at" st_word ["text", "at"]) (T : TokC K mg aK aL)
    (h__end_of_run : HasF Pg w K mg base CX0 1 "_end_of_run" ["text", "at", "characters"] (spD K Θ W_run)) : HasF Pg w K mg base CX0 2 "_word_at" ["text", "at"] (spD K Θ W_word) := by
  have sc := sc_word
  obtain ⟨t1, g_OF_WORDS⟩ := T.ofws
  have g_KEYWORDS := T.gk
  refine A.okD sc W_word (fun ds h R ⟨_, _, e, _⟩ => by rw [e]; rfl) fun f cdv A outer s H E hr => ?_
  refine ⟨_, (pss_cons (ps_set (i := 2) sc.nd rfl (.inl rfl) (h__end_of_run.call (hr.mono (by first | decide | omega)) rfl pass0 (pa_cons (pv 0) (pa_cons (pv 1) (pa_cons (pe_glob (v := .str Tz.ofws) rfl g_OF_WORDS ⟨_, rfl⟩) pa_nil)))))
  (pss_cons (ps_set (i := 3) sc.nd rfl (.inl rfl) (pe_slice sl_str (pv 0) (po_some (pv 1)) (po_some (pv 2))))
  (pss_one (ps_ret (pe_tup (pa_cons (pe_ifExp (pt_cmpR (op_inUK (K := K) (by rfl)) (pv 3) (pe_glob (v := .ref aK) rfl g_KEYWORDS rfl) (by rfl)) pe_str pe_str) (pa_cons (pv 3) (pa_cons (pv 2) pa_nil)))))))), ?_⟩
  try dsimp only [cxOf]
  rintro ds h R ⟨L, a, rfl, ha, hl, q⟩
  have rl := Tz.run_le Tz.ofws (L.drop a)
  rw [List.length_drop] at rl
  k_places
  refine ⟨L, a, Tz.ofws, rfl, by omega, hl, ?_⟩
  k_places
  refine ve_cutS ?_
  k_places
  refine vo_some ?_
  k_places
  refine ⟨_, rfl, vo_some ?_⟩
  k_places
  refine ⟨_, rfl, L, a, a + (Tz.run Tz.ofws (L.drop a)).length, rfl, rfl, rfl, Nat.le_add_right _ _, hl, ?_⟩
  rw [Nat.add_sub_cancel_left, Tz.run_take]
  k_places
  refine ve_cls ?_
  refine v2_inK T.kk ?_
  k_places
  unfold Tz.kindW at q
  refine ite_b (fun c => ?_) (fun c => ?_)
  · rw [c, if_pos rfl] at q
    k_places
    exact q
  · rw [c, if_neg (by decide)] at q
    k_places
    exact q
/-- what a def that may refuse answers -/
def AnsT (C : Addr) (a : Nat) (o : Option (Str × P × Nat)) (h : Hs) (R : D → Hs → Prop) (RX : Exn → Hs → Prop) : Prop := match o with
  | some (k, v, n) => R (dT [.str k, v, .int (a + n : Nat)]) h
  | none => ∀ junk, RX ⟨C, some [("position", .int a)]⟩ (h ++ junk)
theorem ansT_no {C : Addr} {a : Nat} {o : Option (Str × P × Nat)} {h : Hs} {R : D → Hs → Prop} {RX : Exn → Hs → Prop} (q : AnsT C a o h R RX) (e : o = none) : RX ⟨C, some [("position", .int a)]⟩ h := by
  subst e
  have z : RX ⟨C, some [("position", .int a)]⟩ (h ++ []) := q []
  rwa [List.append_nil] at z
abbrev st_int : Stmt := (topS 19)
theorem sc_int : FnScope ["text", "at", "end"] ["text", "at"] (defScope st_int) := ⟨rfl, rfl, rfl, by decide +kernel, rfl, by decide +kernel, by decide +kernel⟩
def W_int (C : Addr) : SpcX := fun ds h R RX => ∃ (L : List Nat) (a : Nat) (c : Nat) (u : List Nat), ds = [dS (S L), dI a] ∧ L.drop a = c :: u ∧ Tz.inS Tz.lets c = false ∧ Tz.inS Tz.digs c = true ∧ a < L.length ∧ L.length ≤ sizeLine ∧ AnsT C a (Tz.tokR (L.drop a)) h R RX
theorem ok_int (A : DefAt K mg "_integer_at" st_int ["text", "at"]) (T : TokC K mg aK aL) (Z : RefC K mg C) (m_int : mg "int" = none)
    (h__end_of_run : HasF Pg w K mg base CX0 1 "_end_of_run" ["text", "at", "characters"] (spD K Θ W_run)) : HasF Pg w K mg base (L2.CX Pg w) 3 "_integer_at" ["text", "at"] (spDX K Θ (W_int C)) := by
  have sc := sc_int
  obtain ⟨t1, g_DIGITS⟩ := T.digs
  obtain ⟨t2, g_MOST_DIGITS⟩ := T.md
  obtain ⟨fI, fd, fI_RefusedText, iC_RefusedText, tI_RefusedText, bI_RefusedText⟩ := ref_init (Pg := Pg) (w := w) (base := base) Z
  have oe_RefusedText := Z.oe
  have mg_RefusedText := Z.at_
  refine A.okX sc (W_int C) (fun ds h R RX ⟨_, _, _, _, e, _⟩ => by rw [e]; rfl) fun f cdv A outer s H E hr => ?_
  refine ⟨_, (pss_cons (ps_set (i := 2) sc.nd rfl (.inl rfl) (h__end_of_run.call (hr.mono (by first | decide | omega)) rfl pass0 (pa_cons (pv 0) (pa_cons (pv 1) (pa_cons (pe_glob (v := .str Tz.digs) rfl g_DIGITS ⟨_, rfl⟩) pa_nil)))))
  (pss_cons (ps_if (pt_cmpR op_gt (pe_op op_sub (pv 2) (pv 1)) (pe_glob (v := .int 30) rfl g_MOST_DIGITS ⟨_, rfl⟩) (nomark _)) (pss_one (ps_raiseF rfl (takes_of rfl rfl rfl rfl) oe_RefusedText iC_RefusedText tI_RefusedText fI_RefusedText (hr.mono (by first | decide | omega)) bI_RefusedText rfl mg_RefusedText (pa_cons (pv 1) pa_nil))) pss_nil)
  (pss_one (ps_ret (pe_tup (pa_cons pe_str (pa_cons (pe_callTy call_intU (by rfl) m_int (by decide +kernel) (pa_cons (pe_slice sl_str (pv 0) (po_some (pv 1)) (po_some (pv 2))) pa_nil)) (pa_cons (pv 2) pa_nil)))))))), ?_⟩
  try dsimp only [cxOf]
  rintro ds h R RX ⟨L, a, c, u, rfl, eu, c1, c2, ha, hl, q⟩
  have rl := Tz.run_le Tz.digs (L.drop a)
  rw [List.length_drop] at rl
  have et : Tz.tokR (L.drop a) = if 30 < (Tz.run Tz.digs (L.drop a)).length then none else some (("integer" : Str), P.int (NumText.digitsVal (Tz.run Tz.digs (L.drop a)) : Nat), (Tz.run Tz.digs (L.drop a)).length) := by
    rw [eu]
    show Tz.tokC c u = _
    unfold Tz.tokC
    rw [c1, if_neg (by decide), c2, if_pos rfl]
  have r0 : 0 < (Tz.run Tz.digs (L.drop a)).length := by
    rw [eu]
    unfold Tz.run
    rw [List.takeWhile_cons, c2, if_pos rfl]
    simp
  k_places
  refine ⟨L, a, Tz.digs, rfl, by omega, hl, ?_⟩
  k_places
  refine ite_dec (fun e => ?_) (fun e => ?_)
  · have e' : 30 < (Tz.run Tz.digs (L.drop a)).length := by omega
    refine vs_raiseF ?_
    k_places
    rw [if_pos e'] at et
    exact ⟨_, rfl, ansT_no q et⟩
  · have e' : ¬ 30 < (Tz.run Tz.digs (L.drop a)).length := by omega
    rw [if_neg e'] at et
    rw [et] at q
    k_places
    refine ve_cutS ?_
    k_places
    refine vo_some ?_
    k_places
    refine ⟨_, rfl, vo_some ?_⟩
    k_places
    refine ⟨_, rfl, L, a, a + (Tz.run Tz.digs (L.drop a)).length, rfl, rfl, rfl, Nat.le_add_right _ _, hl, ?_⟩
    rw [Nat.add_sub_cancel_left, Tz.run_take]
    k_places
    refine vc_intS (int_S (Tz.dig_ok Tz.run_in) (fun z => by rw [z] at r0; simp at r0) (by omega)) (by rw [S_len]; omega) ?_
    k_places
    exact q
end
end Law

namespace Law
open PySem PySem.Spec PyProof.Rows L2 Kb SX TL
-- the steps that are tried: k_clsL a side condition; k_subL one step; k_places steps as long as one fits
local macro_rules | `(tactic| k_clsL) => `(tactic| first | assumption | decide | omega)
local macro_rules | `(tactic| k_subL) => `(tactic| first
  | (with_reducible refine vs_seq ?_) | (with_reducible refine vs_asg ?_) | (with_reducible refine vg_name ?_) | (with_reducible refine vs_ret ?_) | (with_reducible refine vs_if ?_) | (with_reducible refine vs_next ?_) | (with_reducible refine vs_drop ?_)
  | (with_reducible refine vt_test ?_) | (with_reducible refine vt_B ?_) | (with_reducible refine vt_and ?_) | (with_reducible refine vt_or ?_) | (with_reducible refine vt_not ?_) | (with_reducible refine vt_truth ?_)
  | (with_reducible refine ve_op ?_) | (with_reducible refine ve_isi2 ?_) | ((with_reducible refine isi2_i (T := "tuple") ?hT ?hm ?hn ?_); (case hT => exact rfl); (case hm => decide); (case hn => decide)) | ((with_reducible refine isi2_i (T := "list") ?hT ?hm ?hn ?_); (case hT => exact rfl); (case hm => decide); (case hn => decide)) | ((with_reducible refine isi2_i (T := "int") ?hT ?hm ?hn ?_); (case hT => exact rfl); (case hm => decide); (case hn => decide)) | ((with_reducible refine isi2_i (T := "bool") ?hT ?hm ?hn ?_); (case hT => exact rfl); (case hm => decide); (case hn => decide)) | ((with_reducible refine isi2_i (T := "str") ?hT ?hm ?hn ?_); (case hT => exact rfl); (case hm => decide); (case hn => decide)) | ((with_reducible refine isi2_i (T := "NoneType") ?hT ?hm ?hn ?_); (case hT => exact rfl); (case hm => decide); (case hn => decide)) | (with_reducible refine ve_cb ?_) | (with_reducible refine va_cons ?_) | (with_reducible refine va_nil ?_) | (with_reducible refine ve_call ?_)
  | (with_reducible refine ve_int ?_) | (with_reducible refine ve_str ?_) | (with_reducible refine ve_bl ?_) | (with_reducible refine ve_non ?_) | (with_reducible refine ve_ty ?_)
  | (refine ve_var (by exact rfl) ?_)
  | (with_reducible refine ve_and ?_) | (with_reducible refine ve_or ?_) | (with_reducible refine ve_not ?_) | (with_reducible refine ve_chain ?_) | (with_reducible refine ve_un ?_) | (with_reducible refine ve_if ?_)
  | (with_reducible refine bool_ans ?_) | (with_reducible refine tru_bl ?_)
  | (with_reducible refine vc_intI ?_) | (with_reducible refine vc_intB ?_) | (with_reducible refine v2_addI ?_) | (with_reducible refine v2_sub ?_)
  | (with_reducible refine v2_lt ?_) | (with_reducible refine v2_le ?_) | (with_reducible refine v2_gt ?_) | (with_reducible refine v2_ge ?_)
  | (with_reducible refine v2_eqI ?_) | (with_reducible refine v2_eqS ?_) | (with_reducible refine v2_eqB ?_) | (with_reducible refine v2_neI ?_) | (with_reducible refine v2_neS ?_) | (with_reducible refine v2_neB ?_)
  | (with_reducible refine v2_isN ?_) | (with_reducible refine v2_notN ?_) | (with_reducible refine v2_isNU ?_) | ((with_reducible refine v2_isBl ?hx ?_); (case hx => exact rfl))
  | (with_reducible refine v2_addVI ?_) | (with_reducible refine v2_addWI ?_) | (with_reducible refine v2_ltI ?_) | (with_reducible refine v2_ltB ?_) | (with_reducible refine v2_ltS ?_)
  | ((with_reducible refine v2_divW ?hm ?_); case hm => (constructor <;> k_clsL))
  | ((with_reducible refine v2_mulU ?hm ?_); case hm => first | exact cmul_small (by k_clsL) (by k_clsL) | exact cmul_wide (by k_clsL) (by k_clsL))
  | ((with_reducible refine v2_mod ?hm ?_); case hm => k_clsL) | ((with_reducible refine v2_div ?hm ?_); case hm => (constructor <;> k_clsL))
  | ((with_reducible refine v2_mul ?hm ?_); case hm => first | exact cmul_small (by k_clsL) (by k_clsL) | exact cmul_wide (by k_clsL) (by k_clsL))
  | (with_reducible refine vc_abs ?_) | (with_reducible refine vc_min2 ?_) | (with_reducible refine vc_max2 ?_)
  | (with_reducible refine ve_tup ?_) | ((with_reducible refine tup_j ?hl ?_); (case hl => exact rfl))
  | ((with_reducible refine vc_isi (T := "tuple") ?hT ?hn ?_); (case hT => first | exact rfl | exact ⟨rfl, _, by first | assumption | simp⟩); (case hn => decide)) | ((with_reducible refine vc_isi (T := "list") ?hT ?hn ?_); (case hT => first | exact rfl | exact ⟨rfl, _, by first | assumption | simp⟩); (case hn => decide)) | ((with_reducible refine vc_isi (T := "int") ?hT ?hn ?_); (case hT => first | exact rfl | exact ⟨rfl, _, by first | assumption | simp⟩); (case hn => decide)) | ((with_reducible refine vc_isi (T := "bool") ?hT ?hn ?_); (case hT => first | exact rfl | exact ⟨rfl, _, by first | assumption | simp⟩); (case hn => decide)) | ((with_reducible refine vc_isi (T := "str") ?hT ?hn ?_); (case hT => first | exact rfl | exact ⟨rfl, _, by first | assumption | simp⟩); (case hn => decide)) | ((with_reducible refine vc_isi (T := "NoneType") ?hT ?hn ?_); (case hT => first | exact rfl | exact ⟨rfl, _, by first | assumption | simp⟩); (case hn => decide))
  | (with_reducible refine vc_lenL ?_) | (with_reducible refine vc_lenT ?_) | (with_reducible refine ite_nrefl ?_) | (with_reducible refine ite_refl ?_)
  | ((with_reducible refine ite_tt ?hc ?_); (case hc => first | decide | exact rfl)) | ((with_reducible refine ite_ff ?hc ?_); (case hc => first | decide | exact rfl))
  | (with_reducible refine v1_U ?_))
local macro_rules | `(tactic| k_places) => `(tactic| repeat k_subL)

theorem quote_S : ("'" : Str) = ⟨#[39]⟩ := by decide +kernel
theorem getD_S (L : List Nat) (v : Nat) : (S L).cps.getD v 0 = (L[v]?).getD 0 := by
  show L.toArray.getD v 0 = _
  simp [Array.getD, List.getElem?_eq_getElem]
  split <;> simp [*]
theorem find_cases (L : List Nat) {st : Nat} (hs : st ≤ L.length) : (Txt.find3 (S L) "'" (st : Int) = -1 ∧ ∀ c ∈ L.drop st, c ≠ 39) ∨
    ∃ (k : Nat) (u : List Nat), Txt.find3 (S L) "'" (st : Int) = k ∧ st ≤ k ∧ k < L.length ∧ L.drop k = 39 :: u ∧ ∀ c ∈ (L.drop st).take (k - st), c ≠ 39 := by
  have e0 : fromIndex (S L).length (st : Int) = st := by
    unfold fromIndex
    omega
  rw [quote_S]
  rcases StrLaws.find3_spec (S L) 39 (st : Int) with ⟨e, n⟩ | ⟨k, e, h1, h2, h3, n⟩
  · refine .inl ⟨e, fun c hc hx => ?_⟩
    obtain ⟨i, hi, ei⟩ := List.getElem_of_mem hc
    rw [List.length_drop] at hi
    rw [List.getElem_drop] at ei
    have z := n (st + i) (by rw [e0]; omega) (by rw [S_len]; omega)
    rw [getD_S, List.getElem?_eq_getElem (by omega), ei] at z
    exact z hx
  · rw [e0] at h1 n
    rw [S_len] at h2
    rw [getD_S, List.getElem?_eq_getElem h2] at h3
    refine .inr ⟨k, L.drop (k + 1), e, h1, h2, ?_, fun c hc hx => ?_⟩
    · rw [List.drop_eq_getElem_cons h2]
      exact congrArg (· :: L.drop (k + 1)) h3
    · obtain ⟨i, hi, ei⟩ := List.getElem_of_mem hc
      rw [List.length_take, List.length_drop] at hi
      rw [List.getElem_take, List.getElem_drop] at ei
      have z := n (st + i) (by omega) (by omega)
      rw [getD_S, List.getElem?_eq_getElem (by omega), ei] at z
      exact z hx
theorem quo_to {L : List Nat} {st k : Nat} (h1 : st ≤ k) (h2 : k < L.length) (hn : ∀ c ∈ (L.drop st).take (k - st), c ≠ 39) :
    Tz.quo (L.drop st) = (Tz.quo (L.drop k)).map fun q => ((L.drop st).take (k - st) ++ q.1, q.2 + (k - st)) := by
  have e : L.drop st = (L.drop st).take (k - st) ++ L.drop k := by
    have z := (List.take_append_drop (k - st) (L.drop st)).symm
    rw [List.drop_drop, show st + (k - st) = k by omega] at z
    exact z
  have z := Tz.quo_app (u := L.drop k) hn
  rw [← e, List.length_take, List.length_drop, Nat.min_eq_left (by omega)] at z
  exact z
theorem join_S (pcs : List (List Nat)) : Txt.join (Str.ofString "") (pcs.map S) = S pcs.flatten := by
  rw [join_eq]
  have e := TL.tl_join (Str.ofString "") (pcs.map S)
  have e0 : TL.tl (Str.ofString "") = [] := by decide +kernel
  rw [e0, joinL_nil, List.map_map] at e
  have e2 : (TL.tl ∘ S) = (id : List Nat → List Nat) := by funext l; rfl
  rw [e2, List.map_id] at e
  exact TL.ext_tl e
theorem ansT_none {C : Addr} {a : Nat} {o : Option (Str × P × Nat)} {h : Hs} {R : D → Hs → Prop} {RX : Exn → Hs → Prop} (q : AnsT C a o h R RX) (e : o = none) : ∀ junk, RX ⟨C, some [("position", .int a)]⟩ (h ++ junk) := by
  subst e
  exact q
section
variable {Pg : Program} {w : World} {K : PySem.W.Frag} {Θ : List Addr} {mg : Str → Option Value} {base : Heap} {C aK aL : Addr}
abbrev st_txt : Stmt := (topS 20)
theorem sc_txt : FnScope ["text", "at", "parts", "start", "end", "told"] ["text", "at"] (defScope st_txt) := ⟨rfl, rfl, rfl, by decide +kernel, rfl, by decide +kernel, by decide +kernel⟩
def W_txt (C : Addr) : SpcX := fun ds h R RX => ∃ (L : List Nat) (a : Nat) (u : List Nat), ds = [dS (S L), dI a] ∧ L.drop a = 39 :: u ∧ a < L.length ∧ L.length ≤ 10000000 ∧ AnsT C a (Tz.tokR (L.drop a)) h R RX
theorem ok_txt (A : DefAt K mg "_text_at" st_txt ["text", "at"]) (T : TokC K mg aK aL) (Z : RefC K mg C) (m_len : mg "len" = none) : HasF Pg w K mg base (L2.CX Pg w) 3 "_text_at" ["text", "at"] (spDX K Θ (W_txt C)) := by
  have sc := sc_txt
  obtain ⟨t2, g_MOST_CHARACTERS⟩ := T.mc
  obtain ⟨fI, fd, fI_RefusedText, iC_RefusedText, tI_RefusedText, bI_RefusedText⟩ := ref_init (Pg := Pg) (w := w) (base := base) Z
  have oe_RefusedText := Z.oe
  have mg_RefusedText := Z.at_
  refine A.okX sc (W_txt C) (fun ds h R RX ⟨_, _, _, e, _⟩ => by rw [e]; rfl) fun f cdv A outer s H E hr => ?_
  refine ⟨_, (pss_cons (ps_set (i := 2) sc.nd rfl (.inl rfl) (pe_lst pa_nil))
  (pss_cons (ps_set (i := 3) sc.nd rfl (.inl rfl) (pe_op (op_addWK (K := K) (by rfl)) (pv 1) pe_int))
  (pss_cons (ps_set (i := 4) sc.nd rfl (.inl rfl) (pe_bm PySem.F.plainAttrs_str PySem.F.slot_str_find PySem.F.type_str_find mt_find3 (pv 0) (pa_cons pe_str (pa_cons (pv 3) pa_nil))))
  (pss_cons (ps_while (passes_of rfl) (PW.pt (pw_and (pt_cmpR op_ge (pv 4) pe_int (nomark _)) (pw_and1 (pt_cmpR (op_eqUK (K := K) (by rfl) hr.units) (pe_slice sl_str (pv 0) (po_some (pe_op (op_addWK (K := K) (by rfl)) (pv 4) pe_int)) (po_some (pe_op (op_addWK (K := K) (by rfl)) (pv 4) pe_int))) pe_str (nomark _)))))
  (pss_cons (ps_expr (pe_bm PySem.F.plainAttrs_list PySem.F.slot_list_append PySem.F.type_list_append mt_append (pv 2) (pa_cons (pe_slice sl_str (pv 0) (po_some (pv 3)) (po_some (pe_op (op_addWK (K := K) (by rfl)) (pv 4) pe_int))) pa_nil)))
  (pss_cons (ps_set (i := 3) sc.nd rfl (.inl rfl) (pe_op (op_addWK (K := K) (by rfl)) (pv 4) pe_int))
  (pss_one (ps_set (i := 4) sc.nd rfl (.inl rfl) (pe_bm PySem.F.plainAttrs_str PySem.F.slot_str_find PySem.F.type_str_find mt_find3 (pv 0) (pa_cons pe_str (pa_cons (pv 3) pa_nil))))))))
  (pss_cons (ps_if (pt_cmpR op_lt (pv 4) pe_int (nomark _)) (pss_one (ps_raiseF rfl (takes_of rfl rfl rfl rfl) oe_RefusedText iC_RefusedText tI_RefusedText fI_RefusedText (hr.mono (by first | decide | omega)) bI_RefusedText rfl mg_RefusedText (pa_cons (pv 1) pa_nil))) pss_nil)
  (pss_cons (ps_expr (pe_bm PySem.F.plainAttrs_list PySem.F.slot_list_append PySem.F.type_list_append mt_append (pv 2) (pa_cons (pe_slice sl_str (pv 0) (po_some (pv 3)) (po_some (pv 4))) pa_nil)))
  (pss_cons (ps_set (i := 5) sc.nd rfl (.inl rfl) (pe_bm PySem.F.plainAttrs_str PySem.F.slot_str_join PySem.F.type_str_join (mt_joinK (K := K) (by rfl)) pe_str (pa_cons (pv 2) pa_nil)))
  (pss_cons (ps_if (pt_cmpR op_gt (pe_callB (call_lenK (K := K) (by rfl)) (by rfl) m_len (by decide +kernel) (pa_cons (pv 5) pa_nil)) (pe_glob (v := .int 2000) rfl g_MOST_CHARACTERS ⟨_, rfl⟩) (nomark _)) (pss_one (ps_raiseF rfl (takes_of rfl rfl rfl rfl) oe_RefusedText iC_RefusedText tI_RefusedText fI_RefusedText (hr.mono (by first | decide | omega)) bI_RefusedText rfl mg_RefusedText (pa_cons (pv 1) pa_nil))) pss_nil)
  (pss_one (ps_ret (pe_tup (pa_cons pe_str (pa_cons (pv 5) (pa_cons (pe_op (op_addWK (K := K) (by rfl)) (pv 4) pe_int) pa_nil)))))))))))))), ?_⟩
  try dsimp only [cxOf]
  rintro ds h R RX ⟨L, a, u, rfl, eu, ha, hl, q⟩
  have sz := sizeLine_eq
  have et : Tz.tokR (L.drop a) = (match Tz.quo (L.drop (a + 1)) with
      | none => none
      | some (t, n) => if 2000 < t.length then none else some (("text" : Str), P.str (S t), n + 1)) := by
    have e2 : L.drop (a + 1) = u := by
      have z := List.drop_drop (i := 1) (j := a) (l := L)
      rw [eu] at z
      exact z.symm
    rw [eu, e2]
    have e1 : Tz.inS Tz.lets 39 = false := by decide +kernel
    have e3 : Tz.inS Tz.digs 39 = false := by decide +kernel
    show Tz.tokC 39 u = _
    unfold Tz.tokC
    rw [e1, if_neg (by decide), e3, if_neg (by decide), if_pos rfl]
    all_goals (cases Tz.quo u <;> rfl)
  refine vs_fin ?_
  k_places
  refine ve_lstO ?_
  k_places
  refine ⟨by decide, ?_⟩
  k_places
  refine ve_bm ?_
  k_places
  refine ⟨rfl, ?_⟩
  k_places
  refine vm_find3 ?_
  k_places
  refine vs_while (fun env' h' => ∃ (st : Nat) (pcs : List (List Nat)), a + 1 ≤ st ∧ st ≤ L.length ∧ pcs.length ≤ st ∧ pcs.flatten.length ≤ st ∧ Tz.quo (L.drop (a + 1)) = (Tz.quo (L.drop st)).map (fun q => (pcs.flatten ++ q.1, q.2 + (st - (a + 1)))) ∧
    env' = [some (dS (S L)), some (dI a), some (.own h.length), some (dI st), some (dI (Txt.find3 (S L) "'" (st : Int))), none] ∧ h' = h ++ [some (.lst ((pcs.map S).map dS))]) (fun env' _ => match env' with | [_, _, _, some (.p (.int x)), _, _] => (L.length + 2 - x.toNat) | _ => 0)
    ⟨a + 1, [], Nat.le_refl _, ha, by simp, by simp, by cases Tz.quo (L.drop (a + 1)) <;> simp, rfl, rfl⟩ ?_
  rintro env' h' ⟨st, pcs, s0, s1, s2, s3, s4, rfl, rfl⟩
  have hn : (h ++ [some (OO.lst ((pcs.map S).map dS))])[h.length]? = some (some (.lst ((pcs.map S).map dS))) := by simp
  rcases find_cases L s1 with ⟨fe, fn⟩ | ⟨k, v, fe, k1, k2, k3, fn⟩
  · rw [fe]
    rw [Tz.quo_no fn] at s4
    k_places
    have z := ansT_none q (by rw [et, s4]; rfl)
    refine vs_raiseF ?_
    k_places
    exact ⟨_, rfl, z _⟩
  · rw [fe]
    have s5 := quo_to k1 k2 fn
    rw [k3] at s5
    k_places
    refine ve_cutS ?_
    k_places
    refine vo_some ?_
    k_places
    refine ⟨_, rfl, vo_some ?_⟩
    k_places
    refine ⟨_, rfl, L, k + 1, k + 2, rfl, rfl, rfl, by omega, by omega, ?_⟩
    rw [show k + 2 - (k + 1) = 1 by omega]
    k_places
    have d1 : L.drop (k + 1) = v := by
      have z := List.drop_drop (i := 1) (j := k) (l := L)
      rw [k3] at z
      exact z.symm
    rw [d1]
    have seg : ((L.drop st).take (k - st)).length = k - st := by rw [List.length_take, List.length_drop]; omega
    by_cases c2 : v.head? = some 39
    · obtain ⟨v', rfl⟩ : ∃ v', v = 39 :: v' := by
        cases v with
        | nil => cases c2
        | cons x v' => cases c2; exact ⟨v', rfl⟩
      have kl : k + 2 ≤ L.length := by
        have z := congrArg List.length d1
        rw [List.length_drop, List.length_cons] at z
        omega
      have d2 : L.drop (k + 2) = v' := by
        have z := List.drop_drop (i := 1) (j := k + 1) (l := L)
        rw [d1] at z
        exact z.symm
      refine ite_tt (by show decide (S [39] = ("'" : Str)) = true; decide +kernel) ?_
      refine vs_seq ?_
      refine vs_drop ?_
      refine ve_bm ?_
      k_places
      refine ⟨⟨rfl, _, hn⟩, ?_⟩
      k_places
      refine ve_cutS ?_
      k_places
      refine vo_some ?_
      k_places
      refine ⟨_, rfl, vo_some ?_⟩
      k_places
      refine ⟨_, rfl, L, st, k + 1, rfl, rfl, rfl, by omega, by omega, ?_⟩
      k_places
      refine vm_append hn (by simp; omega) ?_
      k_places
      refine ve_bm ?_
      k_places
      refine ⟨rfl, ?_⟩
      k_places
      refine vm_find3 ?_
      k_places
      have pc : (L.drop st).take (k + 1 - st) = (L.drop st).take (k - st) ++ [39] := by
        have e1 : L.drop st = (L.drop st).take (k - st) ++ (39 :: 39 :: v') := by
          have z := (List.take_append_drop (k - st) (L.drop st)).symm
          rw [List.drop_drop, show st + (k - st) = k by omega, k3] at z
          exact z
        rw [e1]
        have e2 : k + 1 - st = ((L.drop st).take (k - st)).length + 1 := by omega
        rw [e2, List.take_length_add_append]
        rw [← e1]
        simp [seg]
      refine ⟨⟨k + 2, pcs ++ [(L.drop st).take (k + 1 - st)], by omega, by omega, by simp; omega, ?_, ?_, rfl, ?_⟩, ?_⟩
      · have e : ([(L.drop st).take (k - st) ++ [39]] : List (List Nat)).flatten = (L.drop st).take (k - st) ++ [39] := by simp
        rw [List.flatten_append, pc, e, List.length_append, List.length_append, seg]
        simp only [List.length_cons, List.length_nil]
        omega
      · rw [s4, s5, Tz.quo_qq, d2, pc]
        cases Tz.quo v' with
        | none => rfl
        | some r =>
          simp [seg]
          omega
      · rw [List.map_append, List.map_append]
        simp
      · show L.length + 2 - ((k : Int) + 2).toNat < L.length + 2 - ((st : Nat) : Int).toNat
        omega
    · have v39 : ∀ c, v.head? = some c → c ≠ 39 := fun c hc e => c2 (by rw [hc, e])
      have no : decide (S (v.take 1) = ("'" : Str)) = false := by
        refine decide_eq_false fun z => ?_
        rw [quote_S] at z
        cases v with
        | nil => exact absurd (congrArg (fun x : Str => x.cps.toList) z) (by simp)
        | cons x v' =>
          have z1 : [x] = [39] := congrArg (fun x : Str => x.cps.toList) z
          cases z1
          exact c2 rfl
      refine ite_ff no ?_
      have e9 : Tz.quo (L.drop (a + 1)) = some (pcs.flatten ++ (L.drop st).take (k - st), k - a) := by
        rw [s4, s5, Tz.quo_q v39]
        simp
        omega
      rw [e9] at et
      have pl : (pcs.flatten ++ (L.drop st).take (k - st)).length ≤ k := by
        rw [List.length_append, seg]; omega
      k_places
      refine ve_bm ?_
      k_places
      refine ⟨⟨rfl, _, hn⟩, ?_⟩
      k_places
      refine ve_cutS ?_
      k_places
      refine vo_some ?_
      k_places
      refine ⟨_, rfl, vo_some ?_⟩
      k_places
      refine ⟨_, rfl, L, st, k, rfl, rfl, rfl, by omega, by omega, ?_⟩
      k_places
      refine vm_append hn (by simp; omega) ?_
      have hs : (h ++ [some (OO.lst ((pcs.map S).map dS))]).set h.length (some (.lst ((pcs.map S).map dS ++ [dS (S ((L.drop st).take (k - st)))]))) = h ++ [some (.lst (((pcs ++ [(L.drop st).take (k - st)]).map S).map dS))] := by
        rw [List.map_append, List.map_append]
        simp
      rw [hs]
      have hn2 : (h ++ [some (OO.lst (((pcs ++ [(L.drop st).take (k - st)]).map S).map dS))])[h.length]? = some (some (.lst (((pcs ++ [(L.drop st).take (k - st)]).map S).map dS))) := by simp
      k_places
      refine ve_bm ?_
      k_places
      refine ⟨rfl, ?_⟩
      k_places
      have jl : ∀ ps : List (List Nat), ((ps.map S).map (·.length)).sum = ps.flatten.length := fun ps => by
        rw [List.length_flatten, List.map_map]
        rfl
      have fl : (pcs ++ [(L.drop st).take (k - st)]).flatten = pcs.flatten ++ (L.drop st).take (k - st) := by simp
      refine vm_joinO hn2 ?_ ?_
      · have e2 : (Str.ofString "").length = 0 := by decide +kernel
        rw [jl, e2, Nat.mul_zero, fl]
        omega
      rw [join_S, fl]
      generalize hh : pcs.flatten ++ (L.drop st).take (k - st) = t at *
      k_places
      refine vc_len (n := t.length) ⟨by rw [S_len]; omega, S_len t⟩ ?_
      k_places
      refine ite_dec (fun e => ?_) (fun e => ?_)
      · have e' : 2000 < t.length := by omega
        have z := ansT_none q (by rw [et]; exact if_pos e')
        refine vs_raiseF ?_
        k_places
        exact ⟨_, rfl, z _⟩
      · have e' : ¬ 2000 < t.length := by omega
        have et2 : Tz.tokR (L.drop a) = some (("text" : Str), P.str (S t), k - a + 1) := by
          rw [et]; exact if_neg e'
        rw [et2] at q
        have q2 : R (dT [.str "text", .str (S t), .int (a + (k - a + 1) : Nat)]) h := q
        rw [show a + (k - a + 1) = k + 1 by omega] at q2
        k_places
        exact fin_p _ q2
end
end Law

namespace Law
open PySem PySem.Spec PyProof.Rows L2 Kb SX TL
-- the steps that are tried: k_clsL a side condition; k_subL one step; k_places steps as long as one fits
local macro_rules | `(tactic| k_clsL) => `(tactic| first | assumption | decide | omega)
local macro_rules | `(tactic| k_subL) => `(tactic| first
  | (with_reducible refine vs_seq ?_) | (with_reducible refine vs_asg ?_) | (with_reducible refine vg_name ?_) | (with_reducible refine vs_ret ?_) | (with_reducible refine vs_if ?_) | (with_reducible refine vs_next ?_) | (with_reducible refine vs_drop ?_)
  | (with_reducible refine vt_test ?_) | (with_reducible refine vt_B ?_) | (with_reducible refine vt_and ?_) | (with_reducible refine vt_or ?_) | (with_reducible refine vt_not ?_) | (with_reducible refine vt_truth ?_)
  | (with_reducible refine ve_op ?_) | (with_reducible refine ve_isi2 ?_) | ((with_reducible refine isi2_i (T := "tuple") ?hT ?hm ?hn ?_); (case hT => exact rfl); (case hm => decide); (case hn => decide)) | ((with_reducible refine isi2_i (T := "list") ?hT ?hm ?hn ?_); (case hT => exact rfl); (case hm => decide); (case hn => decide)) | ((with_reducible refine isi2_i (T := "int") ?hT ?hm ?hn ?_); (case hT => exact rfl); (case hm => decide); (case hn => decide)) | ((with_reducible refine isi2_i (T := "bool") ?hT ?hm ?hn ?_); (case hT => exact rfl); (case hm => decide); (case hn => decide)) | ((with_reducible refine isi2_i (T := "str") ?hT ?hm ?hn ?_); (case hT => exact rfl); (case hm => decide); (case hn => decide)) | ((with_reducible refine isi2_i (T := "NoneType") ?hT ?hm ?hn ?_); (case hT => exact rfl); (case hm => decide); (case hn => decide)) | (with_reducible refine ve_cb ?_) | (with_reducible refine va_cons ?_) | (with_reducible refine va_nil ?_) | (with_reducible refine ve_call ?_)
  | (with_reducible refine ve_int ?_) | (with_reducible refine ve_str ?_) | (with_reducible refine ve_bl ?_) | (with_reducible refine ve_non ?_) | (with_reducible refine ve_ty ?_)
  | (refine ve_var (by exact rfl) ?_)
  | (with_reducible refine ve_and ?_) | (with_reducible refine ve_or ?_) | (with_reducible refine ve_not ?_) | (with_reducible refine ve_chain ?_) | (with_reducible refine ve_un ?_) | (with_reducible refine ve_if ?_)
  | (with_reducible refine bool_ans ?_) | (with_reducible refine tru_bl ?_)
  | (with_reducible refine vc_intI ?_) | (with_reducible refine vc_intB ?_) | (with_reducible refine v2_addI ?_) | (with_reducible refine v2_sub ?_)
  | (with_reducible refine v2_lt ?_) | (with_reducible refine v2_le ?_) | (with_reducible refine v2_gt ?_) | (with_reducible refine v2_ge ?_)
  | (with_reducible refine v2_eqI ?_) | (with_reducible refine v2_eqS ?_) | (with_reducible refine v2_eqB ?_) | (with_reducible refine v2_neI ?_) | (with_reducible refine v2_neS ?_) | (with_reducible refine v2_neB ?_)
  | (with_reducible refine v2_isN ?_) | (with_reducible refine v2_notN ?_) | (with_reducible refine v2_isNU ?_) | ((with_reducible refine v2_isBl ?hx ?_); (case hx => exact rfl))
  | (with_reducible refine v2_addVI ?_) | (with_reducible refine v2_addWI ?_) | (with_reducible refine v2_ltI ?_) | (with_reducible refine v2_ltB ?_) | (with_reducible refine v2_ltS ?_)
  | ((with_reducible refine v2_divW ?hm ?_); case hm => (constructor <;> k_clsL))
  | ((with_reducible refine v2_mulU ?hm ?_); case hm => first | exact cmul_small (by k_clsL) (by k_clsL) | exact cmul_wide (by k_clsL) (by k_clsL))
  | ((with_reducible refine v2_mod ?hm ?_); case hm => k_clsL) | ((with_reducible refine v2_div ?hm ?_); case hm => (constructor <;> k_clsL))
  | ((with_reducible refine v2_mul ?hm ?_); case hm => first | exact cmul_small (by k_clsL) (by k_clsL) | exact cmul_wide (by k_clsL) (by k_clsL))
  | (with_reducible refine vc_abs ?_) | (with_reducible refine vc_min2 ?_) | (with_reducible refine vc_max2 ?_)
  | (with_reducible refine ve_tup ?_) | ((with_reducible refine tup_j ?hl ?_); (case hl => exact rfl))
  | ((with_reducible refine vc_isi (T := "tuple") ?hT ?hn ?_); (case hT => first | exact rfl | exact ⟨rfl, _, by first | assumption | simp⟩); (case hn => decide)) | ((with_reducible refine vc_isi (T := "list") ?hT ?hn ?_); (case hT => first | exact rfl | exact ⟨rfl, _, by first | assumption | simp⟩); (case hn => decide)) | ((with_reducible refine vc_isi (T := "int") ?hT ?hn ?_); (case hT => first | exact rfl | exact ⟨rfl, _, by first | assumption | simp⟩); (case hn => decide)) | ((with_reducible refine vc_isi (T := "bool") ?hT ?hn ?_); (case hT => first | exact rfl | exact ⟨rfl, _, by first | assumption | simp⟩); (case hn => decide)) | ((with_reducible refine vc_isi (T := "str") ?hT ?hn ?_); (case hT => first | exact rfl | exact ⟨rfl, _, by first | assumption | simp⟩); (case hn => decide)) | ((with_reducible refine vc_isi (T := "NoneType") ?hT ?hn ?_); (case hT => first | exact rfl | exact ⟨rfl, _, by first | assumption | simp⟩); (case hn => decide))
  | (with_reducible refine vc_lenL ?_) | (with_reducible refine vc_lenT ?_) | (with_reducible refine ite_nrefl ?_) | (with_reducible refine ite_refl ?_)
  | ((with_reducible refine ite_tt ?hc ?_); (case hc => first | decide | exact rfl)) | ((with_reducible refine ite_ff ?hc ?_); (case hc => first | decide | exact rfl))
  | (with_reducible refine v1_U ?_))
local macro_rules | `(tactic| k_places) => `(tactic| repeat k_subL)

theorem drop_1 {L u : List Nat} {a c : Nat} (e : L.drop a = c :: u) : L.drop (a + 1) = u := by
  have z := List.drop_drop (i := 1) (j := a) (l := L)
  rw [e] at z
  exact z.symm
theorem drop_at {L u : List Nat} {a c : Nat} (e : L.drop a = c :: u) : a < L.length ∧ L[a]? = some c := by
  have z : (L.drop a)[0]? = some c := by rw [e]; rfl
  rw [List.getElem?_drop] at z
  exact ⟨(List.getElem?_eq_some_iff.mp z).1, z⟩
section
variable {Pg : Program} {w : World} {K : PySem.W.Frag} {Θ : List Addr} {mg : Str → Option Value} {base : Heap} {C aK aL : Addr}
abbrev st_par : Stmt := (topS 21)
theorem sc_par : FnScope ["text", "at", "end"] ["text", "at"] (defScope st_par) := ⟨rfl, rfl, rfl, by decide +kernel, rfl, by decide +kernel, by decide +kernel⟩
def W_par (C : Addr) : SpcX := fun ds h R RX => ∃ (L : List Nat) (a : Nat) (u : List Nat), ds = [dS (S L), dI a] ∧ L.drop a = 36 :: u ∧ a < L.length ∧ L.length ≤ 10000000 ∧ AnsT C a (Tz.tokR (L.drop a)) h R RX
theorem ok_par (A : DefAt K mg "_parameter_at" st_par ["text", "at"]) (T : TokC K mg aK aL) (Z : RefC K mg C) (m_int : mg "int" = none)
    (h__end_of_run : HasF Pg w K mg base CX0 1 "_end_of_run" ["text", "at", "characters"] (spD K Θ W_run)) : HasF Pg w K mg base (L2.CX Pg w) 3 "_parameter_at" ["text", "at"] (spDX K Θ (W_par C)) := by
  have sc := sc_par
  obtain ⟨t1, g_DIGITS⟩ := T.digs
  obtain ⟨fI, fd, fI_RefusedText, iC_RefusedText, tI_RefusedText, bI_RefusedText⟩ := ref_init (Pg := Pg) (w := w) (base := base) Z
  have oe_RefusedText := Z.oe
  have mg_RefusedText := Z.at_
  refine A.okX sc (W_par C) (fun ds h R RX ⟨_, _, _, e, _⟩ => by rw [e]; rfl) fun f cdv A outer s H E hr => ?_
  refine ⟨_, (pss_cons (ps_set (i := 2) sc.nd rfl (.inl rfl) (h__end_of_run.call (hr.mono (by first | decide | omega)) rfl pass0 (pa_cons (pv 0) (pa_cons (pe_op (op_addWK (K := K) (by rfl)) (pv 1) pe_int) (pa_cons (pe_glob (v := .str Tz.digs) rfl g_DIGITS ⟨_, rfl⟩) pa_nil)))))
  (pss_cons (ps_if (pt_cmpR (op_ninUK (K := K) (by rfl)) (pe_op op_sub (pv 2) (pv 1)) (pe_tup (pa_cons pe_int (pa_cons pe_int pa_nil))) (by rfl)) (pss_one (ps_raiseF rfl (takes_of rfl rfl rfl rfl) oe_RefusedText iC_RefusedText tI_RefusedText fI_RefusedText (hr.mono (by first | decide | omega)) bI_RefusedText rfl mg_RefusedText (pa_cons (pv 1) pa_nil))) pss_nil)
  (pss_one (ps_ret (pe_tup (pa_cons pe_str (pa_cons (pe_callTy call_intU (by rfl) m_int (by decide +kernel) (pa_cons (pe_slice sl_str (pv 0) (po_some (pe_op (op_addWK (K := K) (by rfl)) (pv 1) pe_int)) (po_some (pv 2))) pa_nil)) (pa_cons (pv 2) pa_nil)))))))), ?_⟩
  try dsimp only [cxOf]
  rintro ds h R RX ⟨L, a, u, rfl, eu, ha, hl, q⟩
  have sz := sizeLine_eq
  have eu1 := drop_1 eu
  have rl := Tz.run_le Tz.digs (L.drop (a + 1))
  rw [List.length_drop] at rl
  have et : Tz.tokR (L.drop a) = if (Tz.run Tz.digs (L.drop (a + 1))).length = 1 ∨ (Tz.run Tz.digs (L.drop (a + 1))).length = 2 then some (("parameter" : Str), P.int (NumText.digitsVal (Tz.run Tz.digs (L.drop (a + 1))) : Nat), (Tz.run Tz.digs (L.drop (a + 1))).length + 1) else none := by
    have e1 : Tz.inS Tz.lets 36 = false := by decide +kernel
    have e2 : Tz.inS Tz.digs 36 = false := by decide +kernel
    rw [eu, eu1]
    show Tz.tokC 36 u = _
    unfold Tz.tokC
    rw [e1, if_neg (by decide), e2, if_neg (by decide), if_neg (by decide), if_pos rfl]
  k_places
  refine ⟨L, a + 1, Tz.digs, rfl, by omega, by omega, ?_⟩
  k_places
  refine v2_ninTI (ns := [2, 3]) ?_
  k_places
  refine ite_ndec (fun e => ?_) (fun e => ?_)
  · simp only [List.mem_cons, List.mem_nil_iff, or_false] at e
    rw [if_neg (by omega)] at et
    have z := ansT_none q et
    refine vs_raiseF ?_
    k_places
    have z1 := z []
    rw [List.append_nil] at z1
    exact ⟨_, rfl, z1⟩
  · simp only [List.mem_cons, List.mem_nil_iff, or_false] at e
    rw [if_pos (by omega)] at et
    rw [et] at q
    k_places
    refine ve_cutS ?_
    k_places
    refine vo_some ?_
    k_places
    refine ⟨_, rfl, vo_some ?_⟩
    k_places
    refine ⟨_, rfl, L, a + 1, a + 1 + (Tz.run Tz.digs (L.drop (a + 1))).length, rfl, rfl, rfl, Nat.le_add_right _ _, by omega, ?_⟩
    rw [Nat.add_sub_cancel_left, Tz.run_take]
    k_places
    refine vc_intS (int_S (Tz.dig_ok Tz.run_in) (fun z => by rw [z] at e; simp at e; omega) (by omega)) (by rw [S_len]; omega) ?_
    k_places
    have q2 : R (dT [.str "parameter", .int (NumText.digitsVal (Tz.run Tz.digs (L.drop (a + 1))) : Nat), .int (a + ((Tz.run Tz.digs (L.drop (a + 1))).length + 1) : Nat)]) h := q
    rw [show a + ((Tz.run Tz.digs (L.drop (a + 1))).length + 1) = a + 1 + (Tz.run Tz.digs (L.drop (a + 1))).length by omega] at q2
    exact q2
abbrev st_sgn : Stmt := (topS 22)
theorem sc_sgn : FnScope ["text", "at"] ["text", "at"] (defScope st_sgn) := ⟨rfl, rfl, rfl, by decide +kernel, rfl, by decide +kernel, by decide +kernel⟩
def W_sgn (C : Addr) : SpcX := fun ds h R RX => ∃ (L : List Nat) (a c : Nat) (u : List Nat), ds = [dS (S L), dI a] ∧ L.drop a = c :: u ∧ Tz.inS Tz.lets c = false ∧ Tz.inS Tz.digs c = false ∧ c ≠ 39 ∧ c ≠ 36 ∧ a < L.length ∧ L.length ≤ 10000000 ∧ AnsT C a (Tz.tokR (L.drop a)) h R RX
theorem ok_sgn (A : DefAt K mg "_sign_at" st_sgn ["text", "at"]) (T : TokC K mg aK aL) (Z : RefC K mg C) : HasF Pg w K mg base (L2.CX Pg w) 3 "_sign_at" ["text", "at"] (spDX K Θ (W_sgn C)) := by
  have sc := sc_sgn
  obtain ⟨t1, g_SHORT_SIGNS⟩ := T.shorts
  have g_LONG_SIGNS := T.gl
  obtain ⟨fI, fd, fI_RefusedText, iC_RefusedText, tI_RefusedText, bI_RefusedText⟩ := ref_init (Pg := Pg) (w := w) (base := base) Z
  have oe_RefusedText := Z.oe
  have mg_RefusedText := Z.at_
  refine A.okX sc (W_sgn C) (fun ds h R RX ⟨_, _, _, _, e, _⟩ => by rw [e]; rfl) fun f cdv A outer s H E hr => ?_
  refine ⟨_, (pss_cons (ps_if (pt_cmpR (op_inUK (K := K) (by rfl)) (pe_slice sl_str (pv 0) (po_some (pv 1)) (po_some (pe_op (op_addWK (K := K) (by rfl)) (pv 1) pe_int))) (pe_glob (v := .ref aL) rfl g_LONG_SIGNS rfl) (by rfl)) (pss_one (ps_ret (pe_tup (pa_cons pe_str (pa_cons (pe_slice sl_str (pv 0) (po_some (pv 1)) (po_some (pe_op (op_addWK (K := K) (by rfl)) (pv 1) pe_int))) (pa_cons (pe_op (op_addWK (K := K) (by rfl)) (pv 1) pe_int) pa_nil)))))) pss_nil)
  (pss_cons (ps_if (pt_cmpR (op_inUK (K := K) (by rfl)) (pe_ix (ix_seqK (K := K) (by rfl)) (pv 0) (pv 1) (fun _ _ => rfl)) (pe_glob (v := .str Tz.shorts) rfl g_SHORT_SIGNS ⟨_, rfl⟩) (by rfl)) (pss_one (ps_ret (pe_tup (pa_cons pe_str (pa_cons (pe_ix (ix_seqK (K := K) (by rfl)) (pv 0) (pv 1) (fun _ _ => rfl)) (pa_cons (pe_op (op_addWK (K := K) (by rfl)) (pv 1) pe_int) pa_nil)))))) pss_nil)
  (pss_one (ps_raiseF rfl (takes_of rfl rfl rfl rfl) oe_RefusedText iC_RefusedText tI_RefusedText fI_RefusedText (hr.mono (by first | decide | omega)) bI_RefusedText rfl mg_RefusedText (pa_cons (pv 1) pa_nil))))), ?_⟩
  try dsimp only [cxOf]
  rintro ds h R RX ⟨L, a, c, u, rfl, eu, c1, c2, c3, c4, ha, hl, q⟩
  have sz := sizeLine_eq
  obtain ⟨_, ec⟩ := drop_at eu
  have et : Tz.tokR (L.drop a) = if decide (S ((L.drop a).take 2) ∈ Tz.longs) = true then some (("sign" : Str), P.str (S ((L.drop a).take 2)), 2) else if Tz.inS Tz.shorts c = true then some (("sign" : Str), P.str (S [c]), 1) else none := by
    rw [eu]
    show Tz.tokC c u = _
    unfold Tz.tokC
    rw [c1, if_neg (by decide), c2, if_neg (by decide), if_neg c3, if_neg c4]
  k_places
  refine ve_cutS ?_
  k_places
  refine vo_some ?_
  k_places
  refine ⟨_, rfl, vo_some ?_⟩
  k_places
  refine ⟨_, rfl, L, a, a + 2, rfl, rfl, rfl, by omega, by omega, ?_⟩
  rw [Nat.add_sub_cancel_left]
  k_places
  refine ve_cls ?_
  refine v2_inK T.kl ?_
  k_places
  refine ite_b (fun e => ?_) (fun e => ?_)
  · rw [if_pos e] at et
    rw [et] at q
    k_places
    refine ve_cutS ?_
    k_places
    refine vo_some ?_
    k_places
    refine ⟨_, rfl, vo_some ?_⟩
    k_places
    refine ⟨_, rfl, L, a, a + 2, rfl, rfl, rfl, by omega, by omega, ?_⟩
    rw [Nat.add_sub_cancel_left]
    k_places
    exact q
  · rw [if_neg (by rw [e]; decide)] at et
    k_places
    refine v2_ixS (by rw [S_len]; omega) (at_nat a (by omega) ec) ?_
    k_places
    refine v2_inC ?_
    refine ⟨_, rfl, ite_b (fun e2 => ?_) (fun e2 => ?_)⟩
    · rw [if_pos e2] at et
      rw [et] at q
      k_places
      refine v2_ixS (by rw [S_len]; omega) (at_nat a (by omega) ec) ?_
      k_places
      exact q
    · rw [if_neg (fun z => Bool.noConfusion (e2.symm.trans z))] at et
      k_places
      have z := ansT_none q et
      refine vs_raiseF ?_
      k_places
      have z1 := z []
      rw [List.append_nil] at z1
      exact ⟨_, rfl, z1⟩
abbrev st_tka : Stmt := (topS 16)
theorem sc_tka : FnScope ["text", "at", "first"] ["text", "at"] (defScope st_tka) := ⟨rfl, rfl, rfl, by decide +kernel, rfl, by decide +kernel, by decide +kernel⟩
def W_tka (C : Addr) : SpcX := fun ds h R RX => ∃ (L : List Nat) (a : Nat), ds = [dS (S L), dI a] ∧ a < L.length ∧ L.length ≤ 10000000 ∧ AnsT C a (Tz.tokR (L.drop a)) h R RX
theorem ok_tka (A : DefAt K mg "_token_at" st_tka ["text", "at"]) (T : TokC K mg aK aL) (h__word_at : HasF Pg w K mg base CX0 2 "_word_at" ["text", "at"] (spD K Θ W_word))
    (h__integer_at : HasF Pg w K mg base (L2.CX Pg w) 3 "_integer_at" ["text", "at"] (spDX K Θ (W_int C))) (h__text_at : HasF Pg w K mg base (L2.CX Pg w) 3 "_text_at" ["text", "at"] (spDX K Θ (W_txt C)))
    (h__parameter_at : HasF Pg w K mg base (L2.CX Pg w) 3 "_parameter_at" ["text", "at"] (spDX K Θ (W_par C))) (h__sign_at : HasF Pg w K mg base (L2.CX Pg w) 3 "_sign_at" ["text", "at"] (spDX K Θ (W_sgn C))) :
    HasF Pg w K mg base (L2.CX Pg w) 4 "_token_at" ["text", "at"] (spDX K Θ (W_tka C)) := by
  have sc := sc_tka
  obtain ⟨t1, g_LETTERS⟩ := T.lets
  obtain ⟨t2, g_DIGITS⟩ := T.digs
  refine A.okX sc (W_tka C) (fun ds h R RX ⟨_, _, e, _⟩ => by rw [e]; rfl) fun f cdv A outer s H E hr => ?_
  refine ⟨_, (pss_cons (ps_set (i := 2) sc.nd rfl (.inl rfl) (pe_ix (ix_seqK (K := K) (by rfl)) (pv 0) (pv 1) (fun _ _ => rfl)))
  (pss_cons (ps_if (pt_cmpR (op_inUK (K := K) (by rfl)) (pv 2) (pe_glob (v := .str Tz.lets) rfl g_LETTERS ⟨_, rfl⟩) (by rfl)) (pss_one (ps_ret (h__word_at.call (hr.mono (by first | decide | omega)) rfl pass0 (pa_cons (pv 0) (pa_cons (pv 1) pa_nil))))) pss_nil)
  (pss_cons (ps_if (pt_cmpR (op_inUK (K := K) (by rfl)) (pv 2) (pe_glob (v := .str Tz.digs) rfl g_DIGITS ⟨_, rfl⟩) (by rfl)) (pss_one (ps_ret (h__integer_at.call (hr.mono (by first | decide | omega)) rfl (passes_call (takes_of rfl rfl rfl rfl) fun _ _ _ _ h => h) (pa_cons (pv 0) (pa_cons (pv 1) pa_nil))))) pss_nil)
  (pss_cons (ps_if (pt_cmpR (op_eqUK (K := K) (by rfl) hr.units) (pv 2) pe_str (nomark _)) (pss_one (ps_ret (h__text_at.call (hr.mono (by first | decide | omega)) rfl (passes_call (takes_of rfl rfl rfl rfl) fun _ _ _ _ h => h) (pa_cons (pv 0) (pa_cons (pv 1) pa_nil))))) pss_nil)
  (pss_cons (ps_if (pt_cmpR (op_eqUK (K := K) (by rfl) hr.units) (pv 2) pe_str (nomark _)) (pss_one (ps_ret (h__parameter_at.call (hr.mono (by first | decide | omega)) rfl (passes_call (takes_of rfl rfl rfl rfl) fun _ _ _ _ h => h) (pa_cons (pv 0) (pa_cons (pv 1) pa_nil))))) pss_nil)
  (pss_one (ps_ret (h__sign_at.call (hr.mono (by first | decide | omega)) rfl (passes_call (takes_of rfl rfl rfl rfl) fun _ _ _ _ h => h) (pa_cons (pv 0) (pa_cons (pv 1) pa_nil)))))))))), ?_⟩
  try dsimp only [cxOf]
  rintro ds h R RX ⟨L, a, rfl, ha, hl, q⟩
  have sz := sizeLine_eq
  have eu := List.drop_eq_getElem_cons ha
  have ec := List.getElem?_eq_getElem ha
  generalize hc : L[a] = c at *
  generalize hu : L.drop (a + 1) = u at *
  have one : ∀ d : Nat, (⟨#[c]⟩ : Str) = S [d] ↔ c = d := fun d => ⟨fun z => by
    have z1 : [c] = [d] := congrArg (fun x : Str => x.cps.toList) z
    cases z1; rfl, fun z => by rw [z]⟩
  have s39 : ("'" : Str) = S [39] := by decide +kernel
  have s36 : ("$" : Str) = S [36] := by decide +kernel
  k_places
  refine v2_ixS (by rw [S_len]; omega) (at_nat a (by omega) ec) ?_
  k_places
  refine v2_inC ?_
  refine ⟨_, rfl, ite_b (fun e1 => ?_) (fun e1 => ?_)⟩
  · k_places
    refine ⟨L, a, rfl, ha, by omega, ?_⟩
    have et : Tz.tokR (L.drop a) = some (Tz.kindW (Tz.run Tz.ofws (L.drop a)), .str (S (Tz.run Tz.ofws (L.drop a))), (Tz.run Tz.ofws (L.drop a)).length) := by
      rw [eu]
      show Tz.tokC c u = _
      unfold Tz.tokC
      rw [if_pos e1]
    rw [et] at q
    exact q
  k_places
  refine v2_inC ?_
  refine ⟨_, rfl, ite_b (fun e2 => ?_) (fun e2 => ?_)⟩
  · k_places
    refine ve_callX ?_
    k_places
    exact ⟨L, a, c, u, rfl, eu, e1, e2, ha, by omega, q⟩
  k_places
  refine ite_dec (fun e3 => ?_) (fun e3 => ?_)
  · rw [s39, one] at e3
    subst e3
    k_places
    refine ve_callX ?_
    k_places
    exact ⟨L, a, u, rfl, by rw [eu], ha, hl, q⟩
  k_places
  rw [s39, one] at e3
  refine ite_dec (fun e4 => ?_) (fun e4 => ?_)
  · rw [s36, one] at e4
    subst e4
    k_places
    refine ve_callX ?_
    k_places
    exact ⟨L, a, u, rfl, by rw [eu], ha, hl, q⟩
  rw [s36, one] at e4
  k_places
  refine ve_callX ?_
  k_places
  exact ⟨L, a, c, u, rfl, eu, e1, e2, e3, e4, ha, hl, q⟩
end
end Law

namespace Law
open PySem PySem.Spec PyProof.Rows L2 Kb SX TL
-- the steps that are tried: k_clsL a side condition; k_subL one step; k_places steps as long as one fits
local macro_rules | `(tactic| k_clsL) => `(tactic| first | assumption | decide | omega)
local macro_rules | `(tactic| k_subL) => `(tactic| first
  | (with_reducible refine vs_seq ?_) | (with_reducible refine vs_asg ?_) | (with_reducible refine vg_name ?_) | (with_reducible refine vs_ret ?_) | (with_reducible refine vs_if ?_) | (with_reducible refine vs_next ?_) | (with_reducible refine vs_drop ?_)
  | (with_reducible refine vt_test ?_) | (with_reducible refine vt_B ?_) | (with_reducible refine vt_and ?_) | (with_reducible refine vt_or ?_) | (with_reducible refine vt_not ?_) | (with_reducible refine vt_truth ?_)
  | (with_reducible refine ve_op ?_) | (with_reducible refine ve_isi2 ?_) | ((with_reducible refine isi2_i (T := "tuple") ?hT ?hm ?hn ?_); (case hT => exact rfl); (case hm => decide); (case hn => decide)) | ((with_reducible refine isi2_i (T := "list") ?hT ?hm ?hn ?_); (case hT => exact rfl); (case hm => decide); (case hn => decide)) | ((with_reducible refine isi2_i (T := "int") ?hT ?hm ?hn ?_); (case hT => exact rfl); (case hm => decide); (case hn => decide)) | ((with_reducible refine isi2_i (T := "bool") ?hT ?hm ?hn ?_); (case hT => exact rfl); (case hm => decide); (case hn => decide)) | ((with_reducible refine isi2_i (T := "str") ?hT ?hm ?hn ?_); (case hT => exact rfl); (case hm => decide); (case hn => decide)) | ((with_reducible refine isi2_i (T := "NoneType") ?hT ?hm ?hn ?_); (case hT => exact rfl); (case hm => decide); (case hn => decide)) | (with_reducible refine ve_cb ?_) | (with_reducible refine va_cons ?_) | (with_reducible refine va_nil ?_) | (with_reducible refine ve_call ?_)
  | (with_reducible refine ve_int ?_) | (with_reducible refine ve_str ?_) | (with_reducible refine ve_bl ?_) | (with_reducible refine ve_non ?_) | (with_reducible refine ve_ty ?_)
  | (refine ve_var (by exact rfl) ?_)
  | (with_reducible refine ve_and ?_) | (with_reducible refine ve_or ?_) | (with_reducible refine ve_not ?_) | (with_reducible refine ve_chain ?_) | (with_reducible refine ve_un ?_) | (with_reducible refine ve_if ?_)
  | (with_reducible refine bool_ans ?_) | (with_reducible refine tru_bl ?_)
  | (with_reducible refine vc_intI ?_) | (with_reducible refine vc_intB ?_) | (with_reducible refine v2_addI ?_) | (with_reducible refine v2_sub ?_)
  | (with_reducible refine v2_lt ?_) | (with_reducible refine v2_le ?_) | (with_reducible refine v2_gt ?_) | (with_reducible refine v2_ge ?_)
  | (with_reducible refine v2_eqI ?_) | (with_reducible refine v2_eqS ?_) | (with_reducible refine v2_eqB ?_) | (with_reducible refine v2_neI ?_) | (with_reducible refine v2_neS ?_) | (with_reducible refine v2_neB ?_)
  | (with_reducible refine v2_isN ?_) | (with_reducible refine v2_notN ?_) | (with_reducible refine v2_isNU ?_) | ((with_reducible refine v2_isBl ?hx ?_); (case hx => exact rfl))
  | (with_reducible refine v2_addVI ?_) | (with_reducible refine v2_addWI ?_) | (with_reducible refine v2_ltI ?_) | (with_reducible refine v2_ltB ?_) | (with_reducible refine v2_ltS ?_)
  | ((with_reducible refine v2_divW ?hm ?_); case hm => (constructor <;> k_clsL))
  | ((with_reducible refine v2_mulU ?hm ?_); case hm => first | exact cmul_small (by k_clsL) (by k_clsL) | exact cmul_wide (by k_clsL) (by k_clsL))
  | ((with_reducible refine v2_mod ?hm ?_); case hm => k_clsL) | ((with_reducible refine v2_div ?hm ?_); case hm => (constructor <;> k_clsL))
  | ((with_reducible refine v2_mul ?hm ?_); case hm => first | exact cmul_small (by k_clsL) (by k_clsL) | exact cmul_wide (by k_clsL) (by k_clsL))
  | (with_reducible refine vc_abs ?_) | (with_reducible refine vc_min2 ?_) | (with_reducible refine vc_max2 ?_)
  | (with_reducible refine ve_tup ?_) | ((with_reducible refine tup_j ?hl ?_); (case hl => exact rfl))
  | ((with_reducible refine vc_isi (T := "tuple") ?hT ?hn ?_); (case hT => first | exact rfl | exact ⟨rfl, _, by first | assumption | simp⟩); (case hn => decide)) | ((with_reducible refine vc_isi (T := "list") ?hT ?hn ?_); (case hT => first | exact rfl | exact ⟨rfl, _, by first | assumption | simp⟩); (case hn => decide)) | ((with_reducible refine vc_isi (T := "int") ?hT ?hn ?_); (case hT => first | exact rfl | exact ⟨rfl, _, by first | assumption | simp⟩); (case hn => decide)) | ((with_reducible refine vc_isi (T := "bool") ?hT ?hn ?_); (case hT => first | exact rfl | exact ⟨rfl, _, by first | assumption | simp⟩); (case hn => decide)) | ((with_reducible refine vc_isi (T := "str") ?hT ?hn ?_); (case hT => first | exact rfl | exact ⟨rfl, _, by first | assumption | simp⟩); (case hn => decide)) | ((with_reducible refine vc_isi (T := "NoneType") ?hT ?hn ?_); (case hT => first | exact rfl | exact ⟨rfl, _, by first | assumption | simp⟩); (case hn => decide))
  | (with_reducible refine vc_lenL ?_) | (with_reducible refine vc_lenT ?_) | (with_reducible refine ite_nrefl ?_) | (with_reducible refine ite_refl ?_)
  | ((with_reducible refine ite_tt ?hc ?_); (case hc => first | decide | exact rfl)) | ((with_reducible refine ite_ff ?hc ?_); (case hc => first | decide | exact rfl))
  | (with_reducible refine v1_U ?_))
local macro_rules | `(tactic| k_places) => `(tactic| repeat k_subL)

section
variable {Pg : Program} {w : World} {K : PySem.W.Frag} {Θ : List Addr} {mg : Str → Option Value} {base : Heap} {C aK aL : Addr}
abbrev st_tkz : Stmt := (topS 14)
theorem sc_tkz : FnScope ["text", "tokens", "at", "kind", "found", "end"] ["text"] (defScope st_tkz) := ⟨rfl, rfl, rfl, by decide +kernel, rfl, by decide +kernel, by decide +kernel⟩
def AnsZ (C : Addr) (ts : List P) (o : Option Nat) (h : Hs) (R : D → Hs → Prop) (RX : Exn → Hs → Prop) : Prop := match o with
  | none => R (dL ts) h
  | some p => ∀ junk, RX ⟨C, some [("position", .int (p : Nat))]⟩ (h ++ junk)
def W_tkz (C : Addr) : SpcX := fun ds h R RX => ∃ (L : List Nat) (ts : List P) (o : Option Nat), ds = [dS (S L)] ∧ L.length ≤ 10000000 ∧ Tz.Toks L 0 ts o ∧ AnsZ C ts o h R RX
theorem ok_tkz (A : DefAt K mg "tokenize" st_tkz ["text"]) (T : TokC K mg aK aL) (m_len : mg "len" = none)
    (h__token_at : HasF Pg w K mg base (L2.CX Pg w) 4 "_token_at" ["text", "at"] (spDX K Θ (W_tka C))) : HasF Pg w K mg base (L2.CX Pg w) 5 "tokenize" ["text"] (spDX K Θ (W_tkz C)) := by
  have sc := sc_tkz
  obtain ⟨t1, g_BLANKS⟩ := T.blks
  refine A.okX sc (W_tkz C) (fun ds h R RX ⟨_, _, _, e, _⟩ => by rw [e]; rfl) fun f cdv A outer s H E hr => ?_
  refine ⟨_, (pss_cons (ps_set (i := 1) sc.nd rfl (.inl rfl) (pe_lst pa_nil))
  (pss_cons (ps_set (i := 2) sc.nd rfl (.inl rfl) pe_int)
  (pss_cons (ps_while (passes_of rfl) (pt_cmpR op_lt (pv 2) (pe_callB (call_lenK (K := K) (by rfl)) (by rfl) m_len (by decide +kernel) (pa_cons (pv 0) pa_nil)) (nomark _))
  (pss_one (ps_if (pt_cmpR (op_inUK (K := K) (by rfl)) (pe_ix (ix_seqK (K := K) (by rfl)) (pv 0) (pv 2) (fun _ _ => rfl)) (pe_glob (v := .str Tz.blks) rfl g_BLANKS ⟨_, rfl⟩) (by rfl)) (pss_one (ps_aug (i := 2) sc.nd rfl (.inl rfl) pe_int ip_add)) (pss_cons (ps_asg (h__token_at.call (hr.mono (by first | decide | omega)) rfl (passes_call (takes_of rfl rfl rfl rfl) fun _ _ _ _ h => h) (pa_cons (pv 0) (pa_cons (pv 2) pa_nil))) (pg_tupK (K := K) (n := 3) (by rfl) rfl (pgs_cons (pg_name (i := 3) sc.nd rfl (.inl rfl)) (pgs_cons (pg_name (i := 4) sc.nd rfl (.inl rfl)) (pgs_cons (pg_name (i := 5) sc.nd rfl (.inl rfl)) pgs_nil)))))
  (pss_cons (ps_expr (pe_bm PySem.F.plainAttrs_list PySem.F.slot_list_append PySem.F.type_list_append mt_append (pv 1) (pa_cons (pe_tup (pa_cons (pv 3) (pa_cons (pv 4) (pa_cons (pv 2) pa_nil)))) pa_nil)))
  (pss_one (ps_set (i := 2) sc.nd rfl (.inl rfl) (pv 5))))))))
  (pss_one (ps_ret (pv 1)))))), ?_⟩
  try dsimp only [cxOf]
  rintro ds h R RX ⟨L, ts, o, rfl, hl, tk0, q⟩
  have sz := sizeLine_eq
  refine vs_fin ?_
  k_places
  refine ve_lstO ?_
  k_places
  refine ⟨by decide, ?_⟩
  k_places
  refine vs_while (fun env' h' => ∃ (a : Nat) (done rest : List P) (o3 o4 o5 : Option D), a ≤ L.length ∧ Tz.Toks (L.drop a) a rest o ∧ ts = done ++ rest ∧ done.length ≤ a ∧
    env' = [some (dS (S L)), some (.own h.length), some (dI a), o3, o4, o5] ∧ h' = h ++ [some (.lst (done.map D.p))]) (fun env' _ => match env' with | [_, _, some (.p (.int x)), _, _, _] => (L.length - x.toNat) | _ => 0)
    ⟨0, [], ts, none, none, none, Nat.zero_le _, tk0, rfl, Nat.le_refl _, rfl, rfl⟩ ?_
  rintro env' h' ⟨a, done, rest, o3, o4, o5, ha, tk, ets, hd, rfl, rfl⟩
  have hn : (h ++ [some (OO.lst (done.map D.p))])[h.length]? = some (some (.lst (done.map D.p))) := by simp
  k_places
  refine vc_len (n := L.length) ⟨by rw [S_len]; omega, S_len L⟩ ?_
  k_places
  by_cases c1 : a < L.length
  · have eu := List.drop_eq_getElem_cons c1
    have ec := List.getElem?_eq_getElem c1
    refine ite_tt (decide_eq_true (by exact_mod_cast c1)) ?_
    k_places
    refine v2_ixS (by rw [S_len]; omega) (at_nat a (by omega) ec) ?_
    k_places
    refine v2_inC ?_
    generalize hc : L[a] = c at *
    refine ⟨_, rfl, ?_⟩
    rw [eu] at tk
    cases tk with
    | blank hb t =>
      refine ite_tt hb ?_
      refine vs_aug rfl ?_
      k_places
      refine v2_ip (g := fun i j => i + j) ?_
      refine ⟨⟨a + 1, done, rest, o3, o4, o5, c1, t, ets, by omega, rfl, rfl⟩, ?_⟩
      show L.length - ((a : Nat) + 1 : Int).toNat < L.length - ((a : Nat) : Int).toNat
      omega
    | tok hb e n0 n1 t =>
      rename_i n k v rest'
      refine ite_ff hb ?_
      refine vs_seq ?_
      refine vs_asg ?_
      refine ve_callX ?_
      k_places
      refine ⟨L, a, rfl, c1, hl, ?_⟩
      rw [eu, e]
      show VG _ _ _ _ _ _ _
      refine vg_tup rfl ?_
      refine vgs_cons (vg_name (vgs_cons (vg_name (vgs_cons (vg_name (vgs_nil ?_))))))
      k_places
      refine ve_bm ?_
      k_places
      refine ⟨⟨rfl, _, hn⟩, ?_⟩
      k_places
      refine vm_append hn (by simp; omega) ?_
      k_places
      rw [← eu, List.drop_drop] at t
      have n2 : a + n ≤ L.length := by
        have z := congrArg List.length eu
        rw [List.length_drop] at z
        omega
      refine ⟨⟨a + n, done ++ [Tz.tokP k v a], rest', _, _, _, n2, t, by rw [ets, List.append_assoc]; rfl, by simp; omega, rfl, ?_⟩, ?_⟩
      · simp
      · show L.length - ((a + n : Nat) : Int).toNat < L.length - ((a : Nat) : Int).toNat
        omega
    | no hb e =>
      refine ite_ff hb ?_
      refine vs_seq ?_
      refine vs_asg ?_
      refine ve_callX ?_
      k_places
      refine ⟨L, a, rfl, c1, hl, ?_⟩
      rw [eu, e]
      intro junk
      rw [List.append_assoc]
      exact q _
  · have e : a = L.length := by omega
    have ed : L.drop a = [] := List.drop_eq_nil_of_le (by omega)
    rw [ed] at tk
    cases tk
    rw [List.append_nil] at ets
    subst ets
    refine ite_ff (decide_eq_false (by exact_mod_cast c1)) ?_
    k_places
    exact fin_own rfl q
end
end Law

namespace Law
open PySem PySem.Spec PyProof.Rows L2 Kb SX TL
-- the steps that are tried: k_clsL a side condition; k_subL one step; k_places steps as long as one fits
local macro_rules | `(tactic| k_clsL) => `(tactic| first | assumption | decide | omega)
local macro_rules | `(tactic| k_subL) => `(tactic| first
  | (with_reducible refine vs_seq ?_) | (with_reducible refine vs_asg ?_) | (with_reducible refine vg_name ?_) | (with_reducible refine vs_ret ?_) | (with_reducible refine vs_if ?_) | (with_reducible refine vs_next ?_) | (with_reducible refine vs_drop ?_)
  | (with_reducible refine vt_test ?_) | (with_reducible refine vt_B ?_) | (with_reducible refine vt_and ?_) | (with_reducible refine vt_or ?_) | (with_reducible refine vt_not ?_) | (with_reducible refine vt_truth ?_)
  | (with_reducible refine ve_op ?_) | (with_reducible refine ve_isi2 ?_) | ((with_reducible refine isi2_i (T := "tuple") ?hT ?hm ?hn ?_); (case hT => exact rfl); (case hm => decide); (case hn => decide)) | ((with_reducible refine isi2_i (T := "list") ?hT ?hm ?hn ?_); (case hT => exact rfl); (case hm => decide); (case hn => decide)) | ((with_reducible refine isi2_i (T := "int") ?hT ?hm ?hn ?_); (case hT => exact rfl); (case hm => decide); (case hn => decide)) | ((with_reducible refine isi2_i (T := "bool") ?hT ?hm ?hn ?_); (case hT => exact rfl); (case hm => decide); (case hn => decide)) | ((with_reducible refine isi2_i (T := "str") ?hT ?hm ?hn ?_); (case hT => exact rfl); (case hm => decide); (case hn => decide)) | ((with_reducible refine isi2_i (T := "NoneType") ?hT ?hm ?hn ?_); (case hT => exact rfl); (case hm => decide); (case hn => decide)) | (with_reducible refine ve_cb ?_) | (with_reducible refine va_cons ?_) | (with_reducible refine va_nil ?_) | (with_reducible refine ve_call ?_)
  | (with_reducible refine ve_int ?_) | (with_reducible refine ve_str ?_) | (with_reducible refine ve_bl ?_) | (with_reducible refine ve_non ?_) | (with_reducible refine ve_ty ?_)
  | (refine ve_var (by exact rfl) ?_)
  | (with_reducible refine ve_and ?_) | (with_reducible refine ve_or ?_) | (with_reducible refine ve_not ?_) | (with_reducible refine ve_chain ?_) | (with_reducible refine ve_un ?_) | (with_reducible refine ve_if ?_)
  | (with_reducible refine bool_ans ?_) | (with_reducible refine tru_bl ?_)
  | (with_reducible refine vc_intI ?_) | (with_reducible refine vc_intB ?_) | (with_reducible refine v2_addI ?_) | (with_reducible refine v2_sub ?_)
  | (with_reducible refine v2_lt ?_) | (with_reducible refine v2_le ?_) | (with_reducible refine v2_gt ?_) | (with_reducible refine v2_ge ?_)
  | (with_reducible refine v2_eqI ?_) | (with_reducible refine v2_eqS ?_) | (with_reducible refine v2_eqB ?_) | (with_reducible refine v2_neI ?_) | (with_reducible refine v2_neS ?_) | (with_reducible refine v2_neB ?_)
  | (with_reducible refine v2_isN ?_) | (with_reducible refine v2_notN ?_) | (with_reducible refine v2_isNU ?_) | ((with_reducible refine v2_isBl ?hx ?_); (case hx => exact rfl))
  | (with_reducible refine v2_addVI ?_) | (with_reducible refine v2_addWI ?_) | (with_reducible refine v2_ltI ?_) | (with_reducible refine v2_ltB ?_) | (with_reducible refine v2_ltS ?_)
  | ((with_reducible refine v2_divW ?hm ?_); case hm => (constructor <;> k_clsL))
  | ((with_reducible refine v2_mulU ?hm ?_); case hm => first | exact cmul_small (by k_clsL) (by k_clsL) | exact cmul_wide (by k_clsL) (by k_clsL))
  | ((with_reducible refine v2_mod ?hm ?_); case hm => k_clsL) | ((with_reducible refine v2_div ?hm ?_); case hm => (constructor <;> k_clsL))
  | ((with_reducible refine v2_mul ?hm ?_); case hm => first | exact cmul_small (by k_clsL) (by k_clsL) | exact cmul_wide (by k_clsL) (by k_clsL))
  | (with_reducible refine vc_abs ?_) | (with_reducible refine vc_min2 ?_) | (with_reducible refine vc_max2 ?_)
  | (with_reducible refine ve_tup ?_) | ((with_reducible refine tup_j ?hl ?_); (case hl => exact rfl))
  | ((with_reducible refine vc_isi (T := "tuple") ?hT ?hn ?_); (case hT => first | exact rfl | exact ⟨rfl, _, by first | assumption | simp⟩); (case hn => decide)) | ((with_reducible refine vc_isi (T := "list") ?hT ?hn ?_); (case hT => first | exact rfl | exact ⟨rfl, _, by first | assumption | simp⟩); (case hn => decide)) | ((with_reducible refine vc_isi (T := "int") ?hT ?hn ?_); (case hT => first | exact rfl | exact ⟨rfl, _, by first | assumption | simp⟩); (case hn => decide)) | ((with_reducible refine vc_isi (T := "bool") ?hT ?hn ?_); (case hT => first | exact rfl | exact ⟨rfl, _, by first | assumption | simp⟩); (case hn => decide)) | ((with_reducible refine vc_isi (T := "str") ?hT ?hn ?_); (case hT => first | exact rfl | exact ⟨rfl, _, by first | assumption | simp⟩); (case hn => decide)) | ((with_reducible refine vc_isi (T := "NoneType") ?hT ?hn ?_); (case hT => first | exact rfl | exact ⟨rfl, _, by first | assumption | simp⟩); (case hn => decide))
  | (with_reducible refine vc_lenL ?_) | (with_reducible refine vc_lenT ?_) | (with_reducible refine ite_nrefl ?_) | (with_reducible refine ite_refl ?_)
  | ((with_reducible refine ite_tt ?hc ?_); (case hc => first | decide | exact rfl)) | ((with_reducible refine ite_ff ?hc ?_); (case hc => first | decide | exact rfl))
  | (with_reducible refine v1_U ?_))
local macro_rules | `(tactic| k_places) => `(tactic| repeat k_subL)

theorem val_lt {w : List Nat} (h : ∀ c ∈ w, Tz.inS Tz.digs c = true) : NumText.digitsVal w < 10 ^ w.length := by
  have g : ∀ v : List Nat, (∀ c ∈ v, Tz.inS Tz.digs c = true) → NumText.digitsVal v.reverse < 10 ^ v.length := by
    intro v
    induction v with
    | nil => intro _; decide
    | cons c v ih =>
      intro h
      have all : ∀ d ∈ Tz.digs.cps.toList, d ≤ 57 ∧ 48 ≤ d := by decide +kernel
      have z := all c (of_decide_eq_true (h c List.mem_cons_self))
      have i := ih fun d hd => h d (List.mem_cons_of_mem _ hd)
      rw [List.reverse_cons, NumText.digitsVal_snoc, List.length_cons, Nat.pow_succ]
      omega
  have z := g w.reverse fun c hc => h c (List.mem_reverse.mp hc)
  rw [List.reverse_reverse, List.length_reverse] at z
  exact z
theorem numL_in (n : Nat) : ∀ c ∈ TL.numL n, Tz.inS Tz.digs c = true := fun c hc => by
  have z := TL.numL_digits n
  have z1 := z c hc
  exact Tz.dig_in z1.1 z1.2
theorem rep_S (t : List Nat) : Txt.replace (S t) "'" "''" = S (Tz.esc t) := by
  have z := StrLaws.replace_list (x := S t) (y := "'") (z := "''") (by decide +kernel)
  have e1 : ("'" : Str).cps.toList = [39] := by decide +kernel
  have e2 : ("''" : Str).cps.toList = [39, 39] := by decide +kernel
  rw [e1, e2] at z
  exact TL.ext_tl z
theorem kindW_cases (w : List Nat) : Tz.kindW w = "keyword" ∨ Tz.kindW w = "name" := by
  unfold Tz.kindW
  by_cases c : decide (S w ∈ Tz.kws) = true
  · rw [if_pos c]; exact .inl rfl
  · rw [if_neg c]; exact .inr rfl
section
variable {Pg : Program} {w : World} {K : PySem.W.Frag} {Θ : List Addr} {mg : Str → Option Value} {base : Heap} {C aK aL : Addr}
abbrev st_wtk : Stmt := (topS 15)
theorem sc_wtk : FnScope ["token", "kind", "told"] ["token"] (defScope st_wtk) := ⟨rfl, rfl, rfl, by decide +kernel, rfl, by decide +kernel, by decide +kernel⟩
def W_wtk : Spc := fun ds h R => ∃ (k : Str) (v a : P) (l : List Nat), ds = [dT [.str k, v, a]] ∧ Tz.Drawn k v l ∧ ∀ l', Tz.Drawn k v l' → R (dS (S l')) h
theorem ok_wtk (A : DefAt K mg "write_token" st_wtk ["token"]) (m_str : mg "str" = none) : HasF Pg w K mg base CX0 1 "write_token" ["token"] (spD K Θ W_wtk) := by
  have sc := sc_wtk
  refine A.okD sc W_wtk (fun ds h R ⟨_, _, _, _, e, _⟩ => by rw [e]; rfl) fun f cdv A outer s H E hr => ?_
  refine ⟨_, (pss_cons (ps_par (i := 1) (j := 2) (by rfl) sc.nd rfl rfl (by decide) rfl rfl (pa_cons (pe_ix (ix_seqK (K := K) (by rfl)) (pv 0) pe_int (fun _ _ => rfl)) (pa_cons (pe_ix (ix_seqK (K := K) (by rfl)) (pv 0) pe_int (fun _ _ => rfl)) pa_nil)) (by rfl))
  (pss_cons (ps_if (pt_cmpR (op_eqUK (K := K) (by rfl) hr.units) (pv 1) pe_str (nomark _)) (pss_one (ps_ret (pe_op (op_addWK (K := K) (by rfl)) (pe_catRep (by decide +kernel) (pv 2)) pe_str))) pss_nil)
  (pss_cons (ps_if (pt_cmpR (op_eqUK (K := K) (by rfl) hr.units) (pv 1) pe_str (nomark _)) (pss_one (ps_ret (pe_joined (PJ.cons pe_str (PJ.cons (pe_fmt (pv 2)) PJ.nil))))) pss_nil)
  (pss_one (ps_ret (pe_callTy call_strU (by rfl) m_str (by decide +kernel) (pa_cons (pv 2) pa_nil))))))), ?_⟩
  try dsimp only [cxOf]
  rintro ds h R ⟨k, v, a, l, rfl, dr, q⟩
  have sz := sizeLine_eq
  refine vs_seq ?_
  refine vs_par ?_
  k_places
  refine v2_ixT (at_nat 0 (by omega) rfl) ?_
  k_places
  refine v2_ixT (at_nat 1 (by omega) rfl) ?_
  k_places
  refine ⟨_, _, rfl, ?_⟩
  k_places
  cases dr with
  | word hc hw hl =>
    rename_i c w
    have d := Tz.Drawn.word hc hw hl
    have n1 : ¬ Tz.kindW (c :: w) = "text" := by rcases kindW_cases (c :: w) with e | e <;> rw [e] <;> decide +kernel
    have n2 : ¬ Tz.kindW (c :: w) = "parameter" := by rcases kindW_cases (c :: w) with e | e <;> rw [e] <;> decide +kernel
    refine ite_ff (decide_eq_false n1) ?_
    k_places
    refine ite_ff (decide_eq_false n2) ?_
    k_places
    refine vc_strS ?_
    exact q _ d
  | int h0 hw hl =>
    have d := Tz.Drawn.int h0 hw hl
    have lt := val_lt hw
    generalize NumText.digitsVal l = n at *
    have n30 : n < 10 ^ 30 := Nat.lt_of_lt_of_le lt (Nat.pow_le_pow_right (by decide) hl)
    refine ite_ff (by decide +kernel) ?_
    k_places
    refine vc_strI (Nat.lt_trans (log2_small (n := ((n : Nat) : Int).natAbs) ?_) (by decide)) ?_
    · have z : (10 : Nat) ^ 30 < 2 ^ 200 := by decide
      omega
    have e : ((toString ((n : Nat) : Int) : String) : Str) = S (TL.numL n) := SX.num_S n
    rw [e]
    have d2 := Tz.Drawn.int (TL.numL_ne n) (numL_in n) (TL.numL_len (by decide) n30)
    rw [TL.numL_val] at d2
    exact q _ d2
  | text hl =>
    rename_i t
    have d := Tz.Drawn.text hl
    refine ite_tt (by decide +kernel) ?_
    k_places
    refine ve_catRep ?_
    k_places
    have el := Tz.esc_len t
    have l1 : ("'" : Str).length = 1 := by decide +kernel
    have l2 : ("''" : Str).length = 2 := by decide +kernel
    have s39 : ("'" : Str) = S [39] := by decide +kernel
    have l3 : (S t).length = t.length := S_len t
    refine ⟨S t, rfl, by rw [l2, l3]; omega, ?_, ?_⟩
    · rw [rep_S]; show (Str.ofString "'").length + (S (Tz.esc t)).length ≤ _; rw [l1, S_len]; omega
    rw [rep_S, s39, S_cat]
    k_places
    refine v2_addWS ?_ ?_
    · rw [S_len, S_len]; simp; omega
    rw [S_cat]
    exact q _ d
  | par h0 hw hl =>
    rename_i w
    have lt := val_lt hw
    have n2 : NumText.digitsVal w < 10 ^ 2 := Nat.lt_of_lt_of_le lt (Nat.pow_le_pow_right (by decide) hl)
    generalize NumText.digitsVal w = n at *
    refine ite_ff (by decide +kernel) ?_
    k_places
    refine ve_js ?_
    change VE _ _ _ _ _ _
    refine ve_str ?_
    refine ⟨_, rfl, by decide +kernel, ?_⟩
    change VE _ _ _ _ _ _
    refine ve_fmtI ?_
    k_places
    refine ⟨n, rfl, Nat.lt_trans (log2_small (n := ((n : Nat) : Int).natAbs) (by omega)) (by decide), ?_⟩
    have e : ((toString ((n : Nat) : Int) : String) : Str) = S (TL.numL n) := SX.num_S n
    have ln := TL.numL_len (n := n) (k := 2) (by decide) n2
    have e1 : Str.empty ++ ("$" : Str) = S [36] := by decide +kernel
    refine ⟨_, rfl, ?_, ?_⟩
    · rw [e, e1, S_cat, S_len]; simp; omega
    show VJ _ _ _ _ _ _ _
    rw [e, e1, S_cat]
    have d2 := Tz.Drawn.par (TL.numL_ne n) (numL_in n) ln
    rw [TL.numL_val] at d2
    exact q _ d2
  | sign hw =>
    refine ite_ff (by decide +kernel) ?_
    k_places
    refine vc_strS ?_
    exact q _ (.sign hw)
/-- asked where nothing is refused -/
def W_tkzS : Spc := fun ds h R => ∃ (L : List Nat) (ts : List P), ds = [dS (S L)] ∧ L.length ≤ 10000000 ∧ Tz.Toks L 0 ts none ∧ R (dL ts) h
theorem tkz_calm (H : HasF Pg w K mg base (L2.CX Pg w) 5 "tokenize" ["text"] (spDX K Θ (W_tkz C))) : HasF Pg w K mg base CX0 5 "tokenize" ["text"] (spD K Θ W_tkzS) :=
  H.calm fun ds h R ⟨L, ts, e, hl, t, q⟩ => ⟨L, ts, none, e, hl, t, q⟩
end
end Law

namespace Law
open PySem PySem.Spec PyProof.Rows L2 Kb SX TL
-- the steps that are tried: k_clsL a side condition; k_subL one step; k_places steps as long as one fits
local macro_rules | `(tactic| k_clsL) => `(tactic| first | assumption | decide | omega)
local macro_rules | `(tactic| k_subL) => `(tactic| first
  | (with_reducible refine vs_seq ?_) | (with_reducible refine vs_asg ?_) | (with_reducible refine vg_name ?_) | (with_reducible refine vs_ret ?_) | (with_reducible refine vs_if ?_) | (with_reducible refine vs_next ?_) | (with_reducible refine vs_drop ?_)
  | (with_reducible refine vt_test ?_) | (with_reducible refine vt_B ?_) | (with_reducible refine vt_and ?_) | (with_reducible refine vt_or ?_) | (with_reducible refine vt_not ?_) | (with_reducible refine vt_truth ?_)
  | (with_reducible refine ve_op ?_) | (with_reducible refine ve_isi2 ?_) | ((with_reducible refine isi2_i (T := "tuple") ?hT ?hm ?hn ?_); (case hT => exact rfl); (case hm => decide); (case hn => decide)) | ((with_reducible refine isi2_i (T := "list") ?hT ?hm ?hn ?_); (case hT => exact rfl); (case hm => decide); (case hn => decide)) | ((with_reducible refine isi2_i (T := "int") ?hT ?hm ?hn ?_); (case hT => exact rfl); (case hm => decide); (case hn => decide)) | ((with_reducible refine isi2_i (T := "bool") ?hT ?hm ?hn ?_); (case hT => exact rfl); (case hm => decide); (case hn => decide)) | ((with_reducible refine isi2_i (T := "str") ?hT ?hm ?hn ?_); (case hT => exact rfl); (case hm => decide); (case hn => decide)) | ((with_reducible refine isi2_i (T := "NoneType") ?hT ?hm ?hn ?_); (case hT => exact rfl); (case hm => decide); (case hn => decide)) | (with_reducible refine ve_cb ?_) | (with_reducible refine va_cons ?_) | (with_reducible refine va_nil ?_) | (with_reducible refine ve_call ?_)
  | (with_reducible refine ve_int ?_) | (with_reducible refine ve_str ?_) | (with_reducible refine ve_bl ?_) | (with_reducible refine ve_non ?_) | (with_reducible refine ve_ty ?_)
  | (refine ve_var (by exact rfl) ?_)
  | (with_reducible refine ve_and ?_) | (with_reducible refine ve_or ?_) | (with_reducible refine ve_not ?_) | (with_reducible refine ve_chain ?_) | (with_reducible refine ve_un ?_) | (with_reducible refine ve_if ?_)
  | (with_reducible refine bool_ans ?_) | (with_reducible refine tru_bl ?_)
  | (with_reducible refine vc_intI ?_) | (with_reducible refine vc_intB ?_) | (with_reducible refine v2_addI ?_) | (with_reducible refine v2_sub ?_)
  | (with_reducible refine v2_lt ?_) | (with_reducible refine v2_le ?_) | (with_reducible refine v2_gt ?_) | (with_reducible refine v2_ge ?_)
  | (with_reducible refine v2_eqI ?_) | (with_reducible refine v2_eqS ?_) | (with_reducible refine v2_eqB ?_) | (with_reducible refine v2_neI ?_) | (with_reducible refine v2_neS ?_) | (with_reducible refine v2_neB ?_)
  | (with_reducible refine v2_isN ?_) | (with_reducible refine v2_notN ?_) | (with_reducible refine v2_isNU ?_) | ((with_reducible refine v2_isBl ?hx ?_); (case hx => exact rfl))
  | (with_reducible refine v2_addVI ?_) | (with_reducible refine v2_addWI ?_) | (with_reducible refine v2_ltI ?_) | (with_reducible refine v2_ltB ?_) | (with_reducible refine v2_ltS ?_)
  | ((with_reducible refine v2_divW ?hm ?_); case hm => (constructor <;> k_clsL))
  | ((with_reducible refine v2_mulU ?hm ?_); case hm => first | exact cmul_small (by k_clsL) (by k_clsL) | exact cmul_wide (by k_clsL) (by k_clsL))
  | ((with_reducible refine v2_mod ?hm ?_); case hm => k_clsL) | ((with_reducible refine v2_div ?hm ?_); case hm => (constructor <;> k_clsL))
  | ((with_reducible refine v2_mul ?hm ?_); case hm => first | exact cmul_small (by k_clsL) (by k_clsL) | exact cmul_wide (by k_clsL) (by k_clsL))
  | (with_reducible refine vc_abs ?_) | (with_reducible refine vc_min2 ?_) | (with_reducible refine vc_max2 ?_)
  | (with_reducible refine ve_tup ?_) | ((with_reducible refine tup_j ?hl ?_); (case hl => exact rfl))
  | ((with_reducible refine vc_isi (T := "tuple") ?hT ?hn ?_); (case hT => first | exact rfl | exact ⟨rfl, _, by first | assumption | simp⟩); (case hn => decide)) | ((with_reducible refine vc_isi (T := "list") ?hT ?hn ?_); (case hT => first | exact rfl | exact ⟨rfl, _, by first | assumption | simp⟩); (case hn => decide)) | ((with_reducible refine vc_isi (T := "int") ?hT ?hn ?_); (case hT => first | exact rfl | exact ⟨rfl, _, by first | assumption | simp⟩); (case hn => decide)) | ((with_reducible refine vc_isi (T := "bool") ?hT ?hn ?_); (case hT => first | exact rfl | exact ⟨rfl, _, by first | assumption | simp⟩); (case hn => decide)) | ((with_reducible refine vc_isi (T := "str") ?hT ?hn ?_); (case hT => first | exact rfl | exact ⟨rfl, _, by first | assumption | simp⟩); (case hn => decide)) | ((with_reducible refine vc_isi (T := "NoneType") ?hT ?hn ?_); (case hT => first | exact rfl | exact ⟨rfl, _, by first | assumption | simp⟩); (case hn => decide))
  | (with_reducible refine vc_lenL ?_) | (with_reducible refine vc_lenT ?_) | (with_reducible refine ite_nrefl ?_) | (with_reducible refine ite_refl ?_)
  | ((with_reducible refine ite_tt ?hc ?_); (case hc => first | decide | exact rfl)) | ((with_reducible refine ite_ff ?hc ?_); (case hc => first | decide | exact rfl))
  | (with_reducible refine v1_U ?_))
local macro_rules | `(tactic| k_places) => `(tactic| repeat k_subL)

def NameOk (v : P) : Prop := ∃ (c : Nat) (w : List Nat), v = .str (S (c :: w)) ∧ Tz.inS Tz.lets c = true ∧ (∀ d ∈ w, Tz.inS Tz.ofws d = true) ∧ w.length ≤ 5 ∧ S (c :: w) ∉ Tz.kws
def sgL : List (List Nat) := [[40], [41], [44], [46], [43], [45], [42], [47], [61], [60, 62], [60], [60, 61], [62], [62, 61], [124, 124]]
theorem in_at {z : Str} {i : Nat} {c : Nat} (h : z.cps.toList[i]? = some c) : Tz.inS z c = true := decide_eq_true (List.mem_of_getElem? h)
theorem lets_lo : ∀ c ∈ Tz.lets.cps.toList, Tz.inS Tz.ofws c = true := by decide +kernel
theorem kw_ok : ∀ s ∈ Tz.kws, ∃ c w, s = S (c :: w) ∧ Tz.inS Tz.lets c = true ∧ (∀ d ∈ w, Tz.inS Tz.ofws d = true) ∧ w.length < 100 := by
  have all : ∀ s ∈ Tz.kws, (match s.cps.toList with | [] => false | c :: w => Tz.inS Tz.lets c && w.all (fun d => Tz.inS Tz.ofws d) && decide (w.length < 100)) = true := by decide +kernel
  intro s hs
  have z := all s hs
  cases e : s.cps.toList with
  | nil => rw [e] at z; cases z
  | cons c w =>
    rw [e] at z
    simp only [Bool.and_eq_true, List.all_eq_true, decide_eq_true_eq] at z
    refine ⟨c, w, ?_, decide_eq_true z.1.1, fun d hd => decide_eq_true (z.1.2 d hd), z.2⟩
    rw [← e, S_tl]
theorem kw_drawn {s : Str} (hs : s ∈ Tz.kws) : ∃ l, s = S l ∧ Tz.Drawn "keyword" (.str s) l := by
  obtain ⟨c, w, rfl, a, b, d⟩ := kw_ok s hs
  have z := Tz.Drawn.word a b d
  have e : Tz.kindW (c :: w) = "keyword" := by
    unfold Tz.kindW
    rw [if_pos (decide_eq_true hs)]
  rw [e] at z
  exact ⟨_, rfl, z⟩
theorem name_drawn {v : P} (h : NameOk v) : ∃ l, v = .str (S l) ∧ Tz.Drawn "name" v l := by
  obtain ⟨c, w, rfl, a, b, d, n⟩ := h
  have z := Tz.Drawn.word a b (by omega : w.length < 100)
  have e : Tz.kindW (c :: w) = "name" := by
    unfold Tz.kindW
    rw [if_neg (by rw [decide_eq_false n]; decide)]
  rw [e] at z
  exact ⟨_, rfl, z⟩
theorem no_kw_ {l : List Nat} : S (l ++ [95]) ∉ Tz.kws := fun h => by
  have all : ∀ s ∈ Tz.kws, s.cps.toList.getLast? ≠ some 95 := by decide +kernel
  exact all _ h (by show (l ++ [95]).getLast? = _; simp)
section
variable {Pg : Program} {w : World} {K : PySem.W.Frag} {Θ : List Addr} {mg : Str → Option Value} {base : Heap} {C aK aL : Addr}
abbrev st_kws : Stmt := (topS 26)
theorem sc_kws : FnScope ["words"] [] (defScope st_kws) := ⟨rfl, rfl, rfl, by decide +kernel, rfl, by decide +kernel, by decide +kernel⟩
def W_kws : Spc := fun ds h R => ds = [] ∧ R (dL (Tz.kws.map P.str)) h
theorem ok_kws (A : DefAt K mg "_law_keywords" st_kws []) : HasF Pg w K mg base CX0 1 "_law_keywords" [] (spD K Θ W_kws) := by
  have sc := sc_kws
  refine A.okD sc W_kws (fun ds h R ⟨e, _⟩ => by rw [e]; rfl) fun f cdv A outer s H E hr => ?_
  refine ⟨_, (pss_cons (ps_set (i := 0) sc.nd rfl (.inl rfl) pe_str)
  (pss_cons (ps_set (i := 0) sc.nd rfl (.inl rfl) (pe_op (op_addWK (K := K) (by rfl)) (pv 0) pe_str))
  (pss_one (ps_ret (pe_bm PySem.F.plainAttrs_str PySem.F.slot_str_split PySem.F.type_str_split mt_split (pv 0) (pa_cons pe_str pa_nil)))))), ?_⟩
  try dsimp only [cxOf]
  rintro ds h R ⟨rfl, q⟩
  k_places
  refine v2_addWS (by decide +kernel) ?_
  k_places
  refine ve_bm ?_
  k_places
  refine ⟨rfl, ?_⟩
  k_places
  refine vm_split (by decide +kernel) (by decide +kernel) ?_
  have e : Txt.split (("select distinct from where group by having order limit as join left on union all except intersect" : Str) ++ (" and or not is null true false in exists case when then else end count sum min max mod desc" : Str)) " " = Tz.kws := by decide +kernel
  rw [e]
  exact q
abbrev st_name : Stmt := (topS 27)
theorem sc_name : FnScope ["state", "letters", "following", "name", "k"] ["state"] (defScope st_name) := ⟨rfl, rfl, rfl, by decide +kernel, rfl, by decide +kernel, by decide +kernel⟩
theorem ok_name (A : DefAt K mg "_law_name" st_name ["state"]) (m_range : mg "range" = none) (h__law_next : HasF Pg w K mg base CX0 1 "_law_next" ["state", "limit"] (spD K Θ W_next))
    (h__law_keywords : HasF Pg w K mg base CX0 1 "_law_keywords" [] (spD K Θ W_kws)) : HasF Pg w K mg base CX0 2 "_law_name" ["state"] (spD K Θ (W_draw NameOk)) := by
  have sc := sc_name
  refine A.okD sc (W_draw NameOk) (fun ds h R ⟨_, _, _, _, _, e, _⟩ => by rw [e]; rfl) fun f cdv A outer s H E hr => ?_
  refine ⟨_, (pss_cons (ps_set (i := 1) sc.nd rfl (.inl rfl) pe_str)
  (pss_cons (ps_set (i := 2) sc.nd rfl (.inl rfl) (pe_op (op_addWK (K := K) (by rfl)) (pv 1) pe_str))
  (pss_cons (ps_set (i := 3) sc.nd rfl (.inl rfl) (pe_ix (ix_seqK (K := K) (by rfl)) (pv 1) (h__law_next.call (hr.mono (by first | decide | omega)) rfl pass0 (pa_cons (pv 0) (pa_cons pe_int pa_nil))) (fun _ _ => rfl)))
  (pss_cons (ps_for PassesOwn.never rfl (pi_range1 rfl m_range (pa_cons (h__law_next.call (hr.mono (by first | decide | omega)) rfl pass0 (pa_cons (pv 0) (pa_cons pe_int pa_nil))) pa_nil)) (pg_name (i := 4) sc.nd rfl (.inl rfl))
  (pss_one (ps_set (i := 3) sc.nd rfl (.inl rfl) (pe_op (op_addWK (K := K) (by rfl)) (pv 3) (pe_ix (ix_seqK (K := K) (by rfl)) (pv 2) (h__law_next.call (hr.mono (by first | decide | omega)) rfl pass0 (pa_cons (pv 0) (pa_cons pe_int pa_nil))) (fun _ _ => rfl))))))
  (pss_cons (ps_if (pt_cmpR (op_inUK (K := K) (by rfl)) (pv 3) (h__law_keywords.call0 (hr.mono (by first | decide | omega)) rfl pass0) (by rfl)) (pss_one (ps_set (i := 3) sc.nd rfl (.inl rfl) (pe_op (op_addWK (K := K) (by rfl)) (pv 3) pe_str))) pss_nil)
  (pss_one (ps_ret (pv 3)))))))), ?_⟩
  try dsimp only [cxOf]
  rintro ds h R ⟨n, ns, a, b, c, rfl, hn, ok, q⟩
  have hl : n < h.length := (List.getElem?_eq_some_iff.mp hn).1
  have sz := sizeLine_eq
  rw [← set_same hn]
  k_places
  refine v2_addWS (by decide +kernel) ?_
  have ef : ("abcdefghijklmnopqrstuvwxyz" : Str) ++ ("0123456789_" : Str) = Tz.ofws := by decide +kernel
  rw [ef]
  k_places
  refine next_i hl ok (by decide) (by decide) fun v a b c ok v0 v1 => ?_
  have ll : Tz.lets.cps.toList.length = 26 := by decide +kernel
  have lo : Tz.ofws.cps.toList.length = 37 := by decide +kernel
  have hv : v.toNat < Tz.lets.cps.toList.length := by rw [ll]; omega
  have g0 := in_at (List.getElem?_eq_getElem hv)
  refine v2_ixS (by decide +kernel) (at_nat v.toNat (by omega) (List.getElem?_eq_getElem hv)) ?_
  generalize Tz.lets.cps.toList[v.toNat] = x at *
  refine vg_name ?_
  refine vs_seq ?_
  refine vs_for (vi_range1 ?_)
  k_places
  refine next_i hl ok (by decide) (by decide) fun m a b c ok m0 m1 => ?_
  k_places
  refine ⟨m, rfl, by omega, by omega, ?_⟩
  refine ⟨fun i env' h' => ∃ (w : List Nat) (o : Option Kb.D) (a b c : Int), env' = [some (.own n), some (dS Tz.lets), some (dS Tz.ofws), some (dS (S (x :: w))), o] ∧ w.length = i ∧ (∀ d ∈ w, Tz.inS Tz.ofws d = true) ∧ OkSt ns a b c ∧ h' = h.set n (some (stO ns a b c)), ?_, ?_, ?_, ?_⟩
  · exact ⟨[], none, a, b, c, rfl, rfl, fun _ z => by simp at z, ok, rfl⟩
  · exact fun _ _ _ _ => trivial
  · rintro i d env' h' hd ⟨w, o, a, b, c, rfl, hw, hi, ok, rfl⟩
    obtain ⟨i1, rfl⟩ := rng_get hd
    k_places
    refine next_i hl ok (by decide) (by decide) fun v a b c ok v0 v1 => ?_
    have hv : v.toNat < Tz.ofws.cps.toList.length := by rw [lo]; omega
    have g1 := in_at (List.getElem?_eq_getElem hv)
    refine v2_ixS (by decide +kernel) (at_nat v.toNat (by omega) (List.getElem?_eq_getElem hv)) ?_
    generalize Tz.ofws.cps.toList[v.toNat] = y at *
    refine v2_addWS ?_ ?_
    · rw [S_len, S_len]; simp; omega
    k_places
    rw [S_cat]
    refine ⟨w ++ [y], _, a, b, c, rfl, by simp [hw], fun d hd => ?_, ok, rfl⟩
    rcases List.mem_append.mp hd with hd | hd
    · exact hi d hd
    · rw [List.mem_singleton.mp hd]; exact g1
  · rintro env' h' ⟨w, o, a, b, c, rfl, hw, hi, ok, rfl⟩
    rw [rng_len] at hw
    k_places
    refine ⟨rfl, ?_⟩
    refine v2_inS ?_
    k_places
    refine ite_dec (fun e => ?_) (fun e => ?_)
    · k_places
      refine v2_addWS ?_ ?_
      · have l1 : ("_" : Str).length = 1 := by decide +kernel
        rw [l1, S_len]; simp; omega
      have e95 : ("_" : Str) = S [95] := by decide +kernel
      rw [e95, S_cat]
      k_places
      refine q _ a b c ok ⟨x, w ++ [95], rfl, g0, fun d hd => ?_, ?_, ?_⟩
      · rcases List.mem_append.mp hd with hd | hd
        · exact hi d hd
        · rw [List.mem_singleton.mp hd]; decide +kernel
      · simp; omega
      · exact no_kw_ (l := x :: w)
    · k_places
      exact q _ a b c ok ⟨x, w, rfl, g0, hi, by omega, e⟩
end
end Law

namespace Law
open PySem PySem.Spec PyProof.Rows L2 Kb SX TL
-- the steps that are tried: k_clsL a side condition; k_subL one step; k_places steps as long as one fits
local macro_rules | `(tactic| k_clsL) => `(tactic| first | assumption | decide | omega)
local macro_rules | `(tactic| k_subL) => `(tactic| first
  | (with_reducible refine vs_seq ?_) | (with_reducible refine vs_asg ?_) | (with_reducible refine vg_name ?_) | (with_reducible refine vs_ret ?_) | (with_reducible refine vs_if ?_) | (with_reducible refine vs_next ?_) | (with_reducible refine vs_drop ?_)
  | (with_reducible refine vt_test ?_) | (with_reducible refine vt_B ?_) | (with_reducible refine vt_and ?_) | (with_reducible refine vt_or ?_) | (with_reducible refine vt_not ?_) | (with_reducible refine vt_truth ?_)
  | (with_reducible refine ve_op ?_) | (with_reducible refine ve_isi2 ?_) | ((with_reducible refine isi2_i (T := "tuple") ?hT ?hm ?hn ?_); (case hT => exact rfl); (case hm => decide); (case hn => decide)) | ((with_reducible refine isi2_i (T := "list") ?hT ?hm ?hn ?_); (case hT => exact rfl); (case hm => decide); (case hn => decide)) | ((with_reducible refine isi2_i (T := "int") ?hT ?hm ?hn ?_); (case hT => exact rfl); (case hm => decide); (case hn => decide)) | ((with_reducible refine isi2_i (T := "bool") ?hT ?hm ?hn ?_); (case hT => exact rfl); (case hm => decide); (case hn => decide)) | ((with_reducible refine isi2_i (T := "str") ?hT ?hm ?hn ?_); (case hT => exact rfl); (case hm => decide); (case hn => decide)) | ((with_reducible refine isi2_i (T := "NoneType") ?hT ?hm ?hn ?_); (case hT => exact rfl); (case hm => decide); (case hn => decide)) | (with_reducible refine ve_cb ?_) | (with_reducible refine va_cons ?_) | (with_reducible refine va_nil ?_) | (with_reducible refine ve_call ?_)
  | (with_reducible refine ve_int ?_) | (with_reducible refine ve_str ?_) | (with_reducible refine ve_bl ?_) | (with_reducible refine ve_non ?_) | (with_reducible refine ve_ty ?_)
  | (refine ve_var (by exact rfl) ?_)
  | (with_reducible refine ve_and ?_) | (with_reducible refine ve_or ?_) | (with_reducible refine ve_not ?_) | (with_reducible refine ve_chain ?_) | (with_reducible refine ve_un ?_) | (with_reducible refine ve_if ?_)
  | (with_reducible refine bool_ans ?_) | (with_reducible refine tru_bl ?_)
  | (with_reducible refine vc_intI ?_) | (with_reducible refine vc_intB ?_) | (with_reducible refine v2_addI ?_) | (with_reducible refine v2_sub ?_)
  | (with_reducible refine v2_lt ?_) | (with_reducible refine v2_le ?_) | (with_reducible refine v2_gt ?_) | (with_reducible refine v2_ge ?_)
  | (with_reducible refine v2_eqI ?_) | (with_reducible refine v2_eqS ?_) | (with_reducible refine v2_eqB ?_) | (with_reducible refine v2_neI ?_) | (with_reducible refine v2_neS ?_) | (with_reducible refine v2_neB ?_)
  | (with_reducible refine v2_isN ?_) | (with_reducible refine v2_notN ?_) | (with_reducible refine v2_isNU ?_) | ((with_reducible refine v2_isBl ?hx ?_); (case hx => exact rfl))
  | (with_reducible refine v2_addVI ?_) | (with_reducible refine v2_addWI ?_) | (with_reducible refine v2_ltI ?_) | (with_reducible refine v2_ltB ?_) | (with_reducible refine v2_ltS ?_)
  | ((with_reducible refine v2_divW ?hm ?_); case hm => (constructor <;> k_clsL))
  | ((with_reducible refine v2_mulU ?hm ?_); case hm => first | exact cmul_small (by k_clsL) (by k_clsL) | exact cmul_wide (by k_clsL) (by k_clsL))
  | ((with_reducible refine v2_mod ?hm ?_); case hm => k_clsL) | ((with_reducible refine v2_div ?hm ?_); case hm => (constructor <;> k_clsL))
  | ((with_reducible refine v2_mul ?hm ?_); case hm => first | exact cmul_small (by k_clsL) (by k_clsL) | exact cmul_wide (by k_clsL) (by k_clsL))
  | (with_reducible refine vc_abs ?_) | (with_reducible refine vc_min2 ?_) | (with_reducible refine vc_max2 ?_)
  | (with_reducible refine ve_tup ?_) | ((with_reducible refine tup_j ?hl ?_); (case hl => exact rfl))
  | ((with_reducible refine vc_isi (T := "tuple") ?hT ?hn ?_); (case hT => first | exact rfl | exact ⟨rfl, _, by first | assumption | simp⟩); (case hn => decide)) | ((with_reducible refine vc_isi (T := "list") ?hT ?hn ?_); (case hT => first | exact rfl | exact ⟨rfl, _, by first | assumption | simp⟩); (case hn => decide)) | ((with_reducible refine vc_isi (T := "int") ?hT ?hn ?_); (case hT => first | exact rfl | exact ⟨rfl, _, by first | assumption | simp⟩); (case hn => decide)) | ((with_reducible refine vc_isi (T := "bool") ?hT ?hn ?_); (case hT => first | exact rfl | exact ⟨rfl, _, by first | assumption | simp⟩); (case hn => decide)) | ((with_reducible refine vc_isi (T := "str") ?hT ?hn ?_); (case hT => first | exact rfl | exact ⟨rfl, _, by first | assumption | simp⟩); (case hn => decide)) | ((with_reducible refine vc_isi (T := "NoneType") ?hT ?hn ?_); (case hT => first | exact rfl | exact ⟨rfl, _, by first | assumption | simp⟩); (case hn => decide))
  | (with_reducible refine vc_lenL ?_) | (with_reducible refine vc_lenT ?_) | (with_reducible refine ite_nrefl ?_) | (with_reducible refine ite_refl ?_)
  | ((with_reducible refine ite_tt ?hc ?_); (case hc => first | decide | exact rfl)) | ((with_reducible refine ite_ff ?hc ?_); (case hc => first | decide | exact rfl))
  | (with_reducible refine v1_U ?_))
local macro_rules | `(tactic| k_places) => `(tactic| repeat k_subL)

section
variable {Pg : Program} {w : World} {K : PySem.W.Frag} {Θ : List Addr} {mg : Str → Option Value} {base : Heap} {C aK aL : Addr}
abbrev st_sgs : Stmt := (topS 29)
theorem sc_sgs : FnScope [] [] (defScope st_sgs) := ⟨rfl, rfl, rfl, by decide +kernel, rfl, by decide +kernel, by decide +kernel⟩
def W_sgs : Spc := fun ds h R => ds = [] ∧ R (dL ((sgL.map S).map P.str)) h
theorem ok_sgs (A : DefAt K mg "_law_signs" st_sgs []) : HasF Pg w K mg base CX0 1 "_law_signs" [] (spD K Θ W_sgs) := by
  have sc := sc_sgs
  refine A.okD sc W_sgs (fun ds h R ⟨e, _⟩ => by rw [e]; rfl) fun f cdv A outer s H E hr => ?_
  refine ⟨_, (pss_one (ps_ret (pe_lst (pa_cons pe_str (pa_cons pe_str (pa_cons pe_str (pa_cons pe_str (pa_cons pe_str (pa_cons pe_str (pa_cons pe_str (pa_cons pe_str (pa_cons pe_str (pa_cons pe_str (pa_cons pe_str (pa_cons pe_str (pa_cons pe_str (pa_cons pe_str (pa_cons pe_str pa_nil)))))))))))))))))), ?_⟩
  try dsimp only [cxOf]
  rintro ds h R ⟨rfl, q⟩
  k_places
  refine ve_lst ?_
  k_places
  have e : (sgL.map S) = (["(", ")", ",", ".", "+", "-", "*", "/", "=", "<>", "<", "<=", ">", ">=", "||"] : List String).map Str.ofString := by decide +kernel
  rw [e] at q
  exact q
abbrev st_dig : Stmt := (topS 30)
theorem sc_dig : FnScope ["state", "count", "k"] ["state", "count"] (defScope st_dig) := ⟨rfl, rfl, rfl, by decide +kernel, rfl, by decide +kernel, by decide +kernel⟩
def W_dig : Spc := fun ds h R => ∃ (n : Nat) (ns : List Int) (a b c cnt : Int), ds = [.own n, dI cnt] ∧ h[n]? = some (some (stO ns a b c)) ∧ OkSt ns a b c ∧ 0 ≤ cnt ∧ cnt ≤ 100 ∧
  ∀ (w : List Nat) (a' b' c' : Int), OkSt ns a' b' c' → w.length = cnt.toNat → (∀ d ∈ w, Tz.inS Tz.digs d = true) → R (dS (S w)) (h.set n (some (stO ns a' b' c')))
theorem flat1 : ∀ w : List Nat, (w.map fun d => [d]).flatten = w
  | [] => rfl
  | d :: w => by rw [List.map_cons, List.flatten_cons, flat1 w]; rfl
theorem digit_S {v : Int} (v0 : 0 ≤ v) (v1 : v < 10) : ((toString v : String) : Str) = S [48 + v.toNat] ∧ Tz.inS Tz.digs (48 + v.toNat) = true := by
  obtain ⟨k, rfl⟩ := Int.eq_ofNat_of_zero_le v0
  have e : ((toString ((k : Nat) : Int) : String) : Str) = S (TL.numL k) := SX.num_S k
  refine ⟨?_, Tz.dig_in (by omega) (by omega)⟩
  rw [e, TL.numL_lt (by omega)]
  rfl
theorem ok_dig (A : DefAt K mg "_law_digits" st_dig ["state", "count"]) (m_range : mg "range" = none) (m_str : mg "str" = none) (h__law_next : HasF Pg w K mg base CX0 1 "_law_next" ["state", "limit"] (spD K Θ W_next)) :
    HasF Pg w K mg base CX0 2 "_law_digits" ["state", "count"] (spD K Θ W_dig) := by
  have sc := sc_dig
  refine A.okD sc W_dig (fun ds h R ⟨_, _, _, _, _, _, e, _⟩ => by rw [e]; rfl) fun f cdv A outer s H E hr => ?_
  refine ⟨_, (pss_one (ps_ret (pe_bm PySem.F.plainAttrs_str PySem.F.slot_str_join PySem.F.type_str_join (mt_joinK (K := K) (by rfl)) pe_str (pa_cons (pe_lc (own := [("k", 2)]) rfl sc.nd (pi_range1 rfl m_range (pa_cons (pv 1) pa_nil)) (blkOk_by (N := ["state", "count", "k"]) (sc := defScope (topS 30)) (by decide +kernel)) (fun _ _ _ _ _ => (pg_name (i := 2) sc.nd rfl (.inl rfl))) (fun _ _ _ _ _ => pts_nil) (fun _ _ _ _ _ => (pe_callTy call_str_int (by rfl) m_str (by decide +kernel) (pa_cons (h__law_next.call (hr.mono (by first | decide | omega)) rfl pass0 (pa_cons (pv 0) (pa_cons pe_int pa_nil))) pa_nil)))) pa_nil)))), ?_⟩
  try dsimp only [cxOf]
  rintro ds h R ⟨n, ns, a, b, c, cnt, rfl, hn, ok, c0, c1, q⟩
  have hl : n < h.length := (List.getElem?_eq_some_iff.mp hn).1
  have sz := sizeLine_eq
  rw [← set_same hn]
  k_places
  refine ve_bm ?_
  k_places
  refine ⟨rfl, va_cons ?_⟩
  refine ve_lcI tg_name ?_
  refine vi_range1 ?_
  k_places
  refine ⟨cnt, rfl, by omega, by omega, ?_⟩
  refine draws_of (S := fun p => ∃ d, p = .str (SX.S [d]) ∧ Tz.inS Tz.digs d = true) (n := n) (h0 := h) (m := cnt.toNat) hl ok (by omega) (fun i acc a b c T ok hT => ?_) fun vs a b c vl vok ok => ?_
  · have hl2 : n < (h ++ [accO acc]).length := by rw [List.length_append]; omega
    rw [app_assoc' hl]
    k_places
    refine next_i hl2 ok (by decide) (by decide) fun v a b c ok v0 v1 => ?_
    k_places
    refine vc_str (Nat.lt_trans (log2_small (n := v.natAbs) (by omega)) (by decide)) ?_
    rw [← app_assoc' hl]
    obtain ⟨e1, e2⟩ := digit_S v0 v1
    rw [e1]
    exact hT _ a b c ok ⟨_, rfl, e2⟩
  · obtain ⟨w, rfl, e2, e3⟩ := gather vok
    k_places
    refine vm_join ?_ ?_
    · have l0 : (Str.ofString "").length = 0 := by decide +kernel
      have l1 : ((w.map fun d => S [d]).map (·.length)).sum = w.length := by
        rw [List.map_map]
        have : ((fun s : Str => s.length) ∘ fun c : Nat => S [c]) = fun _ => 1 := rfl
        rw [this]
        exact sum_ones w
      rw [l0, l1, Nat.mul_zero]; omega
    have e : Txt.join (Str.ofString "") (w.map fun d => S [d]) = S w := by
      have z := join_S (w.map fun d => [d])
      rw [List.map_map] at z
      rw [flat1 w] at z
      exact z
    rw [e]
    exact q w a b c ok (by omega) e3
abbrev st_lng : Stmt := (topS 31)
theorem sc_lng : FnScope ["state", "count"] ["state", "count"] (defScope st_lng) := ⟨rfl, rfl, rfl, by decide +kernel, rfl, by decide +kernel, by decide +kernel⟩
def W_lng : Spc := fun ds h R => ∃ (n : Nat) (ns : List Int) (a b c cnt : Int), ds = [.own n, dI cnt] ∧ h[n]? = some (some (stO ns a b c)) ∧ OkSt ns a b c ∧ 2 ≤ cnt ∧ cnt ≤ 3000 ∧
  ∀ (w : List Nat) (a' b' c' : Int), OkSt ns a' b' c' → w.length = cnt.toNat → R (dS (S w)) (h.set n (some (stO ns a' b' c')))
theorem ok_lng (A : DefAt K mg "_law_long_text" st_lng ["state", "count"]) (h__law_next : HasF Pg w K mg base CX0 1 "_law_next" ["state", "limit"] (spD K Θ W_next))
    (h__law_char : HasF Pg w K mg base CX0 1 "_law_char" ["index"] (spD K Θ W_char)) : HasF Pg w K mg base CX0 2 "_law_long_text" ["state", "count"] (spD K Θ W_lng) := by
  have sc := sc_lng
  refine A.okD sc W_lng (fun ds h R ⟨_, _, _, _, _, _, e, _⟩ => by rw [e]; rfl) fun f cdv A outer s H E hr => ?_
  refine ⟨_, (pss_one (ps_ret (pe_op (op_addWK (K := K) (by rfl)) (pe_op (op_addWK (K := K) (by rfl)) (h__law_char.call (hr.mono (by first | decide | omega)) rfl pass0 (pa_cons (h__law_next.call (hr.mono (by first | decide | omega)) rfl pass0 (pa_cons (pv 0) (pa_cons pe_int pa_nil))) pa_nil)) (pe_op op_mulU pe_str (pe_op op_sub (pv 1) pe_int))) (h__law_char.call (hr.mono (by first | decide | omega)) rfl pass0 (pa_cons (h__law_next.call (hr.mono (by first | decide | omega)) rfl pass0 (pa_cons (pv 0) (pa_cons pe_int pa_nil))) pa_nil))))), ?_⟩
  try dsimp only [cxOf]
  rintro ds h R ⟨n, ns, a, b, c, cnt, rfl, hn, ok, c0, c1, q⟩
  have hl : n < h.length := (List.getElem?_eq_some_iff.mp hn).1
  have sz := sizeLine_eq
  rw [← set_same hn]
  k_places
  refine next_i hl ok (by decide) (by decide) fun v a b c ok v0 v1 => ?_
  k_places
  refine ⟨v, rfl, fun x _ => ?_⟩
  k_places
  have lb : ("b" : Str).length = 1 := by decide +kernel
  have lr : (repS "b" (cnt - 2)).length = (cnt - 2).toNat := by rw [repS_len, lb, Nat.mul_one]
  refine v2_mulS (by omega) (by rw [lb]; decide) (by rw [lb]; omega) ?_
  have er : repS "b" (cnt - 2) = S (repS "b" (cnt - 2)).cps.toList := (S_tl _).symm
  have lr2 : (repS "b" (cnt - 2)).cps.toList.length = (cnt - 2).toNat := lr
  rw [er]
  generalize (repS "b" (cnt - 2)).cps.toList = m at *
  refine v2_addWS ?_ ?_
  · show (S [x]).length + _ ≤ _
    rw [S_len, S_len]; simp; omega
  have ec : (⟨#[x]⟩ : Str) ++ S m = S ([x] ++ m) := S_cat [x] m
  rw [ec]
  k_places
  refine next_i hl ok (by decide) (by decide) fun v a b c ok v0 v1 => ?_
  k_places
  refine ⟨v, rfl, fun y _ => ?_⟩
  refine v2_addWS ?_ ?_
  · show _ + (S [y]).length ≤ _
    rw [S_len, S_len]; simp; omega
  have ec : S ([x] ++ m) ++ (⟨#[y]⟩ : Str) = S ([x] ++ m ++ [y]) := S_cat _ [y]
  rw [ec]
  exact q _ a b c ok (by simp; omega)
abbrev st_qtd : Stmt := (topS 32)
theorem sc_qtd : FnScope ["text"] ["text"] (defScope st_qtd) := ⟨rfl, rfl, rfl, by decide +kernel, rfl, by decide +kernel, by decide +kernel⟩
def W_qtd : Spc := fun ds h R => ∃ t : List Nat, ds = [dS (S t)] ∧ t.length ≤ 3000 ∧ R (dS (S (39 :: (Tz.esc t ++ [39])))) h
theorem ok_qtd (A : DefAt K mg "_law_quoted" st_qtd ["text"]) : HasF Pg w K mg base CX0 1 "_law_quoted" ["text"] (spD K Θ W_qtd) := by
  have sc := sc_qtd
  refine A.okD sc W_qtd (fun ds h R ⟨_, e, _⟩ => by rw [e]; rfl) fun f cdv A outer s H E hr => ?_
  refine ⟨_, (pss_one (ps_ret (pe_op (op_addWK (K := K) (by rfl)) (pe_catRep (by decide +kernel) (pv 0)) pe_str))), ?_⟩
  try dsimp only [cxOf]
  rintro ds h R ⟨t, rfl, hl, q⟩
  have sz := sizeLine_eq
  k_places
  refine ve_catRep ?_
  k_places
  have el := Tz.esc_len t
  have l1 : ("'" : Str).length = 1 := by decide +kernel
  have l2 : ("''" : Str).length = 2 := by decide +kernel
  have s39 : ("'" : Str) = S [39] := by decide +kernel
  have l3 : (S t).length = t.length := S_len t
  refine ⟨S t, rfl, by rw [l2, l3]; omega, ?_, ?_⟩
  · rw [rep_S]; show (Str.ofString "'").length + (S (Tz.esc t)).length ≤ _; rw [l1, S_len]; omega
  rw [rep_S, s39, S_cat]
  k_places
  refine v2_addWS ?_ ?_
  · rw [S_len, S_len]; simp; omega
  rw [S_cat]
  exact q
end
end Law

namespace Law
open PySem PySem.Spec PyProof.Rows L2 Kb SX TL
-- the steps that are tried: k_clsL a side condition; k_subL one step; k_places steps as long as one fits
local macro_rules | `(tactic| k_clsL) => `(tactic| first | assumption | decide | omega)
local macro_rules | `(tactic| k_subL) => `(tactic| first
  | (with_reducible refine vs_seq ?_) | (with_reducible refine vs_asg ?_) | (with_reducible refine vg_name ?_) | (with_reducible refine vs_ret ?_) | (with_reducible refine vs_if ?_) | (with_reducible refine vs_next ?_) | (with_reducible refine vs_drop ?_)
  | (with_reducible refine vt_test ?_) | (with_reducible refine vt_B ?_) | (with_reducible refine vt_and ?_) | (with_reducible refine vt_or ?_) | (with_reducible refine vt_not ?_) | (with_reducible refine vt_truth ?_)
  | (with_reducible refine ve_op ?_) | (with_reducible refine ve_isi2 ?_) | ((with_reducible refine isi2_i (T := "tuple") ?hT ?hm ?hn ?_); (case hT => exact rfl); (case hm => decide); (case hn => decide)) | ((with_reducible refine isi2_i (T := "list") ?hT ?hm ?hn ?_); (case hT => exact rfl); (case hm => decide); (case hn => decide)) | ((with_reducible refine isi2_i (T := "int") ?hT ?hm ?hn ?_); (case hT => exact rfl); (case hm => decide); (case hn => decide)) | ((with_reducible refine isi2_i (T := "bool") ?hT ?hm ?hn ?_); (case hT => exact rfl); (case hm => decide); (case hn => decide)) | ((with_reducible refine isi2_i (T := "str") ?hT ?hm ?hn ?_); (case hT => exact rfl); (case hm => decide); (case hn => decide)) | ((with_reducible refine isi2_i (T := "NoneType") ?hT ?hm ?hn ?_); (case hT => exact rfl); (case hm => decide); (case hn => decide)) | (with_reducible refine ve_cb ?_) | (with_reducible refine va_cons ?_) | (with_reducible refine va_nil ?_) | (with_reducible refine ve_call ?_)
  | (with_reducible refine ve_int ?_) | (with_reducible refine ve_str ?_) | (with_reducible refine ve_bl ?_) | (with_reducible refine ve_non ?_) | (with_reducible refine ve_ty ?_)
  | (refine ve_var (by exact rfl) ?_)
  | (with_reducible refine ve_and ?_) | (with_reducible refine ve_or ?_) | (with_reducible refine ve_not ?_) | (with_reducible refine ve_chain ?_) | (with_reducible refine ve_un ?_) | (with_reducible refine ve_if ?_)
  | (with_reducible refine bool_ans ?_) | (with_reducible refine tru_bl ?_)
  | (with_reducible refine vc_intI ?_) | (with_reducible refine vc_intB ?_) | (with_reducible refine v2_addI ?_) | (with_reducible refine v2_sub ?_)
  | (with_reducible refine v2_lt ?_) | (with_reducible refine v2_le ?_) | (with_reducible refine v2_gt ?_) | (with_reducible refine v2_ge ?_)
  | (with_reducible refine v2_eqI ?_) | (with_reducible refine v2_eqS ?_) | (with_reducible refine v2_eqB ?_) | (with_reducible refine v2_neI ?_) | (with_reducible refine v2_neS ?_) | (with_reducible refine v2_neB ?_)
  | (with_reducible refine v2_isN ?_) | (with_reducible refine v2_notN ?_) | (with_reducible refine v2_isNU ?_) | ((with_reducible refine v2_isBl ?hx ?_); (case hx => exact rfl))
  | (with_reducible refine v2_addVI ?_) | (with_reducible refine v2_addWI ?_) | (with_reducible refine v2_ltI ?_) | (with_reducible refine v2_ltB ?_) | (with_reducible refine v2_ltS ?_)
  | ((with_reducible refine v2_divW ?hm ?_); case hm => (constructor <;> k_clsL))
  | ((with_reducible refine v2_mulU ?hm ?_); case hm => first | exact cmul_small (by k_clsL) (by k_clsL) | exact cmul_wide (by k_clsL) (by k_clsL))
  | ((with_reducible refine v2_mod ?hm ?_); case hm => k_clsL) | ((with_reducible refine v2_div ?hm ?_); case hm => (constructor <;> k_clsL))
  | ((with_reducible refine v2_mul ?hm ?_); case hm => first | exact cmul_small (by k_clsL) (by k_clsL) | exact cmul_wide (by k_clsL) (by k_clsL))
  | (with_reducible refine vc_abs ?_) | (with_reducible refine vc_min2 ?_) | (with_reducible refine vc_max2 ?_)
  | (with_reducible refine ve_tup ?_) | ((with_reducible refine tup_j ?hl ?_); (case hl => exact rfl))
  | ((with_reducible refine vc_isi (T := "tuple") ?hT ?hn ?_); (case hT => first | exact rfl | exact ⟨rfl, _, by first | assumption | simp⟩); (case hn => decide)) | ((with_reducible refine vc_isi (T := "list") ?hT ?hn ?_); (case hT => first | exact rfl | exact ⟨rfl, _, by first | assumption | simp⟩); (case hn => decide)) | ((with_reducible refine vc_isi (T := "int") ?hT ?hn ?_); (case hT => first | exact rfl | exact ⟨rfl, _, by first | assumption | simp⟩); (case hn => decide)) | ((with_reducible refine vc_isi (T := "bool") ?hT ?hn ?_); (case hT => first | exact rfl | exact ⟨rfl, _, by first | assumption | simp⟩); (case hn => decide)) | ((with_reducible refine vc_isi (T := "str") ?hT ?hn ?_); (case hT => first | exact rfl | exact ⟨rfl, _, by first | assumption | simp⟩); (case hn => decide)) | ((with_reducible refine vc_isi (T := "NoneType") ?hT ?hn ?_); (case hT => first | exact rfl | exact ⟨rfl, _, by first | assumption | simp⟩); (case hn => decide))
  | (with_reducible refine vc_lenL ?_) | (with_reducible refine vc_lenT ?_) | (with_reducible refine ite_nrefl ?_) | (with_reducible refine ite_refl ?_)
  | ((with_reducible refine ite_tt ?hc ?_); (case hc => first | decide | exact rfl)) | ((with_reducible refine ite_ff ?hc ?_); (case hc => first | decide | exact rfl))
  | (with_reducible refine v1_U ?_))
local macro_rules | `(tactic| k_places) => `(tactic| repeat k_subL)

/-- what is drawn: a token's kind, value and text -/
def TokOk (p : P) : Prop := ∃ (k : Str) (v : P) (l : List Nat), p = .tup [.str k, v, .str (S l)] ∧ Tz.Drawn k v l
section
variable {Pg : Program} {w : World} {K : PySem.W.Frag} {Θ : List Addr} {mg : Str → Option Value} {base : Heap} {C aK aL : Addr}
abbrev st_tok : Stmt := (topS 33)
theorem sc_tok : FnScope ["state", "pick", "word", "name", "digits", "text", "sign", "k"] ["state"] (defScope st_tok) := ⟨rfl, rfl, rfl, by decide +kernel, rfl, by decide +kernel, by decide +kernel⟩
theorem ok_tok (A : DefAt K mg "_law_token" st_tok ["state"]) (m_range : mg "range" = none) (m_int : mg "int" = none) (h__law_next : HasF Pg w K mg base CX0 1 "_law_next" ["state", "limit"] (spD K Θ W_next))
    (h__law_char : HasF Pg w K mg base CX0 1 "_law_char" ["index"] (spD K Θ W_char)) (h__law_keywords : HasF Pg w K mg base CX0 1 "_law_keywords" [] (spD K Θ W_kws))
    (h__law_name : HasF Pg w K mg base CX0 2 "_law_name" ["state"] (spD K Θ (W_draw NameOk))) (h__law_signs : HasF Pg w K mg base CX0 1 "_law_signs" [] (spD K Θ W_sgs))
    (h__law_digits : HasF Pg w K mg base CX0 2 "_law_digits" ["state", "count"] (spD K Θ W_dig)) (h__law_long_text : HasF Pg w K mg base CX0 2 "_law_long_text" ["state", "count"] (spD K Θ W_lng))
    (h__law_quoted : HasF Pg w K mg base CX0 1 "_law_quoted" ["text"] (spD K Θ W_qtd)) : HasF Pg w K mg base CX0 3 "_law_token" ["state"] (spD K Θ (W_draw TokOk)) := by
  have sc := sc_tok
  refine A.okD sc (W_draw TokOk) (fun ds h R ⟨_, _, _, _, _, e, _⟩ => by rw [e]; rfl) fun f cdv A outer s H E hr => ?_
  refine ⟨_, (pss_cons (ps_set (i := 1) sc.nd rfl (.inl rfl) (h__law_next.call (hr.mono (by first | decide | omega)) rfl pass0 (pa_cons (pv 0) (pa_cons pe_int pa_nil))))
  (pss_cons (ps_if (pt_cmpR op_lt (pv 1) pe_int (nomark _)) (pss_cons (ps_set (i := 2) sc.nd rfl (.inl rfl) (pe_ix (ix_seqK (K := K) (by rfl)) (h__law_keywords.call0 (hr.mono (by first | decide | omega)) rfl pass0) (h__law_next.call (hr.mono (by first | decide | omega)) rfl pass0 (pa_cons (pv 0) (pa_cons pe_int pa_nil))) (fun _ _ => rfl)))
  (pss_one (ps_ret (pe_tup (pa_cons pe_str (pa_cons (pv 2) (pa_cons (pv 2) pa_nil))))))) pss_nil)
  (pss_cons (ps_if (pt_cmpR op_lt (pv 1) pe_int (nomark _)) (pss_cons (ps_set (i := 3) sc.nd rfl (.inl rfl) (h__law_name.call (hr.mono (by first | decide | omega)) rfl pass0 (pa_cons (pv 0) pa_nil)))
  (pss_one (ps_ret (pe_tup (pa_cons pe_str (pa_cons (pv 3) (pa_cons (pv 3) pa_nil))))))) pss_nil)
  (pss_cons (ps_if (pt_cmpR op_lt (pv 1) pe_int (nomark _)) (pss_cons (ps_set (i := 4) sc.nd rfl (.inl rfl) (h__law_digits.call (hr.mono (by first | decide | omega)) rfl pass0 (pa_cons (pv 0) (pa_cons (pe_op (op_addWK (K := K) (by rfl)) pe_int (h__law_next.call (hr.mono (by first | decide | omega)) rfl pass0 (pa_cons (pv 0) (pa_cons pe_int pa_nil)))) pa_nil))))
  (pss_one (ps_ret (pe_tup (pa_cons pe_str (pa_cons (pe_callTy call_intU (by rfl) m_int (by decide +kernel) (pa_cons (pv 4) pa_nil)) (pa_cons (pv 4) pa_nil))))))) pss_nil)
  (pss_cons (ps_if (pt_cmpR op_lt (pv 1) pe_int (nomark _)) (pss_cons (ps_set (i := 5) sc.nd rfl (.inl rfl) (pe_bm PySem.F.plainAttrs_str PySem.F.slot_str_join PySem.F.type_str_join (mt_joinK (K := K) (by rfl)) pe_str (pa_cons (pe_lc (own := [("k", 7)]) rfl sc.nd (pi_range1 rfl m_range (pa_cons (h__law_next.call (hr.mono (by first | decide | omega)) rfl pass0 (pa_cons (pv 0) (pa_cons pe_int pa_nil))) pa_nil)) (blkOk_by (N := ["state", "pick", "word", "name", "digits", "text", "sign", "k"]) (sc := defScope (topS 33)) (by decide +kernel)) (fun _ _ _ _ _ => (pg_name (i := 7) sc.nd rfl (.inl rfl))) (fun _ _ _ _ _ => pts_nil) (fun _ _ _ _ _ => (h__law_char.call (hr.mono (by first | decide | omega)) rfl pass0 (pa_cons (h__law_next.call (hr.mono (by first | decide | omega)) rfl pass0 (pa_cons (pv 0) (pa_cons pe_int pa_nil))) pa_nil)))) pa_nil)))
  (pss_cons (ps_if (pt_cmpR (op_eqUK (K := K) (by rfl) hr.units) (h__law_next.call (hr.mono (by first | decide | omega)) rfl pass0 (pa_cons (pv 0) (pa_cons pe_int pa_nil))) pe_int (nomark _)) (pss_one (ps_set (i := 5) sc.nd rfl (.inl rfl) (h__law_long_text.call (hr.mono (by first | decide | omega)) rfl pass0 (pa_cons (pv 0) (pa_cons (pe_op (op_addWK (K := K) (by rfl)) pe_int (h__law_next.call (hr.mono (by first | decide | omega)) rfl pass0 (pa_cons (pv 0) (pa_cons pe_int pa_nil)))) pa_nil))))) pss_nil)
  (pss_one (ps_ret (pe_tup (pa_cons pe_str (pa_cons (pv 5) (pa_cons (h__law_quoted.call (hr.mono (by first | decide | omega)) rfl pass0 (pa_cons (pv 5) pa_nil)) pa_nil)))))))) pss_nil)
  (pss_cons (ps_if (pt_cmpR (op_eqUK (K := K) (by rfl) hr.units) (pv 1) pe_int (nomark _)) (pss_cons (ps_set (i := 4) sc.nd rfl (.inl rfl) (h__law_digits.call (hr.mono (by first | decide | omega)) rfl pass0 (pa_cons (pv 0) (pa_cons (pe_op (op_addWK (K := K) (by rfl)) pe_int (h__law_next.call (hr.mono (by first | decide | omega)) rfl pass0 (pa_cons (pv 0) (pa_cons pe_int pa_nil)))) pa_nil))))
  (pss_one (ps_ret (pe_tup (pa_cons pe_str (pa_cons (pe_callTy call_intU (by rfl) m_int (by decide +kernel) (pa_cons (pv 4) pa_nil)) (pa_cons (pe_op (op_addWK (K := K) (by rfl)) pe_str (pv 4)) pa_nil))))))) pss_nil)
  (pss_cons (ps_set (i := 6) sc.nd rfl (.inl rfl) (pe_ix (ix_seqK (K := K) (by rfl)) (h__law_signs.call0 (hr.mono (by first | decide | omega)) rfl pass0) (h__law_next.call (hr.mono (by first | decide | omega)) rfl pass0 (pa_cons (pv 0) (pa_cons pe_int pa_nil))) (fun _ _ => rfl)))
  (pss_one (ps_ret (pe_tup (pa_cons pe_str (pa_cons (pv 6) (pa_cons (pv 6) pa_nil))))))))))))), ?_⟩
  try dsimp only [cxOf]
  rintro ds h R ⟨n, ns, a, b, c, rfl, hn, ok, q⟩
  have hl : n < h.length := (List.getElem?_eq_some_iff.mp hn).1
  have sz := sizeLine_eq
  rw [← set_same hn]
  have hst : ∀ a b c : Int, (h.set n (some (stO ns a b c)))[n]? = some (some (stO ns a b c)) := fun a b c => List.getElem?_set_self hl
  k_places
  refine next_i hl ok (by decide) (by decide) fun pick a b c ok p0 p1 => ?_
  k_places
  refine ite_dec (fun e1 => ?_) (fun e1 => ?_)
  · k_places
    refine ⟨rfl, ?_⟩
    k_places
    refine next_i hl ok (by decide) (by decide) fun v a b c ok v0 v1 => ?_
    have lk : Tz.kws.length = 37 := by decide
    have hv : v.toNat < Tz.kws.length := by rw [lk]; omega
    refine v2_ixL (at_nat v.toNat (by omega) (by rw [List.getElem?_map, List.getElem?_eq_getElem hv]; rfl)) ?_
    obtain ⟨l, e, d⟩ := kw_drawn (List.getElem_mem hv)
    k_places
    refine q _ a b c ok ⟨_, _, l, ?_, d⟩
    rw [← e]
  k_places
  refine ite_dec (fun e2 => ?_) (fun e2 => ?_)
  · k_places
    refine draw_i hl ok fun v a b c ok hv => ?_
    obtain ⟨l, rfl, d⟩ := name_drawn hv
    k_places
    exact q _ a b c ok ⟨_, _, l, rfl, d⟩
  k_places
  refine ite_dec (fun e3 => ?_) (fun e3 => ?_)
  · k_places
    refine next_i hl ok (by decide) (by decide) fun v a b c ok v0 v1 => ?_
    k_places
    refine ⟨n, ns, a, b, c, _, rfl, hst a b c, ok, by omega, by omega, fun l a b c ok el hd => ?_⟩
    rw [List.set_set]
    have l0 : l ≠ [] := fun z => by rw [z] at el; simp at el; omega
    k_places
    refine vc_intS (int_S (Tz.dig_ok hd) l0 (by omega)) (by rw [S_len]; omega) ?_
    k_places
    exact q _ a b c ok ⟨_, _, l, rfl, .int l0 hd (by omega)⟩
  k_places
  refine ite_dec (fun e4 => ?_) (fun e4 => ?_)
  · refine vs_seq ?_
    refine vs_asg ?_
    refine text_i hl (by rfl) (by decide) ok (by decide) (by decide) fun s a b c ok t => ?_
    have t5 : s.length ≤ 5 := t.len
    have es : s = S s.cps.toList := (S_tl s).symm
    have t6 : s.cps.toList.length ≤ 5 := t5
    rw [es]
    generalize s.cps.toList = t0 at *
    have fin : ∀ (t : List Nat) (a b c : Int), OkSt ns a b c → t.length ≤ 2000 → R (.p (.tup [.str "text", .str (S t), .str (S (39 :: (Tz.esc t ++ [39])))])) (h.set n (some (stO ns a b c))) := fun t a b c ok hl =>
      q _ a b c ok ⟨_, _, _, rfl, .text hl⟩
    k_places
    refine next_i hl ok (by decide) (by decide) fun v a b c ok v0 v1 => ?_
    k_places
    refine ite_dec (fun e5 => ?_) (fun e5 => ?_)
    · k_places
      refine next_i hl ok (by decide) (by decide) fun v a b c ok v0 v1 => ?_
      k_places
      refine ⟨n, ns, a, b, c, _, rfl, hst a b c, ok, by omega, by omega, fun l a b c ok el => ?_⟩
      rw [List.set_set]
      k_places
      refine ⟨l, rfl, by omega, ?_⟩
      k_places
      exact fin l a b c ok (by omega)
    · k_places
      refine ⟨t0, rfl, by omega, ?_⟩
      k_places
      exact fin t0 a b c ok (by omega)
  k_places
  refine ite_dec (fun e5 => ?_) (fun e5 => ?_)
  · k_places
    refine next_i hl ok (by decide) (by decide) fun v a b c ok v0 v1 => ?_
    k_places
    refine ⟨n, ns, a, b, c, _, rfl, hst a b c, ok, by omega, by omega, fun l a b c ok el hd => ?_⟩
    rw [List.set_set]
    have l0 : l ≠ [] := fun z => by rw [z] at el; simp at el; omega
    k_places
    refine vc_intS (int_S (Tz.dig_ok hd) l0 (by omega)) (by rw [S_len]; omega) ?_
    k_places
    have s36 : ("$" : Str) = S [36] := by decide +kernel
    refine v2_addWS ?_ ?_
    · rw [s36, S_len, S_len]; simp; omega
    rw [s36, S_cat]
    k_places
    exact q _ a b c ok ⟨_, _, _, rfl, .par l0 hd (by omega)⟩
  k_places
  refine ⟨rfl, ?_⟩
  k_places
  refine next_i hl ok (by decide) (by decide) fun v a b c ok v0 v1 => ?_
  have lk : sgL.length = 15 := by decide
  have hv : v.toNat < sgL.length := by rw [lk]; omega
  refine v2_ixL (at_nat v.toNat (by omega) (by rw [List.getElem?_map, List.getElem?_map, List.getElem?_eq_getElem hv]; rfl)) ?_
  k_places
  exact q _ a b c ok ⟨_, _, _, rfl, .sign (List.getElem_mem hv)⟩
abbrev st_jn : Stmt := (topS 34)
theorem sc_jn : FnScope ["written", "other", "wordy", "first", "last", "begin"] ["written", "other"] (defScope st_jn) := ⟨rfl, rfl, rfl, by decide +kernel, rfl, by decide +kernel, by decide +kernel⟩
def W_jn : Spc := fun ds h R => ∃ (p l : List Nat), ds = [dS (S p), dS (S l)] ∧ 0 < p.length ∧ 0 < l.length ∧ p.length ≤ 10000 ∧ l.length ≤ 10000 ∧ R (dB (Tz.joinC p (l.head?.getD 0))) h
theorem ok_jn (A : DefAt K mg "_law_joins" st_jn ["written", "other"]) : HasF Pg w K mg base CX0 1 "_law_joins" ["written", "other"] (spD K Θ W_jn) := by
  have sc := sc_jn
  refine A.okD sc W_jn (fun ds h R ⟨_, _, e, _⟩ => by rw [e]; rfl) fun f cdv A outer s H E hr => ?_
  refine ⟨_, (pss_cons (ps_set (i := 2) sc.nd rfl (.inl rfl) pe_str)
  (pss_cons (ps_set (i := 3) sc.nd rfl (.inl rfl) (pe_ix (ix_seqK (K := K) (by rfl)) (pv 0) pe_int (fun _ _ => rfl)))
  (pss_cons (ps_set (i := 4) sc.nd rfl (.inl rfl) (pe_ix (ix_seqK (K := K) (by rfl)) (pv 0) (pe_un un_neg pe_int) (fun _ _ => rfl)))
  (pss_cons (ps_set (i := 5) sc.nd rfl (.inl rfl) (pe_ix (ix_seqK (K := K) (by rfl)) (pv 1) pe_int (fun _ _ => rfl)))
  (pss_cons (ps_if (pt_cmpR (op_inUK (K := K) (by rfl)) (pv 3) pe_str (by rfl)) (pss_one (ps_ret (pe_cmpR (op_inUK (K := K) (by rfl)) (pv 5) (pv 2) (by rfl)))) pss_nil)
  (pss_cons (ps_if (pt_cmpR (op_inUK (K := K) (by rfl)) (pv 3) pe_str (by rfl)) (pss_one (ps_ret (pe_cmpR (op_inUK (K := K) (by rfl)) (pv 5) pe_str (by rfl)))) pss_nil)
  (pss_cons (ps_if (pt_cmpR (op_eqUK (K := K) (by rfl) hr.units) (pv 3) pe_str (nomark _)) (pss_one (ps_ret (pe_cmpR (op_eqUK (K := K) (by rfl) hr.units) (pv 5) pe_str (nomark _)))) pss_nil)
  (pss_one (ps_ret (pe_and (pe_cmpR (op_inUK (K := K) (by rfl)) (pv 4) pe_str (by rfl)) (pe_one (pe_cmpR (op_inUK (K := K) (by rfl)) (pv 5) pe_str (by rfl))))))))))))), ?_⟩
  try dsimp only [cxOf]
  rintro ds h R ⟨p, l, rfl, hp, hl, p1, l1, q⟩
  have sz := sizeLine_eq
  cases l with
  | nil => simp at hl
  | cons y l =>
    cases p with
    | nil => simp at hp
    | cons x p =>
      have el := at_last (xs := x :: p) (by simp)
      have gl : (x :: p).getLast?.getD 0 = (x :: p)[(x :: p).length - 1]'(by simp) := by
        rw [List.getLast?_eq_getElem?, List.getElem?_eq_getElem (by simp)]
        rfl
      generalize (x :: p)[(x :: p).length - 1]'(by simp) = z at *
      have q2 : R (dB (if Tz.inS Tz.lets x then Tz.inS Tz.ofws y else if Tz.inS ("$0123456789" : Str) x then Tz.inS Tz.digs y else if x = 39 then decide (y = 39) else (Tz.inS ("<>|" : Str) z && Tz.inS ("=<>|" : Str) y))) h := by
        have e : Tz.joinC (x :: p) ((y :: l).head?.getD 0) = (if Tz.inS Tz.lets x then Tz.inS Tz.ofws y else if Tz.inS ("$0123456789" : Str) x then Tz.inS Tz.digs y else if x = 39 then decide (y = 39) else (Tz.inS ("<>|" : Str) z && Tz.inS ("=<>|" : Str) y)) := by
          unfold Tz.joinC
          rw [gl]
          rfl
        rw [← e]
        exact q
      k_places
      refine v2_ixS (by rw [S_len]; omega) (at_nat 0 (by omega) rfl) ?_
      k_places
      refine v2_ixS (by rw [S_len]; omega) el ?_
      k_places
      refine v2_ixS (by rw [S_len]; omega) (at_nat 0 (by omega) rfl) ?_
      k_places
      refine v2_inC ?_
      refine ⟨_, rfl, ite_b (fun e1 => ?_) (fun e1 => ?_)⟩
      · rw [if_pos (show Tz.inS Tz.lets x = true from e1)] at q2
        k_places
        refine v2_inC ?_
        exact q2
      rw [if_neg (show ¬ Tz.inS Tz.lets x = true from fun z => Bool.noConfusion (e1.symm.trans z))] at q2
      k_places
      refine v2_inC ?_
      refine ⟨_, rfl, ite_b (fun e2 => ?_) (fun e2 => ?_)⟩
      · rw [if_pos (show Tz.inS ("$0123456789" : Str) x = true from e2)] at q2
        k_places
        refine v2_inC ?_
        exact q2
      rw [if_neg (show ¬ Tz.inS ("$0123456789" : Str) x = true from fun z => Bool.noConfusion (e2.symm.trans z))] at q2
      k_places
      have one : ∀ c d : Nat, (⟨#[c]⟩ : Str) = S [d] ↔ c = d := fun c d => ⟨fun z => by
        have z1 : [c] = [d] := congrArg (fun x : Str => x.cps.toList) z
        cases z1; rfl, fun z => by rw [z]⟩
      have s39 : ("'" : Str) = S [39] := by decide +kernel
      refine ite_dec (fun e3 => ?_) (fun e3 => ?_)
      · rw [s39, one] at e3
        rw [if_pos e3] at q2
        k_places
        have e4 : decide ((⟨#[y]⟩ : Str) = "'") = decide (y = 39) := decide_eq_decide.mpr (by rw [s39, one])
        rw [e4]
        exact q2
      rw [s39, one] at e3
      rw [if_neg e3] at q2
      k_places
      refine v2_inC ?_
      refine ⟨_, rfl, ite_b (fun e4 => ?_) (fun e4 => ?_)⟩
      · rw [show Tz.inS ("<>|" : Str) z = true from e4, Bool.true_and] at q2
        k_places
        refine v2_inC ?_
        exact q2
      · rw [show Tz.inS ("<>|" : Str) z = false from e4, Bool.false_and] at q2
        exact q2
abbrev st_gap : Stmt := (topS 35)
theorem sc_gap : FnScope ["state", "needed", "gap", "k"] ["state", "needed"] (defScope st_gap) := ⟨rfl, rfl, rfl, by decide +kernel, rfl, by decide +kernel, by decide +kernel⟩
def W_gap : Spc := fun ds h R => ∃ (n : Nat) (ns : List Int) (a b c : Int) (nd : Bool), ds = [.own n, dB nd] ∧ h[n]? = some (some (stO ns a b c)) ∧ OkSt ns a b c ∧
  ∀ (g : List Nat) (a' b' c' : Int), OkSt ns a' b' c' → g.length ≤ 2 → (∀ d ∈ g, Tz.inS Tz.blks d = true) → (nd = true → g ≠ []) → R (dS (S g)) (h.set n (some (stO ns a' b' c')))
theorem ok_gap (A : DefAt K mg "_law_gap" st_gap ["state", "needed"]) (m_range : mg "range" = none) (h__law_next : HasF Pg w K mg base CX0 1 "_law_next" ["state", "limit"] (spD K Θ W_next)) :
    HasF Pg w K mg base CX0 2 "_law_gap" ["state", "needed"] (spD K Θ W_gap) := by
  have sc := sc_gap
  refine A.okD sc W_gap (fun ds h R ⟨_, _, _, _, _, _, e, _⟩ => by rw [e]; rfl) fun f cdv A outer s H E hr => ?_
  refine ⟨_, (pss_cons (ps_set (i := 2) sc.nd rfl (.inl rfl) pe_str)
  (pss_cons (ps_for PassesOwn.never rfl (pi_range1 rfl m_range (pa_cons (h__law_next.call (hr.mono (by first | decide | omega)) rfl pass0 (pa_cons (pv 0) (pa_cons pe_int pa_nil))) pa_nil)) (pg_name (i := 3) sc.nd rfl (.inl rfl))
  (pss_one (ps_set (i := 2) sc.nd rfl (.inl rfl) (pe_op (op_addWK (K := K) (by rfl)) (pv 2) (pe_ix (ix_seqK (K := K) (by rfl)) pe_str (h__law_next.call (hr.mono (by first | decide | omega)) rfl pass0 (pa_cons (pv 0) (pa_cons pe_int pa_nil))) (fun _ _ => rfl))))))
  (pss_cons (ps_if (PW.pt (pw_and (pt_truth (pv 1) (by intro _; rfl)) (pw_and1 (pt_cmpR (op_eqUK (K := K) (by rfl) hr.units) (pv 2) pe_str (nomark _))))) (pss_one (ps_ret pe_str)) pss_nil)
  (pss_one (ps_ret (pv 2)))))), ?_⟩
  try dsimp only [cxOf]
  rintro ds h R ⟨n, ns, a, b, c, nd, rfl, hn, ok, q⟩
  have hl : n < h.length := (List.getElem?_eq_some_iff.mp hn).1
  have sz := sizeLine_eq
  rw [← set_same hn]
  k_places
  refine vs_for (vi_range1 ?_)
  k_places
  refine next_i hl ok (by decide) (by decide) fun m a b c ok m0 m1 => ?_
  k_places
  refine ⟨m, rfl, by omega, by omega, ?_⟩
  refine ⟨fun i env' h' => ∃ (g : List Nat) (o : Option Kb.D) (a b c : Int), env' = [some (.own n), some (dB nd), some (dS (S g)), o] ∧ g.length = i ∧ (∀ d ∈ g, Tz.inS Tz.blks d = true) ∧ OkSt ns a b c ∧ h' = h.set n (some (stO ns a b c)), ?_, ?_, ?_, ?_⟩
  · exact ⟨[], none, a, b, c, rfl, rfl, fun _ z => by simp at z, ok, rfl⟩
  · exact fun _ _ _ _ => trivial
  · rintro i d env' h' hd ⟨g, o, a, b, c, rfl, hg, hi, ok, rfl⟩
    obtain ⟨i1, rfl⟩ := rng_get hd
    k_places
    refine next_i hl ok (by decide) (by decide) fun v a b c ok v0 v1 => ?_
    have lb : Tz.blks.cps.toList.length = 2 := by decide +kernel
    have hv : v.toNat < Tz.blks.cps.toList.length := by rw [lb]; omega
    have g1 := in_at (List.getElem?_eq_getElem hv)
    refine v2_ixS (by decide +kernel) (at_nat (xs := Tz.blks.cps.toList) v.toNat (by omega) (List.getElem?_eq_getElem hv)) ?_
    generalize Tz.blks.cps.toList[v.toNat] = y at *
    refine v2_addWS ?_ ?_
    · show (S g).length + (S [y]).length ≤ _
      rw [S_len, S_len]; simp; omega
    have ec : S g ++ (⟨#[y]⟩ : Str) = S (g ++ [y]) := S_cat _ [y]
    rw [ec]
    k_places
    refine ⟨g ++ [y], _, a, b, c, rfl, by simp [hg], fun d hd => ?_, ok, rfl⟩
    rcases List.mem_append.mp hd with hd | hd
    · exact hi d hd
    · rw [List.mem_singleton.mp hd]; exact g1
  · rintro env' h' ⟨g, o, a, b, c, rfl, hg, hi, ok, rfl⟩
    rw [rng_len] at hg
    have yes : (nd = true → g ≠ []) → R (dS (S g)) (h.set n (some (stO ns a b c))) := q g a b c ok (by omega) hi
    k_places
    refine ite_b (fun e => ?_) (fun e => ?_)
    · k_places
      refine ite_dec (fun e2 => ?_) (fun e2 => ?_)
      · k_places
        have s32 : (" " : Str) = S [32] := by decide +kernel
        rw [s32]
        exact q [32] a b c ok (by simp) (fun d hd => by rw [List.mem_singleton.mp hd]; decide +kernel) fun _ => by simp
      · k_places
        exact yes fun _ z => e2 (by rw [z]; decide +kernel)
    · k_places
      exact yes fun z => Bool.noConfusion (e.symm.trans z)
/-- what is no token, whatever stands behind it -/
def StrOk (v : P) : Prop := ∃ s : List Nat, v = .str (S s) ∧ s.length ≤ 7000 ∧ (∃ c u, s = c :: u ∧ Tz.inS Tz.blks c = false) ∧ ∀ u, Tz.tokR (s ++ u) = none
abbrev st_str : Stmt := (topS 36)
theorem sc_str : FnScope ["state", "pick", "strange"] ["state"] (defScope st_str) := ⟨rfl, rfl, rfl, by decide +kernel, rfl, by decide +kernel, by decide +kernel⟩
theorem ok_str (A : DefAt K mg "_law_stranger" st_str ["state"]) (m_len : mg "len" = none) (h__law_next : HasF Pg w K mg base CX0 1 "_law_next" ["state", "limit"] (spD K Θ W_next))
    (h__law_digits : HasF Pg w K mg base CX0 2 "_law_digits" ["state", "count"] (spD K Θ W_dig)) (h__law_long_text : HasF Pg w K mg base CX0 2 "_law_long_text" ["state", "count"] (spD K Θ W_lng))
    (h__law_quoted : HasF Pg w K mg base CX0 1 "_law_quoted" ["text"] (spD K Θ W_qtd)) : HasF Pg w K mg base CX0 3 "_law_stranger" ["state"] (spD K Θ (W_draw StrOk)) := by
  have sc := sc_str
  refine A.okD sc (W_draw StrOk) (fun ds h R ⟨_, _, _, _, _, e, _⟩ => by rw [e]; rfl) fun f cdv A outer s H E hr => ?_
  refine ⟨_, (pss_cons (ps_set (i := 1) sc.nd rfl (.inl rfl) (h__law_next.call (hr.mono (by first | decide | omega)) rfl pass0 (pa_cons (pv 0) (pa_cons pe_int pa_nil))))
  (pss_cons (ps_if (pt_cmpR (op_eqUK (K := K) (by rfl) hr.units) (pv 1) pe_int (nomark _)) (pss_one (ps_ret (pe_op (op_addWK (K := K) (by rfl)) (pe_op (op_addWK (K := K) (by rfl)) pe_str (h__law_digits.call (hr.mono (by first | decide | omega)) rfl pass0 (pa_cons (pv 0) (pa_cons (pe_op (op_addWK (K := K) (by rfl)) pe_int (h__law_next.call (hr.mono (by first | decide | omega)) rfl pass0 (pa_cons (pv 0) (pa_cons pe_int pa_nil)))) pa_nil)))) pe_str))) pss_nil)
  (pss_cons (ps_if (pt_cmpR (op_eqUK (K := K) (by rfl) hr.units) (pv 1) pe_int (nomark _)) (pss_one (ps_ret pe_str)) pss_nil)
  (pss_cons (ps_if (pt_cmpR (op_eqUK (K := K) (by rfl) hr.units) (pv 1) pe_int (nomark _)) (pss_one (ps_ret (pe_op (op_addWK (K := K) (by rfl)) (h__law_digits.call (hr.mono (by first | decide | omega)) rfl pass0 (pa_cons (pv 0) (pa_cons (pe_op (op_addWK (K := K) (by rfl)) pe_int (h__law_next.call (hr.mono (by first | decide | omega)) rfl pass0 (pa_cons (pv 0) (pa_cons pe_int pa_nil)))) pa_nil))) pe_str))) pss_nil)
  (pss_cons (ps_if (pt_cmpR (op_eqUK (K := K) (by rfl) hr.units) (pv 1) pe_int (nomark _)) (pss_one (ps_ret (pe_op (op_addWK (K := K) (by rfl)) (h__law_quoted.call (hr.mono (by first | decide | omega)) rfl pass0 (pa_cons (h__law_long_text.call (hr.mono (by first | decide | omega)) rfl pass0 (pa_cons (pv 0) (pa_cons (pe_op (op_addWK (K := K) (by rfl)) pe_int (h__law_next.call (hr.mono (by first | decide | omega)) rfl pass0 (pa_cons (pv 0) (pa_cons pe_int pa_nil)))) pa_nil))) pa_nil)) pe_str))) pss_nil)
  (pss_cons (ps_set (i := 2) sc.nd rfl (.inl rfl) pe_str)
  (pss_one (ps_ret (pe_op (op_addWK (K := K) (by rfl)) (pe_ix (ix_seqK (K := K) (by rfl)) (pv 2) (h__law_next.call (hr.mono (by first | decide | omega)) rfl pass0 (pa_cons (pv 0) (pa_cons (pe_callB (call_lenK (K := K) (by rfl)) (by rfl) m_len (by decide +kernel) (pa_cons (pv 2) pa_nil)) pa_nil))) (fun _ _ => rfl)) pe_str))))))))), ?_⟩
  try dsimp only [cxOf]
  rintro ds h R ⟨n, ns, a, b, c, rfl, hn, ok, q⟩
  have hl : n < h.length := (List.getElem?_eq_some_iff.mp hn).1
  have sz := sizeLine_eq
  rw [← set_same hn]
  have hst : ∀ a b c : Int, (h.set n (some (stO ns a b c)))[n]? = some (some (stO ns a b c)) := fun a b c => List.getElem?_set_self hl
  have s32 : (" " : Str) = S [32] := by decide +kernel
  have s36 : ("$" : Str) = S [36] := by decide +kernel
  have b32 : ∀ u : List Nat, ∀ d, (32 :: u).head? = some d → Tz.inS Tz.digs d = false := fun u d hd => by cases hd; decide +kernel
  k_places
  refine next_i hl ok (by decide) (by decide) fun pick a b c ok p0 p1 => ?_
  k_places
  refine ite_dec (fun e1 => ?_) (fun e1 => ?_)
  · k_places
    refine next_i hl ok (by decide) (by decide) fun v a b c ok v0 v1 => ?_
    k_places
    refine ⟨n, ns, a, b, c, _, rfl, hst a b c, ok, by omega, by omega, fun l a b c ok el hd => ?_⟩
    rw [List.set_set]
    refine v2_addWS ?_ ?_
    · rw [s36, S_len, S_len]; simp; omega
    rw [s36, S_cat]
    k_places
    refine v2_addWS ?_ ?_
    · rw [s32, S_len, S_len]; simp; omega
    rw [s32, S_cat]
    refine q _ a b c ok ⟨_, rfl, by simp; omega, ⟨36, l ++ [32], by simp, by decide +kernel⟩, fun u => ?_⟩
    have z := Tz.no_par (u := 32 :: u) hd (by omega) (b32 u)
    simpa using z
  k_places
  refine ite_dec (fun e2 => ?_) (fun e2 => ?_)
  · k_places
    have e : ("$ 1" : Str) = S [36, 32, 49] := by decide +kernel
    rw [e]
    refine q _ a b c ok ⟨_, rfl, by simp, ⟨36, [32, 49], rfl, by decide +kernel⟩, fun u => ?_⟩
    have z := Tz.no_par (w := []) (u := 32 :: 49 :: u) (fun d hd => by simp at hd) (.inl rfl) (b32 _)
    simpa using z
  k_places
  refine ite_dec (fun e3 => ?_) (fun e3 => ?_)
  · k_places
    refine next_i hl ok (by decide) (by decide) fun v a b c ok v0 v1 => ?_
    k_places
    refine ⟨n, ns, a, b, c, _, rfl, hst a b c, ok, by omega, by omega, fun l a b c ok el hd => ?_⟩
    rw [List.set_set]
    k_places
    refine v2_addWS ?_ ?_
    · rw [s32, S_len, S_len]; simp; omega
    rw [s32, S_cat]
    refine q _ a b c ok ⟨_, rfl, by simp; omega, ?_, fun u => ?_⟩
    · cases l with
      | nil => simp at el; omega
      | cons x l =>
        have all : ∀ d ∈ Tz.digs.cps.toList, Tz.inS Tz.blks d = false := by decide +kernel
        exact ⟨x, l ++ [32], rfl, all x (of_decide_eq_true (hd x List.mem_cons_self))⟩
    · have z := Tz.no_int (u := 32 :: u) hd (by omega) (b32 u)
      simpa using z
  k_places
  refine ite_dec (fun e4 => ?_) (fun e4 => ?_)
  · k_places
    refine next_i hl ok (by decide) (by decide) fun v a b c ok v0 v1 => ?_
    k_places
    refine ⟨n, ns, a, b, c, _, rfl, hst a b c, ok, by omega, by omega, fun l a b c ok el => ?_⟩
    rw [List.set_set]
    k_places
    refine ⟨l, rfl, by omega, ?_⟩
    have el2 := Tz.esc_len l
    k_places
    refine v2_addWS ?_ ?_
    · rw [s32, S_len, S_len]; simp; omega
    rw [s32, S_cat]
    refine q _ a b c ok ⟨_, rfl, by simp; omega, ⟨39, _, rfl, by decide +kernel⟩, fun u => ?_⟩
    have z := Tz.no_text (t := l) (u := 32 :: u) (by omega) (fun d hd => by cases hd; decide)
    simpa using z
  k_places
  refine vc_len (n := 44) ⟨by decide +kernel, by decide +kernel⟩ ?_
  k_places
  refine next_i hl ok (by decide) (by decide) fun v a b c ok v0 v1 => ?_
  have ls : ("!\"#&:;?@ABCDEFGHIJKLMNOPQRSTUVWXYZ[\\]^_`{}~|" : Str).cps.toList.length = 44 := by decide +kernel
  have hv : v.toNat < ("!\"#&:;?@ABCDEFGHIJKLMNOPQRSTUVWXYZ[\\]^_`{}~|" : Str).cps.toList.length := by rw [ls]; omega
  have hm := List.getElem_mem hv
  refine v2_ixS (by decide +kernel) (at_nat v.toNat (by omega) (List.getElem?_eq_getElem hv)) ?_
  generalize ("!\"#&:;?@ABCDEFGHIJKLMNOPQRSTUVWXYZ[\\]^_`{}~|" : Str).cps.toList[v.toNat] = y at *
  k_places
  refine v2_addWS ?_ ?_
  · show (S [y]).length + (S [32]).length ≤ _
    rw [S_len, S_len]; simp; omega
  have ec : (⟨#[y]⟩ : Str) ++ (" " : Str) = S [y, 32] := by rw [s32]; exact S_cat [y] [32]
  rw [ec]
  have all : ∀ d ∈ ("!\"#&:;?@ABCDEFGHIJKLMNOPQRSTUVWXYZ[\\]^_`{}~|" : Str).cps.toList, Tz.inS Tz.blks d = false := by decide +kernel
  refine q _ a b c ok ⟨_, rfl, by simp, ⟨y, [32], rfl, all y hm⟩, fun u => ?_⟩
  exact Tz.no_sign hm
end
end Law

namespace Law
open PySem PySem.Spec PyProof.Rows L2 Kb SX TL
-- the steps that are tried: k_clsL a side condition; k_subL one step; k_places steps as long as one fits
local macro_rules | `(tactic| k_clsL) => `(tactic| first | assumption | decide | omega)
local macro_rules | `(tactic| k_subL) => `(tactic| first
  | (with_reducible refine vs_seq ?_) | (with_reducible refine vs_asg ?_) | (with_reducible refine vg_name ?_) | (with_reducible refine vs_ret ?_) | (with_reducible refine vs_if ?_) | (with_reducible refine vs_next ?_) | (with_reducible refine vs_drop ?_)
  | (with_reducible refine vt_test ?_) | (with_reducible refine vt_B ?_) | (with_reducible refine vt_and ?_) | (with_reducible refine vt_or ?_) | (with_reducible refine vt_not ?_) | (with_reducible refine vt_truth ?_)
  | (with_reducible refine ve_op ?_) | (with_reducible refine ve_isi2 ?_) | ((with_reducible refine isi2_i (T := "tuple") ?hT ?hm ?hn ?_); (case hT => exact rfl); (case hm => decide); (case hn => decide)) | ((with_reducible refine isi2_i (T := "list") ?hT ?hm ?hn ?_); (case hT => exact rfl); (case hm => decide); (case hn => decide)) | ((with_reducible refine isi2_i (T := "int") ?hT ?hm ?hn ?_); (case hT => exact rfl); (case hm => decide); (case hn => decide)) | ((with_reducible refine isi2_i (T := "bool") ?hT ?hm ?hn ?_); (case hT => exact rfl); (case hm => decide); (case hn => decide)) | ((with_reducible refine isi2_i (T := "str") ?hT ?hm ?hn ?_); (case hT => exact rfl); (case hm => decide); (case hn => decide)) | ((with_reducible refine isi2_i (T := "NoneType") ?hT ?hm ?hn ?_); (case hT => exact rfl); (case hm => decide); (case hn => decide)) | (with_reducible refine ve_cb ?_) | (with_reducible refine va_cons ?_) | (with_reducible refine va_nil ?_) | (with_reducible refine ve_call ?_)
  | (with_reducible refine ve_int ?_) | (with_reducible refine ve_str ?_) | (with_reducible refine ve_bl ?_) | (with_reducible refine ve_non ?_) | (with_reducible refine ve_ty ?_)
  | (refine ve_var (by exact rfl) ?_)
  | (with_reducible refine ve_and ?_) | (with_reducible refine ve_or ?_) | (with_reducible refine ve_not ?_) | (with_reducible refine ve_chain ?_) | (with_reducible refine ve_un ?_) | (with_reducible refine ve_if ?_)
  | (with_reducible refine bool_ans ?_) | (with_reducible refine tru_bl ?_)
  | (with_reducible refine vc_intI ?_) | (with_reducible refine vc_intB ?_) | (with_reducible refine v2_addI ?_) | (with_reducible refine v2_sub ?_)
  | (with_reducible refine v2_lt ?_) | (with_reducible refine v2_le ?_) | (with_reducible refine v2_gt ?_) | (with_reducible refine v2_ge ?_)
  | (with_reducible refine v2_eqI ?_) | (with_reducible refine v2_eqS ?_) | (with_reducible refine v2_eqB ?_) | (with_reducible refine v2_neI ?_) | (with_reducible refine v2_neS ?_) | (with_reducible refine v2_neB ?_)
  | (with_reducible refine v2_isN ?_) | (with_reducible refine v2_notN ?_) | (with_reducible refine v2_isNU ?_) | ((with_reducible refine v2_isBl ?hx ?_); (case hx => exact rfl))
  | (with_reducible refine v2_addVI ?_) | (with_reducible refine v2_addWI ?_) | (with_reducible refine v2_ltI ?_) | (with_reducible refine v2_ltB ?_) | (with_reducible refine v2_ltS ?_)
  | ((with_reducible refine v2_divW ?hm ?_); case hm => (constructor <;> k_clsL))
  | ((with_reducible refine v2_mulU ?hm ?_); case hm => first | exact cmul_small (by k_clsL) (by k_clsL) | exact cmul_wide (by k_clsL) (by k_clsL))
  | ((with_reducible refine v2_mod ?hm ?_); case hm => k_clsL) | ((with_reducible refine v2_div ?hm ?_); case hm => (constructor <;> k_clsL))
  | ((with_reducible refine v2_mul ?hm ?_); case hm => first | exact cmul_small (by k_clsL) (by k_clsL) | exact cmul_wide (by k_clsL) (by k_clsL))
  | (with_reducible refine vc_abs ?_) | (with_reducible refine vc_min2 ?_) | (with_reducible refine vc_max2 ?_)
  | (with_reducible refine ve_tup ?_) | ((with_reducible refine tup_j ?hl ?_); (case hl => exact rfl))
  | ((with_reducible refine vc_isi (T := "tuple") ?hT ?hn ?_); (case hT => first | exact rfl | exact ⟨rfl, _, by first | assumption | simp⟩); (case hn => decide)) | ((with_reducible refine vc_isi (T := "list") ?hT ?hn ?_); (case hT => first | exact rfl | exact ⟨rfl, _, by first | assumption | simp⟩); (case hn => decide)) | ((with_reducible refine vc_isi (T := "int") ?hT ?hn ?_); (case hT => first | exact rfl | exact ⟨rfl, _, by first | assumption | simp⟩); (case hn => decide)) | ((with_reducible refine vc_isi (T := "bool") ?hT ?hn ?_); (case hT => first | exact rfl | exact ⟨rfl, _, by first | assumption | simp⟩); (case hn => decide)) | ((with_reducible refine vc_isi (T := "str") ?hT ?hn ?_); (case hT => first | exact rfl | exact ⟨rfl, _, by first | assumption | simp⟩); (case hn => decide)) | ((with_reducible refine vc_isi (T := "NoneType") ?hT ?hn ?_); (case hT => first | exact rfl | exact ⟨rfl, _, by first | assumption | simp⟩); (case hn => decide))
  | (with_reducible refine vc_lenL ?_) | (with_reducible refine vc_lenT ?_) | (with_reducible refine ite_nrefl ?_) | (with_reducible refine ite_refl ?_)
  | ((with_reducible refine ite_tt ?hc ?_); (case hc => first | decide | exact rfl)) | ((with_reducible refine ite_ff ?hc ?_); (case hc => first | decide | exact rfl))
  | (with_reducible refine v1_U ?_))
local macro_rules | `(tactic| k_places) => `(tactic| repeat k_subL)

/-- the error's class among the others -/
structure ErrQ (K : PySem.W.Frag) (mg : Str → Option Value) (C Q B : Addr) : Prop where
  mQ : mg "QuestionError" = some (.ref Q)
  mB : mg "KithbaseError" = some (.ref B)
  eC : PySem.W.exmOne K (.ref C) (.ref C) = some true
  kQ : PySem.W.kitOne K (.ref C) (.ref Q) = some true
  kB : PySem.W.kitOne K (.ref C) (.ref B) = some true
def ansR (ts : List P) : Option Nat → P
  | none => .tup [.str "tokens", .lst ts]
  | some p => .tup [.str "refused", .int (p : Nat), .bl true]
section
variable {Pg : Program} {w : World} {K : PySem.W.Frag} {Θ : List Addr} {mg : Str → Option Value} {base : Heap} {C_RefusedText C_QuestionError C_KithbaseError aK aL : Addr}
abbrev st_read : Stmt := (topS 37)
theorem sc_read : FnScope ["text", "e"] ["text"] (defScope st_read) := ⟨rfl, rfl, rfl, by decide +kernel, rfl, by decide +kernel, by decide +kernel⟩
def W_read : Spc := fun ds h R => ∃ (L : List Nat) (ts : List P) (o : Option Nat), ds = [dS (S L)] ∧ L.length ≤ 10000000 ∧ Tz.Toks L 0 ts o ∧ R (.p (ansR ts o)) h
theorem ok_read (A : DefAt K mg "_law_read" st_read ["text"]) (Z : RefC K mg C_RefusedText) (er : ErrQ K mg C_RefusedText C_QuestionError C_KithbaseError) (m_isinstance : mg "isinstance" = none)
    (h_tokenize : HasF Pg w K mg base (L2.CX Pg w) 5 "tokenize" ["text"] (spDX K Θ (W_tkz C_RefusedText))) : HasF Pg w K mg base CX0 6 "_law_read" ["text"] (spD K Θ W_read) := by
  have sc := sc_read
  have mg_RefusedText := Z.at_
  have mg_QuestionError := er.mQ
  have mg_KithbaseError := er.mB
  have ec_RefusedText := Z.ec
  have xf_RefusedText := Z.xf
  have no_RefusedText_position := Z.no
  refine A.okD sc W_read (fun ds h R ⟨_, _, _, e, _⟩ => by rw [e]; rfl) fun f cdv A outer s H E hr => ?_
  refine ⟨_, (pss_one (ps_tryAsD (K := K) (i := 1) rfl rfl rfl sc.nd rfl rfl ⟨rfl, by decide, .inl mg_RefusedText⟩ (fun W pn xe tk _ => (pss_one (ps_ret (pe_tup (pa_cons pe_str (pa_cons (h_tokenize.callS (hr.mono (by first | decide | omega)) rfl tk (pa_cons (pv 0) pa_nil)) pa_nil))))))
  (pss_knownF (C := C_RefusedText) fun a dd oe pn hz hf => (pss_one (ps_ret (pe_tup (pa_cons pe_str (pa_cons (pe_xf xf_RefusedText no_RefusedText_position hz hf (pv 1)) (pa_cons (pe_and (pe_callB (call_isEF (K := K) (by rfl) ec_RefusedText hz hf) (by rfl) m_isinstance (by decide +kernel) (pa_cons (pv 1) (pa_cons (pe_glob (v := .ref C_QuestionError) rfl mg_QuestionError rfl) pa_nil))) (pe_one (pe_callB (call_isEF (K := K) (by rfl) ec_RefusedText hz hf) (by rfl) m_isinstance (by decide +kernel) (pa_cons (pv 1) (pa_cons (pe_glob (v := .ref C_KithbaseError) rfl mg_KithbaseError rfl) pa_nil))))) pa_nil))))))))), ?_⟩
  try dsimp only [cxOf]
  rintro ds h R ⟨L, ts, o, rfl, hl, tk, q⟩
  refine vs_fin ?_
  try k_subL
  refine vs_tryAsF (Θ := Ctx.plain Θ) (fun X env' h' => ∃ p, o = some p ∧ X = ⟨C_RefusedText, some [("position", .int (p : Nat))]⟩ ∧ env' = startD ["text", "e"] [dS (S L)] ∧ ∃ junk, h' = h ++ junk) (fun W => ?_) ?_
  · k_places
    refine ve_callS ?_
    k_places
    refine ⟨L, ts, o, rfl, hl, tk, ?_⟩
    cases o with
    | none =>
      change VA _ _ _ _ _ _
      k_places
      exact fin_p0 q
    | some p => exact fun junk => ⟨p, rfl, rfl, rfl, junk, rfl⟩
  · rintro X env' h' ⟨p, rfl, rfl, rfl, junk, rfl⟩
    refine ⟨true, er.eC, fun _ a d F0 hx => ?_, fun z => nomatch z⟩
    have hx2 := hx
    obtain ⟨dd, gs, rfl, _, _⟩ := hx2
    refine vs_knownF ?_
    k_places
    refine ve_xf hx rfl ?_
    k_places
    refine ⟨rfl, ?_⟩
    k_places
    refine ve_cls ?_
    k_places
    refine vc_isEF hx (.inr ⟨_, rfl, rfl⟩) er.kQ ?_
    k_places
    refine ve_cls ?_
    k_places
    refine vc_isEF hx (.inr ⟨_, rfl, rfl⟩) er.kB ?_
    k_places
    exact fin_p junk q
end
end Law

namespace Law
open PySem PySem.Spec PyProof.Rows L2 Kb SX TL
-- the steps that are tried: k_clsL a side condition; k_subL one step; k_places steps as long as one fits
local macro_rules | `(tactic| k_clsL) => `(tactic| first | assumption | decide | omega)
local macro_rules | `(tactic| k_subL) => `(tactic| first
  | (with_reducible refine vs_seq ?_) | (with_reducible refine vs_asg ?_) | (with_reducible refine vg_name ?_) | (with_reducible refine vs_ret ?_) | (with_reducible refine vs_if ?_) | (with_reducible refine vs_next ?_) | (with_reducible refine vs_drop ?_)
  | (with_reducible refine vt_test ?_) | (with_reducible refine vt_B ?_) | (with_reducible refine vt_and ?_) | (with_reducible refine vt_or ?_) | (with_reducible refine vt_not ?_) | (with_reducible refine vt_truth ?_)
  | (with_reducible refine ve_op ?_) | (with_reducible refine ve_isi2 ?_) | ((with_reducible refine isi2_i (T := "tuple") ?hT ?hm ?hn ?_); (case hT => exact rfl); (case hm => decide); (case hn => decide)) | ((with_reducible refine isi2_i (T := "list") ?hT ?hm ?hn ?_); (case hT => exact rfl); (case hm => decide); (case hn => decide)) | ((with_reducible refine isi2_i (T := "int") ?hT ?hm ?hn ?_); (case hT => exact rfl); (case hm => decide); (case hn => decide)) | ((with_reducible refine isi2_i (T := "bool") ?hT ?hm ?hn ?_); (case hT => exact rfl); (case hm => decide); (case hn => decide)) | ((with_reducible refine isi2_i (T := "str") ?hT ?hm ?hn ?_); (case hT => exact rfl); (case hm => decide); (case hn => decide)) | ((with_reducible refine isi2_i (T := "NoneType") ?hT ?hm ?hn ?_); (case hT => exact rfl); (case hm => decide); (case hn => decide)) | (with_reducible refine ve_cb ?_) | (with_reducible refine va_cons ?_) | (with_reducible refine va_nil ?_) | (with_reducible refine ve_call ?_)
  | (with_reducible refine ve_int ?_) | (with_reducible refine ve_str ?_) | (with_reducible refine ve_bl ?_) | (with_reducible refine ve_non ?_) | (with_reducible refine ve_ty ?_)
  | (refine ve_var (by exact rfl) ?_)
  | (with_reducible refine ve_and ?_) | (with_reducible refine ve_or ?_) | (with_reducible refine ve_not ?_) | (with_reducible refine ve_chain ?_) | (with_reducible refine ve_un ?_) | (with_reducible refine ve_if ?_)
  | (with_reducible refine bool_ans ?_) | (with_reducible refine tru_bl ?_)
  | (with_reducible refine vc_intI ?_) | (with_reducible refine vc_intB ?_) | (with_reducible refine v2_addI ?_) | (with_reducible refine v2_sub ?_)
  | (with_reducible refine v2_lt ?_) | (with_reducible refine v2_le ?_) | (with_reducible refine v2_gt ?_) | (with_reducible refine v2_ge ?_)
  | (with_reducible refine v2_eqI ?_) | (with_reducible refine v2_eqS ?_) | (with_reducible refine v2_eqB ?_) | (with_reducible refine v2_neI ?_) | (with_reducible refine v2_neS ?_) | (with_reducible refine v2_neB ?_)
  | (with_reducible refine v2_isN ?_) | (with_reducible refine v2_notN ?_) | (with_reducible refine v2_isNU ?_) | ((with_reducible refine v2_isBl ?hx ?_); (case hx => exact rfl))
  | (with_reducible refine v2_addVI ?_) | (with_reducible refine v2_addWI ?_) | (with_reducible refine v2_ltI ?_) | (with_reducible refine v2_ltB ?_) | (with_reducible refine v2_ltS ?_)
  | ((with_reducible refine v2_divW ?hm ?_); case hm => (constructor <;> k_clsL))
  | ((with_reducible refine v2_mulU ?hm ?_); case hm => first | exact cmul_small (by k_clsL) (by k_clsL) | exact cmul_wide (by k_clsL) (by k_clsL))
  | ((with_reducible refine v2_mod ?hm ?_); case hm => k_clsL) | ((with_reducible refine v2_div ?hm ?_); case hm => (constructor <;> k_clsL))
  | ((with_reducible refine v2_mul ?hm ?_); case hm => first | exact cmul_small (by k_clsL) (by k_clsL) | exact cmul_wide (by k_clsL) (by k_clsL))
  | (with_reducible refine vc_abs ?_) | (with_reducible refine vc_min2 ?_) | (with_reducible refine vc_max2 ?_)
  | (with_reducible refine ve_tup ?_) | ((with_reducible refine tup_j ?hl ?_); (case hl => exact rfl))
  | ((with_reducible refine vc_isi (T := "tuple") ?hT ?hn ?_); (case hT => first | exact rfl | exact ⟨rfl, _, by first | assumption | simp⟩); (case hn => decide)) | ((with_reducible refine vc_isi (T := "list") ?hT ?hn ?_); (case hT => first | exact rfl | exact ⟨rfl, _, by first | assumption | simp⟩); (case hn => decide)) | ((with_reducible refine vc_isi (T := "int") ?hT ?hn ?_); (case hT => first | exact rfl | exact ⟨rfl, _, by first | assumption | simp⟩); (case hn => decide)) | ((with_reducible refine vc_isi (T := "bool") ?hT ?hn ?_); (case hT => first | exact rfl | exact ⟨rfl, _, by first | assumption | simp⟩); (case hn => decide)) | ((with_reducible refine vc_isi (T := "str") ?hT ?hn ?_); (case hT => first | exact rfl | exact ⟨rfl, _, by first | assumption | simp⟩); (case hn => decide)) | ((with_reducible refine vc_isi (T := "NoneType") ?hT ?hn ?_); (case hT => first | exact rfl | exact ⟨rfl, _, by first | assumption | simp⟩); (case hn => decide))
  | (with_reducible refine vc_lenL ?_) | (with_reducible refine vc_lenT ?_) | (with_reducible refine ite_nrefl ?_) | (with_reducible refine ite_refl ?_)
  | ((with_reducible refine ite_tt ?hc ?_); (case hc => first | decide | exact rfl)) | ((with_reducible refine ite_ff ?hc ?_); (case hc => first | decide | exact rfl))
  | (with_reducible refine v1_U ?_))
local macro_rules | `(tactic| k_places) => `(tactic| repeat k_subL)

section
variable {Pg : Program} {w : World} {K : PySem.W.Frag} {Θ : List Addr} {mg : Str → Option Value} {base : Heap} {C aK aL : Addr}
/-- a tuple of the top, asked about itself -/
def W_sameK : Spc := fun ds h R => ∃ (c : Addr) (ys : List Str), ds = [.p (.cls c), dT (ys.map P.str)] ∧ ys.length ≤ 1000 ∧ (∀ y ∈ ys, y.length ≤ 1000) ∧ KTup K c (ys.map V.str) ∧ R (dB true) h
theorem ok_sameK (A : DefAt K mg "_law_same" st_same ["actual", "expected"]) (m_int : mg "int" = none) (m_bool : mg "bool" = none) (m_str : mg "str" = none) (m_list : mg "list" = none) (m_tuple : mg "tuple" = none) (m_len : mg "len" = none) (m_range : mg "range" = none) (m_isinstance : mg "isinstance" = none) :
    HasF Pg w K mg base CX0 3 "_law_same" ["actual", "expected"] (spD K Θ (W_sameK (K := K))) := by
  have sc := sc_same
  have h__law_same := ok_same (Pg := Pg) (w := w) (base := base) (Θ := Θ) A m_int m_bool m_str m_list m_tuple m_len m_range m_isinstance 1
  refine A.okD sc (W_sameK (K := K)) (fun ds h R ⟨_, _, e, _⟩ => by rw [e]; rfl) fun f cdv A outer s H E hr => ?_
  refine ⟨_, (pss_cons (ps_if (pt_cmpR op_isU (pv 1) pe_non (nomark _)) (pss_one (ps_ret (pe_cmpR op_isU (pv 0) pe_non (nomark _)))) pss_nil)
  (pss_cons (ps_if (pt_val (pe_callB (call_isiUK (K := K) (by rfl)) (by rfl) m_isinstance (by decide +kernel) (pa_cons (pv 1) (pa_cons (pe_bltn (v := .ty "bool") rfl m_bool (by decide +kernel) rfl) pa_nil)))) (pss_one (ps_ret (pe_and (pe_callB (call_isiUK (K := K) (by rfl)) (by rfl) m_isinstance (by decide +kernel) (pa_cons (pv 0) (pa_cons (pe_bltn (v := .ty "bool") rfl m_bool (by decide +kernel) rfl) pa_nil))) (pe_one (pe_cmpR (op_eqUK (K := K) (by rfl) hr.units) (pv 0) (pv 1) (nomark _)))))) pss_nil)
  (pss_cons (ps_if (pt_val (pe_callB (call_isiUK (K := K) (by rfl)) (by rfl) m_isinstance (by decide +kernel) (pa_cons (pv 1) (pa_cons (pe_bltn (v := .ty "int") rfl m_int (by decide +kernel) rfl) pa_nil)))) (pss_one (ps_ret (pe_and (pe_callB (call_isiUK (K := K) (by rfl)) (by rfl) m_isinstance (by decide +kernel) (pa_cons (pv 0) (pa_cons (pe_bltn (v := .ty "int") rfl m_int (by decide +kernel) rfl) pa_nil))) (pe_and (pe_not (pe_callB (call_isiUK (K := K) (by rfl)) (by rfl) m_isinstance (by decide +kernel) (pa_cons (pv 0) (pa_cons (pe_bltn (v := .ty "bool") rfl m_bool (by decide +kernel) rfl) pa_nil)))) (pe_one (pe_cmpR (op_eqUK (K := K) (by rfl) hr.units) (pv 0) (pv 1) (nomark _))))))) pss_nil)
  (pss_cons (ps_if (pt_val (pe_callB (call_isiUK (K := K) (by rfl)) (by rfl) m_isinstance (by decide +kernel) (pa_cons (pv 1) (pa_cons (pe_bltn (v := .ty "str") rfl m_str (by decide +kernel) rfl) pa_nil)))) (pss_one (ps_ret (pe_and (pe_callB (call_isiUK (K := K) (by rfl)) (by rfl) m_isinstance (by decide +kernel) (pa_cons (pv 0) (pa_cons (pe_bltn (v := .ty "str") rfl m_str (by decide +kernel) rfl) pa_nil))) (pe_one (pe_cmpR (op_eqUK (K := K) (by rfl) hr.units) (pv 0) (pv 1) (nomark _)))))) pss_nil)
  (pss_cons (ps_if (PW.pt (pw_and (pt_val (pe_callB (call_isiUK (K := K) (by rfl)) (by rfl) m_isinstance (by decide +kernel) (pa_cons (pv 1) (pa_cons (pe_bltn (v := .ty "tuple") rfl m_tuple (by decide +kernel) rfl) pa_nil)))) (pw_and1 (pt_not (pt_val (pe_callB (call_isiUK (K := K) (by rfl)) (by rfl) m_isinstance (by decide +kernel) (pa_cons (pv 0) (pa_cons (pe_bltn (v := .ty "tuple") rfl m_tuple (by decide +kernel) rfl) pa_nil)))))))) (pss_one (ps_ret pe_bl)) pss_nil)
  (pss_cons (ps_if (PW.pt (pw_and (pt_val (pe_callB (call_isiUK (K := K) (by rfl)) (by rfl) m_isinstance (by decide +kernel) (pa_cons (pv 1) (pa_cons (pe_bltn (v := .ty "list") rfl m_list (by decide +kernel) rfl) pa_nil)))) (pw_and1 (pt_not (pt_val (pe_callB (call_isiUK (K := K) (by rfl)) (by rfl) m_isinstance (by decide +kernel) (pa_cons (pv 0) (pa_cons (pe_bltn (v := .ty "list") rfl m_list (by decide +kernel) rfl) pa_nil)))))))) (pss_one (ps_ret pe_bl)) pss_nil)
  (pss_cons (ps_if (pt_cmpR (op_neUK (K := K) (by rfl) hr.units) (pe_callB (call_lenK (K := K) (by rfl)) (by rfl) m_len (by decide +kernel) (pa_cons (pv 0) pa_nil)) (pe_callB (call_lenK (K := K) (by rfl)) (by rfl) m_len (by decide +kernel) (pa_cons (pv 1) pa_nil)) (nomark _)) (pss_one (ps_ret pe_bl)) pss_nil)
  (pss_cons (ps_for PassesOwn.never rfl (pi_range1 rfl m_range (pa_cons (pe_callB (call_lenK (K := K) (by rfl)) (by rfl) m_len (by decide +kernel) (pa_cons (pv 1) pa_nil)) pa_nil)) (pg_name (i := 2) sc.nd rfl (.inl rfl))
  (pss_one (ps_if (pt_not (pt_val (h__law_same.call (hr.mono (by first | decide | omega)) rfl pass0 (pa_cons (pe_ix (ix_seqK (K := K) (by rfl)) (pv 0) (pv 2) (fun _ _ => rfl)) (pa_cons (pe_ix (ix_seqK (K := K) (by rfl)) (pv 1) (pv 2) (fun _ _ => rfl)) pa_nil))))) (pss_one (ps_ret pe_bl)) pss_nil)))
  (pss_one (ps_ret pe_bl)))))))))), ?_⟩
  try dsimp only [cxOf]
  rintro ds h R ⟨c, ys, rfl, hl, hy, hc, q⟩
  refine vs_fin ?_
  k_places
  refine vc_isiK hc (by decide) ?_
  k_places
  refine vc_lenK hc ?_
  k_places
  rw [List.length_map, List.length_map]
  k_places
  refine vs_for (vi_range1 ?_)
  k_places
  try rw [List.length_map]
  refine ⟨_, rfl, by omega, by omega, ?_⟩
  refine ⟨fun i env h' => (∃ o, env = [some (.p (.cls c)), some (dT (ys.map P.str)), o]) ∧ h' = h, ?_, ?_, ?_, ?_⟩
  · exact ⟨⟨none, rfl⟩, rfl⟩
  · exact fun _ _ _ _ => trivial
  · rintro i d env h' hd ⟨⟨o, rfl⟩, rfl⟩
    obtain ⟨hi, rfl⟩ := rng_get hd
    have hiy : i < ys.length := by omega
    k_places
    rw [show (0 + (i : Int)) = (i : Int) by omega]
    refine v2_ixK (i := i) hc (CKs.strs ys) (by rw [List.getElem?_map, List.getElem?_eq_getElem hiy]; rfl) ?_
    k_places
    refine v2_ixT (at_nat i (by omega) (by rw [List.getElem?_map, List.getElem?_eq_getElem hiy]; rfl)) ?_
    k_places
    refine ⟨_, _, rfl, rfl, decide_eq_true (Nat.le_trans (hy _ (List.getElem_mem hiy)) (by decide)), ?_⟩
    rw [eqB_eq rfl]
    k_places
    exact ⟨⟨_, rfl⟩, rfl⟩
  · rintro env h' ⟨⟨o, rfl⟩, rfl⟩
    k_places
    exact fin_p0 q
end
end Law

namespace Law
open PySem PySem.Spec PyProof.Rows L2 Kb SX TL
-- the steps that are tried: k_clsL a side condition; k_subL one step; k_places steps as long as one fits
local macro_rules | `(tactic| k_clsL) => `(tactic| first | assumption | decide | omega)
local macro_rules | `(tactic| k_subL) => `(tactic| first
  | (with_reducible refine vs_seq ?_) | (with_reducible refine vs_asg ?_) | (with_reducible refine vg_name ?_) | (with_reducible refine vs_ret ?_) | (with_reducible refine vs_if ?_) | (with_reducible refine vs_next ?_) | (with_reducible refine vs_drop ?_)
  | (with_reducible refine vt_test ?_) | (with_reducible refine vt_B ?_) | (with_reducible refine vt_and ?_) | (with_reducible refine vt_or ?_) | (with_reducible refine vt_not ?_) | (with_reducible refine vt_truth ?_)
  | (with_reducible refine ve_op ?_) | (with_reducible refine ve_isi2 ?_) | ((with_reducible refine isi2_i (T := "tuple") ?hT ?hm ?hn ?_); (case hT => exact rfl); (case hm => decide); (case hn => decide)) | ((with_reducible refine isi2_i (T := "list") ?hT ?hm ?hn ?_); (case hT => exact rfl); (case hm => decide); (case hn => decide)) | ((with_reducible refine isi2_i (T := "int") ?hT ?hm ?hn ?_); (case hT => exact rfl); (case hm => decide); (case hn => decide)) | ((with_reducible refine isi2_i (T := "bool") ?hT ?hm ?hn ?_); (case hT => exact rfl); (case hm => decide); (case hn => decide)) | ((with_reducible refine isi2_i (T := "str") ?hT ?hm ?hn ?_); (case hT => exact rfl); (case hm => decide); (case hn => decide)) | ((with_reducible refine isi2_i (T := "NoneType") ?hT ?hm ?hn ?_); (case hT => exact rfl); (case hm => decide); (case hn => decide)) | (with_reducible refine ve_cb ?_) | (with_reducible refine va_cons ?_) | (with_reducible refine va_nil ?_) | (with_reducible refine ve_call ?_)
  | (with_reducible refine ve_int ?_) | (with_reducible refine ve_str ?_) | (with_reducible refine ve_bl ?_) | (with_reducible refine ve_non ?_) | (with_reducible refine ve_ty ?_)
  | (refine ve_var (by exact rfl) ?_)
  | (with_reducible refine ve_and ?_) | (with_reducible refine ve_or ?_) | (with_reducible refine ve_not ?_) | (with_reducible refine ve_chain ?_) | (with_reducible refine ve_un ?_) | (with_reducible refine ve_if ?_)
  | (with_reducible refine bool_ans ?_) | (with_reducible refine tru_bl ?_)
  | (with_reducible refine vc_intI ?_) | (with_reducible refine vc_intB ?_) | (with_reducible refine v2_addI ?_) | (with_reducible refine v2_sub ?_)
  | (with_reducible refine v2_lt ?_) | (with_reducible refine v2_le ?_) | (with_reducible refine v2_gt ?_) | (with_reducible refine v2_ge ?_)
  | (with_reducible refine v2_eqI ?_) | (with_reducible refine v2_eqS ?_) | (with_reducible refine v2_eqB ?_) | (with_reducible refine v2_neI ?_) | (with_reducible refine v2_neS ?_) | (with_reducible refine v2_neB ?_)
  | (with_reducible refine v2_isN ?_) | (with_reducible refine v2_notN ?_) | (with_reducible refine v2_isNU ?_) | ((with_reducible refine v2_isBl ?hx ?_); (case hx => exact rfl))
  | (with_reducible refine v2_addVI ?_) | (with_reducible refine v2_addWI ?_) | (with_reducible refine v2_ltI ?_) | (with_reducible refine v2_ltB ?_) | (with_reducible refine v2_ltS ?_)
  | ((with_reducible refine v2_divW ?hm ?_); case hm => (constructor <;> k_clsL))
  | ((with_reducible refine v2_mulU ?hm ?_); case hm => first | exact cmul_small (by k_clsL) (by k_clsL) | exact cmul_wide (by k_clsL) (by k_clsL))
  | ((with_reducible refine v2_mod ?hm ?_); case hm => k_clsL) | ((with_reducible refine v2_div ?hm ?_); case hm => (constructor <;> k_clsL))
  | ((with_reducible refine v2_mul ?hm ?_); case hm => first | exact cmul_small (by k_clsL) (by k_clsL) | exact cmul_wide (by k_clsL) (by k_clsL))
  | (with_reducible refine vc_abs ?_) | (with_reducible refine vc_min2 ?_) | (with_reducible refine vc_max2 ?_)
  | (with_reducible refine ve_tup ?_) | ((with_reducible refine tup_j ?hl ?_); (case hl => exact rfl))
  | ((with_reducible refine vc_isi (T := "tuple") ?hT ?hn ?_); (case hT => first | exact rfl | exact ⟨rfl, _, by first | assumption | simp⟩); (case hn => decide)) | ((with_reducible refine vc_isi (T := "list") ?hT ?hn ?_); (case hT => first | exact rfl | exact ⟨rfl, _, by first | assumption | simp⟩); (case hn => decide)) | ((with_reducible refine vc_isi (T := "int") ?hT ?hn ?_); (case hT => first | exact rfl | exact ⟨rfl, _, by first | assumption | simp⟩); (case hn => decide)) | ((with_reducible refine vc_isi (T := "bool") ?hT ?hn ?_); (case hT => first | exact rfl | exact ⟨rfl, _, by first | assumption | simp⟩); (case hn => decide)) | ((with_reducible refine vc_isi (T := "str") ?hT ?hn ?_); (case hT => first | exact rfl | exact ⟨rfl, _, by first | assumption | simp⟩); (case hn => decide)) | ((with_reducible refine vc_isi (T := "NoneType") ?hT ?hn ?_); (case hT => first | exact rfl | exact ⟨rfl, _, by first | assumption | simp⟩); (case hn => decide))
  | (with_reducible refine vc_lenL ?_) | (with_reducible refine vc_lenT ?_) | (with_reducible refine ite_nrefl ?_) | (with_reducible refine ite_refl ?_)
  | ((with_reducible refine ite_tt ?hc ?_); (case hc => first | decide | exact rfl)) | ((with_reducible refine ite_ff ?hc ?_); (case hc => first | decide | exact rfl))
  | (with_reducible refine v1_U ?_))
local macro_rules | `(tactic| k_places) => `(tactic| repeat k_subL)

theorem drawn_flat {k : Str} {v : P} {l : List Nat} (h : Tz.Drawn k v l) : plainP v = true ∧ okP 0 v = true ∧ k.length ≤ 100000 := by
  have kw : ∀ w, (Tz.kindW w).length ≤ 100000 := fun w => by rcases kindW_cases w with e | e <;> rw [e] <;> decide +kernel
  have hl := h.len
  cases h with
  | word _ _ h =>
    refine ⟨rfl, decide_eq_true ?_, kw _⟩
    rw [S_len]; omega
  | int _ _ h => exact ⟨rfl, rfl, by decide +kernel⟩
  | text h =>
    refine ⟨rfl, decide_eq_true ?_, by decide +kernel⟩
    rw [S_len]; omega
  | par _ _ h => exact ⟨rfl, rfl, by decide +kernel⟩
  | sign h =>
    refine ⟨rfl, decide_eq_true ?_, by decide +kernel⟩
    rw [S_len]; omega
/-- a token as told -/
def ToldOk (p : P) : Prop := plainP p = true ∧ okP 1 p = true
theorem told_ok {k : Str} {v : P} {l : List Nat} {a : Nat} (h : Tz.Drawn k v l) : ToldOk (Tz.tokP k v a) := by
  obtain ⟨h1, h2, h3⟩ := drawn_flat h
  refine ⟨?_, ?_⟩
  · show plainP.plainPs [.str k, v, .int (a : Nat)] = true
    simp only [plainP.plainPs, h1]
    rfl
  · show (decide (([.str k, v, .int (a : Nat)] : List P).length ≤ 100000) && ([.str k, v, .int (a : Nat)] : List P).all (okP 0)) = true
    simp only [List.all_cons, List.all_nil, h2]
    have z : okP 0 (.str k) = true := decide_eq_true h3
    rw [z]
    rfl
theorem plainPs_of : ∀ {xs : List P}, (∀ x ∈ xs, plainP x = true) → plainP.plainPs xs = true
  | [], _ => rfl
  | x :: xs, h => by
    unfold plainP.plainPs
    rw [h x List.mem_cons_self, plainPs_of fun y hy => h y (List.mem_cons_of_mem _ hy)]
    rfl
theorem refused_ok (n : Nat) : okP 3 (.tup [.str "refused", .int (n : Nat), .bl true]) = true := by
  show (decide (3 ≤ 100000) && (okP 2 (.str "refused") && (okP 2 (.int (n : Nat)) && (okP 2 (.bl true) && true)))) = true
  have z : okP 2 (.str "refused") = true := by decide +kernel
  rw [z]
  rfl
theorem one_ok {t : P} (h : ToldOk t) : okP 3 (.lst [t]) = true := by
  have h2 : ∀ {n : Nat} {v : P}, okP n v = true → okP (n + 1) v = true := by
    intro n
    induction n with
    | zero =>
      intro v h
      cases v <;> first | exact h | (simp [okP] at h)
    | succ n ih =>
      intro v h
      cases v with
      | tup xs =>
        simp only [okP, Bool.and_eq_true, decide_eq_true_eq, List.all_eq_true] at h ⊢
        exact ⟨h.1, fun x hx => by have := ih (h.2 x hx); exact this⟩
      | lst xs =>
        simp only [okP, Bool.and_eq_true, decide_eq_true_eq, List.all_eq_true] at h ⊢
        exact ⟨h.1, fun x hx => by have := ih (h.2 x hx); exact this⟩
      | _ => first | exact h | (simp [okP] at h)
  show (decide (1 ≤ 100000) && (okP 2 t && true)) = true
  rw [h2 h.2]
  rfl
theorem all_ok {ts : List P} (hl : ts.length ≤ 100000) (h : ∀ t ∈ ts, ToldOk t) : okP 3 (.tup [.str "tokens", .lst ts]) = true := by
  have z : okP 2 (.str "tokens") = true := by decide +kernel
  have z2 : okP 2 (.lst ts) = true := by
    show (decide (ts.length ≤ 100000) && ts.all (okP 1)) = true
    rw [decide_eq_true hl, Bool.true_and, List.all_eq_true]
    exact fun t ht => (h t ht).2
  show (decide (2 ≤ 100000) && (okP 2 (.str "tokens") && (okP 2 (.lst ts) && true))) = true
  rw [z, z2]
  rfl
abbrev hx (ts : List P) (ns : List Int) (a b c : Int) : Hs := List.set [none, accO ts] 0 (some (stO ns a b c))
section
variable {Pg : Program} {w : World} {K : PySem.W.Frag} {Θ : List Addr} {mg : Str → Option Value} {base : Heap} {C aK aL : Addr}
abbrev st_law : Stmt := (topS 38)
theorem sc_law : FnScope ["script", "state", "count", "text", "tokens", "previous", "k", "kind", "value", "written", "place"] ["script"] (defScope st_law) := ⟨rfl, rfl, rfl, by decide +kernel, rfl, by decide +kernel, by decide +kernel⟩
theorem ok_law {f : Addr} {fd : FuncData} (F : Fun K "law" "law" st_law f fd) (T : TokC K mg aK aL) (m_len : mg "len" = none) (m_list : mg "list" = none) (m_range : mg "range" = none) (m_tuple : mg "tuple" = none)
    (h__law_next : HasF Pg w K mg base CX0 1 "_law_next" ["state", "limit"] (spD K Θ W_next)) (h__law_gap : HasF Pg w K mg base CX0 2 "_law_gap" ["state", "needed"] (spD K Θ W_gap))
    (h__law_token : HasF Pg w K mg base CX0 3 "_law_token" ["state"] (spD K Θ (W_draw TokOk))) (h__law_joins : HasF Pg w K mg base CX0 1 "_law_joins" ["written", "other"] (spD K Θ W_jn))
    (h_tkz : HasF Pg w K mg base CX0 5 "tokenize" ["text"] (spD K Θ W_tkzS)) (h_write_token : HasF Pg w K mg base CX0 1 "write_token" ["token"] (spD K Θ W_wtk))
    (h__law_same : HasF Pg w K mg base CX0 5 "_law_same" ["actual", "expected"] (spD K Θ (W_same 4))) (h_sameK : HasF Pg w K mg base CX0 3 "_law_same" ["actual", "expected"] (spD K Θ (W_sameK (K := K))))
    (h__law_keywords : HasF Pg w K mg base CX0 1 "_law_keywords" [] (spD K Θ W_kws)) (h__law_stranger : HasF Pg w K mg base CX0 3 "_law_stranger" ["state"] (spD K Θ (W_draw StrOk)))
    (h__law_read : HasF Pg w K mg base CX0 6 "_law_read" ["text"] (spD K Θ W_read)) : FnOk Pg w K mg base CX0 7 f fd ["script"] (spD K Θ W_law) := by
  have sc := sc_law
  have g_KEYWORDS := T.gk
  refine fnD F sc W_law (fun ds h R ⟨_, e, _⟩ => by rw [e]; rfl) fun cdv A outer s H E hr => ?_
  refine ⟨_, (pss_cons (ps_set (i := 1) sc.nd rfl (.inl rfl) (pe_lst (pa_cons (pe_callTy (call_list_ofK (K := K) (by rfl)) (by rfl) m_list (by decide +kernel) (pa_cons (pv 0) pa_nil)) (pa_cons pe_int (pa_cons pe_int (pa_cons pe_int pa_nil))))))
  (pss_cons (ps_set (i := 2) sc.nd rfl (.inl rfl) (h__law_next.call (hr.mono (by first | decide | omega)) rfl pass0 (pa_cons (pv 1) (pa_cons pe_int pa_nil))))
  (pss_cons (ps_if (pt_cmpR (op_eqUK (K := K) (by rfl) hr.units) (h__law_next.call (hr.mono (by first | decide | omega)) rfl pass0 (pa_cons (pv 1) (pa_cons pe_int pa_nil))) pe_int (nomark _)) (pss_one (ps_set (i := 2) sc.nd rfl (.inl rfl) (h__law_next.call (hr.mono (by first | decide | omega)) rfl pass0 (pa_cons (pv 1) (pa_cons pe_int pa_nil))))) pss_nil)
  (pss_cons (ps_set (i := 3) sc.nd rfl (.inl rfl) (h__law_gap.call (hr.mono (by first | decide | omega)) rfl pass0 (pa_cons (pv 1) (pa_cons pe_bl pa_nil))))
  (pss_cons (ps_set (i := 4) sc.nd rfl (.inl rfl) (pe_lst pa_nil))
  (pss_cons (ps_set (i := 5) sc.nd rfl (.inl rfl) pe_str)
  (pss_cons (ps_for PassesOwn.never rfl (pi_range1 rfl m_range (pa_cons (pv 2) pa_nil)) (pg_name (i := 6) sc.nd rfl (.inl rfl))
  (pss_cons (ps_asg (h__law_token.call (hr.mono (by first | decide | omega)) rfl pass0 (pa_cons (pv 1) pa_nil)) (pg_tupK (K := K) (n := 3) (by rfl) rfl (pgs_cons (pg_name (i := 7) sc.nd rfl (.inl rfl)) (pgs_cons (pg_name (i := 8) sc.nd rfl (.inl rfl)) (pgs_cons (pg_name (i := 9) sc.nd rfl (.inl rfl)) pgs_nil)))))
  (pss_cons (ps_set (i := 3) sc.nd rfl (.inl rfl) (pe_op (op_addWK (K := K) (by rfl)) (pv 3) (h__law_gap.call (hr.mono (by first | decide | omega)) rfl pass0 (pa_cons (pv 1) (pa_cons (h__law_joins.call (hr.mono (by first | decide | omega)) rfl pass0 (pa_cons (pv 5) (pa_cons (pv 9) pa_nil))) pa_nil)))))
  (pss_cons (ps_expr (pe_bm PySem.F.plainAttrs_list PySem.F.slot_list_append PySem.F.type_list_append mt_append (pv 4) (pa_cons (pe_tup (pa_cons (pv 7) (pa_cons (pv 8) (pa_cons (pe_callB (call_lenK (K := K) (by rfl)) (by rfl) m_len (by decide +kernel) (pa_cons (pv 3) pa_nil)) pa_nil)))) pa_nil)))
  (pss_cons (ps_set (i := 3) sc.nd rfl (.inl rfl) (pe_op (op_addWK (K := K) (by rfl)) (pv 3) (pv 9)))
  (pss_cons (ps_set (i := 5) sc.nd rfl (.inl rfl) (pv 9))
  (pss_one (ps_if (pt_not (pt_val (h__law_same.call (hr.mono (by first | decide | omega)) rfl pass0 (pa_cons (h_tkz.call (hr.mono (by first | decide | omega)) rfl pass0 (pa_cons (h_write_token.call (hr.mono (by first | decide | omega)) rfl pass0 (pa_cons (pe_tup (pa_cons (pv 7) (pa_cons (pv 8) (pa_cons (pe_callB (call_lenK (K := K) (by rfl)) (by rfl) m_len (by decide +kernel) (pa_cons (pv 3) pa_nil)) pa_nil)))) pa_nil)) pa_nil)) (pa_cons (pe_lst (pa_cons (pe_tup (pa_cons (pv 7) (pa_cons (pv 8) (pa_cons pe_int pa_nil)))) pa_nil)) pa_nil))))) (pss_one (ps_ret pe_bl)) pss_nil))))))))
  (pss_cons (ps_if (pt_not (pt_val (h_sameK.call (hr.mono (by first | decide | omega)) rfl pass0 (pa_cons (pe_glob (v := .ref aK) rfl g_KEYWORDS rfl) (pa_cons (pe_callTy (call_tuple_ofK (K := K) (by rfl)) (by rfl) m_tuple (by decide +kernel) (pa_cons (h__law_keywords.call0 (hr.mono (by first | decide | omega)) rfl pass0) pa_nil)) pa_nil))))) (pss_one (ps_ret pe_bl)) pss_nil)
  (pss_cons (ps_set (i := 3) sc.nd rfl (.inl rfl) (pe_op (op_addWK (K := K) (by rfl)) (pv 3) (h__law_gap.call (hr.mono (by first | decide | omega)) rfl pass0 (pa_cons (pv 1) (pa_cons pe_bl pa_nil)))))
  (pss_cons (ps_if (pt_cmpR op_lt (h__law_next.call (hr.mono (by first | decide | omega)) rfl pass0 (pa_cons (pv 1) (pa_cons pe_int pa_nil))) pe_int (nomark _)) (pss_one (ps_ret (h__law_same.call (hr.mono (by first | decide | omega)) rfl pass0 (pa_cons (h__law_read.call (hr.mono (by first | decide | omega)) rfl pass0 (pa_cons (pv 3) pa_nil)) (pa_cons (pe_tup (pa_cons pe_str (pa_cons (pv 4) pa_nil))) pa_nil))))) pss_nil)
  (pss_cons (ps_set (i := 3) sc.nd rfl (.inl rfl) (pe_op (op_addWK (K := K) (by rfl)) (pv 3) pe_str))
  (pss_cons (ps_set (i := 10) sc.nd rfl (.inl rfl) (pe_callB (call_lenK (K := K) (by rfl)) (by rfl) m_len (by decide +kernel) (pa_cons (pv 3) pa_nil)))
  (pss_cons (ps_if (pt_cmpR (op_eqUK (K := K) (by rfl) hr.units) (h__law_next.call (hr.mono (by first | decide | omega)) rfl pass0 (pa_cons (pv 1) (pa_cons pe_int pa_nil))) pe_int (nomark _)) (pss_one (ps_set (i := 3) sc.nd rfl (.inl rfl) (pe_op (op_addWK (K := K) (by rfl)) (pe_op (op_addWK (K := K) (by rfl)) (pv 3) pe_str) (pe_ix (ix_seqK (K := K) (by rfl)) pe_str (h__law_next.call (hr.mono (by first | decide | omega)) rfl pass0 (pa_cons (pv 1) (pa_cons pe_int pa_nil))) (fun _ _ => rfl))))) (pss_one (ps_set (i := 3) sc.nd rfl (.inl rfl) (pe_op (op_addWK (K := K) (by rfl)) (pe_op (op_addWK (K := K) (by rfl)) (pv 3) (h__law_stranger.call (hr.mono (by first | decide | omega)) rfl pass0 (pa_cons (pv 1) pa_nil))) (pv 3)))))
  (pss_one (ps_ret (h__law_same.call (hr.mono (by first | decide | omega)) rfl pass0 (pa_cons (h__law_read.call (hr.mono (by first | decide | omega)) rfl pass0 (pa_cons (pv 3) pa_nil)) (pa_cons (pe_tup (pa_cons pe_str (pa_cons (pv 10) (pa_cons pe_bl pa_nil)))) pa_nil)))))))))))))))))), ?_⟩
  try dsimp only [cxOf]
  rintro ds h R ⟨ns, rfl, rfl, hl, q⟩
  have sz := sizeLine_eq
  refine vs_cut (fun env' h' => env' = [some (dL (ns.map P.int)), some (.own 0), none, none, none, none, none, none, none, none, none] ∧ h' = hst ns 0 0 1) ?_ ?_
  · k_places
    refine ve_lstO ?_
    k_places
    refine vc_list rfl ?_
    k_places
    refine ⟨sz_le (Nat.le_of_ble_eq_true rfl), ?_⟩
    k_places
    exact ⟨rfl, rfl⟩
  rintro env' h' ⟨rfl, rfl⟩
  have ok := ok_start hl
  refine vs_cut (fun env' h' => ∃ (m a b c : Int), 0 ≤ m ∧ m ≤ 150 ∧ OkSt ns a b c ∧ env' = [some (dL (ns.map P.int)), some (.own 0), some (dI m), none, none, none, none, none, none, none, none] ∧ h' = hst ns a b c) ?_ ?_
  · k_places
    refine next_i (h0 := h0) (by decide) ok (by decide) (by decide) fun m a b c ok m0 m1 => ?_
    k_places
    exact ⟨m, a, b, c, m0, by omega, ok, rfl, rfl⟩
  rintro env' h' ⟨m, a, b, c, m0, m1, ok, rfl, rfl⟩
  refine vs_cut (fun env' h' => ∃ (m a b c : Int), 0 ≤ m ∧ m ≤ 150 ∧ OkSt ns a b c ∧ env' = [some (dL (ns.map P.int)), some (.own 0), some (dI m), none, none, none, none, none, none, none, none] ∧ h' = hst ns a b c) ?_ ?_
  · k_places
    refine next_i (h0 := h0) (by decide) ok (by decide) (by decide) fun v a b c ok v0 v1 => ?_
    k_places
    refine ite_dec (fun e => ?_) (fun e => ?_)
    · k_places
      refine next_i (h0 := h0) (by decide) ok (by decide) (by decide) fun m a b c ok m0 m1 => ?_
      k_places
      exact ⟨m, a, b, c, m0, by omega, ok, rfl, rfl⟩
    · k_places
      exact ⟨m, a, b, c, m0, by omega, ok, rfl, rfl⟩
  rintro env' h' ⟨m, a, b, c, m0, m1, ok, rfl, rfl⟩
  refine vs_cut (fun env' h' => ∃ (g : List Nat) (a b c : Int), g.length ≤ 2 ∧ (∀ d ∈ g, Tz.inS Tz.blks d = true) ∧ OkSt ns a b c ∧ env' = [some (dL (ns.map P.int)), some (.own 0), some (dI m), some (dS (S g)), none, none, none, none, none, none, none] ∧ h' = hst ns a b c) ?_ ?_
  · k_places
    refine ⟨0, ns, a, b, c, false, rfl, rfl, ok, fun g a b c ok gl gb _ => ?_⟩
    rw [List.set_set]
    k_places
    exact ⟨g, a, b, c, gl, gb, ok, rfl, rfl⟩
  rintro env' h' ⟨g, a, b, c, gl, gb, ok, rfl, rfl⟩
  refine vs_cut (fun env' h' => env' = [some (dL (ns.map P.int)), some (.own 0), some (dI m), some (dS (S g)), some (.own 1), none, none, none, none, none, none] ∧ h' = hx [] ns a b c) ?_ ?_
  · k_places
    refine ve_lstO ?_
    k_places
    refine ⟨by decide, ?_⟩
    k_places
    exact ⟨rfl, rfl⟩
  rintro env' h' ⟨rfl, rfl⟩
  refine vs_cut (fun env' h' => env' = [some (dL (ns.map P.int)), some (.own 0), some (dI m), some (dS (S g)), some (.own 1), some (dS (S [32])), none, none, none, none, none] ∧ h' = hx [] ns a b c) ?_ ?_
  · k_places
    have s32 : (" " : Str) = S [32] := by decide +kernel
    rw [s32]
    exact ⟨rfl, rfl⟩
  rintro env' h' ⟨rfl, rfl⟩
  refine vs_seq ?_
  refine vs_for (vi_range1 ?_)
  k_places
  refine ⟨m, rfl, by omega, by omega, ?_⟩
  refine ⟨fun i env' h' => ∃ (p l : List Nat) (ts : List P) (a b c : Int) (o6 o7 o8 o9 : Option Kb.D), env' = [some (dL (ns.map P.int)), some (.own 0), some (dI m), some (dS (S l)), some (.own 1), some (dS (S p)), o6, o7, o8, o9, none] ∧ h' = hx ts ns a b c ∧
    OkSt ns a b c ∧ ts.length = i ∧ l.length ≤ 2 + i * 4004 ∧ 0 < p.length ∧ p.length ≤ 10000 ∧ Tz.Grown p l ts ∧ ∀ t ∈ ts, ToldOk t, ?_, ?_, ?_, ?_⟩
  · exact ⟨[32], g, [], a, b, c, none, none, none, none, rfl, rfl, ok, rfl, by omega, by simp, by simp, Tz.grown_gap gb _, fun _ z => by simp at z⟩
  · exact fun _ _ _ _ => trivial
  · rintro i d env' h' hd ⟨p, l, ts, a, b, c, o6, o7, o8, o9, rfl, rfl, ok, tl, ll, p0, p1, G, hts⟩
    obtain ⟨i1, rfl⟩ := rng_get hd
    refine vg_name ?_
    refine vs_seq ?_
    refine vs_asg ?_
    k_places
    refine draw_i (h0 := [none, accO ts]) (by simp) ok fun v a b c ok hv => ?_
    obtain ⟨k, v, wr, rfl, dr⟩ := hv
    refine vg_tup rfl ?_
    refine vgs_cons (vg_name (vgs_cons (vg_name (vgs_cons (vg_name (vgs_nil ?_))))))
    obtain ⟨w0, w1⟩ := dr.len
    refine vs_seq ?_
    refine vs_asg ?_
    k_places
    refine ⟨p, wr, rfl, p0, w0, p1, by omega, ?_⟩
    k_places
    refine ⟨0, ns, a, b, c, _, rfl, rfl, ok, fun g a b c ok gl gb gn => ?_⟩
    rw [List.set_set]
    k_places
    refine v2_addWS ?_ ?_
    · rw [S_len, S_len]; omega
    rw [S_cat]
    have lg : (l ++ g).length ≤ 2 + i * 4004 + 2 := by rw [List.length_append]; omega
    have lw : (l ++ g ++ wr).length ≤ 2 + (i + 1) * 4004 := by rw [List.length_append]; omega
    refine vg_name ?_
    refine vs_seq ?_
    refine vs_drop ?_
    refine ve_bm ?_
    k_places
    refine ⟨⟨rfl, ts.map D.p, rfl⟩, ?_⟩
    k_places
    refine vc_len (n := (l ++ g).length) ⟨by rw [S_len]; omega, S_len _⟩ ?_
    k_places
    refine vm_append (xs := ts.map D.p) rfl (by rw [List.length_map]; omega) ?_
    have hs : (hx ts ns a b c).set 1 (some (.lst (ts.map D.p ++ [D.p (Tz.tokP k v (l ++ g).length)]))) = hx (ts ++ [Tz.tokP k v (l ++ g).length]) ns a b c := by
      have hm : (ts ++ [Tz.tokP k v (l ++ g).length]).map D.p = ts.map D.p ++ [D.p (Tz.tokP k v (l ++ g).length)] := by rw [List.map_append]; rfl
      show [_, _] = [_, some (OO.lst ((ts ++ [Tz.tokP k v (l ++ g).length]).map D.p))]
      rw [hm]
    rw [hs]
    k_places
    refine v2_addWS ?_ ?_
    · rw [S_len, S_len]; omega
    rw [S_cat]
    k_places
    refine vc_len (n := (l ++ g ++ wr).length) ⟨by rw [S_len]; omega, S_len _⟩ ?_
    k_places
    refine ⟨k, v, _, wr, rfl, dr, fun l' dr' => ?_⟩
    k_places
    have ld := dr'.len
    refine ⟨l', [Tz.tokP k v 0], rfl, by omega, Tz.toks_one dr', ?_⟩
    k_places
    refine ve_lst ?_
    k_places
    have to0 := told_ok (a := 0) dr
    refine ⟨.lst [Tz.tokP k v 0], .lst [Tz.tokP k v 0], rfl, ?_, ?_, ?_⟩
    · exact plainPs_of fun x hx => by rw [List.mem_singleton.mp hx]; exact to0.1
    · exact one_ok to0
    rw [eqB_eq rfl]
    k_places
    refine ⟨wr, l ++ g ++ wr, ts ++ [Tz.tokP k v (l ++ g).length], a, b, c, _, _, _, _, rfl, rfl, ok, by simp [tl], lw, w0, by omega, G.tok dr gb gn, fun t ht => ?_⟩
    rcases List.mem_append.mp ht with ht | ht
    · exact hts t ht
    · rw [List.mem_singleton.mp ht]; exact told_ok dr
  · rintro env' h' ⟨p, l, ts, a, b, c, o6, o7, o8, o9, rfl, rfl, ok, tl, ll, p0, p1, G, hts⟩
    rw [rng_len] at tl ll
    have l1 : l.length ≤ 610000 := by
      have z : m.toNat * 4004 ≤ 150 * 4004 := Nat.mul_le_mul_right _ (by omega)
      omega
    k_places
    refine ve_cls ?_
    k_places
    refine ⟨rfl, ?_⟩
    k_places
    refine vc_tuple rfl ?_
    k_places
    refine ⟨aK, Tz.kws, rfl, by decide, by decide +kernel, T.kk, ?_⟩
    k_places
    refine ⟨0, ns, a, b, c, false, rfl, rfl, ok, fun g a b c ok gl gb _ => ?_⟩
    rw [List.set_set]
    k_places
    refine v2_addWS ?_ ?_
    · rw [S_len, S_len]; omega
    rw [S_cat]
    refine vg_name ?_
    have lg : (l ++ g).length ≤ 610002 := by rw [List.length_append]; omega
    refine vs_freeze (i := 4) (n := 1) rfl rfl ?_
    show VS _ _ _ _ _ (List.set [none, none] 0 (some (stO ns a b c)))
    k_places
    refine next_i (h0 := [none, none]) (by simp) ok (by decide) (by decide) fun v a b c ok v0 v1 => ?_
    k_places
    refine ite_dec (fun e => ?_) (fun e => ?_)
    · k_places
      refine ⟨l ++ g, ts, none, rfl, by omega, G.blanks gb, ?_⟩
      k_places
      refine ⟨.tup [.str "tokens", .lst ts], .tup [.str "tokens", .lst ts], rfl, ?_, ?_, ?_⟩
      · show (plainP.plainPs [.str "tokens", .lst ts]) = true
        simp only [plainP.plainPs]
        have z : plainP (.lst ts) = true := plainPs_of fun t ht => (hts t ht).1
        rw [z]
        rfl
      · exact all_ok (by omega) hts
      rw [eqB_eq rfl]
      exact q _
    k_places
    have s32 : (" " : Str) = S [32] := by decide +kernel
    rw [s32]
    refine v2_addWS ?_ ?_
    · rw [S_len, S_len]; simp only [List.length_cons, List.length_nil]; omega
    rw [S_cat]
    have eg : l ++ g ++ [32] = l ++ (g ++ [32]) := List.append_assoc _ _ _
    have gb2 : ∀ d ∈ g ++ [32], Tz.inS Tz.blks d = true := fun d hd => by
      rcases List.mem_append.mp hd with hd | hd
      · exact gb d hd
      · rw [List.mem_singleton.mp hd]; decide +kernel
    have lt : (l ++ g ++ [32]).length ≤ 610003 := by rw [List.length_append]; simp only [List.length_cons, List.length_nil]; omega
    k_places
    refine vc_len (n := (l ++ g ++ [32]).length) ⟨by rw [S_len]; omega, S_len _⟩ ?_
    k_places
    have fin : ∀ (s : List Nat) (h' : Hs), s.length ≤ 1000000 → (∃ c u, s = c :: u ∧ Tz.inS Tz.blks c = false) → Tz.tokR s = none → ∀ (R' : Kb.D → Hs → Prop), R' (.p (.tup [.str "refused", .int ((l ++ g ++ [32]).length : Nat), .bl true])) h' →
        W_read [dS (S (l ++ g ++ [32] ++ s))] h' R' := fun s h' sl sh st R' q' => by
      have q2 : R' (.p (ansR ts (some (l ++ g ++ [32]).length))) h' := q'
      refine ⟨l ++ g ++ [32] ++ s, ts, some (l ++ g ++ [32]).length, rfl, by rw [List.length_append]; omega, ?_, q2⟩
      rw [eg]
      exact G.no gb2 (by simp) sh st
    have last : ∀ (h' : Hs) (a : P), a = .tup [.str "refused", .int ((l ++ g ++ [32]).length : Nat), .bl true] → W_same 4 [.p a, dT [.str "refused", .int ((l ++ g ++ [32]).length : Nat), .bl true]] h' R := fun h' a ea =>
      ⟨a, .tup [.str "refused", .int ((l ++ g ++ [32]).length : Nat), .bl true], rfl, by rw [ea]; rfl, refused_ok _, by rw [eqB_eq ea]; exact q h'⟩
    refine next_i (h0 := [none, none]) (by simp) ok (by decide) (by decide) fun v a b c ok v0 v1 => ?_
    k_places
    refine ite_dec (fun e => ?_) (fun e => ?_)
    · k_places
      have sa : ("'a''b" : Str) = S [39, 97, 39, 39, 98] := by decide +kernel
      rw [sa]
      refine v2_addWS ?_ ?_
      · rw [S_len, S_len]; simp only [List.length_cons, List.length_nil]; omega
      rw [S_cat]
      k_places
      refine next_i (h0 := [none, none]) (by simp) ok (by decide) (by decide) fun v a b c ok v0 v1 => ?_
      have hv : v = 0 ∨ v = 1 := by omega
      rcases hv with rfl | rfl
      · refine v2_ixS (by decide +kernel) (at_nat (v := 32) 0 (by omega) (by decide +kernel)) ?_
        refine v2_addWS ?_ ?_
        · show (S (l ++ g ++ [32] ++ [39, 97, 39, 39, 98])).length + (S [32]).length ≤ _
          rw [S_len, S_len, List.length_append]; simp only [List.length_cons, List.length_nil]; omega
        have ec : S (l ++ g ++ [32] ++ [39, 97, 39, 39, 98]) ++ (⟨#[32]⟩ : Str) = S (l ++ g ++ [32] ++ [39, 97, 39, 39, 98, 32]) := (S_cat _ [32]).trans (by rw [List.append_assoc (l ++ g ++ [32])]; rfl)
        rw [ec]
        k_places
        refine fin [39, 97, 39, 39, 98, 32] _ (by decide) ⟨39, _, rfl, by decide +kernel⟩ (Tz.no_end (by decide)) _ ?_
        k_places
        exact last _ _ rfl
      · refine v2_ixS (by decide +kernel) (at_nat (v := 99) 1 (by omega) (by decide +kernel)) ?_
        refine v2_addWS ?_ ?_
        · show (S (l ++ g ++ [32] ++ [39, 97, 39, 39, 98])).length + (S [99]).length ≤ _
          rw [S_len, S_len, List.length_append]; simp only [List.length_cons, List.length_nil]; omega
        have ec : S (l ++ g ++ [32] ++ [39, 97, 39, 39, 98]) ++ (⟨#[99]⟩ : Str) = S (l ++ g ++ [32] ++ [39, 97, 39, 39, 98, 99]) := (S_cat _ [99]).trans (by rw [List.append_assoc (l ++ g ++ [32])]; rfl)
        rw [ec]
        k_places
        refine fin [39, 97, 39, 39, 98, 99] _ (by decide) ⟨39, _, rfl, by decide +kernel⟩ (Tz.no_end (by decide)) _ ?_
        k_places
        exact last _ _ rfl
    · k_places
      refine draw_i (h0 := [none, none]) (by simp) ok fun v a b c ok hv => ?_
      obtain ⟨s, rfl, sl, sh, st⟩ := hv
      refine v2_addWS ?_ ?_
      · rw [S_len, S_len]; omega
      rw [S_cat]
      have ls : (l ++ g ++ [32] ++ s).length ≤ 617003 := by rw [List.length_append]; omega
      k_places
      refine v2_addWS ?_ ?_
      · rw [S_len, S_len]; omega
      rw [S_cat]
      k_places
      have ea : l ++ g ++ [32] ++ s ++ (l ++ g ++ [32]) = l ++ g ++ [32] ++ (s ++ (l ++ g ++ [32])) := List.append_assoc _ _ _
      rw [ea]
      have l9 : (s ++ (l ++ g ++ [32])).length ≤ 1000000 := by rw [List.length_append]; omega
      obtain ⟨y, u, rfl, hy⟩ := sh
      refine fin _ _ l9 ⟨y, u ++ (l ++ g ++ [32]), rfl, hy⟩ (st _) _ ?_
      k_places
      exact last _ _ rfl
end
end Law

namespace Law
open PySem PySem.Spec PyProof.Rows L2 Kb
def strsV : List Value → Option (List Str)
  | [] => some []
  | .str s _ :: r => (strsV r).map (s :: ·)
  | _ => none
theorem strsV_vals : ∀ {us : List Value} {ss : List Str}, strsV us = some ss → Vals (ss.map V.str) us ∧ us.length = ss.length
  | [], ss, h => by cases h; exact ⟨.nil, rfl⟩
  | u :: us, ss, h => by
    cases u with
    | str s t =>
      simp only [strsV] at h
      cases e : strsV us with
      | none => rw [e] at h; cases h
      | some r =>
        rw [e] at h
        cases h
        obtain ⟨a, b⟩ := strsV_vals e
        exact ⟨.cons ⟨t, rfl⟩ a, by simp [b]⟩
    | _ => cases h
theorem ktup_mk {K : PySem.W.Frag} {a : Addr} {od : Option Addr} {its : Array Value} {n : Nat} {sl : Array (Option Value)} {ss : List Str} (l : K.lookup a = some ⟨.type "tuple", od, .seq its n, sl⟩) (h : strsV its.toList = some ss) (hl : ss.length ≤ sizeLine) : KTup K a (ss.map V.str) := by
  obtain ⟨v, e⟩ := strsV_vals h
  exact ⟨_, its, n, l, rfl, rfl, by rw [← Array.length_toList, e]; exact hl, v⟩
theorem rini_mk {K : PySem.W.Frag} {C f : Addr} {oc : Value} {od an : Option Addr} {osl : Array (Option Value)} {kV doc pm cdv ct : Value}
    (hb : ∀ (kV doc pm : Value) (an : Option Addr) (cdv ct : Value) (us : List Value), us.length = (["self", "position"] : List Str).length → bindArgs (PySem.W.fnOf "__init__" "RefusedText.__init__" (defArgs st_rini) (defBody st_rini) (defScope st_rini) .none kV doc pm an cdv ct) ⟨us, []⟩ = pure ((["self", "position"] : List Str).zip us))
    (a : PySem.W.findIn K (.ref C) "__init__" = some (some (.ref f))) (ty : PySem.W.typeIn K (.ref f) = some (.type "function"))
    (l : K.lookup f = some ⟨oc, od, .func (PySem.W.fnOf "__init__" "RefusedText.__init__" (defArgs st_rini) (defBody st_rini) (defScope st_rini) .none kV doc pm an cdv ct), osl⟩) (c : PySem.W.codeIn K cdv "RefusedText.__init__" = true) (k : PySem.W.keepIn K (.ref f) = true) :
    ∃ fI fd, Fun K "__init__" "RefusedText.__init__" st_rini fI fd ∧ PySem.W.findIn K (.ref C) "__init__" = some (some (.ref fI)) ∧ PySem.W.typeIn K (.ref fI) = some (.type "function") ∧ Binds K fd ["self", "position"] [] := by
  have F := fun_mk (st := st_rini) l c k
  exact ⟨f, _, F, a, ty, F.binds hb⟩
end Law

namespace Law
open PySem PySem.Spec PyProof.Rows L2 Kb
theorem law_all {l : PySem.W.OpenLaw} {w : World} {K : PySem.W.Frag} {Θ : List Addr} {h : Heap} {mg : Str → Option Value} {fa fl  C Q B aK aL : Addr} (X : K.In h) (G : h.Ns mainGlobals mg) (hfa : mg "law" = some (.ref fa))
    {od1 od2 : Option Addr} {its1 its2 : Array Value} {n1 n2 : Nat} {sl1 sl2 : Array (Option Value)} {xnm xq : Str} {xN : Addr} {xbs xbm : List Value} {xsn : List Str} {xsub : List Value} {xab : Bool} {xcol : Option Bool} {xdd : Option Addr} {xk0 xk1 xk2 xk3 xk5 : Option Value}
    {od an : Option Addr} {sl : Array (Option Value)} {oc kV dc pm cd ct : Value} {t1 : Tok} {t2 : Tok} {t3 : Tok} {t4 : Tok} {t5 : Tok} {t6 : Tok} {t7 : Tok}
    (d_next : DefAt K mg "_law_next" st_next ["state", "limit"])
    (d_char : DefAt K mg "_law_char" st_char ["index"])
    (d_same : DefAt K mg "_law_same" st_same ["actual", "expected"])
    (d_run : DefAt K mg "_end_of_run" st_run ["text", "at", "characters"])
    (d_word : DefAt K mg "_word_at" st_word ["text", "at"])
    (d_int : DefAt K mg "_integer_at" st_int ["text", "at"])
    (d_txt : DefAt K mg "_text_at" st_txt ["text", "at"])
    (d_par : DefAt K mg "_parameter_at" st_par ["text", "at"])
    (d_sgn : DefAt K mg "_sign_at" st_sgn ["text", "at"])
    (d_tka : DefAt K mg "_token_at" st_tka ["text", "at"])
    (d_tkz : DefAt K mg "tokenize" st_tkz ["text"])
    (d_wtk : DefAt K mg "write_token" st_wtk ["token"])
    (d_kws : DefAt K mg "_law_keywords" st_kws [])
    (d_name : DefAt K mg "_law_name" st_name ["state"])
    (d_sgs : DefAt K mg "_law_signs" st_sgs [])
    (d_dig : DefAt K mg "_law_digits" st_dig ["state", "count"])
    (d_lng : DefAt K mg "_law_long_text" st_lng ["state", "count"])
    (d_qtd : DefAt K mg "_law_quoted" st_qtd ["text"])
    (d_tok : DefAt K mg "_law_token" st_tok ["state"])
    (d_jn : DefAt K mg "_law_joins" st_jn ["written", "other"])
    (d_gap : DefAt K mg "_law_gap" st_gap ["state", "needed"])
    (d_str : DefAt K mg "_law_stranger" st_str ["state"])
    (d_read : DefAt K mg "_law_read" st_read ["text"])
    (z1 : PySem.W.nsIn K mainGlobals "int" = some none)
    (z2 : PySem.W.nsIn K mainGlobals "len" = some none)
    (z3 : PySem.W.nsIn K mainGlobals "bool" = some none)
    (z4 : PySem.W.nsIn K mainGlobals "str" = some none)
    (z5 : PySem.W.nsIn K mainGlobals "list" = some none)
    (z6 : PySem.W.nsIn K mainGlobals "tuple" = some none)
    (z7 : PySem.W.nsIn K mainGlobals "range" = some none)
    (z8 : PySem.W.nsIn K mainGlobals "isinstance" = some none)
    (q1 : PySem.W.nsIn K mainGlobals "LETTERS" = some (some (.str Tz.lets t1)))
    (q2 : PySem.W.nsIn K mainGlobals "DIGITS" = some (some (.str Tz.digs t2)))
    (q3 : PySem.W.nsIn K mainGlobals "OF_WORDS" = some (some (.str Tz.ofws t3)))
    (q4 : PySem.W.nsIn K mainGlobals "BLANKS" = some (some (.str Tz.blks t4)))
    (q5 : PySem.W.nsIn K mainGlobals "SHORT_SIGNS" = some (some (.str Tz.shorts t5)))
    (q6 : PySem.W.nsIn K mainGlobals "MOST_DIGITS" = some (some (.int 30 t6)))
    (q7 : PySem.W.nsIn K mainGlobals "MOST_CHARACTERS" = some (some (.int 2000 t7)))
    (gK : PySem.W.nsIn K mainGlobals "KEYWORDS" = some (some (.ref aK)))
    (gL : PySem.W.nsIn K mainGlobals "LONG_SIGNS" = some (some (.ref aL)))
    (lK : K.lookup aK = some ⟨.type "tuple", od1, .seq its1 n1, sl1⟩)
    (lL : K.lookup aL = some ⟨.type "tuple", od2, .seq its2 n2, sl2⟩)
    (vK : strsV its1.toList = some Tz.kws)
    (vL : strsV its2.toList = some Tz.longs)
    (aC : PySem.W.nsIn K mainGlobals "RefusedText" = some (some (.ref C)))
    (aQ : PySem.W.nsIn K mainGlobals "QuestionError" = some (some (.ref Q)))
    (aB : PySem.W.nsIn K mainGlobals "KithbaseError" = some (some (.ref B)))
    (lC : K.lookup C = some (excClassObj xnm xq C xN xbs xbm true xsn xsub xab xcol xdd xk0 xk1 xk2 xk3 xk5 "ValueError.__new__"))
    (rC : PySem.HandSPX.refsVE xbm = true)
    (saC : PySem.W.findIn K (.ref C) "__setattr__" = some (some (.builtin "object.__setattr__")))
    (bC : PySem.W.subIn K (.ref C) (.type "BaseException") = some true)
    (tC : PySem.W.typeIn K (.ref C) = some (.type "type"))
    (kC : PySem.W.keepIn K (.ref C) = true)
    (hg : PySem.W.findIn K (.ref C) "__getattribute__" = some (some (.builtin "BaseException.__getattribute__")))
    (hk : PySem.W.findIn K (.ref C) "__getattr__" = some none)
    (hdC : PySem.W.hasDictIn K C = true)
    (ha : PySem.W.findIn K (.ref C) "__class__" = some (some (.builtin "object.__class__")))
    (hn : PySem.W.specialIn K (.builtin "object.__class__") "__get__" = some (some (.builtin "getset_descriptor.__get__")))
    (ht : PySem.W.takesIn K (.builtin "object.__class__") = some true)
    (hm : PySem.W.mroIn K C (.type "object") = some true)
    (noC : PySem.W.findIn K (.ref C) "position" = some none)
    (ini : ∃ fI fd, Fun K "__init__" "RefusedText.__init__" st_rini fI fd ∧ PySem.W.findIn K (.ref C) "__init__" = some (some (.ref fI)) ∧ PySem.W.typeIn K (.ref fI) = some (.type "function") ∧ Binds K fd ["self", "position"] [])
    (iC : PySem.W.isClsIn K C = true)
    (iQ : PySem.W.isClsIn K Q = true)
    (iB : PySem.W.isClsIn K B = true)
    (tQ : PySem.W.typeIn K (.ref Q) = some (.type "type"))
    (tB : PySem.W.typeIn K (.ref B) = some (.type "type"))
    (sC : PySem.W.subIn K (.ref C) (.ref C) = some true)
    (sQ : PySem.W.subIn K (.ref C) (.ref Q) = some true)
    (sB : PySem.W.subIn K (.ref C) (.ref B) = some true)
    (nQ : (C == Q) = false)
    (nB : (C == B) = false)
    (al : PySem.W.nsIn K mainGlobals "law" = some (some (.ref fl)))
    (ll : K.lookup fl = some ⟨oc, od, .func (PySem.W.fnOf "law" "law" (defArgs st_law) (defBody st_law) (defScope st_law) .none kV dc pm an cd ct), sl⟩)
    (cl : PySem.W.codeIn K cd "law" = true)
    (kl : PySem.W.keepIn K (.ref fl) = true) :
    ∃ fd : FuncData, (∀ (s : Shared) (v : Value), BindsTo s fd ⟨[v], []⟩ [("script", v)]) ∧ ∀ base : Heap, K.In base → base.Ns mainGlobals mg → FnOk l.prog w K mg base CX0 7 fa fd ["script"] (spD K Θ W_law) := by
  have e := hfa.symm.trans (PySem.W.mg_of X G al)
  cases e
  have F := fun_mk (st := st_law) ll cl kl
  have m : ∀ {x : Str}, PySem.W.nsIn K mainGlobals x = some none → mg x = none := fun z => PySem.W.mg_none_of X G z
  refine ⟨PySem.W.fnOf "law" "law" (defArgs st_law) (defBody st_law) (defScope st_law) .none kV dc pm an cd ct, fun s v => .of_eq rfl, fun base _ _ => ?_⟩
  have T : TokC K mg aK aL := ⟨⟨_, PySem.W.mg_of X G q1⟩, ⟨_, PySem.W.mg_of X G q2⟩, ⟨_, PySem.W.mg_of X G q3⟩, ⟨_, PySem.W.mg_of X G q4⟩, ⟨_, PySem.W.mg_of X G q5⟩, ⟨_, PySem.W.mg_of X G q6⟩, ⟨_, PySem.W.mg_of X G q7⟩, PySem.W.mg_of X G gK, PySem.W.mg_of X G gL, ktup_mk lK vK (by decide), ktup_mk lL vL (by decide)⟩
  have Z : RefC K mg C := ⟨⟨⟨_, _, _, _, _, _, _, _, _, _, _, _, _, _, _, lC, rC⟩, saC, bC, tC, kC⟩, ⟨hg, hk, bC, hdC⟩, ⟨hg, hk, bC, hdC, ha, hn, ht, hm⟩, noC, ini, PySem.W.mg_of X G aC⟩
  have er : ErrQ K mg C Q B := ⟨PySem.W.mg_of X G aQ, PySem.W.mg_of X G aB, exm_cls bC iC tC sC, kit_cls nQ iQ tQ sQ, kit_cls nB iB tB sB⟩
  have h_next := ok_next (Pg := l.prog) (w := w) (base := base) (Θ := Θ) d_next  (m z1) (m z2) 
  have h_char := ok_char (Pg := l.prog) (w := w) (base := base) (Θ := Θ) d_char  (m z1) 
  have h_same := ok_same (Pg := l.prog) (w := w) (base := base) (Θ := Θ) d_same  (m z1) (m z3) (m z4) (m z5) (m z6) (m z2) (m z7) (m z8) 
  have h_same4 := h_same 4 
  have h_sameK := ok_sameK (Pg := l.prog) (w := w) (base := base) (Θ := Θ) d_same (m z1) (m z3) (m z4) (m z5) (m z6) (m z2) (m z7) (m z8) 
  have h_run := ok_run (Pg := l.prog) (w := w) (base := base) (Θ := Θ) d_run  (m z2) 
  have h_word := ok_word (Pg := l.prog) (w := w) (base := base) (Θ := Θ) d_word  T h_run
  have h_int := ok_int (Pg := l.prog) (w := w) (base := base) (Θ := Θ) d_int  T Z (m z1) h_run
  have h_txt := ok_txt (Pg := l.prog) (w := w) (base := base) (Θ := Θ) d_txt  T Z (m z2) 
  have h_par := ok_par (Pg := l.prog) (w := w) (base := base) (Θ := Θ) d_par  T Z (m z1) h_run
  have h_sgn := ok_sgn (Pg := l.prog) (w := w) (base := base) (Θ := Θ) d_sgn  T Z 
  have h_tka := ok_tka (Pg := l.prog) (w := w) (base := base) (Θ := Θ) d_tka  T h_word h_int h_txt h_par h_sgn
  have h_tkz := ok_tkz (Pg := l.prog) (w := w) (base := base) (Θ := Θ) d_tkz  T (m z2) h_tka
  have h_tkzS := tkz_calm h_tkz
  have h_wtk := ok_wtk (Pg := l.prog) (w := w) (base := base) (Θ := Θ) d_wtk  (m z4) 
  have h_kws := ok_kws (Pg := l.prog) (w := w) (base := base) (Θ := Θ) d_kws   
  have h_name := ok_name (Pg := l.prog) (w := w) (base := base) (Θ := Θ) d_name  (m z7) h_next h_kws
  have h_sgs := ok_sgs (Pg := l.prog) (w := w) (base := base) (Θ := Θ) d_sgs   
  have h_dig := ok_dig (Pg := l.prog) (w := w) (base := base) (Θ := Θ) d_dig  (m z7) (m z4) h_next
  have h_lng := ok_lng (Pg := l.prog) (w := w) (base := base) (Θ := Θ) d_lng   h_next h_char
  have h_qtd := ok_qtd (Pg := l.prog) (w := w) (base := base) (Θ := Θ) d_qtd   
  have h_tok := ok_tok (Pg := l.prog) (w := w) (base := base) (Θ := Θ) d_tok  (m z7) (m z1) h_next h_char h_kws h_name h_sgs h_dig h_lng h_qtd
  have h_jn := ok_jn (Pg := l.prog) (w := w) (base := base) (Θ := Θ) d_jn   
  have h_gap := ok_gap (Pg := l.prog) (w := w) (base := base) (Θ := Θ) d_gap  (m z7) h_next
  have h_str := ok_str (Pg := l.prog) (w := w) (base := base) (Θ := Θ) d_str  (m z2) h_next h_dig h_lng h_qtd
  have h_read := ok_read (Pg := l.prog) (w := w) (base := base) (Θ := Θ) d_read  Z er (m z8) h_tkz
  exact ok_law F T (m z2) (m z5) (m z7) (m z6) h_next h_gap h_tok h_jn h_tkzS h_wtk h_same4 h_sameK h_kws h_str h_read
end Law

open PySem PySem.W PyProof.Rows
set_option maxRecDepth 100000 in
set_option maxHeartbeats 0 in
theorem PySem.Challenge.cw_kithbase_k22_tokens_read_back_holds : PySem.Challenge.rw_kithbase_k22_tokens_read_back.Holds := by
  w_on; o_law; k_head; (case hw => w_witness2)
  k_fill
  refine Kb.walkD (l := PySem.Challenge.rw_kithbase_k22_tokens_read_back) (k := 7) (W := Law.W_law) rfl rfl ⟨rfl, by decide, by decide⟩ (fun w h Y => PySem.W.kIn_of Y) (fun ns hl hb => ⟨ns, rfl, rfl, hl, fun _ => rfl⟩) ?F
  case F =>
    intro w mg fa h KX G hmg
    refine' Law.law_all KX G hmg ?d_next ?d_char ?d_same ?d_run ?d_word ?d_int ?d_txt ?d_par ?d_sgn ?d_tka ?d_tkz ?d_wtk ?d_kws ?d_name ?d_sgs ?d_dig ?d_lng ?d_qtd ?d_tok ?d_jn ?d_gap ?d_str ?d_read ?z1 ?z2 ?z3 ?z4 ?z5 ?z6 ?z7 ?z8 ?q1 ?q2 ?q3 ?q4 ?q5 ?q6 ?q7 ?gK ?gL ?lK ?lL ?vK ?vL ?aC ?aQ ?aB ?lC ?rC ?saC ?bC ?tC ?kC ?hg ?hk ?hdC ?ha ?hn ?ht ?hm ?noC ?ini ?iC ?iQ ?iB ?tQ ?tB ?sC ?sQ ?sB ?nQ ?nB ?al ?ll ?cl ?kl
    (case d_next => (refine' Kb.defAt_mk KX G ?b ?a ?l ?c ?k; (case b => exact fun _ _ _ _ _ _ us hl => match us, hl with | [_, _], _ => rfl); (case a => k_is); (case l => k_is); (case c => k_is); (case k => k_is)))
    (case d_char => (refine' Kb.defAt_mk KX G ?b ?a ?l ?c ?k; (case b => exact fun _ _ _ _ _ _ us hl => match us, hl with | [_], _ => rfl); (case a => k_is); (case l => k_is); (case c => k_is); (case k => k_is)))
    (case d_same => (refine' Kb.defAt_mk KX G ?b ?a ?l ?c ?k; (case b => exact fun _ _ _ _ _ _ us hl => match us, hl with | [_, _], _ => rfl); (case a => k_is); (case l => k_is); (case c => k_is); (case k => k_is)))
    (case d_run => (refine' Kb.defAt_mk KX G ?b ?a ?l ?c ?k; (case b => exact fun _ _ _ _ _ _ us hl => match us, hl with | [_, _, _], _ => rfl); (case a => k_is); (case l => k_is); (case c => k_is); (case k => k_is)))
    (case d_word => (refine' Kb.defAt_mk KX G ?b ?a ?l ?c ?k; (case b => exact fun _ _ _ _ _ _ us hl => match us, hl with | [_, _], _ => rfl); (case a => k_is); (case l => k_is); (case c => k_is); (case k => k_is)))
    (case d_int => (refine' Kb.defAt_mk KX G ?b ?a ?l ?c ?k; (case b => exact fun _ _ _ _ _ _ us hl => match us, hl with | [_, _], _ => rfl); (case a => k_is); (case l => k_is); (case c => k_is); (case k => k_is)))
    (case d_txt => (refine' Kb.defAt_mk KX G ?b ?a ?l ?c ?k; (case b => exact fun _ _ _ _ _ _ us hl => match us, hl with | [_, _], _ => rfl); (case a => k_is); (case l => k_is); (case c => k_is); (case k => k_is)))
    (case d_par => (refine' Kb.defAt_mk KX G ?b ?a ?l ?c ?k; (case b => exact fun _ _ _ _ _ _ us hl => match us, hl with | [_, _], _ => rfl); (case a => k_is); (case l => k_is); (case c => k_is); (case k => k_is)))
    (case d_sgn => (refine' Kb.defAt_mk KX G ?b ?a ?l ?c ?k; (case b => exact fun _ _ _ _ _ _ us hl => match us, hl with | [_, _], _ => rfl); (case a => k_is); (case l => k_is); (case c => k_is); (case k => k_is)))
    (case d_tka => (refine' Kb.defAt_mk KX G ?b ?a ?l ?c ?k; (case b => exact fun _ _ _ _ _ _ us hl => match us, hl with | [_, _], _ => rfl); (case a => k_is); (case l => k_is); (case c => k_is); (case k => k_is)))
    (case d_tkz => (refine' Kb.defAt_mk KX G ?b ?a ?l ?c ?k; (case b => exact fun _ _ _ _ _ _ us hl => match us, hl with | [_], _ => rfl); (case a => k_is); (case l => k_is); (case c => k_is); (case k => k_is)))
    (case d_wtk => (refine' Kb.defAt_mk KX G ?b ?a ?l ?c ?k; (case b => exact fun _ _ _ _ _ _ us hl => match us, hl with | [_], _ => rfl); (case a => k_is); (case l => k_is); (case c => k_is); (case k => k_is)))
    (case d_kws => (refine' Kb.defAt_mk KX G ?b ?a ?l ?c ?k; (case b => exact fun _ _ _ _ _ _ us hl => match us, hl with | [], _ => rfl); (case a => k_is); (case l => k_is); (case c => k_is); (case k => k_is)))
    (case d_name => (refine' Kb.defAt_mk KX G ?b ?a ?l ?c ?k; (case b => exact fun _ _ _ _ _ _ us hl => match us, hl with | [_], _ => rfl); (case a => k_is); (case l => k_is); (case c => k_is); (case k => k_is)))
    (case d_sgs => (refine' Kb.defAt_mk KX G ?b ?a ?l ?c ?k; (case b => exact fun _ _ _ _ _ _ us hl => match us, hl with | [], _ => rfl); (case a => k_is); (case l => k_is); (case c => k_is); (case k => k_is)))
    (case d_dig => (refine' Kb.defAt_mk KX G ?b ?a ?l ?c ?k; (case b => exact fun _ _ _ _ _ _ us hl => match us, hl with | [_, _], _ => rfl); (case a => k_is); (case l => k_is); (case c => k_is); (case k => k_is)))
    (case d_lng => (refine' Kb.defAt_mk KX G ?b ?a ?l ?c ?k; (case b => exact fun _ _ _ _ _ _ us hl => match us, hl with | [_, _], _ => rfl); (case a => k_is); (case l => k_is); (case c => k_is); (case k => k_is)))
    (case d_qtd => (refine' Kb.defAt_mk KX G ?b ?a ?l ?c ?k; (case b => exact fun _ _ _ _ _ _ us hl => match us, hl with | [_], _ => rfl); (case a => k_is); (case l => k_is); (case c => k_is); (case k => k_is)))
    (case d_tok => (refine' Kb.defAt_mk KX G ?b ?a ?l ?c ?k; (case b => exact fun _ _ _ _ _ _ us hl => match us, hl with | [_], _ => rfl); (case a => k_is); (case l => k_is); (case c => k_is); (case k => k_is)))
    (case d_jn => (refine' Kb.defAt_mk KX G ?b ?a ?l ?c ?k; (case b => exact fun _ _ _ _ _ _ us hl => match us, hl with | [_, _], _ => rfl); (case a => k_is); (case l => k_is); (case c => k_is); (case k => k_is)))
    (case d_gap => (refine' Kb.defAt_mk KX G ?b ?a ?l ?c ?k; (case b => exact fun _ _ _ _ _ _ us hl => match us, hl with | [_, _], _ => rfl); (case a => k_is); (case l => k_is); (case c => k_is); (case k => k_is)))
    (case d_str => (refine' Kb.defAt_mk KX G ?b ?a ?l ?c ?k; (case b => exact fun _ _ _ _ _ _ us hl => match us, hl with | [_], _ => rfl); (case a => k_is); (case l => k_is); (case c => k_is); (case k => k_is)))
    (case d_read => (refine' Kb.defAt_mk KX G ?b ?a ?l ?c ?k; (case b => exact fun _ _ _ _ _ _ us hl => match us, hl with | [_], _ => rfl); (case a => k_is); (case l => k_is); (case c => k_is); (case k => k_is)))
    (case z1 => k_is)
    (case z2 => k_is)
    (case z3 => k_is)
    (case z4 => k_is)
    (case z5 => k_is)
    (case z6 => k_is)
    (case z7 => k_is)
    (case z8 => k_is)
    (case q1 => k_is)
    (case q2 => k_is)
    (case q3 => k_is)
    (case q4 => k_is)
    (case q5 => k_is)
    (case q6 => k_is)
    (case q7 => k_is)
    (case gK => k_is)
    (case gL => k_is)
    (case lK => k_is)
    (case lL => k_is)
    (case vK => kernel_rfl)
    (case vL => kernel_rfl)
    (case aC => k_is)
    (case aQ => k_is)
    (case aB => k_is)
    (case lC => k_is)
    (case rC => kernel_rfl)
    (case saC => k_is)
    (case bC => k_is)
    (case tC => k_is)
    (case kC => k_is)
    (case hg => k_is)
    (case hk => k_is)
    (case hdC => k_is)
    (case ha => k_is)
    (case hn => k_is)
    (case ht => k_is)
    (case hm => k_is)
    (case noC => k_is)
    (case ini => (refine' Law.rini_mk ?b ?a ?ty ?l ?c ?k; (case b => exact fun _ _ _ _ _ _ us hl => match us, hl with | [_, _], _ => rfl); (case a => k_is); (case ty => k_is); (case l => k_is); (case c => k_is); (case k => k_is)))
    (case iC => k_is)
    (case iQ => k_is)
    (case iB => k_is)
    (case tQ => k_is)
    (case tB => k_is)
    (case sC => k_is)
    (case sQ => k_is)
    (case sB => k_is)
    (case nQ => exact rfl)
    (case nB => exact rfl)
    (case al => k_is)
    (case ll => k_is)
    (case cl => k_is)
    (case kl => k_is)

