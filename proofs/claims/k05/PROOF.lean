import PyProof.Rows.All
import Wide.All
import OpenK.AllK
import Wide.FinOn
import HandS.ForMost
import HandS.ForExc
import HandS.Wide
import HandS.IsInst
import HandS.EndBits
import HandS.SortKw
import HandS.Flow
import HandS.AnyAll
import KE.SortKeyed
import KE.SortData
import HandS.EndTab
import HandS.GenOver
import HandS.Comp
import KE.KNest
import HandS.Zip
import HandS.Style
import HandS.Text
import KE.DataCmp
import HandS.TupAny
import HandS.More
import HandS.RaiseMore
import HandS.ExcIs
import HandS.TryOnly
import HandS.FStr
import HandS.Iter
import HandS.ExcInit
import HandS.ExcField
import KE.KExcIs
import PyProof.DelItemList
import HandS.IterVal
import HandS.Strs
import HandS.ReplaceList
import HandS.StrMore
import HandS.Conv
import HandS.SortOrd
import HandS.Deep
import PySem.Challenge.RW_kithbase_k05_capabilities_form_a_tree
set_option Elab.async false
set_option linter.all false
set_option maxRecDepth 100000
set_option maxHeartbeats 4000000
namespace Kb
open PySem PySem.Spec PyProof.Rows L2
/-! defs of the text: where they stand, what they promise -/
/-- a def of the top: found by its name, with so many plain parameters -/
structure DefAt (K : PySem.W.Frag) (mg : Str → Option Value) (x : Str) (st : Stmt) (ps : List Str) : Prop where
  ex : ∃ f fd, Fun K x x st f fd ∧ mg x = some (.ref f) ∧ Binds K fd ps []
/-- a def of the top that keeps a promise -/
structure HasF (P : Program) (w : World) (K : PySem.W.Frag) (mg : Str → Option Value) (base : Heap) (CX : CXT) (k : Nat) (x : Str) (ps : List Str) (sp : Sp) : Prop where
  ex : ∃ f fd, FnOk P w K mg base CX k f fd ps sp ∧ mg x = some (.ref f) ∧ PySem.W.keepIn K (.ref f) = true ∧ Binds K fd ps []
section
variable {P : Program} {w : World} {K : PySem.W.Frag} {mg : Str → Option Value} {base : Heap} {x : Str} {st : Stmt} {N ps : List Str} {k : Nat} {sp : Sp}
theorem DefAt.ok (A : DefAt K mg x st ps) (S : FnScope N ps (defScope st)) (len : ∀ vs H Q E, sp vs H Q E → vs.length = ps.length)
    (hbody : ∀ (f : Addr) (cdv : Value) (A : Around) (outer : List Env) (s : Shared) (H : Hp) (vs : List V) (Q : VK) (E : XK), Room k (A.deeper (envOfC x (defScope st) s.heap.objs.size f cdv)) → sp vs H Q E →
      ∃ t, PSs (cxOf CX0 P w K mg base N x (defScope st) f cdv A outer s H E).nox (defBody st) t ∧ t { nx := fun _ H' => Q .non H', rt := Q } (start N vs) H) : HasF P w K mg base CX0 (k + 1) x ps sp := by
  obtain ⟨f, fd, F, hm, hb⟩ := A.ex
  exact ⟨f, fd, F.ok S len (fun cdv A outer s H vs Q E hr h => hbody f cdv A outer s H vs Q E hr h), hm, F.kp, hb⟩
end
section
variable {X : Cx} {CX : CXT} {k : Nat} {x : Str} {ps : List Str} {sp : Sp} {E : XK} {p pos : Pos} {e : Expr} {es : List Expr} {t : TA}
theorem HasF.call (h : HasF X.prog X.w X.K X.mg X.base CX k x ps sp) (hr : Room k X.A) (hg : Gl X x) (hx : Passes CX X E)
    (ha : PA X (e :: es) t) (hdb : (x == ("__debug__" : Str)) = false := by decide) (he : starEach (e :: es) X.env = (false, eval e X.env) :: starEach es X.env := by rfl) (hpl : (backTo pos (starEach es X.env)).any (·.1) = false := by rfl) :
    PE X (.Call (.Name x p) (e :: es) [] pos) (tCall sp [] E t) := by
  obtain ⟨f, fd, F, hm, hk, hb⟩ := h.ex
  exact pe_call F hr hg hm hk hb .nil hx ha hdb he hpl
end
/-! universal operators -/
def CMulX (i j : Int) : Prop := i.natAbs.log2 + j.natAbs.log2 < 100000000
theorem CMulX.ok {i j : Int} (h : CMulX i j) : IntMulOk i j := by
  have bit : ∀ x : Int, Builtin.Int.intBits x ≤ x.natAbs.log2 + 1 := fun x => by
    unfold Builtin.Int.intBits
    split <;> omega
  have g1 := bit i
  have g2 := bit j
  have g3 : i.natAbs.log2 + j.natAbs.log2 < 100000000 := h
  have big : bitsLine = 134217728 := by decide
  intro c
  obtain ⟨_, c2⟩ := Bool.and_eq_true_iff.mp c
  unfold Builtin.Int.intTooBig at c2
  have c3 := of_decide_eq_true c2
  rw [big] at c3
  omega
section
variable {X : Cx}
theorem op_mulX : OpR X (binaryOp .Mult) (rI CMulX fun i j => .int (i * j)) := opI fun _ _ _ _ _ _ _ hc q => mul_int q hc.ok
end
end Kb

/-! A logic over plain data: values D (tuples, lists, instances that no longer change stand inline; what a def still changes is owned, by number). -/
namespace Kb
open PySem PySem.Spec PyProof.Rows L2
/-- data that stay as they are -/
inductive P where
  | non | bl (b : Bool) | int (i : Int) | str (s : Str) | tup (xs : List P) | ktp (xs : List P) | lst (xs : List P) | ins (C : Addr) (fs : List (Str × P)) | ty (n : String) | cls (C : Addr)
/-- a datum, or what is owned, by its number -/
inductive D where
  | p (x : P) | own (i : Nat)
abbrev dN : D := .p .non
abbrev dB (b : Bool) : D := .p (.bl b)
abbrev dI (i : Int) : D := .p (.int i)
abbrev dS (s : Str) : D := .p (.str s)
abbrev dT (xs : List P) : D := .p (.tup xs)
abbrev dL (xs : List P) : D := .p (.lst xs)
/-- what is owned -/
inductive OO where
  | lst (xs : List D) | ins (C : Addr) (fs : List (Str × D)) | dK (kvs : List (Key × D)) | dT (kvs : List (List Key × D))
abbrev Hs := List (Option OO)
abbrev Env' := List (Option D)
/-- a tuple that stands there -/
def SqU (_ : PySem.W.Frag) (F : Hp) (a : Addr) (vs : List V) : Prop := F a = some (.tup vs)
theorem SqU.of {K : PySem.W.Frag} {F : Hp} {a : Addr} {vs : List V} (h : F a = some (.tup vs)) : SqU K F a vs := h
section
variable (K : PySem.W.Frag)
mutual
inductive RP (F : Hp) : P → V → Prop
  | non : RP F .non .non
  | bl (b : Bool) : RP F (.bl b) (.bl b)
  | int (i : Int) : RP F (.int i) (.int i)
  | str (s : Str) : RP F (.str s) (.str s)
  | tup {a : Addr} {xs : List P} {vs : List V} : SqU K F a vs → RPs F xs vs → RP F (.tup xs) (.ref a)
  | ktp {a : Addr} {xs : List P} {vs : List V} : (∀ H, SqT K H a vs) → RPs F xs vs → RP F (.ktp xs) (.ref a)
  | lst {a : Addr} {xs : List P} {vs : List V} : SqL K F a vs → RPs F xs vs → RP F (.lst xs) (.ref a)
  | ins {a C dx : Addr} {fs : List (Str × P)} {gs : List (Str × V)} : F a = some (.ins C dx gs) → RPf F fs gs → RP F (.ins C fs) (.ref a)
  | ty (n : String) : RP F (.ty n) (.ty n)
  | cls (C : Addr) : RP F (.cls C) (.ref C)
inductive RPs (F : Hp) : List P → List V → Prop
  | nil : RPs F [] []
  | cons {d : P} {v : V} {ds : List P} {vs : List V} : RP F d v → RPs F ds vs → RPs F (d :: ds) (v :: vs)
inductive RPf (F : Hp) : List (Str × P) → List (Str × V) → Prop
  | nil : RPf F [] []
  | cons {f : Str} {d : P} {v : V} {ds : List (Str × P)} {vs : List (Str × V)} : RP F d v → RPf F ds vs → RPf F ((f, d) :: ds) ((f, v) :: vs)
end
inductive RD (F : Hp) (ρ : List Addr) : D → V → Prop
  | p {x : P} {v : V} : RP K F x v → RD F ρ (.p x) v
  | own {a : Addr} {i : Nat} : ρ[i]? = some a → RD F ρ (.own i) (.ref a)
inductive RA (F : Hp) (ρ : List Addr) : List D → List V → Prop
  | nil : RA F ρ [] []
  | cons {d : D} {v : V} {ds : List D} {vs : List V} : RD K F ρ d v → RA F ρ ds vs → RA F ρ (d :: ds) (v :: vs)
inductive RK {κ : Type} (F : Hp) (ρ : List Addr) : List (κ × D) → List (κ × V) → Prop
  | nil : RK F ρ [] []
  | cons {f : κ} {d : D} {v : V} {ds : List (κ × D)} {vs : List (κ × V)} : RD K F ρ d v → RK F ρ ds vs → RK F ρ ((f, d) :: ds) ((f, v) :: vs)
inductive RF (F : Hp) (ρ : List Addr) : List (Str × D) → List (Str × V) → Prop
  | nil : RF F ρ [] []
  | cons {f : Str} {d : D} {v : V} {ds : List (Str × D)} {vs : List (Str × V)} : RD K F ρ d v → RF F ρ ds vs → RF F ρ ((f, d) :: ds) ((f, v) :: vs)
end
/-- what is raised: its class, and its fields if it has some that count -/
structure Exn where
  cls : Addr
  fs : Option (List (Str × P))
/-- what a text runs in: tables, the wish, the errors that may be raised -/
structure Ctx where
  tabs : List Addr
  wish : L2.St → XK
  ex : Exn → Env' → Hs → Prop
  fl : Hp := fun _ => none
/-- nothing is raised -/
abbrev Ctx.plain (T : List Addr) : Ctx := ⟨T, fun _ _ _ _ => False, fun _ _ _ => False, fun _ => none⟩
/-- what a def is to raise -/
abbrev Ctx.dfn (T : List Addr) (E : XK) (RX : Exn → Hs → Prop) : Ctx := ⟨T, fun _ => E, fun X _ h => RX X h, fun _ => none⟩
instance : Coe (List Addr) Ctx := ⟨Ctx.plain⟩
section
variable {K : PySem.W.Frag} {Θ : Ctx} {T : List Addr}
theorem sqU_mono {F F' : Hp} (e : Same F F') {a : Addr} {vs : List V} (h : SqU K F a vs) : SqU K F' a vs := e _ _ h
theorem sqT_mono {F F' : Hp} (e : Same F F') {a : Addr} {vs : List V} (h : SqU K F a vs) : SqT K F' a vs := .of (e _ _ h)
/-- numbers keep their addresses -/
def Pre (ρ ρ' : List Addr) : Prop := ∀ (i : Nat) (a : Addr), ρ[i]? = some a → ρ'[i]? = some a
theorem Pre.refl (ρ : List Addr) : Pre ρ ρ := fun _ _ h => h
theorem Pre.trans {a b c : List Addr} (x : Pre a b) (y : Pre b c) : Pre a c := fun i p h => y i p (x i p h)
theorem Pre.push (ρ : List Addr) (p : Addr) : Pre ρ (ρ ++ [p]) := fun i a h => by
  have hl : i < ρ.length := (List.getElem?_eq_some_iff.mp h).1
  rw [List.getElem?_append_left hl]
  exact h
mutual
theorem RP.mono {F F' : Hp} (e : Same F F') : ∀ {d : P} {v : V}, RP K F d v → RP K F' d v
  | _, _, .non => .non
  | _, _, .bl b => .bl b
  | _, _, .int i => .int i
  | _, _, .str s => .str s
  | _, _, .tup h r => .tup (sqU_mono e h) (RPs.mono e r)
  | _, _, .ktp h r => .ktp h (RPs.mono e r)
  | _, _, .lst h r => .lst (e.seq h) (RPs.mono e r)
  | _, _, .ins h r => .ins (e _ _ h) (RPf.mono e r)
  | _, _, .ty n => .ty n
  | _, _, .cls C => .cls C
theorem RPs.mono {F F' : Hp} (e : Same F F') : ∀ {d : List P} {v : List V}, RPs K F d v → RPs K F' d v
  | _, _, .nil => .nil
  | _, _, .cons h r => .cons (RP.mono e h) (RPs.mono e r)
theorem RPf.mono {F F' : Hp} (e : Same F F') : ∀ {d : List (Str × P)} {v : List (Str × V)}, RPf K F d v → RPf K F' d v
  | _, _, .nil => .nil
  | _, _, .cons h r => .cons (RP.mono e h) (RPf.mono e r)
end
theorem RD.mono {F F' : Hp} {ρ ρ' : List Addr} (e : Same F F') (p : Pre ρ ρ') {d : D} {v : V} (h : RD K F ρ d v) : RD K F' ρ' d v := by
  cases h with
  | p h => exact .p (h.mono e)
  | own h => exact .own (p _ _ h)
theorem RA.mono {F F' : Hp} {ρ ρ' : List Addr} (e : Same F F') (p : Pre ρ ρ') {d : List D} {v : List V} (h : RA K F ρ d v) : RA K F' ρ' d v := by
  induction h with
  | nil => exact .nil
  | cons h _ ih => exact .cons (h.mono e p) ih
theorem RF.mono {F F' : Hp} {ρ ρ' : List Addr} (e : Same F F') (p : Pre ρ ρ') {d : List (Str × D)} {v : List (Str × V)} (h : RF K F ρ d v) : RF K F' ρ' d v := by
  induction h with
  | nil => exact .nil
  | cons h _ ih => exact .cons (h.mono e p) ih
theorem RK.mono {κ : Type} {F F' : Hp} {ρ ρ' : List Addr} (e : Same F F') (p : Pre ρ ρ') {d : List (κ × D)} {v : List (κ × V)} (h : RK K F ρ d v) : RK K F' ρ' d v := by
  induction h with
  | nil => exact .nil
  | cons h _ ih => exact .cons (h.mono e p) ih
theorem RA.len {F : Hp} {ρ : List Addr} {ds : List D} {vs : List V} (h : RA K F ρ ds vs) : ds.length = vs.length := by
  induction h with
  | nil => rfl
  | cons _ _ ih => exact congrArg (· + 1) ih
theorem RPs.len {F : Hp} : ∀ {ds : List P} {vs : List V}, RPs K F ds vs → ds.length = vs.length
  | _, _, .nil => rfl
  | _, _, .cons _ r => congrArg (· + 1) (RPs.len r)
theorem RA.get {F : Hp} {ρ : List Addr} : ∀ {ds : List D} {vs : List V} {i : Nat} {d : D}, RA K F ρ ds vs → ds[i]? = some d → ∃ v, vs[i]? = some v ∧ RD K F ρ d v
  | _, _, _, _, .nil, h => by simp at h
  | _, _, 0, _, .cons q r, h => by
    cases Option.some.inj h
    exact ⟨_, rfl, q⟩
  | _, _, i + 1, d, .cons q r, h => by
    obtain ⟨v, h1, h2⟩ := RA.get (i := i) (d := d) r (by simpa using h)
    exact ⟨v, by simpa using h1, h2⟩
theorem RPs.get {F : Hp} : ∀ {ds : List P} {vs : List V} {i : Nat} {d : P}, RPs K F ds vs → ds[i]? = some d → ∃ v, vs[i]? = some v ∧ RP K F d v
  | _, _, _, _, .nil, h => by simp at h
  | _, _, 0, _, .cons q r, h => by
    cases Option.some.inj h
    exact ⟨_, rfl, q⟩
  | _, _, i + 1, d, .cons q r, h => by
    obtain ⟨v, h1, h2⟩ := RPs.get (i := i) (d := d) r (by simpa using h)
    exact ⟨v, by simpa using h1, h2⟩
theorem RA.append {F : Hp} {ρ : List Addr} : ∀ {ds es : List D} {vs us : List V}, RA K F ρ ds vs → RA K F ρ es us → RA K F ρ (ds ++ es) (vs ++ us)
  | _, _, _, _, .nil, s => s
  | _, _, _, _, .cons q r, s => .cons q (RA.append r s)
theorem RPs.append {F : Hp} : ∀ {ds es : List P} {vs us : List V}, RPs K F ds vs → RPs K F es us → RPs K F (ds ++ es) (vs ++ us)
  | _, _, _, _, .nil, s => s
  | _, _, _, _, .cons q r, s => .cons q (RPs.append r s)
theorem RA.set {F : Hp} {ρ : List Addr} {d : D} {v : V} (q : RD K F ρ d v) : ∀ {ds : List D} {vs : List V} (i : Nat), RA K F ρ ds vs → RA K F ρ (ds.set i d) (vs.set i v)
  | _, _, _, .nil => .nil
  | _, _, 0, .cons _ r => .cons q r
  | _, _, i + 1, .cons p r => .cons p (RA.set q i r)
theorem RPs.take {F : Hp} : ∀ {ds : List P} {vs : List V} (i : Nat), RPs K F ds vs → RPs K F (ds.take i) (vs.take i)
  | _, _, 0, _ => .nil
  | _, _, _ + 1, .nil => .nil
  | _, _, i + 1, .cons p r => .cons p (RPs.take i r)
theorem RPs.drop {F : Hp} : ∀ {ds : List P} {vs : List V} (i : Nat), RPs K F ds vs → RPs K F (ds.drop i) (vs.drop i)
  | _, _, 0, r => r
  | _, _, _ + 1, .nil => .nil
  | _, _, i + 1, .cons p r => RPs.drop i r
theorem RA.take {F : Hp} {ρ : List Addr} : ∀ {ds : List D} {vs : List V} (i : Nat), RA K F ρ ds vs → RA K F ρ (ds.take i) (vs.take i)
  | _, _, 0, _ => .nil
  | _, _, _ + 1, .nil => .nil
  | _, _, i + 1, .cons p r => .cons p (RA.take i r)
theorem RA.drop {F : Hp} {ρ : List Addr} : ∀ {ds : List D} {vs : List V} (i : Nat), RA K F ρ ds vs → RA K F ρ (ds.drop i) (vs.drop i)
  | _, _, 0, r => r
  | _, _, _ + 1, .nil => .nil
  | _, _, i + 1, .cons p r => RA.drop i r
theorem RA.pure {F : Hp} {ρ : List Addr} : ∀ {ps : List P} {vs : List V}, RA K F ρ (ps.map D.p) vs → RPs K F ps vs
  | [], _, .nil => .nil
  | _ :: _, _, .cons (.p q) r => .cons q (RA.pure r)
theorem RPs.data {F : Hp} {ρ : List Addr} : ∀ {ps : List P} {vs : List V}, RPs K F ps vs → RA K F ρ (ps.map D.p) vs
  | [], _, .nil => .nil
  | _ :: _, _, .cons q r => .cons (.p q) (RPs.data r)
theorem RPs.ints {F : Hp} : ∀ {ns : List Int} {vs : List V}, RPs K F (ns.map P.int) vs → vs = ns.map V.int
  | [], _, .nil => rfl
  | n :: ns, _, .cons (.int _) r => by
    rw [RPs.ints r]
    rfl
theorem RPs.of_ints {F : Hp} : ∀ (ns : List Int), RPs K F (ns.map P.int) (ns.map V.int)
  | [] => .nil
  | n :: ns => .cons (.int n) (RPs.of_ints ns)
theorem RF.look {F : Hp} {ρ : List Addr} {f : Str} : ∀ {ds : List (Str × D)} {vs : List (Str × V)} {d : D}, RF K F ρ ds vs → ds.lookup f = some d → ∃ v, vs.lookup f = some v ∧ RD K F ρ d v
  | _, _, _, .nil, h => by simp at h
  | _, _, d', .cons (f := g) q r, h => by
    by_cases e : f = g
    · subst e
      simp only [List.lookup, beq_self_eq_true] at h ⊢
      cases h
      exact ⟨_, rfl, q⟩
    · have e' : (f == g) = false := by simpa using e
      simp only [List.lookup, e'] at h ⊢
      exact RF.look r h
theorem RF.lookN {F : Hp} {ρ : List Addr} {f : Str} : ∀ {ds : List (Str × D)} {vs : List (Str × V)}, RF K F ρ ds vs → ds.lookup f = none → vs.lookup f = none
  | _, _, .nil, h => rfl
  | _, _, .cons (f := g) q r, h => by
    by_cases e : f = g
    · subst e
      simp [List.lookup] at h
    · have e' : (f == g) = false := by simpa using e
      simp only [List.lookup, e'] at h ⊢
      exact RF.lookN r h
theorem RPf.data {F : Hp} {ρ : List Addr} : ∀ {fs : List (Str × P)} {vs : List (Str × V)}, RPf K F fs vs → RF K F ρ (fs.map fun q => (q.1, D.p q.2)) vs
  | _, _, .nil => .nil
  | _, _, .cons q r => .cons (.p q) (RPf.data r)
theorem RF.pure {F : Hp} {ρ : List Addr} : ∀ {fs : List (Str × P)} {vs : List (Str × V)}, RF K F ρ (fs.map fun q => (q.1, D.p q.2)) vs → RPf K F fs vs
  | [], _, .nil => .nil
  | (_, _) :: _, _, .cons (.p q) r => .cons q (RF.pure r)
theorem RF.len {F : Hp} {ρ : List Addr} {ds : List (Str × D)} {vs : List (Str × V)} (h : RF K F ρ ds vs) : ds.length = vs.length := by
  induction h with
  | nil => rfl
  | cons _ _ ih => exact congrArg (· + 1) ih
def putD (f : Str) (d : D) : List (Str × D) → List (Str × D)
  | [] => [(f, d)]
  | p :: r => if p.1 = f then (f, d) :: r else p :: putD f d r
theorem RF.put {F : Hp} {ρ : List Addr} {f : Str} {d : D} {v : V} (q : RD K F ρ d v) : ∀ {ds : List (Str × D)} {vs : List (Str × V)}, RF K F ρ ds vs → RF K F ρ (putD f d ds) (putF f v vs)
  | _, _, .nil => .cons q .nil
  | _, _, .cons (f := g) p r => by
    by_cases e : g = f
    · subst e
      simp only [putD, putF, if_true]
      exact .cons q r
    · simp only [putD, putF, if_neg e]
      exact .cons p (RF.put q r)
/-- an owned thing and what stands there -/
def RO (K : PySem.W.Frag) (F : Hp) (ρ : List Addr) : OO → HO → Prop
  | .lst xs, o => ∃ vs, o = .lst vs ∧ RA K F ρ xs vs
  | .ins C fs, o => ∃ dx gs, o = .ins C dx gs ∧ RF K F ρ fs gs
  | .dK kvs, o => ∃ gs, o = .dK gs ∧ RK K F ρ kvs gs
  | .dT kvs, o => ∃ gs, o = .dT gs ∧ RK K F ρ kvs gs
theorem RO.mono {F F' : Hp} {ρ ρ' : List Addr} (e : Same F F') (p : Pre ρ ρ') : ∀ {o : OO} {u : HO}, RO K F ρ o u → RO K F' ρ' o u
  | .lst _, _, ⟨vs, h, r⟩ => ⟨vs, h, r.mono e p⟩
  | .ins _ _, _, ⟨dx, gs, h, r⟩ => ⟨dx, gs, h, r.mono e p⟩
  | .dK _, _, ⟨gs, h, r⟩ => ⟨gs, h, r.mono e p⟩
  | .dT _, _, ⟨gs, h, r⟩ => ⟨gs, h, r.mono e p⟩
/-- the heap H: frozen things F, owned things h at ρ -/
structure Base (K : PySem.W.Frag) (T : List Addr) (F : Hp) (ρ : List Addr) (h : Hs) (H : Hp) : Prop where
  same : Same F H
  len : ρ.length = h.length
  own : ∀ (i : Nat) (o : OO), h[i]? = some (some o) → ∃ a u, ρ[i]? = some a ∧ F a = none ∧ H a = some u ∧ RO K F ρ o u
  inj : ∀ (i j : Nat) (o u : OO) (a : Addr), h[i]? = some (some o) → h[j]? = some (some u) → ρ[i]? = some a → ρ[j]? = some a → i = j
  tab : ∀ P ∈ T, F P = none ∧ GxR.TabG H P
/-- the error's fields -/
def XnAt (K : PySem.W.Frag) (F : Hp) (X : Exn) (d : Option Addr) : Prop := match X.fs with
  | none => d = none
  | some fs => ∃ a gs, d = some a ∧ F a = some (.xd gs) ∧ RPf K F fs gs
theorem XnAt.mono {F F' : Hp} (e : Same F F') {X : Exn} {d : Option Addr} (h : XnAt K F X d) : XnAt K F' X d := by
  obtain ⟨c, fs⟩ := X
  cases fs with
  | none => exact h
  | some fs =>
    obtain ⟨a, gs, h1, h2, h3⟩ := h
    exact ⟨a, gs, h1, e _ _ h2, h3.mono e⟩
structure REnv (K : PySem.W.Frag) (F : Hp) (ρ : List Addr) (env : Env') (σ : L2.St) : Prop where
  len : env.length = σ.length
  get : ∀ (i : Nat) (d : D), env[i]? = some (some d) → ∃ v, σ[i]? = some (some v) ∧ RD K F ρ d v
theorem REnv.mono {F F' : Hp} {ρ ρ' : List Addr} {env : Env'} {σ : L2.St} (e : Same F F') (p : Pre ρ ρ') (r : REnv K F ρ env σ) : REnv K F' ρ' env σ :=
  ⟨r.len, fun i d h => let ⟨v, h1, h2⟩ := r.get i d h; ⟨v, h1, h2.mono e p⟩⟩
theorem REnv.set {F : Hp} {ρ : List Addr} {env : Env'} {σ : L2.St} {i : Nat} {d : D} {v : V} (r : REnv K F ρ env σ) (q : RD K F ρ d v) : REnv K F ρ (env.set i (some d)) (σ.set i (some v)) := by
  refine ⟨by rw [List.length_set, List.length_set]; exact r.len, fun j e h => ?_⟩
  by_cases hj : i = j
  · subst hj
    have hl : i < env.length := by
      have := (List.getElem?_eq_some_iff.mp h).1
      rwa [List.length_set] at this
    rw [List.getElem?_set_self hl] at h
    cases h
    exact ⟨v, by rw [List.getElem?_set_self (by rw [← r.len]; exact hl)], q⟩
  · rw [List.getElem?_set_ne hj] at h ⊢
    exact r.get j e h
theorem REnv.wipe {F : Hp} {ρ : List Addr} {env : Env'} {σ : L2.St} {i : Nat} (r : REnv K F ρ env σ) : REnv K F ρ (env.set i none) (σ.set i none) := by
  refine ⟨by rw [List.length_set, List.length_set]; exact r.len, fun j e h => ?_⟩
  by_cases hj : i = j
  · subst hj
    have hl : i < env.length := by
      have := (List.getElem?_eq_some_iff.mp h).1
      rwa [List.length_set] at this
    rw [List.getElem?_set_self hl] at h
    cases h
  · rw [List.getElem?_set_ne hj] at h ⊢
    exact r.get j e h
/-- from here on these errors keep the wish -/
structure Wish (K : PySem.W.Frag) (Θ : Ctx) (F : Hp) (ρ : List Addr) : Prop where
  run : ∀ (X : Exn) (d : Option Addr) (env : Env') (h' : Hs) (F' : Hp) (ρ' : List Addr) (σ : L2.St) (H' : Hp), Same F F' → Pre ρ ρ' → Base K Θ.tabs F' ρ' h' H' → REnv K F' ρ' env σ → XnAt K F' X d → Θ.ex X env h' → Θ.wish σ (.ref X.cls) d H'
  floor : Same Θ.fl F
theorem Wish.mono {F F' : Hp} {ρ ρ' : List Addr} (w : Wish K Θ F ρ) (s : Same F F') (p : Pre ρ ρ') : Wish K Θ F' ρ' := ⟨fun X d env h' F2 ρ2 σ H' s2 p2 => w.run X d env h' F2 ρ2 σ H' (s.trans s2) (p.trans p2), w.floor.trans s⟩
theorem Wish.plain {F : Hp} {ρ : List Addr} : Wish K (Ctx.plain T) F ρ := ⟨fun _ _ _ _ _ _ _ _ _ _ _ _ _ z => z.elim, fun _ _ z => by cases z⟩
structure Rel (K : PySem.W.Frag) (Θ : Ctx) (F : Hp) (ρ : List Addr) (h : Hs) (H : Hp) : Prop extends Base K Θ.tabs F ρ h H where
  wish : Wish K Θ F ρ
theorem Base.plain {F : Hp} {ρ : List Addr} {h : Hs} {H : Hp} (r : Base K T F ρ h H) : Rel K (Ctx.plain T) F ρ h H := ⟨r, .plain⟩
/-! ### the judgements -/
def VE (K : PySem.W.Frag) (Θ : Ctx) (te : TE) (env : Env') (h : Hs) (R : D → Hs → Prop) : Prop :=
  ∀ (F : Hp) (ρ : List Addr) (σ : L2.St) (H : Hp) (Q : VK), Rel K Θ F ρ h H → REnv K F ρ env σ →
    (∀ (d : D) (h' : Hs) (v : V) (F' : Hp) (ρ' : List Addr) (H' : Hp), Same F F' → Pre ρ ρ' → Rel K Θ F' ρ' h' H' → RD K F' ρ' d v → R d h' → Q v H') → te σ H Q
def VA (K : PySem.W.Frag) (Θ : Ctx) (ta : TA) (env : Env') (h : Hs) (R : List D → Hs → Prop) : Prop :=
  ∀ (F : Hp) (ρ : List Addr) (σ : L2.St) (H : Hp) (Q : List V → Hp → Prop), Rel K Θ F ρ h H → REnv K F ρ env σ →
    (∀ (d : List D) (h' : Hs) (v : List V) (F' : Hp) (ρ' : List Addr) (H' : Hp), Same F F' → Pre ρ ρ' → Rel K Θ F' ρ' h' H' → RA K F' ρ' d v → R d h' → Q v H') → ta σ H Q
def VT (K : PySem.W.Frag) (Θ : Ctx) (tt : TT) (env : Env') (h : Hs) (R : Bool → Hs → Prop) : Prop :=
  ∀ (F : Hp) (ρ : List Addr) (σ : L2.St) (H : Hp) (Q : Bool → Hp → Prop), Rel K Θ F ρ h H → REnv K F ρ env σ →
    (∀ (b : Bool) (h' : Hs) (F' : Hp) (ρ' : List Addr) (H' : Hp), Same F F' → Pre ρ ρ' → Rel K Θ F' ρ' h' H' → R b h' → Q b H') → tt σ H Q
/-- an operation upon values -/
def V2 (K : PySem.W.Frag) (Θ : Ctx) (r : R2) (x y : D) (h : Hs) (R : D → Hs → Prop) : Prop :=
  ∀ (F : Hp) (ρ : List Addr) (H : Hp) (vx vy : V) (Q : VK), Rel K Θ F ρ h H → RD K F ρ x vx → RD K F ρ y vy →
    (∀ (d : D) (h' : Hs) (v : V) (F' : Hp) (ρ' : List Addr) (H' : Hp), Same F F' → Pre ρ ρ' → Rel K Θ F' ρ' h' H' → RD K F' ρ' d v → R d h' → Q v H') → r vx vy H Q
def V1 (K : PySem.W.Frag) (Θ : Ctx) (r : V → Hp → VK → Prop) (x : D) (h : Hs) (R : D → Hs → Prop) : Prop :=
  ∀ (F : Hp) (ρ : List Addr) (H : Hp) (vx : V) (Q : VK), Rel K Θ F ρ h H → RD K F ρ x vx →
    (∀ (d : D) (h' : Hs) (v : V) (F' : Hp) (ρ' : List Addr) (H' : Hp), Same F F' → Pre ρ ρ' → Rel K Θ F' ρ' h' H' → RD K F' ρ' d v → R d h' → Q v H') → r vx H Q
/-- a call upon values -/
def VC (K : PySem.W.Frag) (Θ : Ctx) (r : List V → Hp → VK → Prop) (xs : List D) (h : Hs) (R : D → Hs → Prop) : Prop :=
  ∀ (F : Hp) (ρ : List Addr) (H : Hp) (vs : List V) (Q : VK), Rel K Θ F ρ h H → RA K F ρ xs vs →
    (∀ (d : D) (h' : Hs) (v : V) (F' : Hp) (ρ' : List Addr) (H' : Hp), Same F F' → Pre ρ ρ' → Rel K Θ F' ρ' h' H' → RD K F' ρ' d v → R d h' → Q v H') → r vs H Q
/-- a method upon values -/
def VM (K : PySem.W.Frag) (Θ : Ctx) (r : V → List V → Hp → VK → Prop) (x : D) (xs : List D) (h : Hs) (R : D → Hs → Prop) : Prop :=
  ∀ (F : Hp) (ρ : List Addr) (H : Hp) (vx : V) (vs : List V) (Q : VK), Rel K Θ F ρ h H → RD K F ρ x vx → RA K F ρ xs vs →
    (∀ (d : D) (h' : Hs) (v : V) (F' : Hp) (ρ' : List Addr) (H' : Hp), Same F F' → Pre ρ ρ' → Rel K Θ F' ρ' h' H' → RD K F' ρ' d v → R d h' → Q v H') → r vx vs H Q
structure En where
  nx : Env' → Hs → Prop
  rt : D → Hs → Prop
  bk : Env' → Hs → Prop := fun _ _ => False
  ct : Env' → Hs → Prop := fun _ _ => False
/-- what the reading's ends owe to the data's -/
structure EnOk (K : PySem.W.Frag) (Θ : Ctx) (F : Hp) (ρ : List Addr) (E : En) (D' : Ends) : Prop where
  nx : ∀ (env : Env') (h : Hs) (F' : Hp) (ρ' : List Addr) (σ : L2.St) (H : Hp), Same F F' → Pre ρ ρ' → Rel K Θ F' ρ' h H → REnv K F' ρ' env σ → E.nx env h → D'.nx σ H
  rt : ∀ (d : D) (h : Hs) (v : V) (F' : Hp) (ρ' : List Addr) (H : Hp), Same F F' → Pre ρ ρ' → Rel K Θ F' ρ' h H → RD K F' ρ' d v → E.rt d h → D'.rt v H
  bk : ∀ (env : Env') (h : Hs) (F' : Hp) (ρ' : List Addr) (σ : L2.St) (H : Hp), Same F F' → Pre ρ ρ' → Rel K Θ F' ρ' h H → REnv K F' ρ' env σ → E.bk env h → D'.bk σ H
  ct : ∀ (env : Env') (h : Hs) (F' : Hp) (ρ' : List Addr) (σ : L2.St) (H : Hp), Same F F' → Pre ρ ρ' → Rel K Θ F' ρ' h H → REnv K F' ρ' env σ → E.ct env h → D'.ct σ H
theorem EnOk.mono {F F' : Hp} {ρ ρ' : List Addr} {E : En} {D' : Ends} (e : Same F F') (p : Pre ρ ρ') (k : EnOk K Θ F ρ E D') : EnOk K Θ F' ρ' E D' :=
  ⟨fun env h F2 ρ2 σ H a b => k.nx env h F2 ρ2 σ H (e.trans a) (p.trans b), fun d h v F2 ρ2 H a b => k.rt d h v F2 ρ2 H (e.trans a) (p.trans b),
   fun env h F2 ρ2 σ H a b => k.bk env h F2 ρ2 σ H (e.trans a) (p.trans b), fun env h F2 ρ2 σ H a b => k.ct env h F2 ρ2 σ H (e.trans a) (p.trans b)⟩
def VS (K : PySem.W.Frag) (Θ : Ctx) (t : TS) (E : En) (env : Env') (h : Hs) : Prop :=
  ∀ (F : Hp) (ρ : List Addr) (σ : L2.St) (H : Hp) (D' : Ends), Rel K Θ F ρ h H → REnv K F ρ env σ → EnOk K Θ F ρ E D' → t D' σ H
/-- a target -/
def VG (K : PySem.W.Frag) (Θ : Ctx) (g : TG) (d : D) (env : Env') (h : Hs) (N : Env' → Hs → Prop) : Prop :=
  ∀ (F : Hp) (ρ : List Addr) (σ : L2.St) (H : Hp) (v : V) (Q : L2.St → Hp → Prop), Rel K Θ F ρ h H → REnv K F ρ env σ → RD K F ρ d v →
    (∀ (env' : Env') (h' : Hs) (F' : Hp) (ρ' : List Addr) (σ' : L2.St) (H' : Hp), Same F F' → Pre ρ ρ' → Rel K Θ F' ρ' h' H' → REnv K F' ρ' env' σ' → N env' h' → Q σ' H') → g v σ H Q
def VGs (K : PySem.W.Frag) (Θ : Ctx) (g : TGs) (ds : List D) (env : Env') (h : Hs) (N : Env' → Hs → Prop) : Prop :=
  ∀ (F : Hp) (ρ : List Addr) (σ : L2.St) (H : Hp) (vs : List V) (Q : L2.St → Hp → Prop), Rel K Θ F ρ h H → REnv K F ρ env σ → RA K F ρ ds vs →
    (∀ (env' : Env') (h' : Hs) (F' : Hp) (ρ' : List Addr) (σ' : L2.St) (H' : Hp), Same F F' → Pre ρ ρ' → Rel K Θ F' ρ' h' H' → REnv K F' ρ' env' σ' → N env' h' → Q σ' H') → g vs σ H Q
/-- a promise in data: W args heap what-follows -/
abbrev Spc := List D → Hs → (D → Hs → Prop) → Prop
def spD (K : PySem.W.Frag) (T : List Addr) (W : Spc) : Sp := fun vs H Q _ => ∃ (ds : List D) (h : Hs) (F : Hp) (ρ : List Addr) (R : D → Hs → Prop), Base K T F ρ h H ∧ RA K F ρ ds vs ∧ W ds h R ∧
  ∀ (d : D) (h' : Hs) (v : V) (F' : Hp) (ρ' : List Addr) (H' : Hp), Same F F' → Pre ρ ρ' → Base K T F' ρ' h' H' → RD K F' ρ' d v → R d h' → Q v H'
/-! ### heaps -/
theorem Base.free {F : Hp} {ρ : List Addr} {h : Hs} {H : Hp} (r : Base K T F ρ h H) {p : Addr} (e : H p = none) : F p = none := r.same.free e
theorem same_updB {F H : Hp} {p : Addr} {o : HO} (s : Same F H) : Same (upd F p o) (upd H p o) := fun b u e => by
  by_cases hb : b = p
  · subst hb; rw [upd_same] at e ⊢; exact e
  · rw [upd_ne hb] at e ⊢; exact s b u e
theorem same_new {F : Hp} {p : Addr} {o : HO} (h : F p = none) : Same F (upd F p o) := fun b u e => by
  rw [upd_ne (ne_of_none e h)]; exact e
theorem tab_ne {H : Hp} {P p : Addr} (t : GxR.TabG H P) (e : H p = none) : P ≠ p := by
  obtain ⟨ps, h1, _⟩ := t
  exact ne_of_none h1 e
theorem tab_upd {H : Hp} {P p : Addr} {o : HO} (t : GxR.TabG H P) (n : P ≠ p) : GxR.TabG (upd H p o) P := by
  obtain ⟨ps, h1, h2⟩ := t
  exact ⟨ps, by rw [upd_ne n]; exact h1, h2⟩
theorem RO.notTab {F : Hp} {ρ : List Addr} {o : OO} {ps : Array Value} (r : RO K F ρ o (.tbl ps)) : False := by
  cases o with
  | lst xs => obtain ⟨vs, e, _⟩ := r; cases e
  | ins C fs => obtain ⟨dx, gs, e, _⟩ := r; cases e
  | dK kvs => obtain ⟨gs, e, _⟩ := r; cases e
  | dT kvs => obtain ⟨gs, e, _⟩ := r; cases e
theorem tab_own {H F : Hp} {ρ : List Addr} {P a : Addr} {o : OO} {u : HO} (t : GxR.TabG H P) (e : H a = some u) (r : RO K F ρ o u) : P ≠ a := by
  obtain ⟨ps, h1, _⟩ := t
  rintro rfl
  rw [h1] at e
  cases e
  exact r.notTab
/-- a new frozen thing -/
theorem Base.frz {F : Hp} {ρ : List Addr} {h : Hs} {H : Hp} (r : Base K T F ρ h H) {p : Addr} {o : HO} (e : H p = none) : Base K T (upd F p o) ρ h (upd H p o) := by
  have hF := r.free e
  refine ⟨same_updB r.same, r.len, fun i u hi => ?_, r.inj, fun P hP => ⟨by rw [upd_ne (tab_ne (r.tab P hP).2 e)]; exact (r.tab P hP).1, tab_upd (r.tab P hP).2 (tab_ne (r.tab P hP).2 e)⟩⟩
  obtain ⟨a, w, h1, h2, h3, h4⟩ := r.own i u hi
  have ha : a ≠ p := ne_of_none h3 e
  exact ⟨a, w, h1, by rw [upd_ne ha]; exact h2, by rw [upd_ne ha]; exact h3, h4.mono (same_new hF) (Pre.refl _)⟩
/-- a new owned thing -/
theorem Base.push {F : Hp} {ρ : List Addr} {h : Hs} {H : Hp} (r : Base K T F ρ h H) {p : Addr} {o : OO} {u : HO} (e : H p = none) (ro : RO K F ρ o u) : Base K T F (ρ ++ [p]) (h ++ [some o]) (upd H p u) := by
  have hF := r.free e
  have old : ∀ (i : Nat) (o : OO), h[i]? = some (some o) → ∀ a, ρ[i]? = some a → a ≠ p := fun i o hi a ha => by
    obtain ⟨a', w, h1, h2, h3, h4⟩ := r.own i o hi
    rw [h1] at ha; cases ha
    exact ne_of_none h3 e
  have cs : ∀ (i : Nat) (o' : OO), (h ++ [some o])[i]? = some (some o') → (i < h.length ∧ h[i]? = some (some o')) ∨ (i = h.length ∧ o' = o) := fun i o' hi => by
    by_cases hl : i < h.length
    · rw [List.getElem?_append_left hl] at hi; exact .inl ⟨hl, hi⟩
    · by_cases he : i = h.length
      · subst he
        rw [List.getElem?_append_right (Nat.le_refl _), Nat.sub_self] at hi
        simp at hi
        exact .inr ⟨rfl, hi.symm⟩
      · have : (h ++ [some o]).length ≤ i := by rw [List.length_append]; simp only [List.length_cons, List.length_nil]; omega
        rw [List.getElem?_eq_none_iff.mpr this] at hi; cases hi
  have pl : ∀ (i : Nat), i < h.length → (ρ ++ [p])[i]? = ρ[i]? := fun i hi => List.getElem?_append_left (by rw [r.len]; exact hi)
  have pr : (ρ ++ [p])[h.length]? = some p := by rw [List.getElem?_append_right (by rw [r.len]; exact Nat.le_refl _), r.len, Nat.sub_self]; rfl
  refine ⟨fun b o e' => ?_, by rw [List.length_append, List.length_append, r.len]; rfl, fun i o' hi => ?_, fun i j o1 o2 a hi hj ha hb => ?_, fun P hP => ⟨(r.tab P hP).1, tab_upd (r.tab P hP).2 (tab_ne (r.tab P hP).2 e)⟩⟩
  · rw [upd_ne (ne_of_none (r.same b o e') e)]; exact r.same b o e'
  · rcases cs i o' hi with ⟨hl, hi⟩ | ⟨rfl, rfl⟩
    · obtain ⟨a, w, h1, h2, h3, h4⟩ := r.own i o' hi
      exact ⟨a, w, by rw [pl i hl]; exact h1, h2, by rw [upd_ne (ne_of_none h3 e)]; exact h3, h4.mono (Same.refl _) (Pre.push _ _)⟩
    · exact ⟨p, u, pr, hF, upd_same, ro.mono (Same.refl _) (Pre.push _ _)⟩
  · rcases cs i o1 hi with ⟨hl, hi1⟩ | ⟨hl, _⟩ <;> rcases cs j o2 hj with ⟨hl2, hj1⟩ | ⟨hl2, _⟩
    · rw [pl i hl] at ha
      rw [pl j hl2] at hb
      exact r.inj i j o1 o2 a hi1 hj1 ha hb
    · rw [pl i hl] at ha
      rw [hl2, pr] at hb
      cases hb
      exact absurd rfl (old i o1 hi1 p ha)
    · rw [pl j hl2] at hb
      rw [hl, pr] at ha
      cases ha
      exact absurd rfl (old j o2 hj1 p hb)
    · rw [hl, hl2]
/-- an owned thing changes -/
theorem Base.put {F : Hp} {ρ : List Addr} {h : Hs} {H : Hp} (r : Base K T F ρ h H) {i : Nat} {a : Addr} {o o' : OO} {u : HO} (hi : h[i]? = some (some o)) (ha : ρ[i]? = some a) (ro : RO K F ρ o' u) : Base K T F ρ (h.set i (some o')) (upd H a u) := by
  obtain ⟨a1, w, h1, h2, h3, h4⟩ := r.own i o hi
  have ea : a1 = a := Option.some.inj (h1.symm.trans ha)
  rw [ea] at h1 h2 h3
  have hil : i < h.length := (List.getElem?_eq_some_iff.mp hi).1
  have cs : ∀ (j : Nat) (o2 : OO), (h.set i (some o'))[j]? = some (some o2) → (j = i ∧ o2 = o') ∨ (j ≠ i ∧ h[j]? = some (some o2)) := fun j o2 hj => by
    by_cases e : j = i
    · subst e; rw [List.getElem?_set_self hil] at hj; simp at hj; exact .inl ⟨rfl, hj.symm⟩
    · rw [List.getElem?_set_ne (Ne.symm e)] at hj; exact .inr ⟨e, hj⟩
  have old : ∀ (j : Nat) (o2 : OO), (h.set i (some o'))[j]? = some (some o2) → ∃ o3, h[j]? = some (some o3) := fun j o2 hj => by
    rcases cs j o2 hj with ⟨e, _⟩ | ⟨_, e⟩
    · rw [e]; exact ⟨o, hi⟩
    · exact ⟨o2, e⟩
  refine ⟨fun b o2 e => ?_, by rw [List.length_set]; exact r.len, fun j o2 hj => ?_, fun j k o1 o2 b hj hk hb hc => ?_, fun P hP => ⟨(r.tab P hP).1, tab_upd (r.tab P hP).2 (tab_own (r.tab P hP).2 h3 h4)⟩⟩
  · rw [upd_ne (ne_of_none e h2)]; exact r.same b o2 e
  · rcases cs j o2 hj with ⟨e1, e2⟩ | ⟨hne, hj1⟩
    · rw [e1, e2]; exact ⟨a, u, h1, h2, upd_same, ro⟩
    · obtain ⟨b, w2, g1, g2, g3, g4⟩ := r.own j o2 hj1
      have hb : b ≠ a := fun e => hne (r.inj j i o2 o b hj1 hi g1 (e ▸ h1))
      exact ⟨b, w2, g1, g2, by rw [upd_ne hb]; exact g3, g4⟩
  · obtain ⟨o3, g1⟩ := old j o1 hj
    obtain ⟨o4, g2⟩ := old k o2 hk
    exact r.inj j k o3 o4 b g1 g2 hb hc
/-- an owned thing is frozen from now on -/
theorem Base.freeze {F : Hp} {ρ : List Addr} {h : Hs} {H : Hp} (r : Base K T F ρ h H) {i : Nat} {o : OO} (hi : h[i]? = some (some o)) :
    ∃ a u, ρ[i]? = some a ∧ F a = none ∧ H a = some u ∧ RO K (upd F a u) ρ o u ∧ Base K T (upd F a u) ρ (h.set i none) H := by
  obtain ⟨a, u, h1, h2, h3, h4⟩ := r.own i o hi
  have hil : i < h.length := (List.getElem?_eq_some_iff.mp hi).1
  refine ⟨a, u, h1, h2, h3, h4.mono (same_new h2) (Pre.refl _), ⟨fun b o2 e => ?_, by rw [List.length_set]; exact r.len, fun j o2 hj => ?_, fun j k o1 o2 b hj hk hb hc => ?_, fun P hP => ⟨by rw [upd_ne (tab_own (r.tab P hP).2 h3 h4)]; exact (r.tab P hP).1, (r.tab P hP).2⟩⟩⟩
  · by_cases hb : b = a
    · subst hb; rw [upd_same] at e; rw [h3]; exact e
    · rw [upd_ne hb] at e; exact r.same b o2 e
  · by_cases e : j = i
    · subst e; rw [List.getElem?_set_self hil] at hj; simp at hj
    · rw [List.getElem?_set_ne (Ne.symm e)] at hj
      obtain ⟨b, w2, g1, g2, g3, g4⟩ := r.own j o2 hj
      have hb : b ≠ a := fun z => e (r.inj j i o2 o b hj hi g1 (z ▸ h1))
      exact ⟨b, w2, g1, by rw [upd_ne hb]; exact g2, g3, g4.mono (same_new h2) (Pre.refl _)⟩
  · have sub : ∀ (j : Nat) (o2 : OO), (h.set i none)[j]? = some (some o2) → h[j]? = some (some o2) := fun j o2 hj => by
      by_cases e : j = i
      · subst e; rw [List.getElem?_set_self hil] at hj; simp at hj
      · rw [List.getElem?_set_ne (Ne.symm e)] at hj; exact hj
    exact r.inj _ _ _ _ b (sub _ _ hj) (sub _ _ hk) hb hc
theorem Rel.free {F : Hp} {ρ : List Addr} {h : Hs} {H : Hp} (r : Rel K Θ F ρ h H) {p : Addr} (e : H p = none) : F p = none := r.same.free e
theorem Rel.frz {F : Hp} {ρ : List Addr} {h : Hs} {H : Hp} (r : Rel K Θ F ρ h H) {p : Addr} {o : HO} (e : H p = none) : Rel K Θ (upd F p o) ρ h (upd H p o) := ⟨r.toBase.frz e, r.wish.mono (same_new (r.free e)) (Pre.refl _)⟩
theorem Rel.push {F : Hp} {ρ : List Addr} {h : Hs} {H : Hp} (r : Rel K Θ F ρ h H) {p : Addr} {o : OO} {u : HO} (e : H p = none) (ro : RO K F ρ o u) : Rel K Θ F (ρ ++ [p]) (h ++ [some o]) (upd H p u) := ⟨r.toBase.push e ro, r.wish.mono (Same.refl _) (Pre.push _ _)⟩
theorem Rel.put {F : Hp} {ρ : List Addr} {h : Hs} {H : Hp} (r : Rel K Θ F ρ h H) {i : Nat} {a : Addr} {o o' : OO} {u : HO} (hi : h[i]? = some (some o)) (ha : ρ[i]? = some a) (ro : RO K F ρ o' u) : Rel K Θ F ρ (h.set i (some o')) (upd H a u) := ⟨r.toBase.put hi ha ro, r.wish⟩
theorem Rel.freeze {F : Hp} {ρ : List Addr} {h : Hs} {H : Hp} (r : Rel K Θ F ρ h H) {i : Nat} {o : OO} (hi : h[i]? = some (some o)) :
    ∃ a u, ρ[i]? = some a ∧ F a = none ∧ H a = some u ∧ RO K (upd F a u) ρ o u ∧ Rel K Θ (upd F a u) ρ (h.set i none) H := by
  obtain ⟨a, u, h1, h2, h3, h4, h5⟩ := r.toBase.freeze hi
  exact ⟨a, u, h1, h2, h3, h4, h5, r.wish.mono (same_new h2) (Pre.refl _)⟩
end
end Kb

/-! The rules of the logic: expressions, statements. -/
namespace Kb
open PySem PySem.Spec PyProof.Rows L2
/-- a constant as data -/
inductive CD : P → V → Prop
  | non : CD .non .non
  | bl (b : Bool) : CD (.bl b) (.bl b)
  | int (i : Int) : CD (.int i) (.int i)
  | str (s : Str) : CD (.str s) (.str s)
  | ty (n : String) : CD (.ty n) (.ty n)
  | cls (C : Addr) : CD (.cls C) (.ref C)
section
variable {K : PySem.W.Frag} {Θ : Ctx} {env : Env'} {h : Hs} {ta tb te tc : TE} {R : D → Hs → Prop} {x y d : D}
theorem CD.rd {F : Hp} {ρ : List Addr} {d : P} {v : V} (c : CD d v) : RD K F ρ (.p d) v := by
  cases c
  · exact .p .non
  · exact .p (.bl _)
  · exact .p (.int _)
  · exact .p (.str _)
  · exact .p (.ty _)
  · exact .p (.cls _)
theorem RD.bl {F : Hp} {ρ : List Addr} {b : Bool} {v : V} (h : RD K F ρ (dB b) v) : v = .bl b := by
  cases h with
  | p h => cases h; rfl
theorem RD.int {F : Hp} {ρ : List Addr} {b : Int} {v : V} (h : RD K F ρ (dI b) v) : v = .int b := by
  cases h with
  | p h => cases h; rfl
theorem RD.str {F : Hp} {ρ : List Addr} {b : Str} {v : V} (h : RD K F ρ (dS b) v) : v = .str b := by
  cases h with
  | p h => cases h; rfl
theorem RD.non {F : Hp} {ρ : List Addr} {v : V} (h : RD K F ρ dN v) : v = .non := by
  cases h with
  | p h => cases h; rfl
theorem ve_var {i : Nat} (hd : env[i]? = some (some d)) (q : R d h) : VE K Θ (tVar i) env h R := fun F ρ σ H Q r e k => by
  obtain ⟨v, h1, h2⟩ := e.get i d hd
  exact ⟨v, h1, k d h v F ρ H (Same.refl _) (Pre.refl _) r h2 q⟩
theorem ve_c {v : V} {d : P} (c : CD d v) (q : R (.p d) h) : VE K Θ (tC v) env h R := fun F ρ σ H Q r e k => k (.p d) h v F ρ H (Same.refl _) (Pre.refl _) r c.rd q
theorem ve_int {i : Int} (q : R (dI i) h) : VE K Θ (tC (.int i)) env h R := ve_c (.int i) q
theorem ve_bl {b : Bool} (q : R (dB b) h) : VE K Θ (tC (.bl b)) env h R := ve_c (.bl b) q
theorem ve_str {s : Str} (q : R (dS s) h) : VE K Θ (tC (.str s)) env h R := ve_c (.str s) q
theorem ve_non (q : R dN h) : VE K Θ (tC .non) env h R := ve_c .non q
theorem ve_ty {n : String} (q : R (.p (.ty n)) h) : VE K Θ (tC (.ty n)) env h R := ve_c (.ty n) q
theorem ve_cls {C : Addr} (q : R (.p (.cls C)) h) : VE K Θ (tC (.ref C)) env h R := ve_c (.cls C) q
theorem ve_op {r : R2} (q : VE K Θ ta env h fun x h1 => VE K Θ tb env h1 fun y h2 => V2 K Θ r x y h2 R) : VE K Θ (tOp r ta tb) env h R := fun F ρ σ H Q rl e k =>
  q F ρ σ H _ rl e fun x h1 vx F1 ρ1 H1 s1 p1 r1 dx q1 => q1 F1 ρ1 σ H1 _ r1 (e.mono s1 p1) fun y h2 vy F2 ρ2 H2 s2 p2 r2 dy q2 =>
    q2 F2 ρ2 H2 vx vy Q r2 (dx.mono s2 p2) dy fun d h' v F' ρ' H' s3 p3 r3 dv q3 => k d h' v F' ρ' H' (s1.trans (s2.trans s3)) (p1.trans (p2.trans p3)) r3 dv q3
theorem ve_un {r : V → Hp → VK → Prop} (q : VE K Θ ta env h fun x h1 => V1 K Θ r x h1 R) : VE K Θ (tUn r ta) env h R := fun F ρ σ H Q rl e k =>
  q F ρ σ H _ rl e fun x h1 vx F1 ρ1 H1 s1 p1 r1 dx q1 => q1 F1 ρ1 H1 vx Q r1 dx fun d h' v F' ρ' H' s3 p3 r3 dv q3 => k d h' v F' ρ' H' (s1.trans s3) (p1.trans p3) r3 dv q3
theorem va_nil {R : List D → Hs → Prop} (q : R [] h) : VA K Θ tNil env h R := fun F ρ σ H Q r e k => k [] h [] F ρ H (Same.refl _) (Pre.refl _) r .nil q
theorem va_cons {tr : TA} {R : List D → Hs → Prop} (q : VE K Θ ta env h fun x h1 => VA K Θ tr env h1 fun xs h2 => R (x :: xs) h2) : VA K Θ (tCons ta tr) env h R := fun F ρ σ H Q rl e k =>
  q F ρ σ H _ rl e fun x h1 vx F1 ρ1 H1 s1 p1 r1 dx q1 => q1 F1 ρ1 σ H1 _ r1 (e.mono s1 p1) fun xs h2 vs F2 ρ2 H2 s2 p2 r2 dxs q2 =>
    k (x :: xs) h2 (vx :: vs) F2 ρ2 H2 (s1.trans s2) (p1.trans p2) r2 (.cons (dx.mono s2 p2) dxs) q2
theorem sz_le {n : Nat} (h : n ≤ 100000) : n ≤ sizeLine := Nat.le_trans h (by decide)
theorem ve_tup {t : TA} (q : VA K Θ t env h fun xs h1 => ∃ ps, xs = ps.map D.p ∧ xs.length ≤ sizeLine ∧ R (dT ps) h1) : VE K Θ (tTup t) env h R := fun F ρ σ H Q rl e k =>
  q F ρ σ H _ rl e fun xs h1 vs F1 ρ1 H1 s1 p1 r1 dxs q1 => by
    obtain ⟨ps, rfl, hl, q1⟩ := q1
    refine ⟨by rw [← dxs.len]; exact hl, fun p hp => ?_⟩
    exact k (dT ps) h1 (.ref p) (upd F1 p (.tup vs)) ρ1 _ (s1.trans (same_new (r1.free hp))) p1 (r1.frz hp) (.p (.tup (.of upd_same) (dxs.pure.mono (same_new (r1.free hp))))) q1
/-- a list display whose list stays as it is -/
theorem ve_lst {t : TA} (q : VA K Θ t env h fun xs h1 => ∃ ps, xs = ps.map D.p ∧ xs.length ≤ sizeLine ∧ R (dL ps) h1) : VE K Θ (tLst t) env h R := fun F ρ σ H Q rl e k =>
  q F ρ σ H _ rl e fun xs h1 vs F1 ρ1 H1 s1 p1 r1 dxs q1 => by
    obtain ⟨ps, rfl, hl, q1⟩ := q1
    refine ⟨by rw [← dxs.len]; exact hl, fun p hp => ?_⟩
    exact k (dL ps) h1 (.ref p) (upd F1 p (.lst vs)) ρ1 _ (s1.trans (same_new (r1.free hp))) p1 (r1.frz hp) (.p (.lst (.of upd_same) (dxs.pure.mono (same_new (r1.free hp))))) q1
/-- a list display that is owned -/
theorem ve_lstO {t : TA} (q : VA K Θ t env h fun xs h1 => xs.length ≤ sizeLine ∧ R (.own h1.length) (h1 ++ [some (.lst xs)])) : VE K Θ (tLst t) env h R := fun F ρ σ H Q rl e k =>
  q F ρ σ H _ rl e fun xs h1 vs F1 ρ1 H1 s1 p1 r1 dxs q1 => ⟨by rw [← dxs.len]; exact q1.1, fun p hp =>
    k (.own h1.length) (h1 ++ [some (.lst xs)]) (.ref p) F1 (ρ1 ++ [p]) _ s1 (p1.trans (Pre.push _ _)) (r1.push (o := .lst xs) hp ⟨vs, rfl, dxs⟩) (.own (by rw [← r1.len]; simp)) q1.2⟩
theorem ve_cb {r : List V → Hp → VK → Prop} {t : TA} (q : VA K Θ t env h fun xs h1 => VC K Θ r xs h1 R) : VE K Θ (tCB r t) env h R := fun F ρ σ H Q rl e k =>
  q F ρ σ H _ rl e fun xs h1 vs F1 ρ1 H1 s1 p1 r1 dxs q1 => q1 F1 ρ1 H1 vs Q r1 dxs fun d h' v F' ρ' H' s3 p3 r3 dv q3 => k d h' v F' ρ' H' (s1.trans s3) (p1.trans p3) r3 dv q3
theorem ve_call {W : Spc} {E : XK} {t : TA} (q : VA K Θ t env h fun xs h1 => W xs h1 R) : VE K Θ (tCall (spD K Θ.tabs W) [] E t) env h R := fun F ρ σ H Q rl e k =>
  q F ρ σ H _ rl e fun xs h1 vs F1 ρ1 H1 s1 p1 r1 dxs q1 => ⟨xs, h1, F1, ρ1, R, r1.toBase, by rw [List.append_nil]; exact dxs, q1, fun d h' v F' ρ' H' s3 p3 r3 dv q3 => k d h' v F' ρ' H' (s1.trans s3) (p1.trans p3) ⟨r3, r1.wish.mono s3 p3⟩ dv q3⟩
/-- of what built-in type -/
def TyD (T : String) (d : D) (h : Hs) : Prop := match d with
  | .p (.str _) => T = "str"
  | .p (.int _) => T = "int"
  | .p (.lst _) => T = "list"
  | .own i => T = "list" ∧ ∃ xs, h[i]? = some (some (.lst xs))
  | _ => False
theorem TyD.v {T : String} {F : Hp} {ρ : List Addr} {h : Hs} {H : Hp} {d : D} {v : V} (r : Rel K Θ F ρ h H) (q : RD K F ρ d v) (t : TyD T d h) : tyV K T v H := by
  cases q with
  | p q =>
    cases q with
    | str s => exact t
    | int i => exact t
    | lst a b => exact .inl ⟨t, _, r.same.seq a⟩
    | _ => exact t.elim
  | own e =>
    obtain ⟨h1, xs, hx⟩ := t
    obtain ⟨a, u, e1, e2, e3, vs, e4, _⟩ := r.own _ _ hx
    rw [e] at e1; cases e1
    subst e4
    exact .inl ⟨h1, vs, .of e3⟩
theorem ve_bm {T : String} {r : V → List V → Hp → VK → Prop} {to : TE} {t : TA}
    (q : VE K Θ to env h fun x h1 => TyD T x h1 ∧ VA K Θ t env h1 fun xs h2 => VM K Θ r x xs h2 R) : VE K Θ (tBM K T r to t) env h R := fun F ρ σ H Q rl e k =>
  q F ρ σ H _ rl e fun x h1 vx F1 ρ1 H1 s1 p1 r1 dx q1 => ⟨q1.1.v r1 dx, q1.2 F1 ρ1 σ H1 _ r1 (e.mono s1 p1) fun xs h2 vs F2 ρ2 H2 s2 p2 r2 dxs q2 =>
    q2 F2 ρ2 H2 vx vs Q r2 (dx.mono s2 p2) dxs fun d h' v F' ρ' H' s3 p3 r3 dv q3 => k d h' v F' ρ' H' (s1.trans (s2.trans s3)) (p1.trans (p2.trans p3)) r3 dv q3⟩
theorem ve_bm0 {T : String} {r : V → List V → Hp → VK → Prop} {to : TE}
    (q : VE K Θ to env h fun x h1 => TyD T x h1 ∧ VM K Θ r x [] h1 R) : VE K Θ (tBM0 K T r to) env h R := fun F ρ σ H Q rl e k =>
  q F ρ σ H _ rl e fun x h1 vx F1 ρ1 H1 s1 p1 r1 dx q1 => ⟨q1.1.v r1 dx, q1.2 F1 ρ1 H1 vx [] Q r1 dx .nil fun d h' v F' ρ' H' s3 p3 r3 dv q3 => k d h' v F' ρ' H' (s1.trans s3) (p1.trans p3) r3 dv q3⟩
/-- an attribute of an instance that stays; of one that is owned -/
def FldD (f : Str) (x : D) (h : Hs) (C : Addr) (d : D) : Prop := match x with
  | .p (.ins C' fs) => C' = C ∧ (fs.map fun q => (q.1, D.p q.2)).lookup f = some d
  | .own i => ∃ fs, h[i]? = some (some (.ins C fs)) ∧ fs.lookup f = some d
  | _ => False
theorem ve_fld {f : Str} (q : VE K Θ ta env h fun x h1 => ∃ C d, Cls K C ∧ NoAttr K C f ∧ FldD f x h1 C d ∧ R d h1) : VE K Θ (tFld K ta f) env h R := fun F ρ σ H Q rl e k =>
  q F ρ σ H _ rl e fun x h1 vx F1 ρ1 H1 s1 p1 r1 dx q1 => by
    obtain ⟨C, d, c, n, l, q1⟩ := q1
    cases dx with
    | p dx =>
      cases dx with
      | ins a b =>
        obtain ⟨rfl, l⟩ := l
        obtain ⟨v, l1, l2⟩ := (b.data (ρ := ρ1)).look l
        exact ⟨_, _, _, _, v, rfl, r1.same _ _ a, c, n, l1, k d h1 v F1 ρ1 H1 s1 p1 r1 l2 q1⟩
      | _ => exact l.elim
    | own hi =>
      obtain ⟨fs, hx, l⟩ := l
      obtain ⟨a, u, e1, e2, e3, dx, gs, e4, e5⟩ := r1.own _ _ hx
      rw [hi] at e1; cases e1
      subst e4
      obtain ⟨v, l1, l2⟩ := e5.look l
      exact ⟨_, _, _, _, v, rfl, e3, c, n, l1, k d h1 v F1 ρ1 H1 s1 p1 r1 l2 q1⟩
theorem ve_if {tt : TT} (q : VT K Θ tt env h fun b h1 => if b = true then VE K Θ ta env h1 R else VE K Θ tb env h1 R) : VE K Θ (tIf tt ta tb) env h R := fun F ρ σ H Q rl e k =>
  q F ρ σ H _ rl e fun b h1 F1 ρ1 H1 s1 p1 r1 q1 => by
    cases b with
    | true => exact q1 F1 ρ1 σ H1 Q r1 (e.mono s1 p1) fun d h' v F' ρ' H' s3 p3 r3 dv q3 => k d h' v F' ρ' H' (s1.trans s3) (p1.trans p3) r3 dv q3
    | false => exact q1 F1 ρ1 σ H1 Q r1 (e.mono s1 p1) fun d h' v F' ρ' H' s3 p3 r3 dv q3 => k d h' v F' ρ' H' (s1.trans s3) (p1.trans p3) r3 dv q3
theorem ve_and (q : VE K Θ ta env h fun x h1 => ∃ c, x = dB c ∧ if c = true then VE K Θ tb env h1 R else R (dB false) h1) : VE K Θ (tAndV ta tb) env h R := fun F ρ σ H Q rl e k =>
  q F ρ σ H _ rl e fun x h1 vx F1 ρ1 H1 s1 p1 r1 dx q1 => by
    obtain ⟨c, rfl, q1⟩ := q1
    obtain rfl := dx.bl
    refine ⟨c, rfl, ?_⟩
    cases c with
    | true => exact q1 F1 ρ1 σ H1 Q r1 (e.mono s1 p1) fun d h' v F' ρ' H' s3 p3 r3 dv q3 => k d h' v F' ρ' H' (s1.trans s3) (p1.trans p3) r3 dv q3
    | false => exact k (dB false) h1 (.bl false) F1 ρ1 H1 s1 p1 r1 (.p (.bl false)) q1
theorem ve_or (q : VE K Θ ta env h fun x h1 => ∃ c, x = dB c ∧ if c = true then R (dB true) h1 else VE K Θ tb env h1 R) : VE K Θ (tOrV ta tb) env h R := fun F ρ σ H Q rl e k =>
  q F ρ σ H _ rl e fun x h1 vx F1 ρ1 H1 s1 p1 r1 dx q1 => by
    obtain ⟨c, rfl, q1⟩ := q1
    obtain rfl := dx.bl
    refine ⟨c, rfl, ?_⟩
    cases c with
    | true => exact k (dB true) h1 (.bl true) F1 ρ1 H1 s1 p1 r1 (.p (.bl true)) q1
    | false => exact q1 F1 ρ1 σ H1 Q r1 (e.mono s1 p1) fun d h' v F' ρ' H' s3 p3 r3 dv q3 => k d h' v F' ρ' H' (s1.trans s3) (p1.trans p3) r3 dv q3
theorem ve_not (q : VE K Θ ta env h fun x h1 => ∃ c, x = dB c ∧ R (dB (!c)) h1) : VE K Θ (tNotV ta) env h R := fun F ρ σ H Q rl e k =>
  q F ρ σ H _ rl e fun x h1 vx F1 ρ1 H1 s1 p1 r1 dx q1 => by
    obtain ⟨c, rfl, q1⟩ := q1
    obtain rfl := dx.bl
    exact ⟨c, rfl, k _ h1 _ F1 ρ1 H1 s1 p1 r1 (.p (.bl _)) q1⟩
theorem ve_chain {r r' : R2} (q : VE K Θ ta env h fun x h1 => VE K Θ tb env h1 fun y h2 => V2 K Θ r x y h2 fun z h3 => ∃ c, z = dB c ∧ if c = true then VE K Θ tc env h3 fun w h4 => V2 K Θ r' y w h4 R else R (dB false) h3) : VE K Θ (tChain r r' ta tb tc) env h R := by
  intro F ρ σ H Q rl e k
  refine q F ρ σ H _ rl e fun x h1 vx F1 ρ1 H1 s1 p1 r1 dx q1 => ?_
  refine q1 F1 ρ1 σ H1 _ r1 (e.mono s1 p1) fun y h2 vy F2 ρ2 H2 s2 p2 r2 dy q2 => ?_
  refine q2 F2 ρ2 H2 vx vy _ r2 (dx.mono s2 p2) dy fun z h3 vz F3 ρ3 H3 s3 p3 r3 dz q3 => ?_
  obtain ⟨c, rfl, q3⟩ := q3
  obtain rfl := dz.bl
  refine ⟨c, rfl, ?_⟩
  have s13 := s1.trans (s2.trans s3)
  have p13 := p1.trans (p2.trans p3)
  cases c with
  | true =>
    refine q3 F3 ρ3 σ H3 _ r3 (e.mono s13 p13) fun w h4 vw F4 ρ4 H4 s4 p4 r4 dw q4 => ?_
    exact q4 F4 ρ4 H4 vy vw Q r4 (dy.mono (s3.trans s4) (p3.trans p4)) dw fun d h' v F' ρ' H' s5 p5 r5 dv q5 => k d h' v F' ρ' H' (s13.trans (s4.trans s5)) (p13.trans (p4.trans p5)) r5 dv q5
  | false => exact k (dB false) h3 (.bl false) F3 ρ3 H3 s13 p13 r3 (.p (.bl false)) q3
/-! ### tests -/
variable {tt uu : TT} {B : Bool → Hs → Prop}
theorem vt_test (q : VE K Θ ta env h fun x h1 => ∃ c, x = dB c ∧ B c h1) : VT K Θ (tTest ta) env h B := fun F ρ σ H Q rl e k =>
  q F ρ σ H _ rl e fun x h1 vx F1 ρ1 H1 s1 p1 r1 dx q1 => by
    obtain ⟨c, rfl, q1⟩ := q1
    obtain rfl := dx.bl
    exact ⟨c, rfl, k c h1 F1 ρ1 H1 s1 p1 r1 q1⟩
theorem vt_B (q : VE K Θ ta env h fun x h1 => ∃ c, x = dB c ∧ B c h1) : VT K Θ (tB ta) env h B := fun F ρ σ H Q rl e k =>
  q F ρ σ H _ rl e fun x h1 vx F1 ρ1 H1 s1 p1 r1 dx q1 => by
    obtain ⟨c, rfl, q1⟩ := q1
    obtain rfl := dx.bl
    exact ⟨c, rfl, k c h1 F1 ρ1 H1 s1 p1 r1 q1⟩
theorem vt_and (q : VT K Θ tt env h fun c h1 => if c = true then VT K Θ uu env h1 B else B false h1) : VT K Θ (tAnd tt uu) env h B := fun F ρ σ H Q rl e k =>
  q F ρ σ H _ rl e fun c h1 F1 ρ1 H1 s1 p1 r1 q1 => by
    cases c with
    | true => exact q1 F1 ρ1 σ H1 Q r1 (e.mono s1 p1) fun b h' F' ρ' H' s3 p3 r3 q3 => k b h' F' ρ' H' (s1.trans s3) (p1.trans p3) r3 q3
    | false => exact k false h1 F1 ρ1 H1 s1 p1 r1 q1
theorem vt_or (q : VT K Θ tt env h fun c h1 => if c = true then B true h1 else VT K Θ uu env h1 B) : VT K Θ (tOr tt uu) env h B := fun F ρ σ H Q rl e k =>
  q F ρ σ H _ rl e fun c h1 F1 ρ1 H1 s1 p1 r1 q1 => by
    cases c with
    | true => exact k true h1 F1 ρ1 H1 s1 p1 r1 q1
    | false => exact q1 F1 ρ1 σ H1 Q r1 (e.mono s1 p1) fun b h' F' ρ' H' s3 p3 r3 q3 => k b h' F' ρ' H' (s1.trans s3) (p1.trans p3) r3 q3
theorem vt_not (q : VT K Θ tt env h fun c h1 => B (!c) h1) : VT K Θ (tNot tt) env h B := fun F ρ σ H Q rl e k =>
  q F ρ σ H _ rl e fun c h1 F1 ρ1 H1 s1 p1 r1 q1 => k (!c) h1 F1 ρ1 H1 s1 p1 r1 q1
/-- truth of a datum -/
def TruD (d : D) (h : Hs) (k : Bool) : Prop := match d with
  | .p .non => k = false
  | .p (.bl b) => k = b
  | .p (.int i) => k = (i != 0)
  | .p (.str y) => y.length ≤ sizeLine ∧ k = ((y.length : Int) != 0)
  | .p (.lst xs) => k = !xs.isEmpty
  | .p (.tup xs) => k = !xs.isEmpty
  | .p (.ktp xs) => k = !xs.isEmpty
  | .own i => ∃ xs, h[i]? = some (some (.lst xs)) ∧ k = !xs.isEmpty
  | _ => False
theorem RA.empty {F : Hp} {ρ : List Addr} {xs : List D} {vs : List V} (r : RA K F ρ xs vs) : (!vs.isEmpty) = !xs.isEmpty := by
  cases r <;> rfl
theorem RPs.empty {F : Hp} {xs : List P} {vs : List V} (r : RPs K F xs vs) : (!vs.isEmpty) = !xs.isEmpty := by
  cases r <;> rfl
theorem TruD.v {F : Hp} {ρ : List Addr} {h : Hs} {H : Hp} {d : D} {v : V} {k : Bool} (r : Rel K Θ F ρ h H) (q : RD K F ρ d v) (t : TruD d h k) : TruV K v H k := by
  cases q with
  | p q =>
    cases q with
    | lst a b => exact .inl ⟨_, r.same.seq a, by rw [b.empty]; exact t⟩
    | tup a b => exact .inr (.inl ⟨_, sqT_mono r.same a, by rw [b.empty]; exact t⟩)
    | ktp a b => exact .inr (.inl ⟨_, a _, by rw [b.empty]; exact t⟩)
    | ins => exact t.elim
    | ty => exact t.elim
    | cls => exact t.elim
    | _ => exact t
  | own e =>
    obtain ⟨xs, hx, t⟩ := t
    obtain ⟨a, u, e1, e2, e3, vs, e4, e5⟩ := r.own _ _ hx
    rw [e] at e1; cases e1
    subst e4
    exact .inl ⟨vs, .of e3, by rw [e5.empty]; exact t⟩
theorem vt_truth (q : VE K Θ ta env h fun x h1 => ∃ c, TruD x h1 c ∧ B c h1) : VT K Θ (fun σ H Q => ta σ H fun x H' => ∃ k, TruV K x H' k ∧ Q k H') env h B := fun F ρ σ H Q rl e k =>
  q F ρ σ H _ rl e fun x h1 vx F1 ρ1 H1 s1 p1 r1 dx q1 => by
    obtain ⟨c, t, q1⟩ := q1
    exact ⟨c, t.v r1 dx, k c h1 F1 ρ1 H1 s1 p1 r1 q1⟩
/-! ### statements -/
variable {t1 t2 : TS} {E : En}
theorem vs_seq (q : VS K Θ t1 { E with nx := VS K Θ t2 E } env h) : VS K Θ (tSeq t1 t2) E env h := fun F ρ σ H D' rl e k =>
  q F ρ σ H _ rl e ⟨fun env' h' F' ρ' σ' H' s p r e' q' => q' F' ρ' σ' H' D' r e' (k.mono s p), k.rt, k.bk, k.ct⟩
theorem vs_next (q : E.nx env h) : VS K Θ tNext E env h := fun F ρ σ H D' rl e k => k.nx env h F ρ σ H (Same.refl _) (Pre.refl _) rl e q
theorem vs_break (q : E.bk env h) : VS K Θ tBreak E env h := fun F ρ σ H D' rl e k => k.bk env h F ρ σ H (Same.refl _) (Pre.refl _) rl e q
theorem vs_cont (q : E.ct env h) : VS K Θ tCont E env h := fun F ρ σ H D' rl e k => k.ct env h F ρ σ H (Same.refl _) (Pre.refl _) rl e q
theorem vs_asg {g : TG} (q : VE K Θ ta env h fun d h1 => VG K Θ g d env h1 E.nx) : VS K Θ (tAsg ta g) E env h := fun F ρ σ H D' rl e k =>
  q F ρ σ H _ rl e fun x h1 vx F1 ρ1 H1 s1 p1 r1 dx q1 => q1 F1 ρ1 σ H1 vx _ r1 (e.mono s1 p1) dx fun env' h' F' ρ' σ' H' s2 p2 r2 e2 q2 => k.nx env' h' F' ρ' σ' H' (s1.trans s2) (p1.trans p2) r2 e2 q2
theorem vs_if (q : VT K Θ tt env h fun b h1 => if b = true then VS K Θ t1 E env h1 else VS K Θ t2 E env h1) : VS K Θ (tIfS tt t1 t2) E env h := fun F ρ σ H D' rl e k =>
  q F ρ σ H _ rl e fun b h1 F1 ρ1 H1 s1 p1 r1 q1 => by
    cases b with
    | true => exact q1 F1 ρ1 σ H1 D' r1 (e.mono s1 p1) (k.mono s1 p1)
    | false => exact q1 F1 ρ1 σ H1 D' r1 (e.mono s1 p1) (k.mono s1 p1)
theorem vs_ret (q : VE K Θ ta env h E.rt) : VS K Θ (tRet ta) E env h := fun F ρ σ H D' rl e k =>
  q F ρ σ H _ rl e fun d h1 v F1 ρ1 H1 s1 p1 r1 dv q1 => k.rt d h1 v F1 ρ1 H1 s1 p1 r1 dv q1
theorem vs_retN (q : E.rt dN h) : VS K Θ tRetN E env h := fun F ρ σ H D' rl e k => k.rt dN h .non F ρ H (Same.refl _) (Pre.refl _) rl (.p .non) q
theorem vs_drop (q : VE K Θ ta env h fun _ h1 => E.nx env h1) : VS K Θ (tDrop ta) E env h := fun F ρ σ H D' rl e k =>
  q F ρ σ H _ rl e fun d h1 v F1 ρ1 H1 s1 p1 r1 dv q1 => k.nx env h1 F1 ρ1 σ H1 s1 p1 r1 (e.mono s1 p1) q1
theorem vg_name {i : Nat} {N : Env' → Hs → Prop} (q : N (env.set i (some d)) h) : VG K Θ (gName i) d env h N := fun F ρ σ H v Q rl e dv k =>
  k (env.set i (some d)) h F ρ (σ.set i (some v)) H (Same.refl _) (Pre.refl _) rl (e.set dv) q
theorem vgs_nil {N : Env' → Hs → Prop} (q : N env h) : VGs K Θ gNil [] env h N := fun F ρ σ H vs Q rl e dv k => by
  cases dv
  exact ⟨rfl, k env h F ρ σ H (Same.refl _) (Pre.refl _) rl e q⟩
theorem vgs_cons {g : TG} {gs : TGs} {ds : List D} {N : Env' → Hs → Prop} (q : VG K Θ g d env h fun env' h' => VGs K Θ gs ds env' h' N) : VGs K Θ (gCons g gs) (d :: ds) env h N := fun F ρ σ H vs Q rl e dv k => by
  cases dv with
  | cons a b =>
    exact ⟨_, _, rfl, q F ρ σ H _ _ rl e a fun env' h' F' ρ' σ' H' s p r e' q' => q' F' ρ' σ' H' _ _ r e' (b.mono s p) fun env2 h2 F2 ρ2 σ2 H2 s2 p2 r2 e2 q2 => k env2 h2 F2 ρ2 σ2 H2 (s.trans s2) (p.trans p2) r2 e2 q2⟩
theorem vg_tup {n : Nat} {gs : TGs} {ds : List P} {N : Env' → Hs → Prop} (hl : ds.length = n) (q : VGs K Θ gs (ds.map D.p) env h N) : VG K Θ (gTup K n gs) (dT ds) env h N := fun F ρ σ H v Q rl e dv k => by
  cases dv with
  | p dv =>
    cases dv with
    | tup a b => exact ⟨_, _, rfl, sqT_mono rl.same a, by rw [← b.len]; exact hl, q F ρ σ H _ Q rl e b.data k⟩
/-- xs[i] = v, the list owned -/
theorem vg_sub {to ti : TE} {N : Env' → Hs → Prop} (q : VE K Θ to env h fun o h1 => VE K Θ ti env h1 fun i h2 => ∃ n z xs j, o = .own n ∧ i = dI z ∧ h2[n]? = some (some (.lst xs)) ∧ ixN xs.length z = some j ∧ N env (h2.set n (some (.lst (xs.set j d))))) :
    VG K Θ (gSub to ti rSetL) d env h N := fun F ρ σ H v Q rl e dv k =>
  q F ρ σ H _ rl e fun o h1 vo F1 ρ1 H1 s1 p1 r1 dlo q1 => q1 F1 ρ1 σ H1 _ r1 (e.mono s1 p1) fun i h2 vi F2 ρ2 H2 s2 p2 r2 di q2 => by
    obtain ⟨n, z, xs, j, rfl, rfl, hx, hj, q2⟩ := q2
    obtain rfl := di.int
    cases dlo with
    | own ho =>
      have ho' := p2 _ _ ho
      obtain ⟨a, u, e1, e2, e3, vs, e4, e5⟩ := r2.own _ _ hx
      rw [ho'] at e1; cases e1
      subst e4
      refine ⟨_, vs, z, j, rfl, rfl, e3, by rw [← e5.len]; exact hj, ?_⟩
      exact k env _ F2 ρ2 σ _ (s1.trans s2) (p1.trans p2) (r2.put (o' := .lst (xs.set j d)) hx ho' ⟨_, rfl, e5.set (dv.mono (s1.trans s2) (p1.trans p2)) j⟩) (e.mono (s1.trans s2) (p1.trans p2)) q2
/-- o.f = v, o an instance that is owned -/
theorem vs_fld {f : Str} {tv to : TE} (q : VE K Θ tv env h fun y h1 => VE K Θ to env h1 fun x h2 => ∃ n C fs, x = .own n ∧ h2[n]? = some (some (.ins C fs)) ∧ Cls K C ∧ NoAttr K C f ∧ fs.length < 1000 ∧ E.nx env (h2.set n (some (.ins C (putD f y fs))))) :
    VS K Θ (sFld K to tv f) E env h := fun F ρ σ H D' rl e k =>
  q F ρ σ H _ rl e fun y h1 vy F1 ρ1 H1 s1 p1 r1 dy q1 => q1 F1 ρ1 σ H1 _ r1 (e.mono s1 p1) fun x h2 vx F2 ρ2 H2 s2 p2 r2 dx q2 => by
    obtain ⟨n, C, fs, rfl, hx, c, na, hl, q2⟩ := q2
    cases dx with
    | own ho =>
      obtain ⟨a, u, e1, e2, e3, dx, gs, e4, e5⟩ := r2.own _ _ hx
      rw [ho] at e1; cases e1
      subst e4
      refine ⟨_, C, dx, gs, rfl, e3, c, na, by rw [← e5.len]; exact hl, ?_⟩
      exact k.nx env _ F2 ρ2 σ _ (s1.trans s2) (p1.trans p2) (r2.put (o' := .ins C (putD f y fs)) hx ho ⟨dx, _, rfl, RF.put (dy.mono s2 p2) e5⟩) (e.mono (s1.trans s2) (p1.trans p2)) q2
theorem vs_aug {i : Nat} {ti : TIp} (hd : env[i]? = some (some d)) (q : VE K Θ ta env h fun y h1 => V2 K Θ ti d y h1 fun z h2 => E.nx (env.set i (some z)) h2) : VS K Θ (tAug i ta ti) E env h := fun F ρ σ H D' rl e k => by
  obtain ⟨v, g1, g2⟩ := e.get i d hd
  exact ⟨v, g1, q F ρ σ H _ rl e fun y h1 vy F1 ρ1 H1 s1 p1 r1 dy q1 => q1 F1 ρ1 H1 v vy _ r1 (g2.mono s1 p1) dy fun z h2 vz F2 ρ2 H2 s2 p2 r2 dz q2 =>
    k.nx _ h2 F2 ρ2 _ H2 (s1.trans s2) (p1.trans p2) r2 ((e.mono (s1.trans s2) (p1.trans p2)).set dz) q2⟩
/-! ### what may be forgotten, what is known anyhow -/
theorem VE.imp {R' : D → Hs → Prop} (q : VE K Θ ta env h R) (w : ∀ d h, R d h → R' d h) : VE K Θ ta env h R' := fun F ρ σ H Q rl e k => q F ρ σ H Q rl e fun d h' v F' ρ' H' s p r dv q' => k d h' v F' ρ' H' s p r dv (w d h' q')
theorem VT.imp {B' : Bool → Hs → Prop} (q : VT K Θ tt env h B) (w : ∀ b h, B b h → B' b h) : VT K Θ tt env h B' := fun F ρ σ H Q rl e k => q F ρ σ H Q rl e fun d h' F' ρ' H' s p r q' => k d h' F' ρ' H' s p r (w d h' q')
theorem VS.imp {E' : En} (q : VS K Θ t1 E env h) (w1 : ∀ e h, E.nx e h → E'.nx e h) (w2 : ∀ d h, E.rt d h → E'.rt d h) (w3 : ∀ e h, E.bk e h → E'.bk e h) (w4 : ∀ e h, E.ct e h → E'.ct e h) : VS K Θ t1 E' env h := fun F ρ σ H D' rl e k =>
  q F ρ σ H D' rl e ⟨fun a b c d e f g h i j l => k.nx a b c d e f g h i j (w1 _ _ l), fun a b c d e f g h i j l => k.rt a b c d e f g h i j (w2 _ _ l) , fun a b c d e f g h i j l => k.bk a b c d e f g h i j (w3 _ _ l), fun a b c d e f g h i j l => k.ct a b c d e f g h i j (w4 _ _ l)⟩
end
end Kb

/-! Loops, comprehensions; operations upon data; defs. -/
namespace Kb
open PySem PySem.Spec PyProof.Rows L2
section
variable {K : PySem.W.Frag} {Θ : Ctx} {env : Env'} {h : Hs} {ta tb te tc : TE} {R : D → Hs → Prop} {x y d : D}
/-! ### what is walked -/
/-- J walks ds while C holds of what is owned -/
structure ItOk (K : PySem.W.Frag) (Θ : Ctx) (F : Hp) (ρ : List Addr) (C : Hs → Prop) (ds : List D) (J : It) : Prop where
  stop : ∀ (F' : Hp) (ρ' : List Addr) (h : Hs) (H : Hp), Same F F' → Pre ρ ρ' → Rel K Θ F' ρ' h H → C h → J.stop ds.length H
  go : ∀ (i : Nat) (F' : Hp) (ρ' : List Addr) (h : Hs) (H : Hp), Same F F' → Pre ρ ρ' → Rel K Θ F' ρ' h H → C h → i < ds.length → J.go i H
  yld : ∀ (i : Nat) (d : D) (F' : Hp) (ρ' : List Addr) (h : Hs) (H : Hp) (x : V) (H' : Hp), Same F F' → Pre ρ ρ' → Rel K Θ F' ρ' h H → C h → ds[i]? = some d → J.yld i H x H' →
    ∃ F2 : Hp, Same F' F2 ∧ Rel K Θ F2 ρ' h H' ∧ RD K F2 ρ' d x
def VI (K : PySem.W.Frag) (Θ : Ctx) (wi : TI) (env : Env') (h : Hs) (R : List D → (Hs → Prop) → Hs → Prop) : Prop :=
  ∀ (F : Hp) (ρ : List Addr) (σ : L2.St) (H : Hp) (Q : It → Hp → Prop), Rel K Θ F ρ h H → REnv K F ρ env σ →
    (∀ (ds : List D) (C : Hs → Prop) (h' : Hs) (J : It) (F' : Hp) (ρ' : List Addr) (H' : Hp), Same F F' → Pre ρ ρ' → Rel K Θ F' ρ' h' H' → ItOk K Θ F' ρ' C ds J → R ds C h' → Q J H') → wi σ H Q
/-- a list that stays: its items are those seen by any reading that the walk hands on -/
theorem vi_list {tl : TE} {R : List D → (Hs → Prop) → Hs → Prop} (q : VE K Θ tl env h fun x h1 => ∃ ps, x = dL ps ∧ R (ps.map D.p) (fun _ => True) h1) : VI K Θ (iList K tl) env h R := fun F ρ σ H Q rl e k =>
  q F ρ σ H _ rl e fun x h1 vx F1 ρ1 H1 s1 p1 r1 dx q1 => by
    obtain ⟨ps, rfl, q1⟩ := q1
    cases dx with
    | p dx =>
      cases dx with
      | @lst a _ vs ha rp =>
        refine ⟨a, rfl, ⟨vs, r1.same.seq ha⟩, k (ps.map D.p) (fun _ => True) h1 _ F1 ρ1 H1 s1 p1 r1 ⟨fun F' ρ' h' H' s p r _ => ?_, fun i F' ρ' h' H' s p r _ hi => ?_, fun i d F' ρ' h' H' x H2 s p r _ hd hy => ?_⟩ q1⟩
        · exact ⟨vs, r.same.seq (s.seq ha), by rw [List.length_map, rp.len]; exact Nat.le_refl _⟩
        · rw [List.length_map, rp.len] at hi
          exact ⟨vs, vs[i], r.same.seq (s.seq ha), List.getElem?_eq_getElem hi⟩
        · obtain ⟨e1, e2⟩ := hy
          subst e1
          rw [List.getElem?_map] at hd
          cases hp : ps[i]? with
          | none => rw [hp] at hd; cases hd
          | some p0 =>
            rw [hp] at hd; cases hd
            obtain ⟨v, hv, rv⟩ := rp.get hp
            have ev := e2 vs (r.same.seq (s.seq ha))
            rw [hv] at ev; cases ev
            exact ⟨F', Same.refl _, r, .p (rv.mono s)⟩
theorem vi_tup {tl : TE} {R : List D → (Hs → Prop) → Hs → Prop} (q : VE K Θ tl env h fun x h1 => ∃ ps, x = dT ps ∧ R (ps.map D.p) (fun _ => True) h1) : VI K Θ (iTup K tl) env h R := fun F ρ σ H Q rl e k =>
  q F ρ σ H _ rl e fun x h1 vx F1 ρ1 H1 s1 p1 r1 dx q1 => by
    obtain ⟨ps, rfl, q1⟩ := q1
    cases dx with
    | p dx =>
      cases dx with
      | @tup a _ vs ha rp =>
        refine ⟨a, rfl, ⟨vs, sqT_mono r1.same ha⟩, k (ps.map D.p) (fun _ => True) h1 _ F1 ρ1 H1 s1 p1 r1 ⟨fun F' ρ' h' H' s p r _ => ?_, fun i F' ρ' h' H' s p r _ hi => ?_, fun i d F' ρ' h' H' x H2 s p r _ hd hy => ?_⟩ q1⟩
        · exact ⟨vs, sqT_mono r.same (sqU_mono s ha), by rw [List.length_map, rp.len]; exact Nat.le_refl _⟩
        · rw [List.length_map, rp.len] at hi
          exact ⟨vs, vs[i], sqT_mono r.same (sqU_mono s ha), List.getElem?_eq_getElem hi⟩
        · obtain ⟨e1, e2⟩ := hy
          subst e1
          rw [List.getElem?_map] at hd
          cases hp : ps[i]? with
          | none => rw [hp] at hd; cases hd
          | some p0 =>
            rw [hp] at hd; cases hd
            obtain ⟨v, hv, rv⟩ := rp.get hp
            have ev := e2 vs (sqT_mono r.same (sqU_mono s ha))
            rw [hv] at ev; cases ev
            exact ⟨F', Same.refl _, r, .p (rv.mono s)⟩
/-- an owned list, while it is not changed -/
theorem vi_listO {tl : TE} {R : List D → (Hs → Prop) → Hs → Prop} (q : VE K Θ tl env h fun x h1 => ∃ n xs, x = .own n ∧ h1[n]? = some (some (.lst xs)) ∧ R xs (fun h2 => h2[n]? = some (some (.lst xs))) h1) : VI K Θ (iList K tl) env h R := fun F ρ σ H Q rl e k =>
  q F ρ σ H _ rl e fun x h1 vx F1 ρ1 H1 s1 p1 r1 dx q1 => by
    obtain ⟨n, xs, rfl, hx, q1⟩ := q1
    cases dx with
    | @own a _ ha =>
      have at_ : ∀ (F' : Hp) (ρ' : List Addr) (h' : Hs) (H' : Hp), Pre ρ1 ρ' → Rel K Θ F' ρ' h' H' → h'[n]? = some (some (.lst xs)) → ∃ vs, H' a = some (.lst vs) ∧ RA K F' ρ' xs vs := fun F' ρ' h' H' p r hn => by
        obtain ⟨a', u, e1, e2, e3, vs, e4, e5⟩ := r.own _ _ hn
        rw [p _ _ ha] at e1; cases e1
        subst e4
        exact ⟨vs, e3, e5⟩
      obtain ⟨vs, hv, _⟩ := at_ F1 ρ1 h1 H1 (Pre.refl _) r1 hx
      refine ⟨a, rfl, ⟨vs, .of hv⟩, k xs _ h1 _ F1 ρ1 H1 s1 p1 r1 ⟨fun F' ρ' h' H' s p r c => ?_, fun i F' ρ' h' H' s p r c hi => ?_, fun i d F' ρ' h' H' x H2 s p r c hd hy => ?_⟩ q1⟩
      · obtain ⟨vs, hv, rv⟩ := at_ F' ρ' h' H' p r c
        exact ⟨vs, .of hv, by rw [rv.len]; exact Nat.le_refl _⟩
      · obtain ⟨vs, hv, rv⟩ := at_ F' ρ' h' H' p r c
        rw [rv.len] at hi
        exact ⟨vs, vs[i], .of hv, List.getElem?_eq_getElem hi⟩
      · obtain ⟨e1, e2⟩ := hy
        subst e1
        obtain ⟨vs, hv, rv⟩ := at_ F' ρ' h' _ p r c
        obtain ⟨v, h1, h2⟩ := rv.get hd
        have ev := e2 vs (.of hv)
        rw [h1] at ev; cases ev
        exact ⟨F', Same.refl _, r, h2⟩
/-- the numbers lo, lo + 1, .. -/
def rng (lo : Int) (n : Nat) : List D := (List.range n).map fun (i : Nat) => dI (lo + (i : Int))
theorem rng_len (lo : Int) (n : Nat) : (rng lo n).length = n := by simp [rng]
theorem rng_get {lo : Int} {n i : Nat} {d : D} (hd : (rng lo n)[i]? = some d) : i < n ∧ d = dI (lo + (i : Int)) := by
  have hl : i < (rng lo n).length := (List.getElem?_eq_some_iff.mp hd).1
  rw [rng_len] at hl
  refine ⟨hl, ?_⟩
  unfold rng at hd
  rw [List.getElem?_map, List.getElem?_range hl] at hd
  exact (Option.some.inj hd).symm
theorem itr_ok {F : Hp} {ρ : List Addr} {lo : Int} {n : Nat} : ItOk K Θ F ρ (fun _ => True) (rng lo n) (Itr lo n) :=
  ⟨fun F' ρ' h H s p r c => by rw [rng_len]; exact Nat.le_refl n, fun i F' ρ' h H s p r c hi => by rw [rng_len] at hi; exact hi, fun i d F' ρ' h H x H' s p r c hd hy => by
    obtain ⟨e1, e2⟩ := hy
    subst e1 e2
    rw [(rng_get hd).2]
    exact ⟨F', Same.refl _, r, .p (.int _)⟩⟩
theorem vi_range1 {t : TA} {R : List D → (Hs → Prop) → Hs → Prop} (q : VA K Θ t env h fun xs h1 => ∃ j : Int, xs = [dI j] ∧ -(2 ^ 62) ≤ j ∧ j < 2 ^ 62 ∧ R (rng 0 j.toNat) (fun _ => True) h1) : VI K Θ (iRng1 t) env h R := fun F ρ σ H Q rl e k =>
  q F ρ σ H _ rl e fun xs h1 vs F1 ρ1 H1 s1 p1 r1 dx q1 => by
    obtain ⟨j, rfl, b1, b2, q1⟩ := q1
    cases dx with
    | cons a b =>
      cases b
      obtain rfl := a.int
      exact ⟨j, rfl, b1, b2, k _ _ h1 _ F1 ρ1 H1 s1 p1 r1 itr_ok q1⟩
theorem vi_range2 {t : TA} {R : List D → (Hs → Prop) → Hs → Prop} (q : VA K Θ t env h fun xs h1 => ∃ i j : Int, xs = [dI i, dI j] ∧ (-(2 ^ 62) ≤ i ∧ i < 2 ^ 62 ∧ -(2 ^ 62) ≤ j ∧ j < 2 ^ 62) ∧ R (rng i (j - i).toNat) (fun _ => True) h1) : VI K Θ (iRng2 t) env h R := fun F ρ σ H Q rl e k =>
  q F ρ σ H _ rl e fun xs h1 vs F1 ρ1 H1 s1 p1 r1 dx q1 => by
    obtain ⟨i, j, rfl, b, q1⟩ := q1
    cases dx with
    | cons a b' =>
      cases b' with
      | cons c d =>
        cases d
        obtain rfl := a.int
        obtain rfl := c.int
        exact ⟨i, j, rfl, b, k _ _ h1 _ F1 ρ1 H1 s1 p1 r1 itr_ok q1⟩
/-! ### for, while -/
theorem vs_for {wi : TI} {g : TG} {tb : TS} {E : En} (q : VI K Θ wi env h fun ds C h1 => ∃ Inv : Nat → Env' → Hs → Prop, Inv 0 env h1 ∧ (∀ i env h, Inv i env h → C h) ∧
    (∀ i d env h, ds[i]? = some d → Inv i env h → VG K Θ g d env h fun env' h' => VS K Θ tb { E with nx := Inv (i + 1), ct := Inv (i + 1), bk := E.nx } env' h') ∧ (∀ env h, Inv ds.length env h → E.nx env h)) : VS K Θ (tFor wi g tb) E env h := fun F ρ σ H D' rl e k =>
  q F ρ σ H _ rl e fun ds C h1 J F1 ρ1 H1 s1 p1 r1 it q1 => by
    obtain ⟨Inv, i0, iC, turn, fin⟩ := q1
    have e1 := e.mono s1 p1
    refine ⟨fun i m σ H => m = ds.length - i ∧ i ≤ ds.length ∧ ∃ env h F' ρ', Same F1 F' ∧ Pre ρ1 ρ' ∧ Rel K Θ F' ρ' h H ∧ REnv K F' ρ' env σ ∧ Inv i env h, ⟨ds.length, by simp, Nat.zero_le _, env, h1, F1, ρ1, Same.refl _, Pre.refl _, r1, e1, i0⟩, ?_⟩
    rintro i m σ H ⟨rfl, hi, env, h, F', ρ', s, p, r, e', iv⟩
    have c := iC i env h iv
    by_cases hlt : i < ds.length
    · refine .inr ⟨it.go i F' ρ' h H s p r c hlt, fun σ' H' => ∃ env h F2 ρ2, Same F1 F2 ∧ Pre ρ1 ρ2 ∧ Rel K Θ F2 ρ2 h H' ∧ REnv K F2 ρ2 env σ' ∧ Inv (i + 1) env h, fun σ' H' n => ⟨ds.length - (i + 1), by omega, rfl, hlt, n⟩, fun x H' hy => ?_⟩
      have hd : ds[i]? = some ds[i] := List.getElem?_eq_getElem hlt
      obtain ⟨F2, s2, r2, dx⟩ := it.yld i _ F' ρ' h H x H' s p r c hd hy
      refine turn i _ env h hd iv F2 ρ' σ H' x _ r2 (e'.mono s2 (Pre.refl _)) dx fun env3 h3 F3 ρ3 σ3 H3 s3 p3 r3 e3 q3 => ?_
      have ss : Same F1 F3 := s.trans (s2.trans s3)
      have pp : Pre ρ1 ρ3 := p.trans p3
      have kk := k.mono (s1.trans ss) (p1.trans pp)
      refine q3 F3 ρ3 σ3 H3 _ r3 e3 ⟨fun env4 h4 F4 ρ4 σ4 H4 s4 p4 r4 e4 q4 => ⟨env4, h4, F4, ρ4, ss.trans s4, pp.trans p4, r4, e4, q4⟩, kk.rt, kk.nx, fun env4 h4 F4 ρ4 σ4 H4 s4 p4 r4 e4 q4 => ⟨env4, h4, F4, ρ4, ss.trans s4, pp.trans p4, r4, e4, q4⟩⟩
    · have ei : i = ds.length := by omega
      subst ei
      exact .inl ⟨it.stop F' ρ' h H s p r c, k.nx env h F' ρ' σ H (s1.trans s) (p1.trans p) r e' (fin env h iv)⟩
theorem vs_while {c : TT} {tb : TS} {E : En} (Inv : Env' → Hs → Prop) (μ : Env' → Hs → Nat) (i0 : Inv env h)
    (turn : ∀ env h, Inv env h → VT K Θ c env h fun b h1 => if b = true then VS K Θ tb { E with nx := fun env' h' => Inv env' h' ∧ μ env' h' < μ env h, ct := fun env' h' => Inv env' h' ∧ μ env' h' < μ env h, bk := E.nx } env h1 else E.nx env h1) :
    VS K Θ (tWhile c tb) E env h := fun F ρ σ H D' rl e k => by
  refine ⟨fun m σ H => ∃ env h F' ρ', Same F F' ∧ Pre ρ ρ' ∧ Rel K Θ F' ρ' h H ∧ REnv K F' ρ' env σ ∧ Inv env h ∧ m = μ env h, ⟨_, env, h, F, ρ, Same.refl _, Pre.refl _, rl, e, i0, rfl⟩, ?_⟩
  rintro m σ H ⟨env, h, F', ρ', s, p, r, e', iv, rfl⟩
  refine turn env h iv F' ρ' σ H _ r e' fun b h1 F1 ρ1 H1 s1 p1 r1 q1 => ?_
  cases b with
  | true =>
    rw [if_pos rfl] at q1 ⊢
    refine ⟨fun σ' H' => ∃ env' h' F2 ρ2, Same F F2 ∧ Pre ρ ρ2 ∧ Rel K Θ F2 ρ2 h' H' ∧ REnv K F2 ρ2 env' σ' ∧ Inv env' h' ∧ μ env' h' < μ env h, fun σ' H' ⟨env', h', F2, ρ2, s2, p2, r2, e2, iv2, lt⟩ => ⟨_, lt, env', h', F2, ρ2, s2, p2, r2, e2, iv2, rfl⟩, ?_⟩
    have kk := k.mono (s.trans s1) (p.trans p1)
    exact q1 F1 ρ1 σ H1 _ r1 (e'.mono s1 p1) ⟨fun env4 h4 F4 ρ4 σ4 H4 s4 p4 r4 e4 q4 => ⟨env4, h4, F4, ρ4, (s.trans s1).trans s4, (p.trans p1).trans p4, r4, e4, q4.1, q4.2⟩, kk.rt, kk.nx, fun env4 h4 F4 ρ4 σ4 H4 s4 p4 r4 e4 q4 => ⟨env4, h4, F4, ρ4, (s.trans s1).trans s4, (p.trans p1).trans p4, r4, e4, q4.1, q4.2⟩⟩
  | false =>
    rw [if_neg Bool.false_ne_true] at q1 ⊢
    exact k.nx env h1 F1 ρ1 σ H1 (s.trans s1) (p.trans p1) r1 (e'.mono s1 p1) q1
/-! ### comprehensions -/
/-- the target's slots: after the store they are the comprehension's alone -/
def TgOk (g : TG) (vs : List Nat) : Prop := ∀ (x : V) (σ : L2.St) (H : Hp) (Q : L2.St → Hp → Prop), g x (wipe σ vs) H Q → g x (wipe σ vs) H fun σ2 H2 => wipe σ2 vs = wipe σ vs ∧ Q σ2 H2
theorem set_none_none {σ : L2.St} {j : Nat} {x : Option V} : ((σ.set j none).set j x).set j none = σ.set j none := by rw [List.set_set, List.set_set]
theorem tg_name {j : Nat} : TgOk (gName j) [j] := fun x σ H Q q => ⟨set_none_none, q⟩
theorem wipe2 {σ : L2.St} {i j : Nat} {x y : Option V} : wipe (((wipe σ [i, j]).set i x).set j y) [i, j] = wipe σ [i, j] := by
  show (((((σ.set j none).set i none).set i x).set j y).set j none).set i none = (σ.set j none).set i none
  refine List.ext_getElem? fun k => ?_
  simp only [List.getElem?_set, List.length_set]
  by_cases e1 : i = k
  · subst e1
    simp
  · by_cases e2 : j = k
    · subst e2
      simp [e1]
    · simp [e1, e2]
theorem tg_tup2 {K : PySem.W.Frag} {i j : Nat} : TgOk (gTup K 2 (gCons (gName i) (gCons (gName j) gNil))) [i, j] := fun x σ H Q q => by
  obtain ⟨a, xs, e, sq, hl, v, r, e2, v2, r2, e3, e4, q⟩ := q
  exact ⟨a, xs, e, sq, hl, v, r, e2, v2, r2, e3, e4, wipe2, q⟩
/-- own slots of a comprehension forgotten -/
def wipeD (env : Env') : List Nat → Env'
  | [] => env
  | v :: vs => (wipeD env vs).set v none
theorem REnv.wipes {F : Hp} {ρ : List Addr} {σ : L2.St} (r : REnv K F ρ env σ) : ∀ vs : List Nat, REnv K F ρ (wipeD env vs) (L2.wipe σ vs)
  | [] => r
  | v :: vs => (REnv.wipes r vs).wipe
theorem Rel.pop {F : Hp} {ρ : List Addr} {h : Hs} {H : Hp} {p : Addr} {o : Option OO} (r : Rel K Θ F (ρ ++ [p]) (h ++ [o]) H) (hl : ρ.length = h.length) (hw : Wish K Θ F ρ) (w : ∀ (i : Nat) (o : OO) (a : Addr), h[i]? = some (some o) → ρ[i]? = some a → ∀ u, RO K F (ρ ++ [p]) o u → RO K F ρ o u) : Rel K Θ F ρ h H := by
  have lt : ∀ (i : Nat) (o' : OO), h[i]? = some (some o') → i < h.length := fun i o' e => (List.getElem?_eq_some_iff.mp e).1
  have up : ∀ (i : Nat) (o' : OO), h[i]? = some (some o') → (h ++ [o])[i]? = some (some o') := fun i o' e => by rw [List.getElem?_append_left (lt i o' e)]; exact e
  have pl : ∀ (i : Nat), i < h.length → (ρ ++ [p])[i]? = ρ[i]? := fun i hi => List.getElem?_append_left (by rw [hl]; exact hi)
  refine ⟨⟨r.same, hl, fun i o' hi => ?_, fun i j o1 o2 a hi hj ha hb => r.inj i j o1 o2 a (up i o1 hi) (up j o2 hj) (by rw [pl i (lt i o1 hi)]; exact ha) (by rw [pl j (lt j o2 hj)]; exact hb), r.tab⟩, hw⟩
  obtain ⟨a, u, h1, h2, h3, h4⟩ := r.own i o' (up i o' hi)
  rw [pl i (lt i o' hi)] at h1
  exact ⟨a, u, h1, h2, h3, w i o' a hi h1 u h4⟩
theorem RA.low {F F0 : Hp} {ρ : List Addr} {p : Addr} : ∀ {ds : List D} {vs v0 : List V}, RA K F0 ρ ds v0 → RA K F (ρ ++ [p]) ds vs → RA K F ρ ds vs
  | _, _, _, .nil, .nil => .nil
  | _, _, _, .cons a r, .cons b s => .cons (by
      cases b with
      | p b => exact .p b
      | own b =>
        cases a with
        | own a =>
          have hl := (List.getElem?_eq_some_iff.mp a).1
          rw [List.getElem?_append_left hl] at b
          exact .own b) (RA.low r s)
theorem RF.low {F F0 : Hp} {ρ : List Addr} {p : Addr} : ∀ {ds : List (Str × D)} {vs v0 : List (Str × V)}, RF K F0 ρ ds v0 → RF K F (ρ ++ [p]) ds vs → RF K F ρ ds vs
  | _, _, _, .nil, .nil => .nil
  | _, _, _, .cons a r, .cons b s => .cons (by
      cases b with
      | p b => exact .p b
      | own b =>
        cases a with
        | own a =>
          have hl := (List.getElem?_eq_some_iff.mp a).1
          rw [List.getElem?_append_left hl] at b
          exact .own b) (RF.low r s)
theorem RK.low {κ : Type} {F F0 : Hp} {ρ : List Addr} {p : Addr} : ∀ {ds : List (κ × D)} {vs v0 : List (κ × V)}, RK K F0 ρ ds v0 → RK K F (ρ ++ [p]) ds vs → RK K F ρ ds vs
  | _, _, _, .nil, .nil => .nil
  | _, _, _, .cons a r, .cons b s => .cons (by
      cases b with
      | p b => exact .p b
      | own b =>
        cases a with
        | own a =>
          have hl := (List.getElem?_eq_some_iff.mp a).1
          rw [List.getElem?_append_left hl] at b
          exact .own b) (RK.low r s)
theorem RO.low {F F0 : Hp} {ρ : List Addr} {p : Addr} {o : OO} {u u0 : HO} (a : RO K F0 ρ o u0) (b : RO K F (ρ ++ [p]) o u) : RO K F ρ o u := by
  cases o with
  | lst xs =>
    obtain ⟨v0, _, r0⟩ := a
    obtain ⟨vs, e, r⟩ := b
    exact ⟨vs, e, r0.low r⟩
  | ins C fs =>
    obtain ⟨d0, g0, _, r0⟩ := a
    obtain ⟨dx, gs, e, r⟩ := b
    exact ⟨dx, gs, e, r0.low r⟩
  | dK kvs =>
    obtain ⟨g0, _, r0⟩ := a
    obtain ⟨gs, e, r⟩ := b
    exact ⟨gs, e, r0.low r⟩
  | dT kvs =>
    obtain ⟨g0, _, r0⟩ := a
    obtain ⟨gs, e, r⟩ := b
    exact ⟨gs, e, r0.low r⟩
theorem pre_eq {ρ ρ' : List Addr} (p : Pre ρ ρ') (hl : ρ'.length = ρ.length) : ρ' = ρ := by
  refine List.ext_getElem? fun i => ?_
  cases e : ρ[i]? with
  | some a => exact p i a e
  | none =>
    rw [List.getElem?_eq_none_iff] at e ⊢
    omega
theorem filterMap_succ {α : Type} (f : Nat → Option α) (n : Nat) : (List.range (n + 1)).filterMap f = (List.range n).filterMap f ++ (f n).toList := by
  rw [List.range_succ, List.filterMap_append]
  cases e : f n <;> simp [List.filterMap, e]
/-- what one turn of a comprehension must do: the heap as it was, the item fs i or none -/
def LcTurn (K : PySem.W.Frag) (Θ : Ctx) (g : TG) (tt : TT) (te : TE) (env : Env') (d : D) (h : Hs) (o : Option P) : Prop :=
  VG K Θ g d env h fun env' h' => h' = h ∧ VT K Θ tt env' h' fun b h2 => h2 = h' ∧ if b = true then VE K Θ te env' h2 (fun y h3 => h3 = h2 ∧ ∃ p, y = .p p ∧ o = some p) else o = none
theorem lc_run {wi : TI} {g : TG} {tt : TT} {te : TE} {vs : List Nat} (tg : TgOk g vs) {F : Hp} {ρ : List Addr} {σ : L2.St} {H1 : Hp} {ds : List D} {C : Hs → Prop} {h1 : Hs} {J : It} (Q : VK)
    (r1 : Rel K Θ F ρ h1 H1) (e : REnv K F ρ env σ) (it : ItOk K Θ F ρ C ds J) (fs : Nat → Option P) (hl : ds.length < sizeLine) (hC : ∀ acc, C (h1 ++ [some (.lst acc)]))
    (turn : ∀ i d acc, ds[i]? = some d → LcTurn K Θ g tt te (wipeD env vs) d (h1 ++ [some (.lst acc)]) (fs i))
    (fin : ∀ (p : Addr) (F' : Hp) (us : List V) (H : Hp), Same F F' → F' p = none → H p = some (.lst us) → H1 p = none → Rel K Θ F' (ρ ++ [p]) (h1 ++ [some (.lst (((List.range ds.length).filterMap fs).map D.p))]) H → RPs K F' ((List.range ds.length).filterMap fs) us → Rel K Θ F' ρ h1 H → Q (.ref p) H) :
    ∀ D, H1 D = none → ∃ W : Nat → Nat → Hp → Prop, (∃ m, W 0 m (upd H1 D (.lst []))) ∧ ∀ i m H, W i m H → (J.stop i H ∧ Q (.ref D) H) ∨
      (J.go i H ∧ ∃ Nx : Hp → Prop, (∀ H', Nx H' → ∃ m', m' < m ∧ W (i + 1) m' H') ∧ ∀ x H', J.yld i H x H' → g x (wipe σ vs) H' fun σ2 H2 => wipe σ2 vs = wipe σ vs ∧ tt σ2 H2 fun b H3 => if b = true then te σ2 H3 fun y H4 => ∃ acc, H4 D = some (.lst acc) ∧ acc.length < sizeLine ∧ Nx (upd H4 D (.lst (acc ++ [y]))) else Nx H3) := by
  intro p hp
  have hn : (h1 ++ [some (OO.lst [])])[h1.length]? = some (some (.lst [])) := by simp
  refine ⟨fun i m H => m = ds.length - i ∧ i ≤ ds.length ∧ ∃ F', Same F F' ∧ Rel K Θ F' (ρ ++ [p]) (h1 ++ [some (.lst (((List.range i).filterMap fs).map D.p))]) H, ⟨ds.length, by simp, Nat.zero_le _, F, Same.refl _, r1.push (o := .lst []) hp ⟨[], rfl, .nil⟩⟩, ?_⟩
  rintro i m H ⟨rfl, hi, F', s, r⟩
  have hpl : (ρ ++ [p])[h1.length]? = some p := by rw [← r1.len]; simp
  have got : ∀ (F' : Hp) (H : Hp) (xs : List D), Rel K Θ F' (ρ ++ [p]) (h1 ++ [some (.lst xs)]) H → ∃ us, H p = some (.lst us) ∧ F' p = none ∧ RA K F' (ρ ++ [p]) xs us := fun F' H xs r => by
    obtain ⟨a, u, e1, e2, e3, us, e4, e5⟩ := r.own h1.length (.lst xs) (by simp)
    rw [hpl] at e1; cases e1
    subst e4
    exact ⟨us, e3, e2, e5⟩
  by_cases hlt : i < ds.length
  · refine .inr ⟨it.go i F' (ρ ++ [p]) _ H s (Pre.push _ _) r (hC _) hlt, fun H' => ∃ F2, Same F F2 ∧ Rel K Θ F2 (ρ ++ [p]) (h1 ++ [some (.lst (((List.range (i + 1)).filterMap fs).map D.p))]) H', fun H' ⟨F2, s2, r2⟩ => ⟨ds.length - (i + 1), by omega, rfl, hlt, F2, s2, r2⟩, fun x H' hy => ?_⟩
    have hd : ds[i]? = some ds[i] := List.getElem?_eq_getElem hlt
    obtain ⟨F2, s2, r2, dx⟩ := it.yld i _ F' (ρ ++ [p]) _ H x H' s (Pre.push _ _) r (hC _) hd hy
    refine tg x σ H' _ ?_
    refine turn i _ _ hd F2 (ρ ++ [p]) (wipe σ vs) H' x _ r2 ((e.mono (s.trans s2) (Pre.push _ _)).wipes vs) dx fun env3 h3 F3 ρ3 σ3 H3 s3 p3 r3 e3 q3 => ?_
    obtain ⟨rfl, q3⟩ := q3
    have eρ : ρ3 = ρ ++ [p] := pre_eq p3 (by rw [r3.len, r2.len])
    subst eρ
    refine q3 F3 _ σ3 H3 _ r3 e3 fun b h4 F4 ρ4 H4 s4 p4 r4 q4 => ?_
    obtain ⟨rfl, q4⟩ := q4
    have eρ : ρ4 = ρ ++ [p] := pre_eq p4 (by rw [r4.len, r3.len])
    subst eρ
    have ss : Same F F4 := s.trans (s2.trans (s3.trans s4))
    cases b with
    | true =>
      rw [if_pos rfl] at q4 ⊢
      refine q4 F4 _ σ3 H4 _ r4 (e3.mono s4 p4) fun y h5 v F5 ρ5 H5 s5 p5 r5 dv q5 => ?_
      obtain ⟨rfl, pp, rfl, ef⟩ := q5
      have eρ : ρ5 = ρ ++ [p] := pre_eq p5 (by rw [r5.len, r4.len])
      subst eρ
      obtain ⟨us, g1, g2, g3⟩ := got F5 H5 _ r5
      refine ⟨us, g1, ?_, F5, ss.trans s5, ?_⟩
      · rw [← g3.len, List.length_map]
        have := List.length_filterMap_le fs (List.range i)
        rw [List.length_range] at this
        omega
      · have z := r5.put (i := h1.length) (o := .lst (((List.range i).filterMap fs).map D.p)) (o' := .lst (((List.range (i + 1)).filterMap fs).map D.p)) (by simp) hpl ⟨us ++ [v], rfl, by
          rw [filterMap_succ, ef, List.map_append]
          exact g3.append (.cons dv .nil)⟩
        rw [List.set_append_right _ _ (Nat.le_refl _), Nat.sub_self] at z
        exact z
    | false =>
      rw [if_neg Bool.false_ne_true] at q4 ⊢
      refine ⟨F4, ss, ?_⟩
      rw [filterMap_succ, q4]
      simpa using r4
  · have ei : i = ds.length := by omega
    subst ei
    refine .inl ⟨it.stop F' (ρ ++ [p]) _ H s (Pre.push _ _) r (hC _), ?_⟩
    obtain ⟨us, g1, g2, g3⟩ := got F' H _ r
    refine fin p F' us H s g2 g1 hp r g3.pure (r.pop r1.len (r1.wish.mono s (Pre.refl _)) fun i o a hi ha u q => ?_)
    obtain ⟨a0, u0, f1, f2, f3, f4⟩ := r1.own i o hi
    exact f4.low q
/-- [..]: a new list that stays as it is -/
theorem ve_lc {wi : TI} {g : TG} {tt : TT} {te : TE} {vs : List Nat} (tg : TgOk g vs)
    (q : VI K Θ wi env h fun ds C h1 => ∃ fs : Nat → Option P, ds.length < sizeLine ∧ (∀ acc, C (h1 ++ [some (.lst acc)])) ∧
      (∀ i d acc, ds[i]? = some d → LcTurn K Θ g tt te (wipeD env vs) d (h1 ++ [some (.lst acc)]) (fs i)) ∧ R (dL ((List.range ds.length).filterMap fs)) h1) : VE K Θ (tLc wi g tt te vs) env h R := fun F ρ σ H Q rl e k =>
  q F ρ σ H _ rl e fun ds C h1 J F1 ρ1 H1 s1 p1 r1 it q1 => by
    obtain ⟨fs, hl, hC, turn, q1⟩ := q1
    refine lc_run (wi := wi) tg Q r1 (e.mono s1 p1) it fs hl hC turn fun p F' us H s hn hp hp1 r rp r2 => ?_
    have sn : Same F' (upd F' p (.lst us)) := same_new hn
    refine k _ h1 (.ref p) (upd F' p (.lst us)) ρ1 H (s1.trans (s.trans sn)) p1 ?_ (.p (.lst (.of upd_same) (rp.mono sn))) q1
    have np : ∀ P ∈ Θ.tabs, P ≠ p := fun P hP => by
      obtain ⟨ps, z, _⟩ := (r2.tab P hP).2
      rintro rfl
      rw [hp] at z
      cases z
    refine ⟨⟨fun b o e => ?_, r2.len, fun i o hi => ?_, r2.inj, fun P hP => ⟨by rw [upd_ne (np P hP)]; exact (r2.tab P hP).1, (r2.tab P hP).2⟩⟩, r2.wish.mono sn (Pre.refl _)⟩
    · by_cases hb : b = p
      · subst hb; rw [upd_same] at e; rw [hp]; exact e
      · rw [upd_ne hb] at e; exact r2.same b o e
    · obtain ⟨a, u, f1, f2, f3, f4⟩ := r2.own i o hi
      have ha : a ≠ p := fun z => by
        subst z
        obtain ⟨a0, u0, g1, g2, g3, g4⟩ := r1.own i o hi
        rw [f1] at g1; cases g1
        rw [hp1] at g3; cases g3
      exact ⟨a, u, f1, by rw [upd_ne ha]; exact f2, f3, f4.mono sn (Pre.refl _)⟩
/-- [..]: a new list that is owned -/
theorem ve_lcO {wi : TI} {g : TG} {tt : TT} {te : TE} {vs : List Nat} (tg : TgOk g vs)
    (q : VI K Θ wi env h fun ds C h1 => ∃ fs : Nat → Option P, ds.length < sizeLine ∧ (∀ acc, C (h1 ++ [some (.lst acc)])) ∧
      (∀ i d acc, ds[i]? = some d → LcTurn K Θ g tt te (wipeD env vs) d (h1 ++ [some (.lst acc)]) (fs i)) ∧ R (.own h1.length) (h1 ++ [some (.lst (((List.range ds.length).filterMap fs).map D.p))])) : VE K Θ (tLc wi g tt te vs) env h R := fun F ρ σ H Q rl e k =>
  q F ρ σ H _ rl e fun ds C h1 J F1 ρ1 H1 s1 p1 r1 it q1 => by
    obtain ⟨fs, hl, hC, turn, q1⟩ := q1
    refine lc_run (wi := wi) tg Q r1 (e.mono s1 p1) it fs hl hC turn fun p F' us H s hn hp hp1 r rp r2 => ?_
    exact k _ _ (.ref p) F' (ρ1 ++ [p]) H (s1.trans s) (p1.trans (Pre.push _ _)) r (.own (by rw [← r1.len]; simp)) q1
end
end Kb

/-! Operations upon data. -/
namespace Kb
open PySem PySem.Spec PyProof.Rows L2
section
variable {X : Cx}
def rAddS' : R2 := fun x y H Q => ∃ i j, x = .str i ∧ y = .str j ∧ i.length + j.length ≤ sizeLine ∧ Q (.str (i ++ j)) H
def rAddI : R2 := rI0 fun i j => .int (i + j)
def rAddU (K : PySem.W.Frag) : R2 := fun x y H Q => rAddI x y H Q ∨ (rAddS' x y H Q ∨ (rCatT K x y H Q ∨ rCat x y H Q))
theorem op_addU : OpR X (binaryOp .Add) (rAddU X.K) := OpR.or (r := rAddI) op_add (OpR.or (r := rAddS') op_add_str (op_catT.or op_cat))
def rEqU (K : PySem.W.Frag) : R2 := fun x y H Q => rEq x y H Q ∨ rEqD K x y H Q
def rNeU (K : PySem.W.Frag) : R2 := fun x y H Q => rNe x y H Q ∨ rNeD K x y H Q
theorem op_eqU (hu : X.A.units + 64 < cLine) : OpR X (compareOp .Eq) (rEqU X.K) := op_eq.or (op_eqD hu)
theorem op_neU (hu : X.A.units + 64 < cLine) : OpR X (compareOp .NotEq) (rNeU X.K) := op_ne.or (op_neD hu)
def rInSg : R2 := fun x y H Q => ∃ (c : Nat) (z : Str), x = .str ⟨#[c]⟩ ∧ y = .str z ∧ Q (.bl (decide (c ∈ z.cps.toList))) H
def rInU (K : PySem.W.Frag) : R2 := fun x y H Q => rIn K false x y H Q ∨ rInSg x y H Q
def rNiSg : R2 := fun x y H Q => ∃ (c : Nat) (z : Str), x = .str ⟨#[c]⟩ ∧ y = .str z ∧ Q (.bl (!decide (c ∈ z.cps.toList))) H
def rNiU (K : PySem.W.Frag) : R2 := fun x y H Q => rIn K true x y H Q ∨ rNiSg x y H Q
theorem op_inU : OpR X (compareOp .In) (rInU X.K) := OpR.or op_in_seq op_in_sign
theorem op_ninU : OpR X (compareOp .NotIn) (rNiU X.K) := OpR.or op_notIn_seq op_notIn_sign
def rInt1 : List V → Hp → VK → Prop := fun xs H Q => (∃ i, xs = [.int i] ∧ Q (.int i) H) ∨ ∃ k, xs = [.bl k] ∧ Q (.int (if k then 1 else 0)) H
def rIntS : List V → Hp → VK → Prop := fun xs H Q => ∃ a n, xs = [.str a] ∧ PySem.intText? a = some n ∧ a.length ≤ 640 ∧ Q (.int n) H
def rIntU : List V → Hp → VK → Prop := fun xs H Q => rInt1 xs H Q ∨ rIntS xs H Q
theorem call_intU : CallR X (.type "int") rIntU := CallR.or (r := rInt1) (r' := rIntS) call_int1 call_int_str
def rIsiU (K : PySem.W.Frag) : List V → Hp → VK → Prop := fun xs H Q => rIsi K xs H Q ∨ rIsiT K xs H Q
theorem call_isiU : CallR X (.builtin "isinstance") (rIsiU X.K) := call_isi.or call_isiT
def rStrI : List V → Hp → VK → Prop := fun xs H Q => ∃ i, xs = [.int i] ∧ i.natAbs.log2 < 1920 ∧ Q (.str (toString i)) H
def rLenU (K : PySem.W.Frag) : List V → Hp → VK → Prop := fun xs H Q => ∃ x n, xs = [x] ∧ LenV K x H n ∧ Q (.int n) H
end
section
variable {K : PySem.W.Frag} {Θ : Ctx} {env : Env'} {h : Hs} {R : D → Hs → Prop} {x y d : D}
/-! ### two operands -/
theorem v2_I {C : Int → Int → Prop} {g : Int → Int → Int} {i j : Int} (c : C i j) (q : R (dI (g i j)) h) : V2 K Θ (rI C fun i j => .int (g i j)) (dI i) (dI j) h R := fun F ρ H vx vy Q rl a b k => by
  obtain rfl := a.int
  obtain rfl := b.int
  exact ⟨i, j, rfl, rfl, c, k _ h _ F ρ H (Same.refl _) (Pre.refl _) rl (.p (.int _)) q⟩
theorem v2_I0 {g : Int → Int → Int} {i j : Int} (q : R (dI (g i j)) h) : V2 K Θ (rI0 fun i j => .int (g i j)) (dI i) (dI j) h R := fun F ρ H vx vy Q rl a b k => by
  obtain rfl := a.int
  obtain rfl := b.int
  exact ⟨i, j, rfl, rfl, k _ h _ F ρ H (Same.refl _) (Pre.refl _) rl (.p (.int _)) q⟩
theorem v2_B0 {g : Int → Int → Bool} {i j : Int} (q : R (dB (g i j)) h) : V2 K Θ (rI0 fun i j => .bl (g i j)) (dI i) (dI j) h R := fun F ρ H vx vy Q rl a b k => by
  obtain rfl := a.int
  obtain rfl := b.int
  exact ⟨i, j, rfl, rfl, k _ h _ F ρ H (Same.refl _) (Pre.refl _) rl (.p (.bl _)) q⟩
theorem v2_ip {g : Int → Int → Int} {i j : Int} (q : R (dI (g i j)) h) : V2 K Θ (ipI g) (dI i) (dI j) h R := fun F ρ H vx vy Q rl a b k => by
  obtain rfl := a.int
  obtain rfl := b.int
  exact ⟨i, j, rfl, rfl, k _ h _ F ρ H (Same.refl _) (Pre.refl _) rl (.p (.int _)) q⟩
theorem v2_or1 {r r' : R2} (q : V2 K Θ r x y h R) : V2 K Θ (fun x y H Q => r x y H Q ∨ r' x y H Q) x y h R := fun F ρ H vx vy Q rl a b k => .inl (q F ρ H vx vy Q rl a b k)
theorem v2_or2 {r r' : R2} (q : V2 K Θ r' x y h R) : V2 K Θ (fun x y H Q => r x y H Q ∨ r' x y H Q) x y h R := fun F ρ H vx vy Q rl a b k => .inr (q F ρ H vx vy Q rl a b k)
theorem v2_addI {i j : Int} (q : R (dI (i + j)) h) : V2 K Θ (rAddU K) (dI i) (dI j) h R := v2_or1 (v2_I0 q)
theorem v2_addS {i j : Str} (hl : i.length + j.length ≤ sizeLine) (q : R (dS (i ++ j)) h) : V2 K Θ (rAddU K) (dS i) (dS j) h R := v2_or2 (v2_or1 fun F ρ H vx vy Q rl a b k => by
  obtain rfl := a.str
  obtain rfl := b.str
  exact ⟨i, j, rfl, rfl, hl, k _ h _ F ρ H (Same.refl _) (Pre.refl _) rl (.p (.str _)) q⟩)
theorem v2_addT {i j : List P} (hn : i ≠ []) (hl : i.length + j.length ≤ sizeLine) (q : R (dT (i ++ j)) h) : V2 K Θ (rAddU K) (dT i) (dT j) h R := v2_or2 (v2_or2 (v2_or1 fun F ρ H vx vy Q rl a b k => by
  cases a with
  | p a =>
    cases b with
    | p b =>
      cases a with
      | tup a1 a2 =>
        cases b with
        | tup b1 b2 =>
          refine ⟨_, _, _, _, rfl, rfl, sqT_mono rl.same a1, sqT_mono rl.same b1, fun z => ?_, by rw [← a2.len, ← b2.len]; exact hl, fun z => ?_, fun z p hp => ?_⟩
          · subst z; cases a2; exact hn rfl
          · subst z; cases b2
            rw [List.append_nil] at q
            exact k _ h _ F ρ H (Same.refl _) (Pre.refl _) rl (.p (.tup a1 a2)) q
          · have sn := fun o => same_new (o := o) (rl.free hp)
            exact k _ h _ _ ρ _ (sn _) (Pre.refl _) (rl.frz hp) (.p (.tup (.of upd_same) ((a2.append b2).mono (sn _)))) q))
theorem v2_eqI {i j : Int} (q : R (dB (decide (i = j))) h) : V2 K Θ (rEqU K) (dI i) (dI j) h R := v2_or1 fun F ρ H vx vy Q rl a b k => by
  obtain rfl := a.int
  obtain rfl := b.int
  refine ⟨rfl, ?_⟩
  have e : decide (V.int i = V.int j) = decide (i = j) := decide_eq_decide.mpr ⟨V.int.inj, congrArg V.int⟩
  rw [e]
  exact k _ h _ F ρ H (Same.refl _) (Pre.refl _) rl (.p (.bl _)) q
theorem v2_eqB {i j : Bool} (q : R (dB (decide (i = j))) h) : V2 K Θ (rEqU K) (dB i) (dB j) h R := v2_or1 fun F ρ H vx vy Q rl a b k => by
  obtain rfl := a.bl
  obtain rfl := b.bl
  refine ⟨rfl, ?_⟩
  have e : decide (V.bl i = V.bl j) = decide (i = j) := decide_eq_decide.mpr ⟨V.bl.inj, congrArg V.bl⟩
  rw [e]
  exact k _ h _ F ρ H (Same.refl _) (Pre.refl _) rl (.p (.bl _)) q
theorem v2_eqS {i j : Str} (q : R (dB (decide (i = j))) h) : V2 K Θ (rEqU K) (dS i) (dS j) h R := v2_or1 fun F ρ H vx vy Q rl a b k => by
  obtain rfl := a.str
  obtain rfl := b.str
  refine ⟨rfl, ?_⟩
  have e : decide (V.str i = V.str j) = decide (i = j) := decide_eq_decide.mpr ⟨V.str.inj, congrArg V.str⟩
  rw [e]
  exact k _ h _ F ρ H (Same.refl _) (Pre.refl _) rl (.p (.bl _)) q
theorem v2_neI {i j : Int} (q : R (dB (!decide (i = j))) h) : V2 K Θ (rNeU K) (dI i) (dI j) h R := v2_or1 fun F ρ H vx vy Q rl a b k => by
  obtain rfl := a.int
  obtain rfl := b.int
  refine ⟨rfl, ?_⟩
  have e : decide (V.int i = V.int j) = decide (i = j) := decide_eq_decide.mpr ⟨V.int.inj, congrArg V.int⟩
  rw [e]
  exact k _ h _ F ρ H (Same.refl _) (Pre.refl _) rl (.p (.bl _)) q
theorem v2_neB {i j : Bool} (q : R (dB (!decide (i = j))) h) : V2 K Θ (rNeU K) (dB i) (dB j) h R := v2_or1 fun F ρ H vx vy Q rl a b k => by
  obtain rfl := a.bl
  obtain rfl := b.bl
  refine ⟨rfl, ?_⟩
  have e : decide (V.bl i = V.bl j) = decide (i = j) := decide_eq_decide.mpr ⟨V.bl.inj, congrArg V.bl⟩
  rw [e]
  exact k _ h _ F ρ H (Same.refl _) (Pre.refl _) rl (.p (.bl _)) q
theorem v2_neS {i j : Str} (q : R (dB (!decide (i = j))) h) : V2 K Θ (rNeU K) (dS i) (dS j) h R := v2_or1 fun F ρ H vx vy Q rl a b k => by
  obtain rfl := a.str
  obtain rfl := b.str
  refine ⟨rfl, ?_⟩
  have e : decide (V.str i = V.str j) = decide (i = j) := decide_eq_decide.mpr ⟨V.str.inj, congrArg V.str⟩
  rw [e]
  exact k _ h _ F ρ H (Same.refl _) (Pre.refl _) rl (.p (.bl _)) q
/-- data as the library compares them -/
def pyOf : P → PyData
  | .non => .none
  | .bl b => .bool b
  | .int i => .int i
  | .str s => .str s
  | .tup xs => .tuple (pyOfs xs)
  | .ktp xs => .tuple (pyOfs xs)
  | .lst xs => .list (pyOfs xs)
  | .ins _ _ => .none
  | .ty _ => .none
  | .cls _ => .none
where pyOfs : List P → List PyData
  | [] => []
  | x :: xs => pyOf x :: pyOfs xs
/-- None, bools, ints, texts, tuples and lists of these -/
def plainP : P → Bool
  | .non => true
  | .bl _ => true
  | .int _ => true
  | .str _ => true
  | .tup xs => plainPs xs
  | .ktp xs => plainPs xs
  | .lst xs => plainPs xs
  | _ => false
where plainPs : List P → Bool
  | [] => true
  | x :: xs => plainP x && plainPs xs
mutual
theorem RP.dp {F H : Hp} (s : Same F H) : ∀ {x : P} {v : V}, RP K F x v → plainP x = true → Dp K H v (pyOf x)
  | _, _, .non, _ => .non
  | _, _, .bl b, _ => .bl b
  | _, _, .int i, _ => .int i
  | _, _, .str i, _ => .str i
  | .tup xs, _, .tup a r, c => .tup (sqT_mono s a) (RPs.dp s r (by unfold plainP at c; exact c))
  | .ktp xs, _, .ktp a r, c => .tup (a _) (RPs.dp s r (by unfold plainP at c; exact c))
  | .lst xs, _, .lst a r, c => .lst (s.seq a) (RPs.dp s r (by unfold plainP at c; exact c))
  | _, _, .ins _ _, c => by simp [plainP] at c
  | _, _, .ty _, c => by simp [plainP] at c
  | _, _, .cls _, c => by simp [plainP] at c
theorem RPs.dp {F H : Hp} (s : Same F H) : ∀ {xs : List P} {vs : List V}, RPs K F xs vs → plainP.plainPs xs = true → DpAll K H vs (pyOf.pyOfs xs)
  | _, _, .nil, _ => .nil
  | x :: xs, _, .cons a r, c => by
    unfold plainP.plainPs at c
    rw [Bool.and_eq_true] at c
    exact .cons (RP.dp s a c.1) (RPs.dp s r c.2)
end
theorem v2_eqP {x y : P} (hx : plainP x = true) (hy : plainP y = true) (sx : SeqAt.shaped (pyOf x) = true) (sy : SeqAt.shaped (pyOf y) = true) (q : R (dB (PyData.eqv (pyOf x) (pyOf y))) h) : V2 K Θ (rEqU K) (.p x) (.p y) h R := v2_or2 fun F ρ H vx vy Q rl a b k => by
  cases a with
  | p a =>
    cases b with
    | p b => exact ⟨_, _, a.dp rl.same hx, b.dp rl.same hy, sx, sy, k _ h _ F ρ H (Same.refl _) (Pre.refl _) rl (.p (.bl _)) q⟩
theorem v2_neP {x y : P} (hx : plainP x = true) (hy : plainP y = true) (sx : SeqAt.shaped (pyOf x) = true) (sy : SeqAt.shaped (pyOf y) = true) (q : R (dB (!PyData.eqv (pyOf x) (pyOf y))) h) : V2 K Θ (rNeU K) (.p x) (.p y) h R := v2_or2 fun F ρ H vx vy Q rl a b k => by
  cases a with
  | p a =>
    cases b with
    | p b => exact ⟨_, _, a.dp rl.same hx, b.dp rl.same hy, sx, sy, k _ h _ F ρ H (Same.refl _) (Pre.refl _) rl (.p (.bl _)) q⟩
/-- is it None -/
def isNonD : D → Bool
  | .p .non => true
  | _ => false
theorem isNon_v {F : Hp} {ρ : List Addr} {d : D} {v : V} (a : RD K F ρ d v) : decide (v = .non) = isNonD d := by
  cases a with
  | p a => cases a <;> rfl
  | own _ => rfl
theorem v2_isN (q : R (dB (isNonD x)) h) : V2 K Θ (fun x y H Q => y = V.non ∧ Q (.bl (decide (x = .non))) H) x dN h R := fun F ρ H vx vy Q rl a b k => by
  obtain rfl := b.non
  refine ⟨rfl, ?_⟩
  rw [isNon_v a]
  exact k _ h _ F ρ H (Same.refl _) (Pre.refl _) rl (.p (.bl _)) q
theorem v2_notN (q : R (dB (!isNonD x)) h) : V2 K Θ (fun x y H Q => y = V.non ∧ Q (.bl (!decide (x = .non))) H) x dN h R := fun F ρ H vx vy Q rl a b k => by
  obtain rfl := b.non
  refine ⟨rfl, ?_⟩
  rw [isNon_v a]
  exact k _ h _ F ρ H (Same.refl _) (Pre.refl _) rl (.p (.bl _)) q
theorem v1_U {g : Int → Int} {i : Int} (q : R (dI (g i)) h) : V1 K Θ (rU fun i => .int (g i)) (dI i) h R := fun F ρ H vx Q rl a k => by
  obtain rfl := a.int
  exact ⟨i, rfl, k _ h _ F ρ H (Same.refl _) (Pre.refl _) rl (.p (.int _)) q⟩
/-! ### items -/
theorem RPs.at_ {F : Hp} {ds : List P} {vs : List V} {i : Int} {d : P} (r : RPs K F ds vs) (h : atI ds i = some d) : ∃ v, atI vs i = some v ∧ RP K F d v := by
  unfold atI at h ⊢
  rw [← r.len]
  cases e : ixN ds.length i with
  | none => rw [e] at h; cases h
  | some j =>
    rw [e] at h
    exact r.get h
theorem RA.at_ {F : Hp} {ρ : List Addr} {ds : List D} {vs : List V} {i : Int} {d : D} (r : RA K F ρ ds vs) (h : atI ds i = some d) : ∃ v, atI vs i = some v ∧ RD K F ρ d v := by
  unfold atI at h ⊢
  rw [← r.len]
  cases e : ixN ds.length i with
  | none => rw [e] at h; cases h
  | some j =>
    rw [e] at h
    exact r.get h
theorem v2_ixL {xs : List P} {i : Int} {p : P} (ha : atI xs i = some p) (q : R (.p p) h) : V2 K Θ (rIx K) (dL xs) (dI i) h R := fun F ρ H vx vy Q rl a b k => by
  obtain rfl := b.int
  cases a with
  | p a =>
    cases a with
    | lst a r =>
      obtain ⟨v, h1, h2⟩ := r.at_ ha
      exact .inl ⟨_, _, i, v, rfl, rfl, rl.same.seq a, h1, k _ h _ F ρ H (Same.refl _) (Pre.refl _) rl (.p h2) q⟩
theorem v2_ixT {xs : List P} {i : Int} {p : P} (ha : atI xs i = some p) (q : R (.p p) h) : V2 K Θ (rIx K) (dT xs) (dI i) h R := fun F ρ H vx vy Q rl a b k => by
  obtain rfl := b.int
  cases a with
  | p a =>
    cases a with
    | tup a r =>
      obtain ⟨v, h1, h2⟩ := r.at_ ha
      exact .inr (.inl ⟨_, _, i, v, rfl, rfl, sqT_mono rl.same a, h1, k _ h _ F ρ H (Same.refl _) (Pre.refl _) rl (.p h2) q⟩)
theorem v2_ixS {z : Str} {i : Int} {c : Nat} (hl : z.length ≤ sizeLine) (ha : atI z.cps.toList i = some c) (q : R (dS ⟨#[c]⟩) h) : V2 K Θ (rIx K) (dS z) (dI i) h R := fun F ρ H vx vy Q rl a b k => by
  obtain rfl := a.str
  obtain rfl := b.int
  exact .inr (.inr ⟨z, i, c, rfl, rfl, hl, ha, k _ h _ F ρ H (Same.refl _) (Pre.refl _) rl (.p (.str _)) q⟩)
theorem v2_ixO {n : Nat} {xs : List D} {i : Int} (hn : h[n]? = some (some (.lst xs))) (ha : atI xs i = some d) (q : R d h) : V2 K Θ (rIx K) (.own n) (dI i) h R := fun F ρ H vx vy Q rl a b k => by
  obtain rfl := b.int
  cases a with
  | own a =>
    obtain ⟨p, u, e1, e2, e3, vs, e4, e5⟩ := rl.own _ _ hn
    rw [a] at e1; cases e1
    subst e4
    obtain ⟨v, h1, h2⟩ := e5.at_ ha
    exact .inl ⟨_, _, i, v, rfl, rfl, .of e3, h1, k _ h _ F ρ H (Same.refl _) (Pre.refl _) rl h2 q⟩
/-! ### slices -/
def VO (K : PySem.W.Frag) (Θ : Ctx) (to : TO) (env : Env') (h : Hs) (R : Option Int → Hs → Prop) : Prop :=
  ∀ (F : Hp) (ρ : List Addr) (σ : L2.St) (H : Hp) (Q : Option Int → Hp → Prop), Rel K Θ F ρ h H → REnv K F ρ env σ →
    (∀ (d : Option Int) (h' : Hs) (F' : Hp) (ρ' : List Addr) (H' : Hp), Same F F' → Pre ρ ρ' → Rel K Θ F' ρ' h' H' → R d h' → Q d H') → to σ H Q
theorem vo_none {R : Option Int → Hs → Prop} (q : R none h) : VO K Θ tNoPart env h R := fun F ρ σ H Q rl e k => k none h F ρ H (Same.refl _) (Pre.refl _) rl q
theorem vo_some {te : TE} {R : Option Int → Hs → Prop} (q : VE K Θ te env h fun x h1 => ∃ i, x = dI i ∧ R (some i) h1) : VO K Θ (tPart te) env h R := fun F ρ σ H Q rl e k =>
  q F ρ σ H _ rl e fun x h1 v F1 ρ1 H1 s1 p1 r1 dx q1 => by
    obtain ⟨i, rfl, q1⟩ := q1
    obtain rfl := dx.int
    exact ⟨i, rfl, k _ h1 F1 ρ1 H1 s1 p1 r1 q1⟩
def cutP {α : Type} (xs : List α) (lo hi : Option Int) : List α := (xs.drop (HT.sIx xs.length 0 lo)).take (HT.sIx xs.length xs.length hi - HT.sIx xs.length 0 lo)
theorem RPs.cut {F : Hp} {xs : List P} {vs : List V} (r : RPs K F xs vs) (lo hi : Option Int) : RPs K F (cutP xs lo hi) (cutV vs lo hi) := by
  unfold cutP cutV
  rw [r.len]
  exact (r.drop _).take _
theorem cut_len {α : Type} (xs : List α) (lo hi : Option Int) : (cutP xs lo hi).length ≤ xs.length := by
  unfold cutP
  rw [List.length_take, List.length_drop]
  omega
theorem ve_slL {te : TE} {tl th : TO} (q : VE K Θ te env h fun x h1 => VO K Θ tl env h1 fun lo h2 => VO K Θ th env h2 fun hi h3 => ∃ xs, x = dL xs ∧ R (dL (cutP xs lo hi)) h3) : VE K Θ (tSl (rSlL K) te tl th) env h R := fun F ρ σ H Q rl e k =>
  q F ρ σ H _ rl e fun x h1 v F1 ρ1 H1 s1 p1 r1 dx q1 => q1 F1 ρ1 σ H1 _ r1 (e.mono s1 p1) fun lo h2 F2 ρ2 H2 s2 p2 r2 q2 => q2 F2 ρ2 σ H2 _ r2 (e.mono (s1.trans s2) (p1.trans p2)) fun hi h3 F3 ρ3 H3 s3 p3 r3 q3 => by
    obtain ⟨xs, rfl, q3⟩ := q3
    have dx3 := dx.mono (s2.trans s3) (p2.trans p3)
    cases dx3 with
    | p a =>
      cases a with
      | lst a r =>
        refine ⟨_, _, rfl, r3.same.seq a, fun p hp => ?_⟩
        have sn := fun o => same_new (o := o) (r3.free hp)
        exact k _ h3 _ _ ρ3 _ ((s1.trans (s2.trans s3)).trans (sn _)) (p1.trans (p2.trans p3)) (r3.frz hp) (.p (.lst (.of upd_same) ((r.cut lo hi).mono (sn _)))) q3
/-! ### calls of built-ins -/
theorem vc_len {n : Nat} (l : match x with | .p (.str y) => y.length ≤ sizeLine ∧ n = y.length | .p (.lst xs) => n = xs.length | .p (.tup xs) => n = xs.length | .own i => ∃ xs, h[i]? = some (some (.lst xs)) ∧ n = xs.length | _ => False) (q : R (dI n) h) :
    VC K Θ (fun xs H Q => ∃ x n, xs = [x] ∧ LenV K x H n ∧ Q (.int n) H) [x] h R := fun F ρ H vs Q rl a k => by
  cases a with
  | cons a b =>
    cases b
    have fin : ∀ v : V, LenV K v H n → ∃ x n, [v] = [x] ∧ LenV K x H n ∧ Q (.int n) H := fun v l => ⟨v, n, rfl, l, k _ h _ F ρ H (Same.refl _) (Pre.refl _) rl (.p (.int _)) q⟩
    cases a with
    | p a =>
      cases a with
      | str s => exact fin _ l
      | lst a r => exact fin _ (.inl ⟨_, rl.same.seq a, by rw [← r.len]; exact l⟩)
      | tup a r => exact fin _ (.inr ⟨_, sqT_mono rl.same a, by rw [← r.len]; exact l⟩)
      | _ => exact l.elim
    | own a =>
      obtain ⟨xs, hn, l⟩ := l
      obtain ⟨p, u, e1, e2, e3, vs, e4, e5⟩ := rl.own _ _ hn
      rw [a] at e1; cases e1
      subst e4
      exact fin _ (.inl ⟨vs, .of e3, by rw [← e5.len]; exact l⟩)
theorem vc_intI {i : Int} (q : R (dI i) h) : VC K Θ rIntU [dI i] h R := fun F ρ H vs Q rl a k => by
  cases a with
  | cons a b =>
    cases b
    obtain rfl := a.int
    exact .inl (.inl ⟨i, rfl, k _ h _ F ρ H (Same.refl _) (Pre.refl _) rl (.p (.int _)) q⟩)
theorem vc_intS {s : Str} {n : Int} (e : PySem.intText? s = some n) (hl : s.length ≤ 640) (q : R (dI n) h) : VC K Θ rIntU [dS s] h R := fun F ρ H vs Q rl a k => by
  cases a with
  | cons a b =>
    cases b
    obtain rfl := a.str
    exact .inr ⟨s, n, rfl, e, hl, k _ h _ F ρ H (Same.refl _) (Pre.refl _) rl (.p (.int _)) q⟩
theorem vc_str {i : Int} (hl : i.natAbs.log2 < 1920) (q : R (dS (toString i)) h) : VC K Θ (fun xs H Q => ∃ i, xs = [V.int i] ∧ i.natAbs.log2 < 1920 ∧ Q (.str (toString i)) H) [dI i] h R := fun F ρ H vs Q rl a k => by
  cases a with
  | cons a b =>
    cases b
    obtain rfl := a.int
    exact ⟨i, rfl, hl, k _ h _ F ρ H (Same.refl _) (Pre.refl _) rl (.p (.str _)) q⟩
theorem vc_2 {g : Int → Int → Int} {i j : Int} (q : R (dI (g i j)) h) : VC K Θ (fun xs H Q => ∃ i j, xs = [V.int i, V.int j] ∧ Q (.int (g i j)) H) [dI i, dI j] h R := fun F ρ H vs Q rl a k => by
  cases a with
  | cons a b =>
    cases b with
    | cons b c =>
      cases c
      obtain rfl := a.int
      obtain rfl := b.int
      exact ⟨i, j, rfl, k _ h _ F ρ H (Same.refl _) (Pre.refl _) rl (.p (.int _)) q⟩
theorem vc_min2 {i j : Int} (q : R (dI (if j < i then j else i)) h) : VC K Θ (fun xs H Q => ∃ i j, xs = [V.int i, V.int j] ∧ Q (.int (if j < i then j else i)) H) [dI i, dI j] h R := vc_2 (g := fun i j => if j < i then j else i) q
theorem vc_max2 {i j : Int} (q : R (dI (if j > i then j else i)) h) : VC K Θ (fun xs H Q => ∃ i j, xs = [V.int i, V.int j] ∧ Q (.int (if j > i then j else i)) H) [dI i, dI j] h R := vc_2 (g := fun i j => if j > i then j else i) q
/-- the items of a list or tuple -/
def SeqP (d : D) (h : Hs) (ps : List P) : Prop := match d with
  | .p (.lst xs) => xs = ps
  | .p (.tup xs) => xs = ps
  | .own i => h[i]? = some (some (.lst (ps.map D.p)))
  | _ => False
theorem SeqP.v {F : Hp} {ρ : List Addr} {H : Hp} {d : D} {v : V} {ps : List P} (rl : Rel K Θ F ρ h H) (a : RD K F ρ d v) (s : SeqP d h ps) : ∃ p vs, v = .ref p ∧ (SqL K H p vs ∨ SqT K H p vs) ∧ RPs K F ps vs := by
  cases a with
  | p a =>
    cases a with
    | lst a r => cases s; exact ⟨_, _, rfl, .inl (rl.same.seq a), r⟩
    | tup a r => cases s; exact ⟨_, _, rfl, .inr (sqT_mono rl.same a), r⟩
    | _ => exact s.elim
  | own a =>
    obtain ⟨p, u, e1, e2, e3, vs, e4, e5⟩ := rl.own _ _ s
    rw [a] at e1; cases e1
    subst e4
    exact ⟨_, _, rfl, .inl (.of e3), e5.pure⟩
theorem vc_tuple {ps : List P} (s : SeqP x h ps) (q : R (dT ps) h) : VC K Θ (fun xs H Q => ∃ p ys, xs = [V.ref p] ∧ ((SqL K H p ys ∧ ∀ l, H l = none → Q (.ref l) (upd H l (.tup ys))) ∨ (SqT K H p ys ∧ Q (.ref p) H))) [x] h R := fun F ρ H vs Q rl a k => by
  cases a with
  | cons a b =>
    cases b
    cases a with
    | p a =>
      cases a with
      | lst a r =>
        cases s
        refine ⟨_, _, rfl, .inl ⟨rl.same.seq a, fun l hl => ?_⟩⟩
        have sn := fun o => same_new (o := o) (rl.free hl)
        exact k _ h _ _ ρ _ (sn _) (Pre.refl _) (rl.frz hl) (.p (.tup (.of upd_same) (r.mono (sn _)))) q
      | tup a r =>
        cases s
        exact ⟨_, _, rfl, .inr ⟨sqT_mono rl.same a, k _ h _ F ρ H (Same.refl _) (Pre.refl _) rl (.p (.tup a r)) q⟩⟩
      | _ => exact s.elim
    | own a =>
      obtain ⟨p, u, e1, e2, e3, vs, e4, e5⟩ := rl.own _ _ s
      rw [a] at e1; cases e1
      subst e4
      refine ⟨_, _, rfl, .inl ⟨.of e3, fun l hl => ?_⟩⟩
      have sn := fun o => same_new (o := o) (rl.free hl)
      exact k _ h _ _ ρ _ (sn _) (Pre.refl _) (rl.frz hl) (.p (.tup (.of upd_same) (e5.pure.mono (sn _)))) q
/-- list(..): a new list that stays; one that is owned -/
theorem vc_list {ps : List P} (s : SeqP x h ps) (q : R (dL ps) h) : VC K Θ (fun xs H Q => ∃ p ys, xs = [V.ref p] ∧ (SqL K H p ys ∨ SqT K H p ys) ∧ ∀ l, H l = none → Q (.ref l) (upd H l (.lst ys))) [x] h R := fun F ρ H vs Q rl a k => by
  cases a with
  | cons a b =>
    cases b
    obtain ⟨p, us, rfl, sq, r⟩ := s.v rl a
    refine ⟨p, us, rfl, sq, fun l hl => ?_⟩
    have sn := fun o => same_new (o := o) (rl.free hl)
    exact k _ h _ _ ρ _ (sn _) (Pre.refl _) (rl.frz hl) (.p (.lst (.of upd_same) (r.mono (sn _)))) q
theorem vc_listO {ps : List P} (s : SeqP x h ps) (q : R (.own h.length) (h ++ [some (.lst (ps.map D.p))])) : VC K Θ (fun xs H Q => ∃ p ys, xs = [V.ref p] ∧ (SqL K H p ys ∨ SqT K H p ys) ∧ ∀ l, H l = none → Q (.ref l) (upd H l (.lst ys))) [x] h R := fun F ρ H vs Q rl a k => by
  cases a with
  | cons a b =>
    cases b
    obtain ⟨p, us, rfl, sq, r⟩ := s.v rl a
    refine ⟨p, us, rfl, sq, fun l hl => ?_⟩
    exact k _ _ _ F (ρ ++ [l]) _ (Same.refl _) (Pre.push _ _) (rl.push (o := .lst (ps.map D.p)) hl ⟨us, rfl, r.data⟩) (.own (by rw [← rl.len]; simp)) q
theorem vc_sum {ns : List Int} (s : x = dL (ns.map P.int) ∨ ∃ n, x = .own n ∧ h[n]? = some (some (.lst (ns.map dI)))) (q : R (dI ns.sum) h) : VC K Θ (rSum K) [x] h R := fun F ρ H vs Q rl a k => by
  cases a with
  | cons a b =>
    cases b
    have kk := k _ h _ F ρ H (Same.refl _) (Pre.refl _) rl (.p (.int _)) q
    rcases s with rfl | ⟨n, rfl, s⟩
    · cases a with
      | p a =>
        cases a with
        | lst a r =>
          have e := r.ints
          subst e
          exact ⟨_, ns, rfl, rl.same.seq a, kk⟩
    · cases a with
      | own a =>
        obtain ⟨p, u, e1, e2, e3, vs, e4, e5⟩ := rl.own _ _ s
        rw [a] at e1; cases e1
        subst e4
        have e6 : RA K F ρ ((ns.map P.int).map D.p) vs := by rw [List.map_map]; exact e5
        have e := e6.pure.ints
        subst e
        exact ⟨_, ns, rfl, .of e3, kk⟩
/-! ### methods -/
theorem vm_append {n : Nat} {xs : List D} (hn : h[n]? = some (some (.lst xs))) (hl : xs.length < sizeLine) (q : R dN (h.set n (some (.lst (xs ++ [y]))))) : VM K Θ rAppend (.own n) [y] h R := fun F ρ H vx vs Q rl a b k => by
  cases a with
  | own a =>
    cases b with
    | cons b c =>
      cases c
      obtain ⟨p, u, e1, e2, e3, us, e4, e5⟩ := rl.own _ _ hn
      rw [a] at e1; cases e1
      subst e4
      refine ⟨_, us, _, rfl, rfl, e3, by rw [← e5.len]; exact hl, ?_⟩
      exact k _ _ _ F ρ _ (Same.refl _) (Pre.refl _) (rl.put (o' := .lst (xs ++ [y])) hn a ⟨_, rfl, e5.append (.cons b .nil)⟩) (.p .non) q
end
end Kb

/-! Defs and classes in data. -/
namespace Kb
open PySem PySem.Spec PyProof.Rows L2
def startD (N : List Str) (ds : List D) : Env' := ds.map some ++ List.replicate (N.length - ds.length) none
section
variable {K : PySem.W.Frag} {Θ : Ctx}
theorem renv_start {F : Hp} {ρ : List Addr} {N : List Str} {ds : List D} {vs : List V} (r : RA K F ρ ds vs) : REnv K F ρ (startD N ds) (L2.start N vs) := by
  have hl := r.len
  refine ⟨by unfold startD L2.start; simp [hl], fun i d h => ?_⟩
  unfold startD at h
  unfold L2.start
  by_cases hi : i < ds.length
  · rw [List.getElem?_append_left (by simpa using hi), List.getElem?_map] at h
    cases e : ds[i]? with
    | none => rw [e] at h; cases h
    | some d0 =>
      rw [e] at h; cases h
      obtain ⟨v, h1, h2⟩ := r.get e
      exact ⟨v, by rw [List.getElem?_append_left (by simp; omega), List.getElem?_map, h1]; rfl, h2⟩
  · rw [List.getElem?_append_right (by simp; omega), List.getElem?_replicate] at h
    split at h <;> cases h
/-! ### what a def leaves behind -/
theorem RA.lowP {F F0 : Hp} {ρ ρ' : List Addr} (p : Pre ρ ρ') : ∀ {ds : List D} {vs v0 : List V}, RA K F0 ρ ds v0 → RA K F ρ' ds vs → RA K F ρ ds vs
  | _, _, _, .nil, .nil => .nil
  | _, _, _, .cons a r, .cons b s => .cons (by
      cases b with
      | p b => exact .p b
      | own b =>
        cases a with
        | own a =>
          have z := p _ _ a
          rw [b] at z; cases z
          exact .own a) (RA.lowP p r s)
theorem RF.lowP {F F0 : Hp} {ρ ρ' : List Addr} (p : Pre ρ ρ') : ∀ {ds : List (Str × D)} {vs v0 : List (Str × V)}, RF K F0 ρ ds v0 → RF K F ρ' ds vs → RF K F ρ ds vs
  | _, _, _, .nil, .nil => .nil
  | _, _, _, .cons a r, .cons b s => .cons (by
      cases b with
      | p b => exact .p b
      | own b =>
        cases a with
        | own a =>
          have z := p _ _ a
          rw [b] at z; cases z
          exact .own a) (RF.lowP p r s)
theorem RK.lowP {κ : Type} {F F0 : Hp} {ρ ρ' : List Addr} (p : Pre ρ ρ') : ∀ {ds : List (κ × D)} {vs v0 : List (κ × V)}, RK K F0 ρ ds v0 → RK K F ρ' ds vs → RK K F ρ ds vs
  | _, _, _, .nil, .nil => .nil
  | _, _, _, .cons a r, .cons b s => .cons (by
      cases b with
      | p b => exact .p b
      | own b =>
        cases a with
        | own a =>
          have z := p _ _ a
          rw [b] at z; cases z
          exact .own a) (RK.lowP p r s)
theorem RO.lowP {F F0 : Hp} {ρ ρ' : List Addr} (p : Pre ρ ρ') {o : OO} {u u0 : HO} (a : RO K F0 ρ o u0) (b : RO K F ρ' o u) : RO K F ρ o u := by
  cases o with
  | lst xs =>
    obtain ⟨v0, _, r0⟩ := a
    obtain ⟨vs, e, r⟩ := b
    exact ⟨vs, e, r0.lowP p r⟩
  | ins C fs =>
    obtain ⟨d0, g0, _, r0⟩ := a
    obtain ⟨dx, gs, e, r⟩ := b
    exact ⟨dx, gs, e, r0.lowP p r⟩
  | dK kvs =>
    obtain ⟨g0, _, r0⟩ := a
    obtain ⟨gs, e, r⟩ := b
    exact ⟨gs, e, r0.lowP p r⟩
  | dT kvs =>
    obtain ⟨g0, _, r0⟩ := a
    obtain ⟨gs, e, r⟩ := b
    exact ⟨gs, e, r0.lowP p r⟩
theorem Rel.back {F F' : Hp} {ρ ρ' : List Addr} {h junk : Hs} {H H' : Hp} (r0 : Rel K Θ F ρ h H) (s : Same F F') (p : Pre ρ ρ') (r : Rel K Θ F' ρ' (h ++ junk) H') : Rel K Θ F' ρ h H' := by
  have lt : ∀ (i : Nat) (o' : OO), h[i]? = some (some o') → i < h.length := fun i o' e => (List.getElem?_eq_some_iff.mp e).1
  have up : ∀ (i : Nat) (o' : OO), h[i]? = some (some o') → (h ++ junk)[i]? = some (some o') := fun i o' e => by rw [List.getElem?_append_left (lt i o' e)]; exact e
  refine ⟨⟨r.same, r0.len, fun i o' hi => ?_, fun i j o1 o2 a hi hj ha hb => r.inj i j o1 o2 a (up i o1 hi) (up j o2 hj) (p _ _ ha) (p _ _ hb), r.tab⟩, r0.wish.mono s (Pre.refl _)⟩
  obtain ⟨a, u, h1, h2, h3, h4⟩ := r.own i o' (up i o' hi)
  obtain ⟨a0, u0, g1, g2, g3, g4⟩ := r0.own i o' hi
  have z := p _ _ g1
  rw [h1] at z; cases z
  exact ⟨a, u, g1, h2, h3, g4.lowP p h4⟩
/-- behind a def that leaves what was owned as it was -/
def Fin (h : Hs) (R : D → Hs → Prop) (d : D) (h' : Hs) : Prop := ∃ junk, h' = h ++ junk ∧
  ((∃ p, d = .p p ∧ R (.p p) h) ∨ (∃ n ps, d = .own n ∧ h.length ≤ n ∧ h'[n]? = some (some (.lst (ps.map D.p))) ∧ R (dL ps) h) ∨
    ∃ n C fs, d = .own n ∧ h.length ≤ n ∧ h'[n]? = some (some (.ins C (fs.map fun q => (q.1, D.p q.2)))) ∧ R (.p (.ins C fs)) h)
theorem fin_p {h : Hs} {R : D → Hs → Prop} {p : P} (junk : Hs) (q : R (.p p) h) : Fin h R (.p p) (h ++ junk) := ⟨junk, rfl, .inl ⟨p, rfl, q⟩⟩
theorem fin_p0 {h : Hs} {R : D → Hs → Prop} {p : P} (q : R (.p p) h) : Fin h R (.p p) h := ⟨[], by simp, .inl ⟨p, rfl, q⟩⟩
theorem fin_run {F F' : Hp} {ρ ρ' : List Addr} {h h' : Hs} {H H' : Hp} {R : D → Hs → Prop} {d : D} {v : V} {Q : VK} (r0 : Rel K Θ F ρ h H) (s : Same F F') (p : Pre ρ ρ') (r : Rel K Θ F' ρ' h' H') (dv : RD K F' ρ' d v) (f : Fin h R d h')
    (k : ∀ (d : D) (F2 : Hp), Same F F2 → Rel K Θ F2 ρ h H' → RD K F2 ρ d v → R d h → Q v H') : Q v H' := by
  obtain ⟨junk, rfl, f⟩ := f
  have st : ∀ (n : Nat), h.length ≤ n → (h ++ junk).set n none = h ++ junk.set (n - h.length) none := fun n hn => List.set_append_right _ _ hn
  rcases f with ⟨x, rfl, q⟩ | ⟨n, ps, rfl, hn, hx, q⟩ | ⟨n, C, fs, rfl, hn, hx, q⟩
  · cases dv with
    | p dv => exact k _ F' s (r0.back s p r) (.p dv) q
  · cases dv with
    | own dv =>
      obtain ⟨a, u, e1, e2, e3, e4, r2⟩ := r.freeze hx
      rw [dv] at e1; cases e1
      rw [st n hn] at r2
      obtain ⟨vs, rfl, e5⟩ := e4
      exact k _ _ (s.trans (same_new e2)) (r0.back (s.trans (same_new e2)) p r2) (.p (.lst (.of upd_same) e5.pure)) q
  · cases dv with
    | own dv =>
      obtain ⟨a, u, e1, e2, e3, e4, r2⟩ := r.freeze hx
      rw [dv] at e1; cases e1
      rw [st n hn] at r2
      obtain ⟨dx, gs, rfl, e5⟩ := e4
      exact k _ _ (s.trans (same_new e2)) (r0.back (s.trans (same_new e2)) p r2) (.p (.ins upd_same e5.pure)) q
theorem vs_fin {t : TS} {R : D → Hs → Prop} {env : Env'} {h : Hs} (q : VS K Θ t { nx := fun _ h' => Fin h R dN h', rt := Fin h R } env h) : VS K Θ t { nx := fun _ h' => R dN h', rt := R } env h := fun F ρ σ H D' rl e k => by
  refine q F ρ σ H ⟨fun σ' H' => D'.nx σ' H', fun v H' => D'.rt v H', D'.bk, D'.ct⟩ rl e ⟨fun env' h' F' ρ' σ' H' s p r e' f => ?_, fun d h' v F' ρ' H' s p r dv f => ?_, fun _ _ _ _ _ _ _ _ _ _ z => z.elim, fun _ _ _ _ _ _ _ _ _ _ z => z.elim⟩
  · refine fin_run (v := .non) (Q := fun _ H' => D'.nx σ' H') rl s p r (.p .non) f fun d F2 s2 r2 d2 q2 => ?_
    have ed : d = dN ∨ d ≠ dN := by cases d with
      | own i => exact .inr (fun z => by cases z)
      | p x => cases x <;> first | exact .inl rfl | exact .inr (fun z => by cases z)
    obtain ⟨junk, _, f⟩ := f
    have q3 : R dN h := by
      rcases f with ⟨x, ex, q⟩ | ⟨n, ps, ex, _⟩ | ⟨n, C, fs, ex, _⟩
      · cases ex; exact q
      · cases ex
      · cases ex
    refine k.nx (List.replicate σ'.length none) h F2 ρ σ' H' s2 (Pre.refl _) r2 ⟨by simp, fun i d z => ?_⟩ q3
    rw [List.getElem?_replicate] at z
    split at z <;> cases z
  · exact fin_run rl s p r dv f fun d F2 s2 r2 d2 q2 => k.rt d h v F2 ρ H' s2 (Pre.refl _) r2 d2 q2
variable {P : Program} {w : World} {mg : Str → Option Value} {base : Heap} {x : Str} {st : Stmt} {N ps : List Str} {k : Nat}
/-- a def whose body keeps a promise in data -/
theorem DefAt.okD {T : List Addr} (A : DefAt K mg x st ps) (S : FnScope N ps (defScope st)) (W : Spc) (len : ∀ ds h R, W ds h R → ds.length = ps.length)
    (hbody : ∀ (f : Addr) (cdv : Value) (A : Around) (outer : List Env) (s : Shared) (H : Hp) (E : XK), Room k (A.deeper (envOfC x (defScope st) s.heap.objs.size f cdv)) →
      ∃ t, PSs (cxOf CX0 P w K mg base N x (defScope st) f cdv A outer s H E).nox (defBody st) t ∧ ∀ ds h R, W ds h R → VS K (Ctx.plain T) t { nx := fun _ h' => R dN h', rt := R } (startD N ds) h) : HasF P w K mg base CX0 (k + 1) x ps (spD K T W) := by
  refine A.ok S (fun vs H Q E h => ?_) fun f cdv A outer s H vs Q E hr h => ?_
  · obtain ⟨ds, h, F, ρ, R, rl, ra, hw, _⟩ := h
    rw [← ra.len]
    exact len ds h R hw
  · obtain ⟨ds, h, F, ρ, R, rl, ra, hw, kq⟩ := h
    obtain ⟨t, ht, q⟩ := hbody f cdv A outer s H E hr
    refine ⟨t, ht, q ds h R hw F ρ _ H _ rl.plain (renv_start ra) ⟨fun env' h' F' ρ' σ' H' s p r e q => kq dN h' .non F' ρ' H' s p r.toBase (.p .non) q, fun d h' v F' ρ' H' s p r dv q => kq d h' v F' ρ' H' s p r.toBase dv q, fun _ _ _ _ _ _ _ _ _ _ z => z.elim, fun _ _ _ _ _ _ _ _ _ _ z => z.elim⟩⟩
end
end Kb

/-! The rules in the forms that are tried one after the other. -/
namespace Kb
open PySem PySem.Spec PyProof.Rows L2
section
variable {K : PySem.W.Frag} {Θ : Ctx} {env : Env'} {h : Hs} {R : D → Hs → Prop} {x y d : D} {i j : Int}
theorem log2_small {n : Nat} (h : n < 2 ^ 200) : n.log2 < 200 := PySem.Flt.log2_lt_of (by decide) h
theorem cmul_small (hi : i.natAbs < 2 ^ 200) (hj : j.natAbs < 2 ^ 200) : CMulX i j := by
  have h1 := log2_small hi
  have h2 := log2_small hj
  unfold CMulX
  omega
theorem cmul_wide (hi : i.natAbs.log2 < 2000000) (hj : j.natAbs < 2 ^ 200) : CMulX i j := by
  have h2 := log2_small hj
  unfold CMulX
  omega
theorem v2_mul (c : CMulX i j) (q : R (dI (i * j)) h) : V2 K Θ (rI CMulX fun i j => V.int (i * j)) (dI i) (dI j) h R := v2_I (g := fun i j => i * j) c q
theorem v2_mod (c : 0 < j) (q : R (dI (i % j)) h) : V2 K Θ (rI (fun _ j => 0 < j) fun i j => V.int (i % j)) (dI i) (dI j) h R := v2_I (g := fun i j => i % j) c q
theorem v2_div (c : 0 < j ∧ j < 1073741824) (q : R (dI (i / j)) h) : V2 K Θ (rI CDiv fun i j => V.int (i / j)) (dI i) (dI j) h R := v2_I (g := fun i j => i / j) c q
theorem v2_pow (c : 0 ≤ j ∧ j ≤ 1000000 ∧ i.natAbs < 2 ^ 64) (q : R (dI (i ^ j.toNat)) h) : V2 K Θ (rI CPow fun i j => V.int (i ^ j.toNat)) (dI i) (dI j) h R := v2_I (g := fun i j => i ^ j.toNat) c q
theorem v2_sub (q : R (dI (i - j)) h) : V2 K Θ (rI0 fun i j => V.int (i - j)) (dI i) (dI j) h R := v2_I0 (g := fun i j => i - j) q
theorem v2_lt (q : R (dB (decide (i < j))) h) : V2 K Θ (rI0 fun i j => V.bl (decide (i < j))) (dI i) (dI j) h R := v2_B0 (g := fun i j => decide (i < j)) q
theorem v2_le (q : R (dB (decide (i ≤ j))) h) : V2 K Θ (rI0 fun i j => V.bl (decide (i ≤ j))) (dI i) (dI j) h R := v2_B0 (g := fun i j => decide (i ≤ j)) q
theorem v2_gt (q : R (dB (decide (j < i))) h) : V2 K Θ (rI0 fun i j => V.bl (decide (j < i))) (dI i) (dI j) h R := v2_B0 (g := fun i j => decide (j < i)) q
theorem v2_ge (q : R (dB (decide (j ≤ i))) h) : V2 K Θ (rI0 fun i j => V.bl (decide (j ≤ i))) (dI i) (dI j) h R := v2_B0 (g := fun i j => decide (j ≤ i)) q
/-- the test's answer -/
theorem bool_ans {c : Bool} {B : Bool → Prop} (q : B c) : ∃ c', dB c = dB c' ∧ B c' := ⟨c, rfl, q⟩
theorem tru_bl {c : Bool} {h : Hs} {B : Bool → Prop} (q : B c) : ∃ c', TruD (dB c) h c' ∧ B c' := ⟨c, rfl, q⟩
theorem ite_dec {c : Prop} [Decidable c] {A B : Prop} (h1 : c → A) (h2 : ¬ c → B) : if decide c = true then A else B := by
  by_cases h : c
  · rw [decide_eq_true h, if_pos rfl]; exact h1 h
  · rw [decide_eq_false h, if_neg Bool.false_ne_true]; exact h2 h
theorem ite_ndec {c : Prop} [Decidable c] {A B : Prop} (h1 : ¬ c → A) (h2 : c → B) : if (!decide c) = true then A else B := by
  by_cases h : c
  · rw [decide_eq_true h]; exact h2 h
  · rw [decide_eq_false h]; exact h1 h
theorem ite_b {c : Bool} {A B : Prop} (h1 : c = true → A) (h2 : c = false → B) : if c = true then A else B := by
  cases c with
  | true => exact h1 rfl
  | false => exact h2 rfl
theorem ite_nb {c : Bool} {A B : Prop} (h1 : c = false → A) (h2 : c = true → B) : if (!c) = true then A else B := by
  cases c with
  | true => exact h2 rfl
  | false => exact h1 rfl
theorem ite_t {A B : Prop} (h : A) : if true = true then A else B := by rw [if_pos rfl]; exact h
theorem ite_f {A B : Prop} (h : B) : if false = true then A else B := by rw [if_neg Bool.false_ne_true]; exact h
theorem tup_i {n : Nat} {ps : List P} {R : D → Hs → Prop} (hl : n ≤ 100000) (e : ps.length = n) {xs : List D} (ex : xs = ps.map D.p) (q : R (dT ps) h) : ∃ ps, xs = ps.map D.p ∧ xs.length ≤ sizeLine ∧ R (dT ps) h :=
  ⟨ps, ex, by rw [ex, List.length_map, e]; exact sz_le hl, q⟩
theorem lst_i {n : Nat} {ps : List P} {R : D → Hs → Prop} (hl : n ≤ 100000) (e : ps.length = n) {xs : List D} (ex : xs = ps.map D.p) (q : R (dL ps) h) : ∃ ps, xs = ps.map D.p ∧ xs.length ≤ sizeLine ∧ R (dL ps) h :=
  ⟨ps, ex, by rw [ex, List.length_map, e]; exact sz_le hl, q⟩
def unP : List D → List P
  | [] => []
  | .p x :: r => x :: unP r
  | _ :: r => unP r
theorem at_nat {α : Type} {xs : List α} {i : Int} {v : α} (n : Nat) (e : i = (n : Int)) (h : xs[n]? = some v) : atI xs i = some v := by
  rw [e]; exact atI_nat h
end
end Kb

/-! sorted(xs, key=f), f a def of the program. -/
namespace Kb
open PySem PySem.Spec PyProof.Rows L2
open PySem.W (dataLe KeyedOut AllAlike Sortable)
def KeyV (K : PySem.W.Frag) (H : Hp) (v : V) (k : PyData) : Prop :=
  (∃ i, v = .int i ∧ k = .int i) ∨ (∃ s, v = .str s ∧ k = .str s) ∨ ∃ (t : Addr) (ns : List Int), v = .ref t ∧ SqT K H t (ns.map V.int) ∧ k = .tuple (ns.map .int)
def sortK (xs : List V) (kz : List PyData) : List V := ((xs.zip kz).mergeSort (dataLe false Prod.snd)).map Prod.fst
def rSortK (K : PySem.W.Frag) (sp : Sp) (f : Addr) : List V → List V → Hp → VK → Prop := fun vs zs H Q => ∃ (a : Addr) (xs : List V) (kz : List PyData) (Wk : Nat → Hp → Prop), vs = [.ref a] ∧ zs = [.ref f] ∧ SqL K H a xs ∧ kz.length = xs.length ∧
  AllAlike kz ∧ Sortable kz ∧ (∀ d ∈ kz, d.depth ≤ 60) ∧ Wk 0 H ∧ (∀ i x k H', xs[i]? = some x → kz[i]? = some k → Wk i H' → sp [x] H' (fun v H2 => KeyV K H2 v k ∧ Wk (i + 1) H2) E0) ∧
  ∀ H', Wk xs.length H' → ∀ p, H' p = none → Q (.ref p) (upd H' p (.lst (sortK xs kz)))
section
variable {X : Cx} {pins : List (Addr × Obj)} {σ : L2.St} {H : Hp} {s : Shared}
theorem dp_ints {K : PySem.W.Frag} {H : Hp} : ∀ ns : List Int, DpAll K H (ns.map V.int) (ns.map PyData.int)
  | [] => .nil
  | n :: ns => .cons (.int n) (dp_ints ns)
theorem keyV_reads {H : Hp} {s : Shared} (I : Inv X pins σ H s) {v : V} {u : Value} {k : PyData} (kv : KeyV X.K H v k) (r : RelV v u) : ∃ as, Reads s.heap u k as := by
  rcases kv with ⟨i, rfl, rfl⟩ | ⟨z, rfl, rfl⟩ | ⟨t, ns, rfl, ht, rfl⟩
  · exact Dp.reads I _ _ u (.int i) r
  · exact Dp.reads I _ _ u (.str z) r
  · exact Dp.reads I _ _ u (.tup ht (dp_ints ns)) r
theorem KeyV.tups {K : PySem.W.Frag} {H H' : Hp} (t : ∀ b xs, H b = some (.tup xs) → H' b = some (.tup xs)) (t2 : ∀ b o u, H b = some (.frz o u) → H' b = some (.frz o u)) {v : V} {k : PyData} (kv : KeyV K H v k) : KeyV K H' v k := by
  rcases kv with h | h | ⟨a, ns, rfl, ht, rfl⟩
  · exact .inl h
  · exact .inr (.inl h)
  · refine .inr (.inr ⟨a, ns, rfl, ?_, rfl⟩)
    rcases ht with (ht | ⟨o, ht⟩) | ht
    · exact .inl (.inl (t _ _ ht))
    · exact .inl (.inr ⟨o, t2 _ _ _ ht⟩)
    · exact .inr ht
theorem each_ix {α β : Type} {R : α → β → Prop} : ∀ {as : List α} {bs : List β}, as.length = bs.length → (∀ (i : Nat) (a : α) (b : β), as[i]? = some a → bs[i]? = some b → R a b) → PySem.W.EachIs R as bs
  | [], [], _, _ => .nil
  | [], _ :: _, h, _ => by simp at h
  | _ :: _, [], h, _ => by simp at h
  | a :: as, b :: bs, h, k => .cons (k 0 a b rfl rfl) (each_ix (by simpa using h) fun i x y hx hy => k (i + 1) x y (by simpa using hx) (by simpa using hy))
theorem each_zip : ∀ {xs : List V} {us : List Value} {kz : List PyData}, Vals xs us → kz.length = xs.length → PySem.W.EachIs (fun (v : Value) (b : V × PyData) => RelV b.1 v) us (xs.zip kz)
  | _, _, [], .nil, _ => .nil
  | _, _, _ :: _, .nil, h => by simp at h
  | _, _, [], .cons _ _, h => by simp at h
  | _, _, k :: kz, .cons r rs, h => .cons r (each_zip rs (by simpa using h))
theorem vals_each : ∀ {us : List Value} {bs : List (V × PyData)}, PySem.W.EachIs (fun (v : Value) (b : V × PyData) => RelV b.1 v) us bs → Vals (bs.map Prod.fst) us
  | _, _, .nil => .nil
  | _, _, .cons r rs => .cons r (vals_each rs)
/-- an untracked thing of ours is changed -/
theorem inv_other {kS : Addr} {h' : Heap} {t' : Nat} (I : Inv X pins σ H s) (h1 : X.s_0.heap.objs.size ≤ kS) (h2 : kS ≠ X.env.locals) (h3 : ∀ x c, X.env.cells.lookup x = some c → c ≠ kS) (h4 : ∀ p ∈ X.pn ++ pins, p.1 ≠ kS) (h5 : H kS = none)
    (k : ∀ b o, b ≠ kS → s.heap.get? b = some o → h'.get? b = some o) : Inv X pins σ H { s with heap := h', toks := t' } := by
  have nc : ∀ b, b ∉ [kS] → b ≠ kS := fun b hb e => hb (by rw [e]; exact List.mem_singleton.mpr rfl)
  have nt : ∀ b u, H b = some u → b ≠ kS := fun b u q hb => by rw [hb, h5] at q; cases q
  refine I.step (g' := s.gens) (t' := t') (d' := s.drawn) (ch := [kS]) (fun b hb => ?_) (fun b ob _ _ hc q _ => k b ob (nc b hc) q) (fun b ob _ _ hc q _ => ⟨ob.slots, k b ob (nc b hc) q⟩) (fun _ _ _ _ n => n)
    (fun b ob hc q => ⟨ob, k b ob (nc b hc) q⟩) (fun _ _ q => q) (fun _ _ _ q => q) (fun b ps q => ⟨#[], by rw [q]; simp⟩) (fun m hm => ?_) (fun b u q => ?_) I.bare
  · rw [List.mem_singleton.mp hb]
    exact ⟨.inr h1, h2, h3, h4⟩
  · obtain ⟨ob, es, ep, ho, r⟩ := hm
    exact ⟨ob, es, ep, k _ ob (Ne.symm h2) ho, r⟩
  · refine (I.hok b u q).stay (fun c v hc y => k c v ?_ y) (fun _ y => y) fun _ _ y => y
    rcases hc with y | y
    · rw [y]; exact nt b u q
    · exact nt c _ y
/-- sorted(xs, key=f) -/
theorem call_sortedK {kf : Nat} {f : Addr} {fd : FuncData} {p : Str} {sp : Sp} (Fn : FnOk X.prog X.w X.K X.mg X.base CX0 kf f fd [p] sp) (hb : Binds X.K fd [p] []) (hr : Room (kf + 2) X.A) : CallRK X (.builtin "sorted") [Str.ofString "key"] (rSortK X.K sp f) := by
  intro pins s σ H vs zs us ws Q I r rz hyp
  obtain ⟨a, xs, kz, Wk, rfl, rfl, hs, hlen, hal, hsk, hdep, w0, turn, fin⟩ := hyp
  obtain rfl := Vals.ref1 r
  obtain rfl := Vals.ref1 rz
  obtain ⟨its, rv, pl, hz⟩ := I.list hs
  have hil : its.length = xs.length := rv.length.symm
  have hZ : its.length ≤ sizeLine := by rw [hil]; exact hz
  have hlk : kz.length = its.length := by rw [hlen, hil]
  -- what lies above the entry
  have above : ∀ c : Addr, s.heap.objs.size ≤ c → X.s_0.heap.objs.size ≤ c ∧ c ≠ X.env.locals ∧ (∀ y d, X.env.cells.lookup y = some d → d ≠ c) ∧ (∀ q ∈ X.pn ++ pins, q.1 ≠ c) ∧ c ∉ frs X.stack := by
    intro c hc
    have hL : X.env.locals < s.heap.objs.size := I.lt
    refine ⟨Nat.le_trans I.sz hc, fun e => ?_, fun y d hd e => ?_, fun q hq e => ?_, fun hm => ?_⟩
    · rw [e] at hc; exact absurd (Nat.lt_of_lt_of_le hL hc) (Nat.lt_irrefl _)
    · obtain ⟨u, o, ho, _⟩ := I.cell y d hd
      rw [e] at ho
      exact absurd (Nat.lt_of_lt_of_le (Heap.lt_size ho) hc) (Nat.lt_irrefl _)
    · have ho := (I.pin q hq).1
      rw [e] at ho
      exact absurd (Nat.lt_of_lt_of_le (Heap.lt_size ho) hc) (Nat.lt_irrefl _)
    · rcases List.mem_cons.mp (I.stkSub c hm) with e | e
      · rw [e] at hc; exact absurd (Nat.lt_of_lt_of_le hL hc) (Nat.lt_irrefl _)
      · exact I.nofs hc e
  refine PySem.W.sorted_of_sort pl.isList hZ (ksk_s1 _ _) (fun _ => ksk_l1 _ _) fun E' => ?_
  have I0 : Inv X pins σ H { s with heap := PySem.W.copyHeap s.heap its } := I.kept (t' := s.toks) fun b o e => PySem.W.copyHeap_old e
  have at0 := PySem.W.copyHeap_at s.heap its
  have hA : s.heap.objs.size ≤ s.heap.objs.size + 1 := Nat.le_succ _
  obtain ⟨z1, z2, z3, z4, z5⟩ := above _ hA
  have nA : H (s.heap.objs.size + 1) = none := I.hok.fresh hA
  generalize hC : PySem.W.copyHeap s.heap its = hc0 at I0 at0 ⊢
  generalize hN : s.heap.objs.size + 1 = aN at at0 z1 z2 z3 z4 z5 nA hA ⊢
  show wpAny _ _ (ksk_tree aN (.ref f) false) _ _ _
  unfold ksk_tree
  refine wpAny_bind (listItems_at at0 rfl ?_)
  refine wpAny_bind (listUpdate_at at0 rfl ?_ (by rw [List.size_toArray]; exact hZ) (Nat.zero_le _))
  have sb := Heap.SameBut.update hc0 aN (Obj.mapSeq fun _ => (#[] : Array Value))
  obtain ⟨e1, at1⟩ : ∃ e1, (hc0.update aN (Obj.mapSeq fun _ => (#[] : Array Value))).get? aN = some (seqObj "list" #[] e1) := ⟨_, get?_update_seq at0 fun _ => #[]⟩
  have I1 : Inv X pins σ H { s with heap := hc0.update aN (Obj.mapSeq fun _ => (#[] : Array Value)) } := inv_other (s := { s with heap := hc0 }) (t' := s.toks) I0 z1 z2 z3 z4 nA fun b o hb e => (sb.2 b hb).trans e
  generalize hc0.update aN (Obj.mapSeq fun _ => (#[] : Array Value)) = hc1 at at1 I1 ⊢
  refine wpAny_bind (seqEpoch_at at1 rfl ?_)
  refine wpAny_bind (wpAny_newTuple ?_ (by show its.length ≤ _; exact hZ))
  refine wpAny_bind (wpAny_newList ?_ (Nat.zero_le _))
  refine wpAny_holding ?_
  have hc0l : s.heap.objs.size ≤ hc1.objs.size := by
    have h1 : aN < hc1.objs.size := Heap.lt_size at1
    omega
  obtain ⟨kS, hkS⟩ : ∃ kS, kS = (hc1.push (seqObj "tuple" its.toArray 0)).objs.size := ⟨_, rfl⟩
  have kSb : s.heap.objs.size ≤ kS := by rw [hkS, size_push']; omega
  have kSa : kS ≠ aN := by
    have h1 := Heap.lt_size at1
    have h2 : kS = hc1.objs.size + 1 := by rw [hkS, size_push']
    intro e
    rw [h2] at e
    have h3 : aN < hc1.objs.size := h1
    omega
  obtain ⟨y1, y2, y3, y4, y5⟩ := above _ kSb
  have nK : H kS = none := I.hok.fresh kSb
  have at2 : ((hc1.push (seqObj "tuple" its.toArray 0)).push (seqObj "list" #[] 0)).get? aN = some (seqObj "list" #[] e1) := Heap.get?_push_of_some _ (Heap.get?_push_of_some _ at1)
  have ak2 : ((hc1.push (seqObj "tuple" its.toArray 0)).push (seqObj "list" #[] 0)).get? kS = some (seqObj "list" #[] 0) := by rw [hkS]; exact Heap.get?_push_size _ rfl
  have I2 : Inv X pins σ H { s with heap := (hc1.push (seqObj "tuple" its.toArray 0)).push (seqObj "list" #[] 0) } := I1.kept (t' := s.toks) fun b o e => Heap.get?_push_of_some _ (Heap.get?_push_of_some _ e)
  have eref : (hc1.push { cls := .type "tuple", data := .seq its.toArray }).objs.size = kS := hkS.symm
  show wpAny _ _ (ksk_rest aN (.ref f) false its.toArray e1 (.ref _)) _ _ _
  first
    | rw [show (Heap.push hc1 (seqObj "tuple" its.toArray 0)).objs.size = kS from hkS.symm]
    | skip
  unfold ksk_rest
  refine wpAny_bind (wpAny_rule ?_)
  first
    | rw [List.forIn_toArray]
    | (rw [← Array.forIn_toList]; simp only [List.toList_toArray])
    | rw [← Array.forIn_toList]
  show wpAny _ _ _ _ _ { s with heap := (hc1.push (seqObj "tuple" its.toArray 0)).push (seqObj "list" #[] 0) }
  have nst : ∀ (H1 : Hp) (s1 : Shared) (c : Addr), c ∉ frs X.stack → H1 c = none → ∀ (H2 : Hp) (s2 : Shared), Un (frs X.stack) [] H1 H2 s1.heap s2.heap → ∀ o, s1.heap.get? c = some o → s2.heap.get? c = some o ∧ H2 c = none := fun H1 s1 c h1 h2 H2 s2 u o e =>
    ⟨u.keep c o e h2 h1 (by simp), u.free c o e h2 (by simp)⟩
  refine wpAny_bind (ksk_fold (fun i s' => ∃ (H' : Hp) (kA : Array Value) (e : Nat), Inv X pins σ H' s' ∧ Wk i H' ∧ s'.heap.get? aN = some (seqObj "list" #[] e1) ∧ s'.heap.get? kS = some (seqObj "list" kA e) ∧ H' aN = none ∧ H' kS = none ∧ s'.os = s.os ∧
      kA.size = i ∧ (∀ (j : Nat) (k : PyData), j < i → kz[j]? = some k → ∃ (u : Value) (v : V), kA[j]? = some u ∧ RelV v u ∧ KeyV X.K H' v k)) its 0 _
    ⟨H, #[], 0, I2, w0, at2, ak2, nA, nK, rfl, rfl, fun j k hj => absurd hj (Nat.not_lt_zero j)⟩ ?step ?done)
  case step =>
    rintro j x s' hx ⟨H', kA, e, I', wj, ga, gk, na, nk, os', hsz, hks⟩
    simp only [Nat.zero_add] at wj hsz hks ⊢
    have hj : j < its.length := (List.getElem?_eq_some_iff.mp hx).1
    obtain ⟨k, hkj⟩ : ∃ k, kz[j]? = some k := ⟨_, List.getElem?_eq_getElem (by omega)⟩
    obtain ⟨xv, hxv⟩ : ∃ xv, xs[j]? = some xv := ⟨_, List.getElem?_eq_getElem (by omega)⟩
    obtain ⟨u0, hu0, rx⟩ := rv.get hxv
    rw [hx] at hu0
    cases hu0
    have hsp := turn j xv k H' hxv hkj wj
    have hr1 : Room kf X.A.in1.in1 := (Room.in1 (k := kf + 1) hr).in1
    refine wpAny_bind (wpAny_attempt (wpAny_call (codeAny_mono (Fn.run X.A.in1.in1 X.stack s' H' ⟨[x], []⟩ [x] [xv] _ E0 hr1 I'.env0.in1.in1 (hb s' [x] I'.kIn rfl) (.cons rx .nil) hsp) fun rr s'' hq => ?_)))
    cases rr with
    | error ee => exact False.elim hq
    | ok fl =>
      cases fl with
      | next => exact False.elim hq
      | brk => exact False.elim hq
      | cont => exact False.elim hq
      | ret u =>
        obtain ⟨v, H2, os2, bare2, un2, hok2, rvu, kv, wj2⟩ := hq
        have I2' : EP X pins σ (fun v' H' => v' = v ∧ H' = H2) u s'' := I'.after ⟨v, H2, os2, bare2, un2, hok2, rvu, rfl, rfl⟩
        obtain ⟨v', H2', I3, _, rfl, rfl⟩ := I2'
        obtain ⟨ga2, na2⟩ := nst H' s' aN z5 na _ s'' un2 _ ga
        obtain ⟨gk2, nk2⟩ := nst H' s' kS y5 nk _ s'' un2 _ gk
        try dsimp only
        obtain ⟨c2, hc2⟩ : ∃ c2, (s''.heap.update kS (Obj.mapSeq (·.push u))).get? kS = some (seqObj "list" (kA.push u) c2) := ⟨_, get?_update_seq gk2 (·.push u)⟩
        have s1 := Heap.SameBut.update s''.heap kS (Obj.mapSeq (·.push u))
        have hz1 : kA.size ≤ sizeLine := by rw [hsz]; exact Nat.le_trans (Nat.le_of_lt hj) hZ
        refine wpAny_bind (listUpdate_at gk2 rfl ?_ hz1 (Nat.le_trans (Nat.le_of_eq (Array.size_push ..)) (Nat.succ_le_succ hz1)))
        refine wpAny_pure ⟨rfl, H2', kA.push u, c2, inv_other (s := s'') (t' := s''.toks) I3 y1 y2 y3 y4 nk2 fun b o hb e => (s1.2 b hb).trans e, wj2, (s1.2 aN (Ne.symm kSa)).trans ga2, hc2, na2, nk2, os2.trans os', by rw [Array.size_push, hsz], fun j1 k1 hj1 hk1 => ?_⟩
        by_cases hjj : j1 < j
        · obtain ⟨u1, v1, g1, g2, g3⟩ := hks j1 k1 hjj hk1
          have hlt : j1 < kA.size := by omega
          refine ⟨u1, v1, ?_, g2, g3.tups un2.tups un2.frzs⟩
          rw [Array.getElem?_push_lt hlt]
          rw [Array.getElem?_eq_getElem hlt] at g1
          exact g1
        · have ej : j1 = j := by omega
          subst ej
          rw [hkj] at hk1
          cases hk1
          refine ⟨u, v', ?_, rvu, kv⟩
          rw [← hsz]
          simp
  case done =>
    rintro s' ⟨H', kA, e, I', wj, ga, gk, na, nk, os', hsz, hks⟩
    rw [Nat.zero_add] at wj hsz hks
    rw [hil] at wj
    try dsimp only
    refine wpAny_bind (listItems_at gk rfl ?_)
    obtain ⟨m, hm, _⟩ := I'.loc
    have hk' : PySem.W.EachIs (fun v k => ∃ as, Reads s'.heap v k as) kA.toList kz := by
      refine each_ix (by rw [Array.length_toList, hsz, hlk]) fun i u k hu hk => ?_
      have hi : i < its.length := by
        have := (List.getElem?_eq_some_iff.mp hk).1
        omega
      obtain ⟨u1, v1, g1, g2, g3⟩ := hks i k hi hk
      rw [Array.getElem?_toList, g1] at hu
      cases hu
      exact keyV_reads I' g3 g2
    have F0 : Fr ({} : Heap) X.env.locals s'.heap m := ⟨hm, fun b o e => by simp [Heap.get?] at e, Nat.zero_le _⟩
    have nw : ∀ b o, b ≠ X.env.locals → s'.heap.get? b = some o → (b, o) ∈ allNews ({} : Heap) s'.heap X.env.locals := fun b o h1 h2 => mem_allNews h1 (by simp [Heap.get?]) h2
    have N0 : News ({} : Heap) X.env.locals s'.heap ((allNews ({} : Heap) s'.heap X.env.locals).filter (fun p => decide (p.1 ≠ kS ∧ p.1 ≠ aN)) ++ [(kS, seqObj "list" kA e), (aN, seqObj "list" #[] e1)]) := fun p hp => by
      rcases List.mem_append.mp hp with hp | hp
      · exact news_all p (List.mem_filter.mp hp).1
      · rcases List.mem_cons.mp hp with rfl | hp
        · exact ⟨gk, y2, by simp [Heap.get?]⟩
        · rw [List.mem_singleton.mp hp]
          exact ⟨ga, z2, by simp [Heap.get?]⟩
    have hu : ∀ d, d ∈ kz → X.A.in1.in1.units + d.depth < cLine := fun d hd => by
      have h1 := hdep d hd
      have h2 := (Room.in1 (k := kf) (Room.in1 (k := kf + 1) hr)).units
      omega
    refine PySem.W.key_end (κ := PySem.W.dataKind s'.heap kz) F0 N0 kSa (fun p hp => (of_decide_eq_true (List.mem_filter.mp hp).2).1) (fun p hp => (of_decide_eq_true (List.mem_filter.mp hp).2).2)
      (PySem.W.SortsAt.data (s := s') hk' hal hsk hu) (by rw [hsz]) hZ fun h3 tk3 c F3 N3 => ⟨rfl, ?_⟩
    have e2 : (xs.zip kz).map Prod.snd = kz := List.map_snd_zip (by omega)
    have eo : PySem.W.EachIs (fun (v : Value) (b : V × PyData) => RelV b.1 v) (PySem.W.sortVals (PySem.W.dataKind s'.heap kz) false kA.toList its) ((xs.zip kz).mergeSort (PySem.W.dataLe false Prod.snd)) :=
      PySem.W.keyedOut_each (rev := false) Prod.snd (bs := xs.zip kz) (vs := its) ⟨s'.heap, kA.toList, by rw [e2]; exact hal, by rw [e2], by rw [e2]; exact hk'⟩ (each_zip rv hlen)
    have vo : Vals (sortK xs kz) (PySem.W.sortVals (PySem.W.dataKind s'.heap kz) false kA.toList its) := vals_each eo
    generalize PySem.W.sortVals (PySem.W.dataKind s'.heap kz) false kA.toList its = out at vo F3 N3 ⊢
    have ns : ∀ b o, b ≠ X.env.locals → b ≠ kS → b ≠ aN → s'.heap.get? b = some o → h3.get? b = some o := fun b o h1 h2 h3 e =>
      (N3 (b, o) (List.mem_cons_of_mem _ (List.mem_filter.mpr ⟨nw b o h1 e, decide_eq_true ⟨h2, h3⟩⟩))).1
    have nc : ∀ b, b ∉ [kS, aN] → b ≠ kS ∧ b ≠ aN := fun b hb => by simpa using hb
    have nt : ∀ b u, H' b = some u → b ≠ kS ∧ b ≠ aN ∧ b ≠ X.env.locals := fun b u q => ⟨fun z => by { rw [z, nk] at q; cases q }, fun z => by { rw [z, na] at q; cases q }, fun z => by { rw [z, I'.free] at q; cases q }⟩
    have hmem : (sortK xs kz).length ≤ sizeLine := by
      unfold sortK
      rw [List.length_map, List.length_mergeSort, List.length_zip]
      omega
    refine ⟨.ref aN, upd H' aN (.lst (sortK xs kz)), ?_, rfl, fin H' wj aN na⟩
    refine I'.step (g' := s'.gens) (t' := tk3) (d' := s'.drawn) (ch := [kS, aN]) (fun b hb => ?_) (fun b ob h1 _ hc q _ => ns b ob h1 (nc b hc).1 (nc b hc).2 q) (fun b ob h1 _ hc q _ => ⟨ob.slots, ns b ob h1 (nc b hc).1 (nc b hc).2 q⟩)
      (fun b ob hc _ n => by rw [upd_ne (nc b hc).2]; exact n) (fun b ob hc q => ?_) (fun b ys q => by rw [upd_ne (nt b _ q).2.1]; exact q) (fun b ob ys q => by rw [upd_ne (nt b _ q).2.1]; exact q) (fun b ps q => ⟨#[], by rw [upd_ne (nt b _ q).2.1, q]; simp⟩)
      (fun m2 hm2 => ?_) (fun b u q => ?_) I'.bare
    · rcases List.mem_cons.mp hb with rfl | hb
      · exact ⟨.inr y1, y2, y3, y4⟩
      · rw [List.mem_singleton.mp hb]
        exact ⟨.inr z1, z2, z3, z4⟩
    · by_cases hL : b = X.env.locals
      · obtain ⟨oL, _, _, ho, _⟩ := F3.ns
        rw [hL]
        exact ⟨oL, ho⟩
      · exact ⟨ob, ns b ob hL (nc b hc).1 (nc b hc).2 q⟩
    · rw [hm2.eq_nsMap, ← hm.eq_nsMap]
      exact F3.ns
    · by_cases hb : b = aN
      · subst hb
        rw [upd_same] at q
        cases q
        exact ⟨hmem, out, c, vo, (N3 _ List.mem_cons_self).1⟩
      · rw [upd_ne hb] at q
        refine (I'.hok b u q).stay (fun c v hc y => ?_) (fun c y => by rw [upd_ne (nt c _ y).2.1]; exact y) fun c ys y => by rw [upd_ne (nt c _ y).2.1]; exact y
        have hcx : c ≠ kS ∧ c ≠ aN ∧ c ≠ X.env.locals := by
          rcases hc with y' | y'
          · rw [y']; exact nt b u q
          · exact nt c _ y'
        exact ns c v hcx.2.2 hcx.1 hcx.2.1 y
end
/-! ### in data -/
def sortP (ps : List P) (kz : List PyData) : List P := ((ps.zip kz).mergeSort (dataLe false Prod.snd)).map Prod.fst
def KeyP (d : D) (k : PyData) : Prop := (∃ i, d = dI i ∧ k = .int i) ∨ (∃ s, d = dS s ∧ k = .str s) ∨ ∃ ns : List Int, d = dT (ns.map P.int) ∧ k = .tuple (ns.map .int)
section
variable {K : PySem.W.Frag} {Θ : Ctx} {env : Env'} {h : Hs} {R : D → Hs → Prop}
theorem KeyP.v {F H : Hp} {ρ : List Addr} {d : D} {v : V} {k : PyData} (kp : KeyP d k) (s : Same F H) (r : RD K F ρ d v) : KeyV K H v k := by
  rcases kp with ⟨i, rfl, rfl⟩ | ⟨z, rfl, rfl⟩ | ⟨ns, rfl, rfl⟩
  · exact .inl ⟨i, r.int, rfl⟩
  · exact .inr (.inl ⟨z, r.str, rfl⟩)
  · cases r with
    | p r =>
      cases r with
      | tup a b => exact .inr (.inr ⟨_, ns, rfl, by rw [← b.ints]; exact sqT_mono s a, rfl⟩)
theorem zip3 : ∀ {ps : List P} {vs : List V} {kz : List PyData}, ps.length = vs.length → kz.length = vs.length →
    (ps.zip (vs.zip kz)).map (fun t => (t.1, t.2.2)) = ps.zip kz ∧ (ps.zip (vs.zip kz)).map (fun t => (t.2.1, t.2.2)) = vs.zip kz
  | [], [], [], _, _ => ⟨rfl, rfl⟩
  | [], _ :: _, _, h, _ => by simp at h
  | _ :: _, [], _, h, _ => by simp at h
  | [], [], _ :: _, _, h => by simp at h
  | _ :: _, _ :: _, [], _, h => by simp at h
  | p :: ps, v :: vs, k :: kz, h1, h2 => by
    obtain ⟨a, b⟩ := zip3 (ps := ps) (vs := vs) (kz := kz) (by simpa using h1) (by simpa using h2)
    exact ⟨congrArg ((p, k) :: ·) a, congrArg ((v, k) :: ·) b⟩
theorem zip3_mem {F : Hp} : ∀ {ps : List P} {vs : List V} {kz : List PyData}, RPs K F ps vs → ∀ t ∈ ps.zip (vs.zip kz), RP K F t.1 t.2.1
  | _, _, _, .nil, t, h => by simp at h
  | _, _, [], .cons _ _, t, h => by simp at h
  | _, _, k :: kz, .cons r rs, t, h => by
    rcases List.mem_cons.mp h with rfl | h
    · exact r
    · exact zip3_mem rs t h
theorem rps_list {F : Hp} : ∀ (L : List (P × V × PyData)), (∀ t ∈ L, RP K F t.1 t.2.1) → RPs K F (L.map fun t => t.1) (L.map fun t => t.2.1)
  | [], _ => .nil
  | t :: L, h => .cons (h t List.mem_cons_self) (rps_list L fun u hu => h u (List.mem_cons_of_mem _ hu))
theorem rps_sort {F : Hp} {ps : List P} {vs : List V} {kz : List PyData} (r : RPs K F ps vs) (hl : kz.length = vs.length) : RPs K F (sortP ps kz) (sortK vs kz) := by
  obtain ⟨e1, e2⟩ := zip3 (r.len) hl
  have a1 : ((ps.zip (vs.zip kz)).mergeSort (dataLe false fun t => t.2.2)).map (fun t => (t.1, t.2.2)) = (ps.zip kz).mergeSort (dataLe false Prod.snd) := by
    conv => rhs; rw [← e1]
    exact List.map_mergeSort (f := fun t : P × V × PyData => (t.1, t.2.2)) fun a _ b _ => rfl
  have a2 : ((ps.zip (vs.zip kz)).mergeSort (dataLe false fun t => t.2.2)).map (fun t => (t.2.1, t.2.2)) = (vs.zip kz).mergeSort (dataLe false Prod.snd) := by
    conv => rhs; rw [← e2]
    exact List.map_mergeSort (f := fun t : P × V × PyData => (t.2.1, t.2.2)) fun a _ b _ => rfl
  unfold sortP sortK
  rw [← a1, ← a2, List.map_map, List.map_map]
  exact rps_list _ fun t ht => zip3_mem r t ((List.mergeSort_perm _ _).mem_iff.mp ht)
/-- what sorted(xs, key=f) wants -/
def SrtOk (W : Spc) (ps : List P) (kz : List PyData) (h : Hs) : Prop := kz.length = ps.length ∧ AllAlike kz ∧ Sortable kz ∧ (∀ d ∈ kz, d.depth ≤ 60) ∧
  ∀ (i : Nat) (p : P) (k : PyData), ps[i]? = some p → kz[i]? = some k → W [.p p] h fun d h' => h' = h ∧ KeyP d k
theorem srt_go {W : Spc} {f : Addr} {F H : Hp} {ρ : List Addr} {vs zs : List V} {ps : List P} {kz : List PyData} {Q : VK} (rl : Rel K Θ F ρ h H) (a : RA K F ρ [dL ps] vs) (z : RA K F ρ [.p (.cls f)] zs) (ok : SrtOk W ps kz h)
    (k : ∀ (us : List V) (F' : Hp) (H' : Hp) (p : Addr), Same F F' → Rel K Θ F' ρ h H' → H' p = none → RPs K F' (sortP ps kz) us → Q (.ref p) (upd H' p (.lst us))) : rSortK K (spD K Θ.tabs W) f vs zs H Q := by
  obtain ⟨hl, hal, hsk, hd, turn⟩ := ok
  cases a with
  | cons a b =>
    cases b
    cases z with
    | cons z b =>
      cases b
      cases z with
      | p z =>
        cases z
        cases a with
        | p a =>
          cases a with
          | @lst a _ vs ha rp =>
            refine ⟨a, vs, kz, fun _ H' => ∃ F', Same F F' ∧ Rel K Θ F' ρ h H', rfl, rfl, rl.same.seq ha, by rw [hl, rp.len], hal, hsk, hd, ⟨F, Same.refl _, rl⟩, ?_, ?_⟩
            · rintro i x kk H' hx hk ⟨F', s, r⟩
              obtain ⟨p, hp⟩ : ∃ p, ps[i]? = some p := ⟨_, List.getElem?_eq_getElem (by have := (List.getElem?_eq_some_iff.mp hk).1; omega)⟩
              obtain ⟨x', hx', rx⟩ := rp.get hp
              rw [hx] at hx'
              cases hx'
              refine ⟨[.p p], h, F', ρ, _, r.toBase, .cons (.p (rx.mono s)) .nil, turn i p kk hp hk, fun d h' v F3 ρ3 H3 s3 p3 r3 dv q => ?_⟩
              obtain ⟨rfl, kp⟩ := q
              refine ⟨kp.v r3.same dv, F3, s.trans s3, r.back s3 p3 (junk := []) ?_⟩
              rw [List.append_nil]
              exact ⟨r3, r.wish.mono s3 p3⟩
            · rintro H' ⟨F', s, r⟩ p hp
              exact k _ F' H' p s r hp ((rps_sort rp (by rw [hl, rp.len])).mono s)
/-- sorted(xs, key=f): a list that stays -/
theorem ve_sortedK {W : Spc} {f : Addr} {t tk : TA} (q : VA K Θ t env h fun xs h1 => VA K Θ tk env h1 fun zs h2 => ∃ ps kz, xs = [dL ps] ∧ zs = [.p (.cls f)] ∧ SrtOk W ps kz h2 ∧ R (dL (sortP ps kz)) h2) : VE K Θ (tCKw (rSortK K (spD K Θ.tabs W) f) t tk) env h R := fun F ρ σ H Q rl e k =>
  q F ρ σ H _ rl e fun xs h1 vs F1 ρ1 H1 s1 p1 r1 dx q1 => q1 F1 ρ1 σ H1 _ r1 (e.mono s1 p1) fun zs h2 ws F2 ρ2 H2 s2 p2 r2 dz q2 => by
    obtain ⟨ps, kz, rfl, rfl, ok, q2⟩ := q2
    refine srt_go r2 (dx.mono s2 p2) dz ok fun us F' H' p s r hp rp => ?_
    have sn := fun o => same_new (o := o) (r.free hp)
    exact k _ h2 _ _ ρ2 _ ((s1.trans (s2.trans s)).trans (sn _)) (p1.trans p2) (r.frz hp) (.p (.lst (.of upd_same) (rp.mono (sn _)))) q2
/-- sorted(xs, key=f): an own list -/
theorem ve_sortedKO {W : Spc} {f : Addr} {t tk : TA} (q : VA K Θ t env h fun xs h1 => VA K Θ tk env h1 fun zs h2 => ∃ ps kz, xs = [dL ps] ∧ zs = [.p (.cls f)] ∧ SrtOk W ps kz h2 ∧ R (.own h2.length) (h2 ++ [some (.lst ((sortP ps kz).map D.p))])) : VE K Θ (tCKw (rSortK K (spD K Θ.tabs W) f) t tk) env h R := fun F ρ σ H Q rl e k =>
  q F ρ σ H _ rl e fun xs h1 vs F1 ρ1 H1 s1 p1 r1 dx q1 => q1 F1 ρ1 σ H1 _ r1 (e.mono s1 p1) fun zs h2 ws F2 ρ2 H2 s2 p2 r2 dz q2 => by
    obtain ⟨ps, kz, rfl, rfl, ok, q2⟩ := q2
    refine srt_go r2 (dx.mono s2 p2) dz ok fun us F' H' p s r hp rp => ?_
    exact k _ _ _ F' (ρ2 ++ [p]) _ (s1.trans (s2.trans s)) ((p1.trans p2).trans (Pre.push _ _)) (r.push (o := .lst ((sortP ps kz).map D.p)) hp ⟨us, rfl, rp.data⟩) (.own (by rw [← r.len]; simp)) q2
theorem sortP_perm {ps : List P} {kz : List PyData} (h : kz.length = ps.length) : (sortP ps kz).Perm ps := by
  unfold sortP
  refine ((List.mergeSort_perm _ _).map _).trans ?_
  rw [List.map_fst_zip (by omega)]
end
end Kb

/-! Classes, isinstance, defs that call themselves. -/
namespace Kb
open PySem PySem.Spec PyProof.Rows L2
/-- __init__ of a class, as the top has it -/
structure InitAt (K : PySem.W.Frag) (C : Addr) (qual : Str) (st : Stmt) (ps : List Str) : Prop where
  ex : ∃ f fd, Fun K "__init__" qual st f fd ∧ Mk K C f ∧ Binds K fd ps []
structure MethAt (K : PySem.W.Frag) (C : Addr) (m qual : Str) (st : Stmt) (ps : List Str) : Prop where
  ex : ∃ f fd, Fun K m qual st f fd ∧ Meth K C m f ∧ Binds K fd ps []
structure HasMk (P : Program) (w : World) (K : PySem.W.Frag) (mg : Str → Option Value) (base : Heap) (CX : CXT) (k : Nat) (x : Str) (C : Addr) (ps : List Str) (sp : Sp) : Prop where
  ex : ∃ f fd, Mk K C f ∧ FnOk P w K mg base CX k f fd ps sp ∧ Binds K fd ps []
  at_ : mg x = some (.ref C)
structure HasM (P : Program) (w : World) (K : PySem.W.Frag) (mg : Str → Option Value) (base : Heap) (CX : CXT) (k : Nat) (C : Addr) (m : Str) (ps : List Str) (sp : Sp) : Prop where
  cl : Cls K C
  ex : ∃ f fd, Meth K C m f ∧ FnOk P w K mg base CX k f fd ps sp ∧ Binds K fd ps []
section
variable {X : Cx} {CX : CXT} {k : Nat} {x m : Str} {C : Addr} {ps : List Str} {sp : Sp} {E : XK} {p pos apos : Pos} {e o : Expr} {es : List Expr} {t : TA} {ta : TE}
theorem HasMk.make (h : HasMk X.prog X.w X.K X.mg X.base CX k x C ps sp) (hr : Room (k + 1) X.A) (hg : Gl X x) (hx : Passes CX X E)
    (ha : PA X (e :: es) t) (hdb : (x == ("__debug__" : Str)) = false := by decide) (he : starEach (e :: es) X.env = (false, eval e X.env) :: starEach es X.env := by rfl) (hpl : (backTo pos (starEach es X.env)).any (·.1) = false := by rfl) :
    PE X (.Call (.Name x p) (e :: es) [] pos) (tMake C sp [] E t) := by
  obtain ⟨f, fd, M, F, hb⟩ := h.ex
  exact pe_make M F hr hg h.at_ hb .nil hx ha hdb he hpl
theorem HasM.meth {pl : Sem Bool} (h : HasM X.prog X.w X.K X.mg X.base CX k C m ps sp) (hr : Room k X.A) (hx : Passes CX X E) (he : PE X o ta) (ha : PA X (e :: es) t)
    (hst : starEach (e :: es) X.env = (false, eval e X.env) :: starEach es X.env := by rfl) (hpl : (backTo pos (starEach es X.env)).any (·.1) = false := by rfl)
    (ht : eval (.Call (.Attribute o m apos) (e :: es) [] pos) X.env = (do
      let ov ← eval o X.env
      standAt apos.atName
      let (f, first) ← holding [ov] (getMethod ov m pl)
      callWith pos f first (backTo pos (starEach (e :: es) X.env)) (backToKw pos (keywordEach [] X.env))) := by rfl) :
    PE X (.Call (.Attribute o m apos) (e :: es) [] pos) (tMeth C m sp [] E ta t) := by
  obtain ⟨f, fd, M, F, hb⟩ := h.ex
  exact pe_meth he h.cl M F hr hb .nil hx ha hst hpl ht
theorem HasM.meth0 {pl : Sem Bool} (h : HasM X.prog X.w X.K X.mg X.base CX k C m ps sp) (hr : Room k X.A) (hx : Passes CX X E) (he : PE X o ta)
    (ht : eval (.Call (.Attribute o m apos) [] [] pos) X.env = (do
      let ov ← eval o X.env
      standAt apos.atName
      let (f, first) ← holding [ov] (getMethod ov m pl)
      callWith pos f first (backTo pos (starEach [] X.env)) (backToKw pos (keywordEach [] X.env))) := by rfl) :
    PE X (.Call (.Attribute o m apos) [] [] pos) (tMeth C m sp [] E ta tNil) := by
  obtain ⟨f, fd, M, F, hb⟩ := h.ex
  exact pe_meth0 he h.cl M F hr hb .nil hx ht
end
section
variable {Pg : Program} {w : World} {K : PySem.W.Frag} {T : List Addr} {mg : Str → Option Value} {base : Heap} {x m qual : Str} {st : Stmt} {N ps : List Str} {k : Nat} {C : Addr}
theorem fnD {x qual : Str} {f : Addr} {fd : FuncData} (F : Fun K x qual st f fd) (S : FnScope N ps (defScope st)) (W : Spc) (len : ∀ ds h R, W ds h R → ds.length = ps.length)
    (hbody : ∀ (cdv : Value) (A : Around) (outer : List Env) (s : Shared) (H : Hp) (E : XK), Room k (A.deeper (envOfC qual (defScope st) s.heap.objs.size f cdv)) →
      ∃ t, PSs (cxOf CX0 Pg w K mg base N qual (defScope st) f cdv A outer s H E).nox (defBody st) t ∧ ∀ ds h R, W ds h R → VS K (Ctx.plain T) t { nx := fun _ h' => R dN h', rt := R } (startD N ds) h) : FnOk Pg w K mg base CX0 (k + 1) f fd ps (spD K T W) := by
  refine F.ok S (fun vs H Q E h => ?_) fun cdv A outer s H vs Q E hr h => ?_
  · obtain ⟨ds, h, F, ρ, R, rl, ra, hw, _⟩ := h
    rw [← ra.len]
    exact len ds h R hw
  · obtain ⟨ds, h, F, ρ, R, rl, ra, hw, kq⟩ := h
    obtain ⟨t, ht, q⟩ := hbody cdv A outer s H E hr
    exact ⟨t, ht, q ds h R hw F ρ _ H _ rl.plain (renv_start ra) ⟨fun env' h' F' ρ' σ' H' s p r e q => kq dN h' .non F' ρ' H' s p r.toBase (.p .non) q, fun d h' v F' ρ' H' s p r dv q => kq d h' v F' ρ' H' s p r.toBase dv q, fun _ _ _ _ _ _ _ _ _ _ z => z.elim, fun _ _ _ _ _ _ _ _ _ _ z => z.elim⟩⟩
theorem InitAt.okD (A : InitAt K C qual st ps) (hm : mg x = some (.ref C)) (S : FnScope N ps (defScope st)) (W : Spc) (len : ∀ ds h R, W ds h R → ds.length = ps.length)
    (hbody : ∀ (f : Addr) (cdv : Value) (A : Around) (outer : List Env) (s : Shared) (H : Hp) (E : XK), Room k (A.deeper (envOfC qual (defScope st) s.heap.objs.size f cdv)) →
      ∃ t, PSs (cxOf CX0 Pg w K mg base N qual (defScope st) f cdv A outer s H E).nox (defBody st) t ∧ ∀ ds h R, W ds h R → VS K (Ctx.plain T) t { nx := fun _ h' => R dN h', rt := R } (startD N ds) h) : HasMk Pg w K mg base CX0 (k + 1) x C ps (spD K T W) := by
  obtain ⟨f, fd, F, M, hb⟩ := A.ex
  exact ⟨⟨f, fd, M, fnD F S W len (hbody f), hb⟩, hm⟩
theorem MethAt.okD (A : MethAt K C m qual st ps) (cl : Cls K C) (S : FnScope N ps (defScope st)) (W : Spc) (len : ∀ ds h R, W ds h R → ds.length = ps.length)
    (hbody : ∀ (f : Addr) (cdv : Value) (A : Around) (outer : List Env) (s : Shared) (H : Hp) (E : XK), Room k (A.deeper (envOfC qual (defScope st) s.heap.objs.size f cdv)) →
      ∃ t, PSs (cxOf CX0 Pg w K mg base N qual (defScope st) f cdv A outer s H E).nox (defBody st) t ∧ ∀ ds h R, W ds h R → VS K (Ctx.plain T) t { nx := fun _ h' => R dN h', rt := R } (startD N ds) h) : HasM Pg w K mg base CX0 (k + 1) C m ps (spD K T W) := by
  obtain ⟨f, fd, F, M, hb⟩ := A.ex
  exact ⟨cl, f, fd, M, fnD F S W len (hbody f), hb⟩
/-- a def that nobody may call yet -/
theorem HasF.never (A : DefAt K mg x st ps) (S : FnScope N ps (defScope st)) {W : Spc} (hw : ∀ ds h R, ¬ W ds h R) : HasF Pg w K mg base CX0 (k + 1) x ps (spD K T W) :=
  A.okD S W (fun ds h R q => (hw _ _ _ q).elim) fun f cdv A outer s H E hr => ⟨_, pss_never, fun ds h R q => (hw _ _ _ q).elim⟩
end
section
variable {K : PySem.W.Frag} {Θ : Ctx} {env : Env'} {h : Hs} {R : D → Hs → Prop} {ta : TE} {t : TA} {C : Addr}
/-- C(..), the instance stays as it is from then on -/
theorem ve_makeF {W : Spc} {E : XK} (q : VA K Θ t env h fun xs h1 => W (.own h1.length :: xs) (h1 ++ [some (.ins C [])]) fun d h2 => d = dN ∧ ∃ fs : List (Str × P), h2 = h1 ++ [some (.ins C (fs.map fun q => (q.1, D.p q.2)))] ∧ R (.p (.ins C fs)) h1) :
    VE K Θ (tMake C (spD K Θ.tabs W) [] E t) env h R := fun F ρ σ H Q rl e k =>
  q F ρ σ H _ rl e fun xs h1 vs F1 ρ1 H1 s1 p1 r1 dxs q1 => by
    intro x dx hx hdx hne
    have hx' : (upd H1 dx (.own x)) x = none := by rw [upd_ne (Ne.symm hne)]; exact hx
    have sn : Same F1 (upd F1 dx (.own x)) := same_new (r1.free hdx)
    have r2 : Rel K Θ (upd F1 dx (.own x)) ρ1 h1 (upd H1 dx (.own x)) := r1.frz hdx
    have r3 := r2.push (o := .ins C []) (u := .ins C dx []) hx' ⟨dx, [], rfl, .nil⟩
    refine ⟨.own h1.length :: xs, _, _, ρ1 ++ [x], _, r3.toBase, .cons (.own (by rw [← r1.len]; simp)) (by rw [List.append_nil]; exact dxs.mono sn (Pre.push _ _)), q1, fun d h' v F' ρ' H' s p r dv q2 => ?_⟩
    obtain ⟨rfl, fs, rfl, q2⟩ := q2
    refine ⟨dv.non, ?_⟩
    obtain ⟨a, u, e1, e2, e3, e4, r4⟩ := (⟨r, r3.wish.mono s p⟩ : Rel K Θ _ _ _ _).freeze (i := h1.length) (o := .ins C (fs.map fun q => (q.1, D.p q.2))) (by simp)
    have ea : ρ'[h1.length]? = some x := p _ _ (by rw [← r1.len]; simp)
    rw [ea] at e1
    cases e1
    obtain ⟨dx', gs, rfl, e5⟩ := e4
    have pp : Pre ρ1 ρ' := (Pre.push ρ1 x).trans p
    have r5 : Rel K Θ (upd F' x (.ins C dx' gs)) ρ' (h1 ++ [none]) H' := by
      have z := r4
      rw [List.set_append_right _ _ (Nat.le_refl _), Nat.sub_self] at z
      exact z
    exact k _ h1 _ _ ρ1 H' ((s1.trans (sn.trans s)).trans (same_new e2)) p1 (r1.back (sn.trans (s.trans (same_new e2))) pp r5) (.p (.ins upd_same e5.pure)) q2
def InsD (C : Addr) (m : Str) (x : D) (h : Hs) : Prop := match x with
  | .p (.ins C' fs) => C' = C ∧ (fs.map fun q => (q.1, D.p q.2)).lookup m = none
  | .own i => ∃ fs, h[i]? = some (some (.ins C fs)) ∧ fs.lookup m = none
  | _ => False
theorem ve_meth {m : Str} {W : Spc} {E : XK} (q : VE K Θ ta env h fun x h1 => InsD C m x h1 ∧ VA K Θ t env h1 fun xs h2 => W (x :: xs) h2 R) : VE K Θ (tMeth C m (spD K Θ.tabs W) [] E ta t) env h R := fun F ρ σ H Q rl e k =>
  q F ρ σ H _ rl e fun x h1 vx F1 ρ1 H1 s1 p1 r1 dx q1 => by
    obtain ⟨hi, q1⟩ := q1
    have go : ∀ a dd gs, vx = .ref a → H1 a = some (.ins C dd gs) → gs.lookup m = none → ∃ a dx fs, vx = .ref a ∧ H1 a = some (.ins C dx fs) ∧ fs.lookup m = none ∧ t σ H1 fun vs H2 => spD K Θ.tabs W (vx :: (vs ++ [])) H2 Q E := fun a dd gs g1 g2 g3 =>
      ⟨a, dd, gs, g1, g2, g3, q1 F1 ρ1 σ H1 _ r1 (e.mono s1 p1) fun xs h2 vs F2 ρ2 H2 s2 p2 r2 dxs q2 => ⟨x :: xs, h2, F2, ρ2, R, r2.toBase, .cons (dx.mono s2 p2) (by rw [List.append_nil]; exact dxs), q2, fun d h' v F' ρ' H' s3 p3 r3 dv q3 => k d h' v F' ρ' H' (s1.trans (s2.trans s3)) (p1.trans (p2.trans p3)) ⟨r3, r2.wish.mono s3 p3⟩ dv q3⟩⟩
    cases id dx with
    | p dx =>
      cases dx with
      | ins a b =>
        obtain ⟨rfl, l⟩ := hi
        exact go _ _ _ rfl (r1.same _ _ a) ((b.data (ρ := ρ1)).lookN l)
      | _ => exact hi.elim
    | own ho =>
      obtain ⟨fs, hx, l⟩ := hi
      obtain ⟨a, u, e1, e2, e3, dd, gs, e4, e5⟩ := r1.own _ _ hx
      rw [ho] at e1; cases e1
      subst e4
      exact go _ _ _ rfl e3 (e5.lookN l)
/-! ### isinstance -/
/-- the name of the type of what is written data -/
def tyN : P → Option String
  | .non => some "NoneType"
  | .bl _ => some "bool"
  | .int _ => some "int"
  | .str _ => some "str"
  | .tup _ => some "tuple"
  | .ktp _ => some "tuple"
  | .lst _ => some "list"
  | _ => none
def tyD (d : D) (h : Hs) (T : String) : Prop := match d with
  | .p p => tyN p = some T
  | .own i => T = "list" ∧ ∃ xs, h[i]? = some (some (.lst xs))
def isA (a b : String) : Bool := a == b || (a == "bool" && b == "int")
theorem tyD.v {F : Hp} {ρ : List Addr} {H : Hp} {d : D} {v : V} {T : String} (r : Rel K Θ F ρ h H) (q : RD K F ρ d v) (hT : tyD d h T) : TyX K H v (.type T) := by
  cases q with
  | p q =>
    cases q with
    | non => cases hT; exact .base .non
    | bl b => cases hT; exact .base (.bl b)
    | int b => cases hT; exact .base (.int b)
    | str b => cases hT; exact .base (.str b)
    | tup a b =>
      cases hT
      rcases sqT_mono r.same a with (a | ⟨o, a⟩) | ⟨o, its, n, a, c, _⟩
      · exact .base (.tup a)
      · exact .fTuple a
      · exact .kTuple a c
    | ktp a b =>
      cases hT
      rcases a (fun _ => none) with (a | ⟨o, a⟩) | ⟨o, its, n, a, c, _⟩
      · cases a
      · cases a
      · exact .kTuple a c
    | lst a b =>
      cases hT
      rcases r.same.seq a with (a | ⟨o, a⟩) | ⟨o, its, n, a, c, _⟩
      · exact .base (.lst a)
      · exact .base (.frz a)
      · exact .kList a c
    | ins a b => cases hT
    | ty n => cases hT
    | cls n => cases hT
  | own e =>
    obtain ⟨rfl, xs, hx⟩ := hT
    obtain ⟨a, u, e1, e2, e3, vs, e4, _⟩ := r.own _ _ hx
    rw [e] at e1; cases e1
    subst e4
    exact .base (.lst e3)
theorem isA_kit {a b : String} (ha : a ∈ ["NoneType", "bool", "int", "str", "tuple", "list"]) (hb : b ∈ ["bool", "int", "str", "tuple", "list", "dict"]) : PySem.W.kitOne K (.type a) (.type b) = some (isA a b) := by
  refine kit_ty ?_
  have all : ∀ a ∈ ["NoneType", "bool", "int", "str", "tuple", "list"], ∀ b ∈ ["bool", "int", "str", "tuple", "list", "dict"], kitB a b = some (isA a b) := by decide +kernel
  exact all a ha b hb
theorem tyD_mem {d : D} {T : String} (hT : tyD d h T) : T ∈ ["NoneType", "bool", "int", "str", "tuple", "list"] := by
  cases d with
  | p p =>
    cases p <;> first | (cases hT; decide) | cases hT
  | own i => rw [hT.1]; decide
/-- isinstance(x, T) -/
theorem vc_isi {x : D} {T n : String} (hT : tyD x h T) (hn : n ∈ ["bool", "int", "str", "tuple", "list", "dict"]) (q : R (dB (isA T n)) h) : VC K Θ (rIsiU K) [x, .p (.ty n)] h R := fun F ρ H vs Q rl a k => by
  cases a with
  | cons a b =>
    cases b with
    | cons b c =>
      cases c
      cases b with
      | p b =>
        cases b
        exact .inl ⟨_, _, _, _, _, rfl, .ty n, hT.v rl a, isA_kit (tyD_mem hT) hn, k _ h _ F ρ H (Same.refl _) (Pre.refl _) rl (.p (.bl _)) q⟩
/-- isinstance(x, (T, S)) -/
theorem ve_isi2 {m n : String} (q : VE K Θ ta env h fun x h1 => ∃ T, tyD x h1 T ∧ m ∈ ["bool", "int", "str", "tuple", "list", "dict"] ∧ n ∈ ["bool", "int", "str", "tuple", "list", "dict"] ∧ R (dB (isA T m || isA T n)) h1) :
    VE K Θ (tCB (rIsiU K) (tCons ta (tCons (tTup (tCons (tC (.ty m)) (tCons (tC (.ty n)) tNil))) tNil))) env h R := fun F ρ σ H Q rl e k =>
  q F ρ σ H _ rl e fun x h1 vx F1 ρ1 H1 s1 p1 r1 dx q1 => by
    obtain ⟨T, hT, hm, hn, q1⟩ := q1
    refine ⟨by show 2 ≤ sizeLine; exact sz_le (by decide), fun p hp => ?_⟩
    have r2 : Rel K Θ (upd F1 p (.tup [.ty m, .ty n])) ρ1 h1 (upd H1 p (.tup [.ty m, .ty n])) := r1.frz hp
    have sn : Same F1 (upd F1 p (.tup [.ty m, .ty n])) := same_new (r1.free hp)
    refine .inr ⟨vx, p, [.ty m, .ty n], _, [.type m, .type n], isA T m || isA T n, rfl, upd_same, .cons (.ty m) (.cons (.ty n) .nil), hT.v r2 (dx.mono sn (Pre.refl _)), ?_, ?_⟩
    · have e1 := isA_kit (K := K) (tyD_mem hT) hm
      have e2 := isA_kit (K := K) (tyD_mem hT) hn
      refine kitAny_cons e1 (fun z => ?_) fun z => by rw [z]; rfl
      rw [z, Bool.false_or]
      refine kitAny_cons e2 (fun z2 => ?_) fun z2 => z2
      rw [z2]
      rfl
    · exact k _ h1 _ _ ρ1 _ (s1.trans sn) p1 r2 (.p (.bl _)) q1
end
end Kb

/-! What is walked is a list or a tuple; data of bounded depth. -/
namespace Kb
open PySem PySem.Spec PyProof.Rows L2
/-- either kind -/
def iSeq (K : PySem.W.Frag) (tl : TE) : TI := fun σ H R => tl σ H fun x H1 => (∃ a, x = .ref a ∧ (∃ xs, SqL K H1 a xs) ∧ R (Itl K a) H1) ∨ ∃ a, x = .ref a ∧ (∃ xs, SqT K H1 a xs) ∧ R (Itt K a) H1
theorem pi_seq {X : Cx} {tg l : Expr} {tl : TE} (hl : PE X l tl) : PI X tg l (iSeq X.K tl) := by
  refine ⟨fun pins s σ H R I h => ?_⟩
  refine thn (hl.run pins s σ H _ I h) fun v s1 ⟨x, H1, I1, r1, q1⟩ => ?_
  have fin : ∀ b ∈ [s1.heap.objs.size], _ := fun b hb => by
    have e : b = s1.heap.objs.size := by simpa using hb
    subst e
    exact I1.fpOk (Nat.le_refl _) (I1.hok.fresh (Nat.le_refl _))
  rcases q1 with q1 | q1 <;> obtain ⟨a, e, ⟨xs, hq⟩, q⟩ := q1 <;> subst e <;> cases r1
  · obtain ⟨its, rv, p, hz⟩ := I1.list hq
    refine wpAny_pyIter_list p.isList ?_
    exact ⟨s1.heap.objs.size, [s1.heap.objs.size], _, _, H1, rfl, I1.kept (t' := s1.toks) fun b o e => Heap.get?_push_of_some _ e, turn_list a _, ⟨_, Heap.get?_push_size _ rfl, rfl, rfl⟩, fin, q⟩
  · obtain ⟨its, rv, p, hz⟩ := I1.tuple hq
    refine wpAny_pyIter_tuple (show s1.heap.IsTuple a its.toArray from p) ?_
    exact ⟨s1.heap.objs.size, [s1.heap.objs.size], _, _, H1, rfl, I1.kept (t' := s1.toks) fun b o e => Heap.get?_push_of_some _ e, turn_tuple a _, ⟨_, Heap.get?_push_size _ rfl, rfl, rfl⟩, fin, q⟩
section
variable {K : PySem.W.Frag} {Θ : Ctx} {env : Env'} {h : Hs}
theorem vi_seqL {tl : TE} {R : List D → (Hs → Prop) → Hs → Prop} (q : VE K Θ tl env h fun x h1 => ∃ ps, x = dL ps ∧ R (ps.map D.p) (fun _ => True) h1) : VI K Θ (iSeq K tl) env h R := fun F ρ σ H Q rl e k =>
  q F ρ σ H _ rl e fun x h1 vx F1 ρ1 H1 s1 p1 r1 dx q1 => by
    obtain ⟨ps, rfl, q1⟩ := q1
    cases dx with
    | p dx =>
      cases dx with
      | @lst a _ vs ha rp =>
        refine .inl ⟨a, rfl, ⟨vs, r1.same.seq ha⟩, k (ps.map D.p) (fun _ => True) h1 _ F1 ρ1 H1 s1 p1 r1 ⟨fun F' ρ' h' H' s p r _ => ?_, fun i F' ρ' h' H' s p r _ hi => ?_, fun i d F' ρ' h' H' x H2 s p r _ hd hy => ?_⟩ q1⟩
        · exact ⟨vs, r.same.seq (s.seq ha), by rw [List.length_map, rp.len]; exact Nat.le_refl _⟩
        · rw [List.length_map, rp.len] at hi
          exact ⟨vs, vs[i], r.same.seq (s.seq ha), List.getElem?_eq_getElem hi⟩
        · obtain ⟨e1, e2⟩ := hy
          subst e1
          rw [List.getElem?_map] at hd
          cases hp : ps[i]? with
          | none => rw [hp] at hd; cases hd
          | some p0 =>
            rw [hp] at hd; cases hd
            obtain ⟨v, hv, rv⟩ := rp.get hp
            have ev := e2 vs (r.same.seq (s.seq ha))
            rw [hv] at ev; cases ev
            exact ⟨F', Same.refl _, r, .p (rv.mono s)⟩
theorem vi_seqT {tl : TE} {R : List D → (Hs → Prop) → Hs → Prop} (q : VE K Θ tl env h fun x h1 => ∃ ps, x = dT ps ∧ R (ps.map D.p) (fun _ => True) h1) : VI K Θ (iSeq K tl) env h R := fun F ρ σ H Q rl e k =>
  q F ρ σ H _ rl e fun x h1 vx F1 ρ1 H1 s1 p1 r1 dx q1 => by
    obtain ⟨ps, rfl, q1⟩ := q1
    cases dx with
    | p dx =>
      cases dx with
      | @tup a _ vs ha rp =>
        refine .inr ⟨a, rfl, ⟨vs, sqT_mono r1.same ha⟩, k (ps.map D.p) (fun _ => True) h1 _ F1 ρ1 H1 s1 p1 r1 ⟨fun F' ρ' h' H' s p r _ => ?_, fun i F' ρ' h' H' s p r _ hi => ?_, fun i d F' ρ' h' H' x H2 s p r _ hd hy => ?_⟩ q1⟩
        · exact ⟨vs, sqT_mono r.same (sqU_mono s ha), by rw [List.length_map, rp.len]; exact Nat.le_refl _⟩
        · rw [List.length_map, rp.len] at hi
          exact ⟨vs, vs[i], sqT_mono r.same (sqU_mono s ha), List.getElem?_eq_getElem hi⟩
        · obtain ⟨e1, e2⟩ := hy
          subst e1
          rw [List.getElem?_map] at hd
          cases hp : ps[i]? with
          | none => rw [hp] at hd; cases hd
          | some p0 =>
            rw [hp] at hd; cases hd
            obtain ⟨v, hv, rv⟩ := rp.get hp
            have ev := e2 vs (sqT_mono r.same (sqU_mono s ha))
            rw [hv] at ev; cases ev
            exact ⟨F', Same.refl _, r, .p (rv.mono s)⟩
theorem vi_seqO {tl : TE} {R : List D → (Hs → Prop) → Hs → Prop} (q : VE K Θ tl env h fun x h1 => ∃ n xs, x = .own n ∧ h1[n]? = some (some (.lst xs)) ∧ R xs (fun h2 => h2[n]? = some (some (.lst xs))) h1) : VI K Θ (iSeq K tl) env h R := fun F ρ σ H Q rl e k =>
  q F ρ σ H _ rl e fun x h1 vx F1 ρ1 H1 s1 p1 r1 dx q1 => by
    obtain ⟨n, xs, rfl, hx, q1⟩ := q1
    cases dx with
    | @own a _ ha =>
      have at_ : ∀ (F' : Hp) (ρ' : List Addr) (h' : Hs) (H' : Hp), Pre ρ1 ρ' → Rel K Θ F' ρ' h' H' → h'[n]? = some (some (.lst xs)) → ∃ vs, H' a = some (.lst vs) ∧ RA K F' ρ' xs vs := fun F' ρ' h' H' p r hn => by
        obtain ⟨a', u, e1, e2, e3, vs, e4, e5⟩ := r.own _ _ hn
        rw [p _ _ ha] at e1; cases e1
        subst e4
        exact ⟨vs, e3, e5⟩
      obtain ⟨vs, hv, _⟩ := at_ F1 ρ1 h1 H1 (Pre.refl _) r1 hx
      refine .inl ⟨a, rfl, ⟨vs, .of hv⟩, k xs _ h1 _ F1 ρ1 H1 s1 p1 r1 ⟨fun F' ρ' h' H' s p r c => ?_, fun i F' ρ' h' H' s p r c hi => ?_, fun i d F' ρ' h' H' x H2 s p r c hd hy => ?_⟩ q1⟩
      · obtain ⟨vs, hv, rv⟩ := at_ F' ρ' h' H' p r c
        exact ⟨vs, .of hv, by rw [rv.len]; exact Nat.le_refl _⟩
      · obtain ⟨vs, hv, rv⟩ := at_ F' ρ' h' H' p r c
        rw [rv.len] at hi
        exact ⟨vs, vs[i], .of hv, List.getElem?_eq_getElem hi⟩
      · obtain ⟨e1, e2⟩ := hy
        subst e1
        obtain ⟨vs, hv, rv⟩ := at_ F' ρ' h' _ p r c
        obtain ⟨v, h1, h2⟩ := rv.get hd
        have ev := e2 vs (.of hv)
        rw [h1] at ev; cases ev
        exact ⟨F', Same.refl _, r, h2⟩

theorem vc_lenL {xs : List P} {R : D → Hs → Prop} (q : R (dI xs.length) h) : VC K Θ (fun xs H Q => ∃ x n, xs = [x] ∧ LenV K x H n ∧ Q (.int n) H) [dL xs] h R := vc_len (n := xs.length) rfl q
theorem vc_lenT {xs : List P} {R : D → Hs → Prop} (q : R (dI xs.length) h) : VC K Θ (fun xs H Q => ∃ x n, xs = [x] ∧ LenV K x H n ∧ Q (.int n) H) [dT xs] h R := vc_len (n := xs.length) rfl q
theorem vc_lenO {i : Nat} {xs : List D} {R : D → Hs → Prop} (hx : h[i]? = some (some (.lst xs))) (q : R (dI xs.length) h) : VC K Θ (fun xs H Q => ∃ x n, xs = [x] ∧ LenV K x H n ∧ Q (.int n) H) [.own i] h R := vc_len (n := xs.length) ⟨xs, hx, rfl⟩ q
theorem ite_nrefl {α : Type} [DecidableEq α] {a : α} {A B : Prop} (q : B) : if (!decide (a = a)) = true then A else B := by rw [decide_eq_true (rfl : a = a)]; exact q
theorem ite_refl {α : Type} [DecidableEq α] {a : α} {A B : Prop} (q : A) : if decide (a = a) = true then A else B := by rw [decide_eq_true (rfl : a = a)]; exact q
theorem isi2_i {x : D} {T m n : String} {S : String → Prop} (hT : tyD x h T) (hm : m ∈ ["bool", "int", "str", "tuple", "list", "dict"]) (hn : n ∈ ["bool", "int", "str", "tuple", "list", "dict"]) (q : S T) :
    ∃ T, tyD x h T ∧ m ∈ ["bool", "int", "str", "tuple", "list", "dict"] ∧ n ∈ ["bool", "int", "str", "tuple", "list", "dict"] ∧ S T := ⟨T, hT, hm, hn, q⟩
theorem ite_tt {c : Bool} {A B : Prop} (e : c = true) (q : A) : if c = true then A else B := by rw [if_pos e]; exact q
theorem ite_ff {c : Bool} {A B : Prop} (e : c = false) (q : B) : if c = true then A else B := by rw [e, if_neg Bool.false_ne_true]; exact q
theorem vt_yes {B : Bool → Hs → Prop} (q : B true h) : VT K Θ tYes env h B := fun F ρ σ H Q rl e k => k true h F ρ H (Same.refl _) (Pre.refl _) rl q
theorem fm_get {α : Type} (ys : List α) : (List.range ys.length).filterMap (fun i => ys[i]?) = ys := by
  induction ys with
  | nil => rfl
  | cons x xs ih =>
    rw [List.length_cons, List.range_succ_eq_map, List.filterMap_cons]
    simp only [List.getElem?_cons_zero, List.filterMap_map]
    exact congrArg (x :: ·) ih
theorem ve_lcMap {wi : TI} {g : TG} {te : TE} {vs : List Nat} {R : D → Hs → Prop} (tg : TgOk g vs)
    (q : VI K Θ wi env h fun ds C h1 => ∃ ys : List P, ys.length = ds.length ∧ ds.length < sizeLine ∧ (∀ acc, C (h1 ++ [some (.lst acc)])) ∧
      (∀ (i : Nat) (d : D) (y : P) (acc : List D), ds[i]? = some d → ys[i]? = some y → VG K Θ g d (wipeD env vs) (h1 ++ [some (.lst acc)]) fun env' h' => h' = h1 ++ [some (.lst acc)] ∧ VE K Θ te env' h' fun z h3 => h3 = h1 ++ [some (.lst acc)] ∧ z = .p y) ∧ R (dL ys) h1) : VE K Θ (tLc wi g tYes te vs) env h R :=
  ve_lc tg fun F ρ σ H Q rl e k => q F ρ σ H Q rl e fun ds C h' J F' ρ' H' s p r it ⟨ys, hl, hz, hC, turn, fin⟩ => k ds C h' J F' ρ' H' s p r it
    ⟨fun i => ys[i]?, hz, hC, fun i d acc hd => by
      have hi : i < ys.length := by rw [hl]; exact (List.getElem?_eq_some_iff.mp hd).1
      have ey : ys[i]? = some ys[i] := List.getElem?_eq_getElem hi
      refine fun F ρ σ H v Q rl e dv k => turn i d _ acc hd ey F ρ σ H v Q rl e dv fun env' h' F' ρ' σ' H' s p r e' ⟨eh, qe⟩ => k env' h' F' ρ' σ' H' s p r e' ⟨eh, vt_yes ⟨rfl, ite_tt rfl ?_⟩⟩
      exact VE.imp qe fun z h3 ⟨a, b⟩ => ⟨a.trans eh.symm, ys[i], b, ey⟩, by rw [← hl, fm_get]; exact fin⟩
end
/-- written data of bounded depth and bounded lengths -/
def okP : Nat → P → Bool
  | _, .non => true
  | _, .bl _ => true
  | _, .int _ => true
  | _, .str s => decide (s.length ≤ 100000)
  | n + 1, .tup xs => decide (xs.length ≤ 100000) && xs.all (okP n)
  | n + 1, .lst xs => decide (xs.length ≤ 100000) && xs.all (okP n)
  | _, _ => false
theorem okP_tup {n : Nat} {xs : List P} (h : okP n (.tup xs) = true) : ∃ m, n = m + 1 ∧ xs.length ≤ 100000 ∧ ∀ x ∈ xs, okP m x = true := by
  cases n with
  | zero => simp [okP] at h
  | succ n =>
    simp only [okP, Bool.and_eq_true, decide_eq_true_eq, List.all_eq_true] at h
    exact ⟨n, rfl, h.1, h.2⟩
theorem okP_lst {n : Nat} {xs : List P} (h : okP n (.lst xs) = true) : ∃ m, n = m + 1 ∧ xs.length ≤ 100000 ∧ ∀ x ∈ xs, okP m x = true := by
  cases n with
  | zero => simp [okP] at h
  | succ n =>
    simp only [okP, Bool.and_eq_true, decide_eq_true_eq, List.all_eq_true] at h
    exact ⟨n, rfl, h.1, h.2⟩
/-- tuples in place of all lists -/
def frzP : Nat → P → P
  | n + 1, .tup xs => .tup (xs.map (frzP n))
  | n + 1, .lst xs => .tup (xs.map (frzP n))
  | _, x => x
end Kb

/-! sum of a list or a tuple; fields; more steps. -/
namespace Kb
open PySem PySem.Spec PyProof.Rows L2
section
variable {prog : Program} {w : World} {A : Around} {E : Value → Shared → Prop} {s : Shared} {l : Addr} {its : List Value} {ns : List Int} {Q : Value → Shared → Prop}
theorem sum_tup (hh : A.handled = none) (hl : s.heap.IsTuple l its.toArray) (hi : IntsAre its ns)
    (h : ∀ h' tk t', (∀ b o, s.heap.get? b = some o → h'.get? b = some o) → Q (.int ns.sum t') { s with heap := h', toks := tk }) : wpAny (model prog w) A (call (.builtin "sum") [.ref l]) Q E s := by
  obtain ⟨xs, e⟩ := hi.allInts.items
  have hn : numsOf (intItems xs).toList = ns := by rw [← e]; exact hi.numsOf
  rw [nums_intItems] at hn
  rw [e] at hl
  have hlt : l < s.heap.objs.size := by obtain ⟨_, e, _⟩ := hl; exact Heap.lt_size e
  refine call_sum_walkG (wpAny_pyIter_tuple hl ?_)
  refine ⟨s.heap.objs.size, _, _, _, _, _, numAt xs, rfl, Walks.tuple (A := A.in1) hh _ l (Nat.ne_of_lt hlt) (intItems xs), ⟨⟨_, Heap.get?_push_size _ rfl, rfl, rfl⟩, hl.at fun o e => Heap.get?_push_of_some _ e⟩, fun b hb => ?_, (fun _ _ => intItems_at), fun h' tk t' hk => ?_⟩
  · show b < (s.heap.push _).objs.size
    rw [Heap.size_push]
    rcases List.mem_cons.mp hb with rfl | hb
    · exact Nat.lt_succ_self _
    · rw [List.mem_singleton.mp hb]
      exact Nat.lt_succ_of_lt hlt
  · have := h h' tk t' fun b o e => hk b o (fun hm => by rw [List.mem_singleton.mp hm] at e; exact absurd (Heap.lt_size e) (Nat.lt_irrefl _)) (Heap.get?_push_of_some _ e)
    have e3 : preSum (numAt xs) (intItems xs).size = ns.sum := by
      rw [show (intItems xs).size = xs.size from by simp [intItems], preSum_eq, List.take_of_length_le (by simp), hn]
    rw [e3]
    exact this
end
section
variable {X : Cx}
def rSumT (K : PySem.W.Frag) : List V → Hp → VK → Prop := fun vs H Q => ∃ (a : Addr) (ns : List Int), vs = [V.ref a] ∧ SqT K H a (ns.map V.int) ∧ Q (.int ns.sum) H
theorem cr_sumT (hc : X.calm = true) : CallR X (.builtin "sum") (rSumT X.K) := by
  intro pins s σ H vs us Q I r h
  obtain ⟨a, ns, rfl, hs, q⟩ := h
  obtain ⟨its, rv, hl, _⟩ := I.tuple hs
  rw [Vals.ref1 r]
  exact sum_tup (I.ok.hd hc) hl rv.ints fun h' tk t' hk => ⟨.int _, H, I.kept hk, ⟨_, rfl⟩, q⟩
def rSumU (K : PySem.W.Frag) : List V → Hp → VK → Prop := fun xs H Q => rSum K xs H Q ∨ rSumT K xs H Q
theorem cr_sumU (hc : X.calm = true) : CallR X (.builtin "sum") (rSumU X.K) := CallR.or (cr_sum hc) (cr_sumT hc)
end
section
variable {K : PySem.W.Frag} {Θ : Ctx} {env : Env'} {h : Hs} {R : D → Hs → Prop}
theorem vc_sumL {ns : List Int} (q : R (dI ns.sum) h) : VC K Θ (rSumU K) [dL (ns.map P.int)] h R := fun F ρ H vs Q rl a k => .inl (vc_sum (.inl rfl) q F ρ H vs Q rl a k)
theorem vc_sumT {ns : List Int} (q : R (dI ns.sum) h) : VC K Θ (rSumU K) [dT (ns.map P.int)] h R := fun F ρ H vs Q rl a k => .inr (by
  cases a with
  | cons a b =>
    cases b
    cases a with
    | p a =>
      cases a with
      | tup a r =>
        have e := r.ints
        subst e
        exact ⟨_, ns, rfl, sqT_mono rl.same a, k _ h _ F ρ H (Same.refl _) (Pre.refl _) rl (.p (.int _)) q⟩)
theorem fld_i {x : D} {f : Str} {C : Addr} {d : D} {S : D → Prop} (l : FldD f x h C d) (c : Cls K C) (n : NoAttr K C f) (q : S d) : ∃ C d, Cls K C ∧ NoAttr K C f ∧ FldD f x h C d ∧ S d := ⟨C, d, c, n, l, q⟩
class IsPs (xs : List D) (ps : outParam (List P)) : Prop where
  eq : xs = ps.map D.p
instance : IsPs [] [] := ⟨rfl⟩
instance {x : P} {ds : List D} {ps : List P} [h : IsPs ds ps] : IsPs (.p x :: ds) (x :: ps) := ⟨by rw [h.eq]; rfl⟩
theorem tup_j {S : List P → Prop} {xs : List D} {ps : List P} [ex : IsPs xs ps] (hl : Nat.ble xs.length 100000 = true) (q : S ps) : ∃ ps, xs = ps.map D.p ∧ xs.length ≤ sizeLine ∧ S ps := ⟨ps, ex.eq, sz_le (Nat.le_of_ble_eq_true hl), q⟩
theorem frz_idem : ∀ (n : Nat) (x : P), frzP n (frzP n x) = frzP n x
  | 0, x => rfl
  | n + 1, .tup xs => by
    show P.tup _ = P.tup _
    rw [List.map_map]
    exact congrArg P.tup (List.map_congr_left fun x _ => frz_idem n x)
  | n + 1, .lst xs => by
    show P.tup _ = P.tup _
    rw [List.map_map]
    exact congrArg P.tup (List.map_congr_left fun x _ => frz_idem n x)
  | n + 1, .non => rfl
  | n + 1, .bl _ => rfl
  | n + 1, .int _ => rfl
  | n + 1, .str _ => rfl
  | n + 1, .ins _ _ => rfl
  | n + 1, .ty _ => rfl
  | n + 1, .ktp _ => rfl
  | n + 1, .cls _ => rfl
theorem okP_frz : ∀ (n : Nat) (x : P), okP n x = true → okP n (frzP n x) = true
  | 0, x, h => h
  | n + 1, .tup xs, h => by
    simp only [okP, Bool.and_eq_true, decide_eq_true_eq, List.all_eq_true] at h
    simp only [frzP, okP, Bool.and_eq_true, decide_eq_true_eq, List.all_eq_true, List.length_map, List.mem_map]
    refine ⟨h.1, ?_⟩
    rintro y ⟨x, hx, rfl⟩
    exact okP_frz n x (h.2 x hx)
  | n + 1, .lst xs, h => by
    simp only [okP, Bool.and_eq_true, decide_eq_true_eq, List.all_eq_true] at h
    simp only [frzP, okP, Bool.and_eq_true, decide_eq_true_eq, List.all_eq_true, List.length_map, List.mem_map]
    refine ⟨h.1, ?_⟩
    rintro y ⟨x, hx, rfl⟩
    exact okP_frz n x (h.2 x hx)
  | n + 1, .non, h => h
  | n + 1, .bl _, h => h
  | n + 1, .int _, h => h
  | n + 1, .str _, h => h
  | n + 1, .ins _ _, h => h
  | n + 1, .ty _, h => h
  | n + 1, .ktp _, h => h
  | n + 1, .cls _, h => h
theorem frz_ints (n : Nat) (ns : List Int) : frzP (n + 1) (.lst (ns.map P.int)) = .tup (ns.map P.int) ∧ frzP (n + 1) (.tup (ns.map P.int)) = .tup (ns.map P.int) := by
  have e : (ns.map P.int).map (frzP n) = ns.map P.int := by
    rw [List.map_map]
    refine List.map_congr_left fun x _ => ?_
    cases n <;> rfl
  exact ⟨congrArg P.tup e, congrArg P.tup e⟩
theorem okP_ints (n : Nat) (ns : List Int) (hl : ns.length ≤ 100000) : okP (n + 1) (.lst (ns.map P.int)) = true ∧ okP (n + 1) (.tup (ns.map P.int)) = true := by
  have e : ∀ x ∈ ns.map P.int, okP n x = true := fun x hx => by
    obtain ⟨i, _, rfl⟩ := List.mem_map.mp hx
    cases n <;> rfl
  constructor <;>
  · simp only [okP, Bool.and_eq_true, decide_eq_true_eq, List.all_eq_true, List.length_map]
    exact ⟨hl, e⟩
end
end Kb

/-! The rules with the kit's part named: they serve in the block of a comprehension too. -/
namespace Kb
open PySem PySem.Spec PyProof.Rows L2
section
variable {X : Cx} {K : PySem.W.Frag}
theorem op_addUK (hK : X.K = K) : OpR X (binaryOp .Add) (rAddU K) := hK ▸ op_addU
theorem op_eqUK (hK : X.K = K) (hu : X.A.units + 64 < cLine) : OpR X (compareOp .Eq) (rEqU K) := hK ▸ op_eqU hu
theorem op_neUK (hK : X.K = K) (hu : X.A.units + 64 < cLine) : OpR X (compareOp .NotEq) (rNeU K) := hK ▸ op_neU hu
theorem op_inUK (hK : X.K = K) : OpR X (compareOp .In) (rInU K) := hK ▸ op_inU
theorem op_ninUK (hK : X.K = K) : OpR X (compareOp .NotIn) (rNiU K) := hK ▸ op_ninU
theorem ix_seqK (hK : X.K = K) : IxR X (rIx K) := hK ▸ ix_seq
theorem sl_listK (hK : X.K = K) : SlR X (rSlL K) := hK ▸ sl_list
theorem call_lenK (hK : X.K = K) : CallR X (.builtin "len") (fun xs H Q => ∃ x n, xs = [x] ∧ LenV K x H n ∧ Q (.int n) H) := hK ▸ call_len
theorem call_isiUK (hK : X.K = K) : CallR X (.builtin "isinstance") (rIsiU K) := hK ▸ call_isiU
theorem cr_sumUK (hK : X.K = K) (hc : X.calm = true) : CallR X (.builtin "sum") (rSumU K) := hK ▸ cr_sumU hc
theorem call_list_ofK (hK : X.K = K) : CallR X (.type "list") (fun xs H Q => ∃ p ys, xs = [.ref p] ∧ (SqL K H p ys ∨ SqT K H p ys) ∧ ∀ l, H l = none → Q (.ref l) (upd H l (.lst ys))) := hK ▸ call_list_of
theorem call_tuple_ofK (hK : X.K = K) : CallR X (.type "tuple") (fun xs H Q => ∃ p ys, xs = [.ref p] ∧ ((SqL K H p ys ∧ ∀ l, H l = none → Q (.ref l) (upd H l (.tup ys))) ∨ (SqT K H p ys ∧ Q (.ref p) H))) := hK ▸ call_tuple_of
theorem pi_seqK {tg l : Expr} {tl : TE} (hK : X.K = K) (hl : PE X l tl) : PI X tg l (iSeq K tl) := hK ▸ pi_seq hl
theorem pe_fldK {e : Expr} {ta : TE} {f : Str} {pos : Pos} (hK : X.K = K) (he : PE X e ta) (hb : attributeBase e f X.env (eval e X.env) = eval e X.env) : PE X (.Attribute e f pos) (tFld K ta f) := hK ▸ pe_fld he hb
end
section
variable {K : PySem.W.Frag} {Θ : Ctx} {env : Env'} {h : Hs} {E : En} {t1 t2 : TS}
/-- what is known between two statements -/
theorem vs_cut (I : Env' → Hs → Prop) (q : VS K Θ t1 { E with nx := I } env h) (k : ∀ env' h', I env' h' → VS K Θ t2 E env' h') : VS K Θ (tSeq t1 t2) E env h :=
  vs_seq (VS.imp q k (fun _ _ x => x) (fun _ _ x => x) fun _ _ x => x)
end
end Kb

/-! Keys of three numbers; lists of pairs of numbers; membership. -/
namespace Kb
open PySem PySem.Spec PyProof.Rows L2
open PySem.W (dataLe dataLt AllAlike Sortable)
theorem dataLt_3 (a b c a' b' c' : Int) : dataLt (.tuple [.int a, .int b, .int c]) (.tuple [.int a', .int b', .int c']) = decide (a < a' ∨ (a = a' ∧ (b < b' ∨ (b = b' ∧ c < c')))) := by
  rw [PySem.W.dataLt_tuple, PySem.W.dataLt_cons (by simp [PySem.W.alike]), PySem.W.dataLt_cons (by simp [PySem.W.alike]), PySem.W.dataLt_cons (by simp [PySem.W.alike]), PySem.W.dataLt_int, PySem.W.dataLt_int, PySem.W.dataLt_int]
  have e : PyProof.Rows.lexLt PyProof.Rows.itemOrd (PySem.W.keyToksAll []) (PySem.W.keyToksAll []) = false := PyProof.Rows.lex_irrefl _
  rw [e]
  simp only [PyData.eqv, beq_iff_eq]
  by_cases h1 : a = a' <;> by_cases h2 : b = b' <;> by_cases h3 : c = c' <;> simp [h1, h2, h3]
def key3 {β : Type} (x y z : β → Int) (r : β) : PyData := .tuple [.int (x r), .int (y r), .int (z r)]
theorem dataLe_3 {β : Type} (x y z : β → Int) : dataLe false (key3 x y z) = fun p q => decide (x p < x q ∨ (x p = x q ∧ (y p < y q ∨ (y p = y q ∧ z p ≤ z q)))) := by
  rw [PySem.W.dataLe_eq]
  funext p q
  show (!dataLt (key3 x y z q) (key3 x y z p)) = _
  unfold key3
  rw [dataLt_3]
  by_cases h : x q < x p ∨ (x q = x p ∧ (y q < y p ∨ (y q = y p ∧ z q < z p)))
  · rw [decide_eq_true h]
    exact (decide_eq_false (by omega)).symm
  · rw [decide_eq_false h]
    exact (decide_eq_true (by omega)).symm
theorem sortP_map {β : Type} (rs : List β) (f : β → P) (g : β → PyData) : sortP (rs.map f) (rs.map g) = (rs.mergeSort (dataLe false g)).map f := by
  unfold sortP
  have e : (rs.map f).zip (rs.map g) = rs.map fun r => (f r, g r) := by
    induction rs with
    | nil => rfl
    | cons r rs ih => simp [ih]
  rw [e]
  have e2 : (rs.map fun r => (f r, g r)).mergeSort (dataLe false Prod.snd) = (rs.mergeSort (dataLe false g)).map fun r => (f r, g r) :=
    (List.map_mergeSort (f := fun r => (f r, g r)) fun a _ b _ => rfl).symm
  rw [e2, List.map_map]
  rfl
theorem sort3_pairwise {β : Type} (x y z : β → Int) (rs : List β) : (rs.mergeSort (dataLe false (key3 x y z))).Pairwise fun p q => x p < x q ∨ (x p = x q ∧ (y p < y q ∨ (y p = y q ∧ z p ≤ z q))) := by
  rw [dataLe_3]
  have h := List.pairwise_mergeSort (le := fun p q : β => decide (x p < x q ∨ (x p = x q ∧ (y p < y q ∨ (y p = y q ∧ z p ≤ z q)))))
    (fun a b c h1 h2 => by
      have h1 := of_decide_eq_true h1
      have h2 := of_decide_eq_true h2
      exact decide_eq_true (by omega))
    (fun a b => by
      rw [Bool.or_eq_true]
      by_cases h : x a < x b ∨ (x a = x b ∧ (y a < y b ∨ (y a = y b ∧ z a ≤ z b)))
      · exact .inl (decide_eq_true h)
      · exact .inr (decide_eq_true (by omega))) rs
  exact h.imp fun h => of_decide_eq_true h
theorem alike_key3 {β : Type} (x y z : β → Int) (rs : List β) : AllAlike (rs.map (key3 x y z)) := PySem.W.AllAlike.of fun b b' => by simp [key3, PySem.W.alike, PySem.W.alikeAll]
theorem sortable_key3 {β : Type} (x y z : β → Int) (rs : List β) : Sortable (rs.map (key3 x y z)) := PySem.W.Sortable.tuples fun b => ⟨_, _, rfl⟩
theorem depth_key3 {β : Type} (x y z : β → Int) (rs : List β) : ∀ d ∈ rs.map (key3 x y z), d.depth ≤ 60 := fun d hd => by
  obtain ⟨r, _, rfl⟩ := List.mem_map.mp hd
  simp [key3, PyData.depth, PyData.depthAll]
/-! ### pairs of numbers -/
abbrev pairP (a b : Int) : P := .tup [.int a, .int b]
theorem plain_pair {a b : Int} : plainP (pairP a b) = true := rfl
theorem shaped_pair {a b : Int} : SeqAt.shaped (pyOf (pairP a b)) = true := by
  simp [SeqAt.shaped, pyOf, pyOf.pyOfs, PyData.canLay0, PyData.canLayAll0, PyData.depth, PyData.depthAll]
theorem eqv_pair {a b c d : Int} : PyData.eqv (pyOf (pairP a b)) (pyOf (pairP c d)) = decide (a = c ∧ b = d) := by
  by_cases h1 : a = c <;> by_cases h2 : b = d <;> simp [pyOf, pyOf.pyOfs, PyData.eqv, PyData.eqvAll, h1, h2]
theorem plain_pairs {β : Type} (x y : β → Int) : ∀ rs : List β, plainP (.lst (rs.map fun r => pairP (x r) (y r))) = true
  | [] => rfl
  | r :: rs => by
    have ih := plain_pairs x y rs
    unfold plainP at ih ⊢
    rw [List.map_cons]
    unfold plainP.plainPs
    rw [ih]
    rfl
theorem shaped_pairs {β : Type} (x y : β → Int) (rs : List β) : SeqAt.shaped (pyOf (.lst (rs.map fun r => pairP (x r) (y r)))) = true := by
  have e : PyData.canLayAll0 (pyOf.pyOfs (rs.map fun r => pairP (x r) (y r))) = true ∧ PyData.depthAll (pyOf.pyOfs (rs.map fun r => pairP (x r) (y r))) ≤ 1 := by
    induction rs with
    | nil => simp [pyOf.pyOfs, PyData.canLayAll0, PyData.depthAll]
    | cons r rs ih => simp [pyOf.pyOfs, pyOf, PyData.canLayAll0, PyData.canLay0, PyData.depthAll, PyData.depth, ih.1]; exact Nat.max_le.mpr ⟨Nat.le_refl _, ih.2⟩
  simp only [SeqAt.shaped, pyOf, PyData.canLay0, PyData.depth, e.1, Bool.true_and, decide_eq_true_eq]
  omega
theorem eqv_shaped {d : PyData} (h : SeqAt.shaped d = true) : PyData.eqv d d = true := SeqAt.eqv_refl d (SeqAt.canLay_of_shaped h)
section
variable {K : PySem.W.Frag} {Θ : Ctx} {h : Hs} {R : D → Hs → Prop}
/-- two equal lists of pairs -/
theorem v2_nePairs {β : Type} {x y : β → Int} {rs : List β} (q : R (dB false) h) : V2 K Θ (rNeU K) (dL (rs.map fun r => pairP (x r) (y r))) (dL (rs.map fun r => pairP (x r) (y r))) h R :=
  v2_neP (plain_pairs x y rs) (plain_pairs x y rs) (shaped_pairs x y rs) (shaped_pairs x y rs) (by rw [eqv_shaped (shaped_pairs x y rs)]; exact q)
theorem v2_eqPair {a b c d : Int} (q : R (dB (decide (a = c ∧ b = d))) h) : V2 K Θ (rEqU K) (dT [.int a, .int b]) (dT [.int c, .int d]) h R :=
  v2_eqP plain_pair plain_pair shaped_pair shaped_pair (by rw [eqv_pair]; exact q)
theorem inV_ints {x : Int} : ∀ {ns : List Int}, inV (.int x) (ns.map V.int) = decide (x ∈ ns)
  | [] => rfl
  | n :: ns => by
    have ih := inV_ints (x := x) (ns := ns)
    unfold inV at ih ⊢
    rw [List.map_cons, List.any_cons, ih]
    show ((n == x) || _) = _
    by_cases e : n = x
    · simp [e]
    · simp [e, Ne.symm e]
/-- x in xs, an own list of numbers -/
theorem v2_inO {n : Nat} {x : Int} {ns : List Int} (hn : h[n]? = some (some (.lst (ns.map dI)))) (q : R (dB (decide (x ∈ ns))) h) : V2 K Θ (rInU K) (dI x) (.own n) h R := v2_or1 fun F ρ H vx vy Q rl a b k => by
  obtain rfl := a.int
  cases b with
  | own b =>
    obtain ⟨p, u, e1, e2, e3, vs, e4, e5⟩ := rl.own _ _ hn
    rw [b] at e1; cases e1
    subst e4
    have e6 : RA K F ρ ((ns.map P.int).map D.p) vs := by rw [List.map_map]; exact e5
    have e := e6.pure.ints
    subst e
    refine ⟨_, _, rfl, .inl (.of e3), rfl, by simp [flatV], ?_⟩
    show Q (.bl (inV (.int x) (ns.map V.int))) H
    rw [inV_ints]
    exact k _ h _ F ρ H (Same.refl _) (Pre.refl _) rl (.p (.bl _)) q
end
end Kb

/-! From what the top has written to the defs; from the def of the law to its row. -/
namespace Kb
open PySem PySem.Spec PyProof.Rows L2
section
variable {K : PySem.W.Frag} {Θ : Ctx} {h : Heap} {mg : Str → Option Value} {x m qual : Str} {st : Stmt} {ps : List Str} {f C : Addr} {oc : Value} {od an : Option Addr} {osl : Array (Option Value)} {kV doc pm cdv ct : Value}
theorem defAt_mk (X : K.In h) (G : h.Ns mainGlobals mg) (hb : ∀ (kV doc pm : Value) (an : Option Addr) (cdv ct : Value) (us : List Value), us.length = ps.length → bindArgs (PySem.W.fnOf x x (defArgs st) (defBody st) (defScope st) .none kV doc pm an cdv ct) ⟨us, []⟩ = pure (ps.zip us))
    (a : PySem.W.nsIn K mainGlobals x = some (some (.ref f))) (l : K.lookup f = some ⟨oc, od, .func (PySem.W.fnOf x x (defArgs st) (defBody st) (defScope st) .none kV doc pm an cdv ct), osl⟩) (c : PySem.W.codeIn K cdv x = true) (k : PySem.W.keepIn K (.ref f) = true) : DefAt K mg x st ps :=
  have F := fun_mk (st := st) l c k
  ⟨f, _, F, PySem.W.mg_of X G a, F.binds hb⟩
theorem methAt_mk (hb : ∀ (kV doc pm : Value) (an : Option Addr) (cdv ct : Value) (us : List Value), us.length = ps.length → bindArgs (PySem.W.fnOf m qual (defArgs st) (defBody st) (defScope st) .none kV doc pm an cdv ct) ⟨us, []⟩ = pure (ps.zip us))
    (a : PySem.W.findIn K (.ref C) m = some (some (.ref f))) (i : PySem.W.isFn K (.ref f) = true) (l : K.lookup f = some ⟨oc, od, .func (PySem.W.fnOf m qual (defArgs st) (defBody st) (defScope st) .none kV doc pm an cdv ct), osl⟩) (c : PySem.W.codeIn K cdv qual = true) (k : PySem.W.keepIn K (.ref f) = true) : MethAt K C m qual st ps :=
  have F := fun_mk (st := st) l c k
  ⟨f, _, F, ⟨a, i, k⟩, F.binds hb⟩
theorem initAt_mk (hb : ∀ (kV doc pm : Value) (an : Option Addr) (cdv ct : Value) (us : List Value), us.length = ps.length → bindArgs (PySem.W.fnOf "__init__" qual (defArgs st) (defBody st) (defScope st) .none kV doc pm an cdv ct) ⟨us, []⟩ = pure (ps.zip us))
    (a : PySem.W.findIn K (.ref C) "__init__" = some (some (.ref f))) (i : PySem.W.isFn K (.ref f) = true) (l : K.lookup f = some ⟨oc, od, .func (PySem.W.fnOf "__init__" qual (defArgs st) (defBody st) (defScope st) .none kV doc pm an cdv ct), osl⟩) (c : PySem.W.codeIn K cdv qual = true) (k : PySem.W.keepIn K (.ref f) = true)
    (mk : PySem.W.makesIn K C = true) (kc : PySem.W.keepIn K (.ref C) = true) : InitAt K C qual st ps :=
  have F := fun_mk (st := st) l c k
  ⟨f, _, F, ⟨mk, a, i, kc⟩, F.binds hb⟩
end
theorem bits_log {z : Int} (h : Builtin.Int.intBits z ≤ 1048576) : z.natAbs.log2 < 2000000 := by
  unfold Builtin.Int.intBits at h
  split at h
  · rename_i e
    have : z = 0 := by simpa using e
    subst this
    decide
  · omega
theorem RD.truB {K : PySem.W.Frag} {F : Hp} {ρ : List Addr} {v : V} (h : RD K F ρ (dB true) v) : v = .bl true := h.bl
/-- the law's promise at its own call; Θ: the tables -/
theorem spD_start {K : PySem.W.Frag} {T : List Addr} {W : Spc} {H : Hp} {a : Addr} {ns : List Int} {E : XK} (hT : ∀ P ∈ T, H P = some (.tbl #[])) (sq : SqL K H a (ns.map V.int)) (w : W [dL (ns.map P.int)] [] fun d _ => d = dB true) : spD K T W [.ref a] H (fun v _ => v = .bl true) E := by
  refine ⟨[dL (ns.map P.int)], [], fun b => if b ∈ T then none else H b, [], fun d _ => d = dB true, ⟨fun b o e => ?_, rfl, fun i o h => by simp at h, fun i j o u a h => by simp at h, fun P hP => ⟨if_pos hP, #[], hT P hP, trivial⟩⟩, .cons (.p (.lst ?_ (RPs.of_ints ns))) .nil, w, fun d h' v F' ρ' H' s p r dv e => ?_⟩
  · by_cases hb : b ∈ T
    · have e' := (if_pos hb).symm.trans e
      cases e'
    · exact (if_neg hb).symm.trans e
  · have na : ∀ u, H a = some u → (∀ q, u ≠ .tbl q) → a ∉ T := fun u e n hm => by
      rw [hT a hm] at e
      exact n _ (Option.some.inj e).symm
    rcases sq with (q | ⟨o, q⟩) | q
    · exact .inl (.inl ((if_neg (na _ q fun _ z => by cases z)).trans q))
    · exact .inl (.inr ⟨o, (if_neg (na _ q fun _ z => by cases z)).trans q⟩)
    · exact .inr q
  · subst e
    exact dv.bl
/-- the end of a law whose defs have tables (cs: code object, table) -/
theorem walkDT {l : PySem.W.OpenLaw} {k : Nat} {q : Program} {loose : List Str} {XP : (Str → Option Value) → Heap → Prop} {YP : World → Heap → Prop} {d : DefRec} {K : Params → PySem.W.Frag} {W : Spc}
    (hn : l.most = some 63) (hdf : d.params.defaults = []) (hr : Room k callerA) (hY : ∀ (w : World) (h : Heap), YP w h → (K w.params).In h)
    (hW : ∀ ns : List Int, ns.length ≤ 63 → (∀ n ∈ ns, n.natAbs.log2 < 2000000) → W [dL (ns.map P.int)] [] fun d _ => d = dB true)
    (F : ∀ (w : World) (mg : Str → Option Value) (fa : Addr) (h : Heap), YP w h → (K w.params).In h → h.Ns mainGlobals mg → mg d.name = some (.ref fa) →
      ∃ (fd : FuncData) (cs : List (Addr × Addr)), (∀ p ∈ cs, h.get? p.2 = some { cls := .none, data := .fields #[] }) ∧ (∀ p ∈ cs, (K w.params).lookup p.2 = none) ∧ (∀ p ∈ cs, PySem.W.CodeHd h p.1 p.2) ∧ (∀ (s : Shared) (u : Value), BindsTo s fd ⟨[u], []⟩ [("script", u)]) ∧
        ∀ base : Heap, (K w.params).In base → base.Ns mainGlobals mg → (∀ p ∈ cs, LamX.TabB base mg p.1 p.2) → FnOk l.prog w (K w.params) mg base CX0 k fa fd ["script"] (spD (K w.params) (cs.map (·.2)) W)) :
    PySem.W.WalkO q loose XP YP l.row.toRowW d [] (fun f vs => PySem.call f vs) :=
  LamX.walk_ofTs (n := 63) (k := k) (x := "script") (CX := fun _ => CX0) hn (by decide) hdf hr hY
    (fun w mg fa h Y KX G hm => by
      obtain ⟨fd, cs, h1, h2, h3, h4, h5⟩ := F w mg fa h Y KX G hm
      refine ⟨fd, cs, _, h1, h2, h3, h4, fun H a ns hl hb hT hS => spD_start (fun P hP => ?_) hS (hW ns hl fun n hm => bits_log (hb n hm)), h5⟩
      obtain ⟨p, hp, e⟩ := List.mem_map.mp hP
      rw [← e]
      exact hT p hp) fun _ _ _ _ _ z => z
/-- the end of a law without tables -/
theorem walkD {l : PySem.W.OpenLaw} {k : Nat} {q : Program} {loose : List Str} {XP : (Str → Option Value) → Heap → Prop} {YP : World → Heap → Prop} {d : DefRec} {K : Params → PySem.W.Frag} {W : Spc}
    (hn : l.most = some 63) (hdf : d.params.defaults = []) (hr : Room k callerA) (hY : ∀ (w : World) (h : Heap), YP w h → (K w.params).In h)
    (hW : ∀ ns : List Int, ns.length ≤ 63 → (∀ n ∈ ns, n.natAbs.log2 < 2000000) → W [dL (ns.map P.int)] [] fun d _ => d = dB true)
    (F : ∀ (w : World) (mg : Str → Option Value) (fa : Addr) (h : Heap), (K w.params).In h → h.Ns mainGlobals mg → mg d.name = some (.ref fa) →
      ∃ fd : FuncData, (∀ (s : Shared) (u : Value), BindsTo s fd ⟨[u], []⟩ [("script", u)]) ∧ ∀ base : Heap, (K w.params).In base → base.Ns mainGlobals mg → FnOk l.prog w (K w.params) mg base CX0 k fa fd ["script"] (spD (K w.params) [] W)) :
    PySem.W.WalkO q loose XP YP l.row.toRowW d [] (fun f vs => PySem.call f vs) :=
  L2.walk_ofB (n := 63) (k := k) (x := "script") (CX := fun _ => CX0) (sp := fun w => spD (K w.params) [] W) hn (by decide) hdf hr hY F
    (fun w H a ns hl hb _ hS => spD_start (fun P hP => by simp at hP) hS (hW ns hl fun n hm => bits_log (hb n hm))) fun _ _ _ _ _ z => z
end Kb

/-! any, all of a generator expression whose test may call defs: the generator's turns. -/
namespace Gx
open PySem PySem.Spec PyProof.Rows L2 GenW
section
variable {X : Cx} {Ag : Around} {elt tg iter : Expr} {scope : Scope} {gpos : Pos} {it : Addr} {fp : List Addr} {tn : Nat → Heap → Prop} {J : It} {g : TG} {te : TE} {vs : List Nat} {pins : List (Addr × Obj)} {σw : L2.St} {W : Nat → Hp → Prop} {N : Nat} {tr : Nat → Bool}
/-- where the generator stands between two turns -/
structure At (X : Cx) (pins : List (Addr × Obj)) (fp : List Addr) (tn : Nat → Heap → Prop) (σ : L2.St) (i : Nat) (H : Hp) (s : Shared) : Prop where
  inv : Inv X pins σ H s
  st : tn i s.heap
  fp : ∀ b ∈ fp, FpOk X pins H b
def YG (X : Cx) (pins : List (Addr × Obj)) (fp : List Addr) (tn : Nat → Heap → Prop) (σ : L2.St) (N : Nat) (W : Nat → Hp → Prop) (tr : Nat → Bool) : Protocol := fun m _ v s kap =>
  ∃ (i : Nat) (H : Hp), m + (i + 1) = N ∧ v = .bool (tr i) ∧ At X pins fp tn σ (i + 1) H s ∧ W (i + 1) H ∧ ∀ s'', At X pins fp tn σ (i + 1) H s'' → kap (.send .none) s''
def RG (X : Cx) (pins : List (Addr × Obj)) (σ : L2.St) (N : Nat) (W : Nat → Hp → Prop) : GenEnd := fun n _ r s => r = .ok .next ∧ n = 0 ∧ ∃ H, Inv X pins σ H s ∧ W N H
theorem seg_gx (hA : X.A = Ag.over (.compLoop (.GeneratorExp elt [⟨tg, iter, [], 0⟩] scope gpos) 0 (.ref it) .none X.env) []) (hc : X.calm = true) (T : Turn X.prog X.w X.K tg J fp it tn) (pg : PG X tg g) (pe : PE X elt te) (hx : X.xe = fun _ _ => False)
    (hco : X.env.scope.isCoroutine = false)
    (stop : ∀ H, W N H → J.stop N H)
    (step : ∀ i H, i < N → W i H → J.go i H ∧ ∀ x H', J.yld i H x H' → g x σw H' fun σ2 H2 => L2.wipe σ2 vs = σw ∧ te σ2 H2 fun y H3 => y = .bl (tr i) ∧ W (i + 1) H3) :
    ∀ (k i : Nat) (s₀ s : Shared) (H : Hp), N - i = k → i ≤ N → At X pins fp tn σw i H s → W i H →
      Seg (model X.prog X.w) Ag (RG X pins σw N W) (YG X pins fp tn σw N W tr) k s₀ (.compLoop (.GeneratorExp elt [⟨tg, iter, [], 0⟩] scope gpos) 0 (.ref it) .none X.env)
        ((model X.prog X.w).den (.compLoop (.GeneratorExp elt [⟨tg, iter, [], 0⟩] scope gpos) 0 (.ref it) .none X.env)) [] s := by
  intro k
  induction k with
  | zero =>
    intro i s₀ s H hk hi a w
    have e : i = N := by omega
    subst e
    have st := stop H w
    show Seg _ Ag _ _ _ s₀ _ ((compTurn (.GeneratorExp elt [⟨tg, iter, [], 0⟩] scope gpos) 0 (.ref it) .none X.env).onRaise (leaving X.env)) [] s
    rw [compTurn_gen, Sem.onRaise_eq_wrap]
    refine seg_bind_wrap (wpAny_standAt ?_)
    refine seg_bind_wrap ?_
    rw [← hA]
    refine thnF (T.done X rfl rfl rfl hc i pins s σw H (fun _ _ => False) a.inv a.fp a.st st) fun r s6 h6 => ?_
    obtain ⟨hr, I6⟩ := h6
    subst hr
    exact seg_end (.ok .next) ⟨rfl, rfl, H, I6, w⟩
  | succ k ih =>
    intro i s₀ s H hk hi a w
    have hlt : i < N := by omega
    obtain ⟨go, turn⟩ := step i H hlt w
    show Seg _ Ag _ _ _ s₀ _ ((compTurn (.GeneratorExp elt [⟨tg, iter, [], 0⟩] scope gpos) 0 (.ref it) .none X.env).onRaise (leaving X.env)) [] s
    rw [compTurn_gen, Sem.onRaise_eq_wrap]
    refine seg_bind_wrap (wpAny_standAt ?_)
    refine seg_bind_wrap ?_
    rw [← hA]
    refine thnF (T.item X rfl rfl rfl hc i pins s σw H (fun _ _ => False) a.inv a.fp a.st go) fun r s6 h6 => ?_
    obtain ⟨u, hr, h6⟩ := h6
    subst hr
    refine seg_bind_wrap ?_
    rw [← hA]
    refine thnF h6 fun _ s7 h7 => ?_
    obtain ⟨x, H7, I7, r7, y7, st7, n7⟩ := h7
    have fp7 : ∀ b ∈ fp, FpOk X pins H7 b := fun b hb => ⟨n7 b hb, (a.fp b hb).2⟩
    have I7' := I7.pinned fp7 (T.obj _ _ st7)
    refine seg_bind_wrap ?_
    rw [← hA]
    have z := pg.run _ s7 _ H7 x u _ I7' r7 (turn x H7 y7)
    rw [hx] at z
    refine thnF z fun _ s8 h8 => ?_
    obtain ⟨σ8, H8, I8, hw8, q8⟩ := h8
    have sl : σ8.length = σw.length := by rw [← hw8, wipe_length]
    have sw : ∀ (j : Nat) (v : V), σw[j]? = some (some v) → σ8[j]? = some (some v) := fun j v e => by
      rw [← hw8] at e
      exact (wipe_some e).1
    simp only [List.forIn_nil]
    refine seg_bind_wrap (wpAny_pure ?_)
    have hy : ∀ v, yieldOut X.env v = yieldValue v := fun v => by simp only [yieldOut, hco, Bool.false_eq_true, if_false]
    simp only [if_true, hy]
    rw [Sem.bind_eq_wrap', Sem.bind_eq_wrap', Sem.wrap_wrap, Sem.wrap_wrap]
    refine seg_wrap ?_
    rw [← hA]
    have z2 := pe.run _ s8 σ8 H8 _ I8 q8
    rw [hx] at z2
    refine thnF z2 fun y s9 h9 => ?_
    obtain ⟨yv, H9, I9, r9, rfl, w9⟩ := h9
    have ey : y = .bool (tr i) := r9
    subst ey
    have pin' : ∀ c ∈ fp, ∀ o, s7.heap.get? c = some o → s9.heap.get? c = some o ∧ H9 c = none := fun c hc o e =>
      let z := I9.pin (c, o) (List.mem_append_right _ (List.mem_append_right _ (mem_pinsAt hc e)))
      ⟨z.1, z.2.1⟩
    have a9 : At X pins fp tn σw (i + 1) H9 s9 := by
      refine ⟨(I9.unpinned (pins := pins)).weak sl.symm sw, T.keep _ _ _ st7 fun c hc o e => (pin' c hc o e).1, fun c hc => ?_⟩
      obtain ⟨o, e, _⟩ := T.obj _ _ st7 c hc
      exact ⟨(pin' c hc o e).2, (a.fp c hc).2⟩
    refine seg_at (seg_yield rfl rfl rfl ⟨i, H9, by omega, rfl, a9, w9, fun s'' a2 => ?_⟩)
    exact seg_again rfl (ih (i + 1) s'' s'' H9 (by omega) hlt a2 w9)
theorem seg_gxStart (T : Turn X.prog X.w X.K tg J fp it tn) {s₀ s : Shared} {H : Hp} (a : At X pins fp tn σw 0 H s)
    (loop : Seg (model X.prog X.w) Ag (RG X pins σw N W) (YG X pins fp tn σw N W tr) N s₀ (.compLoop (.GeneratorExp elt [⟨tg, iter, [], 0⟩] scope gpos) 0 (.ref it) .none X.env)
        ((model X.prog X.w).den (.compLoop (.GeneratorExp elt [⟨tg, iter, [], 0⟩] scope gpos) 0 (.ref it) .none X.env)) [] s) :
    Seg (model X.prog X.w) Ag (RG X pins σw N W) (YG X pins fp tn σw N W tr) N s₀ (.compStart (.GeneratorExp elt [⟨tg, iter, [], 0⟩] scope gpos) 0 (.ref it) .none X.env)
        ((model X.prog X.w).den (.compStart (.GeneratorExp elt [⟨tg, iter, [], 0⟩] scope gpos) 0 (.ref it) .none X.env)) [] s := by
  show Seg _ Ag _ _ _ s₀ _ ((compStart (.GeneratorExp elt [⟨tg, iter, [], 0⟩] scope gpos) 0 (.ref it) .none X.env).onRaise (leaving X.env)) [] s
  unfold compStart
  rw [Sem.onRaise_eq_wrap]
  show Seg _ Ag _ _ _ s₀ _ ((ask >>= _).wrap _ _ _ _) [] s
  refine seg_bind_wrap (wpAny_askSetting ?_)
  split
  · exact seg_again rfl loop
  · refine seg_bind_wrap (wpAny_rule ?_)
    show Seg _ Ag _ _ _ s₀ _ ((standAt iter.pos >>= _).wrap _ _ _ _) [] s
    exact seg_bind_wrap (wpAny_standAt (seg_bind_wrap (T.self _ 0 s _ _ a.st (seg_again rfl loop))))
/-! ### the one that asks -/
theorem inv_gens {s' : Shared} {σ : L2.St} {H : Hp} {s : Shared} (I : Inv X pins σ H s) (h1 : s'.heap = s.heap) (h2 : s'.os = s.os) (h3 : AllBare s'.gens) : Inv X pins σ H s' := by
  obtain ⟨hh, gg, dd, tt, oo⟩ := s'
  have e1 : hh = s.heap := h1
  have e2 : oo = s.os := h2
  subst e1 e2
  exact ⟨I.ok, I.os, h3, I.base, I.loc, I.cell, I.free, I.freeC, I.pin, I.hok, I.len⟩
theorem bare_set {s : Shared} {g : Nat} {x : GenState} (h : AllBare s.gens) (hx : x.bare = true) : AllBare (s.setGen g x).gens := fun y hy => by
  have hy' : y ∈ s.gens.setIfInBounds g x := hy
  rcases Array.mem_or_eq_of_mem_setIfInBounds hy' with z | z
  · exact h y z
  · rw [z]; exact hx
/-- the generator a stands before its j-th turn -/
structure GSt (X : Cx) (Ag : Around) (pins : List (Addr × Obj)) (fp : List Addr) (tn : Nat → Heap → Prop) (σ : L2.St) (N : Nat) (W : Nat → Hp → Prop) (tr : Nat → Bool) (a : Addr) (g : Nat) (j : Nat) (H : Hp) (s : Shared) : Prop where
  gen : s.heap.IsGen a g
  at_ : At X pins fp tn σ j H s
  w : W j H
  go : ∃ gs, s.gens[g]? = some gs ∧ ∀ s'', At X pins fp tn σ j H s'' → gs.Goes (model X.prog X.w) Ag (RG X pins σ N W) (YG X pins fp tn σ N W tr) (N - j) (.send .none) s''
theorem gx_next {Ac : Around} {a : Addr} {g j : Nat} {H : Hp} {s : Shared} {E : Value → Shared → Prop} {Q : Option Value → Shared → Prop} (hj : j ≤ N) (hh : Ac.handled = none) (hroom : Ac.depth < recursionLimit) (hpin : ∀ s' H', Inv X pins σw H' s' → s'.heap.IsGen a g)
    (G : GSt X Ac.in1 pins fp tn σw N W tr a g j H s) (hE : j = N → ∀ s' H', Inv X pins σw H' s' → W N H' → Q none s') (hY : j < N → ∀ s' H', GSt X Ac.in1 pins fp tn σw N W tr a g (j + 1) H' s' → Q (some (.bool (tr j))) s') :
    wpAny (model X.prog X.w) Ac (pyNext (.ref a)) Q E s := by
  obtain ⟨gs, hgs, hgo⟩ := G.go
  have hgl : g < s.gens.size := by
    rcases Nat.lt_or_ge g s.gens.size with h | h
    · exact h
    · rw [Array.getElem?_eq_none h] at hgs; cases hgs
  have ar : At X pins fp tn σw j H (s.setGen g .running) := ⟨inv_gens G.at_.inv rfl rfl (bare_set G.at_.inv.bare rfl), G.at_.st, G.at_.fp⟩
  refine wpAny_gsz (n := s.gens.size) (Nat.le_refl _) ?_
  refine wpAny_pyNext_genexpQ (P := fun n s₀ s₁ => n = 0 ∧ ∃ H, Inv X pins σw H s₁ ∧ W N H) hh G.at_.inv.nolimit hroom G.gen hgs (hgo _ ar) (fun v s₁ gs' hb hv => ?_) (fun s₁ hp h' hk => ?_)
  · obtain ⟨i, H', hm, rfl, a', w', kap⟩ := hv
    intro hsz
    have hlt : j < N := by
      rcases Nat.lt_or_ge j N with z | z
      · exact z
      · have e0 : N - j = 0 := by omega
        rw [e0] at kap
        exact (kap s₁ a').elim
    have ei : i = j := by omega
    subst ei
    refine hY hlt _ H' ⟨hpin _ H' (inv_gens a'.inv rfl rfl (bare_set a'.inv.bare hb)), ⟨inv_gens a'.inv rfl rfl (bare_set a'.inv.bare hb), a'.st, a'.fp⟩, w', gs', ?_, fun s'' a2 => ?_⟩
    · have e : (s₁.setGen g gs').gens.size = s₁.gens.size := by simp [Shared.setGen]
      rw [e] at hsz
      have hl1 : g < s₁.gens.size := Nat.lt_of_lt_of_le hgl hsz
      simp [Shared.setGen, hl1]
    · obtain ⟨m, hm2⟩ : ∃ m, N - i = m + 1 := ⟨N - i - 1, by omega⟩
      rw [hm2] at kap
      have e : N - (i + 1) = m := by omega
      rw [e]
      exact kap s'' a2
  · obtain ⟨h0, H', I', w'⟩ := hp
    intro _
    have ej : j = N := by omega
    refine hE ej _ H' ?_ w'
    have I2 : Inv X pins σw H' (s₁.setGen g .finished) := inv_gens I' rfl rfl (bare_set I'.bare rfl)
    exact I2.kept (t' := s₁.toks) hk
end
end Gx

/-! any, all: they ask the generator. -/
namespace Gx
open PySem PySem.Spec PyProof.Rows L2 GenW
section
variable {X : Cx} {A : Around} {fp : List Addr} {tn : Nat → Heap → Prop} {pins : List (Addr × Obj)} {σw : L2.St} {W : Nat → Hp → Prop} {N : Nat} {tr : Nat → Bool} {a : Addr} {g : Nat} {R : Result → Shared → Prop}
theorem drop_cons {N j : Nat} (h : j < N) : (List.range N).drop j = j :: (List.range N).drop (j + 1) := by
  rw [List.drop_eq_getElem_cons (by simpa using h)]
  simp
theorem any_loop (hh : A.handled = none) (hroom : A.depth < recursionLimit) (hpin : ∀ s' H', Inv X pins σw H' s' → s'.heap.IsGen a g) :
    ∀ (k j : Nat) (s : Shared) (H : Hp), N - j = k → j ≤ N → GSt X A.in1.in1 pins fp tn σw N W tr a g j H s →
      (∀ j' s' H', j' ≤ N → Inv X pins σw H' s' → W j' H' → R (.ok (.ret (.bool (((List.range N).drop j).any tr)))) s') → codeAny (model X.prog X.w) A (.builtin "any.loop" ⟨[.ref a], []⟩) R s := by
  intro k
  induction k with
  | zero =>
    intro j s H hk hj G hR
    have e : j = N := by omega
    subst e
    refine codeAny_builtin F.entry_any_loop ?_
    rw [Around.under_plainId F.plain_any_loop _]
    show wpAny _ A.in1 (pyNext (.ref a) >>= _) _ _ s
    refine wpAny_bind (gx_next (Ac := A.in1) hj hh hroom hpin G (fun _ s' H' I' w' => ?_) fun h => absurd h (Nat.lt_irrefl _))
    refine wpAny_bind (wpAny_rule (wpAny_pure ?_))
    have z := hR j s' H' (Nat.le_refl _) I' w'
    rw [List.drop_of_length_le (by simp)] at z
    exact z
  | succ k ih =>
    intro j s H hk hj G hR
    have hlt : j < N := by omega
    rw [drop_cons hlt, List.any_cons] at hR
    refine codeAny_builtin F.entry_any_loop ?_
    rw [Around.under_plainId F.plain_any_loop _]
    show wpAny _ A.in1 (pyNext (.ref a) >>= _) _ _ s
    refine wpAny_bind (gx_next (Ac := A.in1) hj hh hroom hpin G (fun e => absurd e (Nat.ne_of_lt hlt)) fun _ s' H' G' => ?_)
    refine wpAny_bind (wpAny_holding (wpAny_truthy_bool ?_))
    refine wpAny_bind (wpAny_letGo ?_)
    cases hb : tr j with
    | false =>
      rw [hb, Bool.false_or] at hR
      simp only [Bool.false_eq_true, if_false]
      exact wpAny_pure ⟨plainId_quiet F.plain_any_loop _, ih (j + 1) s' H' (by omega) hlt G' hR⟩
    | true =>
      rw [hb, Bool.true_or] at hR
      simp only [if_true]
      exact wpAny_bind (wpAny_rule (wpAny_pure (hR (j + 1) s' H' hlt G'.at_.inv G'.w)))
theorem all_loop (hh : A.handled = none) (hroom : A.depth < recursionLimit) (hpin : ∀ s' H', Inv X pins σw H' s' → s'.heap.IsGen a g) :
    ∀ (k j : Nat) (s : Shared) (H : Hp), N - j = k → j ≤ N → GSt X A.in1.in1 pins fp tn σw N W tr a g j H s →
      (∀ j' s' H', j' ≤ N → Inv X pins σw H' s' → W j' H' → R (.ok (.ret (.bool (((List.range N).drop j).all tr)))) s') → codeAny (model X.prog X.w) A (.builtin "all.loop" ⟨[.ref a], []⟩) R s := by
  intro k
  induction k with
  | zero =>
    intro j s H hk hj G hR
    have e : j = N := by omega
    subst e
    refine codeAny_builtin F.entry_all_loop ?_
    rw [Around.under_plainId F.plain_all_loop _]
    show wpAny _ A.in1 (pyNext (.ref a) >>= _) _ _ s
    refine wpAny_bind (gx_next (Ac := A.in1) hj hh hroom hpin G (fun _ s' H' I' w' => ?_) fun h => absurd h (Nat.lt_irrefl _))
    refine wpAny_bind (wpAny_rule (wpAny_pure ?_))
    have z := hR j s' H' (Nat.le_refl _) I' w'
    rw [List.drop_of_length_le (by simp)] at z
    exact z
  | succ k ih =>
    intro j s H hk hj G hR
    have hlt : j < N := by omega
    rw [drop_cons hlt, List.all_cons] at hR
    refine codeAny_builtin F.entry_all_loop ?_
    rw [Around.under_plainId F.plain_all_loop _]
    show wpAny _ A.in1 (pyNext (.ref a) >>= _) _ _ s
    refine wpAny_bind (gx_next (Ac := A.in1) hj hh hroom hpin G (fun e => absurd e (Nat.ne_of_lt hlt)) fun _ s' H' G' => ?_)
    refine wpAny_bind (wpAny_holding (wpAny_truthy_bool ?_))
    refine wpAny_bind (wpAny_letGo ?_)
    cases hb : tr j with
    | true =>
      rw [hb, Bool.true_and] at hR
      simp only [if_true]
      exact wpAny_pure ⟨plainId_quiet F.plain_all_loop _, ih (j + 1) s' H' (by omega) hlt G' hR⟩
    | false =>
      rw [hb, Bool.false_and] at hR
      simp only [Bool.false_eq_true, if_false]
      exact wpAny_bind (wpAny_rule (wpAny_pure (hR (j + 1) s' H' hlt G'.at_.inv G'.w)))
theorem call_anyG {s : Shared} {H : Hp} {E : Value → Shared → Prop} {Q : Value → Shared → Prop} (hh : A.handled = none) (hroom : A.depth < recursionLimit) (hpin : ∀ s' H', Inv X pins σw H' s' → s'.heap.IsGen a g)
    (G : GSt X A.in1.in1 pins fp tn σw N W tr a g 0 H s) (hQ : ∀ j' s' H', j' ≤ N → Inv X pins σw H' s' → W j' H' → Q (.bool ((List.range N).any tr)) s') : wpAny (model X.prog X.w) A (call (.builtin "any") [.ref a]) Q E s := by
  refine call_function_tree F.kind_any F.plain_any F.entry_any (F.args_any1 _) ?_
  unfold Builtin.«any»
  refine wpAny_bind (m := oneArg "any" _) (wpAny_pure ?_)
  refine wpAny_bind (wpAny_pyIter_gen G.gen ?_)
  exact wpAny_pure ⟨plainId_quiet F.plain_any_loop _, any_loop hh hroom hpin N 0 s H rfl (Nat.zero_le _) G fun j' s' H' h I w => by rw [List.drop_zero]; exact hQ j' s' H' h I w⟩
theorem call_allG {s : Shared} {H : Hp} {E : Value → Shared → Prop} {Q : Value → Shared → Prop} (hh : A.handled = none) (hroom : A.depth < recursionLimit) (hpin : ∀ s' H', Inv X pins σw H' s' → s'.heap.IsGen a g)
    (G : GSt X A.in1.in1 pins fp tn σw N W tr a g 0 H s) (hQ : ∀ j' s' H', j' ≤ N → Inv X pins σw H' s' → W j' H' → Q (.bool ((List.range N).all tr)) s') : wpAny (model X.prog X.w) A (call (.builtin "all") [.ref a]) Q E s := by
  refine call_function_tree F.kind_all F.plain_all F.entry_all (F.args_all1 _) ?_
  unfold Builtin.«all»
  refine wpAny_bind (m := oneArg "all" _) (wpAny_pure ?_)
  refine wpAny_bind (wpAny_pyIter_gen G.gen ?_)
  exact wpAny_pure ⟨plainId_quiet F.plain_all_loop _, all_loop hh hroom hpin N 0 s H rfl (Nat.zero_le _) G fun j' s' H' h I w => by rw [List.drop_zero]; exact hQ j' s' H' h I w⟩
end
end Gx

/-! The context in which a generator expression's test runs. -/
namespace Gx
open PySem PySem.Spec PyProof.Rows L2 GenW
/-- the generator's own context: its frame above all that run -/
abbrev gctx (X : Cx) (A : Around) (s : Shared) (H : Hp) (cenv : Env) (fp : List Addr) : Cx := { X with A := A, s_0 := s, H_0 := H, env := cenv, outer := X.stack, stack := cenv :: X.stack, ex := fp, fn := fun _ => false, pn := [], xe := fun _ _ => False }
/-- what its scope is: no cells of its own, «.0», its own names, captured ones -/
structure GOk (N : List Str) (sc scope : Scope) (own : List (Str × Nat)) : Prop where
  blk : BlkOk N sc scope own
  co : scope.isCoroutine = false
  cell : ∀ y ∈ scope.names, y.2 ≠ .cell
  dot : scope.names.lookup (".0" : Str) = some .local
section
variable {X : Cx} {pins0 : List (Addr × Obj)} {σ : L2.St} {H : Hp} {s : Shared} {scope : Scope} {own : List (Str × Nat)} {fp : List Addr} {A : Around} {code : Value} {h' : Heap} {tk : Nat} {gs : Array GenState} {itv : Value} {gob : Obj}
abbrev genv (X : Cx) (scope : Scope) (code : Value) (s : Shared) : Env := genEnv scope (cloFrom X.env.cells scope.names []) s.heap.objs.size code builtinsNs X.env
theorem clo_at (I : Inv X pins0 σ H s) (hfree : ∀ y ∈ scope.names, y.2 = .free → ∃ c, X.env.cells.lookup y.1 = some c) {y : Str} {c : Addr} (e : (cloFrom X.env.cells scope.names []).lookup y = some c) : X.env.cells.lookup y = some c ∧ c < s.heap.objs.size := by
  rcases cloFrom_mem (PySem.mem_of_lookup e) with z | ⟨h1, h2⟩
  · cases z
  · obtain ⟨c', hc⟩ := hfree _ h1 rfl
    rw [hc] at h2
    have e2 : c = c' := h2
    subst e2
    obtain ⟨v, hv⟩ := I.cell y c hc
    exact ⟨hc, hv.lt⟩
theorem clo_has (hfree : ∀ y ∈ scope.names, y.2 = .free → ∃ c, X.env.cells.lookup y.1 = some c) {y : Str} (hy : (y, NameKind.free) ∈ scope.names) : ∃ c, (cloFrom X.env.cells scope.names []).lookup y = some c := mem_lookup (cloFrom_has (cells := X.env.cells) (acc := []) hy)
theorem start_gx (I : Inv X pins0 σ H s) (hN : X.N.Nodup) (ok : GOk X.N X.env.scope scope own) (hfp : ∀ b ∈ fp, FpOk X pins0 H b ∧ b < s.heap.objs.size) (hA1 : X.calm = true → A.handled = none) (hA2 : A.frames = some (genv X scope code s :: X.stack))
    (hn : h'.Ns s.heap.objs.size fun y => if y = ".0" then some itv else none) (hk : ∀ b o, s.heap.get? b = some o → h'.get? b = some o) (hsz : s.heap.objs.size < h'.objs.size) (hfr : gob.isFreed = false) (hcl : ∀ v, gob.data ≠ .cell v) (hgs : AllBare gs) :
    Inv (gctx X A s H (genv X scope code s) fp) [(h'.objs.size, gob)] (wipe σ (own.map (·.2))) H { s with gens := gs, toks := tk, heap := h'.push gob } := by
  have hfree : ∀ y ∈ scope.names, y.2 = .free → ∃ c, X.env.cells.lookup y.1 = some c := fun y hy e => by
    rcases ok.blk.free y hy e with k | k
    · exact I.ok.has _ (.inl k)
    · exact I.ok.has _ (.inr k)
  have keep : ∀ b o, s.heap.get? b = some o → (h'.push gob).get? b = some o := fun b o e => Heap.get?_push_of_some _ (hk b o e)
  have kind : ∀ {x : Str}, (genv X scope code s).kindOf x = scope.names.lookup x := fun {x} => by
    simp [Env.kindOf, genEnv, ok.blk.kind]
  have okG : (gctx X A s H (genv X scope code s) fp).Ok := by
    refine ⟨I.ok.mod, ok.blk.kind, I.ok.glob, rfl, Nat.le_refl _, fun x y c e1 e2 => ?_, fun x hx => ?_, fun x c e _ => (by cases e), hA1, hA2, .inr ⟨rfl, rfl⟩, fun b hb => ⟨Nat.ne_of_lt (hfp b hb).2, fun x c e z => ?_⟩, I.bs, Nat.le_trans I.ok.bsz I.sz,
      fun b o e hb => ?_, fun b hb z => ?_, I.stack, I.stkFree⟩
    · exact I.ok.inj x y c (clo_at I hfree e1).1 (clo_at I hfree e2).1
    · have hx' : scope.names.lookup x = some .cell ∨ scope.names.lookup x = some .free := by
        rcases hx with h | h
        · exact .inl (by rw [← kind]; exact h)
        · exact .inr (by rw [← kind]; exact h)
      rcases hx' with h | h
      · exact absurd rfl (ok.cell _ (PySem.mem_of_lookup h))
      · exact clo_has hfree (PySem.mem_of_lookup h)
    · exact (hfp b hb).1.2.2.2.2.1 x c (clo_at I hfree e).1 z
    · rcases (hfp b hb).1.2.2.2.1 with z | z
      · exact I.ok.noex b o e z
      · exact absurd (Nat.lt_of_lt_of_le (Heap.lt_size e) (Nat.le_trans I.ok.bsz z)) (Nat.lt_irrefl _)
    · rcases List.mem_cons.mp (I.stkSub b z) with z | z
      · exact (hfp b hb).1.2.1 z
      · exact (hfp b hb).1.2.2.1 z
  refine ⟨okG, rfl, hgs, Un.kept keep, ⟨_, hn.push gob, fun i x v e1 e2 e3 => ?_⟩, fun x c e => ?_, I.hok.fresh (Nat.le_refl _), fun x c e => I.freeC x c (clo_at I hfree e).1, fun p hp => ?_, I.hok.kept keep, by rw [wipe_length]; exact I.len⟩
  · obtain ⟨e2, hne⟩ := wipe_some e2
    have no : ∀ k, scope.names.lookup x = some k → k = .free := fun k hk2 => by
      have hm := PySem.mem_of_lookup hk2
      cases k with
      | free => rfl
      | cell => exact absurd rfl (ok.cell _ hm)
      | «local» =>
        rcases ok.blk.own _ hm (.inl rfl) with q | q
        · obtain ⟨p, hp, hpy⟩ := List.mem_map.mp q
          have e4 := ok.blk.ix p hp
          have e5 : p.1 = x := hpy
          rw [e5] at e4
          exact absurd (List.mem_map.mpr ⟨p, hp, nodup_ix hN e4 e1⟩) hne
        · exact absurd (List.mem_of_getElem? e1) q
      | _ =>
        rcases e3 with q | q | q <;> (have q' : scope.names.lookup x = _ := q; rw [hk2] at q'; cases q')
    have e3' : scope.names.lookup x = some .free := by
      rcases e3 with q | q | q
      · have q' : scope.names.lookup x = some .local := q
        have := no _ q'
        cases this
      · have q' : scope.names.lookup x = some .cell := q
        have := no _ q'
        cases this
      · exact q
    obtain ⟨m, hm, hl⟩ := I.loc
    have hf := ok.blk.free _ (PySem.mem_of_lookup e3') rfl
    have hvis : Vis X.env.scope x := hf.elim (fun k => .inr (.inl k)) fun k => .inr (.inr k)
    obtain ⟨u, r, q⟩ := hl i x v e1 e2 hvis
    refine ⟨u, r, .inr ⟨.inr (by rw [kind]; exact e3'), ?_⟩⟩
    obtain ⟨c, hc⟩ := clo_has hfree (PySem.mem_of_lookup e3')
    have hc2 := (clo_at I hfree hc).1
    rcases q with ⟨k, _⟩ | ⟨_, c', e', z⟩
    · have k : X.env.scope.names.lookup x = some .local := k
      rcases hf with k' | k' <;> rw [show X.env.scope.names.lookup x = _ from k'] at k <;> cases k
    · rw [hc2] at e'
      cases e'
      exact ⟨c, hc, z.keeps keep⟩
  · obtain ⟨v, hv⟩ := I.cell x c (clo_at I hfree e).1
    exact ⟨v, hv.keeps keep⟩
  · have ep : p = (h'.objs.size, gob) := by simpa using hp
    subst ep
    refine ⟨Heap.get?_push_size _ hfr, I.hok.fresh (Nat.le_of_lt hsz), Nat.ne_of_gt hsz, fun hm => ?_, hcl⟩
    have hm2 : h'.objs.size ∈ frs X.stack := hm
    obtain ⟨_, o, ho, _⟩ := I.stack.mem hm2
    exact absurd (Nat.lt_trans (Heap.lt_size ho) hsz) (Nat.lt_irrefl _)
end
end Gx

/-! any(test for x in xs), all(..): the rules. -/
namespace Gx
open PySem PySem.Spec PyProof.Rows L2 GenW GxR
section
theorem over_gx {A : Around} {e : Expr} {cs : List Comprehension} {sc : Scope} {p : Pos} {u v : Value} {env : Env} : A.over (.compLoop (.GeneratorExp e cs sc p) 0 u v env) [] = A.deeper env := by
  obtain ⟨hd, d, fr, gs, un⟩ := A
  simp [Around.over, Around.deeper, marksOver, frameCount, unitsOf, envsOf, guardsOf, pushEnvs, pushGuards, Code.envs, Code.env?, Code.isFrame, Code.guards, Code.isGuard, Code.weight, Code.frames, Code.isCreation, Code.isCaller, Code.cUnits]
variable {X : Cx} {pins : List (Addr × Obj)} {σ : L2.St} {H : Hp} {s : Shared} {elt tg iter : Expr} {scope : Scope} {gpos : Pos} {own : List (Str × Nat)} {wi : TI} {g : TG} {te : TE} {c P : Addr} {k : Nat}
/-- what the test is to give, turn by turn; J: how the walk goes -/
def Turns (J : It) (g : TG) (te : TE) (vs : List Nat) (σw : L2.St) (N : Nat) (tr : Nat → Bool) (W : Nat → Hp → Prop) : Prop :=
  (∀ H, W N H → J.stop N H) ∧ ∀ i H, i < N → W i H → J.go i H ∧ ∀ x H', J.yld i H x H' → g x σw H' fun σ2 H2 => L2.wipe σ2 vs = σw ∧ te σ2 H2 fun y H3 => y = .bl (tr i) ∧ W (i + 1) H3
/-- the generator is made: what is then known -/
def Made (X : Cx) (pins : List (Addr × Obj)) (σ : L2.St) (N : Nat) (tr : Nat → Bool) (W : Nat → Hp → Prop) (u : Value) (s : Shared) : Prop :=
  ∃ (X' : Cx) (pins' : List (Addr × Obj)) (fp : List Addr) (tn : Nat → Heap → Prop) (σw : L2.St) (a : Addr) (n : Nat) (H : Hp), u = .ref a ∧ X'.prog = X.prog ∧ X'.w = X.w ∧ GSt X' X.A.in1.in1 pins' fp tn σw N W tr a n 0 H s ∧ (∀ s' H', Inv X' pins' σw H' s' → s'.heap.IsGen a n) ∧
    ∀ s' H', Inv X' pins' σw H' s' → Inv X pins σ H' s'
theorem made_gx {Q' : Value → Shared → Prop} {R : It → Hp → Prop} (hr : Room (k + 3) X.A) (TB : TabB X.base X.mg c P) (hcode : X.env.code = .ref c) (hc : X.calm = true) (hN : X.N.Nodup) (ok : GOk X.N X.env.scope scope own) (hi : PI X tg iter wi)
    (hg : ∀ (A : Around) (s : Shared) (H : Hp) (code : Value) (fp : List Addr), PG (gctx X A s H (genv X scope code s) fp) tg g) (he : ∀ (A : Around) (s : Shared) (H : Hp) (code : Value) (fp : List Addr), Room k A → PE (gctx X A s H (genv X scope code s) fp) elt te)
    (hs : ∀ v, genFold iter X.env v = pure v) (I : Inv X pins σ H s)
    (h : wi σ H R) (hR : ∀ J H1, R J H1 → TabG H1 P ∧ ∀ H2, Tabbed P H1 H2 → ∃ (N : Nat) (tr : Nat → Bool) (W : Nat → Hp → Prop), W 0 H2 ∧ Turns J g te (own.map (·.2)) (wipe σ (own.map (·.2))) N tr W ∧ ∀ u s', Made X pins σ N tr W u s' → Q' u s') :
    wpAny (model X.prog X.w) X.A (eval (.GeneratorExp elt [⟨tg, iter, [], 0⟩] scope gpos) X.env) Q' X.xe s := by
  have hfree : ∀ y ∈ scope.names, y.2 = .free → ∃ c, X.env.cells.lookup y.1 = some c := fun y hy e => by
    rcases ok.blk.free y hy e with k | k
    · exact I.ok.has _ (.inl k)
    · exact I.ok.has _ (.inr k)
  refine wpAny_GeneratorExp_make ok.co (closure_ok hfree) ok.cell ok.dot ok.blk.kind (by have := hr.dp; omega) ?_ hs
  refine thn (hi.run pins s σ H _ I h) fun xv s1 hx => thn hx fun itv s2 h2 => ?_
  obtain ⟨it, fp, tn, J, H1, rfl, I2, T, st2, f2, qR⟩ := h2
  obtain ⟨⟨ps, hP, ht⟩, q⟩ := hR J H1 qR
  refine ⟨I2.nolimit, ?_⟩
  have hPs : s2.heap.get? P = some { cls := .none, data := .fields ps } := I2.hok P _ hP
  have cd : PySem.W.CodeHd s2.heap c P := TB.code.keeps fun b u e => I2.bk b u e
  have cont : ∀ (code : Value) (h3 : Heap) (tk : Nat) (ps' : Array Value), Heap.ExtBut P s2.heap h3 → s2.heap.objs.size ≤ h3.objs.size → h3.get? P = some { cls := .none, data := .fields ps' } → (∃ more, ps' = ps ++ more) → TriplesOk ps'.toList →
      wpAny (model X.prog X.w) X.A (builtinsFor X.env.globals X.env.builtins) (fun bi s₄ => ∀ h', h'.Ns s₄.heap.objs.size (fun y => if y = ".0" then some (.ref it) else none) → Heap.SameBut s₄.heap.objs.size (s₄.heap.push { cls := .type "frame", data := .dict #[] }) h' →
          Q' (.ref h'.objs.size) { s₄ with gens := s₄.gens.push (.fresh (.compStart (.GeneratorExp elt [⟨tg, iter, [], 0⟩] scope gpos) 0 (.ref it) .none (genEnv scope (cloFrom X.env.cells scope.names []) s₄.heap.objs.size code bi X.env))), toks := s₄.toks + 1 + 1 + 1, heap := h'.push { cls := .type "generator", data := .fields #[.int s₄.gens.size 0, .str "<genexpr>" (s₄.toks + 1), .str (X.env.qual ++ "<genexpr>") (s₄.toks + 1 + 1)] } }) X.xe { s2 with heap := h3, toks := tk } := by
    intro code h3 tk ps' hx hsz hP3 hmore ht3
    obtain ⟨bm, ob, e1, e2, e3, e4, e5, e6, e7, e8⟩ := TB.bm
    have keep3 : ∀ b u, b ≠ P → s2.heap.get? b = some u → h3.get? b = some u := fun b u hb e => hx b u hb e
    refine wpAny_builtinsFor (m := X.mg) (by rw [I2.ok.glob]; exact (I2.mod.glob.keeps I2.bk).extBut hx TB.gP) e1 e2 (keep3 _ _ e4 (I2.bk _ _ e5)) e6 e7 e8 ?_
    intro h' hn' hs'
    obtain ⟨more, em⟩ := hmore
    have I3 : Inv X pins σ (upd H1 P (.tbl (ps ++ more))) { s2 with heap := h3, toks := tk } := inv_tab (more := more) (h' := h3) (g' := s2.gens) (d' := s2.drawn) (t' := tk) I2 hP keep3 (by rw [← em]; exact hP3) I2.bare
    have hT : Tabbed P H1 (upd H1 P (.tbl (ps ++ more))) := ⟨⟨ps ++ more, upd_same, by rw [← em]; exact ht3⟩, fun b hb => upd_ne hb⟩
    obtain ⟨N, tr, W, w0, turns, fin⟩ := q _ hT
    refine fin _ _ ?_
    have hsz' : h'.objs.size = h3.objs.size + 1 := by rw [hs'.1, Heap.size_push]
    have hk' : ∀ b o, h3.get? b = some o → h'.get? b = some o := fun b o e => hs'.extBut b o (Nat.ne_of_lt (Heap.lt_size e)) (Heap.get?_push_of_some _ e)
    have nP : ∀ b ∈ fp, b ≠ P := fun b hb z => by
      have := (f2 b hb).1
      rw [z, hP] at this
      cases this
    have objs : ∀ b ∈ fp, ∃ o, s2.heap.get? b = some o := fun b hb => let ⟨o, e, _⟩ := T.obj _ _ st2 b hb; ⟨o, e⟩
    have f3 : ∀ b ∈ fp, FpOk X pins (upd H1 P (.tbl (ps ++ more))) b ∧ b < h3.objs.size := fun b hb => by
      obtain ⟨o, e⟩ := objs b hb
      refine ⟨⟨?_, (f2 b hb).2⟩, Heap.lt_size (keep3 b o (nP b hb) e)⟩
      rw [upd_ne (nP b hb)]
      exact (f2 b hb).1
    generalize hs4 : ({ s2 with heap := h3, toks := tk } : Shared) = s4 at *
    have eh : s4.heap = h3 := by rw [← hs4]
    generalize hH2 : upd H1 P (.tbl (ps ++ more)) = H2 at *
    have hn4 : h'.Ns s4.heap.objs.size fun y => if y = ".0" then some (.ref it) else none := hn'
    have hrB : Room k (X.A.in1.in1.deeper (genv X scope code s4)) := ((hr.in1).in1).deeper _
    generalize hgo : ({ cls := .type "generator", data := .fields #[.int s4.gens.size 0, .str "<genexpr>" (s4.toks + 1), .str (X.env.qual ++ "<genexpr>") (s4.toks + 1 + 1)] } : Obj) = gob
    have I5 := start_gx (X := X) (pins0 := pins) (fp := fp) (A := X.A.in1.in1.deeper (genv X scope code s4)) (code := code) (tk := s4.toks + 1 + 1 + 1) (gs := s4.gens.push (.fresh (.compStart (.GeneratorExp elt [⟨tg, iter, [], 0⟩] scope gpos) 0 (.ref it) .none (genv X scope code s4)))) (itv := .ref it) (gob := gob) I3 hN ok
      (fun b hb => ⟨(f3 b hb).1, by rw [eh]; exact (f3 b hb).2⟩) (fun _ => hrB.hd) (Around.frames_deeper I3.ok.frames) hn4 (fun b o e => hk' b o (by rw [← eh]; exact e)) (by rw [eh, hsz']; exact Nat.lt_succ_self _) (by rw [← hgo]; rfl) (fun v => by rw [← hgo]; exact fun z => by cases z) (I3.bare.push rfl)
    have pg := hg (X.A.in1.in1.deeper (genv X scope code s4)) s4 H2 code fp
    have pe := he (X.A.in1.in1.deeper (genv X scope code s4)) s4 H2 code fp hrB
    have hgen : ∀ s' H', Inv (gctx X (X.A.in1.in1.deeper (genv X scope code s4)) s4 H2 (genv X scope code s4) fp) [(h'.objs.size, gob)] (wipe σ (own.map (·.2))) H' s' → s'.heap.IsGen h'.objs.size s4.gens.size := fun s' H' I' => by
      have z := (I'.pin (h'.objs.size, gob) (by simp)).1
      rw [← hgo] at z
      exact ⟨_, _, _, z, rfl, rfl, rfl⟩
    have stK : ∀ {h5 : Heap}, (∀ b o, b ≠ P → s2.heap.get? b = some o → h5.get? b = some o) → tn 0 h5 := fun {h5} hk5 => T.keep _ _ _ st2 fun b hb o e => hk5 b o (nP b hb) e
    have a0 : At (gctx X (X.A.in1.in1.deeper (genv X scope code s4)) s4 H2 (genv X scope code s4) fp) [(h'.objs.size, gob)] fp tn (wipe σ (own.map (·.2))) 0 H2 _ :=
      ⟨I5, stK fun b o hb e => Heap.get?_push_of_some _ (hk' b o (keep3 b o hb e)), fun b hb => ⟨(f3 b hb).1.1, (I5.ok.exf b hb).1, I5.ok.exfs b hb, .inl hb, fun x c e => (I5.ok.exf b hb).2 x c e, fun p hp => by
        have ep : p = (h'.objs.size, gob) := by simpa using hp
        subst ep
        have hl := (f3 b hb).2
        intro z
        have z' : h'.objs.size = b := z
        rw [← z', hsz'] at hl
        exact absurd (Nat.lt_trans (Nat.lt_succ_self _) hl) (Nat.lt_irrefl _)⟩⟩
    refine ⟨gctx X (X.A.in1.in1.deeper (genv X scope code s4)) s4 H2 (genv X scope code s4) fp, [(h'.objs.size, gob)], fp, tn, wipe σ (own.map (·.2)), h'.objs.size, s4.gens.size, H2, rfl, rfl, rfl, ⟨hgen _ _ I5, a0, w0, _, Array.getElem?_push_size .., fun s'' a2 => ?_⟩, hgen, fun s' H' I' => ?_⟩
    · rw [Nat.sub_zero]
      exact ⟨rfl, seg_gxStart (X := gctx X (X.A.in1.in1.deeper (genv X scope code s4)) s4 H2 (genv X scope code s4) fp) T a2 (seg_gx (X := gctx X (X.A.in1.in1.deeper (genv X scope code s4)) s4 H2 (genv X scope code s4) fp) over_gx.symm hc T pg pe rfl ok.co turns.1 turns.2 N 0 s'' s'' H2 rfl (Nat.zero_le _) a2 w0)⟩
    · exact I3.call' (ch := fp) I'.os I'.base I'.hok I'.bare fun b hb => ⟨(f3 b hb).1.2.2.2.1, (f3 b hb).1.2.1, (f3 b hb).1.2.2.2.2.1, (f3 b hb).1.2.2.2.2.2⟩
  cases hf : codeAmong gpos ps.toList with
  | none =>
    refine wpAny_genexprCodeX hcode (cd.code hPs ht) (cd.tab hPs) hf fun c' h' tk hx hge hlt hco' _ htab' _ => ?_
    obtain ⟨o1, vs, f1, tf, fl, tg, inF, tx, tt, op, _, _, _, _, _, _, _, _, _, htr, _⟩ := hco'
    exact cont _ h' tk _ hx (Nat.le_trans hge (Nat.le_of_lt hlt)) htab'.2 ⟨_, rfl⟩ htr
  | some cv =>
    refine wpAny_genexprCode_hit hcode (cd.code hPs ht) hf ?_
    exact cont cv s2.heap s2.toks ps (Heap.ExtBut.refl _ _) (Nat.le_refl _) hPs ⟨#[], by simp⟩ ht
/-- any(test for x in xs): the test gives W's turn after turn; behind it any of the turns may be the last one -/
def tAnyG (P : Addr) (wi : TI) (g : TG) (te : TE) (vs : List Nat) : TE := fun σ H Q => wi σ H fun J H1 => TabG H1 P ∧ ∀ H2, Tabbed P H1 H2 → ∃ (N : Nat) (tr : Nat → Bool) (W : Nat → Hp → Prop), W 0 H2 ∧ Turns J g te vs (wipe σ vs) N tr W ∧
  ∀ j H', j ≤ N → W j H' → Q (.bl ((List.range N).any tr)) H'
def tAllG (P : Addr) (wi : TI) (g : TG) (te : TE) (vs : List Nat) : TE := fun σ H Q => wi σ H fun J H1 => TabG H1 P ∧ ∀ H2, Tabbed P H1 H2 → ∃ (N : Nat) (tr : Nat → Bool) (W : Nat → Hp → Prop), W 0 H2 ∧ Turns J g te vs (wipe σ vs) N tr W ∧
  ∀ j H', j ≤ N → W j H' → Q (.bl ((List.range N).all tr)) H'
theorem pe_anyG {p pos : Pos} (hr : Room (k + 3) X.A) (hg' : Gl X "any") (hm : X.mg "any" = none) (TB : TabB X.base X.mg c P) (hcode : X.env.code = .ref c) (hc : X.calm = true) (hN : X.N.Nodup) (ok : GOk X.N X.env.scope scope own) (hi : PI X tg iter wi)
    (hg : ∀ (A : Around) (s : Shared) (H : Hp) (code : Value) (fp : List Addr), PG (gctx X A s H (genv X scope code s) fp) tg g) (he : ∀ (A : Around) (s : Shared) (H : Hp) (code : Value) (fp : List Addr), Room k A → PE (gctx X A s H (genv X scope code s) fp) elt te)
    (hs : ∀ v, genFold iter X.env v = pure v)
    (hst : starEach [.GeneratorExp elt [⟨tg, iter, [], 0⟩] scope gpos] X.env = (false, eval (.GeneratorExp elt [⟨tg, iter, [], 0⟩] scope gpos) X.env) :: starEach [] X.env := by rfl) :
    PE X (.Call (.Name "any" p) [.GeneratorExp elt [⟨tg, iter, [], 0⟩] scope gpos] [] pos) (tAnyG P wi g te (own.map (·.2))) := by
  refine ⟨fun pins s σ H Q I h => ?_⟩
  refine wpAny_Call_Name_kw (ld_blt I hg' hm boot_any ?_)
  refine PyProof.Rows.callWith_builtin1 ?_ hst (by rfl)
  rw [hst]
  show wpAny _ _ (spliced ((false, eval (.GeneratorExp elt [⟨tg, iter, [], 0⟩] scope gpos) X.env) :: backTo pos (starEach [] X.env))) _ _ s
  refine Calls.spliced_cons (made_gx hr TB hcode hc hN ok hi hg he hs I h fun J H1 q => ⟨q.1, fun H2 hT => ?_⟩)
  obtain ⟨N, tr, W, w0, turns, fin⟩ := q.2 H2 hT
  refine ⟨N, tr, W, w0, turns, fun u s' hM => ?_⟩
  obtain ⟨X', pins', fp, tn, σw, a, n, H5, rfl, e1, e2, G, hpin, back⟩ := hM
  refine Calls.spliced_nil ?_
  rw [← e1, ← e2]
  refine call_anyG hr.hd (by have := hr.dp; omega) hpin G fun j' s' H' hj I' w' => ?_
  exact ⟨.bl _, H', back s' H' I', rfl, fin j' H' hj w'⟩
theorem pe_allG {p pos : Pos} (hr : Room (k + 3) X.A) (hg' : Gl X "all") (hm : X.mg "all" = none) (hb : bootBuiltins "all" = some (.builtin "all")) (TB : TabB X.base X.mg c P) (hcode : X.env.code = .ref c) (hc : X.calm = true) (hN : X.N.Nodup) (ok : GOk X.N X.env.scope scope own) (hi : PI X tg iter wi)
    (hg : ∀ (A : Around) (s : Shared) (H : Hp) (code : Value) (fp : List Addr), PG (gctx X A s H (genv X scope code s) fp) tg g) (he : ∀ (A : Around) (s : Shared) (H : Hp) (code : Value) (fp : List Addr), Room k A → PE (gctx X A s H (genv X scope code s) fp) elt te)
    (hs : ∀ v, genFold iter X.env v = pure v)
    (hst : starEach [.GeneratorExp elt [⟨tg, iter, [], 0⟩] scope gpos] X.env = (false, eval (.GeneratorExp elt [⟨tg, iter, [], 0⟩] scope gpos) X.env) :: starEach [] X.env := by rfl) :
    PE X (.Call (.Name "all" p) [.GeneratorExp elt [⟨tg, iter, [], 0⟩] scope gpos] [] pos) (tAllG P wi g te (own.map (·.2))) := by
  refine ⟨fun pins s σ H Q I h => ?_⟩
  refine wpAny_Call_Name_kw (ld_blt I hg' hm hb ?_)
  refine PyProof.Rows.callWith_builtin1 ?_ hst (by rfl)
  rw [hst]
  show wpAny _ _ (spliced ((false, eval (.GeneratorExp elt [⟨tg, iter, [], 0⟩] scope gpos) X.env) :: backTo pos (starEach [] X.env))) _ _ s
  refine Calls.spliced_cons (made_gx hr TB hcode hc hN ok hi hg he hs I h fun J H1 q => ⟨q.1, fun H2 hT => ?_⟩)
  obtain ⟨N, tr, W, w0, turns, fin⟩ := q.2 H2 hT
  refine ⟨N, tr, W, w0, turns, fun u s' hM => ?_⟩
  obtain ⟨X', pins', fp, tn, σw, a, n, H5, rfl, e1, e2, G, hpin, back⟩ := hM
  refine Calls.spliced_nil ?_
  rw [← e1, ← e2]
  refine call_allG hr.hd (by have := hr.dp; omega) hpin G fun j' s' H' hj I' w' => ?_
  exact ⟨.bl _, H', back s' H' I', rfl, fin j' H' hj w'⟩
end
end Gx

/-! any(test for x in xs), all(..) in data. -/
namespace Kb
open PySem PySem.Spec PyProof.Rows L2 Gx GxR
section
variable {K : PySem.W.Frag} {Θ : Ctx} {env : Env'} {h : Hs} {R : D → Hs → Prop}
theorem Rel.tabbed {F : Hp} {ρ : List Addr} {H H2 : Hp} {P : Addr} (r : Rel K Θ F ρ h H) (hP : P ∈ Θ.tabs) (t : Tabbed P H H2) : Rel K Θ F ρ h H2 := by
  obtain ⟨tP, tk⟩ := t
  have tH := (r.tab P hP).2
  refine ⟨⟨fun b o e => ?_, r.len, fun i o hi => ?_, r.inj, fun P' hP' => ⟨(r.tab P' hP').1, ?_⟩⟩, r.wish⟩
  · by_cases hb : b = P
    · rw [hb, (r.tab P hP).1] at e
      cases e
    · rw [tk b hb]
      exact r.same b o e
  · obtain ⟨a, u, h1, h2, h3, h4⟩ := r.own i o hi
    exact ⟨a, u, h1, h2, by rw [tk a (tab_own tH h3 h4).symm]; exact h3, h4⟩
  · by_cases hb : P' = P
    · rw [hb]; exact tP
    · obtain ⟨ps, z1, z2⟩ := (r.tab P' hP').2
      exact ⟨ps, by rw [tk P' hb]; exact z1, z2⟩
/-- the target's slots stand alone: what was there stays -/
theorem TgOk.keeps {g : TG} {vs : List Nat} (t : TgOk g vs) {x : V} {σ : L2.St} {H : Hp} {Q : L2.St → Hp → Prop} (q : g x (L2.wipe σ vs) H Q) :
    g x (L2.wipe σ vs) H fun σ2 H2 => L2.wipe σ2 vs = L2.wipe σ vs ∧ Q σ2 H2 := t x σ H Q q
/-- what an element's test is to give -/
def GxTurn (K : PySem.W.Frag) (Θ : Ctx) (g : TG) (te : TE) (env : Env') (d : D) (h : Hs) (b : Bool) : Prop := VG K Θ g d env h fun env' h' => h' = h ∧ VE K Θ te env' h fun y h2 => h2 = h ∧ y = dB b
end
end Kb

/-! any, all of a generator expression in data. -/
namespace Kb
open PySem PySem.Spec PyProof.Rows L2 Gx GxR
section
variable {K : PySem.W.Frag} {Θ : Ctx} {env : Env'} {h : Hs} {R : D → Hs → Prop}
theorem gx_turns {wi : TI} {g : TG} {te : TE} {vs : List Nat} {F1 : Hp} {ρ1 : List Addr} {σ : L2.St} {ds : List D} {C : Hs → Prop} {h1 : Hs} {J : It} {tr : Nat → Bool} (tg : TgOk g vs) (e : REnv K F1 ρ1 env σ) (it : ItOk K Θ F1 ρ1 C ds J) (hC : C h1)
    (turn : ∀ (i : Nat) (d : D), ds[i]? = some d → GxTurn K Θ g te (wipeD env vs) d h1 (tr i)) :
    Turns J g te vs (L2.wipe σ vs) ds.length tr fun _ H => ∃ F', Same F1 F' ∧ Rel K Θ F' ρ1 h1 H := by
  refine ⟨fun H ⟨F', s, r⟩ => it.stop F' ρ1 h1 H s (Pre.refl _) r hC, fun i H hi ⟨F', s, r⟩ => ⟨it.go i F' ρ1 h1 H s (Pre.refl _) r hC hi, fun x H' hy => ?_⟩⟩
  have hd : ds[i]? = some ds[i] := List.getElem?_eq_getElem hi
  obtain ⟨F2, s2, r2, dx⟩ := it.yld i _ F' ρ1 h1 H x H' s (Pre.refl _) r hC hd hy
  have e2 : REnv K F2 ρ1 (wipeD env vs) (L2.wipe σ vs) := (e.mono (s.trans s2) (Pre.refl _)).wipes vs
  refine tg.keeps (turn i _ hd F2 ρ1 _ H' x _ r2 e2 dx fun env3 h3 F3 ρ3 σ3 H3 s3 p3 r3 e3 q3 => ?_)
  obtain ⟨rfl, q3⟩ := q3
  refine q3 F3 ρ3 σ3 H3 _ r3 e3 fun y h4 v F4 ρ4 H4 s4 p4 r4 dv q4 => ?_
  obtain ⟨rfl, rfl⟩ := q4
  refine ⟨dv.bl, F4, s.trans (s2.trans (s3.trans s4)), r2.back (s3.trans s4) (junk := []) (p3.trans p4) ?_⟩
  rw [List.append_nil]
  exact r4
/-- any(test for x in xs) -/
theorem ve_anyG {P : Addr} {wi : TI} {g : TG} {te : TE} {vs : List Nat} (hP : P ∈ Θ.tabs) (tg : TgOk g vs)
    (q : VI K Θ wi env h fun ds C h1 => ∃ tr : Nat → Bool, C h1 ∧ (∀ (i : Nat) (d : D), ds[i]? = some d → GxTurn K Θ g te (wipeD env vs) d h1 (tr i)) ∧ R (dB ((List.range ds.length).any tr)) h1) : VE K Θ (tAnyG P wi g te vs) env h R := fun F ρ σ H Q rl e k =>
  q F ρ σ H _ rl e fun ds C h1 J F1 ρ1 H1 s1 p1 r1 it q1 => by
    obtain ⟨tr, hC, turn, q1⟩ := q1
    refine ⟨(r1.tab P hP).2, fun H2 hT => ⟨ds.length, tr, _, ⟨F1, Same.refl _, r1.tabbed hP hT⟩, gx_turns (wi := wi) tg (e.mono s1 p1) it hC turn, fun j H' hj w => ?_⟩⟩
    obtain ⟨F', s, r⟩ := w
    exact k _ h1 _ F' ρ1 H' (s1.trans s) p1 r (.p (.bl _)) q1
/-- all(test for x in xs) -/
theorem ve_allG {P : Addr} {wi : TI} {g : TG} {te : TE} {vs : List Nat} (hP : P ∈ Θ.tabs) (tg : TgOk g vs)
    (q : VI K Θ wi env h fun ds C h1 => ∃ tr : Nat → Bool, C h1 ∧ (∀ (i : Nat) (d : D), ds[i]? = some d → GxTurn K Θ g te (wipeD env vs) d h1 (tr i)) ∧ R (dB ((List.range ds.length).all tr)) h1) : VE K Θ (tAllG P wi g te vs) env h R := fun F ρ σ H Q rl e k =>
  q F ρ σ H _ rl e fun ds C h1 J F1 ρ1 H1 s1 p1 r1 it q1 => by
    obtain ⟨tr, hC, turn, q1⟩ := q1
    refine ⟨(r1.tab P hP).2, fun H2 hT => ⟨ds.length, tr, _, ⟨F1, Same.refl _, r1.tabbed hP hT⟩, gx_turns (wi := wi) tg (e.mono s1 p1) it hC turn, fun j H' hj w => ?_⟩⟩
    obtain ⟨F', s, r⟩ := w
    exact k _ h1 _ F' ρ1 H' (s1.trans s) p1 r (.p (.bl _)) q1
end
end Kb

/-! Defs whose code object is known by address; the end with tables, by what the top's text says of them. -/
namespace Kb
open PySem PySem.Spec PyProof.Rows L2
/-- a def of the top whose code object is c -/
structure DefT (K : PySem.W.Frag) (mg : Str → Option Value) (x : Str) (st : Stmt) (ps : List Str) (c : Addr) : Prop where
  ex : ∃ (f : Addr) (oc : Value) (od : Option Addr) (kV doc pm : Value) (an : Option Addr) (ct : Value) (osl : Array (Option Value)),
    K.lookup f = some ⟨oc, od, .func (PySem.W.fnOf x x (defArgs st) (defBody st) (defScope st) .none kV doc pm an (.ref c) ct), osl⟩ ∧ PySem.W.codeIn K (.ref c) x = true ∧ PySem.W.keepIn K (.ref f) = true ∧
      mg x = some (.ref f) ∧ Binds K (PySem.W.fnOf x x (defArgs st) (defBody st) (defScope st) .none kV doc pm an (.ref c) ct) ps []
section
variable {K : PySem.W.Frag} {Θ : Ctx} {h : Heap} {mg : Str → Option Value} {x : Str} {st : Stmt} {ps : List Str} {f c : Addr} {oc : Value} {od an : Option Addr} {osl : Array (Option Value)} {kV doc pm ct : Value}
theorem defT_mk (X : K.In h) (G : h.Ns mainGlobals mg) (hb : ∀ (kV doc pm : Value) (an : Option Addr) (cdv ct : Value) (us : List Value), us.length = ps.length → bindArgs (PySem.W.fnOf x x (defArgs st) (defBody st) (defScope st) .none kV doc pm an cdv ct) ⟨us, []⟩ = pure (ps.zip us))
    (a : PySem.W.nsIn K mainGlobals x = some (some (.ref f))) (l : K.lookup f = some ⟨oc, od, .func (PySem.W.fnOf x x (defArgs st) (defBody st) (defScope st) .none kV doc pm an (.ref c) ct), osl⟩) (cc : PySem.W.codeIn K (.ref c) x = true) (k : PySem.W.keepIn K (.ref f) = true) : DefT K mg x st ps c :=
  ⟨f, oc, od, kV, doc, pm, an, ct, osl, l, cc, k, PySem.W.mg_of X G a, .all (hb kV doc pm an (.ref c) ct)⟩
variable {P : Program} {w : World} {base : Heap} {N : List Str} {k : Nat}
theorem DefT.at' (A : DefT K mg x st ps c) : DefAt K mg x st ps := by
  obtain ⟨f, oc, od, kV, doc, pm, an, ct, osl, l, cc, k, hm, hb⟩ := A.ex
  exact ⟨f, _, fun_mk (st := st) l cc k, hm, hb⟩
/-- a def whose body keeps a promise in data; its code object is known -/
theorem DefT.okD {T : List Addr} (A : DefT K mg x st ps c) (S : FnScope N ps (defScope st)) (W : Spc) (len : ∀ ds h R, W ds h R → ds.length = ps.length)
    (hbody : ∀ (f : Addr) (A : Around) (outer : List Env) (s : Shared) (H : Hp) (E : XK), Room k (A.deeper (envOfC x (defScope st) s.heap.objs.size f (.ref c))) →
      ∃ t, PSs (cxOf CX0 P w K mg base N x (defScope st) f (.ref c) A outer s H E).nox (defBody st) t ∧ ∀ ds h R, W ds h R → VS K (Ctx.plain T) t { nx := fun _ h' => R dN h', rt := R } (startD N ds) h) : HasF P w K mg base CX0 (k + 1) x ps (spD K T W) := by
  obtain ⟨f, oc, od, kV, doc, pm, an, ct, osl, l, cc, kp, hm, hb⟩ := A.ex
  refine ⟨f, _, fn_of l cc S (fun vs H Q E h => ?_) fun A outer s H vs Q E hr h => ?_, hm, kp, hb⟩
  · obtain ⟨ds, h, F, ρ, R, rl, ra, hw, _⟩ := h
    rw [← ra.len]
    exact len ds h R hw
  · obtain ⟨ds, h, F, ρ, R, rl, ra, hw, kq⟩ := h
    obtain ⟨t, ht, q⟩ := hbody f A outer s H E hr
    refine ⟨t, ht.nox, q ds h R hw F ρ _ H _ rl.plain (renv_start ra) ⟨fun env' h' F' ρ' σ' H' s p r e q => kq dN h' .non F' ρ' H' s p r.toBase (.p .non) q, fun d h' v F' ρ' H' s p r dv q => kq d h' v F' ρ' H' s p r.toBase dv q, fun _ _ _ _ _ _ _ _ _ _ z => z.elim, fun _ _ _ _ _ _ _ _ _ _ z => z.elim⟩⟩
end
/-- what the top's text says of a def's code object and its table -/
def TopTab (q : Program) (K : PySem.W.Frag) (h : Heap) : Prop := ∀ (x : Str) (d : DefRec) (c P : Addr), (recsOf q).find? (fun e => e.name == x) = some d → PySem.W.tabIn K x = some (c, P) → PySem.W.CodeHd h c P ∧ h.get? P = some { cls := .none, data := .fields #[] }
theorem tabIn_of {K : PySem.W.Frag} {x : Str} {f c P : Addr} {fd : FuncData} {oc o1 : Value} {od o2 : Option Addr} {osl o3 : Array (Option Value)} {vs : Array Value} (a : PySem.W.nsIn K mainGlobals x = some (some (.ref f))) (l : K.lookup f = some ⟨oc, od, .func fd, osl⟩) (hc : fd.code = .ref c)
    (lc : K.lookup c = some ⟨o1, o2, .fields vs, o3⟩) (hv : (vs[11]? : Option Value) = some (.ref P)) : PySem.W.tabIn K x = some (c, P) := by
  unfold PySem.W.tabIn
  rw [a]
  show (match K.lookup f with
    | some ⟨_, _, .func fd, _⟩ => (match fd.code with
      | .ref c => (match K.lookup c with
        | some ⟨_, _, .fields vs, _⟩ => (match (vs[11]? : Option Value) with
          | some (.ref P) => some (c, P)
          | _ => none)
        | _ => none)
      | _ => none)
    | _ => none) = some (c, P)
  rw [l]
  show (match fd.code with
      | .ref c => (match K.lookup c with
        | some ⟨_, _, .fields vs, _⟩ => (match (vs[11]? : Option Value) with
          | some (.ref P) => some (c, P)
          | _ => none)
        | _ => none)
      | _ => none) = some (c, P)
  rw [hc]
  show (match K.lookup c with
        | some ⟨_, _, .fields vs, _⟩ => (match (vs[11]? : Option Value) with
          | some (.ref P) => some (c, P)
          | _ => none)
        | _ => none) = some (c, P)
  rw [lc]
  show (match (vs[11]? : Option Value) with
          | some (.ref P) => some (c, P)
          | _ => none) = some (c, P)
  rw [hv]
/-- the table of a def's code object, as the end asks for it -/
structure TabIs (K : PySem.W.Frag) (h : Heap) (x : Str) (c P : Addr) : Prop where
  empty : h.get? P = some { cls := .none, data := .fields #[] }
  none : K.lookup P = none
  code : PySem.W.CodeHd h c P
theorem tabIs_mk {q : Program} {K : PySem.W.Frag} {h : Heap} {d : DefRec} {x : Str} {f c P : Addr} {fd : FuncData} {oc o1 : Value} {od o2 : Option Addr} {osl o3 : Array (Option Value)} {vs : Array Value} (T : TopTab q K h) (hr : (recsOf q).find? (fun e => e.name == x) = some d)
    (a : PySem.W.nsIn K mainGlobals x = some (some (.ref f))) (l : K.lookup f = some ⟨oc, od, .func fd, osl⟩) (hc : fd.code = .ref c) (lc : K.lookup c = some ⟨o1, o2, .fields vs, o3⟩) (hv : (vs[11]? : Option Value) = some (.ref P)) (np : K.lookup P = none) : TabIs K h x c P :=
  have z := T x d c P hr (tabIn_of a l hc lc hv)
  ⟨z.2, np, z.1⟩
/-- the end of a law whose defs have tables, by what the top's text says -/
theorem walkDT2 {l : PySem.W.OpenLaw} {k : Nat} {q : Program} {loose : List Str} {XP : (Str → Option Value) → Heap → Prop} {YP : World → Heap → Prop} {d : DefRec} {K : Params → PySem.W.Frag} {W : Spc}
    (hn : l.most = some 63) (hdf : d.params.defaults = []) (hr : Room k callerA) (hY : ∀ (w : World) (h : Heap), YP w h → (K w.params).In h)
    (hW : ∀ ns : List Int, ns.length ≤ 63 → (∀ n ∈ ns, n.natAbs.log2 < 2000000) → W [dL (ns.map P.int)] [] fun d _ => d = dB true)
    (F : ∀ (w : World) (mg : Str → Option Value) (fa : Addr) (h : Heap), YP w h → (K w.params).In h → h.Ns mainGlobals mg → mg d.name = some (.ref fa) → TopTab q (K w.params) h →
      ∃ (fd : FuncData) (cs : List (Addr × Addr)), (∀ p ∈ cs, h.get? p.2 = some { cls := .none, data := .fields #[] }) ∧ (∀ p ∈ cs, (K w.params).lookup p.2 = none) ∧ (∀ p ∈ cs, PySem.W.CodeHd h p.1 p.2) ∧ (∀ (s : Shared) (u : Value), BindsTo s fd ⟨[u], []⟩ [("script", u)]) ∧
        ∀ base : Heap, (K w.params).In base → base.Ns mainGlobals mg → (∀ p ∈ cs, LamX.TabB base mg p.1 p.2) → FnOk l.prog w (K w.params) mg base CX0 k fa fd ["script"] (spD (K w.params) (cs.map (·.2)) W)) :
    PySem.W.WalkO q loose XP YP l.row.toRowW d [] (fun f vs => PySem.call f vs) := by
  refine Att.attach_callB hn hdf fun w s₀ s₁ mg mb fa o pm cd doc a vs ns G Y ho hd hcd hmg hobj hints hlen hbits hg => ?_
  have KX := hY w _ Y
  obtain ⟨fd, cs, h1, h2, h3, h4, h5⟩ := F w mg fa _ Y KX G.T.g hmg fun x d c P hr ht => PySem.W.tab_of G.T KX hr ht
  refine LamX.law_callTs (CX := CX0) KX G.T.g G.T.b G.T.builtins G.T.nolimit hg h1 h2 h3 G.T.bmain hobj hints (Nat.le_trans hlen (by decide)) hr h5 h4 (fun H hT hS => spD_start (fun P hP => ?_) hS (hW ns hlen fun n hm => bits_log (hbits n hm))) fun _ _ _ z => z
  obtain ⟨p, hp, e⟩ := List.mem_map.mp hP
  rw [← e]
  exact hT p hp
end Kb

/-! Comprehensions with two sources, in data. -/
namespace Kb
open PySem PySem.Spec PyProof.Rows L2
/-- the first n parts, one behind the other -/
def catN (gs : Nat → List P) : Nat → List P
  | 0 => []
  | n + 1 => catN gs n ++ gs n
theorem catN_le {gs : Nat → List P} {i : Nat} : ∀ {n : Nat}, i ≤ n → (catN gs i).length ≤ (catN gs n).length
  | 0, h => by cases Nat.le_zero.mp h; exact Nat.le_refl _
  | n + 1, h => by
    rcases Nat.lt_or_ge i (n + 1) with z | z
    · refine Nat.le_trans (catN_le (Nat.lt_succ_iff.mp z)) ?_
      rw [catN, List.length_append]
      exact Nat.le_add_right _ _
    · cases Nat.le_antisymm h z
      exact Nat.le_refl _
theorem fm_le {α : Type} {f : Nat → Option α} {i : Nat} : ∀ {n : Nat}, i ≤ n → ((List.range i).filterMap f).length ≤ ((List.range n).filterMap f).length
  | 0, h => by cases Nat.le_zero.mp h; exact Nat.le_refl _
  | n + 1, h => by
    rcases Nat.lt_or_ge i (n + 1) with z | z
    · refine Nat.le_trans (fm_le (Nat.lt_succ_iff.mp z)) ?_
      rw [filterMap_succ, List.length_append]
      exact Nat.le_add_right _ _
    · cases Nat.le_antisymm h z
      exact Nat.le_refl _
section
variable {K : PySem.W.Frag} {Θ : Ctx} {env : Env'} {h : Hs} {R : D → Hs → Prop}
/-- what one turn of the first source must do: the heap as it was, the items o -/
def Lc2Turn (K : PySem.W.Frag) (Θ : Ctx) (g : TG) (tt : TT) (wi1 : TI) (g1 : TG) (tt1 : TT) (te : TE) (vs1 : List Nat) (env : Env') (d : D) (h1 : Hs) (acc0 : List D) (o : List P) : Prop :=
  VG K Θ g d env (h1 ++ [some (.lst acc0)]) fun env2 h2 => h2 = h1 ++ [some (.lst acc0)] ∧ VT K Θ tt env2 h2 fun b h3 => h3 = h2 ∧
    if b = true then VI K Θ wi1 env2 h3 (fun ds1 C1 h4 => h4 = h3 ∧ ∃ fs : Nat → Option P, (∀ acc, C1 (h1 ++ [some (.lst acc)])) ∧
      (∀ (j : Nat) (d1 : D) (acc : List D), ds1[j]? = some d1 → LcTurn K Θ g1 tt1 te (wipeD env2 vs1) d1 (h1 ++ [some (.lst acc)]) (fs j)) ∧ o = (List.range ds1.length).filterMap fs) else o = []
theorem lc2_run {wi wi1 : TI} {g g1 : TG} {tt tt1 : TT} {te : TE} {vs vs1 : List Nat} (tg : TgOk g vs) (tg1 : TgOk g1 vs1) {F : Hp} {ρ : List Addr} {σ : L2.St} {H1 : Hp} {ds : List D} {C : Hs → Prop} {h1 : Hs} {J : It} (Q : VK)
    (r1 : Rel K Θ F ρ h1 H1) (e : REnv K F ρ env σ) (it : ItOk K Θ F ρ C ds J) (gs : Nat → List P) (hl : (catN gs ds.length).length < sizeLine) (hC : ∀ acc, C (h1 ++ [some (.lst acc)]))
    (turn : ∀ i d acc, ds[i]? = some d → Lc2Turn K Θ g tt wi1 g1 tt1 te vs1 (wipeD env vs) d h1 acc (gs i))
    (fin : ∀ (p : Addr) (F' : Hp) (us : List V) (H : Hp), Same F F' → F' p = none → H p = some (.lst us) → H1 p = none → Rel K Θ F' (ρ ++ [p]) (h1 ++ [some (.lst ((catN gs ds.length).map D.p))]) H → RPs K F' (catN gs ds.length) us → Rel K Θ F' ρ h1 H → Q (.ref p) H) :
    ∀ D, H1 D = none → ∃ W : Nat → Nat → Hp → Prop, (∃ m, W 0 m (upd H1 D (.lst []))) ∧ ∀ i m H, W i m H →
  (J.stop i H ∧ Q (.ref D) H) ∨ (J.go i H ∧ ∃ Nx : Hp → Prop, (∀ H', Nx H' → ∃ m', m' < m ∧ W (i + 1) m' H') ∧ ∀ x H', J.yld i H x H' → g x (wipe σ vs) H' fun σ2 H2 => wipe σ2 vs = wipe σ vs ∧ tt σ2 H2 fun b H3 =>
    if b = true then wi1 σ2 H3 fun J1 H4 => ∃ W1 : Nat → Nat → Hp → Prop, (∃ m, W1 0 m H4) ∧ ∀ j k H, W1 j k H →
      (J1.stop j H ∧ Nx H) ∨ (J1.go j H ∧ ∃ Nx1 : Hp → Prop, (∀ H', Nx1 H' → ∃ k', k' < k ∧ W1 (j + 1) k' H') ∧ ∀ x H', J1.yld j H x H' → g1 x (wipe σ2 vs1) H' fun σ3 H5 => wipe σ3 vs1 = wipe σ2 vs1 ∧ tt1 σ3 H5 fun b H6 =>
        if b = true then te σ3 H6 fun y H7 => ∃ acc, H7 D = some (.lst acc) ∧ acc.length < sizeLine ∧ Nx1 (upd H7 D (.lst (acc ++ [y]))) else Nx1 H6)
    else Nx H3) := by
  intro p hp
  have hn : (h1 ++ [some (OO.lst [])])[h1.length]? = some (some (.lst [])) := by simp
  refine ⟨fun i m H => m = ds.length - i ∧ i ≤ ds.length ∧ ∃ F', Same F F' ∧ Rel K Θ F' (ρ ++ [p]) (h1 ++ [some (.lst ((catN gs i).map D.p))]) H, ⟨ds.length, by simp, Nat.zero_le _, F, Same.refl _, r1.push (o := .lst []) hp ⟨[], rfl, .nil⟩⟩, ?_⟩
  rintro i m H ⟨rfl, hi, F', s, r⟩
  have hpl : (ρ ++ [p])[h1.length]? = some p := by rw [← r1.len]; simp
  have got : ∀ (F' : Hp) (H : Hp) (xs : List D), Rel K Θ F' (ρ ++ [p]) (h1 ++ [some (.lst xs)]) H → ∃ us, H p = some (.lst us) ∧ F' p = none ∧ RA K F' (ρ ++ [p]) xs us := fun F' H xs r => by
    obtain ⟨a, u, e1, e2, e3, us, e4, e5⟩ := r.own h1.length (.lst xs) (by simp)
    rw [hpl] at e1; cases e1
    subst e4
    exact ⟨us, e3, e2, e5⟩
  by_cases hlt : i < ds.length
  · refine .inr ⟨it.go i F' (ρ ++ [p]) _ H s (Pre.push _ _) r (hC _) hlt, fun H' => ∃ F2, Same F F2 ∧ Rel K Θ F2 (ρ ++ [p]) (h1 ++ [some (.lst ((catN gs (i + 1)).map D.p))]) H', fun H' ⟨F2, s2, r2⟩ => ⟨ds.length - (i + 1), by omega, rfl, hlt, F2, s2, r2⟩, fun x H' hy => ?_⟩
    have hd : ds[i]? = some ds[i] := List.getElem?_eq_getElem hlt
    obtain ⟨F2, s2, r2, dx⟩ := it.yld i _ F' (ρ ++ [p]) _ H x H' s (Pre.push _ _) r (hC _) hd hy
    refine tg x σ H' _ ?_
    refine turn i _ _ hd F2 (ρ ++ [p]) (wipe σ vs) H' x _ r2 ((e.mono (s.trans s2) (Pre.push _ _)).wipes vs) dx fun env3 h3 F3 ρ3 σ3 H3 s3 p3 r3 e3 q3 => ?_
    obtain ⟨rfl, q3⟩ := q3
    have eρ : ρ3 = ρ ++ [p] := pre_eq p3 (by rw [r3.len, r2.len])
    subst eρ
    refine q3 F3 _ σ3 H3 _ r3 e3 fun b h4 F4 ρ4 H4 s4 p4 r4 q4 => ?_
    obtain ⟨rfl, q4⟩ := q4
    have eρ : ρ4 = ρ ++ [p] := pre_eq p4 (by rw [r4.len, r3.len])
    subst eρ
    have ss : Same F F4 := s.trans (s2.trans (s3.trans s4))
    cases b with
    | true =>
      rw [if_pos rfl] at q4 ⊢
      refine q4 F4 _ σ3 H4 _ r4 (e3.mono s4 p4) fun ds1 C1 h5 J1 F5 ρ5 H5 s5 p5 r5 it1 q5 => ?_
      obtain ⟨rfl, fs, hC1, turn1, eg⟩ := q5
      have eρ : ρ5 = ρ ++ [p] := pre_eq p5 (by rw [r5.len, r4.len])
      subst eρ
      have ss5 : Same F F5 := ss.trans s5
      have e5 : REnv K F5 (ρ ++ [p]) env3 σ3 := (e3.mono s4 p4).mono s5 p5
      refine ⟨fun j k H => k = ds1.length - j ∧ j ≤ ds1.length ∧ ∃ F', Same F5 F' ∧ Rel K Θ F' (ρ ++ [p]) (h1 ++ [some (.lst ((catN gs i ++ (List.range j).filterMap fs).map D.p))]) H, ⟨ds1.length, by simp, Nat.zero_le _, F5, Same.refl _, by simpa using r5⟩, ?_⟩
      rintro j k H6 ⟨rfl, hj, F6, s6, r6⟩
      by_cases hjt : j < ds1.length
      · refine .inr ⟨it1.go j F6 (ρ ++ [p]) _ H6 s6 (Pre.refl _) r6 (hC1 _) hjt, fun H' => ∃ F2, Same F5 F2 ∧ Rel K Θ F2 (ρ ++ [p]) (h1 ++ [some (.lst ((catN gs i ++ (List.range (j + 1)).filterMap fs).map D.p))]) H', fun H' ⟨F2, s2, r2⟩ => ⟨ds1.length - (j + 1), by omega, rfl, hjt, F2, s2, r2⟩, fun x1 H7 hy1 => ?_⟩
        have hd1 : ds1[j]? = some ds1[j] := List.getElem?_eq_getElem hjt
        obtain ⟨F7, s7, r7, dx1⟩ := it1.yld j _ F6 (ρ ++ [p]) _ H6 x1 H7 s6 (Pre.refl _) r6 (hC1 _) hd1 hy1
        refine tg1 x1 σ3 H7 _ ?_
        refine turn1 j _ _ hd1 F7 (ρ ++ [p]) (wipe σ3 vs1) H7 x1 _ r7 ((e5.mono (s6.trans s7) (Pre.refl _)).wipes vs1) dx1 fun env8 h8 F8 ρ8 σ8 H8 s8 p8 r8 e8 q8 => ?_
        obtain ⟨rfl, q8⟩ := q8
        have eρ : ρ8 = ρ ++ [p] := pre_eq p8 (by rw [r8.len, r7.len])
        subst eρ
        refine q8 F8 _ σ8 H8 _ r8 e8 fun b h9 F9 ρ9 H9 s9 p9 r9 q9 => ?_
        obtain ⟨rfl, q9⟩ := q9
        have eρ : ρ9 = ρ ++ [p] := pre_eq p9 (by rw [r9.len, r8.len])
        subst eρ
        have ss9 : Same F5 F9 := s6.trans (s7.trans (s8.trans s9))
        cases b with
        | true =>
          rw [if_pos rfl] at q9 ⊢
          refine q9 F9 _ σ8 H9 _ r9 (e8.mono s9 p9) fun y h10 v F10 ρ10 H10 s10 p10 r10 dv q10 => ?_
          obtain ⟨rfl, pp, rfl, ef⟩ := q10
          have eρ : ρ10 = ρ ++ [p] := pre_eq p10 (by rw [r10.len, r9.len])
          subst eρ
          obtain ⟨us, g1', g2, g3⟩ := got F10 H10 _ r10
          refine ⟨us, g1', ?_, F10, ss9.trans s10, ?_⟩
          · rw [← g3.len, List.length_map, List.length_append]
            have b1 := catN_le (gs := gs) (i := i + 1) (n := ds.length) hlt
            rw [catN, List.length_append, eg] at b1
            have b2 := fm_le (f := fs) (i := j + 1) (n := ds1.length) hjt
            rw [filterMap_succ, ef, List.length_append] at b2
            have b3 : (some pp).toList.length = 1 := rfl
            omega
          · have z := r10.put (i := h1.length) (o := .lst ((catN gs i ++ (List.range j).filterMap fs).map D.p)) (o' := .lst ((catN gs i ++ (List.range (j + 1)).filterMap fs).map D.p)) (by simp) hpl ⟨us ++ [v], rfl, by
              rw [filterMap_succ, ef, ← List.append_assoc, List.map_append]
              exact g3.append (.cons dv .nil)⟩
            rw [List.set_append_right _ _ (Nat.le_refl _), Nat.sub_self] at z
            exact z
        | false =>
          rw [if_neg Bool.false_ne_true] at q9 ⊢
          refine ⟨F9, ss9, ?_⟩
          rw [filterMap_succ, q9]
          simpa using r9
      · have ej : j = ds1.length := by omega
        subst ej
        refine .inl ⟨it1.stop F6 (ρ ++ [p]) _ H6 s6 (Pre.refl _) r6 (hC1 _), F6, ss5.trans s6, ?_⟩
        rw [catN, eg]
        exact r6
    | false =>
      rw [if_neg Bool.false_ne_true] at q4 ⊢
      refine ⟨F4, ss, ?_⟩
      rw [catN, q4, List.append_nil]
      exact r4
  · have ei : i = ds.length := by omega
    subst ei
    refine .inl ⟨it.stop F' (ρ ++ [p]) _ H s (Pre.push _ _) r (hC _), ?_⟩
    obtain ⟨us, g1, g2, g3⟩ := got F' H _ r
    refine fin p F' us H s g2 g1 hp r g3.pure (r.pop r1.len (r1.wish.mono s (Pre.refl _)) fun i o a hi ha u q => ?_)
    obtain ⟨a0, u0, f1, f2, f3, f4⟩ := r1.own i o hi
    exact f4.low q
/-- [.. for .. for ..]: a new list that stays as it is -/
theorem ve_lc2 {wi wi1 : TI} {g g1 : TG} {tt tt1 : TT} {te : TE} {vs vs1 : List Nat} (tg : TgOk g vs) (tg1 : TgOk g1 vs1)
    (q : VI K Θ wi env h fun ds C h1 => ∃ gs : Nat → List P, (catN gs ds.length).length < sizeLine ∧ (∀ acc, C (h1 ++ [some (.lst acc)])) ∧
      (∀ i d acc, ds[i]? = some d → Lc2Turn K Θ g tt wi1 g1 tt1 te vs1 (wipeD env vs) d h1 acc (gs i)) ∧ R (dL (catN gs ds.length)) h1) : VE K Θ (tLc2 wi g tt wi1 g1 tt1 te vs vs1) env h R := fun F ρ σ H Q rl e k =>
  q F ρ σ H _ rl e fun ds C h1 J F1 ρ1 H1 s1 p1 r1 it q1 => by
    obtain ⟨gs, hl, hC, turn, q1⟩ := q1
    refine lc2_run (wi := wi) tg tg1 Q r1 (e.mono s1 p1) it gs hl hC turn fun p F' us H s hn hp hp1 r rp r2 => ?_
    have sn : Same F' (upd F' p (.lst us)) := same_new hn
    refine k _ h1 (.ref p) (upd F' p (.lst us)) ρ1 H (s1.trans (s.trans sn)) p1 ?_ (.p (.lst (.of upd_same) (rp.mono sn))) q1
    have np : ∀ P ∈ Θ.tabs, P ≠ p := fun P hP => by
      obtain ⟨ps, z, _⟩ := (r2.tab P hP).2
      rintro rfl
      rw [hp] at z
      cases z
    refine ⟨⟨fun b o e => ?_, r2.len, fun i o hi => ?_, r2.inj, fun P hP => ⟨by rw [upd_ne (np P hP)]; exact (r2.tab P hP).1, (r2.tab P hP).2⟩⟩, r2.wish.mono sn (Pre.refl _)⟩
    · by_cases hb : b = p
      · subst hb; rw [upd_same] at e; rw [hp]; exact e
      · rw [upd_ne hb] at e; exact r2.same b o e
    · obtain ⟨a, u, f1, f2, f3, f4⟩ := r2.own i o hi
      have ha : a ≠ p := fun z => by
        subst z
        obtain ⟨a0, u0, g1, g2, g3, g4⟩ := r1.own i o hi
        rw [f1] at g1; cases g1
        rw [hp1] at g3; cases g3
      exact ⟨a, u, f1, by rw [upd_ne ha]; exact f2, f3, f4.mono sn (Pre.refl _)⟩
end
end Kb

/-! zip of two sequences; a tuple as a target, K named. -/
namespace Kb
open PySem PySem.Spec PyProof.Rows L2 RZ
section
variable {X : Cx} {K : PySem.W.Frag}
theorem pg_tupK {es : List Expr} {k : Nat} {t : TGs} {n : Nat} {pos : Pos} (hK : X.K = K) (hc : X.calm = true) (h : PGs X es t)
    (hn : (assignEach es X.env).length = n := by rfl) (hst : (assignEach es X.env).findIdx? (·.1) = none := by rfl) : PG X (.Tuple es k pos) (gTup K n t) := hK ▸ pg_tup hc h hn hst
theorem pi_zipK {e e2 : Expr} {ta : TA} {p pos tpos : Pos} {elts : List Expr} {kk : Nat} (hK : X.K = K) (hg : Gl X "zip") (hm : X.mg "zip" = none) (ha : PA X [e, e2] ta)
    (hs : starEach [e, e2] X.env = (false, eval e X.env) :: starEach [e2] X.env := by rfl) (hpl : (backTo pos (starEach [e2] X.env)).any (·.1) = false := by rfl) :
    PI X (.Tuple elts kk tpos) (.Call (.Name "zip" p) [e, e2] [] pos) (iZipA K ta) := hK ▸ pi_zipA hg hm ha hs hpl
end
section
variable {K : PySem.W.Frag} {Θ : Ctx} {env : Env'} {h : Hs}
def zipP (xs ys : List P) : List D := (xs.zip ys).map fun q => dT [q.1, q.2]
theorem zip_get {α β : Type} {xs : List α} {ys : List β} {i : Nat} {q : α × β} (h : (xs.zip ys)[i]? = some q) : xs[i]? = some q.1 ∧ ys[i]? = some q.2 := by
  rw [List.getElem?_zip_eq_some] at h
  exact h
/-- zip of two tuples that stay -/
theorem vi_zipT {ta : TA} {R : List D → (Hs → Prop) → Hs → Prop} (q : VA K Θ ta env h fun vs h1 => ∃ xs ys, vs = [dT xs, dT ys] ∧ R (zipP xs ys) (fun _ => True) h1) : VI K Θ (iZipA K ta) env h R := fun F ρ σ H Q rl e k =>
  q F ρ σ H _ rl e fun vs h1 us F1 ρ1 H1 s1 p1 r1 dus q1 => by
    obtain ⟨xs, ys, rfl, q1⟩ := q1
    cases dus with
    | cons dx du =>
    cases du with
    | cons dy dz =>
    cases dz
    cases dx with
    | p dx =>
    cases dy with
    | p dy =>
    cases dx with
    | @tup a _ us ha ru =>
    cases dy with
    | @tup b _ ws hb rw' =>
    have hz : (zipP xs ys).length = min us.length ws.length := by
      unfold zipP
      rw [List.length_map, List.length_zip, ru.len, rw'.len]
    refine ⟨a, b, us, ws, rfl, .inr ⟨sqT_mono r1.same ha, sqT_mono r1.same hb, k (zipP xs ys) (fun _ => True) h1 _ F1 ρ1 H1 s1 p1 r1 ⟨fun F' ρ' h' H' s p r _ => ?_, fun i F' ρ' h' H' s p r _ hi => ?_, fun i d F' ρ' h' H' x H2 s p r _ hd hy => ?_⟩ q1⟩⟩
    · refine ⟨us, ws, sqT_mono r.same (sqU_mono s ha), sqT_mono r.same (sqU_mono s hb), ?_⟩
      rw [hz]
      omega
    · rw [hz] at hi
      exact ⟨us, ws, us[i]'(by omega), ws[i]'(by omega), sqT_mono r.same (sqU_mono s ha), sqT_mono r.same (sqU_mono s hb), List.getElem?_eq_getElem _, List.getElem?_eq_getElem _⟩
    · obtain ⟨T, x1, y1, rfl, hT, rfl, gx, gy⟩ := hy
      unfold zipP at hd
      rw [List.getElem?_map] at hd
      cases hq : (xs.zip ys)[i]? with
      | none => rw [hq] at hd; cases hd
      | some q =>
        rw [hq] at hd; cases hd
        obtain ⟨e1, e2⟩ := zip_get hq
        obtain ⟨v1, f1, g1⟩ := ru.get e1
        obtain ⟨v2, f2, g2⟩ := rw'.get e2
        have z1 := gx us (sqT_mono r.same (sqU_mono s ha))
        have z2 := gy ws (sqT_mono r.same (sqU_mono s hb))
        rw [f1] at z1; cases z1
        rw [f2] at z2; cases z2
        have sn := same_new (o := .tup [x1, y1]) (r.free hT)
        exact ⟨upd F' T (.tup [x1, y1]), sn, r.frz hT, .p (.tup (.of upd_same) (.cons ((g1.mono s).mono sn) (.cons ((g2.mono s).mono sn) .nil)))⟩
end
end Kb

/-! xs[i] op= e; comprehensions whose turns change what is owned; more operators. -/
namespace Kb
open PySem PySem.Spec PyProof.Rows L2
section
variable {X : Cx}
theorem pget_list : PGet X (rIxL X.K) := by
  intro pins s σ H o i ov iv Q I ro ri h
  obtain ⟨p, xs, i, z, rfl, rfl, hq, he, q⟩ := h
  cases ro
  obtain ⟨t, rfl⟩ := ri
  obtain ⟨its, r, pl, hz⟩ := I.list hq
  obtain ⟨j, h1, h2, h3, h4, h5⟩ := atI_get he
  obtain ⟨w, ew, rw'⟩ := r.get h2
  have hl := r.length
  have hn := line63
  have fin : EP X pins σ Q w s := ⟨z, H, I, rw', q⟩
  by_cases h0 : 0 ≤ i
  · have hj : i.toNat = j := by
      rw [seqIndex_of h0 h5] at h1
      exact Option.some.inj h1
    exact wpAny_getItem_list pl.isList h0 (by omega) (by rw [hj]; simpa using ew) fin
  · have hj : (i + (its.toArray.size : Int)).toNat = j := by
      rw [seqIndex_neg (by omega) h4] at h1
      rw [List.size_toArray, ← hl]
      exact Option.some.inj h1
    exact wpAny_getItem_list_neg pl.isList (by omega) (by rw [List.size_toArray] <;> omega) (by omega) (by rw [hj]; simpa using ew) fin
theorem pget_listK {K : PySem.W.Frag} (hK : X.K = K) : PGet X (rIxL K) := hK ▸ pget_list
end
section
variable {K : PySem.W.Frag} {Θ : Ctx} {env : Env'} {h : Hs} {R : D → Hs → Prop} {E : En}
/-- xs[i] op= e, the list owned; e changes nothing -/
theorem vs_augS {to ti te : TE} {tip : TIp} (q : VE K Θ to env h fun o h1 => VE K Θ ti env h1 fun i h2 => ∃ n z xs j d0, o = .own n ∧ i = dI z ∧ h2[n]? = some (some (.lst xs)) ∧ ixN xs.length z = some j ∧ xs[j]? = some d0 ∧
    VE K Θ te env h2 fun y h3 => h3 = h2 ∧ V2 K Θ tip d0 y h3 fun w h4 => h4 = h3 ∧ E.nx env (h4.set n (some (.lst (xs.set j w))))) : VS K Θ (tAugS to ti te (rIxL K) tip rSetL) E env h := fun F ρ σ H D' rl e k =>
  q F ρ σ H _ rl e fun o h1 vo F1 ρ1 H1 s1 p1 r1 dlo q1 => q1 F1 ρ1 σ H1 _ r1 (e.mono s1 p1) fun i h2 vi F2 ρ2 H2 s2 p2 r2 di q2 => by
    obtain ⟨n, z, xs, j, d0, rfl, rfl, hx, hj, hd, q2⟩ := q2
    obtain rfl := di.int
    cases dlo with
    | own ho =>
      have ho' := p2 _ _ ho
      obtain ⟨a, u, e1, e2, e3, vs, e4, e5⟩ := r2.own _ _ hx
      rw [ho'] at e1; cases e1
      subst e4
      have hat : atI xs z = some d0 := by unfold atI; rw [hj]; exact hd
      obtain ⟨v0, g1, g2⟩ := e5.at_ hat
      refine ⟨_, vs, z, v0, rfl, rfl, .of e3, g1, ?_⟩
      refine q2 F2 ρ2 σ H2 _ r2 (e.mono (s1.trans s2) (p1.trans p2)) fun y h3 vy F3 ρ3 H3 s3 p3 r3 dy q3 => ?_
      obtain ⟨rfl, q3⟩ := q3
      refine q3 F3 ρ3 H3 v0 vy _ r3 (g2.mono s3 p3) dy fun w h4 vw F4 ρ4 H4 s4 p4 r4 dw q4 => ?_
      obtain ⟨rfl, q4⟩ := q4
      have ho4 := p4 _ _ (p3 _ _ ho')
      obtain ⟨a4, u4, f1, f2, f3, vs4, f4, f5⟩ := r4.own _ _ hx
      rw [ho4] at f1; cases f1
      subst f4
      refine ⟨_, vs4, z, j, rfl, rfl, f3, by rw [← f5.len]; exact hj, ?_⟩
      exact k.nx env _ F4 ρ4 σ _ (s1.trans (s2.trans (s3.trans s4))) (p1.trans (p2.trans (p3.trans p4))) (r4.put (o' := .lst (xs.set j w)) hx ho4 ⟨_, rfl, f5.set dw j⟩) (e.mono (s1.trans (s2.trans (s3.trans s4))) (p1.trans (p2.trans (p3.trans p4)))) q4
/-! ### what is owned names only what is older -/
def lowD (n : Nat) : D → Prop
  | .p _ => True
  | .own i => i < n
def lowO (n : Nat) : OO → Prop
  | .lst xs => ∀ x ∈ xs, lowD n x
  | .ins _ fs => ∀ q ∈ fs, lowD n q.2
  | .dK kvs => ∀ q ∈ kvs, lowD n q.2
  | .dT kvs => ∀ q ∈ kvs, lowD n q.2
/-- what stands there was there, or names only what is older -/
def lowH (h1 h : Hs) : Prop := ∀ (i : Nat) (o : OO), h[i]? = some (some o) → h1[i]? = some (some o) ∨ lowO h1.length o
theorem lowH.refl (h : Hs) : lowH h h := fun _ _ e => .inl e
theorem lowH.set {h1 h : Hs} {n : Nat} {o : OO} (l : lowH h1 h) (lo : lowO h1.length o) : lowH h1 (h.set n (some o)) := fun i u e => by
  by_cases hi : n = i
  · subst hi
    have hl : n < h.length := by
      have := (List.getElem?_eq_some_iff.mp e).1
      rwa [List.length_set] at this
    rw [List.getElem?_set_self hl] at e
    cases e
    exact .inr lo
  · rw [List.getElem?_set_ne hi] at e
    exact l i u e
theorem RD.low {F : Hp} {ρ : List Addr} {p : Addr} {d : D} {v : V} (l : lowD ρ.length d) (b : RD K F (ρ ++ [p]) d v) : RD K F ρ d v := by
  cases b with
  | p b => exact .p b
  | own b =>
    have hl : _ < ρ.length := l
    rw [List.getElem?_append_left hl] at b
    exact .own b
theorem RA.low' {F : Hp} {ρ : List Addr} {p : Addr} {ds : List D} {vs : List V} (b : RA K F (ρ ++ [p]) ds vs) : (∀ x ∈ ds, lowD ρ.length x) → RA K F ρ ds vs := by
  induction b with
  | nil => exact fun _ => .nil
  | cons b _ ih => exact fun l => .cons (b.low (l _ List.mem_cons_self)) (ih fun x hx => l x (List.mem_cons_of_mem _ hx))
theorem RF.low' {F : Hp} {ρ : List Addr} {p : Addr} {ds : List (Str × D)} {vs : List (Str × V)} (b : RF K F (ρ ++ [p]) ds vs) : (∀ x ∈ ds, lowD ρ.length x.2) → RF K F ρ ds vs := by
  induction b with
  | nil => exact fun _ => .nil
  | cons b _ ih => exact fun l => .cons (b.low (l _ List.mem_cons_self)) (ih fun x hx => l x (List.mem_cons_of_mem _ hx))
theorem RK.low' {κ : Type} {F : Hp} {ρ : List Addr} {p : Addr} {ds : List (κ × D)} {vs : List (κ × V)} (b : RK K F (ρ ++ [p]) ds vs) : (∀ x ∈ ds, lowD ρ.length x.2) → RK K F ρ ds vs := by
  induction b with
  | nil => exact fun _ => .nil
  | cons b _ ih => exact fun l => .cons (b.low (l _ List.mem_cons_self)) (ih fun x hx => l x (List.mem_cons_of_mem _ hx))
theorem RO.low' {F : Hp} {ρ : List Addr} {p : Addr} {o : OO} {u : HO} (l : lowO ρ.length o) (b : RO K F (ρ ++ [p]) o u) : RO K F ρ o u := by
  cases o with
  | lst xs =>
    obtain ⟨vs, e, r⟩ := b
    exact ⟨vs, e, r.low' l⟩
  | ins C fs =>
    obtain ⟨dx, gs, e, r⟩ := b
    exact ⟨dx, gs, e, r.low' l⟩
  | dK kvs =>
    obtain ⟨gs, e, r⟩ := b
    exact ⟨gs, e, r.low' l⟩
  | dT kvs =>
    obtain ⟨gs, e, r⟩ := b
    exact ⟨gs, e, r.low' l⟩
abbrev accO (acc : List P) : Option OO := some (.lst (acc.map D.p))
theorem lcI_run {wi : TI} {g : TG} {tt : TT} {te : TE} {vs : List Nat} (tg : TgOk g vs) {F : Hp} {ρ : List Addr} {σ : L2.St} {H1 : Hp} {ds : List D} {C : Hs → Prop} {h1 : Hs} {J : It} (Q : VK) (Inv : Nat → List P → Hs → Prop)
    (r1 : Rel K Θ F ρ h1 H1) (e : REnv K F ρ env σ) (it : ItOk K Θ F ρ C ds J) (hl : ds.length < sizeLine) (i0 : Inv 0 [] h1)
    (hI : ∀ i acc h', Inv i acc h' → h'.length = h1.length ∧ lowH h1 h' ∧ C (h' ++ [accO acc]))
    (turn : ∀ i d acc h', ds[i]? = some d → Inv i acc h' → VG K Θ g d (wipeD env vs) (h' ++ [accO acc]) fun env' h2 => VT K Θ tt env' h2 fun b h3 => if b = true then VE K Θ te env' h3 (fun y h4 => ∃ p h5, y = .p p ∧ h4 = h5 ++ [accO acc] ∧ Inv (i + 1) (acc ++ [p]) h5) else ∃ h5, h3 = h5 ++ [accO acc] ∧ Inv (i + 1) acc h5)
    (fin : ∀ (p : Addr) (F' : Hp) (us : List V) (H : Hp) (acc : List P) (h' : Hs), Same F F' → F' p = none → H p = some (.lst us) → H1 p = none → Inv ds.length acc h' → Rel K Θ F' (ρ ++ [p]) (h' ++ [accO acc]) H → RPs K F' acc us → Rel K Θ F' ρ h' H → Q (.ref p) H) :
    ∀ D, H1 D = none → ∃ W : Nat → Nat → Hp → Prop, (∃ m, W 0 m (upd H1 D (.lst []))) ∧ ∀ i m H, W i m H → (J.stop i H ∧ Q (.ref D) H) ∨
      (J.go i H ∧ ∃ Nx : Hp → Prop, (∀ H', Nx H' → ∃ m', m' < m ∧ W (i + 1) m' H') ∧ ∀ x H', J.yld i H x H' → g x (wipe σ vs) H' fun σ2 H2 => wipe σ2 vs = wipe σ vs ∧ tt σ2 H2 fun b H3 => if b = true then te σ2 H3 fun y H4 => ∃ acc, H4 D = some (.lst acc) ∧ acc.length < sizeLine ∧ Nx (upd H4 D (.lst (acc ++ [y]))) else Nx H3) := by
  intro p hp
  refine ⟨fun i m H => m = ds.length - i ∧ i ≤ ds.length ∧ ∃ F' acc h', Same F F' ∧ acc.length ≤ i ∧ Inv i acc h' ∧ Rel K Θ F' (ρ ++ [p]) (h' ++ [accO acc]) H, ⟨ds.length, by simp, Nat.zero_le _, F, [], h1, Same.refl _, Nat.le_refl _, i0, r1.push (o := .lst []) hp ⟨[], rfl, .nil⟩⟩, ?_⟩
  rintro i m H ⟨rfl, hi, F', acc, h', s, hacc, iv, r⟩
  obtain ⟨hlen, hlow, hC⟩ := hI i acc h' iv
  have hpl : (ρ ++ [p])[h1.length]? = some p := by rw [← r1.len]; simp
  have got : ∀ (F' : Hp) (H : Hp) (h' : Hs) (xs : List P), h'.length = h1.length → Rel K Θ F' (ρ ++ [p]) (h' ++ [accO xs]) H → ∃ us, H p = some (.lst us) ∧ F' p = none ∧ RPs K F' xs us := fun F' H h' xs el r => by
    obtain ⟨a, u, e1, e2, e3, us, e4, e5⟩ := r.own h1.length (.lst (xs.map D.p)) (by rw [← el]; simp)
    rw [hpl] at e1; cases e1
    subst e4
    exact ⟨us, e3, e2, e5.pure⟩
  by_cases hlt : i < ds.length
  · refine .inr ⟨it.go i F' (ρ ++ [p]) _ H s (Pre.push _ _) r hC hlt, fun H' => ∃ F2 acc2 h2, Same F F2 ∧ acc2.length ≤ i + 1 ∧ Inv (i + 1) acc2 h2 ∧ Rel K Θ F2 (ρ ++ [p]) (h2 ++ [accO acc2]) H', fun H' ⟨F2, acc2, h2, s2, l2, iv2, r2⟩ => ⟨ds.length - (i + 1), by omega, rfl, hlt, F2, acc2, h2, s2, l2, iv2, r2⟩, fun x H' hy => ?_⟩
    have hd : ds[i]? = some ds[i] := List.getElem?_eq_getElem hlt
    obtain ⟨F2, s2, r2, dx⟩ := it.yld i _ F' (ρ ++ [p]) _ H x H' s (Pre.push _ _) r hC hd hy
    refine tg x σ H' _ ?_
    refine turn i _ acc h' hd iv F2 (ρ ++ [p]) (wipe σ vs) H' x _ r2 ((e.mono (s.trans s2) (Pre.push _ _)).wipes vs) dx fun env3 h3 F3 ρ3 σ3 H3 s3 p3 r3 e3 q3 => ?_
    refine q3 F3 _ σ3 H3 _ r3 e3 fun b h4 F4 ρ4 H4 s4 p4 r4 q4 => ?_
    have ss : Same F F4 := s.trans (s2.trans (s3.trans s4))
    cases b with
    | true =>
      rw [if_pos rfl] at q4 ⊢
      refine q4 F4 _ σ3 H4 _ r4 (e3.mono s4 p4) fun y h5 v F5 ρ5 H5 s5 p5 r5 dv q5 => ?_
      obtain ⟨pp, h6, rfl, rfl, iv6⟩ := q5
      obtain ⟨hlen6, hlow6, hC6⟩ := hI _ _ _ iv6
      have eρ : ρ5 = ρ ++ [p] := pre_eq (p3.trans (p4.trans p5)) (by rw [r5.len, List.length_append, List.length_append, hlen6, r1.len]; rfl)
      subst eρ
      obtain ⟨us, g1, g2, g3⟩ := got F5 H5 h6 _ hlen6 r5
      refine ⟨us, g1, ?_, F5, acc ++ [pp], h6, ss.trans s5, ?_, iv6, ?_⟩
      · rw [← g3.len]; omega
      · rw [List.length_append]; exact Nat.succ_le_succ hacc
      · have z := r5.put (i := h1.length) (o := .lst (acc.map D.p)) (o' := .lst ((acc ++ [pp]).map D.p)) (by rw [← hlen6]; simp) hpl ⟨us ++ [v], rfl, by
          rw [List.map_append]
          exact g3.data.append (.cons dv .nil)⟩
        rw [← hlen6, List.set_append_right _ _ (Nat.le_refl _), Nat.sub_self] at z
        exact z
    | false =>
      rw [if_neg Bool.false_ne_true] at q4 ⊢
      obtain ⟨h6, rfl, iv6⟩ := q4
      obtain ⟨hlen6, hlow6, hC6⟩ := hI _ _ _ iv6
      have eρ : ρ4 = ρ ++ [p] := pre_eq (p3.trans p4) (by rw [r4.len, List.length_append, List.length_append, hlen6, r1.len]; rfl)
      subst eρ
      exact ⟨F4, acc, h6, ss, Nat.le_succ_of_le hacc, iv6, r4⟩
  · have ei : i = ds.length := by omega
    subst ei
    refine .inl ⟨it.stop F' (ρ ++ [p]) _ H s (Pre.push _ _) r hC, ?_⟩
    obtain ⟨us, g1, g2, g3⟩ := got F' H h' _ hlen r
    refine fin p F' us H acc h' s g2 g1 hp iv r g3 (r.pop (by rw [r1.len, hlen]) (r1.wish.mono s (Pre.refl _)) fun i o a hi ha u q => ?_)
    rcases hlow i o hi with z | z
    · obtain ⟨a0, u0, f1, f2, f3, f4⟩ := r1.own i o z
      exact f4.low q
    · exact q.low' (by rw [r1.len]; exact z)
/-- [..]: a new list that stays; the turns may change what is owned -/
theorem ve_lcI {wi : TI} {g : TG} {tt : TT} {te : TE} {vs : List Nat} (tg : TgOk g vs)
    (q : VI K Θ wi env h fun ds C h1 => ∃ Inv : Nat → List P → Hs → Prop, ds.length < sizeLine ∧ Inv 0 [] h1 ∧ (∀ i acc h', Inv i acc h' → h'.length = h1.length ∧ lowH h1 h' ∧ C (h' ++ [accO acc])) ∧
      (∀ i d acc h', ds[i]? = some d → Inv i acc h' → VG K Θ g d (wipeD env vs) (h' ++ [accO acc]) fun env' h2 => VT K Θ tt env' h2 fun b h3 => if b = true then VE K Θ te env' h3 (fun y h4 => ∃ p h5, y = .p p ∧ h4 = h5 ++ [accO acc] ∧ Inv (i + 1) (acc ++ [p]) h5) else ∃ h5, h3 = h5 ++ [accO acc] ∧ Inv (i + 1) acc h5) ∧
      (∀ acc h', Inv ds.length acc h' → R (dL acc) h')) : VE K Θ (tLc wi g tt te vs) env h R := fun F ρ σ H Q rl e k =>
  q F ρ σ H _ rl e fun ds C h1 J F1 ρ1 H1 s1 p1 r1 it q1 => by
    obtain ⟨Inv, hl, i0, hI, turn, q1⟩ := q1
    refine lcI_run (wi := wi) tg Q Inv r1 (e.mono s1 p1) it hl i0 hI turn fun p F' us H acc h' s hn hp hp1 iv r rp r2 => ?_
    have sn : Same F' (upd F' p (.lst us)) := same_new hn
    refine k _ h' (.ref p) (upd F' p (.lst us)) ρ1 H (s1.trans (s.trans sn)) p1 ?_ (.p (.lst (.of upd_same) (rp.mono sn))) (q1 acc h' iv)
    have np : ∀ P ∈ Θ.tabs, P ≠ p := fun P hP => by
      obtain ⟨ps, z, _⟩ := (r2.tab P hP).2
      rintro rfl
      rw [hp] at z
      cases z
    obtain ⟨hlen, hlow, _⟩ := hI _ _ _ iv
    refine ⟨⟨fun b o e => ?_, r2.len, fun i o hi => ?_, r2.inj, fun P hP => ⟨by rw [upd_ne (np P hP)]; exact (r2.tab P hP).1, (r2.tab P hP).2⟩⟩, r2.wish.mono sn (Pre.refl _)⟩
    · by_cases hb : b = p
      · subst hb; rw [upd_same] at e; rw [hp]; exact e
      · rw [upd_ne hb] at e; exact r2.same b o e
    · obtain ⟨a, u, f1, f2, f3, f4⟩ := r2.own i o hi
      have hil : i < h'.length := (List.getElem?_eq_some_iff.mp hi).1
      have ha : a ≠ p := fun z => by
        subst z
        have n1 : (h' ++ [accO acc])[i]? = some (some o) := by rw [List.getElem?_append_left hil]; exact hi
        have n2 : (h' ++ [accO acc])[h'.length]? = some (accO acc) := by simp
        have a1 : (ρ1 ++ [a])[i]? = some a := by rw [List.getElem?_append_left (by rw [r2.len]; exact hil)]; exact f1
        have a2 : (ρ1 ++ [a])[h'.length]? = some a := by rw [← r2.len]; simp
        exact absurd (r.inj i h'.length _ _ a n1 n2 a1 a2) (by omega)
      exact ⟨a, u, f1, by rw [upd_ne ha]; exact f2, f3, f4.mono sn (Pre.refl _)⟩
end
end Kb

/-! `is` a truth; lists that stay, joined; texts: times, join; `in` a list of texts; great divisors. -/
namespace Kb
open PySem PySem.Spec PyProof.Rows L2
section
variable {X : Cx}
def rIsBl : R2 := fun x y H Q => ∃ b : Bool, y = .bl b ∧ (∀ a, x ≠ .ref a) ∧ Q (.bl (decide (x = .bl b))) H
theorem op_isBlAny : OpR X (compareOp .Is) rIsBl := by
  intro pins s σ H x y v u Q I rx ry h
  obtain ⟨b, rfl, nr, q⟩ := h
  cases (show u = Value.bool b from ry)
  by_cases e : x = .bl b
  · subst e
    cases (show v = Value.bool b from rx)
    exact wpAny_is_self rfl ⟨.bl true, H, I, rfl, by simpa using q⟩
  · have qn : EP X pins σ Q (.bool false) s := ⟨.bl false, H, I, rfl, by simpa [e] using q⟩
    cases x with
    | non => cases rx; exact wpAny_is_other rfl (by intro z; cases z) qn
    | bl c => cases (show v = Value.bool c from rx); exact wpAny_is_other rfl (fun z => e (by rw [Value.bool.inj z])) qn
    | int i => obtain ⟨t, rfl⟩ := rx; exact wpAny_is_other rfl (by intro z; cases z) qn
    | str i => obtain ⟨t, rfl⟩ := rx; exact wpAny_is_other rfl (by intro z; cases z) qn
    | byt i => obtain ⟨t, rfl⟩ := rx; exact wpAny_is_other rfl (by intro z; cases z) qn
    | flt i => obtain ⟨t, rfl⟩ := rx; exact wpAny_is_other rfl (by intro z; cases z) qn
    | ref a => exact absurd rfl (nr a)
    | ty n => cases rx; exact wpAny_is_other rfl (by intro z; cases z) qn
def rIsNG : R2 := fun x y H Q => y = V.non ∧ Q (.bl (decide (x = .non))) H
/-- x is None, x is True, x is False -/
def rIsU : R2 := fun x y H Q => rIsNG x y H Q ∨ rIsBl x y H Q
theorem op_isU : OpR X (compareOp .Is) rIsU := OpR.or (r := rIsNG) op_isN op_isBlAny
/-- lists that stay, one behind the other: a new list -/
def rCatL (K : PySem.W.Frag) : R2 := fun x y H Q => ∃ l b xs zs, x = .ref l ∧ y = .ref b ∧ SqL K H l xs ∧ SqL K H b zs ∧ xs.length + zs.length ≤ sizeLine ∧ ∀ p, H p = none → Q (.ref p) (upd H p (.lst (xs ++ zs)))
theorem op_catL : OpR X (binaryOp .Add) (rCatL X.K) := by
  intro pins s σ H x y v u Q I rx ry h
  obtain ⟨l, b, xs, zs, rfl, rfl, hH, hB, hz, q⟩ := h
  cases rx
  cases ry
  obtain ⟨its, r, pl, _⟩ := I.list hH
  obtain ⟨its2, r2, pl2, _⟩ := I.list hB
  obtain ⟨⟨cls, dd, data, sl⟩, ho, hc, n, hd⟩ := pl.isList
  obtain ⟨⟨cls2, dd2, data2, sl2⟩, ho2, hc2, n2, hd2⟩ := pl2.isList
  simp only at hc hd hc2 hd2
  subst hc hd hc2 hd2
  have e : its.toArray ++ its2.toArray = (its ++ its2).toArray := by simp
  refine concat_meets ⟨_, ho, rfl⟩ ⟨_, ho2, rfl⟩ noFill_list_add seq_list_add PySem.F.slot_list_add PySem.F.entry_list_add (PySem.F.args_list_add_2 _ _) (list_addW l b its.toArray its2.toArray n n2 dd dd2 sl sl2 (by simp only [List.size_toArray]; rw [← r.length, ← r2.length]; exact hz)) ⟨ho, ho2, ?_⟩
  rw [e]
  exact ⟨.ref _, _, I.lnew (t' := s.toks) (r.append r2) (by rw [List.length_append]; exact hz), rfl, q _ I.fresh⟩
def rAddV (K : PySem.W.Frag) : R2 := fun x y H Q => rAddI x y H Q ∨ (rAddS' x y H Q ∨ (rCatT K x y H Q ∨ rCatL K x y H Q))
theorem op_addV : OpR X (binaryOp .Add) (rAddV X.K) := OpR.or (r := rAddI) op_add (OpR.or (r := rAddS') op_add_str (op_catT.or op_catL))
theorem op_addVK {K : PySem.W.Frag} (hK : X.K = K) : OpR X (binaryOp .Add) (rAddV K) := hK ▸ op_addV
/-- so many times the text -/
def repS (x : Str) (n : Int) : Str := ⟨(List.replicate n.toNat x.cps).foldl (· ++ ·) #[]⟩
theorem repS_cps (x : Str) (n : Int) : (repS x n).cps.toList = (List.replicate n.toNat x.cps.toList).flatten := by
  unfold repS
  have g : ∀ (k : Nat) (a : Array Nat), ((List.replicate k x.cps).foldl (· ++ ·) a).toList = a.toList ++ (List.replicate k x.cps.toList).flatten := by
    intro k
    induction k with
    | zero => intro a; simp
    | succ k ih => intro a; rw [List.replicate_succ, List.foldl_cons, ih]; simp [List.replicate_succ]
  rw [g]
  simp
theorem repS_len (x : Str) (n : Int) : (repS x n).length = n.toNat * x.length := by
  show (repS x n).cps.size = _
  rw [← Array.length_toList, repS_cps]
  simp [Str.length]
def rMulS : R2 := fun x y H Q => ∃ i j, x = .str i ∧ y = .int j ∧ -(2 ^ 20) ≤ j ∧ j < 2 ^ 20 ∧ i.length ≤ 2 ^ 20 ∧ i.length * j.toNat ≤ sizeLine ∧ Q (.str (repS i j)) H
theorem op_mulS : OpR X (binaryOp .Mult) rMulS := by
  intro pins s σ H x y v u Q I rx ry h
  obtain ⟨i, j, rfl, rfl, h1, h2, h3, h4, q⟩ := h
  obtain ⟨t, rfl⟩ := rx
  obtain ⟨t', rfl⟩ := ry
  refine PySem.P.mul_str ?_ (fun hn _ => ?_) (fun hn _ => ?_) ?_
  · rw [decide_eq_false (by omega), decide_eq_false (by omega)]; rfl
  · intro hgt
    have hj : 0 < j := by omega
    have z : (i.length : Int) * j ≤ 2 ^ 63 - 1 := by
      have : (i.length : Int) * j ≤ 2 ^ 20 * 2 ^ 20 := Int.mul_le_mul (by omega) (by omega) (by omega) (by omega)
      omega
    have := (Int.le_ediv_iff_mul_le hj).mpr z
    omega
  · unfold Builtin.Str.tooLong
    exact decide_eq_false (by have e := sizeLine_eq; omega)
  · have fs : ∀ (m : Str), m = repS i j → EP X pins σ Q (.str m s.toks) { s with toks := s.toks + 1 } := fun m e => by
      subst e
      exact ⟨.str _, H, I.tok _, ⟨_, rfl⟩, q⟩
    by_cases hn : j < 1
    · rw [if_pos hn]
      refine ⟨by decide, fs _ ?_⟩
      have : j.toNat = 0 := by omega
      unfold repS
      rw [this]
      rfl
    · rw [if_neg hn]
      by_cases h1 : (j == 1 || i.length == 0) = true
      · rw [if_pos h1]
        refine ⟨.str i, H, I, ⟨_, rfl⟩, ?_⟩
        have e : repS i j = i := by
          have e0 : (repS i j).cps.toList = i.cps.toList := by
            rw [repS_cps]
            rcases Bool.or_eq_true_iff.mp h1 with z | z
            · have : j = 1 := by simpa using z
              subst this
              simp
            · have hz : i.cps.toList = [] := by
                have : i.cps.size = 0 := by simpa [Str.length] using z
                rw [← List.length_eq_zero_iff, Array.length_toList]; exact this
              rw [hz]
              simp
          have hc := Array.toList_inj.mp e0
          cases hr : repS i j
          cases i
          rw [hr] at hc
          simpa using hc
        rw [← e]; exact q
      · rw [if_neg h1]
        refine ⟨?_, fs _ rfl⟩
        show (repS i j).length ≤ _
        rw [repS_len, Nat.mul_comm]
        exact h4
def rMulI : R2 := rI CMulX fun i j => .int (i * j)
def rMulU : R2 := fun x y H Q => rMulI x y H Q ∨ rMulS x y H Q
theorem op_mulU : OpR X (binaryOp .Mult) rMulU := OpR.or (r := rMulI) op_mulX op_mulS
/-- < of truths, of numbers, of texts -/
def b2n (b : Bool) : Int := if b then 1 else 0
def rLtB : R2 := fun x y H Q => ∃ i j, x = .bl i ∧ y = .bl j ∧ Q (.bl (decide (b2n i < b2n j))) H
theorem op_ltB : OpR X (compareOp .Lt) rLtB := by
  intro pins s σ H x y v u Q I rx ry h
  obtain ⟨i, j, rfl, rfl, q⟩ := h
  cases (show v = Value.bool i from rx)
  cases (show u = Value.bool j from ry)
  exact PyProof.Rows.lt_bool ⟨.bl _, H, I, rfl, by cases i <;> cases j <;> exact q⟩
def rLtI : R2 := rI0 fun i j => .bl (decide (i < j))
def rLtS : R2 := fun x y H Q => ∃ i j, x = .str i ∧ y = .str j ∧ Q (.bl (decide (i.cps.toList < j.cps.toList))) H
def rLtG : R2 := fun x y H Q => rLtI x y H Q ∨ (rLtB x y H Q ∨ rLtS x y H Q)
theorem op_ltG : OpR X (compareOp .Lt) rLtG := OpR.or (r := rLtI) op_lt (OpR.or (r := rLtB) op_ltB op_lt_str)
end
section
variable {K : PySem.W.Frag} {Θ : Ctx} {env : Env'} {h : Hs} {R : D → Hs → Prop} {x y : D}
/-- is it this truth -/
def isBlD (b : Bool) : D → Bool
  | .p (.bl c) => decide (c = b)
  | _ => false
/-- no thing of the heap -/
def flatD : D → Bool
  | .p .non => true
  | .p (.bl _) => true
  | .p (.int _) => true
  | .p (.str _) => true
  | _ => false
theorem v2_isNU (q : R (dB (isNonD x)) h) : V2 K Θ rIsU x dN h R := v2_or1 (v2_isN q)
theorem v2_isBl {b : Bool} (hx : flatD x = true) (q : R (dB (isBlD b x)) h) : V2 K Θ rIsU x (dB b) h R := v2_or2 fun F ρ H vx vy Q rl a c k => by
  obtain rfl := c.bl
  have kk := k _ h _ F ρ H (Same.refl _) (Pre.refl _) rl (.p (.bl _)) q
  cases a with
  | own _ => cases hx
  | p a =>
    cases a with
    | non => exact ⟨b, rfl, (fun _ z => by cases z), kk⟩
    | bl c =>
      refine ⟨b, rfl, (fun _ z => by cases z), ?_⟩
      have e : decide (V.bl c = V.bl b) = decide (c = b) := decide_eq_decide.mpr ⟨V.bl.inj, congrArg V.bl⟩
      rw [e]
      exact kk
    | int c => exact ⟨b, rfl, (fun _ z => by cases z), kk⟩
    | str c => exact ⟨b, rfl, (fun _ z => by cases z), kk⟩
    | tup _ _ => cases hx
    | ktp _ _ => cases hx
    | lst _ _ => cases hx
    | ins _ _ => cases hx
    | ty _ => cases hx
    | cls _ => cases hx
theorem v2_addVI {i j : Int} (q : R (dI (i + j)) h) : V2 K Θ (rAddV K) (dI i) (dI j) h R := v2_or1 (v2_I0 q)
theorem v2_addVS {i j : Str} (hl : i.length + j.length ≤ sizeLine) (q : R (dS (i ++ j)) h) : V2 K Θ (rAddV K) (dS i) (dS j) h R := v2_or2 (v2_or1 fun F ρ H vx vy Q rl a b k => by
  obtain rfl := a.str
  obtain rfl := b.str
  exact ⟨i, j, rfl, rfl, hl, k _ h _ F ρ H (Same.refl _) (Pre.refl _) rl (.p (.str _)) q⟩)
theorem v2_addVL {i j : List P} (hl : i.length + j.length ≤ sizeLine) (q : R (dL (i ++ j)) h) : V2 K Θ (rAddV K) (dL i) (dL j) h R := v2_or2 (v2_or2 (v2_or2 fun F ρ H vx vy Q rl a b k => by
  cases a with
  | p a =>
    cases b with
    | p b =>
      cases a with
      | lst a1 a2 =>
        cases b with
        | lst b1 b2 =>
          refine ⟨_, _, _, _, rfl, rfl, rl.same.seq a1, rl.same.seq b1, by rw [← a2.len, ← b2.len]; exact hl, fun p hp => ?_⟩
          have sn := fun o => same_new (o := o) (rl.free hp)
          exact k _ h _ _ ρ _ (sn _) (Pre.refl _) (rl.frz hp) (.p (.lst (.of upd_same) ((a2.append b2).mono (sn _)))) q))
theorem v2_addVT {i j : List P} (hn : i ≠ []) (hl : i.length + j.length ≤ sizeLine) (q : R (dT (i ++ j)) h) : V2 K Θ (rAddV K) (dT i) (dT j) h R := v2_or2 (v2_or2 (v2_or1 fun F ρ H vx vy Q rl a b k => by
  cases a with
  | p a =>
    cases b with
    | p b =>
      cases a with
      | tup a1 a2 =>
        cases b with
        | tup b1 b2 =>
          refine ⟨_, _, _, _, rfl, rfl, sqT_mono rl.same a1, sqT_mono rl.same b1, fun z => ?_, by rw [← a2.len, ← b2.len]; exact hl, fun z => ?_, fun z p hp => ?_⟩
          · subst z; cases a2; exact hn rfl
          · subst z; cases b2
            rw [List.append_nil] at q
            exact k _ h _ F ρ H (Same.refl _) (Pre.refl _) rl (.p (.tup a1 a2)) q
          · have sn := fun o => same_new (o := o) (rl.free hp)
            exact k _ h _ _ ρ _ (sn _) (Pre.refl _) (rl.frz hp) (.p (.tup (.of upd_same) ((a2.append b2).mono (sn _)))) q))
theorem v2_mulU {i j : Int} (c : CMulX i j) (q : R (dI (i * j)) h) : V2 K Θ rMulU (dI i) (dI j) h R := v2_or1 (v2_mul c q)
theorem v2_mulS {i : Str} {j : Int} (h1 : -(2 ^ 20) ≤ j ∧ j < 2 ^ 20) (h2 : i.length ≤ 2 ^ 20) (h3 : i.length * j.toNat ≤ sizeLine) (q : R (dS (repS i j)) h) : V2 K Θ rMulU (dS i) (dI j) h R := v2_or2 fun F ρ H vx vy Q rl a b k => by
  obtain rfl := a.str
  obtain rfl := b.int
  exact ⟨i, j, rfl, rfl, h1.1, h1.2, h2, h3, k _ h _ F ρ H (Same.refl _) (Pre.refl _) rl (.p (.str _)) q⟩
theorem v2_divW {i j : Int} (c : 0 < j ∧ j.natAbs.log2 < 9000) (q : R (dI (i / j)) h) : V2 K Θ (rI CDivW fun i j => V.int (i / j)) (dI i) (dI j) h R := v2_I (g := fun i j => i / j) c q
theorem v2_ltI {i j : Int} (q : R (dB (decide (i < j))) h) : V2 K Θ rLtG (dI i) (dI j) h R := v2_or1 (v2_lt q)
theorem v2_ltB {i j : Bool} (q : R (dB (decide (b2n i < b2n j))) h) : V2 K Θ rLtG (dB i) (dB j) h R := v2_or2 (v2_or1 fun F ρ H vx vy Q rl a b k => by
  obtain rfl := a.bl
  obtain rfl := b.bl
  exact ⟨i, j, rfl, rfl, k _ h _ F ρ H (Same.refl _) (Pre.refl _) rl (.p (.bl _)) q⟩)
theorem v2_ltS {i j : Str} (q : R (dB (decide (i.cps.toList < j.cps.toList))) h) : V2 K Θ rLtG (dS i) (dS j) h R := v2_or2 (v2_or2 fun F ρ H vx vy Q rl a b k => by
  obtain rfl := a.str
  obtain rfl := b.str
  exact ⟨i, j, rfl, rfl, k _ h _ F ρ H (Same.refl _) (Pre.refl _) rl (.p (.bl _)) q⟩)
/-- texts -/
theorem RPs.strs {F : Hp} : ∀ {ns : List Str} {vs : List V}, RPs K F (ns.map P.str) vs → vs = ns.map V.str
  | [], _, .nil => rfl
  | n :: ns, _, .cons (.str _) r => by
    rw [RPs.strs r]
    rfl
theorem inV_strs {x : Str} : ∀ {ns : List Str}, inV (.str x) (ns.map V.str) = decide (x ∈ ns)
  | [] => rfl
  | n :: ns => by
    have ih := inV_strs (x := x) (ns := ns)
    unfold inV at ih ⊢
    rw [List.map_cons, List.any_cons, ih]
    show ((n == x) || _) = _
    by_cases e : n = x
    · simp [e]
    · simp [e, Ne.symm e]
/-- x in xs, texts -/
theorem v2_inS {x : Str} {ns : List Str} (q : R (dB (decide (x ∈ ns))) h) : V2 K Θ (rInU K) (dS x) (dL (ns.map P.str)) h R := v2_or1 fun F ρ H vx vy Q rl a b k => by
  obtain rfl := a.str
  cases b with
  | p b =>
    cases b with
    | lst b1 b2 =>
      have e := b2.strs
      subst e
      refine ⟨_, _, rfl, .inl (rl.same.seq b1), rfl, by simp [flatV], ?_⟩
      show Q (.bl (inV (.str x) (ns.map V.str))) H
      rw [inV_strs]
      exact k _ h _ F ρ H (Same.refl _) (Pre.refl _) rl (.p (.bl _)) q
theorem vm_join {a : Str} {ys : List Str} (hl : (ys.map (·.length)).sum + ys.length * a.length ≤ 16777216) (q : R (dS (Txt.join a ys)) h) :
    VM K Θ (fun x xs H Q => ∃ a p, ∃ ys : List Str, x = V.str a ∧ xs = [V.ref p] ∧ (SqL K H p (ys.map V.str) ∨ SqT K H p (ys.map V.str)) ∧ (ys.map (·.length)).sum + ys.length * a.length ≤ 16777216 ∧ Q (.str (Txt.join a ys)) H) (dS a) [dL (ys.map P.str)] h R := fun F ρ H vx vs Q rl b c k => by
  obtain rfl := b.str
  cases c with
  | cons c e =>
    cases e
    cases c with
    | p c =>
      cases c with
      | lst c1 c2 =>
        have e := c2.strs
        subst e
        exact ⟨a, _, ys, rfl, rfl, .inl (rl.same.seq c1), hl, k _ h _ F ρ H (Same.refl _) (Pre.refl _) rl (.p (.str _)) q⟩
theorem mt_joinK {X : Cx} (hK : X.K = K) : MtR X "str.join" (fun x xs H Q => ∃ a p, ∃ ys : List Str, x = .str a ∧ xs = [.ref p] ∧ (SqL K H p (ys.map V.str) ∨ SqT K H p (ys.map V.str)) ∧ (ys.map (·.length)).sum + ys.length * a.length ≤ 16777216 ∧ Q (.str (Txt.join a ys)) H) := hK ▸ mt_join
end
end Kb

/-! abs. -/
namespace Kb
open PySem PySem.Spec PyProof.Rows L2
section
variable {K : PySem.W.Frag} {Θ : Ctx} {env : Env'} {h : Hs} {R : D → Hs → Prop} {x y : D}
theorem vc_abs {i : Int} (q : R (dI (if i < 0 then -i else i)) h) : VC K Θ (fun xs H Q => ∃ i, xs = [V.int i] ∧ Q (.int (if i < 0 then -i else i)) H) [dI i] h R := fun F ρ H vs Q rl a k => by
  cases a with
  | cons a b =>
    cases b
    obtain rfl := a.int
    exact ⟨i, rfl, k _ h _ F ρ H (Same.refl _) (Pre.refl _) rl (.p (.int _)) q⟩
end
end Kb

/-! t < u, t <= u, t > u, t >= u for tuples of numbers and texts: items behind the first difference may be of any kind. -/
namespace Kb
open PySem PySem.Spec PyProof.Rows L2
/-- the answer of a comparison (op with up: < or <=; eq: with =) by the first difference -/
inductive CmpV (op : CmpOp) (up eq : Bool) (A : Around) (s : Shared) : List Value → List Value → Bool → Prop
  | nn : CmpV op up eq A s [] [] eq
  | nc (y : Value) (ys : List Value) : CmpV op up eq A s [] (y :: ys) up
  | cn (x : Value) (xs : List Value) : CmpV op up eq A s (x :: xs) [] (!up)
  | same {x y : Value} {xs ys : List Value} {c : Bool} : SeqAt.EqAt A s x y true → CmpV op up eq A s xs ys c → CmpV op up eq A s (x :: xs) (y :: ys) c
  | other {x y : Value} {xs ys : List Value} {c : Bool} : SeqAt.EqAt A s x y false → SeqAt.RcOp op A s x y c → CmpV op up eq A s (x :: xs) (y :: ys) c
section
open PySem.SeqAt
open PySem.AutoSeq1 (wpAny_loadPart')
open PySem.MeetsSeq PySem.MeetsSeq2 PySem.MeetsSeq3
/-- what is known while two tuples are walked -/
def WalkV (op : CmpOp) (up eq : Bool) (A : Around) (s0 : Shared) (na nb : Nat) (R : Bool → Prop) (rest : List (Value × Value)) : Prop :=
  ∃ us vs c, rest = us.zip vs ∧ CmpV op up eq A s0 us vs c ∧ us.length + nb = vs.length + na ∧ R c
theorem WalkV.last {op : CmpOp} {up eq : Bool} {A : Around} {s0 : Shared} {na nb : Nat} {R : Bool → Prop} (k : WalkV op up eq A s0 na nb R []) : (na = nb ∧ R eq) ∨ (na < nb ∧ R up) ∨ (nb < na ∧ R (!up)) := by
  obtain ⟨us, vs, c, hz, hc, hl, q⟩ := k
  cases hc with
  | nn => simp only [List.length_nil] at hl; exact .inl ⟨by omega, q⟩
  | nc y ys => simp only [List.length_nil, List.length_cons] at hl; exact .inr (.inl ⟨by omega, q⟩)
  | cn x xs => simp only [List.length_nil, List.length_cons] at hl; exact .inr (.inr ⟨by omega, q⟩)
  | same _ _ => rw [List.zip_cons_cons] at hz; cases hz
  | other _ _ => rw [List.zip_cons_cons] at hz; cases hz
theorem WalkV.step {op : CmpOp} {up eq : Bool} {A : Around} {s0 : Shared} {na nb : Nat} {R : Bool → Prop} {x y : Value} {rest : List (Value × Value)} (k : WalkV op up eq A s0 na nb R ((x, y) :: rest)) :
    (EqAt A s0 x y true ∧ WalkV op up eq A s0 na nb R rest) ∨ ∃ c, EqAt A s0 x y false ∧ RcOp op A s0 x y c ∧ R c := by
  obtain ⟨us, vs, c, hz, hc, hl, q⟩ := k
  cases hc with
  | nn => rw [List.zip_nil_left] at hz; cases hz
  | nc _ _ => rw [List.zip_nil_left] at hz; cases hz
  | cn _ _ => rw [List.zip_nil_right] at hz; cases hz
  | same he ht =>
    rw [List.zip_cons_cons] at hz
    injection hz with h1 h2
    injection h1 with h3 h4
    subst h3 h4
    simp only [List.length_cons] at hl
    exact .inl ⟨he, _, _, c, h2, ht, by omega, q⟩
  | other he ho =>
    rw [List.zip_cons_cons] at hz
    injection hz with h1 h2
    injection h1 with h3 h4
    subst h3 h4
    exact .inr ⟨c, he, ho, q⟩
theorem tupLtV (p q : Addr) (xs ys : Array Value) (i j : Nat) (da db : Option Addr) (sa sb : Array (Option Value)) (c : Bool) : Meets (Builtin.«tuple.__lt__» ⟨[.ref p, .ref q], []⟩)
    (fun A R s => s.heap.get? p = some ⟨.type "tuple", da, .seq xs i, sa⟩ ∧ s.heap.get? q = some ⟨.type "tuple", db, .seq ys j, sb⟩ ∧ CmpV .Lt true false A.in1 s xs.toList ys.toList c ∧ R (.ok (.ret (.bool c))) s) :=
  .of_wp fun prog w A R s hyp => by
    obtain ⟨H, G, D, T, O⟩ := s
    obtain ⟨ea, eb, hc, hR⟩ := hyp
    have sub := AutoSeq1.sub_tuple_tuple
    wp_walk using wpAny_loadPart' ea, wpAny_loadPart' eb, wpAny_forIn_list _ (fun rest z s' => z.1 = none ∧ s' = ⟨H, G, D, T, O⟩ ∧ WalkV .Lt true false A.in1 ⟨H, G, D, T, O⟩ xs.size ys.size (fun c => R (.ok (.ret (.bool c))) ⟨H, G, D, T, O⟩) rest) _
    case h => exact ⟨rfl, rfl, xs.toList, ys.toList, c, rfl, hc, by rw [Array.length_toList, Array.length_toList]; omega, hR⟩
    case turn =>
      rintro ⟨u, v⟩ rest z s' ⟨hz, rfl, k⟩
      rcases k.step with ⟨he, k'⟩ | ⟨c', he, ho, hR'⟩
      · refine wpAny_bind (he prog w _ _ ?_)
        wp_walk
        exact ⟨rfl, rfl, k'⟩
      · refine wpAny_bind (he prog w _ _ ?_)
        have hri : ∀ (E' : Value → Shared → Prop) (Q' : Value → Shared → Prop), Q' (.bool c') ⟨H, G, D, T, O⟩ → wpAny (model prog w) A.in1 (richCompare .Lt u v) Q' E' ⟨H, G, D, T, O⟩ := ho prog w
        wp_walk using hri
        exact ⟨_, rfl, hR'⟩
    case fin =>
      rintro ⟨z1, z2⟩ s' ⟨hz, rfl, k⟩
      simp only at hz
      subst hz
      have key : R (.ok (.ret (.bool (decide (xs.size < ys.size))))) ⟨H, G, D, T, O⟩ := by
        rcases k.last with ⟨e, r⟩ | ⟨e, r⟩ | ⟨e, r⟩
        all_goals first | (rw [decide_eq_true (by omega)]; exact r) | (rw [decide_eq_false (by omega)]; exact r)
      wp_walk
      exact ⟨_, rfl, by simpa [Builtin.Tuple.tupleCompareSizes] using key⟩
theorem tupLeV (p q : Addr) (xs ys : Array Value) (i j : Nat) (da db : Option Addr) (sa sb : Array (Option Value)) (c : Bool) : Meets (Builtin.«tuple.__le__» ⟨[.ref p, .ref q], []⟩)
    (fun A R s => s.heap.get? p = some ⟨.type "tuple", da, .seq xs i, sa⟩ ∧ s.heap.get? q = some ⟨.type "tuple", db, .seq ys j, sb⟩ ∧ CmpV .LtE true true A.in1 s xs.toList ys.toList c ∧ R (.ok (.ret (.bool c))) s) :=
  .of_wp fun prog w A R s hyp => by
    obtain ⟨H, G, D, T, O⟩ := s
    obtain ⟨ea, eb, hc, hR⟩ := hyp
    have sub := AutoSeq1.sub_tuple_tuple
    wp_walk using wpAny_loadPart' ea, wpAny_loadPart' eb, wpAny_forIn_list _ (fun rest z s' => z.1 = none ∧ s' = ⟨H, G, D, T, O⟩ ∧ WalkV .LtE true true A.in1 ⟨H, G, D, T, O⟩ xs.size ys.size (fun c => R (.ok (.ret (.bool c))) ⟨H, G, D, T, O⟩) rest) _
    case h => exact ⟨rfl, rfl, xs.toList, ys.toList, c, rfl, hc, by rw [Array.length_toList, Array.length_toList]; omega, hR⟩
    case turn =>
      rintro ⟨u, v⟩ rest z s' ⟨hz, rfl, k⟩
      rcases k.step with ⟨he, k'⟩ | ⟨c', he, ho, hR'⟩
      · refine wpAny_bind (he prog w _ _ ?_)
        wp_walk
        exact ⟨rfl, rfl, k'⟩
      · refine wpAny_bind (he prog w _ _ ?_)
        have hri : ∀ (E' : Value → Shared → Prop) (Q' : Value → Shared → Prop), Q' (.bool c') ⟨H, G, D, T, O⟩ → wpAny (model prog w) A.in1 (richCompare .LtE u v) Q' E' ⟨H, G, D, T, O⟩ := ho prog w
        wp_walk using hri
        exact ⟨_, rfl, hR'⟩
    case fin =>
      rintro ⟨z1, z2⟩ s' ⟨hz, rfl, k⟩
      simp only at hz
      subst hz
      have key : R (.ok (.ret (.bool (decide (xs.size ≤ ys.size))))) ⟨H, G, D, T, O⟩ := by
        rcases k.last with ⟨e, r⟩ | ⟨e, r⟩ | ⟨e, r⟩
        all_goals first | (rw [decide_eq_true (by omega)]; exact r) | (rw [decide_eq_false (by omega)]; exact r)
      wp_walk
      exact ⟨_, rfl, by simpa [Builtin.Tuple.tupleCompareSizes] using key⟩
theorem tupGtV (p q : Addr) (xs ys : Array Value) (i j : Nat) (da db : Option Addr) (sa sb : Array (Option Value)) (c : Bool) : Meets (Builtin.«tuple.__gt__» ⟨[.ref p, .ref q], []⟩)
    (fun A R s => s.heap.get? p = some ⟨.type "tuple", da, .seq xs i, sa⟩ ∧ s.heap.get? q = some ⟨.type "tuple", db, .seq ys j, sb⟩ ∧ CmpV .Gt false false A.in1 s xs.toList ys.toList c ∧ R (.ok (.ret (.bool c))) s) :=
  .of_wp fun prog w A R s hyp => by
    obtain ⟨H, G, D, T, O⟩ := s
    obtain ⟨ea, eb, hc, hR⟩ := hyp
    have sub := AutoSeq1.sub_tuple_tuple
    wp_walk using wpAny_loadPart' ea, wpAny_loadPart' eb, wpAny_forIn_list _ (fun rest z s' => z.1 = none ∧ s' = ⟨H, G, D, T, O⟩ ∧ WalkV .Gt false false A.in1 ⟨H, G, D, T, O⟩ xs.size ys.size (fun c => R (.ok (.ret (.bool c))) ⟨H, G, D, T, O⟩) rest) _
    case h => exact ⟨rfl, rfl, xs.toList, ys.toList, c, rfl, hc, by rw [Array.length_toList, Array.length_toList]; omega, hR⟩
    case turn =>
      rintro ⟨u, v⟩ rest z s' ⟨hz, rfl, k⟩
      rcases k.step with ⟨he, k'⟩ | ⟨c', he, ho, hR'⟩
      · refine wpAny_bind (he prog w _ _ ?_)
        wp_walk
        exact ⟨rfl, rfl, k'⟩
      · refine wpAny_bind (he prog w _ _ ?_)
        have hri : ∀ (E' : Value → Shared → Prop) (Q' : Value → Shared → Prop), Q' (.bool c') ⟨H, G, D, T, O⟩ → wpAny (model prog w) A.in1 (richCompare .Gt u v) Q' E' ⟨H, G, D, T, O⟩ := ho prog w
        wp_walk using hri
        exact ⟨_, rfl, hR'⟩
    case fin =>
      rintro ⟨z1, z2⟩ s' ⟨hz, rfl, k⟩
      simp only at hz
      subst hz
      have key : R (.ok (.ret (.bool (decide (xs.size > ys.size))))) ⟨H, G, D, T, O⟩ := by
        rcases k.last with ⟨e, r⟩ | ⟨e, r⟩ | ⟨e, r⟩
        all_goals first | (rw [decide_eq_true (by omega)]; exact r) | (rw [decide_eq_false (by omega)]; exact r)
      wp_walk
      exact ⟨_, rfl, by simpa [Builtin.Tuple.tupleCompareSizes] using key⟩
theorem tupGeV (p q : Addr) (xs ys : Array Value) (i j : Nat) (da db : Option Addr) (sa sb : Array (Option Value)) (c : Bool) : Meets (Builtin.«tuple.__ge__» ⟨[.ref p, .ref q], []⟩)
    (fun A R s => s.heap.get? p = some ⟨.type "tuple", da, .seq xs i, sa⟩ ∧ s.heap.get? q = some ⟨.type "tuple", db, .seq ys j, sb⟩ ∧ CmpV .GtE false true A.in1 s xs.toList ys.toList c ∧ R (.ok (.ret (.bool c))) s) :=
  .of_wp fun prog w A R s hyp => by
    obtain ⟨H, G, D, T, O⟩ := s
    obtain ⟨ea, eb, hc, hR⟩ := hyp
    have sub := AutoSeq1.sub_tuple_tuple
    wp_walk using wpAny_loadPart' ea, wpAny_loadPart' eb, wpAny_forIn_list _ (fun rest z s' => z.1 = none ∧ s' = ⟨H, G, D, T, O⟩ ∧ WalkV .GtE false true A.in1 ⟨H, G, D, T, O⟩ xs.size ys.size (fun c => R (.ok (.ret (.bool c))) ⟨H, G, D, T, O⟩) rest) _
    case h => exact ⟨rfl, rfl, xs.toList, ys.toList, c, rfl, hc, by rw [Array.length_toList, Array.length_toList]; omega, hR⟩
    case turn =>
      rintro ⟨u, v⟩ rest z s' ⟨hz, rfl, k⟩
      rcases k.step with ⟨he, k'⟩ | ⟨c', he, ho, hR'⟩
      · refine wpAny_bind (he prog w _ _ ?_)
        wp_walk
        exact ⟨rfl, rfl, k'⟩
      · refine wpAny_bind (he prog w _ _ ?_)
        have hri : ∀ (E' : Value → Shared → Prop) (Q' : Value → Shared → Prop), Q' (.bool c') ⟨H, G, D, T, O⟩ → wpAny (model prog w) A.in1 (richCompare .GtE u v) Q' E' ⟨H, G, D, T, O⟩ := ho prog w
        wp_walk using hri
        exact ⟨_, rfl, hR'⟩
    case fin =>
      rintro ⟨z1, z2⟩ s' ⟨hz, rfl, k⟩
      simp only at hz
      subst hz
      have key : R (.ok (.ret (.bool (decide (xs.size ≥ ys.size))))) ⟨H, G, D, T, O⟩ := by
        rcases k.last with ⟨e, r⟩ | ⟨e, r⟩ | ⟨e, r⟩
        all_goals first | (rw [decide_eq_true (by omega)]; exact r) | (rw [decide_eq_false (by omega)]; exact r)
      wp_walk
      exact ⟨_, rfl, by simpa [Builtin.Tuple.tupleCompareSizes] using key⟩
end
/-- the order of numbers and of texts, upwards or downwards -/
def ordB (up : Bool) {α : Type} (lt : α → α → Bool) (x y : α) : Bool := if up then lt x y else lt y x
structure AtomOps (op : CmpOp) (up : Bool) : Prop where
  int : ∀ (A : Around) (s : Shared) (a b : Int) (t u : Tok), a ≠ b → SeqAt.RcOp op A s (.int a t) (.int b u) (ordB up (fun x y : Int => decide (x < y)) a b)
  str : ∀ (A : Around) (s : Shared) (a b : Str) (t u : Tok), a ≠ b → SeqAt.RcOp op A s (.str a t) (.str b u) (ordB up (fun x y : Str => decide (x.cps.toList < y.cps.toList)) a b)
theorem cps_inj {a b : Str} (h : a.cps.toList = b.cps.toList) : a = b := by
  have e := Array.toList_inj.mp h
  cases a
  cases b
  simpa using e
theorem cps_tri {a b : Str} (h : a ≠ b) : (¬ b.cps.toList < a.cps.toList) = (a.cps.toList < b.cps.toList) := by
  have ne : a.cps.toList ≠ b.cps.toList := fun e => h (cps_inj e)
  refine propext ⟨fun z => ?_, fun z w => ?_⟩
  · rcases Std.lt_trichotomy a.cps.toList b.cps.toList with l | l | l
    · exact l
    · exact absurd l ne
    · exact absurd l z
  · exact absurd (List.lt_trans z w) (List.lt_irrefl _)
theorem ops_lt : AtomOps .Lt true := ⟨fun A s a b t u _ prog w E Q h => PyProof.Rows.lt_int h, fun A s a b t u _ prog w E Q h => PyProof.Rows.lt_str h⟩
theorem ops_gt : AtomOps .Gt false := ⟨fun A s a b t u _ prog w E Q h => P.gt_int h, fun A s a b t u _ prog w E Q h => P.gt_str h⟩
theorem ops_le : AtomOps .LtE true := ⟨fun A s a b t u n prog w E Q h => P.le_int (by
    have e : decide (a ≤ b) = decide (a < b) := decide_eq_decide.mpr (by omega)
    rw [e]; exact h), fun A s a b t u n prog w E Q h => P.le_str (by
    have e : (!decide (b.cps.toList < a.cps.toList)) = decide (a.cps.toList < b.cps.toList) := by rw [← decide_not]; exact decide_eq_decide.mpr (by rw [cps_tri n])
    rw [e]; exact h)⟩
theorem ops_ge : AtomOps .GtE false := ⟨fun A s a b t u n prog w E Q h => P.ge_int (by
    have e : decide (b ≤ a) = decide (b < a) := decide_eq_decide.mpr (by omega)
    rw [e]; exact h), fun A s a b t u n prog w E Q h => P.ge_str (by
    have e : (!decide (a.cps.toList < b.cps.toList)) = decide (b.cps.toList < a.cps.toList) := by rw [← decide_not]; exact decide_eq_decide.mpr (by rw [cps_tri (Ne.symm n)])
    rw [e]; exact h)⟩
/-- tuples of numbers and texts compared; none: a number meets a text -/
def keyV (up eq : Bool) : List V → List V → Option Bool
  | [], [] => some eq
  | [], _ :: _ => some up
  | _ :: _, [] => some (!up)
  | .int a :: xs, .int b :: ys => if a = b then keyV up eq xs ys else some (ordB up (fun x y : Int => decide (x < y)) a b)
  | .str a :: xs, .str b :: ys => if a = b then keyV up eq xs ys else some (ordB up (fun x y : Str => decide (x.cps.toList < y.cps.toList)) a b)
  | _ :: _, _ :: _ => none
theorem cmpV_of {op : CmpOp} {up eq : Bool} (o : AtomOps op up) {A : Around} {s : Shared} : ∀ {vs ws : List V} {us zs : List Value} {c : Bool}, Vals vs us → Vals ws zs → keyV up eq vs ws = some c → CmpV op up eq A s us zs c
  | _, _, _, _, _, .nil, .nil, h => by cases h; exact .nn
  | _, _, _, _, _, .nil, .cons _ _, h => by cases h; exact .nc _ _
  | x :: xs, _, _, _, c, .cons _ _, .nil, h => by
    have e : some (!up) = some c := by cases x <;> exact h
    cases e; exact .cn _ _
  | x :: xs, y :: ys, _, _, c, .cons rx rs, .cons ry qs, h => by
    cases x with
    | int a =>
      cases y with
      | int b =>
        obtain ⟨t, rfl⟩ := rx
        obtain ⟨u, rfl⟩ := ry
        unfold keyV at h
        have g := SeqAt.EqAt.int_int (A := A) (s := s) a t b u
        by_cases e : a = b
        · rw [if_pos e] at h
          rw [show (a == b) = true by simpa using e] at g
          exact .same g (cmpV_of o rs qs h)
        · rw [if_neg e] at h
          rw [show (a == b) = false by simpa using e] at g
          cases h
          exact .other g (o.int A s a b t u e)
      | _ => exact absurd h (by simp [keyV])
    | str a =>
      cases y with
      | str b =>
        obtain ⟨t, rfl⟩ := rx
        obtain ⟨u, rfl⟩ := ry
        unfold keyV at h
        have g := SeqAt.EqAt.str_str (A := A) (s := s) a t b u
        by_cases e : a = b
        · rw [if_pos e] at h
          rw [show (a == b) = true by simpa using e] at g
          exact .same g (cmpV_of o rs qs h)
        · rw [if_neg e] at h
          rw [show (a == b) = false by simpa using e] at g
          cases h
          exact .other g (o.str A s a b t u e)
      | _ => exact absurd h (by simp [keyV])
    | _ => exact absurd h (by cases y <;> simp [keyV])
end Kb

/-! Keys compared, as rules; int of a truth. -/
namespace Kb
open PySem PySem.Spec PyProof.Rows L2
def rKeyT (K : PySem.W.Frag) (up eq : Bool) : R2 := fun x y H Q => ∃ a b vs ws c, x = .ref a ∧ y = .ref b ∧ SqT K H a vs ∧ SqT K H b ws ∧ keyV up eq vs ws = some c ∧ Q (.bl c) H
section
variable {X : Cx} {K : PySem.W.Frag}
theorem op_keyLt (hu : X.A.units < cLine) : OpR X (compareOp .Lt) (rKeyT X.K true false) := by
  intro pins s σ H x y v u Q I rx ry h
  obtain ⟨a, b, vs, ws, c, rfl, rfl, ha, hb, hk, q⟩ := h
  cases rx
  cases ry
  obtain ⟨its, r1, p1, _⟩ := I.tuple ha
  obtain ⟨its2, r2, p2, _⟩ := I.tuple hb
  obtain ⟨⟨cls, dd, data, sl⟩, ho, hc, n, hd⟩ := id p1
  obtain ⟨⟨cls2, dd2, data2, sl2⟩, ho2, hc2, n2, hd2⟩ := id p2
  simp only at hc hd hc2 hd2
  subst hc hd hc2 hd2
  have cv := cmpV_of (A := X.A.in1) (s := s) (eq := false) ops_lt r1 r2 hk
  exact richCompare_meets_room (op := .Lt) ⟨_, ho, rfl⟩ ⟨_, ho2, rfl⟩ PySem.F.slot_tuple_lt PySem.F.entry_tuple_lt (PySem.F.args_tuple_lt_2 _ _) (tupLtV a b its.toArray its2.toArray n n2 dd dd2 sl sl2 c)
    ⟨ho, ho2, by simpa using cv, show Value.bool c ≠ Value.notImplemented ∧ EP X pins σ Q (.bool c) s from ⟨(fun x => nomatch x), .bl c, H, I, rfl, q⟩⟩ hu
theorem op_keyLtK (hK : X.K = K) (hu : X.A.units + 64 < cLine) : OpR X (compareOp .Lt) (rKeyT K true false) := hK ▸ op_keyLt (Nat.lt_of_le_of_lt (Nat.le_add_right _ 64) hu)
theorem op_keyLe (hu : X.A.units < cLine) : OpR X (compareOp .LtE) (rKeyT X.K true true) := by
  intro pins s σ H x y v u Q I rx ry h
  obtain ⟨a, b, vs, ws, c, rfl, rfl, ha, hb, hk, q⟩ := h
  cases rx
  cases ry
  obtain ⟨its, r1, p1, _⟩ := I.tuple ha
  obtain ⟨its2, r2, p2, _⟩ := I.tuple hb
  obtain ⟨⟨cls, dd, data, sl⟩, ho, hc, n, hd⟩ := id p1
  obtain ⟨⟨cls2, dd2, data2, sl2⟩, ho2, hc2, n2, hd2⟩ := id p2
  simp only at hc hd hc2 hd2
  subst hc hd hc2 hd2
  have cv := cmpV_of (A := X.A.in1) (s := s) (eq := true) ops_le r1 r2 hk
  exact richCompare_meets_room (op := .LtE) ⟨_, ho, rfl⟩ ⟨_, ho2, rfl⟩ PySem.F.slot_tuple_le PySem.F.entry_tuple_le (PySem.F.args_tuple_le_2 _ _) (tupLeV a b its.toArray its2.toArray n n2 dd dd2 sl sl2 c)
    ⟨ho, ho2, by simpa using cv, show Value.bool c ≠ Value.notImplemented ∧ EP X pins σ Q (.bool c) s from ⟨(fun x => nomatch x), .bl c, H, I, rfl, q⟩⟩ hu
theorem op_keyLeK (hK : X.K = K) (hu : X.A.units + 64 < cLine) : OpR X (compareOp .LtE) (rKeyT K true true) := hK ▸ op_keyLe (Nat.lt_of_le_of_lt (Nat.le_add_right _ 64) hu)
theorem op_keyGt (hu : X.A.units < cLine) : OpR X (compareOp .Gt) (rKeyT X.K false false) := by
  intro pins s σ H x y v u Q I rx ry h
  obtain ⟨a, b, vs, ws, c, rfl, rfl, ha, hb, hk, q⟩ := h
  cases rx
  cases ry
  obtain ⟨its, r1, p1, _⟩ := I.tuple ha
  obtain ⟨its2, r2, p2, _⟩ := I.tuple hb
  obtain ⟨⟨cls, dd, data, sl⟩, ho, hc, n, hd⟩ := id p1
  obtain ⟨⟨cls2, dd2, data2, sl2⟩, ho2, hc2, n2, hd2⟩ := id p2
  simp only at hc hd hc2 hd2
  subst hc hd hc2 hd2
  have cv := cmpV_of (A := X.A.in1) (s := s) (eq := false) ops_gt r1 r2 hk
  exact richCompare_meets_room (op := .Gt) ⟨_, ho, rfl⟩ ⟨_, ho2, rfl⟩ PySem.F.slot_tuple_gt PySem.F.entry_tuple_gt (PySem.F.args_tuple_gt_2 _ _) (tupGtV a b its.toArray its2.toArray n n2 dd dd2 sl sl2 c)
    ⟨ho, ho2, by simpa using cv, show Value.bool c ≠ Value.notImplemented ∧ EP X pins σ Q (.bool c) s from ⟨(fun x => nomatch x), .bl c, H, I, rfl, q⟩⟩ hu
theorem op_keyGtK (hK : X.K = K) (hu : X.A.units + 64 < cLine) : OpR X (compareOp .Gt) (rKeyT K false false) := hK ▸ op_keyGt (Nat.lt_of_le_of_lt (Nat.le_add_right _ 64) hu)
theorem op_keyGe (hu : X.A.units < cLine) : OpR X (compareOp .GtE) (rKeyT X.K false true) := by
  intro pins s σ H x y v u Q I rx ry h
  obtain ⟨a, b, vs, ws, c, rfl, rfl, ha, hb, hk, q⟩ := h
  cases rx
  cases ry
  obtain ⟨its, r1, p1, _⟩ := I.tuple ha
  obtain ⟨its2, r2, p2, _⟩ := I.tuple hb
  obtain ⟨⟨cls, dd, data, sl⟩, ho, hc, n, hd⟩ := id p1
  obtain ⟨⟨cls2, dd2, data2, sl2⟩, ho2, hc2, n2, hd2⟩ := id p2
  simp only at hc hd hc2 hd2
  subst hc hd hc2 hd2
  have cv := cmpV_of (A := X.A.in1) (s := s) (eq := true) ops_ge r1 r2 hk
  exact richCompare_meets_room (op := .GtE) ⟨_, ho, rfl⟩ ⟨_, ho2, rfl⟩ PySem.F.slot_tuple_ge PySem.F.entry_tuple_ge (PySem.F.args_tuple_ge_2 _ _) (tupGeV a b its.toArray its2.toArray n n2 dd dd2 sl sl2 c)
    ⟨ho, ho2, by simpa using cv, show Value.bool c ≠ Value.notImplemented ∧ EP X pins σ Q (.bool c) s from ⟨(fun x => nomatch x), .bl c, H, I, rfl, q⟩⟩ hu
theorem op_keyGeK (hK : X.K = K) (hu : X.A.units + 64 < cLine) : OpR X (compareOp .GtE) (rKeyT K false true) := hK ▸ op_keyGe (Nat.lt_of_le_of_lt (Nat.le_add_right _ 64) hu)
end
section
variable {K : PySem.W.Frag} {Θ : Ctx} {h : Hs} {R : D → Hs → Prop}
def toV : P → V
  | .bl b => .bl b
  | .int i => .int i
  | .str s => .str s
  | _ => .non
def atomB : P → Bool
  | .non => true
  | .bl _ => true
  | .int _ => true
  | .str _ => true
  | _ => false
theorem RPs.atoms {F : Hp} : ∀ {xs : List P} {vs : List V}, RPs K F xs vs → xs.all atomB = true → vs = xs.map toV
  | [], _, .nil, _ => rfl
  | x :: xs, _, .cons a r, h => by
    rw [List.all_cons, Bool.and_eq_true] at h
    rw [RPs.atoms r h.2, List.map_cons]
    congr 1
    cases a with
    | non => rfl
    | bl _ => rfl
    | int _ => rfl
    | str _ => rfl
    | tup _ _ => cases h.1
    | ktp _ _ => cases h.1
    | lst _ _ => cases h.1
    | ins _ _ => cases h.1
    | ty _ => cases h.1
    | cls _ => cases h.1
theorem v2_key {up eq c : Bool} {xs ys : List P} (hx : xs.all atomB = true) (hy : ys.all atomB = true) (hc : keyV up eq (xs.map toV) (ys.map toV) = some c) (q : R (dB c) h) : V2 K Θ (rKeyT K up eq) (dT xs) (dT ys) h R := fun F ρ H vx vy Q rl a b k => by
  cases a with
  | p a =>
    cases b with
    | p b =>
      cases a with
      | tup a1 a2 =>
        cases b with
        | tup b1 b2 =>
          have e1 := a2.atoms hx
          have e2 := b2.atoms hy
          subst e1 e2
          exact ⟨_, _, _, _, c, rfl, rfl, sqT_mono rl.same a1, sqT_mono rl.same b1, hc, k _ h _ F ρ H (Same.refl _) (Pre.refl _) rl (.p (.bl _)) q⟩
theorem vc_intB {b : Bool} (q : R (dI (if b then 1 else 0)) h) : VC K Θ rIntU [dB b] h R := fun F ρ H vs Q rl a k => by
  cases a with
  | cons a c =>
    cases c
    obtain rfl := a.bl
    exact .inl (.inr ⟨b, rfl, k _ h _ F ρ H (Same.refl _) (Pre.refl _) rl (.p (.int _)) q⟩)
end
end Kb

/-! Tuples of any length joined and cut; xs.extend(t); an own list made by a comprehension whose turns change what is owned. -/
namespace Kb
open PySem PySem.Spec PyProof.Rows L2
section
open PySem.AutoSeq1 (wpAny_loadPart')
theorem extTupW (p q : Addr) (xs ys : Array Value) (i j : Nat) (dt : Option Addr) (st : Array (Option Value)) (hz : xs.size + ys.size ≤ sizeLine) :
    Meets (Builtin.«list.extend» ⟨[.ref p, .ref q], []⟩)
      (fun _ R s => s.heap.get? p = some { cls := .type "list", data := .seq xs i } ∧ s.heap.get? q = some ⟨.type "tuple", dt, .seq ys j, st⟩ ∧ R (.ok (.ret .none)) { s with heap := s.heap.update p (Obj.mapSeq fun x => x ++ ys) }) :=
  .of_wp fun prog w A R s hyp => by
    obtain ⟨H, G, D, T, O⟩ := s
    obtain ⟨ep, eq, hR⟩ := hyp
    have g1 := AutoSeq1.idx_int
    have g2 := AutoSeq1.sub_tuple_tuple
    have g3 := AutoSeq1.sub_list_list
    have g4 := AutoSeq1.sub_tuple_list
    have g5 := AutoSeq1.sub_list_tuple
    have nl : ¬ (!xs.isEmpty && Builtin.List.listTooLong (xs.size + ys.size)) = true := by
      rw [notLongL hz, Bool.and_false]
      exact Bool.false_ne_true
    have z1 : xs.size ≤ sizeLine := Nat.le_trans (Nat.le_add_right _ _) hz
    have z2 : (xs ++ ys).size ≤ sizeLine + 1 := by rw [Array.size_append]; omega
    wp_walk using (wpAny_updateSeq ep rfl (hz := z1) (_hz' := z2)), wpAny_loadPart' ep, wpAny_loadPart' eq
    exact ⟨_, rfl, hR⟩
end
section
variable {X : Cx}
def rExtT (K : PySem.W.Frag) : V → List V → Hp → VK → Prop := fun x vs H Q => ∃ l b xs zs, x = .ref l ∧ vs = [.ref b] ∧ H l = some (.lst xs) ∧ SqT K H b zs ∧ xs.length + zs.length ≤ sizeLine ∧ Q .non (upd H l (.lst (xs ++ zs)))
theorem mt_extT : MtM X "list.extend" (rExtT X.K) := by
  intro pins s σ H x vs v us Q I rx rv h
  obtain ⟨l, b, xs, zs, rfl, rfl, hH, hB, hz, q⟩ := h
  cases rx
  obtain ⟨u, rfl, ru⟩ := rv.one
  cases ru
  obtain ⟨z, its, n, r, hl, e⟩ := I.lstM hH
  obtain ⟨its2, r2, pl, _⟩ := I.tuple hB
  obtain ⟨⟨cls, dd, data, sl⟩, ho, hc, n2, hd⟩ := id pl
  simp only at hc hd
  subst hc hd
  have l2 := r2.length
  refine call_meets PySem.F.slot_list_extend ⟨_, e, rfl⟩ PySem.F.entry_list_extend (PySem.F.args_list_extend_2 _ _) (extTupW l b its.toArray its2.toArray n n2 dd sl (by rw [List.size_toArray, List.size_toArray]; omega)) ⟨e, ho, ?_⟩
  refine ⟨.non, _, I.lset (its' := its ++ its2) hH e (by simp) (r.append r2) ?_, rfl, q⟩
  rw [List.length_append]
  exact hz
theorem mt_extTK {K : PySem.W.Frag} (hK : X.K = K) : MtM X "list.extend" (rExtT K) := hK ▸ mt_extT
def rAddW (K : PySem.W.Frag) : R2 := fun x y H Q => rAddI x y H Q ∨ (rAddS' x y H Q ∨ (rCatA K x y H Q ∨ rCatL K x y H Q))
theorem op_addW : OpR X (binaryOp .Add) (rAddW X.K) := OpR.or (r := rAddI) op_add (OpR.or (r := rAddS') op_add_str (op_catA.or op_catL))
theorem op_addWK {K : PySem.W.Frag} (hK : X.K = K) : OpR X (binaryOp .Add) (rAddW K) := hK ▸ op_addW
theorem sl_tupAK {K : PySem.W.Frag} (hK : X.K = K) : SlR X (rSlA K) := hK ▸ sl_tupA
end
section
variable {K : PySem.W.Frag} {Θ : Ctx} {env : Env'} {h : Hs} {R : D → Hs → Prop} {x y : D}
theorem v2_addWI {i j : Int} (q : R (dI (i + j)) h) : V2 K Θ (rAddW K) (dI i) (dI j) h R := v2_or1 (v2_I0 q)
theorem v2_addWS {i j : Str} (hl : i.length + j.length ≤ sizeLine) (q : R (dS (i ++ j)) h) : V2 K Θ (rAddW K) (dS i) (dS j) h R := v2_or2 (v2_or1 fun F ρ H vx vy Q rl a b k => by
  obtain rfl := a.str
  obtain rfl := b.str
  exact ⟨i, j, rfl, rfl, hl, k _ h _ F ρ H (Same.refl _) (Pre.refl _) rl (.p (.str _)) q⟩)
theorem v2_addWL {i j : List P} (hl : i.length + j.length ≤ sizeLine) (q : R (dL (i ++ j)) h) : V2 K Θ (rAddW K) (dL i) (dL j) h R := v2_or2 (v2_or2 (v2_or2 fun F ρ H vx vy Q rl a b k => by
  cases a with
  | p a =>
    cases b with
    | p b =>
      cases a with
      | lst a1 a2 =>
        cases b with
        | lst b1 b2 =>
          refine ⟨_, _, _, _, rfl, rfl, rl.same.seq a1, rl.same.seq b1, by rw [← a2.len, ← b2.len]; exact hl, fun p hp => ?_⟩
          have sn := fun o => same_new (o := o) (rl.free hp)
          exact k _ h _ _ ρ _ (sn _) (Pre.refl _) (rl.frz hp) (.p (.lst (.of upd_same) ((a2.append b2).mono (sn _)))) q))
theorem v2_addWT {i j : List P} (hl : i.length + j.length ≤ sizeLine) (q : R (dT (i ++ j)) h) : V2 K Θ (rAddW K) (dT i) (dT j) h R := v2_or2 (v2_or2 (v2_or1 fun F ρ H vx vy Q rl a b k => by
  cases a with
  | p a =>
    cases b with
    | p b =>
      cases a with
      | tup a1 a2 =>
        cases b with
        | tup b1 b2 =>
          refine ⟨_, _, _, _, rfl, rfl, sqT_mono rl.same a1, sqT_mono rl.same b1, by rw [← a2.len, ← b2.len]; exact hl, fun z => ?_, fun _ z => ?_, fun _ _ p hp => ?_⟩
          · subst z; cases a2
            exact k _ h _ F ρ H (Same.refl _) (Pre.refl _) rl (.p (.tup b1 b2)) q
          · subst z; cases b2
            rw [List.append_nil] at q
            exact k _ h _ F ρ H (Same.refl _) (Pre.refl _) rl (.p (.tup a1 a2)) q
          · have sn := fun o => same_new (o := o) (rl.free hp)
            exact k _ h _ _ ρ _ (sn _) (Pre.refl _) (rl.frz hp) (.p (.tup (.of upd_same) ((a2.append b2).mono (sn _)))) q))
theorem cut_whole {α : Type} {xs : List α} {lo hi : Option Int} (w : HT.sIx xs.length 0 lo = 0 ∧ HT.sIx xs.length xs.length hi = xs.length) : cutP xs lo hi = xs := by
  unfold cutP
  rw [w.1, w.2, List.drop_zero, Nat.sub_zero, List.take_length]
theorem ve_slT {te : TE} {tl th : TO} (q : VE K Θ te env h fun x h1 => VO K Θ tl env h1 fun lo h2 => VO K Θ th env h2 fun hi h3 => ∃ xs, x = dT xs ∧ R (dT (cutP xs lo hi)) h3) : VE K Θ (tSl (rSlA K) te tl th) env h R := fun F ρ σ H Q rl e k =>
  q F ρ σ H _ rl e fun x h1 v F1 ρ1 H1 s1 p1 r1 dx q1 => q1 F1 ρ1 σ H1 _ r1 (e.mono s1 p1) fun lo h2 F2 ρ2 H2 s2 p2 r2 q2 => q2 F2 ρ2 σ H2 _ r2 (e.mono (s1.trans s2) (p1.trans p2)) fun hi h3 F3 ρ3 H3 s3 p3 r3 q3 => by
    obtain ⟨xs, rfl, q3⟩ := q3
    have dx3 := dx.mono (s2.trans s3) (p2.trans p3)
    cases dx3 with
    | p a =>
      cases a with
      | tup a r =>
        refine ⟨_, _, rfl, sqT_mono r3.same a, fun w => ?_, fun w p hp => ?_⟩
        · rw [← r.len] at w
          rw [cut_whole w] at q3
          exact k _ h3 _ F3 ρ3 H3 (s1.trans (s2.trans s3)) (p1.trans (p2.trans p3)) r3 (.p (.tup a r)) q3
        · have sn := fun o => same_new (o := o) (r3.free hp)
          exact k _ h3 _ _ ρ3 _ ((s1.trans (s2.trans s3)).trans (sn _)) (p1.trans (p2.trans p3)) (r3.frz hp) (.p (.tup (.of upd_same) ((r.cut lo hi).mono (sn _)))) q3
theorem vm_extT {n : Nat} {xs : List D} {zs : List P} (hn : h[n]? = some (some (.lst xs))) (hl : xs.length + zs.length ≤ sizeLine) (q : R dN (h.set n (some (.lst (xs ++ zs.map D.p))))) : VM K Θ (rExtT K) (.own n) [dT zs] h R := fun F ρ H vx vs Q rl a b k => by
  cases a with
  | own a =>
    cases b with
    | cons b c =>
      cases c
      obtain ⟨p, u, e1, e2, e3, us, e4, e5⟩ := rl.own _ _ hn
      rw [a] at e1; cases e1
      subst e4
      cases b with
      | p b =>
        cases b with
        | tup b1 b2 =>
          refine ⟨_, _, us, _, rfl, rfl, e3, sqT_mono rl.same b1, by rw [← e5.len, ← b2.len]; exact hl, ?_⟩
          exact k _ _ _ F ρ _ (Same.refl _) (Pre.refl _) (rl.put (o' := .lst (xs ++ zs.map D.p)) hn a ⟨_, rfl, e5.append b2.data⟩) (.p .non) q
/-- [..]: a new list that is owned; the turns may change what is owned -/
theorem ve_lcIO {wi : TI} {g : TG} {tt : TT} {te : TE} {vs : List Nat} (tg : TgOk g vs)
    (q : VI K Θ wi env h fun ds C h1 => ∃ Inv : Nat → List P → Hs → Prop, ds.length < sizeLine ∧ Inv 0 [] h1 ∧ (∀ i acc h', Inv i acc h' → h'.length = h1.length ∧ lowH h1 h' ∧ C (h' ++ [accO acc])) ∧
      (∀ i d acc h', ds[i]? = some d → Inv i acc h' → VG K Θ g d (wipeD env vs) (h' ++ [accO acc]) fun env' h2 => VT K Θ tt env' h2 fun b h3 => if b = true then VE K Θ te env' h3 (fun y h4 => ∃ p h5, y = .p p ∧ h4 = h5 ++ [accO acc] ∧ Inv (i + 1) (acc ++ [p]) h5) else ∃ h5, h3 = h5 ++ [accO acc] ∧ Inv (i + 1) acc h5) ∧
      (∀ acc h', Inv ds.length acc h' → R (.own h'.length) (h' ++ [accO acc]))) : VE K Θ (tLc wi g tt te vs) env h R := fun F ρ σ H Q rl e k =>
  q F ρ σ H _ rl e fun ds C h1 J F1 ρ1 H1 s1 p1 r1 it q1 => by
    obtain ⟨Inv, hl, i0, hI, turn, q1⟩ := q1
    refine lcI_run (wi := wi) tg Q Inv r1 (e.mono s1 p1) it hl i0 hI turn fun p F' us H acc h' s hn hp hp1 iv r rp r2 => ?_
    exact k _ _ (.ref p) F' (ρ1 ++ [p]) H (s1.trans s) (p1.trans (Pre.push _ _)) r (.own (by rw [← r2.len]; simp)) (q1 acc h' iv)
end
end Kb

/-! Dicts that are owned, with keys that are tuples of numbers and texts; xs.insert; own lists read and joined. -/
namespace Kb
open PySem PySem.Spec PyProof.Rows L2
section
variable {κ β : Type} [DecidableEq κ]
def vK (kvs : List (κ × β)) (k : κ) : Option β := (kvs.find? fun kv => decide (kv.1 = k)).map (·.2)
def pK (kvs : List (κ × β)) (k : κ) (v : β) : List (κ × β) := if (kvs.any fun kv => decide (kv.1 = k)) = true then kvs.map (fun kv => if kv.1 = k then (kv.1, v) else kv) else kvs ++ [(k, v)]
theorem vK_pos {p : κ × β} {r : List (κ × β)} {k : κ} (e : p.1 = k) : vK (p :: r) k = some p.2 := by simp [vK, List.find?_cons, e]
theorem vK_neg {p : κ × β} {r : List (κ × β)} {k : κ} (e : ¬ p.1 = k) : vK (p :: r) k = vK r k := by simp [vK, List.find?_cons, e]
theorem vK_nil {k : κ} : vK ([] : List (κ × β)) k = none := rfl
theorem vK_any (k : κ) : ∀ kvs : List (κ × β), (kvs.any fun kv => decide (kv.1 = k)) = (vK kvs k).isSome
  | [] => rfl
  | p :: r => by
    rw [List.any_cons, vK_any k r]
    by_cases e : p.1 = k
    · rw [vK_pos e, decide_eq_true e]; rfl
    · rw [vK_neg e, decide_eq_false e, Bool.false_or]
theorem vK_app {k' k : κ} {v : β} : ∀ kvs : List (κ × β), vK (kvs ++ [(k, v)]) k' = (vK kvs k').or (if k = k' then some v else none)
  | [] => by
    by_cases e : k = k'
    · rw [if_pos e]; exact vK_pos e
    · rw [if_neg e]; exact vK_neg e
  | p :: r => by
    rw [List.cons_append]
    by_cases e : p.1 = k'
    · rw [vK_pos e, vK_pos e]; rfl
    · rw [vK_neg e, vK_neg e]; exact vK_app r
theorem vK_map {k' k : κ} {v : β} : ∀ kvs : List (κ × β), vK (kvs.map fun kv => if kv.1 = k then (kv.1, v) else kv) k' = if k = k' then (vK kvs k').map fun _ => v else vK kvs k'
  | [] => by rw [List.map_nil, vK_nil]; split <;> rfl
  | p :: r => by
    rw [List.map_cons]
    by_cases e : p.1 = k
    · rw [if_pos e]
      by_cases e2 : k = k'
      · rw [vK_pos (p := (p.1, v)) (e.trans e2), vK_pos (p := p) (e.trans e2), if_pos e2]; rfl
      · rw [vK_neg (p := (p.1, v)) (fun z => e2 (e.symm.trans z)), vK_neg (p := p) (fun z => e2 (e.symm.trans z)), vK_map r]
    · rw [if_neg e]
      by_cases e2 : p.1 = k'
      · rw [vK_pos e2, vK_pos e2, if_neg (fun z => e (e2.trans z.symm))]
      · rw [vK_neg e2, vK_neg e2, vK_map r]
theorem vK_put {k' k : κ} {v : β} (kvs : List (κ × β)) : vK (pK kvs k v) k' = if k = k' then some v else vK kvs k' := by
  unfold pK
  rw [vK_any]
  by_cases e : k = k'
  · rw [if_pos e]
    cases h : vK kvs k with
    | none => rw [if_neg (by simp), vK_app, ← e, h, if_pos rfl]; rfl
    | some w => rw [if_pos (by rfl), vK_map, if_pos e, ← e, h]; rfl
  · rw [if_neg e]
    cases h : vK kvs k with
    | none => rw [if_neg (by simp), vK_app, if_neg e]; cases vK kvs k' <;> rfl
    | some w => rw [if_pos (by rfl), vK_map, if_neg e]
theorem pK_len (kvs : List (κ × β)) (k : κ) (v : β) : (pK kvs k v).length ≤ kvs.length + 1 := by
  unfold pK
  split
  · rw [List.length_map]; omega
  · rw [List.length_append]; simp
end
section
variable {K : PySem.W.Frag} {Θ : Ctx} {env : Env'} {h : Hs} {R : D → Hs → Prop} {E : En} {x y : D}
theorem RK.look {κ : Type} [DecidableEq κ] {F : Hp} {ρ : List Addr} {k : κ} : ∀ {kvs : List (κ × D)} {gs : List (κ × V)}, RK K F ρ kvs gs → (vK kvs k = none ∧ valV gs k = none) ∨ ∃ d v, vK kvs k = some d ∧ valV gs k = some v ∧ RD K F ρ d v
  | _, _, .nil => .inl ⟨rfl, rfl⟩
  | _, _, .cons (f := f) (d := d) (v := v) q r => by
    by_cases e : f = k
    · exact .inr ⟨d, v, vK_pos e, valV_pos e, q⟩
    · rw [vK_neg (p := (f, d)) e, valV_neg (p := (f, v)) e]
      exact RK.look r
theorem RK.any {κ : Type} [DecidableEq κ] {F : Hp} {ρ : List Addr} {k : κ} : ∀ {kvs : List (κ × D)} {gs : List (κ × V)}, RK K F ρ kvs gs → (kvs.any fun kv => decide (kv.1 = k)) = gs.any fun kv => decide (kv.1 = k)
  | _, _, .nil => rfl
  | _, _, .cons q r => by rw [List.any_cons, List.any_cons, RK.any r]
theorem RK.map {κ : Type} [DecidableEq κ] {F : Hp} {ρ : List Addr} {k : κ} {d : D} {v : V} (q : RD K F ρ d v) : ∀ {kvs : List (κ × D)} {gs : List (κ × V)}, RK K F ρ kvs gs → RK K F ρ (kvs.map fun kv => if kv.1 = k then (kv.1, d) else kv) (gs.map fun kv => if kv.1 = k then (kv.1, v) else kv)
  | _, _, .nil => .nil
  | _, _, .cons (f := f) p r => by
    rw [List.map_cons, List.map_cons]
    by_cases e : f = k
    · rw [if_pos e, if_pos e]; exact .cons q (RK.map q r)
    · rw [if_neg e, if_neg e]; exact .cons p (RK.map q r)
theorem RK.app {κ : Type} {F : Hp} {ρ : List Addr} {k : κ} {d : D} {v : V} (q : RD K F ρ d v) : ∀ {kvs : List (κ × D)} {gs : List (κ × V)}, RK K F ρ kvs gs → RK K F ρ (kvs ++ [(k, d)]) (gs ++ [(k, v)])
  | _, _, .nil => .cons q .nil
  | _, _, .cons p r => .cons p (RK.app q r)
theorem RK.put {κ : Type} [DecidableEq κ] {F : Hp} {ρ : List Addr} {k : κ} {d : D} {v : V} {kvs : List (κ × D)} {gs : List (κ × V)} (q : RD K F ρ d v) (r : RK K F ρ kvs gs) : RK K F ρ (pK kvs k d) (putK gs k v) := by
  unfold pK putK
  rw [r.any]
  split
  · exact r.map q
  · exact r.app q
theorem RK.len {κ : Type} {F : Hp} {ρ : List Addr} : ∀ {kvs : List (κ × D)} {gs : List (κ × V)}, RK K F ρ kvs gs → kvs.length = gs.length
  | _, _, .nil => rfl
  | _, _, .cons _ r => congrArg (· + 1) (RK.len r)
/-- a key's part as data -/
def kP : Key → P
  | .inl i => .int i
  | .inr s => .str s
theorem RPs.keys {F : Hp} : ∀ {ks : List Key} {vs : List V}, RPs K F (ks.map kP) vs → vs = ks.map kV
  | [], _, .nil => rfl
  | .inl i :: ks, _, .cons (.int _) r => by rw [RPs.keys r]; rfl
  | .inr s :: ks, _, .cons (.str _) r => by rw [RPs.keys r]; rfl
theorem tupKey {F : Hp} {ρ : List Addr} {ks : List Key} {v : V} {H : Hp} (s : Same F H) (q : RD K F ρ (dT (ks.map kP)) v) : ∃ b, v = .ref b ∧ H b = some (.tup (ks.map kV)) := by
  cases q with
  | p q =>
    cases q with
    | tup a r =>
      have e := r.keys
      subst e
      exact ⟨_, rfl, s _ _ a⟩
/-- {} whose keys will be tuples -/
theorem ve_dnewT (q : R (.own h.length) (h ++ [some (.dT [])])) : VE K Θ tDNewT env h R := fun F ρ σ H Q rl e k => fun p hp =>
  k (.own h.length) _ (.ref p) F (ρ ++ [p]) _ (Same.refl _) (Pre.push _ _) (rl.push (o := .dT []) hp ⟨[], rfl, .nil⟩) (.own (by rw [← rl.len]; simp)) q
theorem isDT {F : Hp} {ρ : List Addr} {H : Hp} {n : Nat} {a : Addr} {kvs : List (List Key × D)} (rl : Rel K Θ F ρ h H) (ha : ρ[n]? = some a) (hn : h[n]? = some (some (.dT kvs))) : ∃ gs, H a = some (.dT gs) ∧ RK K F ρ kvs gs := by
  obtain ⟨b, u, e1, e2, e3, gs, e4, e5⟩ := rl.own _ _ hn
  rw [ha] at e1; cases e1
  subst e4
  exact ⟨gs, e3, e5⟩
/-- d.get(k, z) -/
theorem ve_dget2 {td ty tx : TE} (q : VE K Θ td env h fun x h1 => ∃ n kv, x = .own n ∧ h1[n]? = some (some (.dT kv)) ∧ VE K Θ ty env h1 fun y h2 => VE K Θ tx env h2 fun z h3 => ∃ kvs ks, y = dT (ks.map kP) ∧ h3[n]? = some (some (.dT kvs)) ∧ R ((vK kvs ks).getD z) h3) :
    VE K Θ (tDGet2 td ty tx) env h R := fun F ρ σ H Q rl e k =>
  q F ρ σ H _ rl e fun x h1 vx F1 ρ1 H1 s1 p1 r1 dx q1 => by
    obtain ⟨n, kv, rfl, hn, q1⟩ := q1
    cases dx with
    | @own a _ ha =>
      obtain ⟨gs, g1, _⟩ := isDT r1 ha hn
      refine ⟨a, rfl, .inr ⟨gs, .inl g1⟩, ?_⟩
      refine q1 F1 ρ1 σ H1 _ r1 (e.mono s1 p1) fun y h2 vy F2 ρ2 H2 s2 p2 r2 dy q2 => ?_
      refine q2 F2 ρ2 σ H2 _ r2 (e.mono (s1.trans s2) (p1.trans p2)) fun z h3 vz F3 ρ3 H3 s3 p3 r3 dz q3 => ?_
      obtain ⟨kvs, ks, rfl, hn3, q3⟩ := q3
      obtain ⟨gs3, g3, rk3⟩ := isDT r3 (p3 _ _ (p2 _ _ ha)) hn3
      obtain ⟨b, rfl, hb⟩ := tupKey (r3.same) (dy.mono s3 p3)
      refine ⟨valV gs3 ks, .t g3 hb, ?_⟩
      have ss := s1.trans (s2.trans s3)
      have pp := p1.trans (p2.trans p3)
      rcases rk3.look (k := ks) with ⟨l1, l2⟩ | ⟨d, v, l1, l2, l3⟩
      · rw [l2]; rw [l1] at q3
        exact k z h3 vz F3 ρ3 H3 ss pp r3 dz q3
      · rw [l2]; rw [l1] at q3
        exact k d h3 v F3 ρ3 H3 ss pp r3 l3 q3
/-- d[k] = v -/
theorem vs_dput {td ty tv : TE} (q : VE K Θ tv env h fun v h1 => VE K Θ td env h1 fun x h2 => VE K Θ ty env h2 fun y h3 => ∃ n kvs ks, x = .own n ∧ y = dT (ks.map kP) ∧ h3[n]? = some (some (.dT kvs)) ∧ kvs.length < sizeLine ∧ E.nx env (h3.set n (some (.dT (pK kvs ks v))))) :
    VS K Θ (sDPut td ty tv) E env h := fun F ρ σ H D' rl e k =>
  q F ρ σ H _ rl e fun v h1 vv F1 ρ1 H1 s1 p1 r1 dv q1 => q1 F1 ρ1 σ H1 _ r1 (e.mono s1 p1) fun x h2 vx F2 ρ2 H2 s2 p2 r2 dx q2 => q2 F2 ρ2 σ H2 _ r2 (e.mono (s1.trans s2) (p1.trans p2)) fun y h3 vy F3 ρ3 H3 s3 p3 r3 dy q3 => by
    obtain ⟨n, kvs, ks, rfl, rfl, hn, hl, q3⟩ := q3
    cases dx with
    | @own a _ ha =>
      have ha3 := p3 _ _ ha
      obtain ⟨gs, g, rk⟩ := isDT r3 ha3 hn
      obtain ⟨b, rfl, hb⟩ := tupKey r3.same dy
      refine ⟨a, _, rfl, .t g hb (by rw [← rk.len]; exact hl), ?_⟩
      have ss := s1.trans (s2.trans s3)
      have pp := p1.trans (p2.trans p3)
      exact k.nx env _ F3 ρ3 σ _ ss pp (r3.put (o' := .dT (pK kvs ks v)) hn ha3 ⟨_, rfl, RK.put (dv.mono (s2.trans s3) (p2.trans p3)) rk⟩) (e.mono ss pp) q3
/-- d[k] -= e; e changes nothing -/
theorem vs_daug {td ty tv : TE} {rd : R2} (q : VE K Θ td env h fun x h1 => VE K Θ ty env h1 fun y h2 => ∃ n kvs ks d0, x = .own n ∧ y = dT (ks.map kP) ∧ h2[n]? = some (some (.dT kvs)) ∧ vK kvs ks = some d0 ∧ kvs.length < sizeLine ∧
    VE K Θ tv env h2 fun z h3 => h3 = h2 ∧ V2 K Θ rd d0 z h3 fun w h4 => h4 = h3 ∧ E.nx env (h4.set n (some (.dT (pK kvs ks w))))) : VS K Θ (sDAug td ty tv rd) E env h := fun F ρ σ H D' rl e k =>
  q F ρ σ H _ rl e fun x h1 vx F1 ρ1 H1 s1 p1 r1 dx q1 => q1 F1 ρ1 σ H1 _ r1 (e.mono s1 p1) fun y h2 vy F2 ρ2 H2 s2 p2 r2 dy q2 => by
    obtain ⟨n, kvs, ks, d0, rfl, rfl, hn, hd, hl, q2⟩ := q2
    cases dx with
    | @own a _ ha =>
      have ha2 := p2 _ _ ha
      obtain ⟨gs, g, rk⟩ := isDT r2 ha2 hn
      obtain ⟨b, rfl, hb⟩ := tupKey r2.same dy
      rcases rk.look (k := ks) with ⟨l1, _⟩ | ⟨d, v, l1, l2, l3⟩
      · rw [hd] at l1; cases l1
      · rw [hd] at l1; cases l1
        have gg : DGet H2 a (.ref b) (some v) := by
          have z := DGet.t (k := ks) g hb
          rw [l2] at z
          exact z
        refine ⟨a, v, rfl, gg, ?_⟩
        refine q2 F2 ρ2 σ H2 _ r2 (e.mono (s1.trans s2) (p1.trans p2)) fun z h3 vz F3 ρ3 H3 s3 p3 r3 dz q3 => ?_
        obtain ⟨rfl, q3⟩ := q3
        refine q3 F3 ρ3 H3 v vz _ r3 (l3.mono s3 p3) dz fun w h4 vw F4 ρ4 H4 s4 p4 r4 dw q4 => ?_
        obtain ⟨rfl, q4⟩ := q4
        have ha4 := p4 _ _ (p3 _ _ ha2)
        obtain ⟨gs4, g4, rk4⟩ := isDT r4 ha4 hn
        obtain ⟨b4, eb, hb4⟩ := tupKey r4.same (dy.mono (s3.trans s4) (p3.trans p4))
        cases eb
        refine ⟨_, .t g4 hb4 (by rw [← rk4.len]; exact hl), ?_⟩
        have ss := s1.trans (s2.trans (s3.trans s4))
        have pp := p1.trans (p2.trans (p3.trans p4))
        exact k.nx env _ F4 ρ4 σ _ ss pp (r4.put (o' := .dT (pK kvs ks w)) hn ha4 ⟨_, rfl, RK.put dw rk4⟩) (e.mono ss pp) q4
theorem v2_rsub {i j : Int} (q : R (dI (i - j)) h) : V2 K Θ rSub (dI i) (dI j) h R := fun F ρ H vx vy Q rl a b k => by
  obtain rfl := a.int
  obtain rfl := b.int
  exact ⟨i, j, rfl, rfl, k _ h _ F ρ H (Same.refl _) (Pre.refl _) rl (.p (.int _)) q⟩
theorem v2_radd {i j : Int} (q : R (dI (i + j)) h) : V2 K Θ rAdd (dI i) (dI j) h R := fun F ρ H vx vy Q rl a b k => by
  obtain rfl := a.int
  obtain rfl := b.int
  exact ⟨i, j, rfl, rfl, k _ h _ F ρ H (Same.refl _) (Pre.refl _) rl (.p (.int _)) q⟩
/-! ### lists -/
theorem RA.take' {F : Hp} {ρ : List Addr} {ds : List D} {vs : List V} (r : RA K F ρ ds vs) (i : Nat) : RA K F ρ (ds.take i) (vs.take i) := r.take i
theorem vm_insert {n : Nat} {xs : List D} {i : Int} (hn : h[n]? = some (some (.lst xs))) (hl : xs.length < sizeLine) (h0 : 0 ≤ i ∧ i < 2 ^ 63) (q : R dN (h.set n (some (.lst (xs.take i.toNat ++ [y] ++ xs.drop i.toNat))))) :
    VM K Θ (fun x vs H Q => ∃ (l : Addr) (xs : List V) (i : Int) (y : V), x = .ref l ∧ vs = [.int i, y] ∧ H l = some (.lst xs) ∧ xs.length < sizeLine ∧ 0 ≤ i ∧ i < 2 ^ 63 ∧ Q .non (upd H l (.lst (xs.take i.toNat ++ [y] ++ xs.drop i.toNat)))) (.own n) [dI i, y] h R := fun F ρ H vx vs Q rl a b k => by
  cases a with
  | own a =>
    cases b with
    | cons b c =>
      cases c with
      | cons c c2 =>
        cases c2
        obtain rfl := b.int
        obtain ⟨p, u, e1, e2, e3, us, e4, e5⟩ := rl.own _ _ hn
        rw [a] at e1; cases e1
        subst e4
        refine ⟨_, us, i, _, rfl, rfl, e3, by rw [← e5.len]; exact hl, h0.1, h0.2, ?_⟩
        exact k _ _ _ F ρ _ (Same.refl _) (Pre.refl _) (rl.put (o' := .lst (xs.take i.toNat ++ [y] ++ xs.drop i.toNat)) hn a ⟨_, rfl, ((e5.take _).append (.cons c .nil)).append (e5.drop _)⟩) (.p .non) q
/-- an own list and one that stays, joined: a new list that stays -/
theorem v2_addWO {n : Nat} {i j : List P} (hn : h[n]? = some (some (.lst (i.map D.p)))) (hl : i.length + j.length ≤ sizeLine) (q : R (dL (i ++ j)) h) : V2 K Θ (rAddW K) (.own n) (dL j) h R := v2_or2 (v2_or2 (v2_or2 fun F ρ H vx vy Q rl a b k => by
  cases a with
  | own a =>
    cases b with
    | p b =>
      cases b with
      | lst b1 b2 =>
        obtain ⟨p, u, e1, e2, e3, us, e4, e5⟩ := rl.own _ _ hn
        rw [a] at e1; cases e1
        subst e4
        have a2 := e5.pure
        refine ⟨_, _, _, _, rfl, rfl, .of e3, rl.same.seq b1, by rw [← a2.len, ← b2.len]; exact hl, fun p hp => ?_⟩
        have sn := fun o => same_new (o := o) (rl.free hp)
        exact k _ h _ _ ρ _ (sn _) (Pre.refl _) (rl.frz hp) (.p (.lst (.of upd_same) ((a2.append b2).mono (sn _)))) q))
end
end Kb

/-! What may be raised: defs that raise, raise, try .. except. -/
namespace Kb
open PySem PySem.Spec PyProof.Rows L2
/-- a promise of a def that may raise: W args heap what-follows the-errors -/
abbrev SpcX := List D → Hs → (D → Hs → Prop) → (Exn → Hs → Prop) → Prop
def spDX (K : PySem.W.Frag) (T : List Addr) (W : SpcX) : Sp := fun vs H Q E => ∃ (ds : List D) (h : Hs) (F : Hp) (ρ : List Addr) (R : D → Hs → Prop) (RX : Exn → Hs → Prop), Base K T F ρ h H ∧ RA K F ρ ds vs ∧ W ds h R RX ∧
  (∀ (d : D) (h' : Hs) (v : V) (F' : Hp) (ρ' : List Addr) (H' : Hp), Same F F' → Pre ρ ρ' → Base K T F' ρ' h' H' → RD K F' ρ' d v → R d h' → Q v H') ∧ Wish K (Ctx.dfn T E RX) F ρ
section
variable {P : Program} {w : World} {K : PySem.W.Frag} {mg : Str → Option Value} {base : Heap} {x : Str} {st : Stmt} {N ps : List Str} {k : Nat} {T : List Addr}
/-- a def of the text that may raise -/
theorem DefAt.okX (A : DefAt K mg x st ps) (S : FnScope N ps (defScope st)) (W : SpcX) (len : ∀ ds h R RX, W ds h R RX → ds.length = ps.length)
    (hbody : ∀ (f : Addr) (cdv : Value) (A : Around) (outer : List Env) (s : Shared) (H : Hp) (E : XK), Room k (A.deeper (envOfC x (defScope st) s.heap.objs.size f cdv)) →
      ∃ t, PSs (cxOf (L2.CX P w) P w K mg base N x (defScope st) f cdv A outer s H E) (defBody st) t ∧ ∀ ds h R RX, W ds h R RX → VS K (Ctx.dfn T E RX) t { nx := fun _ h' => R dN h', rt := R } (startD N ds) h) : HasF P w K mg base (L2.CX P w) (k + 1) x ps (spDX K T W) := by
  obtain ⟨f, fd, F, hm, hb⟩ := A.ex
  refine ⟨⟨f, fd, F.okX S (fun vs H Q E h => ?_) (fun cdv A outer s H vs Q E hr h => ?_), hm, F.kp, hb⟩⟩
  · obtain ⟨ds, h, F, ρ, R, RX, rl, ra, hw, _⟩ := h
    rw [← ra.len]
    exact len ds h R RX hw
  · obtain ⟨ds, h, F, ρ, R, RX, rl, ra, hw, kq, wq⟩ := h
    obtain ⟨t, ht, q⟩ := hbody f cdv A outer s H E hr
    exact ⟨t, ht, q ds h R RX hw F ρ _ H _ ⟨rl, wq⟩ (renv_start ra) ⟨fun env' h' F' ρ' σ' H' s p r e q => kq dN h' .non F' ρ' H' s p r.toBase (.p .non) q, fun d h' v F' ρ' H' s p r dv q => kq d h' v F' ρ' H' s p r.toBase dv q, fun _ _ _ _ _ _ _ _ _ _ z => z.elim, fun _ _ _ _ _ _ _ _ _ _ z => z.elim⟩⟩
end
section
variable {K : PySem.W.Frag} {Θ : Ctx} {env : Env'} {h : Hs} {R : D → Hs → Prop} {ta : TE} {t : TA}
/-- raise C('..'): as a term -/
def tRaise (E : XK) (C : Addr) : TS := fun _ _ H => E (.ref C) none H
def tRaise1 (E : XK) (C : Addr) (ta : TE) : TS := fun _ σ H => ta σ H fun _ H1 => E (.ref C) none H1
theorem vs_raise {T : List Addr} {E : XK} {RX : Exn → Hs → Prop} {C : Addr} {N : En} (q : RX ⟨C, none⟩ h) : VS K (Ctx.dfn T E RX) (tRaise E C) N env h := fun F ρ σ H D' rl e k =>
  rl.wish.run ⟨C, none⟩ none env h F ρ σ H (Same.refl _) (Pre.refl _) rl.toBase e rfl q
theorem vs_raise1 {T : List Addr} {E : XK} {RX : Exn → Hs → Prop} {C : Addr} {N : En} (q : VE K (Ctx.dfn T E RX) ta env h fun _ h1 => RX ⟨C, none⟩ h1) : VS K (Ctx.dfn T E RX) (tRaise1 E C ta) N env h := fun F ρ σ H D' rl e k =>
  q F ρ σ H _ rl e fun d h1 v F1 ρ1 H1 s1 p1 r1 dv q1 => r1.wish.run ⟨C, none⟩ none env h1 F1 ρ1 σ H1 (Same.refl _) (Pre.refl _) r1.toBase (e.mono s1 p1) rfl q1
/-- f(..) of a def that may raise, in a def that may raise -/
theorem ve_callX {T : List Addr} {E : XK} {RX : Exn → Hs → Prop} {W : SpcX} (q : VA K (Ctx.dfn T E RX) t env h fun xs h1 => W xs h1 R RX) : VE K (Ctx.dfn T E RX) (tCall (spDX K T W) [] E t) env h R := fun F ρ σ H Q rl e k =>
  q F ρ σ H _ rl e fun xs h1 vs F1 ρ1 H1 s1 p1 r1 dxs q1 => ⟨xs, h1, F1, ρ1, R, RX, r1.toBase, by rw [List.append_nil]; exact dxs, q1,
    fun d h' v F' ρ' H' s3 p3 r3 dv q3 => k d h' v F' ρ' H' (s1.trans s3) (p1.trans p3) ⟨r3, r1.wish.mono s3 p3⟩ dv q3, ⟨r1.wish.run, fun _ _ z => by cases z⟩⟩
/-- f(..) of a def that may raise, within a try -/
theorem ve_callS {W : SpcX} (q : VA K Θ t env h fun xs h1 => W xs h1 R fun X h' => Θ.ex X env h') : VE K Θ (tCallS (spDX K Θ.tabs W) Θ.wish t) env h R := fun F ρ σ H Q rl e k =>
  q F ρ σ H _ rl e fun xs h1 vs F1 ρ1 H1 s1 p1 r1 dxs q1 => ⟨xs, h1, F1, ρ1, R, _, r1.toBase, dxs, q1,
    fun d h' v F' ρ' H' s3 p3 r3 dv q3 => k d h' v F' ρ' H' (s1.trans s3) (p1.trans p3) ⟨r3, r1.wish.mono s3 p3⟩ dv q3,
    ⟨fun X d env' h' F' ρ' σ' H' s3 p3 b _ xa ex => r1.wish.run X d env h' F' ρ' σ H' s3 p3 b (e.mono (s1.trans s3) (p1.trans p3)) xa ex, fun _ _ z => by cases z⟩⟩
/-- a try: the body's context -/
abbrev Ctx.try' (Θ : Ctx) (W : WX) (EX : Exn → Env' → Hs → Prop) : Ctx := ⟨Θ.tabs, fun σ cls d H => W cls d σ H, EX, Θ.fl⟩
theorem EnOk.try' {W : WX} {EX : Exn → Env' → Hs → Prop} {F : Hp} {ρ : List Addr} {E : En} {D' : Ends} (wi : Wish K Θ F ρ) (k : EnOk K Θ F ρ E D') : EnOk K (Θ.try' W EX) F ρ E D' :=
  ⟨fun env h F2 ρ2 σ H a b r => k.nx env h F2 ρ2 σ H a b ⟨r.toBase, wi.mono a b⟩, fun d h v F2 ρ2 H a b r => k.rt d h v F2 ρ2 H a b ⟨r.toBase, wi.mono a b⟩,
   fun env h F2 ρ2 σ H a b r => k.bk env h F2 ρ2 σ H a b ⟨r.toBase, wi.mono a b⟩, fun env h F2 ρ2 σ H a b r => k.ct env h F2 ρ2 σ H a b ⟨r.toBase, wi.mono a b⟩⟩
/-- try: .. except C: .. -/
def tTry (K : PySem.W.Frag) (c : Value) (tb : WX → TS) (ts : Addr → Value → Option Addr → TS) (Wout : WX) : TS := fun D σ H => tb (wOnly K c ts Wout D) D σ H
theorem vs_try {c : Value} {tb : WX → TS} {ts : Addr → Value → Option Addr → TS} {N : En} (EX : Exn → Env' → Hs → Prop) (q : ∀ W : WX, VS K (Θ.try' W EX) (tb W) N env h)
    (hx : ∀ (X : Exn) (env' : Env') (h' : Hs), EX X env' h' → ∃ b, PySem.W.exmOne K (.ref X.cls) c = some b ∧ (b = true → ∀ a d, (X.fs = none → d = none) → VS K Θ (ts a (.ref X.cls) d) N env' h') ∧ (b = false → Θ.ex X env' h')) :
    VS K Θ (tTry K c tb ts fun cls d σ H => Θ.wish σ cls d H) N env h := fun F ρ σ H D' rl e k => by
  refine q _ F ρ σ H D' ⟨rl.toBase, ⟨fun X d env' h' F' ρ' σ' H' s p b re xa ex => ?_, rl.wish.floor⟩⟩ e (k.try' rl.wish)
  obtain ⟨bb, hb, h1, h2⟩ := hx X env' h' ex
  refine ⟨bb, hb, fun z a na => h1 z a d (fun zf => ?_) F' ρ' σ' H' D' ⟨b, rl.wish.mono s p⟩ re (k.mono s p), fun z => rl.wish.run X d env' h' F' ρ' σ' H' s p b re xa (h2 z)⟩
  obtain ⟨c0, fs⟩ := X
  cases zf
  exact xa
/-- try: .. except C as n: .. -/
def tTryAs (K : PySem.W.Frag) (c : Value) (i : Nat) (tb : WX → TS) (ts : Addr → Value → Option Addr → TS) (Wout : WX) : TS := fun D σ H => tb (wAs K c i ts Wout D) D σ H
def En.wipe (i : Nat) (N : En) : En := { nx := fun env h => N.nx (env.set i none) h, rt := N.rt, bk := fun env h => N.bk (env.set i none) h, ct := fun env h => N.ct (env.set i none) h }
theorem EnOk.wipe {F : Hp} {ρ : List Addr} {N : En} {D' : Ends} (i : Nat) (k : EnOk K Θ F ρ N D') :
    EnOk K Θ F ρ (N.wipe i) { nx := fun σ' H' => D'.nx (σ'.set i none) H', rt := D'.rt, bk := fun σ' H' => D'.bk (σ'.set i none) H', ct := fun σ' H' => D'.ct (σ'.set i none) H' } :=
  ⟨fun env h F2 ρ2 σ H a b r e => k.nx _ h F2 ρ2 _ H a b r e.wipe, k.rt, fun env h F2 ρ2 σ H a b r e => k.bk _ h F2 ρ2 _ H a b r e.wipe, fun env h F2 ρ2 σ H a b r e => k.ct _ h F2 ρ2 _ H a b r e.wipe⟩
theorem vs_tryAs {c : Value} {i : Nat} {tb : WX → TS} {ts : Addr → Value → Option Addr → TS} {N : En} (EX : Exn → Env' → Hs → Prop) (q : ∀ W : WX, VS K (Θ.try' W EX) (tb W) N env h)
    (hx : ∀ (X : Exn) (env' : Env') (h' : Hs), EX X env' h' → ∃ b, PySem.W.exmOne K (.ref X.cls) c = some b ∧ (b = true → ∀ a d, (X.fs = none → d = none) → VS K Θ (ts a (.ref X.cls) d) (N.wipe i) (env'.set i (some (.p (.cls a)))) h') ∧ (b = false → Θ.ex X env' h')) :
    VS K Θ (tTryAs K c i tb ts fun cls d σ H => Θ.wish σ cls d H) N env h := fun F ρ σ H D' rl e k => by
  refine q _ F ρ σ H D' ⟨rl.toBase, ⟨fun X d env' h' F' ρ' σ' H' s p b re xa ex => ?_, rl.wish.floor⟩⟩ e (k.try' rl.wish)
  obtain ⟨bb, hb, h1, h2⟩ := hx X env' h' ex
  refine ⟨bb, hb, fun z a na => h1 z a d (fun zf => ?_) F' ρ' _ H' _ ⟨b, rl.wish.mono s p⟩ (re.set (.p (.cls a))) ((k.mono s p).wipe i), fun z => rl.wish.run X d env' h' F' ρ' σ' H' s p b re xa (h2 z)⟩
  obtain ⟨c0, fs⟩ := X
  cases zf
  exact xa
/-- a suite whose error's class is known -/
def tKnown (C : Addr) (ts : Addr → TS) (a : Addr) (cls : Value) (d : Option Addr) : TS := fun D σ H => cls = .ref C ∧ d = none ∧ ts a D σ H
theorem vs_known {C : Addr} {ts : Addr → TS} {a : Addr} {N : En} (q : VS K Θ (ts a) N env h) : VS K Θ (tKnown C ts a (.ref C) none) N env h := fun F ρ σ H D' rl e k => ⟨rfl, rfl, q F ρ σ H D' rl e k⟩
/-- isinstance(e, C), e the suite's own error -/
theorem vc_isE {Dc a : Addr} {c : D} {cv : Value} {b : Bool} (hc : (∃ n, c = .p (.ty n) ∧ cv = .type n) ∨ ∃ C, c = .p (.cls C) ∧ cv = .ref C) (e : PySem.W.kitOne K (.ref Dc) cv = some b) (q : R (dB b) h) : VC K Θ (rIsE K Dc a) [.p (.cls a), c] h R := fun F ρ H vs Q rl ra k => by
  cases ra with
  | cons r1 ra =>
    cases ra with
    | cons r2 ra =>
      cases ra
      cases r1 with
      | p r1 =>
        cases r1
        rcases hc with ⟨n, rfl, rfl⟩ | ⟨C, rfl, rfl⟩
        · cases r2 with
          | p r2 =>
            cases r2
            exact ⟨_, _, b, rfl, fun u z => z, e, k _ h _ F ρ H (Same.refl _) (Pre.refl _) rl (.p (.bl b)) q⟩
        · cases r2 with
          | p r2 =>
            cases r2
            exact ⟨_, _, b, rfl, fun u z => z, e, k _ h _ F ρ H (Same.refl _) (Pre.refl _) rl (.p (.bl b)) q⟩
end
section
variable {X : Cx} {C : Addr} {B newId initId : String} {bmB : List Value} {x : Str} {e : Expr} {ta : TE} {p pos pos' : Pos} {E : XK}
theorem ps_raiseD {m : Str} {j : Nat} {p2 : Pos} (hc : X.calm = true) (tk : Takes X fun cls d _ H => E cls d H) (F : ExcBaseFacts B newId initId bmB) (q : PySem.W.excIn X.K C bmB newId = true) (gC : X.mg x = some (.ref C)) (kC : PySem.W.keepIn X.K (.ref C) = true) (r : Raises X (.ref C)) (hg : Gl X x)
    (hdb : (x == ("__debug__" : Str)) = false := by decide) : PS X (.Raise (some (.Call (.Name x p) [.Constant (.str m) j p2] [] pos)) none pos') (tRaise E C) := ps_raise hc tk (pmk_own F q gC kC r hg hdb)
theorem ps_raiseD1 (hc : X.calm = true) (tk : Takes X fun cls d _ H => E cls d H) (F : ExcBaseFacts B newId initId bmB) (q : PySem.W.excIn X.K C bmB newId = true) (gC : X.mg x = some (.ref C)) (kC : PySem.W.keepIn X.K (.ref C) = true) (r : Raises X (.ref C)) (hg : Gl X x) (he : PE X e ta)
    (hs : starEach [e] X.env = (false, eval e X.env) :: starEach [] X.env := by rfl) (hdb : (x == ("__debug__" : Str)) = false := by decide) : PS X (.Raise (some (.Call (.Name x p) [e] [] pos)) none pos') (tRaise1 E C ta) := ps_raise hc tk (SkE.pmk_own1 F q gC kC r hg he hs hdb)
theorem call_isEK {K : PySem.W.Frag} {a D : Addr} {oe : Obj} {pn : List (Addr × Obj)} (hK : X.K = K) (C : ExcC K D) (hz : Zc (.ref D) none oe) (hf : ∃ vs, oe.data = .fields vs) : CallR (X.suite a ((a, oe) :: pn)) (.builtin "isinstance") (rIsE K D a) := by
  subst hK
  exact call_isE C hz hf
theorem pss_known {body : List Stmt} {ts : Addr → TS} (h : ∀ (a : Addr) (oe : Obj) (pn : List (Addr × Obj)), Zc (.ref C) none oe → (∃ vs, oe.data = .fields vs) → PSs (X.suite a ((a, oe) :: pn)) body (ts a)) :
    ∀ (a : Addr) (oe : Obj) (cls : Value) (d : Option Addr) (pn : List (Addr × Obj)), Zc cls d oe → (∃ vs, oe.data = .fields vs) → PSs (X.suite a ((a, oe) :: pn)) body (tKnown C ts a cls d) := fun a oe cls d pn hz hf =>
  ⟨fun pins s σ H D I z => by
    obtain ⟨rfl, rfl, z⟩ := z
    exact (h a oe pn hz hf).run pins s σ H D I z⟩
end
section
variable {X : Cx} {x n : Str} {c : Value} {i : Nat} {body suite : List Stmt} {b₀ : Stmt} {np pos pos' : Pos} {tb : WX → TS} {ts : Addr → Value → Option Addr → TS}
/-- a try that lets nothing else out -/
theorem ps_tryD {K : PySem.W.Frag} (hK : X.K = K) (hs : X.stack = X.env :: X.outer) (hf : X.env.frame = some X.env.locals) (hc : Names X x c)
    (hb : ∀ (W : WX) (pn : List (Addr × Obj)) (xe : Value → Shared → Prop), Takes (X.tr pn xe) W → PassesOwn (model X.prog X.w) X.A X.env xe → PSs (X.tr pn xe) body (tb W))
    (hsu : ∀ (a : Addr) (oe : Obj) (cls : Value) (d : Option Addr) (pn : List (Addr × Obj)), Zc cls d oe → (∃ vs, oe.data = .fields vs) → PSs (X.suite a ((a, oe) :: pn)) (b₀ :: suite) (ts a cls d)) :
    PS X (.Try body [.ExceptHandler (some (.Name x np)) none (b₀ :: suite) pos'] [] [] pos) (tTry K c tb ts fun _ _ _ _ => False) := hK ▸ ps_try_only hs hf hc takes0 hb hsu
theorem ps_tryAsD {K : PySem.W.Frag} (hK : X.K = K) (hs : X.stack = X.env :: X.outer) (hf : X.env.frame = some X.env.locals) (hN : X.N.Nodup) (hi : X.N[i]? = some n) (hln : X.env.kindOf n = some .local) (hc : Names X x c)
    (hb : ∀ (W : WX) (pn : List (Addr × Obj)) (xe : Value → Shared → Prop), Takes (X.tr pn xe) W → PassesOwn (model X.prog X.w) X.A X.env xe → PSs (X.tr pn xe) body (tb W))
    (hsu : ∀ (a : Addr) (oe : Obj) (cls : Value) (d : Option Addr) (pn : List (Addr × Obj)), Zc cls d oe → (∃ vs, oe.data = .fields vs) → PSs (X.suite a ((a, oe) :: pn)) (b₀ :: suite) (ts a cls d)) :
    PS X (.Try body [.ExceptHandler (some (.Name x np)) (some n) (b₀ :: suite) pos'] [] [] pos) (tTryAs K c i tb ts fun _ _ _ _ => False) := hK ▸ ps_try_as hs hf hN hi hln hc takes0 hb hsu
end
section
variable {X : Cx} {k : Nat} {x : Str} {ps : List Str} {sp : Sp} {p pos : Pos} {e : Expr} {es : List Expr} {t : TA} {W : WX}
theorem HasF.callS (h : HasF X.prog X.w X.K X.mg X.base (L2.CX X.prog X.w) k x ps sp) (hr : Room k X.A) (hg : Gl X x) (tk : Takes X W)
    (ha : PA X (e :: es) t) (hdb : (x == ("__debug__" : Str)) = false := by decide) (he : starEach (e :: es) X.env = (false, eval e X.env) :: starEach es X.env := by rfl) (hpl : (backTo pos (starEach es X.env)).any (·.1) = false := by rfl) :
    PE X (.Call (.Name x p) (e :: es) [] pos) (tCallS sp (WE W) t) := by
  obtain ⟨f, fd, F, hm, hk, hb⟩ := h.ex
  exact pe_callS F hr hg hm hk hb (fun σ => passAt tk σ) ha hdb he hpl
end
/-! ### what is known of an error's class -/
section
variable {K : PySem.W.Frag} {N D : Addr} {r : Bool}
theorem kitCls_of (i : PySem.W.isClsIn K D = true) (t : PySem.W.typeIn K (.ref D) = some (.type "type")) (s : PySem.W.subIn K (.ref N) (.ref D) = some r) : PySem.W.kitCls K (.ref N) (.ref D) = some r := by
  have i' : (PySem.W.clsIn K D).isSome = true := i
  show (if ((PySem.W.clsIn K D).isSome && PySem.W.typeIn K (.ref D) == some (.type "type")) = true then PySem.W.subIn K (.ref N) (.ref D) else none) = _
  rw [i', t, if_pos (by simp), s]
theorem exm_cls (b : PySem.W.subIn K (.ref D) (.type "BaseException") = some true) (i : PySem.W.isClsIn K D = true) (t : PySem.W.typeIn K (.ref D) = some (.type "type")) (s : PySem.W.subIn K (.ref N) (.ref D) = some r) : PySem.W.exmOne K (.ref N) (.ref D) = some r := by
  unfold PySem.W.exmOne
  rw [b, if_pos (by simp), kitCls_of i t s]
theorem kit_cls (n : (N == D) = false) (i : PySem.W.isClsIn K D = true) (t : PySem.W.typeIn K (.ref D) = some (.type "type")) (s : PySem.W.subIn K (.ref N) (.ref D) = some r) : PySem.W.kitOne K (.ref N) (.ref D) = some r := by
  unfold PySem.W.kitOne
  have n' : ¬ (Value.ref N == Value.ref D) = true := fun z => by
    have e := eq_of_beq z
    cases e
    simp at n
  rw [if_neg n', kitCls_of i t s]
theorem kit_self : PySem.W.kitOne K (.ref N) (.ref N) = some true := by
  unfold PySem.W.kitOne
  rw [if_pos (beq_self_eq_true _)]
theorem kit_base {T : String} (k : PySem.W.kitMeta T = true) (s : PySem.W.subIn K (.ref N) (.type T) = some r) : PySem.W.kitOne K (.ref N) (.type T) = some r := by
  unfold PySem.W.kitOne
  have n' : ¬ (Value.ref N == Value.type T) = true := fun z => by
    have e := eq_of_beq z
    cases e
  rw [if_neg n']
  show (if PySem.W.kitMeta T = true then PySem.W.subIn K (.ref N) (.type T) else none) = _
  rw [if_pos k, s]
end
end Kb

/-! Texts: walked over, split, sliced, put together; what stands in them. -/
namespace Kb
open PySem PySem.Spec PyProof.Rows L2
section
variable {K : PySem.W.Frag} {Θ : Ctx} {env : Env'} {h : Hs} {R : D → Hs → Prop} {te : TE}
/-- a text's characters -/
def chP (z : Str) : List P := z.cps.toList.map fun c => .str ⟨#[c]⟩
theorem vi_str {R : List D → (Hs → Prop) → Hs → Prop} (q : VE K Θ te env h fun x h1 => ∃ z, x = dS z ∧ R ((chP z).map D.p) (fun _ => True) h1) : VI K Θ (iStr te) env h R := fun F ρ σ H Q rl e k =>
  q F ρ σ H _ rl e fun x h1 vx F1 ρ1 H1 s1 p1 r1 dx q1 => by
    obtain ⟨z, rfl, q1⟩ := q1
    obtain rfl := dx.str
    have hl : ((chP z).map D.p).length = z.cps.size := by unfold chP; simp
    refine ⟨z, rfl, k ((chP z).map D.p) (fun _ => True) h1 _ F1 ρ1 H1 s1 p1 r1 ⟨fun F' ρ' h' H' s p r _ => ?_, fun i F' ρ' h' H' s p r _ hi => ?_, fun i d F' ρ' h' H' x H2 s p r _ hd hy => ?_⟩ q1⟩
    · show z.cps.size ≤ _
      rw [hl]
      exact Nat.le_refl _
    · rw [hl] at hi
      exact hi
    · obtain ⟨e1, c, e2, e3⟩ := hy
      subst e1 e3
      have : d = dS ⟨#[c]⟩ := by
        unfold chP at hd
        rw [List.getElem?_map, List.getElem?_map, Array.getElem?_toList, e2] at hd
        exact (Option.some.inj hd).symm
      subst this
      exact ⟨F', Same.refl _, r, .p (.str _)⟩
theorem RPs.of_strs {F : Hp} : ∀ ys : List Str, RPs K F (ys.map P.str) (ys.map V.str)
  | [] => .nil
  | y :: ys => .cons (.str y) (RPs.of_strs ys)
theorem vm_split {a b : Str} (hb : (b.length == 0) = false) (ha : a.length + 2 ≤ sizeLine) (q : R (dL ((Txt.split a b).map P.str)) h) :
    VM K Θ (fun x xs H Q => ∃ a b, x = V.str a ∧ xs = [V.str b] ∧ (b.length == 0) = false ∧ a.length + 2 ≤ sizeLine ∧ rNewStrs (Txt.split a b) H Q) (dS a) [dS b] h R := fun F ρ H vx vs Q rl x y k => by
  obtain rfl := x.str
  cases y with
  | cons y e =>
    cases e
    obtain rfl := y.str
    refine ⟨a, b, rfl, rfl, hb, ha, fun p hp => ?_⟩
    exact k _ h _ (upd F p (.lst ((Txt.split a b).map V.str))) ρ _ (same_new (rl.free hp)) (Pre.refl _) (rl.frz hp) (.p (.lst (.of upd_same) (RPs.of_strs _))) q
theorem ve_slS {tl th : TO} (q : VE K Θ te env h fun x h1 => VO K Θ tl env h1 fun lo h2 => VO K Θ th env h2 fun hi h3 => ∃ z, x = dS z ∧ z.length ≤ sizeLine ∧ R (dS (cutS z lo hi)) h3) : VE K Θ (tSl rSlS te tl th) env h R := fun F ρ σ H Q rl e k =>
  q F ρ σ H _ rl e fun x h1 v F1 ρ1 H1 s1 p1 r1 dx q1 => q1 F1 ρ1 σ H1 _ r1 (e.mono s1 p1) fun lo h2 F2 ρ2 H2 s2 p2 r2 q2 => q2 F2 ρ2 σ H2 _ r2 (e.mono (s1.trans s2) (p1.trans p2)) fun hi h3 F3 ρ3 H3 s3 p3 r3 q3 => by
    obtain ⟨z, rfl, hz, q3⟩ := q3
    obtain rfl := dx.str
    exact ⟨z, rfl, hz, k _ h3 _ F3 ρ3 _ (s1.trans (s2.trans s3)) (p1.trans (p2.trans p3)) r3 (.p (.str _)) q3⟩
theorem cutS_le (z : Str) (lo hi : Option Int) : (cutS z lo hi).length ≤ z.length := cutS_length z lo hi
theorem v2_inC {c : Nat} {z : Str} (q : R (dB (decide (c ∈ z.cps.toList))) h) : V2 K Θ (rInU K) (dS ⟨#[c]⟩) (dS z) h R := v2_or2 fun F ρ H vx vy Q rl a b k => by
  obtain rfl := a.str
  obtain rfl := b.str
  exact ⟨c, z, rfl, rfl, k _ h _ F ρ H (Same.refl _) (Pre.refl _) rl (.p (.bl _)) q⟩
theorem v2_ninC {c : Nat} {z : Str} (q : R (dB (!decide (c ∈ z.cps.toList))) h) : V2 K Θ (rNiU K) (dS ⟨#[c]⟩) (dS z) h R := v2_or2 fun F ρ H vx vy Q rl a b k => by
  obtain rfl := a.str
  obtain rfl := b.str
  exact ⟨c, z, rfl, rfl, k _ h _ F ρ H (Same.refl _) (Pre.refl _) rl (.p (.bl _)) q⟩
theorem RA.dropLast {F : Hp} {ρ : List Addr} {ds : List D} {vs : List V} (r : RA K F ρ ds vs) : RA K F ρ ds.dropLast vs.dropLast := by
  rw [List.dropLast_eq_take, List.dropLast_eq_take, r.len]
  exact r.take _
/-- xs.pop() -/
theorem vm_pop {n : Nat} {xs : List D} {d : D} (hn : h[n]? = some (some (.lst xs))) (hd : xs[xs.length - 1]? = some d) (q : R d (h.set n (some (.lst xs.dropLast)))) : VM K Θ rPop (.own n) [] h R := fun F ρ H vx vs Q rl a b k => by
  cases a with
  | own a =>
    cases b
    obtain ⟨p, u, e1, e2, e3, us, e4, e5⟩ := rl.own _ _ hn
    rw [a] at e1; cases e1
    subst e4
    obtain ⟨v, h1, h2⟩ := e5.get hd
    rw [e5.len] at h1
    exact ⟨_, us, v, rfl, rfl, e3, h1, k d _ v F ρ _ (Same.refl _) (Pre.refl _) (rl.put (o' := .lst xs.dropLast) hn a ⟨_, rfl, e5.dropLast⟩) h2 q⟩
theorem RA.strs {F : Hp} {ρ : List Addr} : ∀ {ns : List Str} {vs : List V}, RA K F ρ (ns.map dS) vs → vs = ns.map V.str
  | [], _, .nil => rfl
  | n :: ns, _, .cons a r => by
    rw [RA.strs r, a.str]
    rfl
/-- join of an own list -/
theorem vm_joinO {a : Str} {ys : List Str} {n : Nat} (hn : h[n]? = some (some (.lst (ys.map dS)))) (hl : (ys.map (·.length)).sum + ys.length * a.length ≤ 16777216) (q : R (dS (Txt.join a ys)) h) :
    VM K Θ (fun x xs H Q => ∃ a p, ∃ ys : List Str, x = V.str a ∧ xs = [V.ref p] ∧ (SqL K H p (ys.map V.str) ∨ SqT K H p (ys.map V.str)) ∧ (ys.map (·.length)).sum + ys.length * a.length ≤ 16777216 ∧ Q (.str (Txt.join a ys)) H) (dS a) [.own n] h R := fun F ρ H vx vs Q rl b c k => by
  obtain rfl := b.str
  cases c with
  | cons c e =>
    cases e
    cases c with
    | own c =>
      obtain ⟨p, u, e1, e2, e3, us, e4, e5⟩ := rl.own _ _ hn
      rw [c] at e1; cases e1
      subst e4
      obtain rfl := e5.strs
      exact ⟨a, _, ys, rfl, rfl, .inl (.of e3), hl, k _ h _ F ρ H (Same.refl _) (Pre.refl _) rl (.p (.str _)) q⟩
/-! ### f-strings -/
def VJ (K : PySem.W.Frag) (Θ : Ctx) : List TE → Str → Env' → Hs → (Str → Hs → Prop) → Prop
  | [], acc, _, h, R => R acc h
  | t :: ts, acc, env, h, R => VE K Θ t env h fun x h1 => ∃ y, x = dS y ∧ (acc ++ y).length ≤ sizeLine ∧ VJ K Θ ts (acc ++ y) env h1 R
theorem js_run : ∀ {ts : List TE} {acc : Str} {h : Hs} {R : Str → Hs → Prop} {F : Hp} {ρ : List Addr} {σ : L2.St} {H : Hp} {Q : Str → Hp → Prop}, VJ K Θ ts acc env h R → Rel K Θ F ρ h H → REnv K F ρ env σ →
    (∀ (y : Str) (h' : Hs) (F' : Hp) (ρ' : List Addr) (H' : Hp), Same F F' → Pre ρ ρ' → Rel K Θ F' ρ' h' H' → R y h' → Q y H') → tJs ts acc σ H Q
  | [], acc, h, R, F, ρ, σ, H, Q, q, rl, e, k => k acc h F ρ H (Same.refl _) (Pre.refl _) rl q
  | t :: ts, acc, h, R, F, ρ, σ, H, Q, q, rl, e, k => q F ρ σ H _ rl e fun x h1 v F1 ρ1 H1 s1 p1 r1 dx q1 => by
    obtain ⟨y, rfl, hl, q1⟩ := q1
    obtain rfl := dx.str
    exact ⟨y, rfl, hl, js_run q1 r1 (e.mono s1 p1) fun y h' F' ρ' H' s p r q2 => k y h' F' ρ' H' (s1.trans s) (p1.trans p) r q2⟩
theorem ve_js {ts : List TE} (q : VJ K Θ ts Str.empty env h fun y h1 => R (dS y) h1) : VE K Θ (fun σ H Q => tJs ts Str.empty σ H fun out H1 => Q (.str out) H1) env h R := fun F ρ σ H Q rl e k =>
  js_run q rl e fun y h' F' ρ' H' s p r q2 => k (dS y) h' _ F' ρ' H' s p r (.p (.str _)) q2
theorem ve_fmtI (q : VE K Θ te env h fun x h1 => ∃ i : Int, x = dI i ∧ i.natAbs.log2 < 1920 ∧ R (dS (toString i)) h1) : VE K Θ (tFmt te) env h R := fun F ρ σ H Q rl e k =>
  q F ρ σ H _ rl e fun x h1 v F1 ρ1 H1 s1 p1 r1 dx q1 => by
    obtain ⟨i, rfl, hl, q1⟩ := q1
    obtain rfl := dx.int
    exact .inr ⟨i, rfl, hl, k _ h1 _ F1 ρ1 H1 s1 p1 r1 (.p (.str _)) q1⟩
/-- the text of a natural number has few digits -/
theorem num_len {i : Int} {k : Nat} (hk : 0 < k) (h0 : 0 ≤ i) (h : i < (10 : Int) ^ k) : ((toString i : String) : Str).length ≤ k := by
  obtain ⟨n, rfl⟩ := Int.eq_ofNat_of_zero_le h0
  have e := SX.num_S n
  show (Str.ofString (toString (n : Int))).length ≤ k
  rw [e, SX.S_len]
  exact TL.numL_len hk (by exact_mod_cast h)
end
end Kb

/-! Errors with one field of their own. -/
namespace Kb
open PySem PySem.Spec PyProof.Rows L2
/-- what an __init__ of one field promises -/
def spInit1 (C : Addr) (f : Str) : Sp := fun vs H Q _ => ∃ (a : Addr) (v : V), vs = [.ref a, v] ∧ H a = some (exo a C none) ∧ ∀ dx, H dx = none → dx ≠ a → Q .non (upd (upd H dx (exd dx [(f, v)])) a (exo a C (some dx)))
/-- raise C(e): the field f holds e's value -/
def tRaiseF (E : XK) (C : Addr) (f : Str) (t : TA) : TS := fun _ σ H => tMkO C (spInit1 C f) [] t σ H fun cls d H' => E cls d H'
theorem upd_made {H : Hp} {a dx : Addr} {x y z : HO} {w : HO} (na : H a = none) (ne : dx ≠ a) : upd (del (upd (upd (upd H a x) dx y) a z) a) dx w = upd H dx w := by
  funext b
  by_cases h1 : b = dx
  · subst h1
    rw [upd_same, upd_same]
  · rw [upd_ne h1, upd_ne h1]
    by_cases h2 : b = a
    · subst h2
      rw [del_same, na]
    · rw [del_ne h2, upd_ne h2, upd_ne h1, upd_ne h2]
section
variable {K : PySem.W.Frag} {env : Env'} {h : Hs} {t : TA}
theorem vs_raiseF {T : List Addr} {E : XK} {RX : Exn → Hs → Prop} {C : Addr} {f : Str} {N : En} (q : VA K (Ctx.dfn T E RX) t env h fun xs h1 => ∃ p, xs = [.p p] ∧ RX ⟨C, some [(f, p)]⟩ h1) : VS K (Ctx.dfn T E RX) (tRaiseF E C f t) N env h := fun F ρ σ H D' rl e k =>
  q F ρ σ H _ rl e fun xs h1 vs F1 ρ1 H1 s1 p1 r1 dxs q1 => by
    obtain ⟨p, rfl, q1⟩ := q1
    cases dxs with
    | cons dv dr =>
      cases dr
      cases dv with
      | p dv =>
        refine ⟨by simp, fun a na => ?_⟩
        refine ⟨a, _, rfl, upd_same, fun dx nd ne => ?_⟩
        have nd' : H1 dx = none := by
          rw [upd_ne ne] at nd
          exact nd
        refine ⟨rfl, dx, _, upd_same, by rw [upd_ne ne, upd_same], nd', ?_⟩
        rw [upd_made na ne]
        rename_i v
        have r2 := r1.frz (p := dx) (o := .xd [(f, v)]) nd'
        exact r2.wish.run ⟨C, some [(f, p)]⟩ (some dx) env h1 _ ρ1 σ _ (Same.refl _) (Pre.refl _) r2.toBase ((e.mono s1 p1).mono (same_new (r1.free nd')) (Pre.refl _)) ⟨dx, _, rfl, upd_same, .cons (dv.mono (same_new (r1.free nd'))) .nil⟩ q1
/-- a floor: what is known to stand there -/
abbrev Ctx.on (Θ : Ctx) (F0 : Hp) : Ctx := ⟨Θ.tabs, Θ.wish, Θ.ex, F0⟩
theorem Wish.on {Θ : Ctx} {F0 F : Hp} {ρ : List Addr} (w : Wish K (Θ.on F0) F ρ) (s : Same Θ.fl F0) : Wish K Θ F ρ := ⟨w.run, s.trans w.floor⟩
theorem EnOk.on {Θ : Ctx} {F0 F : Hp} {ρ : List Addr} {E : En} {D' : Ends} (s : Same Θ.fl F0) (k : EnOk K Θ F ρ E D') : EnOk K (Θ.on F0) F ρ E D' :=
  ⟨fun env h F2 ρ2 σ H a b r => k.nx env h F2 ρ2 σ H a b ⟨r.toBase, r.wish.on s⟩, fun d h v F2 ρ2 H a b r => k.rt d h v F2 ρ2 H a b ⟨r.toBase, r.wish.on s⟩,
   fun env h F2 ρ2 σ H a b r => k.bk env h F2 ρ2 σ H a b ⟨r.toBase, r.wish.on s⟩, fun env h F2 ρ2 σ H a b r => k.ct env h F2 ρ2 σ H a b ⟨r.toBase, r.wish.on s⟩⟩
/-- try: .. except C as n: .., with what the error holds -/
theorem vs_tryAsF {Θ : Ctx} {h : Hs} {c : Value} {i : Nat} {tb : WX → TS} {ts : Addr → Value → Option Addr → TS} {N : En} (EX : Exn → Env' → Hs → Prop) (q : ∀ W : WX, VS K (Θ.try' W EX) (tb W) N env h)
    (hx : ∀ (X : Exn) (env' : Env') (h' : Hs), EX X env' h' → ∃ b, PySem.W.exmOne K (.ref X.cls) c = some b ∧ (b = true → ∀ a d F0, XnAt K F0 X d → VS K (Θ.on F0) (ts a (.ref X.cls) d) (N.wipe i) (env'.set i (some (.p (.cls a)))) h') ∧ (b = false → Θ.ex X env' h')) :
    VS K Θ (tTryAs K c i tb ts fun cls d σ H => Θ.wish σ cls d H) N env h := fun F ρ σ H D' rl e k => by
  refine q _ F ρ σ H D' ⟨rl.toBase, ⟨fun X d env' h' F' ρ' σ' H' s p b re xa ex => ?_, rl.wish.floor⟩⟩ e (k.try' rl.wish)
  obtain ⟨bb, hb, h1, h2⟩ := hx X env' h' ex
  have sf := rl.wish.floor.trans s
  exact ⟨bb, hb, fun z a na => h1 z a d F' xa F' ρ' _ H' _ ⟨b, ⟨(rl.wish.mono s p).run, Same.refl _⟩⟩ (re.set (.p (.cls a))) (((k.mono s p).wipe i).on sf), fun z => rl.wish.run X d env' h' F' ρ' σ' H' s p b re xa (h2 z)⟩
/-- a suite whose error's class is known, and that has a dict -/
def tKnownF (C : Addr) (ts : Addr → Addr → TS) (a : Addr) (cls : Value) (d : Option Addr) : TS := fun D σ H => cls = .ref C ∧ ∃ dd, d = some dd ∧ ts a dd D σ H
theorem vs_knownF {Θ : Ctx} {h : Hs} {C a dd : Addr} {ts : Addr → Addr → TS} {N : En} (q : VS K Θ (ts a dd) N env h) : VS K Θ (tKnownF C ts a (.ref C) (some dd)) N env h := fun F ρ σ H D' rl e k => ⟨rfl, dd, rfl, q F ρ σ H D' rl e k⟩
/-- err.f, err the suite's own error -/
theorem RPf.look {F : Hp} {f : Str} {p : P} : ∀ {fs : List (Str × P)} {gs : List (Str × V)}, RPf K F fs gs → fs.lookup f = some p → ∃ v, gs.lookup f = some v ∧ RP K F p v
  | _, _, .nil, h => by simp at h
  | _, _, .cons (f := g) q r, h => by
    by_cases e : f = g
    · subst e
      simp only [List.lookup, beq_self_eq_true] at h ⊢
      cases h
      exact ⟨_, rfl, q⟩
    · have e' : (f == g) = false := by simpa using e
      simp only [List.lookup, e'] at h ⊢
      exact RPf.look r h
theorem ve_xf {Θ : Ctx} {h : Hs} {C a dd : Addr} {f : Str} {te : TE} {R : D → Hs → Prop} {p : P} {fs : List (Str × P)} {F0 : Hp} (hx : XnAt K F0 ⟨C, some fs⟩ (some dd)) (hl : fs.lookup f = some p) (q : VE K (Θ.on F0) te env h fun x h1 => x = .p (.cls a) ∧ R (.p p) h1) :
    VE K (Θ.on F0) (tXf a (.ref C) (some dd) C f te) env h R := fun F ρ σ H Q rl e k =>
  q F ρ σ H _ rl e fun x h1 vx F1 ρ1 H1 s1 p1 r1 dx q1 => by
    obtain ⟨rfl, q1⟩ := q1
    obtain ⟨d1, gs, e1, e2, e3⟩ := hx
    cases e1
    obtain ⟨v, l1, l2⟩ := e3.look hl
    have sf := r1.wish.floor
    cases dx with
    | p dx =>
      cases dx
      exact ⟨rfl, rfl, dd, gs, v, rfl, (sf.trans r1.same) _ _ e2, l1, k _ h1 v F1 ρ1 H1 s1 p1 r1 (.p (l2.mono sf)) q1⟩
end
section
variable {P : Program} {w : World} {K : PySem.W.Frag} {mg : Str → Option Value} {base : Heap} {x qual f : Str} {st : Stmt} {N ps : List Str} {k : Nat} {fI C : Addr} {fd : FuncData}
/-- def __init__(self, f): self.f = f -/
theorem fn_init1 (F : Fun K x qual st fI fd) (S : FnScope N ps (defScope st)) (hps : ps.length = 2) (T : OexC K C) (no : PySem.W.findIn K (.ref C) f = some none)
    (hbody : ∀ (cdv : Value) (A : Around) (outer : List Env) (s : Shared) (H : Hp) (E : XK), PSs (cxOf CX0 P w K mg base N qual (defScope st) fI cdv A outer s H E).nox (defBody st) (tOst K f (tVar 0) (tVar 1))) :
    FnOk P w K mg base CX0 (k + 1) fI fd ps (spInit1 C f) := by
  refine F.ok S (fun vs H Q E h => ?_) fun cdv A outer s H vs Q E hr h => ?_
  · obtain ⟨a, v, rfl, _⟩ := h
    exact hps.symm
  · obtain ⟨a, v, rfl, h1, h2⟩ := h
    exact ⟨_, hbody cdv A outer s H E, v, rfl, .ref a, rfl, a, C, rfl, T, no, .inl ⟨h1, fun dx n1 n2 => h2 dx n1 n2⟩⟩
end
section
variable {X : Cx} {C fI : Addr} {x f : Str} {e : Expr} {es : List Expr} {ta : TA} {p pos pos' : Pos} {E : XK} {k : Nat} {fd : FuncData} {ps : List Str}
theorem ps_raiseF (hc : X.calm = true) (tk : Takes X fun cls d _ H => E cls d H) (T : OexC X.K C) (iC : PySem.W.findIn X.K (.ref C) "__init__" = some (some (.ref fI))) (tI : PySem.W.typeIn X.K (.ref fI) = some (.type "function"))
    (F1 : FnOk X.prog X.w X.K X.mg X.base CX0 k fI fd ps (spInit1 C f)) (hr : Room (k + 1) X.A) (hb : Binds X.K fd ps []) (hg : Gl X x) (hm : X.mg x = some (.ref C)) (ha : PA X (e :: es) ta)
    (hdb : (x == ("__debug__" : Str)) = false := by decide) (he : starEach (e :: es) X.env = (false, eval e X.env) :: starEach es X.env := by rfl) (hpl : (backTo pos (starEach es X.env)).any (·.1) = false := by rfl) :
    PS X (.Raise (some (.Call (.Name x p) (e :: es) [] pos)) none pos') (tRaiseF E C f ta) := ps_raise hc tk (pmk_oex T iC tI F1 hr hb .nil pass0 hg hm ha hdb he hpl)
theorem pss_knownF {body : List Stmt} {ts : Addr → Addr → TS} (h : ∀ (a dd : Addr) (oe : Obj) (pn : List (Addr × Obj)), Zc (.ref C) (some dd) oe → (∃ vs, oe.data = .fields vs) → PSs (X.suite a ((a, oe) :: pn)) body (ts a dd)) :
    ∀ (a : Addr) (oe : Obj) (cls : Value) (d : Option Addr) (pn : List (Addr × Obj)), Zc cls d oe → (∃ vs, oe.data = .fields vs) → PSs (X.suite a ((a, oe) :: pn)) body (tKnownF C ts a cls d) := fun a oe cls d pn hz hf =>
  ⟨fun pins s σ H D I z => by
    obtain ⟨rfl, dd, rfl, z⟩ := z
    exact (h a dd oe pn hz hf).run pins s σ H D I z⟩
end
/-- isinstance(e, c), e the suite's own error, whose dict is at dd -/
def rIsEF (K : PySem.W.Frag) (C a dd : Addr) : List V → Hp → VK → Prop := fun xs H Q => ∃ (c : V) (cv : Value) (b : Bool) (fs : List (Str × V)), xs = [.ref a, c] ∧ (∀ u, RelV c u → u = cv) ∧ H dd = some (.xd fs) ∧ PySem.W.kitOne K (.ref C) cv = some b ∧ Q (.bl b) H
theorem call_isEF {X : Cx} {K : PySem.W.Frag} {a dd C : Addr} {oe : Obj} {pn : List (Addr × Obj)} (hK : X.K = K) (T : ExcC K C) (hz : Zc (.ref C) (some dd) oe) (hf : ∃ vs, oe.data = .fields vs) : CallR (X.suite a ((a, oe) :: pn)) (.builtin "isinstance") (rIsEF K C a dd) := by
  subst hK
  intro pins s σ H xs us Q I r h
  obtain ⟨c, cv, b, fs, rfl, hcv, hd, e, q⟩ := h
  cases r with
  | cons rx rr =>
    cases rr with
    | cons rt rr =>
      cases rr
      cases rx
      have ec := hcv _ rt
      subst ec
      obtain ⟨hget, _⟩ := I.pin (a, oe) (List.mem_append.mpr (.inl List.mem_cons_self))
      obtain ⟨vs, hv⟩ := hf
      have hx : ObjOk X.prog X.w H s.heap dd (.xd fs) := I.hok dd _ hd
      obtain ⟨mA, hns, _⟩ := hx
      obtain ⟨od, ho, _⟩ := lookIn_ns hns
      have J : PySem.W.InstAt s.heap a oe C (some od) := ⟨hget, hz.1, by unfold PySem.W.notCls; rw [hv] <;> rfl, by rw [hz.2]; exact ho⟩
      have ic : (PySem.W.clsIn X.K C).isSome = true := by
        have z := T.hd
        unfold PySem.W.hasDictIn at z
        cases q : PySem.W.clsIn X.K C with
        | none => rw [q] at z; cases z
        | some cd => rfl
      exact PySem.W.kia_one (PySem.W.kitx_exc ic T.hg T.hk T.hs T.ha T.hn T.ht T.hm) I.kIn J e (fun z => nomatch z) fun tk => ⟨.bl b, H, I.kept (t' := tk) fun _ _ z => z, rfl, q⟩
section
variable {K : PySem.W.Frag} {h : Hs} {R : D → Hs → Prop}
theorem vc_isEF {Θ : Ctx} {F0 : Hp} {C a dd : Addr} {fs : List (Str × P)} {c : D} {cv : Value} {b : Bool} (hx : XnAt K F0 ⟨C, some fs⟩ (some dd)) (hc : (∃ n, c = .p (.ty n) ∧ cv = .type n) ∨ ∃ C, c = .p (.cls C) ∧ cv = .ref C) (e : PySem.W.kitOne K (.ref C) cv = some b) (q : R (dB b) h) :
    VC K (Θ.on F0) (rIsEF K C a dd) [.p (.cls a), c] h R := fun F ρ H vs Q rl ra k => by
  obtain ⟨d1, gs, e1, e2, e3⟩ := hx
  cases e1
  have hd := (rl.wish.floor.trans rl.same) _ _ e2
  cases ra with
  | cons r1 ra =>
    cases ra with
    | cons r2 ra =>
      cases ra
      cases r1 with
      | p r1 =>
        cases r1
        rcases hc with ⟨n, rfl, rfl⟩ | ⟨C', rfl, rfl⟩
        · cases r2 with
          | p r2 =>
            cases r2
            exact ⟨_, _, b, gs, rfl, fun u z => z, hd, e, k _ h _ F ρ H (Same.refl _) (Pre.refl _) rl (.p (.bl b)) q⟩
        · cases r2 with
          | p r2 =>
            cases r2
            exact ⟨_, _, b, gs, rfl, fun u z => z, hd, e, k _ h _ F ρ H (Same.refl _) (Pre.refl _) rl (.p (.bl b)) q⟩
end
end Kb

/-! del xs[a:]; instances that stay owned; dicts with written keys; own lists cut, joined, compared, walked over. -/
namespace Kb
open PySem PySem.Spec PyProof.Rows L2
section
theorem delPick {sel : Nat → Bool} {a : Nat} : ∀ (its : List Value) (o : Nat), (∀ k, k < o + its.length → sel k = decide (a ≤ k)) → ((its.zipIdx o).filterMap fun q => if sel q.2 = true then none else some q.1) = its.take (a - o)
  | [], _, _ => by simp
  | x :: r, o, h => by
    have ih := delPick (sel := sel) (a := a) r (o + 1) (fun k hk => h k (by rw [List.length_cons]; omega))
    rw [List.zipIdx_cons, List.filterMap_cons]
    have e := h o (by rw [List.length_cons]; omega)
    by_cases c : a ≤ o
    · have z : a - o = 0 := by omega
      have z' : a - (o + 1) = 0 := by omega
      rw [decide_eq_true c] at e
      simp only [e, if_true]
      rw [ih, z, z']
      simp
    · have z : a - o = (a - (o + 1)) + 1 := by omega
      rw [decide_eq_false c] at e
      simp only [e, if_false]
      rw [z, List.take_succ_cons, ← ih]
      simp
variable {prog : Program} {w : World} {A : Around} {E : Value → Shared → Prop} {s : Shared}
theorem delItem_from {l sl : Addr} {items : Array Value} {n a : Nat} {vl : Value} {lo : Option Int} {Q : Unit → Shared → Prop}
    (e : s.heap.get? l = some { cls := .type "list", data := .seq items n }) (hs : s.heap.IsSliceOf sl vl .none .none) (pl : IsPart vl lo) (ha : HT.sIx items.size 0 lo = a) (hsz : items.size ≤ sizeLine)
    (h : ∀ f : Array Value → Array Value, f items = (items.toList.take a).toArray → Q () { s with heap := s.heap.update l (Obj.mapSeq f) }) : wpAny (model prog w) A (delItem (.ref l) (.ref sl)) Q E s := by
  have hl : s.heap.IsList l items := PySem.IsL.isList e
  obtain ⟨os, hos, hcs, hds⟩ := id hs
  have hTs : s.TypeIs (.ref sl) "slice" := ⟨os, hos, hcs⟩
  have b3 := slice_bounds lo none items.size
  refine wpAny_delItem_slot hl.typeIs (by decide) F.slot_list_delitem (wpAny_call_entry F.slot_list_delitem hl.typeIs F.entry_list_delitem ?_ (F.args_list_delitem_2 _ _))
  show wpAny _ _ (Builtin.List.listSubscript? (.ref sl) >>= _) _ _ s
  refine wpAny_bind ?_
  unfold Builtin.List.listSubscript?; refine wpAny_bind (wpAny_specialOf hTs slice_no_index ?_); simp only [Option.isNone_none, if_true]
  refine wpAny_pure ?_
  show wpAny _ _ (typeOf (.ref sl) >>= _) _ _ s
  refine wpAny_bind (wpAny_typeOf hTs ?_); rw [if_neg (by decide)]; rw [listSliceParts_eq]
  refine wpAny_bind (wpAny_bind (wpAny_field hos hds (x := .none) rfl (wpAny_bind (wpAny_listPart (k := none) .none ?_)))); rw [if_neg (show ¬ (rawPart none == rawInt 0) = true from Bool.false_ne_true)]
  refine wpAny_bind (wpAny_field hos hds (x := vl) rfl (wpAny_bind (wpAny_listPart pl ?_))); refine wpAny_bind (wpAny_field hos hds (x := .none) rfl (wpAny_bind (wpAny_listPart (k := none) .none (wpAny_pure ?_))))
  unfold Builtin.List.listItems; refine wpAny_bind (wpAny_bind (wpAny_seqItems e rfl (wpAny_pure ?_)))
  refine wpAny_bind (wpAny_of_eq (sliceIndices_raw lo none none items.size (by simp)) ?_)
  refine wpAny_bind (wpAny_rule ?_)
  rw [b3.1, b3.2.1, b3.2.2, ha]
  have hN : HT.sIx items.size items.size none = items.size := by simp [HT.sIx]
  rw [hN]
  have hsel : ∀ (sel : Nat → Bool), (∀ k, k < items.size → sel k = decide (a ≤ k)) → (List.filterMap (fun q : Value × Nat => if sel q.2 = true then none else some q.1) items.toList.zipIdx).toArray = (items.toList.take a).toArray := fun sel hs => by
    rw [delPick (a := a) items.toList 0 (fun k hk => hs k (by rw [Array.length_toList] at hk; omega)), Nat.sub_zero]
  refine wpAny_bind (wpAny_updateSeq (hz := hsz) (_hz' := ?hz) e rfl ?_)
  case hz =>
    rw [List.size_toArray]
    refine Nat.le_trans (List.length_filterMap_le _ _) ?_
    rw [List.length_zipIdx, Array.length_toList]; omega
  refine wpAny_bind (wpAny_letGo ?_)
  refine wpAny_pure ⟨.none, rfl, h _ (hsel _ ?_)⟩
  intro k hk
  show (if (1 : Int) > 0 then (decide ((a : Int) ≤ (k : Int)) && decide ((k : Int) < (items.size : Int)) && ((k : Int) - (a : Int)) % 1 == 0) else _) = decide (a ≤ k)
  rw [if_pos (by decide), Int.emod_one]; simp; omega
end
section
variable {X : Cx} {o : Expr} {lo : Option Expr} {p2 tpos pos : Pos} {to : TE} {tl : TO}
def tDelS (to : TE) (tl : TO) : TS := fun D σ H => to σ H fun x H1 => tl σ H1 fun i H2 => ∃ (l : Addr) (xs : List V), x = .ref l ∧ H2 l = some (.lst xs) ∧ D.nx σ (upd H2 l (.lst (xs.take (HT.sIx xs.length 0 i))))
theorem ps_delS (ho : PE X o to) (hl : PO X lo tl) : PS X (.Delete [.Subscript o (.Slice lo none none p2) tpos] pos) (tDelS to tl) := by
  refine ⟨fun pins s σ H D I h => ?_⟩
  refine wpAny_Delete (wpAny_deleteEach_cons (wpAny_delete_Subscript (thn (ho.run pins s σ H _ I h) fun u s1 ⟨x, H1, I1, rx, q1⟩ => wpAny_Slice (thn (hl.run pins s1 σ H1 _ I1 q1) fun vl s2 ⟨i, H2, I2, pl, q2⟩ => ?_))))
  rw [evalPart_none]; refine wpAny_pure (wpAny_pure ?_)
  obtain ⟨l, xs, ex, hH, q2⟩ := q2
  subst ex
  cases (show u = Value.ref l from rx)
  have I4 : Inv X pins σ H2 { s2 with heap := s2.heap.push { cls := .type "slice", data := .fields #[vl, .none, .none] } } := I2.kept (t' := s2.toks) fun b ob q => Heap.get?_push_of_some _ q
  obtain ⟨z, its, n, r, hl2, e⟩ := I4.lstM hH
  have hz : its.toArray.size = xs.length := by rw [List.size_toArray]; exact r.length.symm
  refine delItem_from (a := HT.sIx xs.length 0 i) e (Heap.IsSliceOf.new ..) pl (by rw [hz]) (by rw [hz]; omega) fun f hf => wpAny_deleteEach_nil ⟨σ, _, I4.lset (its' := its.take (HT.sIx xs.length 0 i)) (t' := s2.toks) hH e hf (r.take _) ?_, q2⟩
  rw [List.length_take]; omega
end
section
variable {X : Cx} {CX : CXT} {k : Nat} {x : Str} {C : Addr} {ps : List Str} {sp : Sp} {E : XK} {p pos : Pos}
theorem HasMk.make0 (h : HasMk X.prog X.w X.K X.mg X.base CX k x C ps sp) (hr : Room (k + 1) X.A) (hg : Gl X x) (hx : Passes CX X E) (hdb : (x == ("__debug__" : Str)) = false := by decide) :
    PE X (.Call (.Name x p) [] [] pos) (tMake C sp [] E tNil) := by
  obtain ⟨f, fd, M, F, hb⟩ := h.ex
  exact pe_make0 M F hr hg h.at_ hb .nil hx hdb
end
section
variable {K : PySem.W.Frag} {Θ : Ctx} {env : Env'} {h : Hs} {R : D → Hs → Prop} {E : En} {x y : D} {te : TE} {t : TA} {C : Addr}
theorem vs_delS {to : TE} {tl : TO} (q : VE K Θ to env h fun x h1 => VO K Θ tl env h1 fun i h2 => ∃ n xs, x = .own n ∧ h2[n]? = some (some (.lst xs)) ∧ E.nx env (h2.set n (some (.lst (xs.take (HT.sIx xs.length 0 i)))))) : VS K Θ (tDelS to tl) E env h := fun F ρ σ H D' rl e k =>
  q F ρ σ H _ rl e fun x h1 vx F1 ρ1 H1 s1 p1 r1 dx q1 => q1 F1 ρ1 σ H1 _ r1 (e.mono s1 p1) fun i h2 F2 ρ2 H2 s2 p2 r2 q2 => by
    obtain ⟨n, xs, rfl, hx, q2⟩ := q2
    cases dx with
    | own ho =>
      have ho' := p2 _ _ ho
      obtain ⟨a, u, e1, e2, e3, vs, e4, e5⟩ := r2.own _ _ hx
      rw [ho'] at e1; cases e1
      subst e4
      refine ⟨_, vs, rfl, e3, ?_⟩
      rw [← e5.len]
      exact k.nx env _ F2 ρ2 σ _ (s1.trans s2) (p1.trans p2) (r2.put (o' := .lst (xs.take (HT.sIx xs.length 0 i))) hx ho' ⟨_, rfl, e5.take _⟩) (e.mono (s1.trans s2) (p1.trans p2)) q2
/-- C(..), the instance stays owned -/
theorem ve_makeO {W : Spc} {E : XK} (q : VA K Θ t env h fun xs h1 => W (.own h1.length :: xs) (h1 ++ [some (.ins C [])]) fun d h2 => d = dN ∧ R (.own h1.length) h2) : VE K Θ (tMake C (spD K Θ.tabs W) [] E t) env h R := fun F ρ σ H Q rl e k =>
  q F ρ σ H _ rl e fun xs h1 vs F1 ρ1 H1 s1 p1 r1 dxs q1 => by
    intro x dx hx hdx hne
    have hx' : (upd H1 dx (.own x)) x = none := by rw [upd_ne (Ne.symm hne)]; exact hx
    have sn : Same F1 (upd F1 dx (.own x)) := same_new (r1.free hdx)
    have r2 : Rel K Θ (upd F1 dx (.own x)) ρ1 h1 (upd H1 dx (.own x)) := r1.frz hdx
    have r3 := r2.push (o := .ins C []) (u := .ins C dx []) hx' ⟨dx, [], rfl, .nil⟩
    refine ⟨.own h1.length :: xs, _, _, ρ1 ++ [x], _, r3.toBase, .cons (.own (by rw [← r1.len]; simp)) (by rw [List.append_nil]; exact dxs.mono sn (Pre.push _ _)), q1, fun d h' v F' ρ' H' s p r dv q2 => ?_⟩
    obtain ⟨rfl, q2⟩ := q2
    refine ⟨dv.non, ?_⟩
    have ea : ρ'[h1.length]? = some x := p _ _ (by rw [← r1.len]; simp)
    exact k _ _ _ F' ρ' H' (s1.trans (sn.trans s)) (p1.trans ((Pre.push ρ1 x).trans p)) ⟨r, (r1.wish.mono (sn.trans s) ((Pre.push ρ1 x).trans p))⟩ (.own ea) q2
/-! ### dicts whose keys are numbers and texts -/
theorem isDK {F : Hp} {ρ : List Addr} {H : Hp} {n : Nat} {a : Addr} {kvs : List (Key × D)} (rl : Rel K Θ F ρ h H) (ha : ρ[n]? = some a) (hn : h[n]? = some (some (.dK kvs))) : ∃ gs, H a = some (.dK gs) ∧ RK K F ρ kvs gs := by
  obtain ⟨b, u, e1, e2, e3, gs, e4, e5⟩ := rl.own _ _ hn
  rw [ha] at e1; cases e1
  subst e4
  exact ⟨gs, e3, e5⟩
abbrev kD (k : Key) : D := .p (kP k)
theorem keyIs {F : Hp} {ρ : List Addr} {k : Key} {v : V} (q : RD K F ρ (kD k) v) : v = kV k := by
  cases k with
  | inl i => exact q.int
  | inr s => exact q.str
/-- d[k] -/
theorem ve_dix {td ty : TE} (q : VE K Θ td env h fun x h1 => VE K Θ ty env h1 fun y h2 => ∃ n kvs k d, x = .own n ∧ y = kD k ∧ h2[n]? = some (some (.dK kvs)) ∧ vK kvs k = some d ∧ R d h2) : VE K Θ (tDGet td ty) env h R := fun F ρ σ H Q rl e k =>
  q F ρ σ H _ rl e fun x h1 vx F1 ρ1 H1 s1 p1 r1 dx q1 => q1 F1 ρ1 σ H1 _ r1 (e.mono s1 p1) fun y h2 vy F2 ρ2 H2 s2 p2 r2 dy q2 => by
    obtain ⟨n, kvs, kk, d, rfl, rfl, hn, hd, q2⟩ := q2
    cases dx with
    | @own a _ ha =>
      obtain ⟨gs, g, rk⟩ := isDK r2 (p2 _ _ ha) hn
      rcases rk.look (k := kk) with ⟨l1, _⟩ | ⟨d', v, l1, l2, l3⟩
      · rw [hd] at l1; cases l1
      · rw [hd] at l1; cases l1
        refine ⟨a, v, rfl, ?_, k d h2 v F2 ρ2 H2 (s1.trans s2) (p1.trans p2) r2 l3 q2⟩
        rw [keyIs dy, ← l2]
        exact .k g
/-- d[k] = v -/
theorem vs_dputK {td ty tv : TE} (q : VE K Θ tv env h fun v h1 => VE K Θ td env h1 fun x h2 => VE K Θ ty env h2 fun y h3 => ∃ n kvs k, x = .own n ∧ y = kD k ∧ h3[n]? = some (some (.dK kvs)) ∧ kvs.length < sizeLine ∧ E.nx env (h3.set n (some (.dK (pK kvs k v))))) :
    VS K Θ (sDPut td ty tv) E env h := fun F ρ σ H D' rl e k =>
  q F ρ σ H _ rl e fun v h1 vv F1 ρ1 H1 s1 p1 r1 dv q1 => q1 F1 ρ1 σ H1 _ r1 (e.mono s1 p1) fun x h2 vx F2 ρ2 H2 s2 p2 r2 dx q2 => q2 F2 ρ2 σ H2 _ r2 (e.mono (s1.trans s2) (p1.trans p2)) fun y h3 vy F3 ρ3 H3 s3 p3 r3 dy q3 => by
    obtain ⟨n, kvs, kk, rfl, rfl, hn, hl, q3⟩ := q3
    cases dx with
    | @own a _ ha =>
      have ha3 := p3 _ _ ha
      obtain ⟨gs, g, rk⟩ := isDK r3 ha3 hn
      have ss := s1.trans (s2.trans s3)
      have pp := p1.trans (p2.trans p3)
      rw [keyIs dy]
      refine ⟨a, _, rfl, .k g (by rw [← rk.len]; exact hl), ?_⟩
      exact k.nx env _ F3 ρ3 σ _ ss pp (r3.put (o' := .dK (pK kvs kk v)) hn ha3 ⟨_, rfl, RK.put (dv.mono (s2.trans s3) (p2.trans p3)) rk⟩) (e.mono ss pp) q3
/-- the pairs of a display -/
inductive RPr (K : PySem.W.Frag) (F : Hp) (ρ : List Addr) : List (D × D) → List (V × V) → Prop
  | nil : RPr K F ρ [] []
  | cons {x y : D} {u v : V} {ds : List (D × D)} {vs : List (V × V)} : RD K F ρ x u → RD K F ρ y v → RPr K F ρ ds vs → RPr K F ρ ((x, y) :: ds) ((u, v) :: vs)
def VP (K : PySem.W.Frag) (Θ : Ctx) (trs : List (TE × TE)) (env : Env') (h : Hs) (R : List (D × D) → Hs → Prop) : Prop :=
  ∀ (F : Hp) (ρ : List Addr) (σ : L2.St) (H : Hp) (Q : List (V × V) → Hp → Prop), Rel K Θ F ρ h H → REnv K F ρ env σ →
    (∀ (d : List (D × D)) (h' : Hs) (v : List (V × V)) (F' : Hp) (ρ' : List Addr) (H' : Hp), Same F F' → Pre ρ ρ' → Rel K Θ F' ρ' h' H' → RPr K F' ρ' d v → R d h' → Q v H') → tPairs trs σ H Q
theorem RPr.mono {F F' : Hp} {ρ ρ' : List Addr} (e : Same F F') (p : Pre ρ ρ') : ∀ {d : List (D × D)} {v : List (V × V)}, RPr K F ρ d v → RPr K F' ρ' d v
  | _, _, .nil => .nil
  | _, _, .cons a b r => .cons (a.mono e p) (b.mono e p) (r.mono e p)
theorem vp_nil {R : List (D × D) → Hs → Prop} (q : R [] h) : VP K Θ [] env h R := fun F ρ σ H Q rl e k => k [] h [] F ρ H (Same.refl _) (Pre.refl _) rl .nil q
theorem vp_cons {tk tv : TE} {r : List (TE × TE)} {R : List (D × D) → Hs → Prop} (q : VE K Θ tk env h fun x h1 => VE K Θ tv env h1 fun y h2 => VP K Θ r env h2 fun ps h3 => R ((x, y) :: ps) h3) : VP K Θ ((tk, tv) :: r) env h R := fun F ρ σ H Q rl e k =>
  q F ρ σ H _ rl e fun x h1 vx F1 ρ1 H1 s1 p1 r1 dx q1 => q1 F1 ρ1 σ H1 _ r1 (e.mono s1 p1) fun y h2 vy F2 ρ2 H2 s2 p2 r2 dy q2 => q2 F2 ρ2 σ H2 _ r2 (e.mono (s1.trans s2) (p1.trans p2)) fun ps h3 vs F3 ρ3 H3 s3 p3 r3 dps q3 =>
    k _ h3 _ F3 ρ3 H3 (s1.trans (s2.trans s3)) (p1.trans (p2.trans p3)) r3 (.cons (dx.mono (s2.trans s3) (p2.trans p3)) (dy.mono s3 p3) dps) q3
def mergeD (kvs more : List (Key × D)) : List (Key × D) := more.foldl (fun acc kv => pK acc kv.1 kv.2) kvs
theorem RPr.keys {F : Hp} {ρ : List Addr} : ∀ {kvs : List (Key × D)} {vs : List (V × V)}, RPr K F ρ (kvs.map fun kv => (kD kv.1, kv.2)) vs → ∃ gs : List (Key × V), vs = gs.map (fun kv => (kV kv.1, kv.2)) ∧ RK K F ρ kvs gs
  | [], _, .nil => ⟨[], rfl, .nil⟩
  | (kk, d) :: r, _, .cons a b t => by
    obtain ⟨gs, e, q⟩ := t.keys
    rw [keyIs a, e]
    exact ⟨(kk, _) :: gs, rfl, .cons b q⟩
theorem RK.merge {F : Hp} {ρ : List Addr} : ∀ {more : List (Key × D)} {ms : List (Key × V)} {kvs : List (Key × D)} {gs : List (Key × V)}, RK K F ρ more ms → RK K F ρ kvs gs → RK K F ρ (mergeD kvs more) (mergeK gs ms)
  | [], _, _, _, .nil, r => r
  | (kk, _) :: _, _, _, _, .cons q t, r => by
    have z := RK.merge t (RK.put (k := kk) q r)
    exact z
theorem ve_disp {trs : List (TE × TE)} (q : VP K Θ trs env (h ++ [some (.dK [])]) fun ps h1 => h1[h.length]? = some (some (.dK [])) ∧ ∃ kvs : List (Key × D), ps = kvs.map (fun kv => (kD kv.1, kv.2)) ∧ kvs.length ≤ 15 ∧ R (.own h.length) (h1.set h.length (some (.dK (mergeD [] kvs))))) :
    VE K Θ (tDisp trs) env h R := fun F ρ σ H Q rl e k p hp =>
  q F (ρ ++ [p]) σ _ _ (rl.push (o := .dK []) hp ⟨[], rfl, .nil⟩) (e.mono (Same.refl _) (Pre.push _ _)) fun ps h1 vs F1 ρ1 H1 s1 p1 r1 dps q1 => by
    obtain ⟨hn, kvs, rfl, hl, q1⟩ := q1
    have ha : ρ1[h.length]? = some p := p1 _ _ (by rw [← rl.len]; simp)
    obtain ⟨gs0, g, rk0⟩ := isDK r1 ha hn
    cases rk0
    obtain ⟨gs, rfl, rk⟩ := dps.keys
    refine ⟨g, gs, rfl, by rw [← rk.len]; exact hl, ?_⟩
    exact k _ _ (.ref p) F1 ρ1 _ s1 ((Pre.push ρ p).trans p1) (r1.put (o' := .dK (mergeD [] kvs)) hn ha ⟨_, rfl, RK.merge rk .nil⟩) (.own ha) q1
/-- a list that stays, or an own one -/
def SeqL (d : D) (h : Hs) (ps : List P) : Prop := match d with
  | .p (.lst xs) => xs = ps
  | .own i => h[i]? = some (some (.lst (ps.map D.p)))
  | _ => False
theorem SeqL.v {F : Hp} {ρ : List Addr} {H : Hp} {d : D} {v : V} {ps : List P} (s : SeqL d h ps) (rl : Rel K Θ F ρ h H) (a : RD K F ρ d v) : ∃ p vs, v = .ref p ∧ SqL K H p vs ∧ RPs K F ps vs := by
  cases a with
  | p a =>
    cases a with
    | lst a r => cases s; exact ⟨_, _, rfl, rl.same.seq a, r⟩
    | _ => exact s.elim
  | own a =>
    obtain ⟨p, u, e1, e2, e3, vs, e4, e5⟩ := rl.own _ _ s
    rw [a] at e1; cases e1
    subst e4
    exact ⟨_, _, rfl, .of e3, e5.pure⟩
/-- plain data, or an own list of such -/
def PyD (d : D) (h : Hs) (p : P) : Prop := match d with
  | .p y => y = p
  | .own i => ∃ ps, p = .lst ps ∧ h[i]? = some (some (.lst (ps.map D.p)))
theorem PyD.dp {F : Hp} {ρ : List Addr} {H : Hp} {d : D} {v : V} {p : P} (s : PyD d h p) (rl : Rel K Θ F ρ h H) (a : RD K F ρ d v) (pl : plainP p = true) : Dp K H v (pyOf p) := by
  cases a with
  | p a => cases s; exact a.dp rl.same pl
  | own a =>
    obtain ⟨ps, rfl, hn⟩ := s
    obtain ⟨q, u, e1, e2, e3, vs, e4, e5⟩ := rl.own _ _ hn
    rw [a] at e1; cases e1
    subst e4
    exact .lst (.of e3) (RPs.dp rl.same e5.pure (by unfold plainP at pl; exact pl))
theorem v2_eqM {x y : D} {p p' : P} (hx : PyD x h p) (hy : PyD y h p') (lx : plainP p = true) (ly : plainP p' = true) (sx : SeqAt.shaped (pyOf p) = true) (sy : SeqAt.shaped (pyOf p') = true) (q : R (dB (PyData.eqv (pyOf p) (pyOf p'))) h) : V2 K Θ (rEqU K) x y h R := v2_or2 fun F ρ H vx vy Q rl a b k =>
  ⟨_, _, hx.dp rl a lx, hy.dp rl b ly, sx, sy, k _ h _ F ρ H (Same.refl _) (Pre.refl _) rl (.p (.bl _)) q⟩
theorem v2_neM {x y : D} {p p' : P} (hx : PyD x h p) (hy : PyD y h p') (lx : plainP p = true) (ly : plainP p' = true) (sx : SeqAt.shaped (pyOf p) = true) (sy : SeqAt.shaped (pyOf p') = true) (q : R (dB (!PyData.eqv (pyOf p) (pyOf p'))) h) : V2 K Θ (rNeU K) x y h R := v2_or2 fun F ρ H vx vy Q rl a b k =>
  ⟨_, _, hx.dp rl a lx, hy.dp rl b ly, sx, sy, k _ h _ F ρ H (Same.refl _) (Pre.refl _) rl (.p (.bl _)) q⟩
theorem plain_ints (ns : List Int) : plainP (.lst (ns.map P.int)) = true := by
  unfold plainP
  induction ns with
  | nil => rfl
  | cons n ns ih => rw [List.map_cons]; unfold plainP.plainPs; rw [ih]; rfl
theorem shaped_ints (ns : List Int) : SeqAt.shaped (pyOf (.lst (ns.map P.int))) = true := by
  have e : PyData.canLayAll0 (pyOf.pyOfs (ns.map P.int)) = true ∧ PyData.depthAll (pyOf.pyOfs (ns.map P.int)) = 0 := by
    induction ns with
    | nil => simp [pyOf.pyOfs, PyData.canLayAll0, PyData.depthAll]
    | cons r rs ih => simp [pyOf.pyOfs, pyOf, PyData.canLayAll0, PyData.canLay0, PyData.depthAll, PyData.depth, ih.1, ih.2]
  simp only [SeqAt.shaped, pyOf, PyData.canLay0, PyData.depth, e.1, Bool.true_and, decide_eq_true_eq, e.2]
  omega
theorem eqvAll_ints : ∀ ns ms : List Int, PyData.eqvAll (pyOf.pyOfs (ns.map P.int)) (pyOf.pyOfs (ms.map P.int)) = decide (ns = ms)
  | [], [] => rfl
  | [], _ :: _ => rfl
  | _ :: _, [] => rfl
  | n :: ns, m :: ms => by
    have ih := eqvAll_ints ns ms
    simp only [List.map_cons, pyOf.pyOfs, pyOf, PyData.eqvAll, PyData.eqv, ih]
    by_cases e : n = m
    · subst e; simp
    · simp [e]
theorem eqv_ints (ns ms : List Int) : PyData.eqv (pyOf (.lst (ns.map P.int))) (pyOf (.lst (ms.map P.int))) = decide (ns = ms) := by
  show PyData.eqvAll _ _ = _
  exact eqvAll_ints ns ms
theorem v2_eqInts {x y : D} {ns ms : List Int} (hx : PyD x h (.lst (ns.map P.int))) (hy : PyD y h (.lst (ms.map P.int))) (q : R (dB (decide (ns = ms))) h) : V2 K Θ (rEqU K) x y h R :=
  v2_eqM hx hy (plain_ints ns) (plain_ints ms) (shaped_ints ns) (shaped_ints ms) (by rw [eqv_ints]; exact q)
theorem v2_neInts {x y : D} {ns ms : List Int} (hx : PyD x h (.lst (ns.map P.int))) (hy : PyD y h (.lst (ms.map P.int))) (q : R (dB (!decide (ns = ms))) h) : V2 K Θ (rNeU K) x y h R :=
  v2_neM hx hy (plain_ints ns) (plain_ints ms) (shaped_ints ns) (shaped_ints ms) (by rw [eqv_ints]; exact q)
/-! ### own lists -/
/-- own n extended by an own list -/
theorem vm_extO {n m : Nat} {xs ys : List D} (hn : h[n]? = some (some (.lst xs))) (hm : h[m]? = some (some (.lst ys))) (hl : xs.length + ys.length ≤ sizeLine) (q : R dN (h.set n (some (.lst (xs ++ ys))))) : VM K Θ rExtend (.own n) [.own m] h R := fun F ρ H vx vs Q rl a b k => by
  cases a with
  | own a =>
    cases b with
    | cons b c =>
      cases c
      cases b with
      | own b =>
        obtain ⟨p, u, e1, e2, e3, us, e4, e5⟩ := rl.own _ _ hn
        rw [a] at e1; cases e1
        subst e4
        obtain ⟨p2, u2, g1, g2, g3, us2, g4, g5⟩ := rl.own _ _ hm
        rw [b] at g1; cases g1
        subst g4
        refine ⟨_, _, us, us2, rfl, rfl, e3, g3, by rw [← e5.len, ← g5.len]; exact hl, ?_⟩
        exact k _ _ _ F ρ _ (Same.refl _) (Pre.refl _) (rl.put (o' := .lst (xs ++ ys)) hn a ⟨_, rfl, e5.append g5⟩) (.p .non) q
theorem RA.cut {F : Hp} {ρ : List Addr} {xs : List D} {vs : List V} (r : RA K F ρ xs vs) (lo hi : Option Int) : RA K F ρ (cutP xs lo hi) (cutV vs lo hi) := by
  unfold cutP cutV
  rw [r.len]
  exact (r.drop _).take _
/-- xs[lo:hi] of a list that stays: a new list that is owned -/
theorem ve_slLO {tl th : TO} (q : VE K Θ te env h fun x h1 => VO K Θ tl env h1 fun lo h2 => VO K Θ th env h2 fun hi h3 => ∃ ps, SeqL x h3 ps ∧ R (.own h3.length) (h3 ++ [some (.lst ((cutP ps lo hi).map D.p))])) : VE K Θ (tSl (rSlL K) te tl th) env h R := fun F ρ σ H Q rl e k =>
  q F ρ σ H _ rl e fun x h1 v F1 ρ1 H1 s1 p1 r1 dx q1 => q1 F1 ρ1 σ H1 _ r1 (e.mono s1 p1) fun lo h2 F2 ρ2 H2 s2 p2 r2 q2 => q2 F2 ρ2 σ H2 _ r2 (e.mono (s1.trans s2) (p1.trans p2)) fun hi h3 F3 ρ3 H3 s3 p3 r3 q3 => by
    obtain ⟨ps, sq, q3⟩ := q3
    obtain ⟨a, vs, rfl, hs, r⟩ := sq.v r3 (dx.mono (s2.trans s3) (p2.trans p3))
    refine ⟨_, _, rfl, hs, fun p hp => ?_⟩
    exact k _ _ _ F3 (ρ3 ++ [p]) _ (s1.trans (s2.trans s3)) (p1.trans (p2.trans (p3.trans (Pre.push _ _)))) (r3.push (o := .lst ((cutP ps lo hi).map D.p)) hp ⟨_, rfl, (r.cut lo hi).data⟩) (.own (by rw [← r3.len]; simp)) q3
/-- a new list that stays -/
theorem ve_slLF {tl th : TO} (q : VE K Θ te env h fun x h1 => VO K Θ tl env h1 fun lo h2 => VO K Θ th env h2 fun hi h3 => ∃ ps, SeqL x h3 ps ∧ R (dL (cutP ps lo hi)) h3) : VE K Θ (tSl (rSlL K) te tl th) env h R := fun F ρ σ H Q rl e k =>
  q F ρ σ H _ rl e fun x h1 v F1 ρ1 H1 s1 p1 r1 dx q1 => q1 F1 ρ1 σ H1 _ r1 (e.mono s1 p1) fun lo h2 F2 ρ2 H2 s2 p2 r2 q2 => q2 F2 ρ2 σ H2 _ r2 (e.mono (s1.trans s2) (p1.trans p2)) fun hi h3 F3 ρ3 H3 s3 p3 r3 q3 => by
    obtain ⟨ps, sq, q3⟩ := q3
    obtain ⟨a, vs, rfl, hs, r⟩ := sq.v r3 (dx.mono (s2.trans s3) (p2.trans p3))
    refine ⟨_, _, rfl, hs, fun p hp => ?_⟩
    have sn := fun o => same_new (o := o) (r3.free hp)
    exact k _ h3 _ _ ρ3 _ ((s1.trans (s2.trans s3)).trans (sn _)) (p1.trans (p2.trans p3)) (r3.frz hp) (.p (.lst (.of upd_same) ((r.cut lo hi).mono (sn _)))) q3
end
end Kb

/-! Promises that follow from others. -/
namespace Kb
open PySem PySem.Spec PyProof.Rows L2
section
variable {P : Program} {w : World} {K : PySem.W.Frag} {T : List Addr} {mg : Str → Option Value} {base : Heap} {CX : CXT} {k : Nat} {x m : Str} {C : Addr} {ps : List Str} {W W' : Spc}
theorem spD_weak (i : ∀ ds h R, W' ds h R → W ds h R) : ∀ vs H Q E, spD K T W' vs H Q E → spD K T W vs H Q E := fun vs H Q E ⟨ds, h, F, ρ, R, rl, ra, hw, kq⟩ => ⟨ds, h, F, ρ, R, rl, ra, i _ _ _ hw, kq⟩
theorem spD_fin (i : ∀ ds h R, W' ds h R → W ds h (Fin h R)) : ∀ vs H Q E, spD K T W' vs H Q E → spD K T W vs H Q E := fun vs H Q E ⟨ds, h, F, ρ, R, rl, ra, hw, kq⟩ =>
  ⟨ds, h, F, ρ, Fin h R, rl, ra, i _ _ _ hw, fun d h' v F' ρ' H' s p r dv f => fin_run (Θ := Ctx.plain T) (Q := fun v H => Q v H) rl.plain s p r.plain dv f fun d F2 s2 r2 d2 q2 => kq d h v F2 ρ H' s2 (Pre.refl _) r2.toBase d2 q2⟩
theorem HasF.weak (h : HasF P w K mg base CX k x ps (spD K T W)) (i : ∀ ds h R, W' ds h R → W ds h R) : HasF P w K mg base CX k x ps (spD K T W') := by
  obtain ⟨f, fd, F, a, b, c⟩ := h.ex
  exact ⟨f, fd, F.imp (spD_weak i), a, b, c⟩
theorem HasF.fin (h : HasF P w K mg base CX k x ps (spD K T W)) (i : ∀ ds h R, W' ds h R → W ds h (Fin h R)) : HasF P w K mg base CX k x ps (spD K T W') := by
  obtain ⟨f, fd, F, a, b, c⟩ := h.ex
  exact ⟨f, fd, F.imp (spD_fin i), a, b, c⟩
theorem HasM.weak (h : HasM P w K mg base CX k C m ps (spD K T W)) (i : ∀ ds h R, W' ds h R → W ds h R) : HasM P w K mg base CX k C m ps (spD K T W') := by
  obtain ⟨f, fd, M, F, b⟩ := h.ex
  exact ⟨h.cl, f, fd, M, F.imp (spD_weak i), b⟩
theorem HasM.fin (h : HasM P w K mg base CX k C m ps (spD K T W)) (i : ∀ ds h R, W' ds h R → W ds h (Fin h R)) : HasM P w K mg base CX k C m ps (spD K T W') := by
  obtain ⟨f, fd, M, F, b⟩ := h.ex
  exact ⟨h.cl, f, fd, M, F.imp (spD_fin i), b⟩
end
/-- an own list of written data as the def's end -/
theorem fin_own {h : Hs} {R : D → Hs → Prop} {ps : List P} {o : Option OO} (e : o = some (.lst (ps.map D.p))) (q : R (dL ps) h) : Fin h R (.own h.length) (h ++ [o]) :=
  ⟨[o], rfl, .inr (.inl ⟨h.length, ps, rfl, Nat.le_refl _, by simp [e], q⟩)⟩
/-- dicts stay as they are -/
def DSame (h h' : Hs) : Prop := ∀ (i : Nat) (kv : List (Key × D)), h[i]? = some (some (.dK kv)) → h'[i]? = some (some (.dK kv))
theorem DSame.refl (h : Hs) : DSame h h := fun _ _ e => e
theorem DSame.trans {a b c : Hs} (x : DSame a b) (y : DSame b c) : DSame a c := fun i kv e => y i kv (x i kv e)
theorem DSame.push {h : Hs} {o : Option OO} : DSame h (h ++ [o]) := fun i kv e => by
  rw [List.getElem?_append_left (List.getElem?_eq_some_iff.mp e).1]; exact e
theorem DSame.set {h : Hs} {n : Nat} {o u : Option OO} (hn : h[n]? = some u) (nd : ∀ kv, u ≠ some (.dK kv)) : DSame h (h.set n o) := fun i kv e => by
  have ne : n ≠ i := fun z => by rw [z, e] at hn; exact nd kv (Option.some.inj hn).symm
  rw [List.getElem?_set_ne ne]; exact e
end Kb

/-! Methods that raise; own lists that stay from here on; reversed(xs); lists of either kind joined. -/
namespace Kb
open PySem PySem.Spec PyProof.Rows L2
section
variable {P : Program} {w : World} {K : PySem.W.Frag} {mg : Str → Option Value} {base : Heap} {m qual : Str} {st : Stmt} {N ps : List Str} {k : Nat} {T : List Addr} {C : Addr}
/-- a method of the text that may raise -/
theorem MethAt.okX (A : MethAt K C m qual st ps) (cl : Cls K C) (S : FnScope N ps (defScope st)) (W : SpcX) (len : ∀ ds h R RX, W ds h R RX → ds.length = ps.length)
    (hbody : ∀ (f : Addr) (cdv : Value) (A : Around) (outer : List Env) (s : Shared) (H : Hp) (E : XK), Room k (A.deeper (envOfC qual (defScope st) s.heap.objs.size f cdv)) →
      ∃ t, PSs (cxOf (L2.CX P w) P w K mg base N qual (defScope st) f cdv A outer s H E) (defBody st) t ∧ ∀ ds h R RX, W ds h R RX → VS K (Ctx.dfn T E RX) t { nx := fun _ h' => R dN h', rt := R } (startD N ds) h) : HasM P w K mg base (L2.CX P w) (k + 1) C m ps (spDX K T W) := by
  obtain ⟨f, fd, F, M, hb⟩ := A.ex
  refine ⟨cl, ⟨f, fd, M, F.okX S (fun vs H Q E h => ?_) (fun cdv A outer s H vs Q E hr h => ?_), hb⟩⟩
  · obtain ⟨ds, h, F, ρ, R, RX, rl, ra, hw, _⟩ := h
    rw [← ra.len]
    exact len ds h R RX hw
  · obtain ⟨ds, h, F, ρ, R, RX, rl, ra, hw, kq, wq⟩ := h
    obtain ⟨t, ht, q⟩ := hbody f cdv A outer s H E hr
    exact ⟨t, ht, q ds h R RX hw F ρ _ H _ ⟨rl, wq⟩ (renv_start ra) ⟨fun env' h' F' ρ' σ' H' s p r e q => kq dN h' .non F' ρ' H' s p r.toBase (.p .non) q, fun d h' v F' ρ' H' s p r dv q => kq d h' v F' ρ' H' s p r.toBase dv q, fun _ _ _ _ _ _ _ _ _ _ z => z.elim, fun _ _ _ _ _ _ _ _ _ _ z => z.elim⟩⟩
end
theorem pi_reversedK {X : Cx} {tg e : Expr} {ta : TA} {p pos : Pos} {K : PySem.W.Frag} (hK : X.K = K) (hg : Gl X "reversed") (hm : X.mg "reversed" = none) (ha : PA X [e] ta) (hs : starEach [e] X.env = [(false, eval e X.env)] := by rfl) : PI X tg (.Call (.Name "reversed" p) [e] [] pos) (iRev K ta) := hK ▸ pi_reversed hg hm ha hs
/-- o.m() of a method that may raise, within a try -/
def tMethS0 (C : Addr) (m : Str) (sp : Sp) (E : L2.St → XK) (ta : TE) : TE := fun σ H Q => ta σ H fun x H1 => ∃ a dx fs, x = .ref a ∧ H1 a = some (.ins C dx fs) ∧ fs.lookup m = none ∧ sp [x] H1 Q (E σ)
section
variable {X : Cx} {k : Nat} {C : Addr} {m : Str} {ps : List Str} {sp : Sp} {pos apos : Pos} {o : Expr} {ta : TE} {W : WX}
theorem HasM.meth0S {pl : Sem Bool} (h : HasM X.prog X.w X.K X.mg X.base (L2.CX X.prog X.w) k C m ps sp) (hr : Room k X.A) (tk : Takes X W) (he : PE X o ta)
    (ht : eval (.Call (.Attribute o m apos) [] [] pos) X.env = (do
      let ov ← eval o X.env
      standAt apos.atName
      let (f, first) ← holding [ov] (getMethod ov m pl); callWith pos f first (backTo pos (starEach [] X.env)) (backToKw pos (keywordEach [] X.env))) := by rfl) :
    PE X (.Call (.Attribute o m apos) [] [] pos) (tMethS0 C m sp (WE W) ta) := by
  obtain ⟨f, fd, hm, F, hb⟩ := h.ex
  refine ⟨fun pins s σ H Q I h2 => ?_⟩
  refine PySem.W.methodCall_KW (pl := pl) (thn (he.run pins s σ H _ I h2) fun u s1 ⟨x, H1, I1, rx, a, dx, fs, ex, ea, l, q⟩ => ?_) ht
  subst ex
  obtain rfl : u = Value.ref a := rx
  refine getmeth_ok I1 ea h.cl hm l ?_
  exact PySem.W.callWith_K0 (first := [.ref a]) I1.kIn hm.kp (run_fnS (us := [.ref a]) (vs := [.ref a]) F hr hb (passAt tk σ) I1 (.cons rfl .nil) q)
end
section
variable {K : PySem.W.Frag} {Θ : Ctx} {env : Env'} {h : Hs} {R : D → Hs → Prop} {E : En} {ta : TE} {ts : TS}
theorem ve_meth0S {C : Addr} {m : Str} {W : SpcX} (q : VE K Θ ta env h fun x h1 => InsD C m x h1 ∧ W [x] h1 R fun X h' => Θ.ex X env h') : VE K Θ (tMethS0 C m (spDX K Θ.tabs W) Θ.wish ta) env h R := fun F ρ σ H Q rl e k =>
  q F ρ σ H _ rl e fun x h1 vx F1 ρ1 H1 s1 p1 r1 dx q1 => by
    obtain ⟨hi, q1⟩ := q1
    have go : ∀ a dd gs, vx = .ref a → H1 a = some (.ins C dd gs) → gs.lookup m = none → ∃ a dx fs, vx = .ref a ∧ H1 a = some (.ins C dx fs) ∧ fs.lookup m = none ∧ spDX K Θ.tabs W [vx] H1 Q (Θ.wish σ) := fun a dd gs g1 g2 g3 =>
      ⟨a, dd, gs, g1, g2, g3, [x], h1, F1, ρ1, R, _, r1.toBase, .cons dx .nil, q1, fun d h' v F' ρ' H' s3 p3 r3 dv q3 => k d h' v F' ρ' H' (s1.trans s3) (p1.trans p3) ⟨r3, r1.wish.mono s3 p3⟩ dv q3,
        ⟨fun X d env' h' F' ρ' σ' H' s3 p3 b _ xa ex => r1.wish.run X d env h' F' ρ' σ H' s3 p3 b (e.mono (s1.trans s3) (p1.trans p3)) xa ex, fun _ _ z => by cases z⟩⟩
    cases id dx with
    | p dx =>
      cases dx with
      | ins a b =>
        obtain ⟨rfl, l⟩ := hi
        exact go _ _ _ rfl (r1.same _ _ a) ((b.data (ρ := ρ1)).lookN l)
      | _ => exact hi.elim
    | own ho =>
      obtain ⟨fs, hx, l⟩ := hi
      obtain ⟨a, u, e1, e2, e3, dd, gs, e4, e5⟩ := r1.own _ _ hx
      rw [ho] at e1; cases e1
      subst e4
      exact go _ _ _ rfl e3 (e5.lookN l)
/-- from here on the own list in slot i stays as it is -/
theorem vs_freeze {i n : Nat} {ps : List P} (he : env[i]? = some (some (.own n))) (hn : h[n]? = some (some (.lst (ps.map D.p)))) (q : VS K Θ ts E (env.set i (some (dL ps))) (h.set n none)) : VS K Θ ts E env h := fun F ρ σ H D' rl e k => by
  obtain ⟨a, u, e1, e2, e3, e4, r4⟩ := rl.freeze hn
  obtain ⟨vs, rfl, e5⟩ := e4
  have sn := same_new (o := .lst vs) e2
  obtain ⟨v, g1, g2⟩ := e.get i _ he
  cases g2 with
  | own g2 =>
    rw [e1] at g2; cases g2
    have eσ : σ.set i (some (V.ref a)) = σ := by
      refine List.ext_getElem? fun j => ?_
      by_cases hj : i = j
      · subst hj
        rw [List.getElem?_set_self (List.getElem?_eq_some_iff.mp g1).1, g1]
      · rw [List.getElem?_set_ne hj]
    have z := (e.mono sn (Pre.refl _)).set (i := i) (d := dL ps) (v := .ref a) (.p (.lst (.of upd_same) e5.pure))
    rw [eσ] at z
    exact q _ ρ σ H D' r4 z (k.mono sn (Pre.refl _))
/-- reversed(xs), xs a list that stays -/
theorem vi_rev {t : TA} {R : List D → (Hs → Prop) → Hs → Prop} (q : VA K Θ t env h fun xs h1 => ∃ ps, xs = [dL ps] ∧ R (ps.reverse.map D.p) (fun _ => True) h1) : VI K Θ (iRev K t) env h R := fun F ρ σ H Q rl e k =>
  q F ρ σ H _ rl e fun xs h1 vs F1 ρ1 H1 s1 p1 r1 dxs q1 => by
    obtain ⟨ps, rfl, q1⟩ := q1
    cases dxs with
    | cons dx dn =>
      cases dn
      cases dx with
      | p dx =>
        cases dx with
        | @lst a _ us ha rp =>
          refine ⟨a, us, rfl, r1.same.seq ha, k (ps.reverse.map D.p) (fun _ => True) h1 _ F1 ρ1 H1 s1 p1 r1 ⟨fun F' ρ' h' H' s p r _ => ?_, fun i F' ρ' h' H' s p r _ hi => ?_, fun i d F' ρ' h' H' x H2 s p r _ hd hy => ?_⟩ q1⟩
          · show us.length ≤ _
            rw [List.length_map, List.length_reverse, rp.len]; exact Nat.le_refl _
          · rw [List.length_map, List.length_reverse, rp.len] at hi
            exact ⟨hi, us, us[us.length - 1 - i]'(by omega), r.same.seq (s.seq ha), List.getElem?_eq_getElem _⟩
          · obtain ⟨e1, e2⟩ := hy
            subst e1
            rw [List.getElem?_map] at hd
            have hil : i < ps.length := by
              cases hp : ps.reverse[i]? with
              | none => rw [hp] at hd; cases hd
              | some p0 =>
                have := (List.getElem?_eq_some_iff.mp hp).1
                rwa [List.length_reverse] at this
            rw [List.getElem?_reverse hil] at hd
            cases hp : ps[ps.length - 1 - i]? with
            | none => rw [hp] at hd; cases hd
            | some p0 =>
              rw [hp] at hd; cases hd
              obtain ⟨v, hv, rv⟩ := rp.get hp
              have ev := e2 us (r.same.seq (s.seq ha))
              rw [rp.len] at hv
              rw [hv] at ev; cases ev
              exact ⟨F', Same.refl _, r, .p (rv.mono s)⟩
/-- lists of either kind joined: a new list that stays; one that is owned -/
theorem v2_addWM {x y : D} {i j : List P} (hx : SeqL x h i) (hy : SeqL y h j) (hl : i.length + j.length ≤ sizeLine) (q : R (dL (i ++ j)) h) : V2 K Θ (rAddW K) x y h R := v2_or2 (v2_or2 (v2_or2 fun F ρ H vx vy Q rl a b k => by
  obtain ⟨p1, us, rfl, s1, r1⟩ := hx.v rl a
  obtain ⟨p2, ws, rfl, s2, r2⟩ := hy.v rl b
  refine ⟨_, _, _, _, rfl, rfl, s1, s2, by rw [← r1.len, ← r2.len]; exact hl, fun p hp => ?_⟩
  have sn := fun o => same_new (o := o) (rl.free hp)
  exact k _ h _ _ ρ _ (sn _) (Pre.refl _) (rl.frz hp) (.p (.lst (.of upd_same) ((r1.append r2).mono (sn _)))) q))
theorem v2_addWMO {x y : D} {i j : List P} (hx : SeqL x h i) (hy : SeqL y h j) (hl : i.length + j.length ≤ sizeLine) (q : R (.own h.length) (h ++ [some (.lst ((i ++ j).map D.p))])) : V2 K Θ (rAddW K) x y h R := v2_or2 (v2_or2 (v2_or2 fun F ρ H vx vy Q rl a b k => by
  obtain ⟨p1, us, rfl, s1, r1⟩ := hx.v rl a
  obtain ⟨p2, ws, rfl, s2, r2⟩ := hy.v rl b
  refine ⟨_, _, _, _, rfl, rfl, s1, s2, by rw [← r1.len, ← r2.len]; exact hl, fun p hp => ?_⟩
  exact k _ _ _ F (ρ ++ [p]) _ (Same.refl _) (Pre.push _ _) (rl.push (o := .lst ((i ++ j).map D.p)) hp ⟨_, rfl, (r1.append r2).data⟩) (.own (by rw [← rl.len]; simp)) q))
/-- xs[i] of a list of either kind -/
theorem v2_ixM {x : D} {xs : List P} {i : Int} {p : P} (hx : SeqL x h xs) (ha : atI xs i = some p) (q : R (.p p) h) : V2 K Θ (rIx K) x (dI i) h R := by
  cases x with
  | p x =>
    cases x with
    | lst ys => cases hx; exact v2_ixL ha q
    | _ => exact hx.elim
  | own n =>
    refine v2_ixO (xs := xs.map D.p) hx ?_ q
    unfold atI at ha ⊢
    rw [List.length_map]
    cases e : ixN xs.length i with
    | none => rw [e] at ha; cases ha
    | some j =>
      rw [e] at ha
      simp only [Option.bind_some] at ha ⊢
      rw [List.getElem?_map, ha]; rfl
end
end Kb

/-! Numbers as bytes, seven bits in each. -/
namespace Kb
open PySem PySem.Spec PyProof.Rows L2
def Byts (g : List Int) : Prop := ∀ b ∈ g, 0 ≤ b ∧ b < 256
theorem Byts.app {a b : List Int} (x : Byts a) (y : Byts b) : Byts (a ++ b) := fun z hz => by
  rcases List.mem_append.mp hz with h | h
  · exact x z h
  · exact y z h
theorem Byts.left {a b : List Int} (x : Byts (a ++ b)) : Byts a := fun z hz => x z (List.mem_append.mpr (.inl hz))
theorem Byts.right {a b : List Int} (x : Byts (a ++ b)) : Byts b := fun z hz => x z (List.mem_append.mpr (.inr hz))
theorem Byts.take {a : List Int} (x : Byts a) (n : Nat) : Byts (a.take n) := fun z hz => x z (List.mem_of_mem_take hz)
theorem Byts.drop {a : List Int} (x : Byts a) (n : Nat) : Byts (a.drop n) := fun z hz => x z (List.mem_of_mem_drop hz)
def wnum (n : Nat) : List Int := if h : n < 128 then [(n : Int)] else ((n % 128 + 128 : Nat) : Int) :: wnum (n / 128)
termination_by n
decreasing_by omega
theorem wnum_small {n : Nat} (h : n < 128) : wnum n = [(n : Int)] := by rw [wnum, dif_pos h]
theorem wnum_great {n : Nat} (h : ¬ n < 128) : wnum n = ((n % 128 + 128 : Nat) : Int) :: wnum (n / 128) := by rw [wnum, dif_neg h]
/-- all bytes but the last -/
theorem wnum_form (n : Nat) : ∃ (hs : List Int) (l : Int), wnum n = hs ++ [l] ∧ (∀ b ∈ hs, 128 ≤ b ∧ b < 256) ∧ 0 ≤ l ∧ l < 128 ∧ (128 ≤ n → hs ≠ []) ∧ (1 ≤ n → l ≠ 0) := by
  induction n using Nat.strongRecOn with
  | ind n ih =>
    by_cases h : n < 128
    · exact ⟨[], n, wnum_small h, (fun b hb => by cases hb), by omega, by omega, (fun z => by omega), (fun z => by omega)⟩
    · obtain ⟨hs, l, e, a, b, c, d, f⟩ := ih (n / 128) (by omega)
      refine ⟨((n % 128 + 128 : Nat) : Int) :: hs, l, by rw [wnum_great h, e]; rfl, fun x hx => ?_, b, c, (fun _ z => by cases z), (fun _ => f (by omega))⟩
      rcases List.mem_cons.mp hx with rfl | hx
      · omega
      · exact a x hx
theorem wnum_byts (n : Nat) : Byts (wnum n) := by
  obtain ⟨hs, l, e, a, b, c, _⟩ := wnum_form n
  rw [e]
  intro x hx
  rcases List.mem_append.mp hx with h | h
  · have := a x h; omega
  · rw [List.mem_singleton.mp h]; omega
theorem wnum_len : ∀ (k n : Nat), n < 128 ^ (k + 1) → (wnum n).length ≤ k + 1
  | 0, n, h => by rw [wnum_small (by simpa using h)]; simp
  | k + 1, n, h => by
    by_cases c : n < 128
    · rw [wnum_small c]; simp
    · rw [wnum_great c, List.length_cons]
      have := wnum_len k (n / 128) (by
        rw [Nat.div_lt_iff_lt_mul (by decide)]
        rw [Nat.pow_succ] at h
        exact h)
      omega
theorem wnum_pos (n : Nat) : 0 < (wnum n).length := by
  by_cases c : n < 128
  · rw [wnum_small c]; simp
  · rw [wnum_great c, List.length_cons]; omega
def lead : List Int → Nat
  | [] => 0
  | b :: r => if 128 ≤ b then lead r + 1 else 0
theorem lead_le : ∀ r : List Int, lead r ≤ r.length
  | [] => Nat.le_refl _
  | b :: r => by
    have := lead_le r
    unfold lead
    rw [List.length_cons]
    split <;> omega
theorem lead_app : ∀ {hs : List Int} {l : Int} {rest : List Int}, (∀ b ∈ hs, 128 ≤ b) → l < 128 → lead (hs ++ l :: rest) = hs.length
  | [], l, rest, _, h => by
    show (if 128 ≤ l then lead rest + 1 else 0) = 0
    rw [if_neg (by omega)]
  | b :: hs, l, rest, a, h => by
    show (if 128 ≤ b then lead (hs ++ l :: rest) + 1 else 0) = _
    rw [if_pos (a b (List.mem_cons_self ..)), lead_app (fun x hx => a x (List.mem_cons_of_mem _ hx)) h, List.length_cons]
theorem lead_all : ∀ {hs : List Int}, (∀ b ∈ hs, 128 ≤ b) → lead hs = hs.length
  | [], _ => rfl
  | b :: hs, a => by
    show (if 128 ≤ b then lead hs + 1 else 0) = _
    rw [if_pos (a b (List.mem_cons_self ..)), lead_all (fun x hx => a x (List.mem_cons_of_mem _ hx)), List.length_cons]
def val (bs : List Int) : Int := bs.foldr (fun b s => s * 128 + b % 128) 0
theorem val_cons (b : Int) (r : List Int) : val (b :: r) = val r * 128 + b % 128 := rfl
theorem val_lo : ∀ bs : List Int, 0 ≤ val bs
  | [] => Int.le_refl _
  | b :: r => by
    have := val_lo r
    rw [val_cons]
    omega
theorem val_hi : ∀ bs : List Int, val bs < 128 ^ bs.length
  | [] => by decide
  | b :: r => by
    have := val_hi r
    rw [val_cons, List.length_cons, Int.pow_succ]
    omega
theorem val_wnum (n : Nat) : val (wnum n) = n := by
  induction n using Nat.strongRecOn with
  | ind n ih =>
    by_cases h : n < 128
    · rw [wnum_small h, val_cons]
      show (0 : Int) * 128 + (n : Int) % 128 = n
      omega
    · rw [wnum_great h, val_cons, ih (n / 128) (by omega)]
      omega
def numOf (r : List Int) : Option (Nat × Int) := if lead r = r.length ∨ 60 ≤ lead r ∨ (0 < lead r ∧ r[lead r]? = some 0) then none else some (lead r + 1, val (r.take (lead r + 1)))
theorem numOf_wnum {n : Nat} (h : n < 128 ^ 60) (rest : List Int) : numOf (wnum n ++ rest) = some ((wnum n).length, (n : Int)) := by
  obtain ⟨hs, l, e, a, b, c, d, f⟩ := wnum_form n
  have hl := wnum_len 59 n h
  have e1 : wnum n ++ rest = hs ++ l :: rest := by rw [e, List.append_assoc]; rfl
  have e2 : lead (wnum n ++ rest) = hs.length := by rw [e1]; exact lead_app (fun x hx => (a x hx).1) c
  have e3 : (wnum n).length = hs.length + 1 := by rw [e, List.length_append]; rfl
  unfold numOf
  rw [e2, if_neg, ← e3, List.take_left, val_wnum]
  rintro (z | z | ⟨z1, z2⟩)
  · rw [List.length_append, e3] at z; omega
  · omega
  · rw [e1, List.getElem?_append_right (Nat.le_refl _), Nat.sub_self] at z2
    have n1 : 1 ≤ n := by
      by_cases q : n < 128
      · have e5 : (wnum n).length = 1 := by rw [wnum_small q]; rfl
        omega
      · omega
    exact f n1 (by simpa using z2)
theorem numOf_short {n k : Nat} (h : k < (wnum n).length) : numOf ((wnum n).take k) = none := by
  obtain ⟨hs, l, e, a, _⟩ := wnum_form n
  have e3 : (wnum n).length = hs.length + 1 := by rw [e, List.length_append]; rfl
  have e4 : (wnum n).take k = hs.take k := by rw [e, List.take_append_of_le_length (by omega)]
  unfold numOf
  rw [e4, if_pos (.inl (lead_all fun b hb => (a b (List.mem_of_mem_take hb)).1))]
theorem numOf_some {r : List Int} {c : Nat} {v : Int} (h : numOf r = some (c, v)) : 0 ≤ v ∧ c ≤ r.length ∧ 0 < c ∧ c ≤ 60 ∧ v < 128 ^ 60 := by
  unfold numOf at h
  split at h
  · cases h
  · rename_i hn
    cases h
    have := lead_le r
    have h1 : ¬ lead r = r.length := fun z => hn (.inl z)
    have h2 : ¬ 60 ≤ lead r := fun z => hn (.inr (.inl z))
    refine ⟨val_lo _, by omega, by omega, by omega, Int.lt_of_lt_of_le (val_hi _) ?_⟩
    have hl : (r.take (lead r + 1)).length ≤ 60 := by rw [List.length_take]; omega
    have z : (128 : Nat) ^ (r.take (lead r + 1)).length ≤ 128 ^ 60 := Nat.pow_le_pow_right (by decide) hl
    exact_mod_cast z
theorem lead_drop {r : List Int} {b : Int} {a : Nat} (h : r[a]? = some b) (hb : 128 ≤ b) : lead (r.drop a) = lead (r.drop (a + 1)) + 1 := by
  have hl := (List.getElem?_eq_some_iff.mp h)
  obtain ⟨hl, e⟩ := hl
  rw [List.drop_eq_getElem_cons hl, e]
  show (if 128 ≤ b then lead (r.drop (a + 1)) + 1 else 0) = _
  rw [if_pos hb]
theorem lead_drop0 {r : List Int} {b : Int} {a : Nat} (h : r[a]? = some b) (hb : ¬ 128 ≤ b) : lead (r.drop a) = 0 := by
  obtain ⟨hl, e⟩ := (List.getElem?_eq_some_iff.mp h)
  rw [List.drop_eq_getElem_cons hl, e]
  show (if 128 ≤ b then lead (r.drop (a + 1)) + 1 else 0) = _
  rw [if_neg hb]
theorem lead_end {r : List Int} {a : Nat} (h : r.length ≤ a) : lead (r.drop a) = 0 := by rw [List.drop_eq_nil_of_le h]; rfl
section
variable {K : PySem.W.Frag} {Θ : Ctx} {env : Env'} {h : Hs} {E : En} {t : TA} {i j : Nat}
/-- a, b = e1, e2 -/
theorem vs_par (q : VA K Θ t env h fun xs h1 => ∃ x y, xs = [x, y] ∧ E.nx ((env.set i (some x)).set j (some y)) h1) : VS K Θ (tPar i j t) E env h := fun F ρ σ H D' rl e k =>
  q F ρ σ H _ rl e fun xs h1 vs F1 ρ1 H1 s1 p1 r1 dxs q1 => by
    obtain ⟨x, y, rfl, q1⟩ := q1
    cases dxs with
    | cons a b =>
      cases b with
      | cons b c =>
        cases c
        exact ⟨_, _, rfl, k.nx _ h1 F1 ρ1 _ H1 s1 p1 r1 (((e.mono s1 p1).set a).set b) q1⟩
end
end Kb

/-! Plain data of bounded depth, compared. -/
namespace Kb
open PySem PySem.Spec PyProof.Rows L2
structure Flat (n : Nat) (x : P) : Prop where
  lay : PyData.canLay0 (pyOf x) = true
  dep : PyData.depth (pyOf x) ≤ n
  pl : plainP x = true
theorem Flat.int {n : Nat} (i : Int) : Flat n (.int i) := ⟨rfl, Nat.zero_le _, rfl⟩
theorem Flat.bl {n : Nat} (b : Bool) : Flat n (.bl b) := ⟨rfl, Nat.zero_le _, rfl⟩
theorem Flat.non {n : Nat} : Flat n .non := ⟨rfl, Nat.zero_le _, rfl⟩
theorem flats {n : Nat} : ∀ {xs : List P}, (∀ x ∈ xs, Flat n x) → PyData.canLayAll0 (pyOf.pyOfs xs) = true ∧ PyData.depthAll (pyOf.pyOfs xs) ≤ n ∧ plainP.plainPs xs = true
  | [], _ => ⟨rfl, Nat.zero_le _, rfl⟩
  | x :: xs, h => by
    obtain ⟨a, b, c⟩ := h x (List.mem_cons_self ..)
    obtain ⟨a', b', c'⟩ := flats fun y hy => h y (List.mem_cons_of_mem _ hy)
    refine ⟨?_, ?_, ?_⟩
    · simp [pyOf.pyOfs, PyData.canLayAll0, a, a']
    · simp [pyOf.pyOfs, PyData.depthAll]
      omega
    · simp [plainP.plainPs, c, c']
theorem Flat.lst {n : Nat} {xs : List P} (h : ∀ x ∈ xs, Flat n x) : Flat (n + 1) (.lst xs) := by
  obtain ⟨a, b, c⟩ := flats h
  refine ⟨?_, ?_, ?_⟩
  · simpa [pyOf, PyData.canLay0] using a
  · simp [pyOf, PyData.depth]; omega
  · unfold plainP; exact c
theorem Flat.tup {n : Nat} {xs : List P} (h : ∀ x ∈ xs, Flat n x) : Flat (n + 1) (.tup xs) := by
  obtain ⟨a, b, c⟩ := flats h
  refine ⟨?_, ?_, ?_⟩
  · simpa [pyOf, PyData.canLay0] using a
  · simp [pyOf, PyData.depth]; omega
  · unfold plainP; exact c
theorem Flat.ints {n : Nat} (ns : List Int) : Flat (n + 1) (.lst (ns.map P.int)) := .lst fun x hx => by
  obtain ⟨i, _, rfl⟩ := List.mem_map.mp hx
  exact .int i
theorem Flat.shaped {n : Nat} {x : P} (f : Flat n x) (h : n ≤ 64) : SeqAt.shaped (pyOf x) = true := by
  have d := f.dep
  simp only [SeqAt.shaped, f.lay, Bool.true_and, decide_eq_true_eq]
  omega
section
variable {K : PySem.W.Frag} {Θ : Ctx} {h : Hs} {R : D → Hs → Prop} {n : Nat} {x : P}
/-- equal data -/
theorem v2_neF (f : Flat n x) (hn : n ≤ 64) (q : R (dB false) h) : V2 K Θ (rNeU K) (.p x) (.p x) h R :=
  v2_neP f.pl f.pl (f.shaped hn) (f.shaped hn) (by rw [eqv_shaped (f.shaped hn)]; exact q)
theorem v2_eqF (f : Flat n x) (hn : n ≤ 64) (q : R (dB true) h) : V2 K Θ (rEqU K) (.p x) (.p x) h R :=
  v2_eqP f.pl f.pl (f.shaped hn) (f.shaped hn) (by rw [eqv_shaped (f.shaped hn)]; exact q)
end
end Kb

/-! Defs as values, called; what the program's top holds: tuples and dicts; a list extended by one that stays. -/
namespace Kb
open PySem PySem.Spec PyProof.Rows L2 RZ
/-- two readings of one expression -/
theorem pe_orE {X : Cx} {e : Expr} {t1 t2 : TE} (h1 : PE X e t1) (h2 : PE X e t2) : PE X e (fun σ H Q => t1 σ H Q ∨ t2 σ H Q) := ⟨fun pins s σ H Q I h => by
  rcases h with h | h
  · exact h1.run pins s σ H Q I h
  · exact h2.run pins s σ H Q I h⟩
/-- a statement that is never reached -/
theorem ps_no {X : Cx} {st : Stmt} : PS X st (fun _ _ _ => False) := ⟨fun _ _ _ _ _ _ h => h.elim⟩
/-- the def at f keeps a promise -/
structure FnAt (P : Program) (w : World) (K : PySem.W.Frag) (mg : Str → Option Value) (base : Heap) (CX : CXT) (k : Nat) (f : Addr) (ps : List Str) (sp : Sp) : Prop where
  ex : ∃ fd, FnOk P w K mg base CX k f fd ps sp ∧ PySem.W.keepIn K (.ref f) = true ∧ Binds K fd ps []
theorem HasF.at_ {P : Program} {w : World} {K : PySem.W.Frag} {mg : Str → Option Value} {base : Heap} {CX : CXT} {k : Nat} {x : Str} {ps : List Str} {sp : Sp} {f : Addr} (h : HasF P w K mg base CX k x ps sp) (hf : mg x = some (.ref f)) : FnAt P w K mg base CX k f ps sp := by
  obtain ⟨g, fd, F, a, b, c⟩ := h.ex
  rw [hf] at a
  cases a
  exact ⟨fd, F, b, c⟩
theorem FnAt.mono {P : Program} {w : World} {K : PySem.W.Frag} {mg : Str → Option Value} {base : Heap} {CX : CXT} {j k : Nat} {f : Addr} {ps : List Str} {sp : Sp} (h : FnAt P w K mg base CX j f ps sp) (hk : j ≤ k) : FnAt P w K mg base CX k f ps sp := by
  obtain ⟨fd, F, b, c⟩ := h.ex
  exact ⟨fd, F.mono hk, b, c⟩
theorem FnAt.callV {X : Cx} {CX : CXT} {k i : Nat} {f : Addr} {ps : List Str} {sp : Sp} {E : XK} {x : Str} {e : Expr} {es : List Expr} {t : TA} {p pos : Pos} (h : FnAt X.prog X.w X.K X.mg X.base CX k f ps sp) (hr : Room k X.A) (hx : Passes CX X E) (hN : X.N[i]? = some x) (ha : PA X (e :: es) t)
    (hv : Vis X.env.scope x := by first | exact Or.inl rfl | exact Or.inr (Or.inl rfl) | exact Or.inr (Or.inr rfl)) (hd : (x == ("__debug__" : Str)) = false := by decide) (hcd : (x == ("__classdict__" : Str)) = false := by decide)
    (he : starEach (e :: es) X.env = (false, eval e X.env) :: starEach es X.env := by rfl) (hpl : (backTo pos (starEach es X.env)).any (·.1) = false := by rfl) : PE X (.Call (.Name x p) (e :: es) [] pos) (ItX.tCallV i f sp E t) := by
  obtain ⟨fd, F, hk, hb⟩ := h.ex
  have G : FnR X.prog X.w X.K X.mg X.base CX k f sp := FnR.imp (F.raw hb .nil) fun vs H Q E q => by rw [List.append_nil]; exact q
  exact ItX.pe_callV G hr hk hx hN hv ha hd hcd he hpl
section
variable {K : PySem.W.Frag} {Θ : Ctx} {env : Env'} {h : Hs} {R : D → Hs → Prop} {E : En} {t : TA}
theorem ve_or1 {t1 t2 : TE} (q : VE K Θ t1 env h R) : VE K Θ (fun σ H Q => t1 σ H Q ∨ t2 σ H Q) env h R := fun F ρ σ H Q rl e k => .inl (q F ρ σ H Q rl e k)
theorem ve_or2 {t1 t2 : TE} (q : VE K Θ t2 env h R) : VE K Θ (fun σ H Q => t1 σ H Q ∨ t2 σ H Q) env h R := fun F ρ σ H Q rl e k => .inr (q F ρ σ H Q rl e k)
theorem RD.cls {F : Hp} {ρ : List Addr} {c : Addr} {v : V} (a : RD K F ρ (.p (.cls c)) v) : v = .ref c := by
  cases a with
  | p a => cases a; rfl
theorem ve_callV {i : Nat} {f : Addr} {W : Spc} {E : XK} (hi : env[i]? = some (some (.p (.cls f)))) (q : VA K Θ t env h fun xs h1 => W xs h1 R) : VE K Θ (ItX.tCallV i f (spD K Θ.tabs W) E t) env h R := fun F ρ σ H Q rl e k => by
  obtain ⟨v, h1, h2⟩ := e.get i _ hi
  obtain rfl := h2.cls
  exact ⟨h1, q F ρ σ H _ rl e fun xs h1 vs F1 ρ1 H1 s1 p1 r1 dxs q1 => ⟨xs, h1, F1, ρ1, R, r1.toBase, dxs, q1, fun d h' v F' ρ' H' s3 p3 r3 dv q3 => k d h' v F' ρ' H' (s1.trans s3) (p1.trans p3) ⟨r3, r1.wish.mono s3 p3⟩ dv q3⟩⟩
/-! ### what the top holds -/
/-- a tuple of the top -/
def KTup (K : PySem.W.Frag) (a : Addr) (vs : List V) : Prop := ∃ (o : Obj) (its : Array Value) (n : Nat), K.lookup a = some o ∧ o.cls = .type "tuple" ∧ o.data = .seq its n ∧ its.size ≤ sizeLine ∧ Vals vs its.toList
theorem KTup.sq {a : Addr} {vs : List V} (c : KTup K a vs) (H : Hp) : SqT K H a vs := .inr c
/-- an item of it -/
inductive CK : D → V → Prop
  | str (s : Str) : CK (dS s) (.str s)
  | int (i : Int) : CK (dI i) (.int i)
  | ref (a : Addr) : CK (.p (.cls a)) (.ref a)
theorem CK.rd {F : Hp} {ρ : List Addr} {d : D} {v : V} (c : CK d v) : RD K F ρ d v := by
  cases c with
  | str s => exact .p (.str s)
  | int i => exact .p (.int i)
  | ref a => exact .p (.cls a)
inductive CKs : List D → List V → Prop
  | nil : CKs [] []
  | cons {d : D} {v : V} {ds : List D} {vs : List V} : CK d v → CKs ds vs → CKs (d :: ds) (v :: vs)
theorem CKs.strs : ∀ ys : List Str, CKs (ys.map dS) (ys.map V.str)
  | [] => .nil
  | y :: ys => .cons (.str y) (CKs.strs ys)
theorem CKs.len : ∀ {ds : List D} {vs : List V}, CKs ds vs → ds.length = vs.length
  | _, _, .nil => rfl
  | _, _, .cons _ r => congrArg (· + 1) r.len
theorem CKs.rd {F : Hp} {ρ : List Addr} : ∀ {ds : List D} {vs : List V}, CKs ds vs → RA K F ρ ds vs
  | _, _, .nil => .nil
  | _, _, .cons c r => .cons c.rd r.rd
theorem CKs.get {i : Nat} {d : D} : ∀ {ds : List D} {vs : List V}, CKs ds vs → ds[i]? = some d → ∃ v, vs[i]? = some v ∧ CK d v
  | _, _, .nil, h => by simp at h
  | _, _, .cons c r, h => by
    cases i with
    | zero => cases h; exact ⟨_, rfl, c⟩
    | succ j =>
      obtain ⟨v, h1, h2⟩ := r.get (i := j) (by simpa using h)
      exact ⟨v, by simpa using h1, h2⟩
theorem v2_ixK {c : Addr} {ds : List D} {vs : List V} {i : Nat} {d : D} (hc : KTup K c vs) (ck : CKs ds vs) (hi : ds[i]? = some d) (q : R d h) : V2 K Θ (rIx K) (.p (.cls c)) (dI i) h R := fun F ρ H vx vy Q rl a b k => by
  obtain rfl := a.cls
  obtain rfl := b.int
  obtain ⟨v, h1, h2⟩ := ck.get hi
  exact .inr (.inl ⟨_, _, _, v, rfl, rfl, hc.sq H, atI_nat h1, k _ h _ F ρ H (Same.refl _) (Pre.refl _) rl h2.rd q⟩)
theorem vc_lenK {c : Addr} {vs : List V} (hc : KTup K c vs) (q : R (dI vs.length) h) : VC K Θ (fun xs H Q => ∃ x n, xs = [x] ∧ LenV K x H n ∧ Q (.int n) H) [.p (.cls c)] h R := fun F ρ H vs' Q rl a k => by
  cases a with
  | cons a b =>
    cases b
    obtain rfl := a.cls
    exact ⟨_, _, rfl, .inr ⟨vs, hc.sq H, rfl⟩, k _ h _ F ρ H (Same.refl _) (Pre.refl _) rl (.p (.int _)) q⟩
theorem vi_seqK {tl : TE} {R : List D → (Hs → Prop) → Hs → Prop} (q : VE K Θ tl env h fun x h1 => ∃ c ds vs, x = .p (.cls c) ∧ KTup K c vs ∧ CKs ds vs ∧ R ds (fun _ => True) h1) : VI K Θ (iSeq K tl) env h R := fun F ρ σ H Q rl e k =>
  q F ρ σ H _ rl e fun x h1 vx F1 ρ1 H1 s1 p1 r1 dx q1 => by
    obtain ⟨c, ds, vs, rfl, hc, ck, q1⟩ := q1
    obtain rfl := dx.cls
    refine .inr ⟨c, rfl, ⟨vs, hc.sq H1⟩, k ds (fun _ => True) h1 _ F1 ρ1 H1 s1 p1 r1 ⟨fun F' ρ' h' H' s p r _ => ?_, fun i F' ρ' h' H' s p r _ hi => ?_, fun i d F' ρ' h' H' x H2 s p r _ hd hy => ?_⟩ q1⟩
    · exact ⟨vs, hc.sq H', by rw [ck.len]; exact Nat.le_refl _⟩
    · rw [ck.len] at hi
      exact ⟨vs, vs[i], hc.sq H', List.getElem?_eq_getElem hi⟩
    · obtain ⟨e1, e2⟩ := hy
      subst e1
      obtain ⟨v, hv, rv⟩ := ck.get hd
      have ev := e2 vs (hc.sq H2)
      rw [hv] at ev; cases ev
      exact ⟨F', Same.refl _, r, rv.rd⟩
theorem vg_tupK {n : Nat} {gs : TGs} {c : Addr} {ds : List D} {vs : List V} {N : Env' → Hs → Prop} (hc : KTup K c vs) (ck : CKs ds vs) (hl : ds.length = n) (q : VGs K Θ gs ds env h N) : VG K Θ (gTup K n gs) (.p (.cls c)) env h N := fun F ρ σ H v Q rl e dv k => by
  obtain rfl := dv.cls
  exact ⟨c, vs, rfl, hc.sq H, by rw [← ck.len]; exact hl, q F ρ σ H _ Q rl e ck.rd k⟩
/-- t.index(z), t a tuple of texts of the top -/
theorem vm_indexK {c : Addr} {ys : List Str} {z : Str} {j : Nat} (hc : KTup K c (ys.map V.str)) (hj : ys[j]? = some z) (hno : ∀ m, m < j → ys[m]? ≠ some z) (q : R (dI j) h) :
    VM K Θ (fun x xs H Q => ∃ p, ∃ ys : List Str, ∃ z j, x = .ref p ∧ xs = [.str z] ∧ SqT K H p (ys.map V.str) ∧ ys[j]? = some z ∧ (∀ m, m < j → ys[m]? ≠ some z) ∧ Q (.int (j : Nat)) H) (.p (.cls c)) [dS z] h R := fun F ρ H vx vs Q rl a b k => by
  obtain rfl := a.cls
  cases b with
  | cons b e =>
    cases e
    obtain rfl := b.str
    exact ⟨c, ys, z, j, rfl, rfl, hc.sq H, hj, hno, k _ h _ F ρ H (Same.refl _) (Pre.refl _) rl (.p (.int _)) q⟩
/-- d[z], d a dict of the top with texts for keys that holds defs -/
theorem v2_ixDK {w : World} {c f : Addr} {z : Str} (hd : KDct K w c z (.ref f)) (q : R (.p (.cls f)) h) : V2 K Θ (rIxD K w) (.p (.cls c)) (dS z) h R := fun F ρ H vx vy Q rl a b k => by
  obtain rfl := a.cls
  obtain rfl := b.str
  exact ⟨c, z, _, rfl, rfl, hd, k _ h _ F ρ H (Same.refl _) (Pre.refl _) rl (.p (.cls f)) q⟩
/-- zip of a tuple of the top and one that stays -/
theorem vi_zipK {ta : TA} {R : List D → (Hs → Prop) → Hs → Prop} (q : VA K Θ ta env h fun vs h1 => ∃ (c : Addr) (zs : List Str) (ys : List P), vs = [.p (.cls c), dT ys] ∧ KTup K c (zs.map V.str) ∧ R (zipP (zs.map P.str) ys) (fun _ => True) h1) : VI K Θ (iZipA K ta) env h R := fun F ρ σ H Q rl e k =>
  q F ρ σ H _ rl e fun vs h1 us F1 ρ1 H1 s1 p1 r1 dus q1 => by
    obtain ⟨c, zs, ys, rfl, hc, q1⟩ := q1
    cases dus with
    | cons dx du =>
      cases du with
      | cons dy dn =>
        cases dn
        obtain rfl := dx.cls
        cases dy with
        | p dy =>
          cases dy with
          | @tup b _ ws hb rw' =>
            have hz : (zipP (zs.map P.str) ys).length = min (zs.map V.str).length ws.length := by
              unfold zipP
              rw [List.length_map, List.length_zip, rw'.len, List.length_map, List.length_map]
            refine ⟨c, b, zs.map V.str, ws, rfl, .inr ⟨hc.sq H1, sqT_mono r1.same hb, k (zipP (zs.map P.str) ys) (fun _ => True) h1 _ F1 ρ1 H1 s1 p1 r1 ⟨fun F' ρ' h' H' s p r _ => ?_, fun i F' ρ' h' H' s p r _ hi => ?_, fun i d F' ρ' h' H' x H2 s p r _ hd hy => ?_⟩ q1⟩⟩
            · refine ⟨zs.map V.str, ws, hc.sq H', sqT_mono r.same (sqU_mono s hb), ?_⟩
              rw [hz]
              omega
            · rw [hz] at hi
              exact ⟨zs.map V.str, ws, (zs.map V.str)[i]'(by omega), ws[i]'(by omega), hc.sq H', sqT_mono r.same (sqU_mono s hb), List.getElem?_eq_getElem _, List.getElem?_eq_getElem _⟩
            · obtain ⟨T, x1, y1, rfl, hT, rfl, gx, gy⟩ := hy
              unfold zipP at hd
              rw [List.getElem?_map] at hd
              cases hq : ((zs.map P.str).zip ys)[i]? with
              | none => rw [hq] at hd; cases hd
              | some q =>
                rw [hq] at hd; cases hd
                obtain ⟨e1, e2⟩ := zip_get hq
                obtain ⟨v1, f1, g1⟩ := (RPs.of_strs (K := K) (F := F') zs).get e1
                obtain ⟨v2, f2, g2⟩ := rw'.get e2
                have z1 := gx (zs.map V.str) (hc.sq _)
                have z2 := gy ws (sqT_mono r.same (sqU_mono s hb))
                rw [f1] at z1; cases z1
                rw [f2] at z2; cases z2
                have sn := same_new (o := .tup [x1, y1]) (r.free hT)
                exact ⟨upd F' T (.tup [x1, y1]), sn, r.frz hT, .p (.tup (.of upd_same) (.cons (g1.mono sn) (.cons ((g2.mono s).mono sn) .nil)))⟩
end
end Kb

/-! An own list extended by a list of either kind. -/
namespace Kb
open PySem PySem.Spec PyProof.Rows L2 RZ
section
open PySem.AutoSeq1 (wpAny_loadPart')
theorem extLstW (p q : Addr) (xs ys : Array Value) (i j : Nat) (dt : Option Addr) (st : Array (Option Value)) (hz : xs.size + ys.size ≤ sizeLine) :
    Meets (Builtin.«list.extend» ⟨[.ref p, .ref q], []⟩)
      (fun _ R s => s.heap.get? p = some { cls := .type "list", data := .seq xs i } ∧ s.heap.get? q = some ⟨.type "list", dt, .seq ys j, st⟩ ∧ R (.ok (.ret .none)) { s with heap := s.heap.update p (Obj.mapSeq fun x => x ++ ys) }) :=
  .of_wp fun prog w A R s hyp => by
    obtain ⟨H, G, D, T, O⟩ := s; obtain ⟨ep, eq, hR⟩ := hyp
    have g1 := AutoSeq1.idx_int; have g2 := AutoSeq1.sub_tuple_tuple
    have g3 := AutoSeq1.sub_list_list; have g4 := AutoSeq1.sub_tuple_list; have g5 := AutoSeq1.sub_list_tuple
    have nl : ¬ (!xs.isEmpty && Builtin.List.listTooLong (xs.size + ys.size)) = true := by rw [notLongL hz, Bool.and_false]; exact Bool.false_ne_true
    have z1 : xs.size ≤ sizeLine := Nat.le_trans (Nat.le_add_right _ _) hz
    have z2 : (xs ++ ys).size ≤ sizeLine + 1 := by rw [Array.size_append]; omega
    wp_walk using (wpAny_updateSeq ep rfl (hz := z1) (_hz' := z2)), wpAny_loadPart' ep, wpAny_loadPart' eq
    exact ⟨_, rfl, hR⟩
end
section
variable {X : Cx}
def rExtL (K : PySem.W.Frag) : V → List V → Hp → VK → Prop := fun x vs H Q => ∃ l b xs zs, x = .ref l ∧ vs = [.ref b] ∧ H l = some (.lst xs) ∧ SqL K H b zs ∧ xs.length + zs.length ≤ sizeLine ∧ Q .non (upd H l (.lst (xs ++ zs)))
theorem mt_extL : MtM X "list.extend" (rExtL X.K) := by
  intro pins s σ H x vs v us Q I rx rv h
  obtain ⟨l, b, xs, zs, rfl, rfl, hH, hB, hz, q⟩ := h
  cases rx
  obtain ⟨u, rfl, ru⟩ := rv.one
  cases ru
  obtain ⟨z, its, n, r, hl, e⟩ := I.lstM hH
  obtain ⟨its2, r2, ⟨⟨cls, dd, data, sl⟩, n2, ho, hc, hdn, hd⟩, _⟩ := I.list hB
  simp only at hc hd
  subst hc hd
  have l2 := r2.length
  refine call_meets PySem.F.slot_list_extend ⟨_, e, rfl⟩ PySem.F.entry_list_extend (PySem.F.args_list_extend_2 _ _) (extLstW l b its.toArray its2.toArray n n2 dd sl (by rw [List.size_toArray, List.size_toArray]; omega)) ⟨e, ho, ?_⟩
  refine ⟨.non, _, I.lset (its' := its ++ its2) hH e (by simp) (r.append r2) ?_, rfl, q⟩
  rw [List.length_append]
  exact hz
theorem mt_extLK {K : PySem.W.Frag} (hK : X.K = K) : MtM X "list.extend" (rExtL K) := hK ▸ mt_extL
end
section
variable {K : PySem.W.Frag} {Θ : Ctx} {h : Hs} {R : D → Hs → Prop} {x y : D}
theorem vm_extL {n : Nat} {xs : List D} {zs : List P} {y : D} (hn : h[n]? = some (some (.lst xs))) (hy : SeqL y h zs) (hl : xs.length + zs.length ≤ sizeLine) (q : R dN (h.set n (some (.lst (xs ++ zs.map D.p))))) : VM K Θ (rExtL K) (.own n) [y] h R := fun F ρ H vx vs Q rl a b k => by
  cases a with
  | own a =>
    cases b with
    | cons b c =>
      cases c
      obtain ⟨p, u, e1, e2, e3, us, e4, e5⟩ := rl.own _ _ hn
      rw [a] at e1; cases e1
      subst e4
      obtain ⟨p2, ws, rfl, s2, r2⟩ := hy.v rl b
      refine ⟨_, _, us, _, rfl, rfl, e3, s2, by rw [← e5.len, ← r2.len]; exact hl, ?_⟩
      exact k _ _ _ F ρ _ (Same.refl _) (Pre.refl _) (rl.put (o' := .lst (xs ++ zs.map D.p)) hn a ⟨_, rfl, e5.append r2.data⟩) (.p .non) q
theorem call_ordD {c : Nat} (q : R (dI c) h) : VC K Θ (fun xs H Q => ∃ x, xs = [.str x] ∧ x.length = 1 ∧ Q (.int (x.cps.getD 0 0 : Nat)) H) [dS ⟨#[c]⟩] h R := fun F ρ H vs Q rl a k => by
  cases a with
  | cons a b =>
    cases b
    obtain rfl := a.str
    exact ⟨_, rfl, rfl, k _ h _ F ρ H (Same.refl _) (Pre.refl _) rl (.p (.int _)) q⟩
theorem vm_indexL {ys : List Str} {z : Str} {j : Nat} (hj : ys[j]? = some z) (hno : ∀ m, m < j → ys[m]? ≠ some z) (q : R (dI j) h) : VM K Θ (rIndex K) (dL (ys.map P.str)) [dS z] h R := fun F ρ H vx vs Q rl a b k => by
  cases a with
  | p a =>
    cases a with
    | lst a r =>
      cases b with
      | cons b e =>
        cases e
        obtain rfl := b.str
        have er : ∀ {zs : List Str} {us : List V}, RPs K F (zs.map P.str) us → us = zs.map V.str := fun {zs} => by
          induction zs with
          | nil => intro us r; cases r; rfl
          | cons z zs ih =>
            intro us r
            cases r with
            | cons r1 r2 => cases r1; rw [ih r2]; rfl
        have e := er r
        subst e
        refine ⟨_, ys.map V.str, .str z, j, .str z, rfl, rfl, rl.same.seq a, rfl, ?_, ?_, ?_, ?_, k _ h _ F ρ H (Same.refl _) (Pre.refl _) rl (.p (.int _)) q⟩
        · rw [List.all_eq_true]
          intro x hx
          obtain ⟨s, _, rfl⟩ := List.mem_map.mp hx
          rfl
        · rw [List.getElem?_map, hj]; rfl
        · show (z == z) = true
          exact beq_self_eq_true z
        · intro m z' hm hz'
          rw [List.getElem?_map] at hz'
          cases e : ys[m]? with
          | none => rw [e] at hz'; cases hz'
          | some s =>
            rw [e] at hz'; cases hz'
            show (s == z) = false
            exact beq_eq_false_iff_ne.mpr fun q => hno m hm (by rw [e, q])
end
section
variable {X : Cx} {K : PySem.W.Frag} {w : World}
theorem ix_kdictK (hK : X.K = K) (hw : X.w = w) : IxR X (rIxD K w) := by
  subst hK hw
  exact ix_kdict
theorem mt_tup_indexK (hK : X.K = K) : MtR X "tuple.index" (fun x xs H Q => ∃ p, ∃ ys : List Str, ∃ z j, x = .ref p ∧ xs = [.str z] ∧ SqT K H p (ys.map V.str) ∧ ys[j]? = some z ∧ (∀ m, m < j → ys[m]? ≠ some z) ∧ Q (.int (j : Nat)) H) := hK ▸ mt_tup_index
theorem mt_indexK (hK : X.K = K) : MtR X "list.index" (rIndex K) := hK ▸ mt_index
end
end Kb

/-! Texts read: a tuple of the top as a tuple in data, `in` a tuple, find from a place, replace behind a written text; a promise without errors out of one with errors. -/
namespace Kb
open PySem PySem.Spec PyProof.Rows L2
section
variable {P : Program} {w : World} {K : PySem.W.Frag} {T : List Addr} {mg : Str → Option Value} {base : Heap} {k : Nat} {x : Str} {ps : List Str} {W : SpcX} {W' : Spc}
/-- where it does not raise -/
theorem HasF.calm (h : HasF P w K mg base (L2.CX P w) k x ps (spDX K T W)) (i : ∀ ds h R, W' ds h R → W ds h R fun _ _ => False) : HasF P w K mg base CX0 k x ps (spD K T W') := by
  obtain ⟨f, fd, F, a, b, c⟩ := h.ex
  refine ⟨f, fd, ⟨fun vs H Q E h => ?_, fun A outer s H args us vs Q E hr e0 hb hv h => ?_⟩, a, b, c⟩
  · obtain ⟨ds, h, F1, ρ, R, rl, ra, hw, kq⟩ := h
    exact F.len vs H Q E0 ⟨ds, h, F1, ρ, R, _, rl, ra, i _ _ _ hw, kq, ⟨fun _ _ _ _ _ _ _ _ _ _ _ _ _ z => z.elim, fun _ _ z => by cases z⟩⟩
  · obtain ⟨ds, h, F1, ρ, R, rl, ra, hw, kq⟩ := h
    refine codeAny_mono (F.run A outer s H args us vs Q E0 hr e0 hb hv ⟨ds, h, F1, ρ, R, _, rl, ra, i _ _ _ hw, kq, ⟨fun _ _ _ _ _ _ _ _ _ _ _ _ _ z => z.elim, fun _ _ z => by cases z⟩⟩) fun r s' q => ?_
    cases r with
    | ok v =>
      cases v with
      | ret u => exact q
      | next => exact q.elim
      | brk => exact q.elim
      | cont => exact q.elim
    | error e =>
      obtain ⟨_, _, _, _, _, _, _, _, _, _, _, _, z⟩ := q
      exact z.elim
end
section
variable {X : Cx}
/-- c + o.replace(y, z), c, y, z written -/
def tCatRep (c y z : Str) (to : TE) : TE := fun σ H Q => to σ H fun x H1 => ∃ a, x = .str a ∧ a.length + (a.length + 1) * z.length ≤ 16777216 ∧ c.length + (Txt.replace a y z).length ≤ sizeLine ∧ Q (.str (c ++ Txt.replace a y z)) H1
theorem pe_catRep {o : Expr} {to : TE} {c y z : Str} {j j0 j1 : Nat} {cp c0 c1 apos cpos pos : Pos} (hyz : (y == z) = false) (ho : PE X o to)
    (hbase : attributeBase o "replace" X.env (eval o X.env) = eval o X.env := by rfl)
    (hst : starEach [.Constant (.str y) j0 c0, .Constant (.str z) j1 c1] X.env = [(false, eval (.Constant (.str y) j0 c0) X.env), (false, eval (.Constant (.str z) j1 c1) X.env)] := by rfl)
    (hfew : ((backTo cpos (starEach [.Constant (.str y) j0 c0, .Constant (.str z) j1 c1] X.env)).all (fun x => !x.1) && (backToKw cpos (keywordEach [] X.env)).all (fun x => x.1.isSome)
      && decide (([.Constant (.str y) j0 c0, .Constant (.str z) j1 c1] : List Expr).length + ([] : List Keyword).length + (if ([] : List Keyword).isEmpty then 0 else 1) < 30)) = true := by rfl)
    (hline : (apos.endLine == cpos.line) = true := by rfl) :
    PE X (.BinOp (.Constant (.str c) j cp) .Add (.Call (.Attribute o "replace" apos) [.Constant (.str y) j0 c0, .Constant (.str z) j1 c1] [] cpos) pos) (tCatRep c y z to) := by
  refine ⟨fun pins s σ H Q I h => ?_⟩
  refine wpAny_BinOp (Calls.Constant_str ?_)
  have I0 : Inv X pins σ H { s with toks := s.toks + 1 } := I.tok _
  refine wpAny_Call_method_late hbase hfew hline rfl (wpAny_mono (PySem.wpAny_toks (ho.run pins _ σ H _ I0 h)) (fun v s1 q => ?_) fun _ _ z => z.2)
  obtain ⟨hk, x, H1, I1, r1, a, rfl, hb, hz, q1⟩ := q
  have hk' : s.toks + 1 ≤ s1.toks := hk
  obtain ⟨t, rfl⟩ := r1
  refine ⟨"str", _, F.plainAttrs_str, F.slot_str_replace, F.type_str_replace, typeIs_str _ _ _, (fun _ e => nomatch e), Calls.callWith_builtin rfl (Calls.evalArgs_plain ?_)⟩
  show wpAny _ _ (spliced ((false, eval (.Constant (.str y) j0 c0) X.env) :: backTo cpos (starEach [.Constant (.str z) j1 c1] X.env))) _ _ _
  refine Calls.spliced_cons (Calls.Constant_str ?_)
  show wpAny _ _ (spliced ((false, eval (.Constant (.str z) j1 c1) X.env) :: backTo cpos (starEach [] X.env))) _ _ _
  refine Calls.spliced_cons (Calls.Constant_str (Calls.spliced_nil ?_))
  refine PySem.SC.replace (show s1.toks ≠ 0 by omega) (show s1.toks + 1 ≠ 0 by omega) (show s1.toks ≠ s1.toks + 1 by omega) hyz hb fun t' k => ?_
  exact op_add_str pins _ σ H1 (.str c) (.str (Txt.replace a y z)) _ _ Q (I1.tok k) ⟨_, rfl⟩ ⟨t', rfl⟩ ⟨c, _, rfl, rfl, hz, q1⟩
/-- str of a number or of a text -/
def rStr1 : List V → Hp → VK → Prop := fun xs H Q => ∃ i, xs = [.int i] ∧ i.natAbs.log2 < 1920 ∧ Q (.str (toString i)) H
def rStr2 : List V → Hp → VK → Prop := fun xs H Q => ∃ a, xs = [.str a] ∧ Q (.str a) H
def rStrU : List V → Hp → VK → Prop := fun xs H Q => rStr1 xs H Q ∨ rStr2 xs H Q
theorem call_strU : CallR X (.type "str") rStrU := CallR.or (r := rStr1) (r' := rStr2) call_str_int SkE.call_str_str
end
section
variable {K : PySem.W.Frag} {Θ : Ctx} {env : Env'} {h : Hs} {R : D → Hs → Prop} {ta to : TE}
theorem ve_catRep {c y z : Str} (q : VE K Θ to env h fun x h1 => ∃ a, x = dS a ∧ a.length + (a.length + 1) * z.length ≤ 16777216 ∧ c.length + (Txt.replace a y z).length ≤ sizeLine ∧ R (dS (c ++ Txt.replace a y z)) h1) : VE K Θ (tCatRep c y z to) env h R := fun F ρ σ H Q rl e k =>
  q F ρ σ H _ rl e fun x h1 vx F1 ρ1 H1 s1 p1 r1 dx q1 => by
    obtain ⟨a, rfl, hb, hz, q1⟩ := q1
    obtain rfl := dx.str
    exact ⟨a, rfl, hb, hz, k _ h1 _ F1 ρ1 H1 s1 p1 r1 (.p (.str _)) q1⟩
theorem vc_strI {i : Int} (hl : i.natAbs.log2 < 1920) (q : R (dS (toString i)) h) : VC K Θ rStrU [dI i] h R := fun F ρ H vs Q rl a k => by
  cases a with
  | cons a b =>
    cases b
    obtain rfl := a.int
    exact .inl ⟨i, rfl, hl, k _ h _ F ρ H (Same.refl _) (Pre.refl _) rl (.p (.str _)) q⟩
theorem vc_strS {z : Str} (q : R (dS z) h) : VC K Θ rStrU [dS z] h R := fun F ρ H vs Q rl a k => by
  cases a with
  | cons a b =>
    cases b
    obtain rfl := a.str
    exact .inr ⟨z, rfl, k _ h _ F ρ H (Same.refl _) (Pre.refl _) rl (.p (.str _)) q⟩
/-- x in a tuple of the top -/
theorem v2_inK {x : Str} {c : Addr} {ns : List Str} (hc : KTup K c (ns.map V.str)) (q : R (dB (decide (x ∈ ns))) h) : V2 K Θ (rInU K) (dS x) (.p (.cls c)) h R := v2_or1 fun F ρ H vx vy Q rl a b k => by
  obtain rfl := a.str
  obtain rfl := b.cls
  refine ⟨_, _, rfl, .inr (hc.sq H), rfl, by simp [flatV], ?_⟩
  show Q (.bl (inV (.str x) (ns.map V.str))) H
  rw [inV_strs]
  exact k _ h _ F ρ H (Same.refl _) (Pre.refl _) rl (.p (.bl _)) q
/-- isinstance of a tuple of the top -/
theorem vc_isiK {c : Addr} {vs' : List V} {n : String} (hc : KTup K c vs') (hn : n ∈ ["bool", "int", "str", "tuple", "list", "dict"]) (q : R (dB (isA "tuple" n)) h) : VC K Θ (rIsiU K) [.p (.cls c), .p (.ty n)] h R := fun F ρ H vs Q rl a k => by
  cases a with
  | cons a b =>
    obtain rfl := a.cls
    cases b with
    | cons b c' =>
      cases c'
      cases b with
      | p b =>
        cases b
        obtain ⟨o, its, m, h1, h2, _⟩ := hc
        exact .inl ⟨_, _, _, _, _, rfl, .ty n, .kTuple h1 h2, isA_kit (by decide) hn, k _ h _ F ρ H (Same.refl _) (Pre.refl _) rl (.p (.bl _)) q⟩
theorem v2_inTS {x : Str} {ns : List Str} (q : R (dB (decide (x ∈ ns))) h) : V2 K Θ (rInU K) (dS x) (dT (ns.map P.str)) h R := v2_or1 fun F ρ H vx vy Q rl a b k => by
  obtain rfl := a.str
  cases b with
  | p b =>
    cases b with
    | tup b1 b2 =>
      have e := b2.strs
      subst e
      refine ⟨_, _, rfl, .inr (sqT_mono rl.same b1), rfl, by simp [flatV], ?_⟩
      show Q (.bl (inV (.str x) (ns.map V.str))) H
      rw [inV_strs]
      exact k _ h _ F ρ H (Same.refl _) (Pre.refl _) rl (.p (.bl _)) q
theorem v2_ninTI {x : Int} {ns : List Int} (q : R (dB (!decide (x ∈ ns))) h) : V2 K Θ (rNiU K) (dI x) (dT (ns.map P.int)) h R := v2_or1 fun F ρ H vx vy Q rl a b k => by
  obtain rfl := a.int
  cases b with
  | p b =>
    cases b with
    | tup b1 b2 =>
      have e := b2.ints
      subst e
      refine ⟨_, _, rfl, .inr (sqT_mono rl.same b1), rfl, by simp [flatV], ?_⟩
      show Q (.bl (!inV (.int x) (ns.map V.int))) H
      rw [inV_ints]
      exact k _ h _ F ρ H (Same.refl _) (Pre.refl _) rl (.p (.bl _)) q
theorem vm_find3 {a b : Str} {i : Int} (q : R (dI (Txt.find3 a b i)) h) : VM K Θ (fun x xs H Q => ∃ (a b : Str) (i : Int), x = V.str a ∧ xs = [V.str b, .int i] ∧ Q (.int (Txt.find3 a b i)) H) (dS a) [dS b, dI i] h R := fun F ρ H vx vs Q rl x y k => by
  obtain rfl := x.str
  cases y with
  | cons y e =>
    obtain rfl := y.str
    cases e with
    | cons z e =>
      cases e
      obtain rfl := z.int
      exact ⟨a, b, i, rfl, rfl, k _ h _ F ρ H (Same.refl _) (Pre.refl _) rl (.p (.int _)) q⟩
end
end Kb

/-! Tokens of a text: what stands at a place of it. -/
namespace Tz
open PySem PySem.Spec PyProof.Rows L2 Kb SX NumText
def lets : Str := "abcdefghijklmnopqrstuvwxyz"
def digs : Str := "0123456789"
def ofws : Str := "abcdefghijklmnopqrstuvwxyz0123456789_"
def blks : Str := " \n"
def longs : List Str := ["<>", "<=", ">=", "||"]
def shorts : Str := "(),.+-*/=<>"
def kwS : List String := ["select", "distinct", "from", "where", "group", "by", "having", "order", "limit", "as", "join", "left", "on", "union", "all", "except", "intersect", "and", "or", "not", "is", "null", "true", "false", "in", "exists", "case", "when", "then", "else", "end", "count", "sum", "min", "max", "mod", "desc"]
def kws : List Str := kwS.map Str.ofString
abbrev inS (z : Str) (c : Nat) : Bool := decide (c ∈ z.cps.toList)
abbrev run (z : Str) (u : List Nat) : List Nat := u.takeWhile (inS z)
/-- the rest of a text token: what it tells, how much of it is used -/
def quo : List Nat → Option (List Nat × Nat)
  | [] => none
  | c :: r => if c = 39 then (match r with
      | [] => some ([], 1)
      | d :: r' => if d = 39 then (quo r').map fun q => (39 :: q.1, q.2 + 2) else some ([], 1))
    else (quo r).map fun q => (c :: q.1, q.2 + 1)
def kindW (w : List Nat) : Str := if decide (S w ∈ kws) = true then "keyword" else "name"
/-- the token that stands at the beginning: kind, value, how long -/
def tokC (c : Nat) (r : List Nat) : Option (Str × P × Nat) :=
    if inS lets c = true then some (kindW (run ofws (c :: r)), .str (S (run ofws (c :: r))), (run ofws (c :: r)).length)
    else if inS digs c = true then (if 30 < (run digs (c :: r)).length then none else some ("integer", .int (digitsVal (run digs (c :: r)) : Nat), (run digs (c :: r)).length))
    else if c = 39 then (match quo r with
      | none => none
      | some (t, n) => if 2000 < t.length then none else some ("text", .str (S t), n + 1))
    else if c = 36 then (if (run digs r).length = 1 ∨ (run digs r).length = 2 then some ("parameter", .int (digitsVal (run digs r) : Nat), (run digs r).length + 1) else none)
    else if decide (S ((c :: r).take 2) ∈ longs) = true then some ("sign", .str (S ((c :: r).take 2)), 2)
    else if inS shorts c = true then some ("sign", .str (S [c]), 1)
    else none
def tokR : List Nat → Option (Str × P × Nat)
  | [] => none
  | c :: r => tokC c r
abbrev tokP (k : Str) (v : P) (a : Nat) : P := .tup [.str k, v, .int (a : Nat)]
/-- the tokens of what stands from a place on; where it is refused -/
inductive Toks : List Nat → Nat → List P → Option Nat → Prop
  | nil {a : Nat} : Toks [] a [] none
  | blank {c a : Nat} {u : List Nat} {ts : List P} {r : Option Nat} : inS blks c = true → Toks u (a + 1) ts r → Toks (c :: u) a ts r
  | tok {c a n : Nat} {u : List Nat} {k : Str} {v : P} {ts : List P} {r : Option Nat} : inS blks c = false → tokR (c :: u) = some (k, v, n) → 0 < n → n ≤ (c :: u).length → Toks ((c :: u).drop n) (a + n) ts r → Toks (c :: u) a (tokP k v a :: ts) r
  | no {c a : Nat} {u : List Nat} : inS blks c = false → tokR (c :: u) = none → Toks (c :: u) a [] (some a)
/-! ### runs -/
theorem run_all {z : Str} {w u : List Nat} (hw : ∀ c ∈ w, inS z c = true) (hu : ∀ c, u.head? = some c → inS z c = false) : run z (w ++ u) = w := by
  induction w with
  | nil =>
    cases u with
    | nil => rfl
    | cons c u =>
      show List.takeWhile (inS z) (c :: u) = []
      rw [List.takeWhile_cons, hu c rfl]; rfl
  | cons c w ih =>
    show List.takeWhile (inS z) (c :: (w ++ u)) = c :: w
    rw [List.takeWhile_cons, hw c List.mem_cons_self, if_pos rfl]
    exact congrArg (c :: ·) (ih fun d hd => hw d (List.mem_cons_of_mem _ hd))
theorem run_le (z : Str) (u : List Nat) : (run z u).length ≤ u.length := List.Sublist.length_le (List.takeWhile_sublist _)
theorem run_in {z : Str} {u : List Nat} : ∀ c ∈ run z u, inS z c = true := by
  induction u with
  | nil => intro c hc; simp [run] at hc
  | cons d u ih =>
    intro c hc
    unfold run at hc ih
    rw [List.takeWhile_cons] at hc
    cases e : inS z d with
    | false => rw [e] at hc; simp at hc
    | true =>
      rw [e, if_pos rfl] at hc
      rcases List.mem_cons.mp hc with rfl | hc
      · exact e
      · exact ih c hc
theorem run_take {z : Str} {u : List Nat} : u.take (run z u).length = run z u := by
  induction u with
  | nil => rfl
  | cons d u ih =>
    unfold run at ih ⊢
    rw [List.takeWhile_cons]
    cases e : inS z d with
    | false => rfl
    | true =>
      rw [if_pos rfl, List.length_cons, List.take_succ_cons, ih]
theorem dig_ok {w : List Nat} (h : ∀ c ∈ w, inS digs c = true) : w.all (fun c => decide (48 ≤ c) && decide (c ≤ 57)) = true := by
  rw [List.all_eq_true]
  intro c hc
  have all : ∀ d ∈ digs.cps.toList, (decide (48 ≤ d) && decide (d ≤ 57)) = true := by decide +kernel
  exact all c (of_decide_eq_true (h c hc))
theorem dig_in {c : Nat} (h0 : 48 ≤ c) (h1 : c ≤ 57) : inS digs c = true := by
  have all : ∀ k : Fin 10, inS digs (48 + k.val) = true := by decide +kernel
  have z := all ⟨c - 48, by omega⟩
  have e : 48 + (c - 48) = c := by omega
  rw [show 48 + ((⟨c - 48, by omega⟩ : Fin 10).val) = c from e] at z
  exact z
/-! ### texts -/
theorem quo_no {u : List Nat} (h : ∀ c ∈ u, c ≠ 39) : quo u = none := by
  induction u with
  | nil => rfl
  | cons c u ih =>
    unfold quo
    rw [if_neg (h c List.mem_cons_self), ih fun d hd => h d (List.mem_cons_of_mem _ hd)]
    rfl
theorem quo_app {s u : List Nat} (h : ∀ c ∈ s, c ≠ 39) : quo (s ++ u) = (quo u).map fun q => (s ++ q.1, q.2 + s.length) := by
  induction s with
  | nil =>
    rw [List.nil_append]
    cases e : quo u <;> rfl
  | cons c s ih =>
    rw [List.cons_append, quo.eq_def]
    show (if c = 39 then _ else (quo (s ++ u)).map fun q => (c :: q.1, q.2 + 1)) = _
    rw [if_neg (h c List.mem_cons_self), ih fun d hd => h d (List.mem_cons_of_mem _ hd)]
    cases quo u with
    | none => rfl
    | some q => simp; omega
theorem quo_qq {u : List Nat} : quo (39 :: 39 :: u) = (quo u).map fun q => (39 :: q.1, q.2 + 2) := by
  rw [quo.eq_def]
  simp
theorem quo_q {u : List Nat} (h : ∀ c, u.head? = some c → c ≠ 39) : quo (39 :: u) = some ([], 1) := by
  rw [quo.eq_def]
  cases u with
  | nil => simp
  | cons d u => simp [h d rfl]
/-- a text's quotes doubled -/
def esc (t : List Nat) : List Nat := PySem.StrLaws.replL [39] [39, 39] t
theorem esc_nil : esc [] = [] := PySem.StrLaws.replL_nil
theorem esc_q {t : List Nat} : esc (39 :: t) = 39 :: 39 :: esc t := by
  unfold esc
  rw [PySem.StrLaws.replL_hit (by simp) (by simp)]
  rfl
theorem esc_c {c : Nat} {t : List Nat} (h : c ≠ 39) : esc (c :: t) = c :: esc t := by
  unfold esc
  rw [PySem.StrLaws.replL_miss (by simpa using h)]
theorem esc_len (t : List Nat) : (esc t).length ≤ 2 * t.length := by
  induction t with
  | nil => rw [esc_nil]; simp
  | cons c t ih =>
    by_cases h : c = 39
    · subst h
      rw [esc_q]; simp only [List.length_cons]; omega
    · rw [esc_c h]; simp only [List.length_cons]; omega
theorem quo_esc {t u : List Nat} (h : ∀ c, u.head? = some c → c ≠ 39) : quo (esc t ++ 39 :: u) = some (t, (esc t).length + 1) := by
  induction t with
  | nil => rw [esc_nil, List.nil_append, quo_q h]; rfl
  | cons c t ih =>
    by_cases hc : c = 39
    · subst hc
      rw [esc_q, List.cons_append, List.cons_append, quo_qq, ih]
      rfl
    · rw [esc_c hc, List.cons_append, quo.eq_def]
      show (if c = 39 then _ else (quo (esc t ++ 39 :: u)).map fun q => (c :: q.1, q.2 + 1)) = _
      rw [if_neg hc, ih]
      rfl
/-! ### what may stand behind a written token -/
def joinC (p : List Nat) (c : Nat) : Bool :=
  if inS lets (p.head?.getD 0) then inS ofws c
  else if inS ("$0123456789" : Str) (p.head?.getD 0) then inS digs c
  else if p.head?.getD 0 = 39 then decide (c = 39)
  else (inS ("<>|" : Str) (p.getLast?.getD 0) && inS ("=<>|" : Str) c)
def Free (p u : List Nat) : Prop := ∀ c, u.head? = some c → joinC p c = false
theorem free_blank {p u : List Nat} {c : Nat} (h : inS blks c = true) : Free p (c :: u) := by
  intro d hd
  cases hd
  have all : ∀ d ∈ blks.cps.toList, inS ofws d = false ∧ inS digs d = false ∧ decide (d = 39) = false ∧ inS ("=<>|" : Str) d = false := by decide +kernel
  obtain ⟨a1, a2, a3, a4⟩ := all c (of_decide_eq_true h)
  unfold joinC
  rw [a1, a2, a3, a4, Bool.and_false]
  split
  · rfl
  · split
    · rfl
    · split <;> rfl
theorem free_nil {p : List Nat} : Free p [] := fun c h => by cases h
/-- a token that is written: kind, value, the codes -/
inductive Drawn : Str → P → List Nat → Prop
  | word {c : Nat} {w : List Nat} : inS lets c = true → (∀ d ∈ w, inS ofws d = true) → w.length < 100 → Drawn (kindW (c :: w)) (.str (S (c :: w))) (c :: w)
  | int {w : List Nat} : w ≠ [] → (∀ d ∈ w, inS digs d = true) → w.length ≤ 30 → Drawn "integer" (.int (digitsVal w : Nat)) w
  | text {t : List Nat} : t.length ≤ 2000 → Drawn "text" (.str (S t)) (39 :: (esc t ++ [39]))
  | par {w : List Nat} : w ≠ [] → (∀ d ∈ w, inS digs d = true) → w.length ≤ 2 → Drawn "parameter" (.int (digitsVal w : Nat)) (36 :: w)
  | sign {w : List Nat} : w ∈ [[40], [41], [44], [46], [43], [45], [42], [47], [61], [60, 62], [60], [60, 61], [62], [62, 61], [124, 124]] → Drawn "sign" (.str (S w)) w
theorem Drawn.len {k : Str} {v : P} {w : List Nat} (h : Drawn k v w) : 0 < w.length ∧ w.length ≤ 4002 := by
  cases h with
  | word _ _ h => simp only [List.length_cons]; omega
  | int h0 _ h => have := List.length_pos_iff.mpr h0; omega
  | text h => rename_i t; have := esc_len t; simp only [List.length_cons, List.length_append, List.length_nil]; omega
  | par h0 _ h => simp only [List.length_cons]; omega
  | sign h =>
    have all : ∀ w ∈ ([[40], [41], [44], [46], [43], [45], [42], [47], [61], [60, 62], [60], [60, 61], [62], [62, 61], [124, 124]] : List (List Nat)), 0 < w.length ∧ w.length ≤ 4002 := by decide
    exact all w h
theorem Drawn.head {k : Str} {v : P} {w : List Nat} (h : Drawn k v w) : ∃ c u, w = c :: u ∧ inS blks c = false := by
  cases h with
  | word h _ _ =>
    have all : ∀ d ∈ lets.cps.toList, inS blks d = false := by decide +kernel
    exact ⟨_, _, rfl, all _ (of_decide_eq_true h)⟩
  | int h0 h _ =>
    cases w with
    | nil => exact absurd rfl h0
    | cons c w =>
      have all : ∀ d ∈ digs.cps.toList, inS blks d = false := by decide +kernel
      exact ⟨_, _, rfl, all _ (of_decide_eq_true (h c List.mem_cons_self))⟩
  | text h => exact ⟨_, _, rfl, by decide +kernel⟩
  | par h0 _ h => exact ⟨_, _, rfl, by decide +kernel⟩
  | sign h =>
    have all : ∀ w ∈ ([[40], [41], [44], [46], [43], [45], [42], [47], [61], [60, 62], [60], [60, 61], [62], [62, 61], [124, 124]] : List (List Nat)), ∃ c u, w = c :: u ∧ inS blks c = false := by
      intro w hw
      simp only [List.mem_cons, List.mem_nil_iff, or_false] at hw
      rcases hw with rfl | rfl | rfl | rfl | rfl | rfl | rfl | rfl | rfl | rfl | rfl | rfl | rfl | rfl | rfl <;> exact ⟨_, _, rfl, by decide +kernel⟩
    exact all w h
theorem digs_lets {c : Nat} (h : inS digs c = true) : inS lets c = false ∧ c ≠ 39 ∧ c ≠ 36 := by
  have all : ∀ d ∈ digs.cps.toList, inS lets d = false ∧ d ≠ 39 ∧ d ≠ 36 := by decide +kernel
  exact all c (of_decide_eq_true h)
/-- it is read as itself -/
theorem Drawn.read {k : Str} {v : P} {w u : List Nat} (h : Drawn k v w) (f : Free w u) : tokR (w ++ u) = some (k, v, w.length) := by
  cases h with
  | word hc hw hl =>
    rename_i c w
    have fu : ∀ d, u.head? = some d → inS ofws d = false := fun d hd => by
      have z := f d hd
      unfold joinC at z
      rw [show (c :: w).head?.getD 0 = c from rfl, hc, if_pos rfl] at z
      exact z
    have lo : ∀ d ∈ lets.cps.toList, inS ofws d = true := by decide +kernel
    have e : run ofws (c :: w ++ u) = c :: w := run_all (fun d hd => by
      rcases List.mem_cons.mp hd with rfl | hd
      · exact lo _ (of_decide_eq_true hc)
      · exact hw d hd) fu
    rw [List.cons_append] at e ⊢
    show tokC _ _ = _
    unfold tokC
    rw [hc, if_pos rfl, e]
  | int h0 hw hl =>
    cases w with
    | nil => exact absurd rfl h0
    | cons c w =>
      have hc := hw c List.mem_cons_self
      obtain ⟨d1, d2, d3⟩ := digs_lets hc
      have dd : ∀ d ∈ digs.cps.toList, inS ("$0123456789" : Str) d = true := by decide +kernel
      have fu : ∀ d, u.head? = some d → inS digs d = false := fun d hd => by
        have z := f d hd
        unfold joinC at z
        rw [show (c :: w).head?.getD 0 = c from rfl, d1, if_neg (by decide), dd c (of_decide_eq_true hc), if_pos rfl] at z
        exact z
      have e : run digs (c :: w ++ u) = c :: w := run_all hw fu
      rw [List.cons_append] at e ⊢
      show tokC _ _ = _
      unfold tokC
      rw [d1, if_neg (by decide), hc, if_pos rfl, e, if_neg (by omega)]
  | text hl =>
    rename_i t
    have fu : ∀ d, u.head? = some d → d ≠ 39 := fun d hd e => by
      have z := f d hd
      unfold joinC at z
      have e1 : inS lets ((39 :: (esc t ++ [39])).head?.getD 0) = false := by show inS lets 39 = false; decide +kernel
      have e2 : inS ("$0123456789" : Str) ((39 :: (esc t ++ [39])).head?.getD 0) = false := by show inS ("$0123456789" : Str) 39 = false; decide +kernel
      rw [e1, if_neg (by decide), e2, if_neg (by decide), if_pos (show (39 :: (esc t ++ [39])).head?.getD 0 = 39 from rfl), e] at z
      cases z
    have e := quo_esc (t := t) fu
    have e1 : inS lets 39 = false := by decide +kernel
    have e2 : inS digs 39 = false := by decide +kernel
    rw [List.cons_append, List.append_assoc]
    show tokC _ _ = _
    unfold tokC
    rw [e1, if_neg (by decide), e2, if_neg (by decide), if_pos rfl]
    show (match quo (esc t ++ (39 :: u)) with | none => none | some (t, n) => if 2000 < t.length then none else some (("text" : Str), P.str (S t), n + 1)) = _
    rw [e]
    show (if 2000 < t.length then none else some (("text" : Str), P.str (S t), (esc t).length + 1 + 1)) = _
    rw [if_neg (by omega)]
    simp
  | par h0 hw hl =>
    rename_i w
    have e1 : inS lets 36 = false := by decide +kernel
    have e2 : inS digs 36 = false := by decide +kernel
    have e3 : inS ("$0123456789" : Str) 36 = true := by decide +kernel
    have fu : ∀ d, u.head? = some d → inS digs d = false := fun d hd => by
      have z := f d hd
      unfold joinC at z
      rw [show (36 :: w).head?.getD 0 = 36 from rfl, e1, if_neg (by decide), e3, if_pos rfl] at z
      exact z
    have e : run digs (w ++ u) = w := run_all hw fu
    have hp := List.length_pos_iff.mpr h0
    rw [List.cons_append]
    show tokC _ _ = _
    unfold tokC
    rw [e1, if_neg (by decide), e2, if_neg (by decide), if_neg (by decide), if_pos rfl, e, if_pos (by omega)]
    simp
  | sign hw =>
    have fu : inS ("<>|" : Str) (w.getLast?.getD 0) = true → (inS lets (w.head?.getD 0) = false) → (inS ("$0123456789" : Str) (w.head?.getD 0) = false) → (w.head?.getD 0 ≠ 39) → ∀ d, u.head? = some d → inS ("=<>|" : Str) d = false := fun a b c e d hd => by
      have z := f d hd
      unfold joinC at z
      rw [b, if_neg (by decide), c, if_neg (by decide), if_neg e, a, Bool.true_and] at z
      exact z
    have one : ∀ c ∈ [40, 41, 44, 46, 43, 45, 42, 47, 61], ∀ u : List Nat, tokR ([c] ++ u) = some (("sign" : Str), P.str (S [c]), 1) := by
      intro c hc u
      have no : decide (S ((c :: u).take 2) ∈ longs) = false := by
        refine decide_eq_false fun z => ?_
        have hd : ∀ s ∈ longs, s.cps.toList.head?.getD 0 ∉ [40, 41, 44, 46, 43, 45, 42, 47, 61] := by decide +kernel
        refine hd _ z ?_
        show (List.take 2 (c :: u)).head?.getD 0 ∈ _
        exact hc
      have hh : ∀ c ∈ [40, 41, 44, 46, 43, 45, 42, 47, 61], inS lets c = false ∧ inS digs c = false ∧ c ≠ 39 ∧ c ≠ 36 ∧ inS shorts c = true := by decide +kernel
      obtain ⟨a1, a2, a3, a4, a5⟩ := hh c hc
      show tokR (c :: u) = _
      show tokC _ _ = _
      unfold tokC
      rw [a1, if_neg (by decide), a2, if_neg (by decide), if_neg a3, if_neg a4, no, if_neg (by decide), a5, if_pos rfl]
    have lone : ∀ c ∈ [60, 62], (∀ d, u.head? = some d → inS ("=<>|" : Str) d = false) → tokR ([c] ++ u) = some (("sign" : Str), P.str (S [c]), 1) := by
      intro c hc fu
      have no : decide (S ((c :: u).take 2) ∈ longs) = false := by
        refine decide_eq_false fun z => ?_
        have hd : ∀ s ∈ longs, s.cps.toList.length = 2 ∧ inS ("=<>|" : Str) (s.cps.toList.getLast?.getD 0) = true := by decide +kernel
        obtain ⟨z1, z2⟩ := hd _ z
        cases u with
        | nil => cases z1
        | cons d u =>
          have e : (S ((c :: d :: u).take 2)).cps.toList.getLast?.getD 0 = d := rfl
          rw [e, fu d rfl] at z2
          cases z2
      have hh : ∀ c ∈ [60, 62], inS lets c = false ∧ inS digs c = false ∧ c ≠ 39 ∧ c ≠ 36 ∧ inS shorts c = true := by decide +kernel
      obtain ⟨a1, a2, a3, a4, a5⟩ := hh c hc
      show tokR (c :: u) = _
      show tokC _ _ = _
      unfold tokC
      rw [a1, if_neg (by decide), a2, if_neg (by decide), if_neg a3, if_neg a4, no, if_neg (by decide), a5, if_pos rfl]
    have two : ∀ w ∈ ([[60, 62], [60, 61], [62, 61], [124, 124]] : List (List Nat)), tokR (w ++ u) = some (("sign" : Str), P.str (S w), w.length) := by
      intro w hw
      simp only [List.mem_cons, List.mem_nil_iff, or_false] at hw
      have hh : ∀ c ∈ [60, 62, 124], inS lets c = false ∧ inS digs c = false ∧ c ≠ 39 ∧ c ≠ 36 := by decide +kernel
      rcases hw with rfl | rfl | rfl | rfl
      · have yes : decide (S [60, 62] ∈ longs) = true := by decide +kernel
        obtain ⟨a1, a2, a3, a4⟩ := hh 60 (by decide)
        show tokR (60 :: 62 :: u) = _
        show tokC _ _ = _
        unfold tokC
        rw [a1, if_neg (by decide), a2, if_neg (by decide), if_neg a3, if_neg a4, show (60 :: 62 :: u).take 2 = [60, 62] from rfl, yes, if_pos rfl]
        rfl
      · have yes : decide (S [60, 61] ∈ longs) = true := by decide +kernel
        obtain ⟨a1, a2, a3, a4⟩ := hh 60 (by decide)
        show tokR (60 :: 61 :: u) = _
        show tokC _ _ = _
        unfold tokC
        rw [a1, if_neg (by decide), a2, if_neg (by decide), if_neg a3, if_neg a4, show (60 :: 61 :: u).take 2 = [60, 61] from rfl, yes, if_pos rfl]
        rfl
      · have yes : decide (S [62, 61] ∈ longs) = true := by decide +kernel
        obtain ⟨a1, a2, a3, a4⟩ := hh 62 (by decide)
        show tokR (62 :: 61 :: u) = _
        show tokC _ _ = _
        unfold tokC
        rw [a1, if_neg (by decide), a2, if_neg (by decide), if_neg a3, if_neg a4, show (62 :: 61 :: u).take 2 = [62, 61] from rfl, yes, if_pos rfl]
        rfl
      · have yes : decide (S [124, 124] ∈ longs) = true := by decide +kernel
        obtain ⟨a1, a2, a3, a4⟩ := hh 124 (by decide)
        show tokR (124 :: 124 :: u) = _
        show tokC _ _ = _
        unfold tokC
        rw [a1, if_neg (by decide), a2, if_neg (by decide), if_neg a3, if_neg a4, show (124 :: 124 :: u).take 2 = [124, 124] from rfl, yes, if_pos rfl]
        rfl
    simp only [List.mem_cons, List.mem_nil_iff, or_false] at hw
    rcases hw with rfl | rfl | rfl | rfl | rfl | rfl | rfl | rfl | rfl | rfl | rfl | rfl | rfl | rfl | rfl
    · exact one 40 (by decide) u
    · exact one 41 (by decide) u
    · exact one 44 (by decide) u
    · exact one 46 (by decide) u
    · exact one 43 (by decide) u
    · exact one 45 (by decide) u
    · exact one 42 (by decide) u
    · exact one 47 (by decide) u
    · exact one 61 (by decide) u
    · exact two [60, 62] (by decide)
    · exact lone 60 (by decide) (fu (by decide +kernel) (by decide +kernel) (by decide +kernel) (by decide))
    · exact two [60, 61] (by decide)
    · exact lone 62 (by decide) (fu (by decide +kernel) (by decide +kernel) (by decide +kernel) (by decide))
    · exact two [62, 61] (by decide)
    · exact two [124, 124] (by decide)
/-! ### a text that grows -/
theorem toks_blanks {g u : List Nat} {a : Nat} {ts : List P} {r : Option Nat} (hg : ∀ c ∈ g, inS blks c = true) (h : Toks u (a + g.length) ts r) : Toks (g ++ u) a ts r := by
  induction g generalizing a with
  | nil => exact h
  | cons c g ih =>
    refine .blank (hg c List.mem_cons_self) (ih (fun d hd => hg d (List.mem_cons_of_mem _ hd)) ?_)
    rw [List.length_cons] at h
    rw [show a + 1 + g.length = a + (g.length + 1) by omega]
    exact h
theorem toks_tok {k : Str} {v : P} {w u : List Nat} {a : Nat} {ts : List P} {r : Option Nat} (d : Drawn k v w) (f : Free w u) (h : Toks u (a + w.length) ts r) : Toks (w ++ u) a (tokP k v a :: ts) r := by
  have e := d.read f
  obtain ⟨l0, _⟩ := d.len
  obtain ⟨c, w', rfl, hb⟩ := d.head
  refine .tok (n := (c :: w').length) hb e l0 (by show (c :: w').length ≤ (c :: (w' ++ u)).length; rw [List.length_cons, List.length_cons, List.length_append]; omega) ?_
  show Toks (List.drop (c :: w').length ((c :: w') ++ u)) (a + (c :: w').length) ts r
  rw [List.drop_left]
  exact h
/-- what is read of a text so far, whatever follows that may stand behind p -/
def Grown (p l : List Nat) (ts : List P) : Prop := ∀ (u : List Nat) (us : List P) (r : Option Nat), Free p u → Toks u l.length us r → Toks (l ++ u) 0 (ts ++ us) r
theorem grown_gap {g : List Nat} (hg : ∀ c ∈ g, inS blks c = true) (p : List Nat) : Grown p g [] := fun u us r _ h => toks_blanks hg (by rw [Nat.zero_add]; exact h)
theorem Grown.tok {p l g w : List Nat} {ts : List P} {k : Str} {v : P} (G : Grown p l ts) (d : Drawn k v w) (hg : ∀ c ∈ g, inS blks c = true) (hn : joinC p (w.head?.getD 0) = true → g ≠ []) :
    Grown w (l ++ g ++ w) (ts ++ [tokP k v (l ++ g).length]) := fun u us r f h => by
  rw [List.append_assoc, List.append_assoc, List.append_assoc]
  refine G (g ++ (w ++ u)) ([tokP k v (l ++ g).length] ++ us) r ?_ ?_
  · cases g with
    | nil =>
      obtain ⟨c, w', rfl, _⟩ := d.head
      intro x hx
      cases hx
      cases e : joinC p c with
      | false => rfl
      | true => exact absurd rfl (hn e)
    | cons c g => exact free_blank (hg c List.mem_cons_self)
  · refine toks_blanks hg ?_
    rw [← List.length_append]
    refine toks_tok d f ?_
    rw [← List.length_append]
    exact h
theorem Grown.blanks {p l g : List Nat} {ts : List P} (G : Grown p l ts) (hg : ∀ c ∈ g, inS blks c = true) : Toks (l ++ g) 0 ts none := by
  have z := G g [] none (by
    cases g with
    | nil => exact free_nil
    | cons c g => exact free_blank (hg c List.mem_cons_self)) (by
      have z := toks_blanks (u := []) (a := l.length) hg .nil
      rw [List.append_nil] at z
      exact z)
  rw [List.append_nil] at z
  exact z
/-- something strange behind a gap -/
theorem Grown.no {p l g s : List Nat} {ts : List P} (G : Grown p l ts) (hg : ∀ c ∈ g, inS blks c = true) (h0 : g ≠ []) (hs : ∃ c u, s = c :: u ∧ inS blks c = false) (e : tokR s = none) : Toks (l ++ g ++ s) 0 ts (some (l ++ g).length) := by
  obtain ⟨c, u, rfl, hb⟩ := hs
  have z := G (g ++ c :: u) [] (some (l ++ g).length) (by
    cases g with
    | nil => exact absurd rfl h0
    | cons c g => exact free_blank (hg c List.mem_cons_self)) (toks_blanks hg (by rw [← List.length_append]; exact .no hb e))
  rw [List.append_nil, ← List.append_assoc] at z
  exact z
/-- one token by itself -/
theorem toks_one {k : Str} {v : P} {w : List Nat} (d : Drawn k v w) : Toks w 0 [tokP k v 0] none := by
  have z := toks_tok (u := []) (a := 0) d free_nil .nil
  rw [List.append_nil] at z
  exact z
/-! ### what is no token -/
theorem no_par {w u : List Nat} (hw : ∀ d ∈ w, inS digs d = true) (hl : w.length = 0 ∨ 3 ≤ w.length) (fu : ∀ d, u.head? = some d → inS digs d = false) : tokR (36 :: (w ++ u)) = none := by
  have e1 : inS lets 36 = false := by decide +kernel
  have e2 : inS digs 36 = false := by decide +kernel
  show tokC _ _ = _
  unfold tokC
  rw [e1, if_neg (by decide), e2, if_neg (by decide), if_neg (by decide), if_pos rfl, run_all hw fu, if_neg (by omega)]
theorem no_int {w u : List Nat} (hw : ∀ d ∈ w, inS digs d = true) (hl : 30 < w.length) (fu : ∀ d, u.head? = some d → inS digs d = false) : tokR (w ++ u) = none := by
  cases w with
  | nil => simp at hl
  | cons c w =>
    have hc := hw c List.mem_cons_self
    obtain ⟨d1, d2, d3⟩ := digs_lets hc
    have e : run digs (c :: w ++ u) = c :: w := run_all hw fu
    rw [List.cons_append] at e ⊢
    show tokC _ _ = _
    unfold tokC
    rw [d1, if_neg (by decide), hc, if_pos rfl, e, if_pos hl]
theorem no_text {t u : List Nat} (hl : 2000 < t.length) (fu : ∀ d, u.head? = some d → d ≠ 39) : tokR (39 :: (esc t ++ 39 :: u)) = none := by
  have e1 : inS lets 39 = false := by decide +kernel
  have e2 : inS digs 39 = false := by decide +kernel
  show tokC _ _ = _
  unfold tokC
  rw [e1, if_neg (by decide), e2, if_neg (by decide), if_pos rfl, quo_esc fu]
  show (if 2000 < t.length then none else some (("text" : Str), P.str (S t), (esc t).length + 1 + 1)) = _
  rw [if_pos hl]
theorem no_end {c : Nat} (hc : c = 32 ∨ c = 99) : tokR [39, 97, 39, 39, 98, c] = none := by
  rcases hc with rfl | rfl <;> decide +kernel
theorem no_sign {c : Nat} {u : List Nat} (hc : c ∈ ("!\"#&:;?@ABCDEFGHIJKLMNOPQRSTUVWXYZ[\\]^_`{}~|" : Str).cps.toList) : tokR (c :: 32 :: u) = none := by
  have hh : ∀ c ∈ ("!\"#&:;?@ABCDEFGHIJKLMNOPQRSTUVWXYZ[\\]^_`{}~|" : Str).cps.toList, inS lets c = false ∧ inS digs c = false ∧ c ≠ 39 ∧ c ≠ 36 ∧ inS shorts c = false ∧ decide (S [c, 32] ∈ longs) = false := by decide +kernel
  obtain ⟨a1, a2, a3, a4, a5, a6⟩ := hh c hc
  show tokC _ _ = _
  unfold tokC
  rw [a1, if_neg (by decide), a2, if_neg (by decide), if_neg a3, if_neg a4, show (c :: 32 :: u).take 2 = [c, 32] from rfl, a6, if_neg (by decide), a5, if_neg (by decide)]
end Tz

/-! A call without arguments; what is drawn, gathered. -/
namespace Kb
open PySem PySem.Spec PyProof.Rows L2
section
variable {X : Cx} {CX : CXT} {k : Nat} {x : Str} {ps : List Str} {sp : Sp} {E : XK} {p pos : Pos}
theorem HasF.call0 (h : HasF X.prog X.w X.K X.mg X.base CX k x ps sp) (hr : Room k X.A) (hg : Gl X x) (hx : Passes CX X E) (hdb : (x == ("__debug__" : Str)) = false := by decide) :
    PE X (.Call (.Name x p) [] [] pos) (tCall sp [] E tNil) := by
  obtain ⟨f, fd, F, hm, hk, hb⟩ := h.ex
  exact pe_call0 F hr hg hm hk hb .nil hx hdb
end
/-- texts of one character, gathered -/
theorem gather {S : Nat → Prop} : ∀ {acc : List P}, (∀ p ∈ acc, ∃ d, p = .str (SX.S [d]) ∧ S d) → ∃ w : List Nat, acc = (w.map fun d => SX.S [d]).map P.str ∧ w.length = acc.length ∧ ∀ d ∈ w, S d
  | [], _ => ⟨[], rfl, rfl, fun _ h => by simp at h⟩
  | p :: acc, h => by
    obtain ⟨d, rfl, hd⟩ := h p List.mem_cons_self
    obtain ⟨w, rfl, e2, e3⟩ := gather fun q hq => h q (List.mem_cons_of_mem _ hq)
    refine ⟨d :: w, rfl, by simp, fun x hx => ?_⟩
    rcases List.mem_cons.mp hx with rfl | hx
    · exact hd
    · exact e3 x hx
end Kb

/-! A comprehension whose items are owned; an own list repeated. -/
namespace Kb
open PySem PySem.Spec PyProof.Rows L2
section
variable {K : PySem.W.Frag} {Θ : Ctx} {env : Env'} {h : Hs} {R : D → Hs → Prop}
/-- [..]: a new list that is owned; its items may be owned, too -/
theorem ve_lcW {wi : TI} {g : TG} {tt : TT} {te : TE} {vs : List Nat} (tg : TgOk g vs)
    (q : VI K Θ wi env h fun ds C h1 => ∃ Inv : Nat → List D → Hs → Prop, ds.length < sizeLine ∧ Inv 0 [] (h1 ++ [some (.lst [])]) ∧ (∀ i acc h', Inv i acc h' → h'[h1.length]? = some (some (.lst acc)) ∧ C h') ∧
      (∀ i d acc h', ds[i]? = some d → Inv i acc h' → VG K Θ g d (wipeD env vs) h' fun env' h2 => VT K Θ tt env' h2 fun b h3 => if b = true then VE K Θ te env' h3 (fun y h4 => h4[h1.length]? = some (some (.lst acc)) ∧ Inv (i + 1) (acc ++ [y]) (h4.set h1.length (some (.lst (acc ++ [y]))))) else Inv (i + 1) acc h3) ∧
      (∀ acc h', Inv ds.length acc h' → R (.own h1.length) h')) : VE K Θ (tLc wi g tt te vs) env h R := fun F ρ σ H Q rl e k =>
  q F ρ σ H _ rl e fun ds C h1 J F1 ρ1 H1 s1 p1 r1 it q1 => by
    obtain ⟨Inv, hl, i0, hI, turn, fin⟩ := q1
    have e1 := e.mono s1 p1
    intro p hp
    refine ⟨fun i m H => m = ds.length - i ∧ i ≤ ds.length ∧ ∃ F' ρ' acc h', Same F1 F' ∧ Pre (ρ1 ++ [p]) ρ' ∧ acc.length ≤ i ∧ Inv i acc h' ∧ Rel K Θ F' ρ' h' H, ⟨ds.length, by simp, Nat.zero_le _, F1, ρ1 ++ [p], [], _, Same.refl _, Pre.refl _, Nat.le_refl _, i0, r1.push (o := .lst []) hp ⟨[], rfl, .nil⟩⟩, ?_⟩
    rintro i m H ⟨rfl, hi, F', ρ', acc, h', s, pp, hacc, iv, r⟩
    obtain ⟨hat, hC⟩ := hI i acc h' iv
    have hpl : ∀ {ρ'' : List Addr}, Pre (ρ1 ++ [p]) ρ'' → ρ''[h1.length]? = some p := fun pr => pr _ _ (by rw [← r1.len]; simp)
    have got : ∀ {F' : Hp} {ρ'' : List Addr} {H : Hp} {h' : Hs} {xs : List D}, Pre (ρ1 ++ [p]) ρ'' → h'[h1.length]? = some (some (.lst xs)) → Rel K Θ F' ρ'' h' H → ∃ us, H p = some (.lst us) ∧ RA K F' ρ'' xs us := fun pr el r => by
      obtain ⟨a, u, e1, e2, e3, us, e4, e5⟩ := r.own h1.length _ el
      rw [hpl pr] at e1; cases e1
      subst e4
      exact ⟨us, e3, e5⟩
    by_cases hlt : i < ds.length
    · refine .inr ⟨it.go i F' ρ' _ H s ((Pre.push _ _).trans pp) r hC hlt, fun H' => ∃ F2 ρ2 acc2 h2, Same F1 F2 ∧ Pre (ρ1 ++ [p]) ρ2 ∧ acc2.length ≤ i + 1 ∧ Inv (i + 1) acc2 h2 ∧ Rel K Θ F2 ρ2 h2 H', fun H' ⟨F2, ρ2, acc2, h2, s2, pp2, l2, iv2, r2⟩ => ⟨ds.length - (i + 1), by omega, rfl, hlt, F2, ρ2, acc2, h2, s2, pp2, l2, iv2, r2⟩, fun x H' hy => ?_⟩
      have hd : ds[i]? = some ds[i] := List.getElem?_eq_getElem hlt
      obtain ⟨F2, s2, r2, dx⟩ := it.yld i _ F' ρ' _ H x H' s ((Pre.push _ _).trans pp) r hC hd hy
      refine tg x σ H' _ ?_
      refine turn i _ acc h' hd iv F2 ρ' (wipe σ vs) H' x _ r2 ((e1.mono (s.trans s2) ((Pre.push _ _).trans pp)).wipes vs) dx fun env3 h3 F3 ρ3 σ3 H3 s3 p3 r3 e3 q3 => ?_
      refine q3 F3 _ σ3 H3 _ r3 e3 fun b h4 F4 ρ4 H4 s4 p4 r4 q4 => ?_
      have ss : Same F1 F4 := s.trans (s2.trans (s3.trans s4))
      cases b with
      | true =>
        rw [if_pos rfl] at q4 ⊢
        refine q4 F4 _ σ3 H4 _ r4 (e3.mono s4 p4) fun y h5 v F5 ρ5 H5 s5 p5 r5 dv q5 => ?_
        obtain ⟨at5, iv6⟩ := q5
        have pr5 : Pre (ρ1 ++ [p]) ρ5 := pp.trans (p3.trans (p4.trans p5))
        obtain ⟨us, g1, g3⟩ := got pr5 at5 r5
        refine ⟨us, g1, ?_, F5, ρ5, acc ++ [y], _, ss.trans s5, pr5, ?_, iv6, ?_⟩
        · rw [← g3.len]; omega
        · rw [List.length_append]; exact Nat.succ_le_succ hacc
        · exact r5.put (i := h1.length) (o' := .lst (acc ++ [y])) at5 (hpl pr5) ⟨us ++ [v], rfl, g3.append (.cons dv .nil)⟩
      | false =>
        rw [if_neg Bool.false_ne_true] at q4 ⊢
        exact ⟨F4, ρ4, acc, _, ss, pp.trans (p3.trans p4), Nat.le_succ_of_le hacc, q4, r4⟩
    · have ei : i = ds.length := by omega
      subst ei
      refine .inl ⟨it.stop F' ρ' _ H s ((Pre.push _ _).trans pp) r hC, ?_⟩
      exact k _ h' (.ref p) F' ρ' H (s1.trans s) (p1.trans ((Pre.push _ _).trans pp)) r (.own (hpl pp)) (fin acc h' iv)
/-- [x] * n: an own list repeated, a new one that is owned -/
theorem v2_repO {n : Nat} {xs : List D} {j : Int} (hn : h[n]? = some (some (.lst xs))) (h1 : -(2 ^ 63) ≤ j ∧ j < 2 ^ 63) (hl : xs.length * j.toNat ≤ sizeLine) (q : R (.own h.length) (h ++ [some (.lst (List.replicate j.toNat xs).flatten)])) : V2 K Θ rRep (.own n) (dI j) h R := fun F ρ H vx vy Q rl a b k => by
  obtain rfl := b.int
  cases a with
  | own a =>
    obtain ⟨p, u, e1, e2, e3, vs, e4, e5⟩ := rl.own _ _ hn
    rw [a] at e1; cases e1
    subst e4
    have rr : ∀ m : Nat, RA K F ρ (List.replicate m xs).flatten (List.replicate m vs).flatten := fun m => by
      induction m with
      | zero => exact .nil
      | succ m ih =>
        rw [List.replicate_succ, List.replicate_succ, List.flatten_cons, List.flatten_cons]
        exact e5.append ih
    refine ⟨_, j, vs, rfl, rfl, e3, h1.1, h1.2, by rw [← e5.len]; exact hl, fun p hp => ?_⟩
    exact k _ _ (.ref p) F (ρ ++ [p]) _ (Same.refl _) (Pre.push _ _) (rl.push (o := .lst (List.replicate j.toNat xs).flatten) hp ⟨_, rfl, rr _⟩) (.own (by rw [← rl.len]; simp)) q
end
end Kb

/-! Dicts with tuple keys: key in d, key not in d, list(d). -/
namespace Kb
open PySem PySem.Spec PyProof.Rows L2
section
variable {X : Cx}
def rInDT (neg : Bool) : R2 := fun x y H Q => ∃ a o, y = .ref a ∧ DGet H a x o ∧ Q (.bl (if neg then !o.isSome else o.isSome)) H
theorem op_inDT (hu : X.A.units + 1 < cLine) : OpR X (compareOp .In) (rInDT false) := fun pins s σ H x y v u Q I rx ry h => by
  obtain ⟨a, o, rfl, g, q⟩ := h
  cases ry
  exact d_in hu I g rx fun s' I' => ⟨.bl _, H, I', rfl, q⟩
theorem op_ninDT (hu : X.A.units + 1 < cLine) : OpR X (compareOp .NotIn) (rInDT true) := fun pins s σ H x y v u Q I rx ry h => by
  obtain ⟨a, o, rfl, g, q⟩ := h
  cases ry
  exact d_notIn hu I g rx fun s' I' => ⟨.bl _, H, I', rfl, q⟩
def rListDT : List V → Hp → VK → Prop := fun xs H Q => ∃ d kvs, xs = [V.ref d] ∧ Rd H d (.dT kvs) ∧ ∀ p bs, H p = none → IsKeys H kvs bs → Q (.ref p) (upd H p (.lst (bs.map V.ref)))
theorem call_listDT (hc : X.calm = true) : CallR X (.type "list") rListDT := call_list_dT hc
end
section
variable {K : PySem.W.Frag} {Θ : Ctx} {env : Env'} {h : Hs} {R : D → Hs → Prop}
theorem v2_inDT {neg : Bool} {n : Nat} {kvs : List (List Key × D)} {ks : List Key} (hn : h[n]? = some (some (.dT kvs))) (q : R (dB (if neg then !(vK kvs ks).isSome else (vK kvs ks).isSome)) h) : V2 K Θ (rInDT neg) (dT (ks.map kP)) (.own n) h R := fun F ρ H vx vy Q rl a b k => by
  cases b with
  | own hb =>
    obtain ⟨gs, g1, rk⟩ := isDT rl hb hn
    obtain ⟨c, rfl, hc⟩ := tupKey rl.same a
    refine ⟨_, valV gs ks, rfl, .inr ⟨gs, ks, c, .inl g1, rfl, hc, rfl⟩, ?_⟩
    have e : (valV gs ks).isSome = (vK kvs ks).isSome := by
      rcases rk.look (k := ks) with ⟨l1, l2⟩ | ⟨d, v, l1, l2, l3⟩
      · rw [l1, l2]; rfl
      · rw [l1, l2]; rfl
    rw [e]
    exact k _ h _ F ρ H (Same.refl _) (Pre.refl _) rl (.p (.bl _)) q
theorem RPs.of_keys {F : Hp} : ∀ ks : List Key, RPs K F (ks.map kP) (ks.map kV)
  | [] => .nil
  | .inl i :: ks => .cons (.int i) (RPs.of_keys ks)
  | .inr s :: ks => .cons (.str s) (RPs.of_keys ks)
/-- a tuple that stands in the heap may be taken as frozen -/
theorem Rel.absorb {F : Hp} {ρ : List Addr} {H : Hp} {b : Addr} {vs : List V} (r : Rel K Θ F ρ h H) (hb : H b = some (.tup vs)) : ∃ F', Same F F' ∧ F' b = some (.tup vs) ∧ Rel K Θ F' ρ h H := by
  cases fb : F b with
  | some u =>
    have z := r.same b u fb
    rw [hb] at z
    cases z
    exact ⟨F, Same.refl _, fb, r⟩
  | none =>
    have sn : Same F (upd F b (.tup vs)) := same_new fb
    refine ⟨_, sn, upd_same, ⟨⟨fun c o e => ?_, r.len, fun i o hi => ?_, r.inj, fun P hP => ⟨?_, (r.tab P hP).2⟩⟩, r.wish.mono sn (Pre.refl _)⟩⟩
    · by_cases hc : c = b
      · subst hc; rw [upd_same] at e; cases e; exact hb
      · rw [upd_ne hc] at e; exact r.same c o e
    · obtain ⟨a, u, f1, f2, f3, f4⟩ := r.own i o hi
      have ne : a ≠ b := fun z => by
        subst z
        rw [hb] at f3
        cases f3
        cases o with
        | lst xs => obtain ⟨_, z, _⟩ := f4; cases z
        | ins C fs => obtain ⟨_, _, z, _⟩ := f4; cases z
        | dK kv => obtain ⟨_, z, _⟩ := f4; cases z
        | dT kv => obtain ⟨_, z, _⟩ := f4; cases z
      exact ⟨a, u, f1, by rw [upd_ne ne]; exact f2, f3, f4.mono sn (Pre.refl _)⟩
    · have ne : P ≠ b := fun z => by
        subst z
        obtain ⟨ps, z, _⟩ := (r.tab P hP).2
        rw [hb] at z
        cases z
      rw [upd_ne ne]
      exact (r.tab P hP).1
theorem Rel.absorbs {ρ : List Addr} {H : Hp} : ∀ {gs : List (List Key × V)} {kvs : List (List Key × D)} {bs : List Addr} {F F0 : Hp}, Rel K Θ F ρ h H → RK K F0 ρ kvs gs → IsKeys H gs bs → ∃ F', Same F F' ∧ Rel K Θ F' ρ h H ∧ RA K F' ρ (kvs.map fun p => dT (p.1.map kP)) (bs.map V.ref)
  | [], _, _, F, F0, r, .nil, .nil => ⟨F, Same.refl _, r, .nil⟩
  | _ :: gs, _ :: kvs, b :: bs, F, F0, r, .cons _ q, .cons hb t => by
    obtain ⟨F1, s1, e1, r1⟩ := r.absorb hb
    obtain ⟨F2, s2, r2, ra⟩ := Rel.absorbs r1 q t
    exact ⟨F2, s1.trans s2, r2, .cons (.p (.tup (s2 _ _ e1) (RPs.of_keys _))) ra⟩
/-- list(d): its keys, an own list -/
theorem vc_listDT {n : Nat} {kvs : List (List Key × D)} (hn : h[n]? = some (some (.dT kvs))) (q : R (.own h.length) (h ++ [some (.lst (kvs.map fun p => dT (p.1.map kP)))])) : VC K Θ rListDT [.own n] h R := fun F ρ H vs Q rl a k => by
  cases a with
  | cons a b =>
    cases b
    cases a with
    | own ha =>
      obtain ⟨gs, g1, rk⟩ := isDT rl ha hn
      refine ⟨_, gs, rfl, .inl g1, fun p bs hp hk => ?_⟩
      obtain ⟨F', s', r', ra⟩ := rl.absorbs rk hk
      exact k _ _ (.ref p) F' (ρ ++ [p]) _ s' (Pre.push _ _) (r'.push (o := .lst (kvs.map fun p => dT (p.1.map kP))) hp ⟨_, rfl, ra⟩) (.own (by rw [← rl.len]; simp)) q
end
end Kb

/-! sorted(xs), xs tuples whose first items are tuples of three ints, all different; in, not in for plain data. -/
namespace Kb
open PySem PySem.Spec PyProof.Rows L2
open PySem.W (dataLt)
abbrev K3 := Int × Int × Int
def lex3 (p q : K3) : Bool := dataLt (.tuple [.int p.1, .int p.2.1, .int p.2.2]) (.tuple [.int q.1, .int q.2.1, .int q.2.2])
theorem lex3_iff {p q : K3} : lex3 p q = true ↔ (p.1 < q.1 ∨ (p.1 = q.1 ∧ (p.2.1 < q.2.1 ∨ (p.2.1 = q.2.1 ∧ p.2.2 < q.2.2)))) := by
  unfold lex3
  rw [dataLt_3, decide_eq_true_eq]
theorem lex3_no {p q : K3} : lex3 p q = false ↔ ¬ (p.1 < q.1 ∨ (p.1 = q.1 ∧ (p.2.1 < q.2.1 ∨ (p.2.1 = q.2.1 ∧ p.2.2 < q.2.2)))) := by
  rw [← lex3_iff]
  cases lex3 p q <;> simp
theorem swo_lex3 (k : Value → K3) : SrtO.Swo fun v u => lex3 (k v) (k u) := by
  refine ⟨fun x y h => ?_, fun x y z h1 h2 => ?_⟩
  · have a := lex3_iff.mp h
    refine lex3_no.mpr ?_
    omega
  · have a := lex3_no.mp h1
    have b := lex3_no.mp h2
    refine lex3_no.mpr ?_
    omega
/-- a tuple whose first item is a tuple of these three -/
def IsK3 (h : Heap) (v : Value) (k : K3) : Prop := ∃ a o its n t rest ot t1 t2 t3 m, v = .ref a ∧ h.get? a = some o ∧ o.cls = .type "tuple" ∧ o.data = .seq its n ∧ its.toList = .ref t :: rest ∧ h.get? t = some ot ∧ ot.cls = .type "tuple" ∧
  ot.data = .seq #[.int k.1 t1, .int k.2.1 t2, .int k.2.2 t3] m
theorem IsK3.keeps {h h' : Heap} {v : Value} {k : K3} (p : IsK3 h v k) (kk : ∀ b o, h.get? b = some o → o.cls = .type "tuple" → h'.get? b = some o) : IsK3 h' v k := by
  obtain ⟨a, o, its, n, t, rest, ot, t1, t2, t3, m, e, ho, hc, hd, hi, h1, h2, h3⟩ := p
  exact ⟨a, o, its, n, t, rest, ot, t1, t2, t3, m, e, kk _ _ ho hc, hc, hd, hi, kk _ _ h1 h2, h2, h3⟩
section
variable {prog : Program} {w : World} {A : Around} {s : Shared}
theorem kat_self {b fin : Bool} {Q : Bool → Shared → Prop} (h : Q fin s) : ∀ (l : List Value) (i : Nat), PySem.W.KatLex prog w A b fin Q (l.zip l) i s
  | [], _ => PySem.W.kat_nil h
  | v :: l, i => PySem.W.kat_cons (SeqAt.EqAt.same v prog w _ _ (PySem.W.kat_yes (kat_self h l (i + 1))))
theorem reads3 {t : Addr} {ot : Obj} {x y z : Int} {t1 t2 t3 : Tok} {m : Nat} (h1 : s.heap.get? t = some ot) (h2 : ot.cls = .type "tuple") (h3 : ot.data = .seq #[.int x t1, .int y t2, .int z t3] m) : ∃ as, Reads s.heap (.ref t) (.tuple [.int x, .int y, .int z]) as :=
  ⟨_, .tuple h1 h2 h3 (.cons (.int _ _) (.cons (.int _ _) (.cons (.int _ _) .nil)))⟩
theorem k3_cmp {vs : List Value} {k : Value → K3} (hu : A.units + 8 < cLine) (hp : ∀ v ∈ vs, IsK3 s.heap v (k v)) (inj : ∀ v ∈ vs, ∀ u ∈ vs, k v = k u → v = u) : SrtO.Cmp prog w A s (tuples' false) (fun p => p.1 ∈ vs) (SrtO.lt2 fun v u => lex3 (k v) (k u)) := by
  intro p q hm hm'
  have h1 := hp _ hm
  have h2 := hp _ hm'
  show wpAny (model prog w) A (keyLt' (tuples' false) p.1 q.1) (fun r s' => s' = s ∧ r = lex3 (k p.1) (k q.1)) (fun _ _ => False) s
  by_cases ek : k p.1 = k q.1
  · have e := inj _ hm _ hm' ek
    rw [ek]
    have e0 : lex3 (k q.1) (k q.1) = false := lex3_no.mpr (by omega)
    rw [e0, e]
    obtain ⟨a, o, its, n, t, rest, ot, t1, t2, t3, m, e, ho, hc, hd, hi, g1, g2, g3⟩ := h2
    rw [e]
    refine PySem.W.kat_lt ho hd ho hd (kat_self ⟨rfl, ?_⟩ _ _)
    exact decide_eq_false (Nat.lt_irrefl _)
  · generalize k p.1 = x at *
    generalize k q.1 = y at *
    obtain ⟨a, o, its, n, t, rest, ot, t1, t2, t3, m, e, ho, hc, hd, hi, g1, g2, g3⟩ := h1
    obtain ⟨a', o', its', n', t', rest', ot', t1', t2', t3', m', e', ho', hc', hd', hi', g1', g2', g3'⟩ := h2
    rw [e, e']
    obtain ⟨as, r1⟩ := reads3 (s := s) g1 g2 g3
    obtain ⟨bs, r2⟩ := reads3 (s := s) g1' g2' g3'
    refine PySem.W.kat_lt ho hd ho' hd' ?_
    rw [hi, hi']
    refine PySem.W.kat_cons (SeqAt.eqAt_reads _ _ A s _ _ as bs r1 r2 (by simp [PyData.canLay0, PyData.canLayAll0]) (by simp [PyData.canLay0, PyData.canLayAll0]) ?_ prog w _ _ ?_)
    · have : min (PyData.tuple [.int x.1, .int x.2.1, .int x.2.2]).depth (PyData.tuple [.int y.1, .int y.2.1, .int y.2.2]).depth ≤ 2 := by
        simp [PyData.depth, PyData.depthAll]
      omega
    · have ef : PyData.eqv (.tuple [.int x.1, .int x.2.1, .int x.2.2]) (.tuple [.int y.1, .int y.2.1, .int y.2.2]) = false := by
        cases z : PyData.eqv (.tuple [.int x.1, .int x.2.1, .int x.2.2]) (.tuple [.int y.1, .int y.2.1, .int y.2.2]) with
        | false => rfl
        | true =>
          simp [PyData.eqv, PyData.eqvAll] at z
          exact absurd (Prod.ext z.1 (Prod.ext z.2.1 z.2.2)) ek
      rw [ef]
      refine PySem.W.kat_no ?_
      refine PySem.W.kat_one _ _ (PySem.W.lt_data r1 r2 rfl (by simp) ?_ ⟨rfl, rfl⟩)
      have : min (PyData.tuple [.int x.1, .int x.2.1, .int x.2.2]).depth (PyData.tuple [.int y.1, .int y.2.1, .int y.2.2]).depth ≤ 2 := by
        simp [PyData.depth, PyData.depthAll]
      omega
theorem k3_firsts {h : Heap} {k : Value → K3} : ∀ {vs : List Value}, (∀ v ∈ vs, IsK3 h v (k v)) → ∃ fs : List Value, PySem.W.KatTups h vs fs ∧ fs.length = vs.length ∧ ∀ f ∈ fs, ∃ t o, f = Value.ref t ∧ h.get? t = some o ∧ o.cls = .type "tuple"
  | [], _ => ⟨[], PySem.W.KatTups.nil, rfl, fun _ hm => by simp at hm⟩
  | v :: vs, hp => by
    obtain ⟨fs, h1, h2, h3⟩ := k3_firsts (vs := vs) fun v' hm => hp v' (List.mem_cons_of_mem _ hm)
    obtain ⟨a, o, its, n, t, rest, ot, t1, t2, t3, m, e, ho, hc, hd, hi, g1, g2, g3⟩ := hp v List.mem_cons_self
    subst e
    refine ⟨.ref t :: fs, PySem.W.KatTups.cons ho hc hd ?_ h1, by rw [List.length_cons, List.length_cons, h2], fun f hm => ?_⟩
    · rw [← Array.getElem?_toList, hi]; rfl
    · rcases List.mem_cons.mp hm with rfl | hm
      · exact ⟨t, ot, rfl, g1, g2⟩
      · exact h3 f hm
theorem k3_sortable {a : Addr} {vs : List Value} {k : Value → K3} (hu : A.units + 8 < cLine) (h0 : 0 < vs.length) (hp : ∀ v ∈ vs, IsK3 s.heap v (k v)) (inj : ∀ v ∈ vs, ∀ u ∈ vs, k v = k u → v = u) (ha : ∀ o, s.heap.get? a = some o → o.cls ≠ .type "tuple") :
    SrtO.SortableO prog w A s a vs fun v u => lex3 (k v) (k u) := by
  intro h' keep
  have hp' : ∀ v ∈ vs, IsK3 h' v (k v) := fun v hm => (hp v hm).keeps fun b o e c => keep b o (fun z => by subst z; exact ha o e c) e
  obtain ⟨fs, h1, h2, h3⟩ := k3_firsts hp'
  refine ⟨tuples' false, fun Q E hq => ?_, k3_cmp (s := { s with heap := h' }) hu hp' inj⟩
  refine PySem.W.kat_kind (T := .type "tuple") h1 (by omega) (fun f hm => ?_) (by rfl) ?_
  · obtain ⟨t, o, rfl, g1, g2⟩ := h3 f hm
    exact fun A Q E s kk q => wpAny_typeOf_ref (kk _ _ g1) (by rw [g2]; exact q)
  · have e : (Value.type "tuple" != Value.type "tuple") = false := by first | decide +kernel | rfl | decide
    rw [e]
    exact hq
theorem IsK3.uniq {h : Heap} {v : Value} {c d : K3} (p : IsK3 h v c) (q : IsK3 h v d) : c = d := by
  obtain ⟨a, o, its, n, t, rest, ot, t1, t2, t3, m, e, ho, hc, hd, hi, g1, g2, g3⟩ := p
  obtain ⟨a', o', its', n', t', rest', ot', t1', t2', t3', m', e', ho', hc', hd', hi', g1', g2', g3'⟩ := q
  rw [e] at e'; cases e'
  rw [ho] at ho'; cases ho'
  rw [hd] at hd'; cases hd'
  rw [hi] at hi'; cases hi'
  rw [g1] at g1'; cases g1'
  rw [g3] at g3'
  injection g3' with z1 z2
  have z := congrArg Array.toList z1
  simp at z
  exact Prod.ext z.1.1 (Prod.ext z.2.1.1 z.2.2.1)
end
section
variable {X : Cx}
def rSortK3 (K : PySem.W.Frag) : List V → Hp → VK → Prop := fun vs H Q => ∃ (a : Addr) (xs : List V) (ks : List K3), vs = [V.ref a] ∧ SqL K H a xs ∧ ks.Nodup ∧ ks.length = xs.length ∧
  (∀ (i : Nat) (x : V) (c : K3), xs[i]? = some x → ks[i]? = some c → ∃ t t1 r, x = V.ref t ∧ SqT K H t (.ref t1 :: r) ∧ SqT K H t1 [.int c.1, .int c.2.1, .int c.2.2]) ∧ ∀ ys p, ys.Perm xs → H p = none → Q (.ref p) (upd H p (.lst ys))
theorem cr_sortK3 (hu : X.A.units + 64 < cLine) : CallR X (.builtin "sorted") (rSortK3 X.K) := by
  intro pins s σ H vs us Q I r h
  obtain ⟨a, xs, ks, rfl, hs, nd, hlen, hx, q⟩ := h
  obtain ⟨its, rv, hl, hz⟩ := I.list hs
  obtain ⟨u, rfl, ru⟩ := vals1 r
  obtain rfl : u = Value.ref a := ru
  have isr : ∀ x ∈ xs, ∃ a, x = V.ref a := fun x m => by
    obtain ⟨i, hi, e⟩ := List.getElem_of_mem m
    obtain ⟨t, _, _, e2, _⟩ := hx i x (ks[i]'(by omega)) (by rw [List.getElem?_eq_getElem hi, e]) (List.getElem?_eq_getElem (by omega))
    exact ⟨t, e2⟩
  obtain ⟨e1, e2⟩ := refs_back rv isr
  have hlv := rv.length
  have tup3 : ∀ (t1 : Addr) (c : K3), SqT X.K H t1 [.int c.1, .int c.2.1, .int c.2.2] → ∃ o n u1 u2 u3, s.heap.get? t1 = some o ∧ o.cls = .type "tuple" ∧ o.data = .seq #[.int c.1 u1, .int c.2.1 u2, .int c.2.2 u3] n := fun t1 c h => by
    obtain ⟨is, rr, ⟨o, e, hc, n, d⟩, _⟩ := I.tuple h
    cases rr with
    | cons q1 rr =>
      cases rr with
      | cons q2 rr =>
        cases rr with
        | cons q3 rr =>
          cases rr
          obtain ⟨u1, rfl⟩ := q1
          obtain ⟨u2, rfl⟩ := q2
          obtain ⟨u3, rfl⟩ := q3
          exact ⟨o, n, u1, u2, u3, e, hc, d⟩
  have key : ∀ (i : Nat) (v : Value) (c : K3), its[i]? = some v → ks[i]? = some c → IsK3 s.heap v c := by
    intro i v c hv hc
    obtain ⟨i1, i2⟩ := List.getElem?_eq_some_iff.mp hv
    have hxi : i < xs.length := by omega
    obtain ⟨t, t1, rr, ex, g1, g2⟩ := hx i xs[i] c (List.getElem?_eq_getElem hxi) hc
    have ev : v = Value.ref t := by
      have z : (its.map backV)[i]? = some xs[i] := by rw [← e1, List.getElem?_eq_getElem hxi]
      rw [List.getElem?_map, hv, ex] at z
      obtain ⟨b, rfl⟩ := e2 v (List.mem_of_getElem? hv)
      cases z; rfl
    subst ev
    obtain ⟨is, rs, ⟨o, e, hcl, n, d⟩, _⟩ := I.tuple g1
    cases rs with
    | cons q1 rs =>
      rename_i u0 us0
      obtain rfl : u0 = Value.ref t1 := q1
      obtain ⟨o2, n2, u1, u2, u3, f1, f2, f3⟩ := tup3 t1 c g2
      exact ⟨t, o, _, n, t1, us0, o2, u1, u2, u3, n2, rfl, e, hcl, d, by simp, f1, f2, f3⟩
  classical
  let k : Value → K3 := fun v => if h : ∃ c, IsK3 s.heap v c then h.choose else (0, 0, 0)
  have kk : ∀ (i : Nat) (v : Value) (c : K3), its[i]? = some v → ks[i]? = some c → k v = c := fun i v c hv hc => by
    have h1 := key i v c hv hc
    have ex : ∃ c, IsK3 s.heap v c := ⟨c, h1⟩
    show (if h : ∃ c, IsK3 s.heap v c then h.choose else (0, 0, 0)) = c
    rw [dif_pos ex]
    exact ex.choose_spec.uniq h1
  have hp : ∀ v ∈ its, IsK3 s.heap v (k v) := fun v m => by
    obtain ⟨i, hi, e⟩ := List.getElem_of_mem m
    have h1 : its[i]? = some v := by rw [List.getElem?_eq_getElem hi, e]
    have h2 : ks[i]? = some (ks[i]'(by omega)) := List.getElem?_eq_getElem _
    rw [kk i v _ h1 h2]
    exact key i v _ h1 h2
  have inj : ∀ v ∈ its, ∀ u ∈ its, k v = k u → v = u := fun v m u m' e => by
    obtain ⟨i, hi, e1⟩ := List.getElem_of_mem m
    obtain ⟨j, hj, e2⟩ := List.getElem_of_mem m'
    have h1 : its[i]? = some v := by rw [List.getElem?_eq_getElem hi, e1]
    have h2 : ks[i]? = some (ks[i]'(by omega)) := List.getElem?_eq_getElem _
    have h3 : its[j]? = some u := by rw [List.getElem?_eq_getElem hj, e2]
    have h4 : ks[j]? = some (ks[j]'(by omega)) := List.getElem?_eq_getElem _
    rw [kk i v _ h1 h2, kk j u _ h3 h4] at e
    have z := List.pairwise_iff_getElem.mp nd
    have : i = j := by
      rcases Nat.lt_trichotomy i j with g | g | g
      · exact absurd e (z i j (by omega) (by omega) g)
      · exact g
      · exact absurd e.symm (z j i (by omega) (by omega) g)
    subst this
    rw [← e1, ← e2]
  refine SrtO.sorted_ord (swo_lex3 k) hl.isList (by rw [← rv.length]; exact hz) (fun h2 h₁ a' ha kk' => ?_) fun out hs' hb => ?_
  · refine k3_sortable (s := { s with heap := h₁ }) ?_ (by omega) (fun v hm => (hp v hm).keeps fun b o e _ => (kk' b o e).2) inj fun o e => ?_
    · have : X.A.in1.in1.units ≤ X.A.units + 2 := by simp only [Around.in1_units]; omega
      omega
    · have e' : some o = some (seqObj "list" its.toArray 0) := e.symm.trans ha
      cases e'
      intro c
      exact absurd (Value.type.inj c) (by decide)
  · have hpm := hb.perm
    have h3 : ∀ u ∈ out, ∃ a, u = Value.ref a := fun u hu => e2 u (hpm.mem_iff.mp hu)
    have hd : s.heap.objs.size ≤ s.heap.objs.size + 1 := Nat.le_succ _
    obtain ⟨n, hn⟩ := PyProof.Rows.sortedAll_at s.heap its out.toArray
    refine ⟨.ref (s.heap.objs.size + 1), upd H (s.heap.objs.size + 1) (.lst (out.map backV)), I.laid (t' := s.toks) (fun b o e => PyProof.Rows.sortedAll_old e) hd ⟨?_, out, n, vals_back h3, hn⟩, rfl, q _ _ ?_ (I.hok.fresh hd)⟩
    · rw [List.length_map, hpm.length_eq, ← rv.length]; exact hz
    · rw [e1]; exact hpm.map backV
theorem cr_sortK3K {K : PySem.W.Frag} (hK : X.K = K) (hu : X.A.units + 64 < cLine) : CallR X (.builtin "sorted") (rSortK3 K) := hK ▸ cr_sortK3 hu
end
section
variable {K : PySem.W.Frag} {Θ : Ctx} {env : Env'} {h : Hs} {R : D → Hs → Prop}
theorem RPs.perm {F : Hp} {ys vs : List V} (p : ys.Perm vs) : ∀ {ps : List P}, RPs K F ps vs → ∃ qs, qs.Perm ps ∧ RPs K F qs ys := by
  induction p with
  | nil => intro ps r; cases r; exact ⟨[], .refl _, .nil⟩
  | cons x _ ih =>
    intro ps r
    cases r with
    | cons a r =>
      obtain ⟨qs, h1, h2⟩ := ih r
      exact ⟨_, h1.cons _, .cons a h2⟩
  | swap x y l =>
    intro ps r
    cases r with
    | cons a r =>
      cases r with
      | cons b r => exact ⟨_, .swap _ _ _, .cons b (.cons a r)⟩
  | trans _ _ ih1 ih2 =>
    intro ps r
    obtain ⟨qs, h1, h2⟩ := ih2 r
    obtain ⟨rs, h3, h4⟩ := ih1 h2
    exact ⟨rs, h3.trans h1, h4⟩
def k3P (c : K3) : P := .tup [.int c.1, .int c.2.1, .int c.2.2]
/-- sorted(xs): the same tuples in some order -/
theorem vc_sortK3 {d : D} {ps : List P} {ks : List K3} (s : SeqL d h ps) (nd : ks.Nodup) (hl : ks.length = ps.length) (hx : ∀ (i : Nat) (x : P) (c : K3), ps[i]? = some x → ks[i]? = some c → ∃ r, x = .tup (k3P c :: r))
    (q : ∀ qs : List P, qs.Perm ps → R (dL qs) h) : VC K Θ (rSortK3 K) [d] h R := fun F ρ H vs Q rl a k => by
  cases a with
  | cons a b =>
    cases b
    obtain ⟨p, us, rfl, g1, g2⟩ := s.v rl a
    refine ⟨p, us, ks, rfl, g1, nd, by rw [hl, g2.len], fun i x c hi hc => ?_, fun ys p' hp hn => ?_⟩
    · have il : i < us.length := (List.getElem?_eq_some_iff.mp hi).1
      have hpl : i < ps.length := by rw [g2.len]; exact il
      obtain ⟨v, v1, v2⟩ := g2.get (List.getElem?_eq_getElem hpl)
      rw [hi] at v1; cases v1
      obtain ⟨r, er⟩ := hx i ps[i] c (List.getElem?_eq_getElem hpl) hc
      rw [er] at v2
      cases v2 with
      | tup e1 e2 =>
        cases e2 with
        | cons f1 f2 =>
          cases f1 with
          | tup w1 w2 =>
            have w3 := RPs.ints (ns := [c.1, c.2.1, c.2.2]) w2
            subst w3
            exact ⟨_, _, _, rfl, sqT_mono rl.same e1, sqT_mono rl.same w1⟩
    · obtain ⟨qs, h1, h2⟩ := RPs.perm hp g2
      exact k (dL qs) h (.ref p') (upd F p' (.lst ys)) ρ _ (same_new (rl.free hn)) (Pre.refl _) (rl.frz hn) (.p (.lst (.of upd_same) (h2.mono (same_new (rl.free hn))))) (q qs h1)
end
end Kb

/-! The pure world of the store laws: rows, kept capabilities, what is told of a capability, paths. -/
namespace Wd
abbrev Key := Int × Int × Int
abbrev Rts := List (Bool × Bool × Bool)
inductive Pub where
  | grant (h : Int) (r : Rts)
  | revoke (c : Option Key)
  | mark
structure Row where
  a : Int
  n : Int
  hd : List Int
  cap : Option Key
  pub : List Pub
structure Ent where
  k : Key
  par : Option Key
  hol : Int
  rts : Rts
structure Wld where
  m : Int
  rows : List Row
  cut : List Int
  caps : List Ent
abbrev Told := Option Key × Int × Rts
def Pub.told (cap : Option Key) : Pub → Option Told
  | .grant h r => some (cap, h, r)
  | _ => none
def rowOf (w : Wld) (a b : Int) : Option Row := w.rows.find? fun r => decide (r.a = a ∧ r.n = b)
def rowTold (r : Option Row) (p : Int) : Option Told :=
  match r with
  | none => none
  | some r => if 0 ≤ p then (match r.pub[p.toNat]? with | some u => u.told r.cap | none => none) else none
def told (w : Wld) (c : Key) : Option Told :=
  match w.caps.find? fun e => decide (e.k = c) with
  | some e => some (e.par, e.hol, e.rts)
  | none => rowTold (rowOf w c.1 c.2.1) c.2.2
def par (w : Wld) (c : Key) : Option (Option Key) := (told w c).map (·.1)
def isKept (w : Wld) (c : Key) : Bool := w.caps.any fun e => decide (e.k = c)
/-- the chain to None, if it is shorter than that -/
def path (t : Key → Option (Option Key)) : Nat → Option Key → Option (List Key)
  | 0, _ => none
  | _ + 1, none => some []
  | n + 1, some k => (t k).bind fun p => (path t n p).map (k :: ·)
section
variable {t : Key → Option (Option Key)}
theorem path_none {n : Nat} : path t (n + 1) none = some [] := rfl
theorem path_some {n : Nat} {k : Key} : path t (n + 1) (some k) = (t k).bind fun p => (path t n p).map (k :: ·) := rfl
theorem path_inv {n : Nat} {k : Key} {ks : List Key} (h : path t n (some k) = some ks) : ∃ m p r, n = m + 1 ∧ t k = some p ∧ path t m p = some r ∧ ks = k :: r := by
  cases n with
  | zero => cases h
  | succ m =>
    rw [path_some] at h
    cases e : t k with
    | none => rw [e] at h; cases h
    | some p =>
      rw [e] at h
      cases e2 : path t m p with
      | none => rw [Option.bind_some, e2] at h; cases h
      | some r =>
        rw [Option.bind_some, e2] at h
        exact ⟨m, p, r, rfl, rfl, e2, (Option.some.inj h).symm⟩
theorem path_len : ∀ {n : Nat} {c : Option Key} {ks : List Key}, path t n c = some ks → ks.length < n ∧ path t (ks.length + 1) c = some ks
  | 0, _, _, h => by cases h
  | n + 1, none, ks, h => by cases h; exact ⟨by simp, rfl⟩
  | n + 1, some k, ks, h => by
    obtain ⟨m, p, r, e, e1, e2, rfl⟩ := path_inv h
    cases e
    obtain ⟨h1, h2⟩ := path_len e2
    refine ⟨by simp; omega, ?_⟩
    rw [path_some, e1, Option.bind_some]
    show (path t (r.length + 1) p).map _ = _
    rw [h2]; rfl
theorem path_mono : ∀ {n m : Nat} {c : Option Key} {ks : List Key}, path t n c = some ks → n ≤ m → path t m c = some ks
  | 0, _, _, _, h, _ => by cases h
  | n + 1, 0, _, _, _, hm => by omega
  | n + 1, m + 1, none, ks, h, _ => h
  | n + 1, m + 1, some k, ks, h, hm => by
    obtain ⟨m', p, r, e, e1, e2, rfl⟩ := path_inv h
    cases e
    rw [path_some, e1, Option.bind_some, path_mono e2 (Nat.le_of_succ_le_succ hm)]; rfl
theorem path_det {n m : Nat} {c : Option Key} {ks js : List Key} (h : path t n c = some ks) (g : path t m c = some js) : ks = js := by
  have a := path_mono h (Nat.le_max_left n m)
  have b := path_mono g (Nat.le_max_right n m)
  rw [a] at b
  exact Option.some.inj b
theorem path_told : ∀ {n : Nat} {c : Option Key} {ks : List Key}, path t n c = some ks → ∀ k ∈ ks, (t k).isSome = true
  | 0, _, _, h => by cases h
  | n + 1, none, ks, h => by cases h; intro k hk; cases hk
  | n + 1, some k, ks, h => by
    obtain ⟨m, p, r, e, e1, e2, rfl⟩ := path_inv h
    cases e
    intro j hj
    rcases List.mem_cons.mp hj with rfl | hj
    · rw [e1]; rfl
    · exact path_told e2 j hj
/-- from each key of a chain there is a chain, and it is shorter -/
theorem path_from : ∀ {n : Nat} {c : Option Key} {ks : List Key}, path t n c = some ks → ∀ k ∈ ks, ∃ js, path t n (some k) = some js ∧ js.length ≤ ks.length ∧ (c ≠ some k → js.length < ks.length)
  | 0, _, _, h => by cases h
  | n + 1, none, ks, h => by cases h; intro k hk; cases hk
  | n + 1, some k, ks, h => by
    obtain ⟨m, p, r, e, e1, e2, rfl⟩ := path_inv h
    cases e
    intro j hj
    by_cases hk : j = k
    · subst hk; exact ⟨_, h, Nat.le_refl _, fun z => absurd rfl z⟩
    · rcases List.mem_cons.mp hj with e | hj
      · exact absurd e hk
      · obtain ⟨js, g1, g2, _⟩ := path_from e2 j hj
        exact ⟨js, path_mono g1 (Nat.le_succ _), by simp; omega, fun _ => by simp; omega⟩
theorem path_nodup : ∀ {n : Nat} {c : Option Key} {ks : List Key}, path t n c = some ks → ks.Nodup
  | 0, _, _, h => by cases h
  | n + 1, none, ks, h => by cases h; exact .nil
  | n + 1, some k, ks, h => by
    obtain ⟨m, p, r, e, e1, e2, rfl⟩ := path_inv h
    cases e
    refine List.nodup_cons.mpr ⟨fun hk => ?_, path_nodup e2⟩
    obtain ⟨js, g1, g2, _⟩ := path_from e2 k hk
    have := path_det g1 h
    rw [this] at g2
    simp at g2
    omega
/-- a walk: from c along ks to d -/
inductive Walk (t : Key → Option (Option Key)) : Option Key → List Key → Option Key → Prop
  | nil (c : Option Key) : Walk t c [] c
  | cons {k : Key} {p : Option Key} {ks : List Key} {d : Option Key} : t k = some p → Walk t p ks d → Walk t (some k) (k :: ks) d
theorem Walk.snoc {c : Option Key} {ks : List Key} {k : Key} {p : Option Key} (w : Walk t c ks (some k)) (h : t k = some p) : Walk t c (ks ++ [k]) p := by
  generalize e : some k = d at w
  induction w with
  | nil c => subst e; exact .cons h (.nil _)
  | cons h' _ ih => exact .cons h' (ih e)
theorem Walk.path {c : Option Key} {ks : List Key} (w : Walk t c ks none) : path t (ks.length + 1) c = some ks := by
  generalize e : (none : Option Key) = d at w
  induction w with
  | nil c => subst e; rfl
  | cons h' _ ih =>
    rw [List.length_cons, path_some, h', Option.bind_some, ih e]; rfl
theorem Walk.path_back {c d : Option Key} {ks : List Key} (w : Walk t c ks d) {n : Nat} {js : List Key} (h : Wd.path t n c = some js) : ∃ r m, js = ks ++ r ∧ Wd.path t m d = some r ∧ m ≤ n := by
  induction w generalizing n js with
  | nil c => exact ⟨js, n, rfl, h, Nat.le_refl _⟩
  | cons h' _ ih =>
    obtain ⟨m, p, r, rfl, e1, e2, rfl⟩ := path_inv h
    rw [h'] at e1
    cases e1
    obtain ⟨r', m', h1, h2, h3⟩ := ih e2
    exact ⟨r', m', by rw [h1]; rfl, h2, by omega⟩
theorem Walk.to_path {c d : Option Key} {ks : List Key} (w : Walk t c ks d) {n : Nat} {r : List Key} (h : Wd.path t n d = some r) : Wd.path t (n + ks.length) c = some (ks ++ r) := by
  induction w with
  | nil c => exact h
  | cons h' _ ih =>
    rw [List.length_cons, ← Nat.add_assoc, path_some, h', Option.bind_some, ih h]; rfl
theorem Walk.mem_told {c d : Option Key} {ks : List Key} (w : Walk t c ks d) : ∀ k ∈ ks, (t k).isSome = true := by
  induction w with
  | nil c => intro k hk; cases hk
  | cons h' _ ih =>
    intro j hj
    rcases List.mem_cons.mp hj with rfl | hj
    · rw [h']; rfl
    · exact ih j hj
/-- where a key of a walk has a chain, the walk's start has one -/
theorem Walk.kept {c d : Option Key} {ks : List Key} (w : Walk t c ks d) {k : Key} (hk : k ∈ ks) {n : Nat} {js : List Key} (h : Wd.path t n (some k) = some js) : ∃ m r, Wd.path t m c = some r := by
  induction w with
  | nil c => cases hk
  | @cons k' p ks' d' h' _ ih =>
    rcases List.mem_cons.mp hk with rfl | hk
    · exact ⟨_, _, h⟩
    · obtain ⟨m, r, e⟩ := ih hk
      exact ⟨m + 1, k' :: r, by rw [path_some, h', Option.bind_some, e]; rfl⟩
/-- a walk that comes back has no chain -/
theorem Walk.cycle {c : Option Key} {k : Key} {ks : List Key} (w : Walk t c ks (some k)) (hk : k ∈ ks) (n : Nat) : Wd.path t n c = none := by
  cases h : Wd.path t n c with
  | none => rfl
  | some js =>
    obtain ⟨r, m, e1, e2, _⟩ := w.path_back h
    have nd := path_nodup h
    obtain ⟨_, _, r', _, _, _, e3⟩ := path_inv e2
    rw [e1, e3, List.nodup_append] at nd
    exact absurd rfl (nd.2.2 k hk k List.mem_cons_self)
theorem Walk.stuck {c : Option Key} {k : Key} {ks : List Key} (w : Walk t c ks (some k)) (hk : t k = none) (n : Nat) : Wd.path t n c = none := by
  cases h : Wd.path t n c with
  | none => rfl
  | some js =>
    obtain ⟨r, m, e1, e2, _⟩ := w.path_back h
    obtain ⟨_, p, r', _, e4, _, e3⟩ := path_inv e2
    rw [hk] at e4; cases e4
end
theorem nodup_sub {α : Type} [DecidableEq α] : ∀ {xs ys : List α}, xs.Nodup → (∀ x ∈ xs, x ∈ ys) → xs.length ≤ ys.length
  | [], _, _, _ => Nat.zero_le _
  | x :: xs, ys, nd, h => by
    have nd' := List.nodup_cons.mp nd
    have hx := h x List.mem_cons_self
    have z := nodup_sub (xs := xs) (ys := ys.erase x) nd'.2 fun y hy => by
      have hy2 := h y (List.mem_cons_of_mem _ hy)
      exact (List.mem_erase_of_ne (fun (e : y = x) => nd'.1 (by rw [← e]; exact hy))).mpr hy2
    rw [List.length_erase_of_mem hx] at z
    have : 0 < ys.length := List.length_pos_of_mem hx
    simp; omega
/-- the keys that something is told of -/
def keysOf (w : Wld) : List Key := w.caps.map (·.k) ++ (w.rows.map fun r => (List.range r.pub.length).map fun (i : Nat) => ((r.a, r.n, (i : Int)) : Key)).flatten
theorem told_mem {w : Wld} {c : Key} (h : (told w c).isSome = true) : c ∈ keysOf w := by
  unfold told at h
  unfold keysOf
  cases e : w.caps.find? fun e => decide (e.k = c) with
  | some x =>
    have h1 := List.mem_of_find?_eq_some e
    have h2 : x.k = c := by simpa using List.find?_some e
    exact List.mem_append_left _ (List.mem_map.mpr ⟨x, h1, h2⟩)
  | none =>
    rw [e] at h
    refine List.mem_append_right _ ?_
    unfold rowOf rowTold at h
    dsimp only at h
    cases e2 : w.rows.find? fun r => decide (r.a = c.1 ∧ r.n = c.2.1) with
    | none => rw [e2] at h; cases h
    | some r =>
      have h1 := List.mem_of_find?_eq_some e2
      have h2 : r.a = c.1 ∧ r.n = c.2.1 := by simpa using List.find?_some e2
      rw [e2] at h
      dsimp only at h
      by_cases h0 : 0 ≤ c.2.2
      · rw [if_pos h0] at h
        have hl : c.2.2.toNat < r.pub.length := by
          rcases Nat.lt_or_ge c.2.2.toNat r.pub.length with z | z
          · exact z
          · rw [List.getElem?_eq_none_iff.mpr z] at h; cases h
        refine List.mem_flatten.mpr ⟨_, List.mem_map.mpr ⟨r, h1, rfl⟩, List.mem_map.mpr ⟨c.2.2.toNat, List.mem_range.mpr hl, ?_⟩⟩
        rw [h2.1, h2.2, Int.toNat_of_nonneg h0]
      · rw [if_neg h0] at h; cases h
theorem par_some {w : Wld} {c : Key} (h : (par w c).isSome = true) : c ∈ keysOf w := told_mem (by unfold par at h; simpa using h)
/-- what the laws need of a world's capabilities -/
structure PathOk (w : Wld) : Prop where
  kept : ∀ e ∈ w.caps, ∃ n ks, path (par w) n (some e.k) = some ks
  short : ∀ n c ks, path (par w) n c = some ks → ks.length ≤ 39
/-- the chain of a capability -/
def pathW (w : Wld) (c : Option Key) : Option (List Key) := path (par w) 40 c
theorem pathW_of {w : Wld} (ok : PathOk w) {n : Nat} {c : Option Key} {ks : List Key} (h : path (par w) n c = some ks) : pathW w c = some ks := by
  have z := ok.short n c ks h
  exact path_mono (path_len h).2 (by omega)
/-- the end of the program's walk -/
theorem walk_end {w : Wld} (ok : PathOk w) {c d : Option Key} {ks : List Key} (wk : Walk (par w) c ks d) (hd : ∀ k, d = some k → k ∈ ks ∨ par w k = none) :
    (if (ks.any (isKept w) || d.isNone) = true then some ks else none) = pathW w c := by
  cases d with
  | none =>
    rw [Option.isNone_none, Bool.or_true, if_pos rfl]
    exact (pathW_of ok wk.path).symm
  | some k =>
    have no : ∀ n, path (par w) n c = none := by
      rcases hd k rfl with h | h
      · exact wk.cycle h
      · exact wk.stuck h
    have nk : ks.any (isKept w) = false := by
      cases e : ks.any (isKept w) with
      | false => rfl
      | true =>
        obtain ⟨j, hj, hk⟩ := List.any_eq_true.mp e
        unfold isKept at hk
        obtain ⟨x, hx, ex⟩ := List.any_eq_true.mp hk
        have ex : x.k = j := by simpa using ex
        obtain ⟨n, js, p⟩ := ok.kept x hx
        rw [ex] at p
        obtain ⟨m, r, e2⟩ := wk.kept hj p
        rw [no m] at e2; cases e2
    rw [nk]
    show none = _
    exact (no 40).symm
/-- capabilities that are kept with those above them -/
theorem kept_of {w : Wld} {L : List Ent} (hp : L.Perm w.caps) (nd : (L.map (·.k)).Nodup) (h : ∀ (i : Nat) (e : Ent), L[i]? = some e → e.par = none ∨ ∃ (j : Nat) (e' : Ent), j < i ∧ L[j]? = some e' ∧ e.par = some e'.k) :
    ∀ e ∈ w.caps, ∃ n ks, path (par w) n (some e.k) = some ks := by
  have nd2 : (w.caps.map (·.k)).Nodup := (hp.map _).nodup_iff.mp nd
  have tk : ∀ e ∈ w.caps, par w e.k = some e.par := by
    intro e he
    unfold par told
    have : ∃ x, w.caps.find? (fun x => decide (x.k = e.k)) = some x := by
      cases z : w.caps.find? (fun x => decide (x.k = e.k)) with
      | some x => exact ⟨x, rfl⟩
      | none =>
        have z2 := List.find?_eq_none.mp z e he
        simp at z2
    obtain ⟨x, hx⟩ := this
    have h1 := List.mem_of_find?_eq_some hx
    have h2 : x.k = e.k := by simpa using List.find?_some hx
    have h3 : x = e := by
      obtain ⟨i, hi, ei⟩ := List.getElem_of_mem h1
      obtain ⟨j, hj, ej⟩ := List.getElem_of_mem he
      have : i = j := by
        have z := (List.pairwise_iff_getElem.mp nd2)
        have e1 : (w.caps.map (·.k))[i]'(by simpa using hi) = e.k := by rw [List.getElem_map, ei, h2]
        have e2 : (w.caps.map (·.k))[j]'(by simpa using hj) = e.k := by rw [List.getElem_map, ej]
        rcases Nat.lt_trichotomy i j with q | q | q
        · exact absurd (e1.trans e2.symm) (z i j (by simpa using hi) (by simpa using hj) q)
        · exact q
        · exact absurd (e2.trans e1.symm) (z j i (by simpa using hj) (by simpa using hi) q)
      subst this
      rw [← ei, ej]
    rw [hx, h3]; rfl
  have all : ∀ (i : Nat) (e : Ent), L[i]? = some e → ∃ n ks, path (par w) n (some e.k) = some ks := by
    intro i
    induction i using Nat.strongRecOn with
    | _ i ih =>
      intro e he
      have hm : e ∈ w.caps := hp.mem_iff.mp (List.mem_of_getElem? he)
      rcases h i e he with h0 | ⟨j, e', hj, he', hpar⟩
      · exact ⟨2, [e.k], by rw [path_some, tk e hm, Option.bind_some, h0]; rfl⟩
      · obtain ⟨n, ks, z⟩ := ih j hj e' he'
        exact ⟨n + 1, e.k :: ks, by rw [path_some, tk e hm, Option.bind_some, hpar, z]; rfl⟩
  intro e he
  obtain ⟨i, hi, e1⟩ := List.getElem_of_mem (hp.mem_iff.mpr he)
  exact all i e (by rw [List.getElem?_eq_getElem hi, e1])
theorem short_of {w : Wld} (h : (keysOf w).length ≤ 39) : ∀ n c ks, path (par w) n c = some ks → ks.length ≤ 39 := fun _ _ _ p =>
  Nat.le_trans (nodup_sub (path_nodup p) fun k hk => par_some (path_told p k hk)) h
end Wd

/-! Rows of a world: numbers that follow on each other; what is found by a name. -/
namespace Wd
def ofA (a : Int) (rows : List Row) : List Row := rows.filter fun r => decide (r.a = a)
def cutA (cut : List Int) (a : Int) : Int := cut[a.toNat]?.getD 0
theorem find_num {c : Int} : ∀ {L : List Row} {k : Nat}, (∀ (i : Nat) (r : Row), L[i]? = some r → r.n = c + 1 + (k : Int) + (i : Int)) → ∀ b : Int,
    L.find? (fun r => decide (r.n = b)) = if c + (k : Int) < b then L[(b - c - 1 - (k : Int)).toNat]? else none
  | [], k, _, b => by simp
  | r :: L, k, h, b => by
    have h0 := h 0 r rfl
    have hs : ∀ (i : Nat) (r : Row), L[i]? = some r → r.n = c + 1 + ((k + 1 : Nat) : Int) + (i : Int) := fun i r hr => by
      have := h (i + 1) r (by simpa using hr)
      omega
    rw [List.find?_cons]
    by_cases e : r.n = b
    · rw [decide_eq_true e]
      have z : (b - c - 1 - (k : Int)).toNat = 0 := by omega
      rw [if_pos (by omega), z]; rfl
    · rw [decide_eq_false e]
      have ih := find_num hs b
      rw [ih]
      by_cases l : c + (k : Int) < b
      · have z : (b - c - 1 - (k : Int)).toNat = (b - c - 1 - ((k + 1 : Nat) : Int)).toNat + 1 := by omega
        rw [if_pos l, if_pos (by omega), z]; rfl
      · rw [if_neg l, if_neg (by omega)]
/-- the numbers of each author's rows follow on each other from what is cut away -/
def Num (cut : List Int) (rows : List Row) : Prop := ∀ (a : Int), 0 ≤ a → ∀ (i : Nat) (r : Row), (ofA a rows)[i]? = some r → r.n = cutA cut a + 1 + (i : Int)
def CapOk (m : Int) (c : Option Key) : Prop := ∀ k, c = some k → 0 ≤ k.1 ∧ k.1 < m ∧ 1 ≤ k.2.1 ∧ 0 ≤ k.2.2
def PubOk (m : Int) : Pub → Prop
  | .grant h r => 0 ≤ h ∧ h < m ∧ r.length = 4
  | .revoke c => CapOk m c
  | .mark => True
theorem CapOk.none (m : Int) : CapOk m none := fun k e => by cases e
structure WOk (w : Wld) : Prop where
  m0 : 1 ≤ w.m
  m1 : w.m ≤ 6
  cl : w.cut.length = w.m.toNat
  c0 : ∀ x ∈ w.cut, 0 ≤ x
  c1 : ∀ x ∈ w.cut, x < 2 ^ 60
  au : ∀ r ∈ w.rows, 0 ≤ r.a ∧ r.a < w.m
  num : Num w.cut w.rows
  rl : w.rows.length ≤ 1000
  kl : w.caps.length ≤ 1000
  pl : ∀ r ∈ w.rows, r.pub.length ≤ 1000
  hl : ∀ r ∈ w.rows, r.hd.length = w.m.toNat
  cp : ∀ r ∈ w.rows, CapOk w.m r.cap
  pb : ∀ r ∈ w.rows, ∀ u ∈ r.pub, PubOk w.m u
  ek : ∀ e ∈ w.caps, CapOk w.m (some e.k) ∧ CapOk w.m e.par ∧ e.rts.length = 4 ∧ 0 ≤ e.hol ∧ e.hol < w.m
theorem rowOf_at {w : Wld} (ok : WOk w) {a : Int} (b : Int) (h0 : 0 ≤ a) : rowOf w a b = if cutA w.cut a < b then (ofA a w.rows)[(b - cutA w.cut a - 1).toNat]? else none := by
  have e : rowOf w a b = (ofA a w.rows).find? fun r => decide (r.n = b) := by
    unfold rowOf ofA
    rw [List.find?_filter]
    congr 1
    funext r
    by_cases h1 : r.a = a <;> by_cases h2 : r.n = b <;> simp [h1, h2]
  rw [e, find_num (c := cutA w.cut a) (k := 0) (fun i r hr => by rw [ok.num a h0 i r hr]; omega)]
  simp
theorem rowOf_mem {w : Wld} {a b : Int} {r : Row} (h : rowOf w a b = some r) : r ∈ w.rows ∧ r.a = a ∧ r.n = b := by
  have h1 := List.mem_of_find?_eq_some h
  have h2 := List.find?_some h
  exact ⟨h1, by simpa using h2⟩
theorem rowOf_out {w : Wld} (ok : WOk w) {a b : Int} (h : ¬ (0 ≤ a ∧ a < w.m)) : rowOf w a b = none := by
  cases e : rowOf w a b with
  | none => rfl
  | some r =>
    obtain ⟨h1, h2, _⟩ := rowOf_mem e
    have := ok.au r h1
    rw [h2] at this
    exact absurd this h
/-- the changes by author -/
def byA {α : Type} (f : Row → α) (w : Wld) : List (List α) := (List.range w.m.toNat).map fun (a : Nat) => (ofA (a : Int) w.rows).map f
theorem byA_len {α : Type} (f : Row → α) (w : Wld) : (byA f w).length = w.m.toNat := by simp [byA]
theorem byA_get {α : Type} (f : Row → α) (w : Wld) {a : Nat} (h : a < w.m.toNat) : (byA f w)[a]? = some ((ofA (a : Int) w.rows).map f) := by
  unfold byA
  rw [List.getElem?_map, List.getElem?_range h]; rfl
/-! ### drawn rows -/
def cnt (rows : List Row) (a : Int) : Nat := (ofA a rows).length
structure RowOk (m : Int) (bf : List Row) (r : Row) : Prop where
  a0 : 0 ≤ r.a
  a1 : r.a < m
  n : r.n = cnt bf r.a + 1
  hl : r.hd.length = m.toNat
  hd : ∀ (j : Nat) (x : Int), r.hd[j]? = some x → 0 ≤ x ∧ x ≤ cnt bf j
  own : r.hd[r.a.toNat]? = some (r.n - 1)
  cp : CapOk m r.cap
  pb : ∀ u ∈ r.pub, PubOk m u
  pl : r.pub.length ≤ 60
inductive RowsOk (m : Int) : List Row → Prop
  | nil : RowsOk m []
  | snoc {rows : List Row} {r : Row} : RowsOk m rows → RowOk m rows r → RowsOk m (rows ++ [r])
theorem ofA_app {a : Int} {xs ys : List Row} : ofA a (xs ++ ys) = ofA a xs ++ ofA a ys := List.filter_append ..
theorem ofA_one {a : Int} {r : Row} : ofA a [r] = if r.a = a then [r] else [] := by
  unfold ofA
  by_cases h : r.a = a
  · rw [List.filter_cons_of_pos (by simpa using h), if_pos h]; rfl
  · rw [List.filter_cons_of_neg (by simpa using h), if_neg h]; rfl
theorem cnt_snoc {rows : List Row} {r : Row} {a : Int} : cnt (rows ++ [r]) a = cnt rows a + (if r.a = a then 1 else 0) := by
  unfold cnt
  rw [ofA_app, ofA_one, List.length_append]
  split <;> rfl
theorem cnt_mono {rows : List Row} {r : Row} {a : Int} : cnt rows a ≤ cnt (rows ++ [r]) a := by rw [cnt_snoc]; omega
theorem RowsOk.num {m : Int} {rows : List Row} (h : RowsOk m rows) : ∀ (a : Int) (i : Nat) (r : Row), (ofA a rows)[i]? = some r → r.n = 1 + (i : Int) := by
  induction h with
  | nil => intro a i r h; simp [ofA] at h
  | @snoc rows r _ ok ih =>
    intro a i r' h
    rw [ofA_app, ofA_one] at h
    by_cases e : r.a = a
    · rw [if_pos e] at h
      rcases Nat.lt_or_ge i (ofA a rows).length with z | z
      · rw [List.getElem?_append_left z] at h; exact ih a i r' h
      · rw [List.getElem?_append_right z] at h
        have hi : i - (ofA a rows).length = 0 := by
          have := (List.getElem?_eq_some_iff.mp h).1
          simp at this; omega
        rw [hi] at h
        cases h
        have e2 := ok.n
        unfold cnt at e2
        rw [e] at e2
        omega
    · rw [if_neg e, List.append_nil] at h; exact ih a i r' h
theorem RowsOk.pubs {m : Int} {rows : List Row} (h : RowsOk m rows) : ∀ r ∈ rows, CapOk m r.cap ∧ (∀ u ∈ r.pub, PubOk m u) ∧ r.pub.length ≤ 60 := by
  induction h with
  | nil => intro r h; cases h
  | @snoc rows r _ ok ih =>
    intro r' h
    rcases List.mem_append.mp h with h | h
    · exact ih r' h
    · cases List.mem_singleton.mp h
      exact ⟨ok.cp, ok.pb, ok.pl⟩
theorem RowsOk.each {m : Int} {rows : List Row} (h : RowsOk m rows) : ∀ r ∈ rows, 0 ≤ r.a ∧ r.a < m ∧ r.hd.length = m.toNat ∧ 1 ≤ r.n ∧ r.n ≤ cnt rows r.a ∧ r.hd[r.a.toNat]? = some (r.n - 1) ∧ ∀ (j : Nat) (x : Int), r.hd[j]? = some x → 0 ≤ x ∧ x ≤ cnt rows j := by
  induction h with
  | nil => intro r h; cases h
  | @snoc rows r _ ok ih =>
    intro r' h
    rcases List.mem_append.mp h with h | h
    · obtain ⟨h1, h2, h3, h4, h5, h6, h7⟩ := ih r' h
      refine ⟨h1, h2, h3, h4, ?_, h6, fun j x hx => ?_⟩
      · have := @cnt_mono rows r r'.a; omega
      · have := @cnt_mono rows r j
        have := h7 j x hx
        omega
    · cases List.mem_singleton.mp h
      have e := ok.n
      refine ⟨ok.a0, ok.a1, ok.hl, by omega, ?_, ok.own, fun j x hx => ?_⟩
      · rw [cnt_snoc, if_pos rfl]; omega
      · have := @cnt_mono rows r j
        have := ok.hd j x hx
        omega
/-- rows that stay behind a cut -/
theorem num_cut {m : Int} {rows : List Row} (h : RowsOk m rows) {cut : List Int} (hc : ∀ a : Int, 0 ≤ a → a < m → 0 ≤ cutA cut a ∧ cutA cut a ≤ cnt rows a) :
    Num cut (rows.filter fun r => decide (cutA cut r.a < r.n)) := by
  intro a h0 i r hr
  have e : ofA a (rows.filter fun r => decide (cutA cut r.a < r.n)) = (ofA a rows).drop (cutA cut a).toNat := by
    unfold ofA
    rw [List.filter_filter]
    have e1 : (rows.filter fun r => decide (r.a = a) && decide (cutA cut r.a < r.n)) = (rows.filter fun r => decide (r.a = a)).filter fun r => decide (cutA cut a < r.n) := by
      rw [List.filter_filter]
      refine List.filter_congr fun r _ => ?_
      by_cases h1 : r.a = a
      · rw [h1, Bool.and_comm]
      · simp [h1]
    rw [e1]
    have hn := h.num a
    unfold ofA at hn
    generalize rows.filter (fun r => decide (r.a = a)) = L at hn
    by_cases hm : L = []
    · rw [hm]; simp
    · have ha : 0 ≤ a ∧ a < m ∨ True := .inr trivial
      have c0 : 0 ≤ cutA cut a ∨ cutA cut a < 0 := by omega
      have gen : ∀ (L : List Row) (k : Nat), (∀ (i : Nat) (r : Row), L[i]? = some r → r.n = 1 + (k : Int) + (i : Int)) → L.filter (fun r => decide (cutA cut a < r.n)) = L.drop ((cutA cut a).toNat - k) := by
        intro L
        induction L with
        | nil => intro k _; simp
        | cons r L ih =>
          intro k hk
          have r0 := hk 0 r rfl
          have hs := ih (k + 1) fun i r hr => by
            have := hk (i + 1) r (by simpa using hr)
            omega
          by_cases l : cutA cut a < r.n
          · rw [List.filter_cons_of_pos (by simpa using l), hs]
            have z1 : (cutA cut a).toNat - k = 0 := by omega
            have z2 : (cutA cut a).toNat - (k + 1) = 0 := by omega
            rw [z1, z2]; rfl
          · rw [List.filter_cons_of_neg (by simpa using l), hs]
            have z1 : (cutA cut a).toNat - k = ((cutA cut a).toNat - (k + 1)) + 1 := by omega
            rw [z1]; rfl
      have := gen L 0 fun i r hr => by rw [hn i r hr]; omega
      rw [this, Nat.sub_zero]
  rw [e, List.getElem?_drop] at hr
  have := h.num a _ r hr
  have hr2 := List.mem_of_getElem? hr
  unfold ofA at hr2
  obtain ⟨h1, h2⟩ := List.mem_filter.mp hr2
  have h3 : r.a = a := by simpa using h2
  have h4 := h.each r h1
  rw [h3] at h4
  have := hc a h4.1 h4.2.1
  omega
def pubSum (rows : List Row) : Nat := (rows.map fun r => r.pub.length).sum
theorem keysOf_len (w : Wld) : (keysOf w).length = w.caps.length + pubSum w.rows := by
  unfold keysOf pubSum
  rw [List.length_append, List.length_map, List.length_flatten, List.map_map]
  congr 2
  refine List.map_congr_left fun r _ => ?_
  simp
theorem pubSum_app (xs ys : List Row) : pubSum (xs ++ ys) = pubSum xs + pubSum ys := by unfold pubSum; rw [List.map_append, List.sum_append_nat]
theorem pubSum_split (c : Row → Bool) : ∀ xs : List Row, pubSum (xs.filter c) + pubSum (xs.filter fun r => !c r) = pubSum xs
  | [] => rfl
  | x :: xs => by
    have ih := pubSum_split c xs
    cases h : c x <;> simp [h, pubSum] at ih ⊢ <;> omega
/-- no row is cut away -/
theorem num_zero {m : Int} {rows : List Row} (h : RowsOk m rows) {cut : List Int} (hc : ∀ x ∈ cut, x = 0) : Num cut rows := by
  intro a h0 i r hr
  have e := h.num a i r hr
  have z : cutA cut a = 0 := by
    unfold cutA
    cases g : cut[a.toNat]? with
    | none => rfl
    | some c => exact hc c (List.mem_of_getElem? g)
  omega
theorem rows_ok {m : Int} {rows : List Row} (h : RowsOk m rows) (m0 : 1 ≤ m) (m1 : m ≤ 6) (hl : rows.length ≤ 1000) {cut : List Int} {caps : List Ent} (cl : cut.length = m.toNat) (c0 : ∀ x ∈ cut, 0 ≤ x ∧ x < 2 ^ 60) (kl : caps.length ≤ 1000)
    (ek : ∀ e ∈ caps, CapOk m (some e.k) ∧ CapOk m e.par ∧ e.rts.length = 4 ∧ 0 ≤ e.hol ∧ e.hol < m) (c : Row → Bool) (nm : Num cut (rows.filter c)) : WOk ⟨m, rows.filter c, cut, caps⟩ := by
  have sub : ∀ r ∈ rows.filter c, r ∈ rows := fun r hr => (List.mem_filter.mp hr).1
  refine ⟨m0, m1, cl, fun x hx => (c0 x hx).1, fun x hx => (c0 x hx).2, fun r hr => ?_, nm, Nat.le_trans (List.length_filter_le ..) hl, kl, fun r hr => ?_, fun r hr => ?_, fun r hr => (h.pubs r (sub r hr)).1, fun r hr => (h.pubs r (sub r hr)).2.1, ek⟩
  · have := h.each r (sub r hr)
    exact ⟨this.1, this.2.1⟩
  · have := (h.pubs r (sub r hr)).2.2
    omega
  · exact (h.each r (sub r hr)).2.2.1
end Wd

/-! What is kept of rows that are cut away. -/
namespace Wd
theorem RowsOk.names {m : Int} {rows : List Row} (h : RowsOk m rows) : (rows.map fun r => (r.a, r.n)).Nodup := by
  induction h with
  | nil => exact .nil
  | @snoc rows r hr ok ih =>
    rw [List.map_append, List.nodup_append]
    refine ⟨ih, by simp, fun x hx y hy => ?_⟩
    obtain ⟨r', h1, rfl⟩ := List.mem_map.mp hx
    have hy := List.mem_singleton.mp hy
    subst hy
    intro e
    have e1 := congrArg Prod.fst e
    have e2 := congrArg Prod.snd e
    dsimp only at e1 e2
    have z := (hr.each r' h1).2.2.2.2.1
    rw [e1] at z
    have := ok.n
    omega
theorem names_inj {rows : List Row} (nd : (rows.map fun r => (r.a, r.n)).Nodup) {i j : Nat} {r r' : Row} (hi : rows[i]? = some r) (hj : rows[j]? = some r') (ha : r.a = r'.a) (hn : r.n = r'.n) : i = j := by
  obtain ⟨i1, i2⟩ := List.getElem?_eq_some_iff.mp hi
  obtain ⟨j1, j2⟩ := List.getElem?_eq_some_iff.mp hj
  have z := List.pairwise_iff_getElem.mp nd
  have e1 : (rows.map fun r => (r.a, r.n))[i]'(by simpa using i1) = (r.a, r.n) := by rw [List.getElem_map, i2]
  have e2 : (rows.map fun r => (r.a, r.n))[j]'(by simpa using j1) = (r.a, r.n) := by rw [List.getElem_map, j2, ha, hn]
  rcases Nat.lt_trichotomy i j with q | q | q
  · exact absurd (e1.trans e2.symm) (z i j (by simpa using i1) (by simpa using j1) q)
  · exact q
  · exact absurd (e2.trans e1.symm) (z j i (by simpa using j1) (by simpa using i1) q)
/-- a row that is cut away -/
def isCut (cut : List Int) (r : Row) : Bool := decide (r.n ≤ cutA cut r.a)
def EntOk (m : Int) (e : Ent) : Prop := CapOk m (some e.k) ∧ CapOk m e.par ∧ e.rts.length = 4 ∧ 0 ≤ e.hol ∧ e.hol < m
structure KInv (m : Int) (rows : List Row) (cut : List Int) (i p : Nat) (L : List Ent) : Prop where
  nd : (L.map (·.k)).Nodup
  src : ∀ e ∈ L, ∃ (j : Nat) (r : Row) (q : Nat), rows[j]? = some r ∧ e.k = (r.a, r.n, (q : Int)) ∧ q < r.pub.length ∧ isCut cut r = true ∧ (j < i ∨ (j = i ∧ q < p)) ∧ EntOk m e
  par : ∀ (x : Nat) (e : Ent), L[x]? = some e → e.par = none ∨ ∃ (y : Nat) (e' : Ent), y < x ∧ L[y]? = some e' ∧ e.par = some e'.k
  len : L.length ≤ pubSum ((rows.take i).filter (isCut cut)) + p
namespace KInv
variable {m : Int} {rows : List Row} {cut : List Int} {i p : Nat} {L : List Ent}
theorem start : KInv m rows cut 0 0 [] := ⟨.nil, (fun e h => by cases h), (fun x e h => by simp at h), by simp⟩
theorem take_succ {r : Row} (h : rows[i]? = some r) : rows.take (i + 1) = rows.take i ++ [r] := by
  rw [List.take_add_one, h]; rfl
theorem skip (k : KInv m rows cut i 0 L) {r : Row} (h : rows[i]? = some r) : KInv m rows cut (i + 1) 0 L := by
  refine ⟨k.nd, fun e he => ?_, k.par, ?_⟩
  · obtain ⟨j, r', q, h1, h2, h3, h4, h5, h6⟩ := k.src e he
    exact ⟨j, r', q, h1, h2, h3, h4, .inl (by omega), h6⟩
  · have := k.len
    rw [take_succ h, List.filter_append, pubSum_app]
    omega
theorem next (k : KInv m rows cut i p L) : KInv m rows cut i (p + 1) L := by
  refine ⟨k.nd, fun e he => ?_, k.par, by have := k.len; omega⟩
  obtain ⟨j, r', q, h1, h2, h3, h4, h5, h6⟩ := k.src e he
  exact ⟨j, r', q, h1, h2, h3, h4, by omega, h6⟩
theorem done (k : KInv m rows cut i p L) {r : Row} (h : rows[i]? = some r) (hc : isCut cut r = true) (hp : p ≤ r.pub.length) : KInv m rows cut (i + 1) 0 L := by
  refine ⟨k.nd, fun e he => ?_, k.par, ?_⟩
  · obtain ⟨j, r', q, h1, h2, h3, h4, h5, h6⟩ := k.src e he
    exact ⟨j, r', q, h1, h2, h3, h4, .inl (by omega), h6⟩
  · have := k.len
    rw [take_succ h, List.filter_append, pubSum_app, List.filter_cons_of_pos hc]
    have : pubSum [r] = r.pub.length := by simp [pubSum]
    rw [List.filter_nil, this]
    omega
theorem add (k : KInv m rows cut i p L) (nm : (rows.map fun r => (r.a, r.n)).Nodup) {r : Row} (h : rows[i]? = some r) (hc : isCut cut r = true) (hp : p < r.pub.length) {e : Ent} (ek : e.k = (r.a, r.n, (p : Int))) (eo : EntOk m e)
    (hpar : e.par = none ∨ ∃ e' ∈ L, e.par = some e'.k) : KInv m rows cut i (p + 1) (L ++ [e]) := by
  refine ⟨?_, fun x hx => ?_, fun x e' hx => ?_, by rw [List.length_append]; have := k.len; simp; omega⟩
  · rw [List.map_append, List.nodup_append]
    refine ⟨k.nd, by simp, fun a ha b hb => ?_⟩
    obtain ⟨e', he', rfl⟩ := List.mem_map.mp ha
    have hb := List.mem_singleton.mp hb
    subst hb
    obtain ⟨j, r', q, h1, h2, h3, h4, h5, h6⟩ := k.src e' he'
    intro z
    have z : (r'.a, r'.n, (q : Int)) = (r.a, r.n, (p : Int)) := by rw [← h2, ← ek]; exact z
    have z1 := congrArg Prod.fst z
    have z2 := congrArg (·.2.1) z
    have z3 := congrArg (·.2.2) z
    dsimp only at z1 z2 z3
    have := names_inj nm h1 h z1 z2
    omega
  · rcases List.mem_append.mp hx with hx | hx
    · obtain ⟨j, r', q, h1, h2, h3, h4, h5, h6⟩ := k.src x hx
      exact ⟨j, r', q, h1, h2, h3, h4, by omega, h6⟩
    · have hx := List.mem_singleton.mp hx
      subst hx
      exact ⟨i, r, p, h, ek, hp, hc, .inr ⟨rfl, by omega⟩, eo⟩
  · rcases Nat.lt_or_ge x L.length with z | z
    · rw [List.getElem?_append_left z] at hx
      rcases k.par x e' hx with h0 | ⟨y, e2, h1, h2, h3⟩
      · exact .inl h0
      · exact .inr ⟨y, e2, h1, by rw [List.getElem?_append_left (by omega)]; exact h2, h3⟩
    · have hz : x = L.length := by
        have := (List.getElem?_eq_some_iff.mp hx).1
        simp at this; omega
      subst hz
      rw [List.getElem?_append_right (Nat.le_refl _), Nat.sub_self] at hx
      cases hx
      rcases hpar with h0 | ⟨e2, h1, h2⟩
      · exact .inl h0
      · obtain ⟨y, hy, e3⟩ := List.getElem_of_mem h1
        exact .inr ⟨y, e2, hy, by rw [List.getElem?_append_left hy, List.getElem?_eq_getElem hy, e3], h2⟩
end KInv
theorem perm_map {α β : Type} {f : α → β} {ys zs : List β} (p : ys.Perm zs) : ∀ {xs : List α}, zs = xs.map f → ∃ ws : List α, ws.Perm xs ∧ ys = ws.map f := by
  induction p with
  | nil => intro xs h; exact ⟨[], by rw [List.map_eq_nil_iff.mp h.symm], rfl⟩
  | cons x _ ih =>
    intro xs h
    cases xs with
    | nil => cases h
    | cons a xs =>
      rw [List.map_cons] at h
      injection h with h1 h2
      obtain ⟨ws, p, e⟩ := ih h2
      exact ⟨a :: ws, p.cons a, by rw [List.map_cons, ← e, ← h1]⟩
  | swap x y l =>
    intro xs h
    cases xs with
    | nil => cases h
    | cons a xs =>
      cases xs with
      | nil => cases h
      | cons b xs =>
        rw [List.map_cons, List.map_cons] at h
        injection h with h1 h2
        injection h2 with h2 h3
        exact ⟨b :: a :: xs, .swap a b xs, by rw [List.map_cons, List.map_cons, ← h1, ← h2, ← h3]⟩
  | trans _ _ ih1 ih2 =>
    intro xs h
    obtain ⟨ws, p, e⟩ := ih2 h
    obtain ⟨vs, p2, e2⟩ := ih1 e
    exact ⟨vs, p2.trans p, e2⟩
/-- a world that is cut out of rows -/
structure CutW (m : Int) (rows : List Row) (w : Wld) : Prop where
  wm : w.m = m
  wr : w.rows = rows.filter fun r => !isCut w.cut r
  wc : ∀ a : Int, 0 ≤ a → a < m → 0 ≤ cutA w.cut a ∧ cutA w.cut a ≤ cnt rows a
  ok : WOk w
  path : PathOk w
theorem isCut_eq (cut : List Int) (rows : List Row) : (rows.filter fun r => !isCut cut r) = rows.filter fun r => decide (cutA cut r.a < r.n) := by
  refine List.filter_congr fun r _ => ?_
  unfold isCut
  by_cases h : r.n ≤ cutA cut r.a
  · rw [decide_eq_true h, decide_eq_false (by omega)]; rfl
  · rw [decide_eq_false h, decide_eq_true (by omega)]; rfl
theorem cutW_of {m : Int} {rows : List Row} (h : RowsOk m rows) (m0 : 1 ≤ m) (m1 : m ≤ 6) (rl : rows.length ≤ 40) (ps : pubSum rows ≤ 39) {cut : List Int} (cl : cut.length = m.toNat)
    (hc : ∀ (j : Nat) (x : Int), cut[j]? = some x → 0 ≤ x ∧ x ≤ cnt rows j) {L caps : List Ent} (k : KInv m rows cut rows.length 0 L) (p : caps.Perm L) : CutW m rows ⟨m, rows.filter (fun r => !isCut cut r), cut, caps⟩ := by
  have cn : ∀ a : Int, cnt rows a ≤ 40 := fun a => Nat.le_trans (List.length_filter_le ..) rl
  have cu : ∀ a : Int, 0 ≤ a → a < m → 0 ≤ cutA cut a ∧ cutA cut a ≤ cnt rows a := fun a h0 h1 => by
    have hl : a.toNat < cut.length := by omega
    have e := List.getElem?_eq_getElem hl
    have := hc a.toNat _ e
    unfold cutA
    rw [e]
    rw [Int.toNat_of_nonneg h0] at this
    exact this
  have kl : caps.length = L.length := p.length_eq
  have len := k.len
  rw [List.take_length] at len
  have sp := pubSum_split (isCut cut) rows
  have ent : ∀ e ∈ caps, EntOk m e := fun e he => by
    obtain ⟨_, _, _, _, _, _, _, _, h6⟩ := k.src e (p.mem_iff.mp he)
    exact h6
  have nm : Num cut (rows.filter fun r => !isCut cut r) := by rw [isCut_eq]; exact num_cut h cu
  have wok := rows_ok h m0 m1 (by omega) cl (c0 := fun x hx => by
    obtain ⟨j, hj, e⟩ := List.getElem_of_mem hx
    have z := hc j x (by rw [List.getElem?_eq_getElem hj, e])
    have := cn j
    omega) (caps := caps) (by omega) ent (fun r => !isCut cut r) nm
  refine ⟨rfl, rfl, cu, wok, ⟨kept_of (w := ⟨m, rows.filter (fun r => !isCut cut r), cut, caps⟩) p.symm k.nd k.par, short_of ?_⟩⟩
  rw [keysOf_len]
  show caps.length + pubSum (rows.filter fun r => !isCut cut r) ≤ 39
  omega
/-- a world of which nothing is cut away -/
theorem cutW_all {m : Int} {rows : List Row} (h : RowsOk m rows) (m0 : 1 ≤ m) (m1 : m ≤ 6) (rl : rows.length ≤ 40) (ps : pubSum rows ≤ 39) : CutW m rows ⟨m, rows, List.replicate m.toNat 0, []⟩ := by
  have z : ∀ a : Int, cutA (List.replicate m.toNat 0) a = 0 := fun a => by
    unfold cutA
    rw [List.getElem?_replicate]
    split <;> rfl
  have e : rows.filter (fun r => !isCut (List.replicate m.toNat 0) r) = rows := by
    refine List.filter_eq_self.mpr fun r hr => ?_
    have := (h.each r hr).2.2.2.1
    unfold isCut
    rw [z, decide_eq_false (by omega)]; rfl
  have k : KInv m rows (List.replicate m.toNat 0) rows.length 0 [] := ⟨.nil, (fun e h => by cases h), (fun x e h => by simp at h), by simp⟩
  have := cutW_of h m0 m1 rl ps (by simp) (fun j x hx => by
    rw [List.getElem?_replicate] at hx
    split at hx
    · cases hx; omega
    · cases hx) k (.refl _)
  rw [e] at this
  exact this
end Wd

/-! in, not in for plain data; the store's world as data. -/
namespace Kb
open PySem PySem.Spec PyProof.Rows L2
section
variable {X : Cx} {K : PySem.W.Frag}
theorem _root_.L2.Room.u65 {k : Nat} {A : Around} (r : Room k A) : A.units + 65 < cLine := by have := r.un; omega
theorem op_inDK (hK : X.K = K) (hu : X.A.units + 65 < cLine) : OpR X (compareOp .In) (rInD K) := hK ▸ op_inD hu
theorem op_ninDK (hK : X.K = K) (hu : X.A.units + 65 < cLine) : OpR X (compareOp .NotIn) (rNotInD K) := hK ▸ op_notInD hu
end
section
variable {K : PySem.W.Frag} {Θ : Ctx} {env : Env'} {h : Hs} {R : D → Hs → Prop}
theorem pyOfs_map : ∀ ps : List P, pyOf.pyOfs ps = ps.map pyOf
  | [] => rfl
  | p :: ps => by unfold pyOf.pyOfs; rw [pyOfs_map ps]; rfl
theorem plainPs_all : ∀ ps : List P, plainP.plainPs ps = ps.all plainP
  | [] => rfl
  | p :: ps => by unfold plainP.plainPs; rw [plainPs_all ps]; rfl
theorem seq_dp {F : Hp} {ρ : List Addr} {H : Hp} {d : D} {v : V} {ps : List P} (s : SeqL d h ps) (rl : Rel K Θ F ρ h H) (a : RD K F ρ d v) (pl : ps.all plainP = true) : Dp K H v (.list (ps.map pyOf)) := by
  obtain ⟨p, vs, rfl, h1, h2⟩ := s.v rl a
  have z := RPs.dp rl.same h2 (by rw [plainPs_all]; exact pl)
  rw [pyOfs_map] at z
  exact .lst h1 z
theorem v2_inM {x : P} {y : D} {ps : List P} (hy : SeqL y h ps) (lx : plainP x = true) (ly : ps.all plainP = true) (sx : SeqAt.shaped (pyOf x) = true) (sy : SeqAt.shaped (.list (ps.map pyOf)) = true)
    (q : R (dB (ps.any fun z => PyData.eqv (pyOf z) (pyOf x))) h) : V2 K Θ (rInD K) (.p x) y h R := fun F ρ H vx vy Q rl a b k =>
  ⟨_, _, (show PyD (.p x) h x from rfl).dp rl a lx, seq_dp hy rl b ly, sx, sy, k _ h _ F ρ H (Same.refl _) (Pre.refl _) rl (.p (.bl _)) (by rw [List.any_map]; exact q)⟩
theorem v2_ninM {x : P} {y : D} {ps : List P} (hy : SeqL y h ps) (lx : plainP x = true) (ly : ps.all plainP = true) (sx : SeqAt.shaped (pyOf x) = true) (sy : SeqAt.shaped (.list (ps.map pyOf)) = true)
    (q : R (dB (!ps.any fun z => PyData.eqv (pyOf z) (pyOf x))) h) : V2 K Θ (rNotInD K) (.p x) y h R := fun F ρ H vx vy Q rl a b k =>
  ⟨_, _, (show PyD (.p x) h x from rfl).dp rl a lx, seq_dp hy rl b ly, sx, sy, k _ h _ F ρ H (Same.refl _) (Pre.refl _) rl (.p (.bl _)) (by rw [List.any_map]; exact q)⟩
end
/-! ### capabilities, acts, rows as data -/
def capP : Option K3 → P
  | none => .non
  | some c => k3P c
theorem plain_k3 (c : K3) : plainP (k3P c) = true := rfl
theorem plain_cap (c : Option K3) : plainP (capP c) = true := by cases c <;> rfl
theorem shaped_cap (c : Option K3) : SeqAt.shaped (pyOf (capP c)) = true := by
  cases c with
  | none => rfl
  | some c => simp [capP, k3P, SeqAt.shaped, pyOf, pyOf.pyOfs, PyData.canLay0, PyData.canLayAll0, PyData.depth, PyData.depthAll]
theorem eqv_cap (a b : Option K3) : PyData.eqv (pyOf (capP a)) (pyOf (capP b)) = decide (a = b) := by
  cases a with
  | none => cases b with
    | none => rfl
    | some b => simp [capP, k3P, pyOf, PyData.eqv]
  | some a => cases b with
    | none => simp [capP, k3P, pyOf, PyData.eqv]
    | some b =>
      obtain ⟨a1, a2, a3⟩ := a
      obtain ⟨b1, b2, b3⟩ := b
      by_cases h1 : a1 = b1 <;> by_cases h2 : a2 = b2 <;> by_cases h3 : a3 = b3 <;> simp [capP, k3P, pyOf, pyOf.pyOfs, PyData.eqv, PyData.eqvAll, h1, h2, h3]
theorem shaped_caps (cs : List (Option K3)) : SeqAt.shaped (.list ((cs.map capP).map pyOf)) = true := by
  have h1 : ∀ cs : List (Option K3), PyData.canLayAll0 ((cs.map capP).map pyOf) = true := by
    intro cs
    induction cs with
    | nil => rfl
    | cons c cs ih => cases c <;> simpa [capP, k3P, pyOf, pyOf.pyOfs, PyData.canLay0, PyData.canLayAll0] using ih
  have h2 : ∀ cs : List (Option K3), PyData.depthAll ((cs.map capP).map pyOf) ≤ 4 := by
    intro cs
    induction cs with
    | nil => simp [PyData.depthAll]
    | cons c cs ih => cases c <;> simp [capP, k3P, pyOf, pyOf.pyOfs, PyData.depth, PyData.depthAll] at ih ⊢ <;> omega
  unfold SeqAt.shaped
  rw [Bool.and_eq_true, decide_eq_true_eq]
  refine ⟨?_, ?_⟩
  · simpa [PyData.canLay0] using h1 cs
  · have := h2 cs
    simp [PyData.depth] at this ⊢
    omega
theorem any_cap (cs : List (Option K3)) (c : Option K3) : ((cs.map capP).any fun z => PyData.eqv (pyOf z) (pyOf (capP c))) = decide (c ∈ cs) := by
  induction cs with
  | nil => rfl
  | cons d cs ih =>
    rw [List.map_cons, List.any_cons, ih, eqv_cap]
    by_cases h : d = c
    · simp [h]
    · have h2 : ¬ c = d := fun z => h z.symm
      simp [h, h2]
theorem all_cap (cs : List (Option K3)) : (cs.map capP).all plainP = true := by
  rw [List.all_map, List.all_eq_true]
  exact fun c _ => plain_cap c
section
variable {K : PySem.W.Frag} {Θ : Ctx} {env : Env'} {h : Hs} {R : D → Hs → Prop}
theorem v2_inCap {c : Option K3} {y : D} {cs : List (Option K3)} (hy : SeqL y h (cs.map capP)) (q : R (dB (decide (c ∈ cs))) h) : V2 K Θ (rInD K) (.p (capP c)) y h R :=
  v2_inM hy (plain_cap c) (all_cap cs) (shaped_cap c) (shaped_caps cs) (by rw [any_cap]; exact q)
theorem v2_ninCap {c : Option K3} {y : D} {cs : List (Option K3)} (hy : SeqL y h (cs.map capP)) (q : R (dB (!decide (c ∈ cs))) h) : V2 K Θ (rNotInD K) (.p (capP c)) y h R :=
  v2_ninM hy (plain_cap c) (all_cap cs) (shaped_cap c) (shaped_caps cs) (by rw [any_cap]; exact q)
theorem v2_eqCap {a b : Option K3} (q : R (dB (decide (a = b))) h) : V2 K Θ (rEqU K) (.p (capP a)) (.p (capP b)) h R :=
  v2_eqP (plain_cap a) (plain_cap b) (shaped_cap a) (shaped_cap b) (by rw [eqv_cap]; exact q)
theorem v2_neCap {a b : Option K3} (q : R (dB (!decide (a = b))) h) : V2 K Θ (rNeU K) (.p (capP a)) (.p (capP b)) h R :=
  v2_neP (plain_cap a) (plain_cap b) (shaped_cap a) (shaped_cap b) (by rw [eqv_cap]; exact q)
theorem v2_eqK3 {a b : K3} (q : R (dB (decide (a = b))) h) : V2 K Θ (rEqU K) (.p (k3P a)) (.p (k3P b)) h R :=
  v2_eqCap (a := some a) (b := some b) (by
    have e : decide (some a = some b) = decide (a = b) := by by_cases z : a = b <;> simp [z]
    rw [e]; exact q)
end
def rtP (t : Bool × Bool × Bool) : P := .tup [.bl t.1, .bl t.2.1, .bl t.2.2]
def rtsP (r : Wd.Rts) : P := .tup (r.map rtP)
def pubP : Wd.Pub → P
  | .grant h r => .tup [.str "grant", .int h, rtsP r]
  | .revoke c => .tup [.str "revoke", capP c]
  | .mark => .tup [.str "seal"]
def hdP (xs : List Int) : P := .tup (xs.map P.int)
def pubsP (us : List Wd.Pub) : P := .tup (us.map pubP)
def entP (e : Wd.Ent) : P := .tup [k3P e.k, capP e.par, .int e.hol, rtsP e.rts]
def partsP : P := .tup [.tup [], .tup [], .tup [], .tup []]
def rowP (r : Wd.Row) : P := .lst [.int r.a, .int r.n, .lst (r.hd.map P.int), capP r.cap, .lst (r.pub.map pubP), .lst [.tup [], .tup [], .tup [], .tup []]]
def toldP : Option Wd.Told → P
  | none => .non
  | some (p, h, r) => .tup [capP p, .int h, rtsP r]
end Kb

/-! Comprehensions, any, all over a list of data given by a function. -/
namespace Kb
open PySem PySem.Spec PyProof.Rows L2 Gx
section
variable {K : PySem.W.Frag} {Θ : Ctx} {env : Env'} {h : Hs} {R : D → Hs → Prop}
theorem fm_filter {α β : Type} (c : α → Bool) (g : α → β) : ∀ (xs : List α), (List.range xs.length).filterMap (fun i => (xs[i]?).bind fun x => if c x = true then some (g x) else none) = (xs.filter c).map g
  | [] => rfl
  | x :: xs => by
    rw [List.length_cons, List.range_succ_eq_map, List.filterMap_cons, List.filterMap_map]
    have ih := fm_filter c g xs
    have e : ((fun i => ((x :: xs)[i]?).bind fun x => if c x = true then some (g x) else none) ∘ Nat.succ) = fun i => (xs[i]?).bind fun x => if c x = true then some (g x) else none := by
      funext i
      simp
    rw [e, ih]
    by_cases h : c x = true
    · simp [h]
    · have h' : c x = false := by simpa using h
      simp [h']
theorem any_rangeL {α : Type} (c : α → Bool) : ∀ (xs : List α), (List.range xs.length).any (fun i => ((xs[i]?).map c).getD false) = xs.any c
  | [] => rfl
  | x :: xs => by
    rw [List.length_cons, List.range_succ_eq_map, List.any_cons, List.any_map, List.any_cons]
    have : ((fun i => (((x :: xs)[i]?).map c).getD false) ∘ Nat.succ) = fun i => ((xs[i]?).map c).getD false := by funext i; simp
    rw [this, any_rangeL c xs]
    simp
theorem all_rangeL {α : Type} (c : α → Bool) : ∀ (xs : List α), (List.range xs.length).all (fun i => ((xs[i]?).map c).getD true) = xs.all c
  | [] => rfl
  | x :: xs => by
    rw [List.length_cons, List.range_succ_eq_map, List.all_cons, List.all_map, List.all_cons]
    have : ((fun i => (((x :: xs)[i]?).map c).getD true) ∘ Nat.succ) = fun i => ((xs[i]?).map c).getD true := by funext i; simp
    rw [this, all_rangeL c xs]
    simp
theorem ve_lcL {wi : TI} {g' : TG} {tt : TT} {te : TE} {vs : List Nat} {α : Type} (tg : TgOk g' vs) (xs : List α) (f : α → D) (c : α → Bool) (g : α → P)
    (q : VI K Θ wi env h fun ds C h1 => ds = xs.map f ∧ xs.length < sizeLine ∧ (∀ acc, C (h1 ++ [some (.lst acc)])) ∧
      (∀ x ∈ xs, ∀ acc, VG K Θ g' (f x) (wipeD env vs) (h1 ++ [some (.lst acc)]) fun env' h' => h' = h1 ++ [some (.lst acc)] ∧ VT K Θ tt env' h' fun b h2 => h2 = h1 ++ [some (.lst acc)] ∧ b = c x ∧ (c x = true → VE K Θ te env' h2 fun y h3 => h3 = h1 ++ [some (.lst acc)] ∧ y = .p (g x))) ∧
      R (dL ((xs.filter c).map g)) h1) : VE K Θ (tLc wi g' tt te vs) env h R := by
  refine ve_lc tg fun F ρ σ H Q rl e k => q F ρ σ H Q rl e fun ds C h' J F' ρ' H' s p r it ⟨h1, h2, h3, h4, h5⟩ => k ds C h' J F' ρ' H' s p r it ?_
  subst h1
  refine ⟨fun i => (xs[i]?).bind fun x => if c x = true then some (g x) else none, by rw [List.length_map]; exact h2, h3, fun i d acc hd => ?_, ?_⟩
  · rw [List.getElem?_map] at hd
    cases e : xs[i]? with
    | none => rw [e] at hd; cases hd
    | some x =>
      rw [e] at hd; cases hd
      dsimp only
      rw [e, Option.bind_some]
      intro F ρ σ H v Q rl e' dv k
      refine h4 x (List.mem_of_getElem? e) acc F ρ σ H v Q rl e' dv fun env' h' F' ρ' σ' H' s p r ee ⟨e1, q1⟩ => k env' h' F' ρ' σ' H' s p r ee ⟨e1, q1.imp fun b h2 ⟨e2, e3, q2⟩ => ⟨by rw [e2, e1], ?_⟩⟩
      subst e3
      by_cases hc : c x = true
      · rw [if_pos hc, if_pos hc]
        exact (q2 hc).imp fun y h3 ⟨e4, e5⟩ => ⟨by rw [e4, e2], g x, e5, rfl⟩
      · rw [if_neg hc, if_neg hc]
  · rw [List.length_map, fm_filter]; exact h5
theorem ve_anyL {P : Addr} {wi : TI} {g' : TG} {te : TE} {vs : List Nat} {α : Type} (hP : P ∈ Θ.tabs) (tg : TgOk g' vs) (xs : List α) (f : α → D) (c : α → Bool)
    (q : VI K Θ wi env h fun ds C h1 => ds = xs.map f ∧ C h1 ∧ (∀ x ∈ xs, VG K Θ g' (f x) (wipeD env vs) h1 fun env' h' => h' = h1 ∧ VE K Θ te env' h' fun y h2 => h2 = h1 ∧ y = dB (c x)) ∧ R (dB (xs.any c)) h1) :
    VE K Θ (tAnyG P wi g' te vs) env h R := by
  refine ve_anyG hP tg fun F ρ σ H Q rl e k => q F ρ σ H Q rl e fun ds C h' J F' ρ' H' s p r it ⟨h1, h2, h3, h4⟩ => k ds C h' J F' ρ' H' s p r it ?_
  subst h1
  refine ⟨fun i => ((xs[i]?).map c).getD false, h2, fun i d hd => ?_, ?_⟩
  · rw [List.getElem?_map] at hd
    cases e : xs[i]? with
    | none => rw [e] at hd; cases hd
    | some x =>
      rw [e] at hd; cases hd
      dsimp only
      rw [e]
      show GxTurn K Θ g' te (wipeD env vs) (f x) h' (c x)
      intro F ρ σ H v Q rl e' dv k
      refine h3 x (List.mem_of_getElem? e) F ρ σ H v Q rl e' dv fun env' h'' F' ρ' σ' H' s p r ee q1 => k env' h'' F' ρ' σ' H' s p r ee ?_
      obtain ⟨rfl, q1⟩ := q1
      exact ⟨rfl, q1⟩
  · rw [List.length_map, any_rangeL]; exact h4
theorem ve_allL {P : Addr} {wi : TI} {g' : TG} {te : TE} {vs : List Nat} {α : Type} (hP : P ∈ Θ.tabs) (tg : TgOk g' vs) (xs : List α) (f : α → D) (c : α → Bool)
    (q : VI K Θ wi env h fun ds C h1 => ds = xs.map f ∧ C h1 ∧ (∀ x ∈ xs, VG K Θ g' (f x) (wipeD env vs) h1 fun env' h' => h' = h1 ∧ VE K Θ te env' h' fun y h2 => h2 = h1 ∧ y = dB (c x)) ∧ R (dB (xs.all c)) h1) :
    VE K Θ (tAllG P wi g' te vs) env h R := by
  refine ve_allG hP tg fun F ρ σ H Q rl e k => q F ρ σ H Q rl e fun ds C h' J F' ρ' H' s p r it ⟨h1, h2, h3, h4⟩ => k ds C h' J F' ρ' H' s p r it ?_
  subst h1
  refine ⟨fun i => ((xs[i]?).map c).getD true, h2, fun i d hd => ?_, ?_⟩
  · rw [List.getElem?_map] at hd
    cases e : xs[i]? with
    | none => rw [e] at hd; cases hd
    | some x =>
      rw [e] at hd; cases hd
      dsimp only
      rw [e]
      show GxTurn K Θ g' te (wipeD env vs) (f x) h' (c x)
      intro F ρ σ H v Q rl e' dv k
      refine h3 x (List.mem_of_getElem? e) F ρ σ H v Q rl e' dv fun env' h'' F' ρ' σ' H' s p r ee q1 => k env' h'' F' ρ' σ' H' s p r ee ?_
      obtain ⟨rfl, q1⟩ := q1
      exact ⟨rfl, q1⟩
  · rw [List.length_map, all_rangeL]; exact h4
end
end Kb

/-! while by a number that falls. -/
namespace Kb
open PySem PySem.Spec PyProof.Rows L2 RZ
section
variable {K : PySem.W.Frag} {Θ : Ctx} {env : Env'} {h : Hs} {R : D → Hs → Prop}
theorem least_ex {p : Nat → Prop} : ∀ {n : Nat}, p n → ∃ m, p m ∧ ∀ k, p k → m ≤ k := by
  intro n
  induction n using Nat.strongRecOn with
  | _ n ih =>
    intro hn
    by_cases h : ∃ k, k < n ∧ p k
    · obtain ⟨k, h1, h2⟩ := h
      exact ih k h1 h2
    · exact ⟨n, hn, fun k hk => Nat.le_of_not_lt fun z => h ⟨k, z, hk⟩⟩
open Classical in
noncomputable def least (p : Nat → Prop) : Nat := if h : ∃ m, p m ∧ ∀ k, p k → m ≤ k then h.choose else 0
theorem least_spec {p : Nat → Prop} {n : Nat} (hn : p n) : p (least p) ∧ ∀ k, p k → least p ≤ k := by
  have e := least_ex hn
  unfold least
  rw [dif_pos e]
  exact e.choose_spec
theorem vs_whileN {c : TT} {tb : TS} {E : En} (Inv : Nat → Env' → Hs → Prop) {n0 : Nat} (i0 : Inv n0 env h)
    (turn : ∀ n env h, Inv n env h → VT K Θ c env h fun b h1 => if b = true then VS K Θ tb { E with nx := fun env' h' => ∃ m, m < n ∧ Inv m env' h', ct := fun env' h' => ∃ m, m < n ∧ Inv m env' h', bk := E.nx } env h1 else E.nx env h1) :
    VS K Θ (tWhile c tb) E env h := by
  refine vs_while (fun env h => ∃ n, Inv n env h) (fun env h => least fun n => Inv n env h) ⟨n0, i0⟩ fun env h ⟨n, i⟩ => ?_
  obtain ⟨l1, l2⟩ := least_spec (p := fun n => Inv n env h) i
  refine (turn _ env h l1).imp fun b h1 q => ?_
  cases b with
  | false => exact q
  | true =>
    rw [if_pos rfl] at q ⊢
    refine q.imp (fun e h2 ⟨m, hm, im⟩ => ?_) (fun _ _ z => z) (fun _ _ z => z) (fun e h2 ⟨m, hm, im⟩ => ?_)
    · exact ⟨⟨m, im⟩, Nat.lt_of_le_of_lt ((least_spec (p := fun n => Inv n e h2) im).2 m im) hm⟩
    · exact ⟨⟨m, im⟩, Nat.lt_of_le_of_lt ((least_spec (p := fun n => Inv n e h2) im).2 m im) hm⟩
/-! ### tuples of the top -/
def tupL : P → Option (List P)
  | .tup xs => some xs
  | .ktp xs => some xs
  | _ => none
theorem RP.tupL {F H : Hp} {x : P} {v : V} {xs : List P} (r : RP K F x v) (hx : tupL x = some xs) (s : Same F H) : ∃ a vs, v = .ref a ∧ (∀ H', Same F H' → SqT K H' a vs) ∧ RPs K F xs vs := by
  cases r with
  | tup a b => cases hx; exact ⟨_, _, rfl, fun H' s' => sqT_mono s' a, b⟩
  | ktp a b => cases hx; exact ⟨_, _, rfl, fun H' _ => a H', b⟩
  | _ => cases hx
theorem v2_ixG {x p : P} {xs : List P} {i : Int} (hx : tupL x = some xs) (ha : atI xs i = some p) (q : R (.p p) h) : V2 K Θ (rIx K) (.p x) (dI i) h R := fun F ρ H vx vy Q rl a b k => by
  obtain rfl := b.int
  cases a with
  | p a =>
    obtain ⟨c, vs, rfl, g1, g2⟩ := a.tupL hx rl.same
    obtain ⟨v, h1, h2⟩ := g2.at_ ha
    exact .inr (.inl ⟨_, _, i, v, rfl, rfl, g1 _ rl.same, h1, k _ h _ F ρ H (Same.refl _) (Pre.refl _) rl (.p h2) q⟩)
theorem vi_seqG {tl : TE} {R : List D → (Hs → Prop) → Hs → Prop} (q : VE K Θ tl env h fun x h1 => ∃ y ps, x = .p y ∧ tupL y = some ps ∧ R (ps.map D.p) (fun _ => True) h1) : VI K Θ (iSeq K tl) env h R := fun F ρ σ H Q rl e k =>
  q F ρ σ H _ rl e fun x h1 vx F1 ρ1 H1 s1 p1 r1 dx q1 => by
    obtain ⟨y, ps, rfl, hy, q1⟩ := q1
    cases dx with
    | p dx =>
      obtain ⟨a, vs, rfl, ha, rp⟩ := dx.tupL hy r1.same
      refine .inr ⟨a, rfl, ⟨vs, ha _ r1.same⟩, k (ps.map D.p) (fun _ => True) h1 _ F1 ρ1 H1 s1 p1 r1 ⟨fun F' ρ' h' H' s p r _ => ?_, fun i F' ρ' h' H' s p r _ hi => ?_, fun i d F' ρ' h' H' x H2 s p r _ hd hy => ?_⟩ q1⟩
      · exact ⟨vs, ha _ (s.trans r.same), by rw [List.length_map, rp.len]; exact Nat.le_refl _⟩
      · rw [List.length_map, rp.len] at hi
        exact ⟨vs, vs[i], ha _ (s.trans r.same), List.getElem?_eq_getElem hi⟩
      · obtain ⟨e1, e2⟩ := hy
        subst e1
        rw [List.getElem?_map] at hd
        cases hp : ps[i]? with
        | none => rw [hp] at hd; cases hd
        | some p0 =>
          rw [hp] at hd; cases hd
          obtain ⟨v, hv, rv⟩ := rp.get hp
          have ev := e2 vs (ha _ (s.trans r.same))
          rw [hv] at ev; cases ev
          exact ⟨F', Same.refl _, r, .p (rv.mono s)⟩
theorem vi_zipG {ta : TA} {R : List D → (Hs → Prop) → Hs → Prop} (q : VA K Θ ta env h fun vs h1 => ∃ x y xs ys, vs = [.p x, .p y] ∧ tupL x = some xs ∧ tupL y = some ys ∧ R (zipP xs ys) (fun _ => True) h1) : VI K Θ (iZipA K ta) env h R := fun F ρ σ H Q rl e k =>
  q F ρ σ H _ rl e fun vs h1 us F1 ρ1 H1 s1 p1 r1 dus q1 => by
    obtain ⟨x, y, xs, ys, rfl, hx, hy, q1⟩ := q1
    cases dus with
    | cons dx du =>
    cases du with
    | cons dy dz =>
    cases dz
    cases dx with
    | p dx =>
    cases dy with
    | p dy =>
    obtain ⟨a, us, rfl, ha, ru⟩ := dx.tupL hx r1.same
    obtain ⟨b, ws, rfl, hb, rw'⟩ := dy.tupL hy r1.same
    have hz : (zipP xs ys).length = min us.length ws.length := by
      unfold zipP
      rw [List.length_map, List.length_zip, ru.len, rw'.len]
    refine ⟨a, b, us, ws, rfl, .inr ⟨ha _ r1.same, hb _ r1.same, k (zipP xs ys) (fun _ => True) h1 _ F1 ρ1 H1 s1 p1 r1 ⟨fun F' ρ' h' H' s p r _ => ?_, fun i F' ρ' h' H' s p r _ hi => ?_, fun i d F' ρ' h' H' x H2 s p r _ hd hy => ?_⟩ q1⟩⟩
    · refine ⟨us, ws, ha _ (s.trans r.same), hb _ (s.trans r.same), ?_⟩
      rw [hz]
      omega
    · rw [hz] at hi
      exact ⟨us, ws, us[i]'(by omega), ws[i]'(by omega), ha _ (s.trans r.same), hb _ (s.trans r.same), List.getElem?_eq_getElem _, List.getElem?_eq_getElem _⟩
    · obtain ⟨T, x1, y1, rfl, hT, rfl, gx, gy⟩ := hy
      unfold zipP at hd
      rw [List.getElem?_map] at hd
      cases hq : (xs.zip ys)[i]? with
      | none => rw [hq] at hd; cases hd
      | some q =>
        rw [hq] at hd; cases hd
        obtain ⟨e1, e2⟩ := zip_get hq
        obtain ⟨v1, f1, g1⟩ := ru.get e1
        obtain ⟨v2, f2, g2⟩ := rw'.get e2
        have z1 := gx us (ha _ (s.trans r.same))
        have z2 := gy ws (hb _ (s.trans r.same))
        rw [f1] at z1; cases z1
        rw [f2] at z2; cases z2
        have sn := same_new (o := .tup [x1, y1]) (r.free hT)
        exact ⟨upd F' T (.tup [x1, y1]), sn, r.frz hT, .p (.tup (.of upd_same) (.cons ((g1.mono s).mono sn) (.cons ((g2.mono s).mono sn) .nil)))⟩
/-- what stands at the top, read as data -/
def kDat (K : PySem.W.Frag) : Nat → Value → Option P
  | _, .none => some .non
  | _, .bool b => some (.bl b)
  | _, .int i _ => some (.int i)
  | _, .str s _ => some (.str s)
  | n + 1, .ref a => match K.lookup a with
    | some ⟨.type t, _, .seq its _, _⟩ => if t = "tuple" ∧ its.size ≤ 1000 then (kDats its.toList (kDat K n)).map .ktp else none
    | _ => none
  | _, _ => none
where
  kDats (vs : List Value) (f : Value → Option P) : Option (List P) := match vs with
    | [] => some []
    | v :: vs => match f v, kDats vs f with
      | some p, some ps => some (p :: ps)
      | _, _ => none
theorem kDats_rp {f : Value → Option P} (hf : ∀ v p, f v = some p → ∃ w, RelV w v ∧ ∀ F, RP K F p w) : ∀ {vs : List Value} {ps : List P}, kDat.kDats vs f = some ps → ∃ ws, Vals ws vs ∧ ∀ F, RPs K F ps ws
  | [], ps, h => by
    cases h
    exact ⟨[], .nil, fun _ => .nil⟩
  | v :: vs, ps, h => by
    unfold kDat.kDats at h
    cases e1 : f v with
    | none => rw [e1] at h; cases h
    | some p =>
      cases e2 : kDat.kDats vs f with
      | none => rw [e1, e2] at h; cases h
      | some qs =>
        rw [e1, e2] at h
        cases h
        obtain ⟨w, a, b⟩ := hf v p e1
        obtain ⟨ws, c, d⟩ := kDats_rp hf e2
        exact ⟨w :: ws, .cons a c, fun F => .cons (b F) (d F)⟩
theorem kDat_rp : ∀ (n : Nat) {v : Value} {p : P}, kDat K n v = some p → ∃ w, RelV w v ∧ ∀ F, RP K F p w
  | n, .none, p, h => by
    have e : p = .non := by cases n <;> (cases h; rfl)
    subst e
    exact ⟨.non, rfl, fun _ => .non⟩
  | n, .bool b, p, h => by
    have e : p = .bl b := by cases n <;> (cases h; rfl)
    subst e
    exact ⟨.bl b, rfl, fun _ => .bl b⟩
  | n, .int i t, p, h => by
    have e : p = .int i := by cases n <;> (cases h; rfl)
    subst e
    exact ⟨.int i, ⟨t, rfl⟩, fun _ => .int i⟩
  | n, .str s t, p, h => by
    have e : p = .str s := by cases n <;> (cases h; rfl)
    subst e
    exact ⟨.str s, ⟨t, rfl⟩, fun _ => .str s⟩
  | 0, .ref a, p, h => by cases h
  | n + 1, .ref a, p, h => by
    unfold kDat at h
    split at h
    · rename_i t od its m sl hl
      split at h
      · rename_i ht
        obtain ⟨rfl, hz⟩ := ht
        cases e : kDat.kDats its.toList (kDat K n) with
        | none => rw [e] at h; cases h
        | some ps =>
          rw [e] at h
          cases h
          obtain ⟨ws, a1, a2⟩ := kDats_rp (fun v p => kDat_rp n) e
          have sz := sizeLine_eq
          exact ⟨.ref a, rfl, fun F => .ktp (fun H => .inr ⟨_, its, m, hl, rfl, rfl, by omega, a1⟩) (a2 F)⟩
      · cases h
    · cases h
  | n, .ellipsis, p, h => by cases n <;> cases h
  | n, .notImplemented, p, h => by cases n <;> cases h
  | n, .float _ _, p, h => by cases n <;> cases h
  | n, .bytes _ _, p, h => by cases n <;> cases h
  | n, .type _, p, h => by cases n <;> cases h
  | n, .builtin _, p, h => by cases n <;> cases h
theorem kDat_ref {n : Nat} {a : Addr} {p : P} (h : kDat K n (.ref a) = some p) : ∀ F, RP K F p (.ref a) := by
  obtain ⟨w, r, q⟩ := kDat_rp n h
  have e : w = .ref a := by
    cases w <;> first | (cases r; rfl) | (exfalso; revert r; simp [L2.RelV])
  rw [← e]; exact q
theorem ve_kp {a : Addr} {p : P} (ha : ∀ F, RP K F p (.ref a)) (q : R (.p p) h) : VE K Θ (tC (.ref a)) env h R := fun F ρ σ H Q r e k => k (.p p) h _ F ρ H (Same.refl _) (Pre.refl _) r (.p (ha F)) q
/-- what is known behind a statement -/
theorem vs_mid {t1 : TS} {E : En} (I : Env' → Hs → Prop) (q : VS K Θ t1 { E with nx := I } env h) (k : ∀ env h, I env h → E.nx env h) : VS K Θ t1 E env h := q.imp k (fun _ _ z => z) (fun _ _ z => z) (fun _ _ z => z)
end
end Kb

/-! What is owned: what stays, lists of own lists. -/
namespace Kb
open PySem PySem.Spec PyProof.Rows L2
/-- what was owned is owned as it was -/
def HLe (h h' : Hs) : Prop := ∀ (i : Nat) (o : OO), h[i]? = some (some o) → h'[i]? = some (some o)
theorem HLe.refl (h : Hs) : HLe h h := fun _ _ e => e
theorem HLe.trans {a b c : Hs} (x : HLe a b) (y : HLe b c) : HLe a c := fun i o e => y i o (x i o e)
theorem HLe.push (h x : Hs) : HLe h (h ++ x) := fun i o e => by
  rw [List.getElem?_append_left (List.getElem?_eq_some_iff.mp e).1]; exact e
/-- h0 stands as it was, ahead of what is new -/
def Pfx (h0 h : Hs) : Prop := ∃ g, h = h0 ++ g
theorem Pfx.refl (h : Hs) : Pfx h h := ⟨[], by simp⟩
theorem Pfx.push {h0 h : Hs} (p : Pfx h0 h) (x : Hs) : Pfx h0 (h ++ x) := by
  obtain ⟨g, rfl⟩ := p
  exact ⟨g ++ x, List.append_assoc ..⟩
theorem Pfx.put {h0 h : Hs} (p : Pfx h0 h) {n : Nat} (hn : h0.length ≤ n) (x : Option OO) : Pfx h0 (h.set n x) := by
  obtain ⟨g, rfl⟩ := p
  exact ⟨g.set (n - h0.length) x, List.set_append_right _ _ hn⟩
theorem Pfx.len {h0 h : Hs} (p : Pfx h0 h) : h0.length ≤ h.length := by
  obtain ⟨g, rfl⟩ := p
  rw [List.length_append]; omega
theorem Pfx.trans {a b c : Hs} (p : Pfx a b) (q : Pfx b c) : Pfx a c := by
  obtain ⟨g, rfl⟩ := p
  obtain ⟨g', rfl⟩ := q
  exact ⟨g ++ g', List.append_assoc ..⟩
theorem lt_of_get {h : Hs} {n : Nat} {o : Option OO} (e : h[n]? = some o) : n < h.length := (List.getElem?_eq_some_iff.mp e).1
theorem get_push {h x : Hs} {n : Nat} {o : Option OO} (e : h[n]? = some o) : (h ++ x)[n]? = some o := by rw [List.getElem?_append_left (lt_of_get e)]; exact e
theorem get_put {h : Hs} {n m : Nat} {o x : Option OO} (e : h[n]? = some o) (ne : m ≠ n) : (h.set m x)[n]? = some o := by rw [List.getElem?_set_ne ne]; exact e
theorem get_self {h : Hs} {n : Nat} {x : Option OO} (hn : n < h.length) : (h.set n x)[n]? = some x := List.getElem?_set_self hn
theorem get_last {h : Hs} {x : Option OO} : (h ++ [x])[h.length]? = some x := List.getElem?_concat_length
section
variable {K : PySem.W.Frag} {Θ : Ctx} {R : D → Hs → Prop}
theorem ixN_at {n : Nat} {i : Int} (h0 : 0 ≤ i) (h1 : i.toNat < n) : ixN n i = some i.toNat := by
  unfold ixN
  rw [if_pos h0, if_pos (by omega)]
/-- xs[i] = v, i at least 0 -/
theorem vg_subO {env : Env'} {h : Hs} {to ti : TE} {d : D} {N : Env' → Hs → Prop} (q : VE K Θ to env h fun o h1 => VE K Θ ti env h1 fun i h2 => ∃ n z xs, o = .own n ∧ i = dI z ∧ h2[n]? = some (some (.lst xs)) ∧ 0 ≤ z ∧ z.toNat < xs.length ∧ N env (h2.set n (some (.lst (xs.set z.toNat d))))) :
    VG K Θ (gSub to ti rSetL) d env h N :=
  vg_sub (q.imp fun o h1 q1 => q1.imp fun i h2 ⟨n, z, xs, a, b, c, e, f, g⟩ => ⟨n, z, xs, z.toNat, a, b, c, ixN_at e f, g⟩)
/-- xs.append(y), xs the newest thing -/
theorem vm_appL {α : Type} {f : α → P} {xs : List α} {x : α} {h : Hs} (hl : xs.length < sizeLine) (q : R dN (h ++ [some (.lst (((xs ++ [x]).map f).map D.p))])) :
    VM K Θ rAppend (.own h.length) [.p (f x)] (h ++ [some (.lst ((xs.map f).map D.p))]) R := by
  refine vm_append get_last (by rw [List.length_map, List.length_map]; exact hl) ?_
  rw [List.set_append_right _ _ (Nat.le_refl _), Nat.sub_self]
  rw [List.map_append, List.map_append] at q
  exact q
theorem vm_appA {α : Type} {f : α → P} {xs : List α} {x : α} {h : Hs} {n : Nat} (hn : h[n]? = some (some (.lst ((xs.map f).map D.p)))) (hl : xs.length < sizeLine) (q : R dN (h.set n (some (.lst (((xs ++ [x]).map f).map D.p))))) :
    VM K Θ rAppend (.own n) [.p (f x)] h R := by
  refine vm_append hn (by rw [List.length_map, List.length_map]; exact hl) ?_
  rw [List.map_append, List.map_append] at q
  exact q
end
theorem filter_tt {α : Type} (xs : List α) : xs.filter (fun _ => true) = xs := List.filter_eq_self.mpr fun _ _ => rfl
/-- both ways go on alike: what follows is shown once -/
theorem ite_mid {c : Bool} {A B : Prop} (k : B) (q : c = true → B → A) : if c = true then A else B := by
  cases c with
  | true => exact q rfl k
  | false => exact k
theorem ite_midT {c : Bool} {A B : Prop} (k : A) (q : c = false → A → B) : if c = true then A else B := by
  cases c with
  | true => exact k
  | false => exact q rfl k
section
variable {K : PySem.W.Frag} {Θ : Ctx} {env : Env'} {h : Hs} {R : D → Hs → Prop}
/-- a comprehension whose list is owned -/
theorem ve_lcLO {wi : TI} {g' : TG} {tt : TT} {te : TE} {vs : List Nat} {α : Type} (tg : TgOk g' vs) (xs : List α) (f : α → D) (c : α → Bool) (g : α → P)
    (q : VI K Θ wi env h fun ds C h1 => ds = xs.map f ∧ xs.length < sizeLine ∧ (∀ acc, C (h1 ++ [some (.lst acc)])) ∧
      (∀ x ∈ xs, ∀ acc, VG K Θ g' (f x) (wipeD env vs) (h1 ++ [some (.lst acc)]) fun env' h' => h' = h1 ++ [some (.lst acc)] ∧ VT K Θ tt env' h' fun b h2 => h2 = h1 ++ [some (.lst acc)] ∧ b = c x ∧ (c x = true → VE K Θ te env' h2 fun y h3 => h3 = h1 ++ [some (.lst acc)] ∧ y = .p (g x))) ∧
      R (.own h1.length) (h1 ++ [some (.lst (((xs.filter c).map g).map D.p))])) : VE K Θ (tLc wi g' tt te vs) env h R := by
  refine ve_lcO tg fun F ρ σ H Q rl e k => q F ρ σ H Q rl e fun ds C h' J F' ρ' H' s p r it ⟨h1, h2, h3, h4, h5⟩ => k ds C h' J F' ρ' H' s p r it ?_
  subst h1
  refine ⟨fun i => (xs[i]?).bind fun x => if c x = true then some (g x) else none, by rw [List.length_map]; exact h2, h3, fun i d acc hd => ?_, ?_⟩
  · rw [List.getElem?_map] at hd
    cases e : xs[i]? with
    | none => rw [e] at hd; cases hd
    | some x =>
      rw [e] at hd; cases hd
      dsimp only
      rw [e, Option.bind_some]
      intro F ρ σ H v Q rl e' dv k
      refine h4 x (List.mem_of_getElem? e) acc F ρ σ H v Q rl e' dv fun env' h' F' ρ' σ' H' s p r ee ⟨e1, q1⟩ => k env' h' F' ρ' σ' H' s p r ee ⟨e1, q1.imp fun b h2 ⟨e2, e3, q2⟩ => ⟨by rw [e2, e1], ?_⟩⟩
      subst e3
      by_cases hc : c x = true
      · rw [if_pos hc, if_pos hc]
        exact (q2 hc).imp fun y h3 ⟨e4, e5⟩ => ⟨by rw [e4, e2], g x, e5, rfl⟩
      · rw [if_neg hc, if_neg hc]
  · rw [List.length_map, fm_filter]; exact h5
end
/-- an own list of own lists of ints -/
structure LL (h : Hs) (o : Nat) (js : List Nat) (xss : List (List Int)) : Prop where
  out : h[o]? = some (some (.lst (js.map D.own)))
  len : js.length = xss.length
  inn : ∀ (k j : Nat) (xs : List Int), js[k]? = some j → xss[k]? = some xs → h[j]? = some (some (.lst (xs.map dI)))
  nd : (o :: js).Nodup
namespace LL
variable {h : Hs} {o : Nat} {js : List Nat} {xss : List (List Int)}
theorem push (L : LL h o js xss) (x : Hs) : LL (h ++ x) o js xss := ⟨get_push L.out, L.len, fun k j xs a b => get_push (L.inn k j xs a b), L.nd⟩
theorem put (L : LL h o js xss) {n : Nat} (x : Option OO) (hn : n ≠ o) (hj : n ∉ js) : LL (h.set n x) o js xss :=
  ⟨get_put L.out hn, L.len, fun k j xs a b => get_put (L.inn k j xs a b) fun z => hj (z ▸ List.mem_of_getElem? a), L.nd⟩
theorem ix (L : LL h o js xss) {k : Nat} (hk : k < xss.length) : ∃ j xs, js[k]? = some j ∧ xss[k]? = some xs ∧ (js.map D.own)[k]? = some (.own j) ∧ h[j]? = some (some (.lst (xs.map dI))) := by
  have hj : k < js.length := by rw [L.len]; exact hk
  have e1 := List.getElem?_eq_getElem hj
  have e2 := List.getElem?_eq_getElem hk
  exact ⟨_, _, e1, e2, by rw [List.getElem?_map, e1]; rfl, L.inn k _ _ e1 e2⟩
theorem at_ne (L : LL h o js xss) {k j : Nat} (e : js[k]? = some j) : o ≠ j := fun z => (List.nodup_cons.mp L.nd).1 (z ▸ List.mem_of_getElem? e)
theorem inj (L : LL h o js xss) {k k' j : Nat} (e : js[k]? = some j) (e' : js[k']? = some j) : k = k' := by
  obtain ⟨h1, h2⟩ := List.getElem?_eq_some_iff.mp e
  obtain ⟨h3, h4⟩ := List.getElem?_eq_some_iff.mp e'
  have z := List.pairwise_iff_getElem.mp (List.nodup_cons.mp L.nd).2
  rcases Nat.lt_trichotomy k k' with g | g | g
  · exact absurd (h2.trans h4.symm) (z k k' h1 h3 g)
  · exact g
  · exact absurd (h4.trans h2.symm) (z k' k h3 h1 g)
theorem lt (L : LL h o js xss) : ∀ j ∈ js, j < h.length := fun j hm => by
  obtain ⟨i, hi, e⟩ := List.getElem_of_mem hm
  have e1 : js[i]? = some j := by rw [List.getElem?_eq_getElem hi, e]
  have hx : i < xss.length := by rw [← L.len]; exact hi
  exact lt_of_get (L.inn i j _ e1 (List.getElem?_eq_getElem hx))
/-- one inner list more -/
theorem snoc (L : LL h o js xss) (ys : List Int) : LL ((h ++ [some (OO.lst (ys.map dI))]).set o (some (OO.lst ((js ++ [h.length]).map D.own)))) o (js ++ [h.length]) (xss ++ [ys]) := by
  have ho := lt_of_get L.out
  refine ⟨get_self (by rw [List.length_append]; omega), by rw [List.length_append, List.length_append, L.len]; rfl, fun k j xs a b => ?_, ?_⟩
  · rcases Nat.lt_or_ge k js.length with z | z
    · rw [List.getElem?_append_left z] at a
      rw [List.getElem?_append_left (by rw [← L.len]; exact z)] at b
      exact get_put (get_push (L.inn k j xs a b)) fun z => L.at_ne a z
    · rw [List.getElem?_append_right z] at a
      rw [List.getElem?_append_right (by rw [← L.len]; exact z)] at b
      have zz : k - js.length = 0 := by
        have := (List.getElem?_eq_some_iff.mp a).1
        simp at this; omega
      rw [← L.len, zz] at b
      rw [zz] at a
      cases a; cases b
      exact get_put get_last (by omega)
  · have nd := List.nodup_cons.mp L.nd
    refine List.nodup_cons.mpr ⟨fun z => ?_, ?_⟩
    · rcases List.mem_append.mp z with z | z
      · exact nd.1 z
      · have := List.mem_singleton.mp z; omega
    · rw [List.nodup_append]
      refine ⟨nd.2, by simp, fun a ha b hb => ?_⟩
      have := L.lt a ha
      have := List.mem_singleton.mp hb
      omega
/-- an inner list is written -/
theorem inner (L : LL h o js xss) {k j : Nat} (e : js[k]? = some j) (ys : List Int) : LL (h.set j (some (OO.lst (ys.map dI)))) o js (xss.set k ys) := by
  have hk : k < xss.length := by rw [← L.len]; exact (List.getElem?_eq_some_iff.mp e).1
  have hj : j < h.length := lt_of_get (L.inn k j _ e (List.getElem?_eq_getElem hk))
  refine ⟨get_put L.out fun z => L.at_ne e z.symm, by rw [List.length_set]; exact L.len, fun k' j' xs a b => ?_, L.nd⟩
  by_cases hkk : k = k'
  · subst hkk
    rw [e] at a; cases a
    rw [List.getElem?_set_self hk] at b; cases b
    exact get_self hj
  · rw [List.getElem?_set_ne hkk] at b
    exact get_put (L.inn k' j' xs a b) fun z => hkk (L.inj e (z ▸ a))
/-- a new list in the place of an inner one -/
theorem anew (L : LL h o js xss) {k : Nat} (hk : k < xss.length) (ys : List Int) : LL ((h ++ [some (OO.lst (ys.map dI))]).set o (some (OO.lst ((js.set k h.length).map D.own)))) o (js.set k h.length) (xss.set k ys) := by
  have ho := lt_of_get L.out
  have hj : k < js.length := by rw [L.len]; exact hk
  have lt : ∀ j ∈ js, j < h.length := fun j hm => by
    obtain ⟨i, hi, e⟩ := List.getElem_of_mem hm
    have e1 : js[i]? = some j := by rw [List.getElem?_eq_getElem hi, e]
    have hx : i < xss.length := by rw [← L.len]; exact hi
    exact lt_of_get (L.inn i j _ e1 (List.getElem?_eq_getElem hx))
  refine ⟨get_self (by rw [List.length_append]; omega), by rw [List.length_set, List.length_set]; exact L.len, fun k' j' xs a b => ?_, ?_⟩
  · by_cases hkk : k = k'
    · subst hkk
      rw [List.getElem?_set_self hj] at a; cases a
      rw [List.getElem?_set_self hk] at b; cases b
      exact get_put get_last (by omega)
    · rw [List.getElem?_set_ne hkk] at a b
      exact get_put (get_push (L.inn k' j' xs a b)) fun z => L.at_ne a z
  · have nd := List.nodup_cons.mp L.nd
    refine List.nodup_cons.mpr ⟨fun z => ?_, ?_⟩
    · rcases List.mem_or_eq_of_mem_set z with z | z
      · exact nd.1 z
      · omega
    · refine List.pairwise_iff_getElem.mpr fun a b ha hb hab => ?_
      have zz := List.pairwise_iff_getElem.mp nd.2
      rw [List.length_set] at ha hb
      rw [List.getElem_set, List.getElem_set]
      have l1 := lt _ (List.getElem_mem ha)
      have l2 := lt _ (List.getElem_mem hb)
      split <;> split
      · omega
      · omega
      · omega
      · exact zz a b ha hb hab
end LL
end Kb

namespace Law
open PySem PySem.Spec PyProof.Rows L2 Kb
def topS (i : Nat) : Stmt := PySem.Challenge.pw_kithbase_k05_capabilities_form_a_tree.main.body.getD i (.Pass ⟨0, 0, 0, 0⟩)
-- the steps that are tried: k_clsL a side condition; k_subL one step; k_places steps as long as one fits
local macro_rules | `(tactic| k_clsL) => `(tactic| first | assumption | decide | omega)
local macro_rules | `(tactic| k_subL) => `(tactic| first
  | (with_reducible refine vs_seq ?_) | (with_reducible refine vs_asg ?_) | (with_reducible refine vg_name ?_) | (with_reducible refine vs_ret ?_) | (with_reducible refine vs_if ?_) | (with_reducible refine vs_next ?_) | (with_reducible refine vs_drop ?_)
  | (with_reducible refine vt_test ?_) | (with_reducible refine vt_B ?_) | (with_reducible refine vt_and ?_) | (with_reducible refine vt_or ?_) | (with_reducible refine vt_not ?_) | (with_reducible refine vt_truth ?_)
  | (with_reducible refine ve_op ?_) | (with_reducible refine ve_isi2 ?_) | ((with_reducible refine isi2_i (T := "tuple") ?hT ?hm ?hn ?_); (case hT => exact rfl); (case hm => decide); (case hn => decide)) | ((with_reducible refine isi2_i (T := "list") ?hT ?hm ?hn ?_); (case hT => exact rfl); (case hm => decide); (case hn => decide)) | ((with_reducible refine isi2_i (T := "int") ?hT ?hm ?hn ?_); (case hT => exact rfl); (case hm => decide); (case hn => decide)) | ((with_reducible refine isi2_i (T := "bool") ?hT ?hm ?hn ?_); (case hT => exact rfl); (case hm => decide); (case hn => decide)) | ((with_reducible refine isi2_i (T := "str") ?hT ?hm ?hn ?_); (case hT => exact rfl); (case hm => decide); (case hn => decide)) | ((with_reducible refine isi2_i (T := "NoneType") ?hT ?hm ?hn ?_); (case hT => exact rfl); (case hm => decide); (case hn => decide)) | (with_reducible refine ve_cb ?_) | (with_reducible refine va_cons ?_) | (with_reducible refine va_nil ?_) | (with_reducible refine ve_call ?_)
  | (with_reducible refine ve_int ?_) | (with_reducible refine ve_str ?_) | (with_reducible refine ve_bl ?_) | (with_reducible refine ve_non ?_) | (with_reducible refine ve_ty ?_)
  | (refine ve_var (by exact rfl) ?_)
  | (with_reducible refine ve_and ?_) | (with_reducible refine ve_or ?_) | (with_reducible refine ve_not ?_) | (with_reducible refine ve_chain ?_) | (with_reducible refine ve_un ?_) | (with_reducible refine ve_if ?_)
  | (with_reducible refine bool_ans ?_) | (with_reducible refine tru_bl ?_)
  | (with_reducible refine vc_intI ?_) | (with_reducible refine vc_intB ?_) | (with_reducible refine v2_addI ?_) | (with_reducible refine v2_sub ?_)
  | (with_reducible refine v2_lt ?_) | (with_reducible refine v2_le ?_) | (with_reducible refine v2_gt ?_) | (with_reducible refine v2_ge ?_)
  | (with_reducible refine v2_eqI ?_) | (with_reducible refine v2_eqS ?_) | (with_reducible refine v2_eqB ?_) | (with_reducible refine v2_neI ?_) | (with_reducible refine v2_neS ?_) | (with_reducible refine v2_neB ?_)
  | (with_reducible refine v2_isN ?_) | (with_reducible refine v2_notN ?_) | (with_reducible refine v2_isNU ?_) | ((with_reducible refine v2_isBl ?hx ?_); (case hx => exact rfl))
  | (with_reducible refine v2_addVI ?_) | (with_reducible refine v2_addWI ?_) | (with_reducible refine v2_ltI ?_) | (with_reducible refine v2_ltB ?_) | (with_reducible refine v2_ltS ?_)
  | ((with_reducible refine v2_divW ?hm ?_); case hm => (constructor <;> k_clsL))
  | ((with_reducible refine v2_mulU ?hm ?_); case hm => first | exact cmul_small (by k_clsL) (by k_clsL) | exact cmul_wide (by k_clsL) (by k_clsL))
  | ((with_reducible refine v2_mod ?hm ?_); case hm => k_clsL) | ((with_reducible refine v2_div ?hm ?_); case hm => (constructor <;> k_clsL))
  | ((with_reducible refine v2_mul ?hm ?_); case hm => first | exact cmul_small (by k_clsL) (by k_clsL) | exact cmul_wide (by k_clsL) (by k_clsL))
  | (with_reducible refine vc_abs ?_) | (with_reducible refine vc_min2 ?_) | (with_reducible refine vc_max2 ?_)
  | (with_reducible refine ve_tup ?_) | ((with_reducible refine tup_j ?hl ?_); (case hl => exact rfl))
  | ((with_reducible refine vc_isi (T := "tuple") ?hT ?hn ?_); (case hT => first | exact rfl | exact ⟨rfl, _, by first | assumption | simp⟩); (case hn => decide)) | ((with_reducible refine vc_isi (T := "list") ?hT ?hn ?_); (case hT => first | exact rfl | exact ⟨rfl, _, by first | assumption | simp⟩); (case hn => decide)) | ((with_reducible refine vc_isi (T := "int") ?hT ?hn ?_); (case hT => first | exact rfl | exact ⟨rfl, _, by first | assumption | simp⟩); (case hn => decide)) | ((with_reducible refine vc_isi (T := "bool") ?hT ?hn ?_); (case hT => first | exact rfl | exact ⟨rfl, _, by first | assumption | simp⟩); (case hn => decide)) | ((with_reducible refine vc_isi (T := "str") ?hT ?hn ?_); (case hT => first | exact rfl | exact ⟨rfl, _, by first | assumption | simp⟩); (case hn => decide)) | ((with_reducible refine vc_isi (T := "NoneType") ?hT ?hn ?_); (case hT => first | exact rfl | exact ⟨rfl, _, by first | assumption | simp⟩); (case hn => decide))
  | (with_reducible refine vc_lenL ?_) | (with_reducible refine vc_lenT ?_) | (with_reducible refine ite_nrefl ?_) | (with_reducible refine ite_refl ?_)
  | ((with_reducible refine ite_tt ?hc ?_); (case hc => first | decide | exact rfl)) | ((with_reducible refine ite_ff ?hc ?_); (case hc => first | decide | exact rfl))
  | (with_reducible refine v1_U ?_))
local macro_rules | `(tactic| k_places) => `(tactic| repeat k_subL)
local macro_rules | `(tactic| k_offL) => `(tactic| repeat ((fail_if_success (with_reducible refine vs_seq ?_)); k_subL))

section
variable {Pg : Program} {w : World} {K : PySem.W.Frag} {Θ : List Addr} {mg : Str → Option Value} {base : Heap}
abbrev st_mix : Stmt := (topS 16)
theorem sc_mix : FnScope ["cell", "k", "value"] ["cell", "k"] (defScope st_mix) := ⟨rfl, rfl, rfl, by decide +kernel, rfl, by decide +kernel, by decide +kernel⟩
def mix (c k : Int) : Int := (((c * 48271 + k * 69621 + 12345) % 2147483647) * ((c * 48271 + k * 69621 + 12345) % 2147483647) + k * 40692 + 1) % 2147483399 / 5 % 9973
def W_mix : Spc := fun ds h R => ∃ c k : Int, ds = [dI c, dI k] ∧ c.natAbs.log2 < 2000000 ∧ k.natAbs < 2 ^ 60 ∧ R (dI (mix c k)) h
theorem ok_mix (A : DefAt K mg "_law_mix" st_mix ["cell", "k"]) (m_int : mg "int" = none) : HasF Pg w K mg base CX0 1 "_law_mix" ["cell", "k"] (spD K Θ W_mix) := by
  have sc := sc_mix
  refine A.okD sc W_mix (fun ds h R ⟨c, k, e, _⟩ => by rw [e]; rfl) fun f cdv A outer s H E hr => ?_
  refine ⟨_, (pss_cons (ps_set (i := 2) sc.nd rfl (.inl rfl) (pe_op op_mod (pe_callTy call_intU (by rfl) m_int (by decide +kernel) (pa_cons (pe_op (op_addWK (K := K) (by rfl)) (pe_op (op_addWK (K := K) (by rfl)) (pe_op op_mulU (pe_callTy call_intU (by rfl) m_int (by decide +kernel) (pa_cons (pv 0) pa_nil)) pe_int) (pe_op op_mulU (pv 1) pe_int)) pe_int) pa_nil)) pe_int))
  (pss_cons (ps_set (i := 2) sc.nd rfl (.inl rfl) (pe_op op_mod (pe_callTy call_intU (by rfl) m_int (by decide +kernel) (pa_cons (pe_op (op_addWK (K := K) (by rfl)) (pe_op (op_addWK (K := K) (by rfl)) (pe_op op_mulU (pv 2) (pv 2)) (pe_op op_mulU (pv 1) pe_int)) pe_int) pa_nil)) pe_int))
  (pss_one (ps_ret (pe_op op_mod (pe_op op_fdivW (pv 2) pe_int) pe_int))))), ?_⟩
  try dsimp only [cxOf]
  rintro ds h R ⟨c, k, rfl, hc, hk, q⟩
  k_places
  exact q
theorem mix_lo (c k : Int) : 0 ≤ mix c k ∧ mix c k < 9973 := by unfold mix; omega
abbrev st_draws : Stmt := (topS 17)
theorem sc_draws : FnScope ["script", "draws", "k", "cell", "place"] ["script"] (defScope st_draws) := ⟨rfl, rfl, rfl, by decide +kernel, rfl, by decide +kernel, by decide +kernel⟩
/-- draws: each from 0 to 9972 -/
def Good (ms : List Int) : Prop := ∀ m ∈ ms, 0 ≤ m ∧ m < 9973
theorem Good.snoc {ms : List Int} {m : Int} (g : Good ms) (h : 0 ≤ m ∧ m < 9973) : Good (ms ++ [m]) := fun x hx => by
  rcases List.mem_append.mp hx with hx | hx
  · exact g x hx
  · rw [List.mem_singleton.mp hx]; exact h
def W_draws : Spc := fun ds h R => ∃ ns : List Int, ds = [dL (ns.map P.int)] ∧ ns.length ≤ 63 ∧ (∀ n ∈ ns, n.natAbs.log2 < 2000000) ∧ ∀ ms : List Int, Good ms → ms.length ≤ 3780 → R (dL (ms.map P.int)) h
theorem map_dI (ms : List Int) : (ms.map P.int).map D.p = ms.map dI := by rw [List.map_map]; rfl
theorem ok_draws (A : DefAt K mg "_law_draws" st_draws ["script"]) (m_int : mg "int" = none) (m_len : mg "len" = none) (m_min : mg "min" = none) (m_range : mg "range" = none)
    (h__law_mix : HasF Pg w K mg base CX0 1 "_law_mix" ["cell", "k"] (spD K Θ W_mix)) : HasF Pg w K mg base CX0 2 "_law_draws" ["script"] (spD K Θ W_draws) := by
  have sc := sc_draws
  refine A.okD sc W_draws (fun ds h R ⟨c, e, _⟩ => by rw [e]; rfl) fun f cdv A outer s H E hr => ?_
  refine ⟨_, (pss_cons (ps_set (i := 1) sc.nd rfl (.inl rfl) (pe_lst pa_nil))
  (pss_cons (ps_for PassesOwn.never rfl (pi_range1 rfl m_range (pa_cons (pe_callB (call_min2 rfl) (by rfl) m_min (by decide +kernel) (pa_cons pe_int (pa_cons (pe_callB (call_lenK (K := K) (by rfl)) (by rfl) m_len (by decide +kernel) (pa_cons (pv 0) pa_nil)) pa_nil))) pa_nil)) (pg_name (i := 2) sc.nd rfl (.inl rfl))
  (pss_cons (ps_set (i := 3) sc.nd rfl (.inl rfl) (pe_callTy call_intU (by rfl) m_int (by decide +kernel) (pa_cons (pe_ix (ix_seqK (K := K) (by rfl)) (pv 0) (pv 2) (fun _ _ => rfl)) pa_nil)))
  (pss_one (ps_if (pt_cmpR op_lt (pv 3) (pe_op op_pow pe_int pe_int) (nomark _)) (pss_one (ps_expr (pe_bm PySem.F.plainAttrs_list PySem.F.slot_list_append PySem.F.type_list_append mt_append (pv 1) (pa_cons (h__law_mix.call (hr.mono (by first | decide | omega)) rfl pass0 (pa_cons (pv 3) (pa_cons (pv 2) pa_nil))) pa_nil)))) (pss_one (ps_for PassesOwn.never rfl (pi_range1 rfl m_range (pa_cons pe_int pa_nil)) (pg_name (i := 4) sc.nd rfl (.inl rfl))
  (pss_one (ps_if (pt_cmpR op_gt (pv 3) pe_int (nomark _)) (pss_cons (ps_expr (pe_bm PySem.F.plainAttrs_list PySem.F.slot_list_append PySem.F.type_list_append mt_append (pv 1) (pa_cons (pe_op op_mod (pe_callTy call_intU (by rfl) m_int (by decide +kernel) (pa_cons (pv 3) pa_nil)) pe_int) pa_nil)))
  (pss_one (ps_set (i := 3) sc.nd rfl (.inl rfl) (pe_op op_fdivW (pv 3) pe_int)))) pss_nil))))))))
  (pss_one (ps_ret (pv 1))))), ?_⟩
  try dsimp only [cxOf]
  rintro ds h R ⟨ns, rfl, hl, hb, q⟩
  refine vs_fin ?_
  k_subL; k_subL
  refine ve_lstO ?_
  k_places
  refine ⟨by decide, ?_⟩
  k_places
  refine vs_for (vi_range1 ?_)
  k_places
  try rw [List.length_map]
  refine ⟨_, rfl, by split <;> omega, by split <;> omega, ?_⟩
  refine ⟨fun i env h' => ∃ (ms : List Int) (o2 o3 o4 : Option D), env = [some (dL (ns.map P.int)), some (.own h.length), o2, o3, o4] ∧ h' = h ++ [some (.lst (ms.map dI))] ∧ Good ms ∧ ms.length ≤ 60 * i, ?_, ?_, ?_, ?_⟩
  · exact ⟨[], none, none, none, rfl, rfl, fun m hm => by simp at hm, by simp⟩
  · exact fun _ _ _ _ => trivial
  · rintro i d env h' hd ⟨ms, o2, o3, o4, rfl, rfl, hg, hlen⟩
    obtain ⟨hi, rfl⟩ := rng_get hd
    have hi2 : i < ns.length := by split at hi <;> omega
    k_places
    have hget : (ns.map P.int)[i]? = some (.int ns[i]) := by rw [List.getElem?_map, List.getElem?_eq_getElem hi2]; rfl
    refine v2_ixL (at_nat i (by omega) hget) ?_
    k_places
    refine v2_pow (by decide) ?_
    k_places
    have hz := hb ns[i] (List.getElem_mem hi2)
    generalize ns[i] = z at hz
    refine ite_dec (fun _ => ?_) (fun _ => ?_)
    · k_subL
      refine ve_bm ?_
      k_places
      refine ⟨⟨rfl, ms.map dI, by simp⟩, ?_⟩
      k_places
      refine ⟨z, (i : Int), by simp, hz, by omega, ?_⟩
      k_places
      refine vm_append (xs := ms.map dI) (by simp) (by simp; have e := sizeLine_eq; omega) ?_
      refine ⟨ms ++ [mix z i], _, _, _, rfl, by simp, hg.snoc (mix_lo _ _), by simp; omega⟩
    · refine vs_for (vi_range1 ?_)
      k_places
      refine ⟨_, rfl, by decide, by decide, ?_⟩
      refine ⟨fun j env h' => ∃ (ms' : List Int) (z' : Int) (o2 o4 : Option D), env = [some (dL (ns.map P.int)), some (.own h.length), o2, some (dI z'), o4] ∧ h' = h ++ [some (.lst (ms'.map dI))] ∧ Good ms' ∧ ms'.length ≤ ms.length + j, ?_, ?_, ?_, ?_⟩
      · exact ⟨ms, z, _, _, rfl, rfl, hg, by omega⟩
      · exact fun _ _ _ _ => trivial
      · rintro j d env h' hd ⟨ms', z', o2, o4, rfl, rfl, hg', hlen'⟩
        obtain ⟨hj, rfl⟩ := rng_get hd
        k_places
        refine ite_dec (fun _ => ?_) (fun _ => ?_)
        · k_subL
          k_subL
          refine ve_bm ?_
          k_places
          refine ⟨⟨rfl, ms'.map dI, by simp⟩, ?_⟩
          k_places
          have hj60 : j < 60 := hj
          refine vm_append (xs := ms'.map dI) (by simp) (by simp; have e := sizeLine_eq; omega) ?_
          k_places
          refine ⟨ms' ++ [z' % 9973], z' / 9973, _, _, rfl, by simp, hg'.snoc (by omega), by simp; omega⟩
        · k_subL
          exact ⟨ms', z', _, _, rfl, rfl, hg', by omega⟩
      · rintro env h' ⟨ms', z', o2, o4, rfl, rfl, hg', hlen'⟩
        rw [rng_len] at hlen'
        exact ⟨ms', _, _, _, rfl, rfl, hg', by have e : (60 : Int).toNat = 60 := rfl; omega⟩
  · rintro env h' ⟨ms, o2, o3, o4, rfl, rfl, hg, hlen⟩
    rw [rng_len] at hlen
    k_places
    refine ⟨[some (.lst (ms.map dI))], rfl, .inr (.inl ⟨h.length, ms.map P.int, rfl, Nat.le_refl _, by simp [map_dI], q ms hg (by split at hlen <;> omega)⟩)⟩
abbrev st_at : Stmt := (topS 18)
theorem sc_at : FnScope ["draws", "index"] ["draws", "index"] (defScope st_at) := ⟨rfl, rfl, rfl, by decide +kernel, rfl, by decide +kernel, by decide +kernel⟩
def lawAt (ms : List Int) (i : Int) : Int := if i < ms.length then ms.getD i.toNat 0 else if ms = [] then mix i 77 else mix (ms.getD (i % ms.length).toNat 0 + i * 131) i
theorem lawAt_lo {ms : List Int} (g : Good ms) (i : Int) (h0 : 0 ≤ i) : 0 ≤ lawAt ms i ∧ lawAt ms i < 9973 := by
  unfold lawAt
  split
  · rename_i h
    have hl : i.toNat < ms.length := by omega
    rw [List.getD_eq_getElem?_getD, List.getElem?_eq_getElem hl]
    exact g _ (List.getElem_mem hl)
  · split
    · exact mix_lo _ _
    · exact mix_lo _ _
def W_at : Spc := fun ds h R => ∃ (ms : List Int) (i : Int), ds = [dL (ms.map P.int), dI i] ∧ Good ms ∧ ms.length ≤ 3780 ∧ 0 ≤ i ∧ i < 2 ^ 40 ∧ R (dI (lawAt ms i)) h
theorem get_ints {ms : List Int} {n : Nat} (h : n < ms.length) : (ms.map P.int)[n]? = some (.int (ms.getD n 0)) := by
  rw [List.getElem?_map, List.getD_eq_getElem?_getD, List.getElem?_eq_getElem h]; rfl
theorem ok_at (A : DefAt K mg "_law_at" st_at ["draws", "index"]) (m_int : mg "int" = none) (m_len : mg "len" = none)
    (h__law_mix : HasF Pg w K mg base CX0 1 "_law_mix" ["cell", "k"] (spD K Θ W_mix)) : HasF Pg w K mg base CX0 2 "_law_at" ["draws", "index"] (spD K Θ W_at) := by
  have sc := sc_at
  refine A.okD sc W_at (fun ds h R ⟨_, c, e, _⟩ => by rw [e]; rfl) fun f cdv A outer s H E hr => ?_
  refine ⟨_, (pss_cons (ps_if (pt_cmpR op_lt (pv 1) (pe_callB (call_lenK (K := K) (by rfl)) (by rfl) m_len (by decide +kernel) (pa_cons (pv 0) pa_nil)) (nomark _)) (pss_one (ps_ret (pe_ix (ix_seqK (K := K) (by rfl)) (pv 0) (pv 1) (fun _ _ => rfl)))) pss_nil)
  (pss_cons (ps_if (pt_cmpR (op_eqUK (K := K) (by rfl) hr.units) (pe_callB (call_lenK (K := K) (by rfl)) (by rfl) m_len (by decide +kernel) (pa_cons (pv 0) pa_nil)) pe_int (nomark _)) (pss_one (ps_ret (h__law_mix.call (hr.mono (by first | decide | omega)) rfl pass0 (pa_cons (pv 1) (pa_cons pe_int pa_nil))))) pss_nil)
  (pss_one (ps_ret (h__law_mix.call (hr.mono (by first | decide | omega)) rfl pass0 (pa_cons (pe_op (op_addWK (K := K) (by rfl)) (pe_ix (ix_seqK (K := K) (by rfl)) (pv 0) (pe_op op_mod (pe_callTy call_intU (by rfl) m_int (by decide +kernel) (pa_cons (pv 1) pa_nil)) (pe_callB (call_lenK (K := K) (by rfl)) (by rfl) m_len (by decide +kernel) (pa_cons (pv 0) pa_nil))) (fun _ _ => rfl)) (pe_op op_mulU (pv 1) pe_int)) (pa_cons (pv 1) pa_nil))))))), ?_⟩
  try dsimp only [cxOf]
  rintro ds h R ⟨ms, i, rfl, hg, hl, h0, h1, q⟩
  refine vs_fin ?_
  k_places
  rw [List.length_map]
  refine ite_dec (fun hi => ?_) (fun hi => ?_)
  · k_places
    refine v2_ixL (at_nat i.toNat (by omega) (get_ints (by omega))) ?_
    refine fin_p0 ?_
    unfold lawAt at q
    rw [if_pos hi] at q
    exact q
  · k_places
    rw [List.length_map]
    refine ite_dec (fun hn => ?_) (fun hn => ?_)
    · k_places
      have hm : ms = [] := List.length_eq_zero_iff.mp (by omega)
      refine ⟨i, 77, rfl, ?_, by decide, fin_p0 ?_⟩
      · exact Nat.lt_trans (log2_small (n := i.natAbs) (by omega)) (by decide)
      · unfold lawAt at q
        rw [if_neg hi, if_pos hm] at q
        exact q
    · have hp : (0 : Int) < ((ms.map P.int).length : Int) := by rw [List.length_map]; omega
      k_places
      rw [List.length_map] at hp ⊢
      have hj1 := Int.emod_nonneg i (show (ms.length : Int) ≠ 0 by omega)
      have hj2 := Int.emod_lt_of_pos i (show (0 : Int) < ms.length by omega)
      have hjl : (i % (ms.length : Int)).toNat < ms.length := by omega
      refine v2_ixL (at_nat (i % (ms.length : Int)).toNat (by omega) (get_ints hjl)) ?_
      k_places
      have hv := hg _ (List.getElem_mem hjl)
      have e1 : ms.getD (i % (ms.length : Int)).toNat 0 = ms[(i % (ms.length : Int)).toNat] := by rw [List.getD_eq_getElem?_getD, List.getElem?_eq_getElem hjl]; rfl
      refine ⟨_, i, rfl, ?_, by omega, fin_p0 ?_⟩
      · rw [e1]
        exact Nat.lt_trans (log2_small (n := (ms[(i % (ms.length : Int)).toNat] + i * 131).natAbs) (by omega)) (by decide)
      · unfold lawAt at q
        rw [if_neg hi, if_neg (fun z => hn (by rw [z]; rfl))] at q
        exact q
end
end Law

namespace Law
open PySem PySem.Spec PyProof.Rows L2 Kb
-- the steps that are tried: k_clsL a side condition; k_subL one step; k_places steps as long as one fits
local macro_rules | `(tactic| k_clsL) => `(tactic| first | assumption | decide | omega)
local macro_rules | `(tactic| k_subL) => `(tactic| first
  | (with_reducible refine vs_seq ?_) | (with_reducible refine vs_asg ?_) | (with_reducible refine vg_name ?_) | (with_reducible refine vs_ret ?_) | (with_reducible refine vs_if ?_) | (with_reducible refine vs_next ?_) | (with_reducible refine vs_drop ?_)
  | (with_reducible refine vt_test ?_) | (with_reducible refine vt_B ?_) | (with_reducible refine vt_and ?_) | (with_reducible refine vt_or ?_) | (with_reducible refine vt_not ?_) | (with_reducible refine vt_truth ?_)
  | (with_reducible refine ve_op ?_) | (with_reducible refine ve_isi2 ?_) | ((with_reducible refine isi2_i (T := "tuple") ?hT ?hm ?hn ?_); (case hT => exact rfl); (case hm => decide); (case hn => decide)) | ((with_reducible refine isi2_i (T := "list") ?hT ?hm ?hn ?_); (case hT => exact rfl); (case hm => decide); (case hn => decide)) | ((with_reducible refine isi2_i (T := "int") ?hT ?hm ?hn ?_); (case hT => exact rfl); (case hm => decide); (case hn => decide)) | ((with_reducible refine isi2_i (T := "bool") ?hT ?hm ?hn ?_); (case hT => exact rfl); (case hm => decide); (case hn => decide)) | ((with_reducible refine isi2_i (T := "str") ?hT ?hm ?hn ?_); (case hT => exact rfl); (case hm => decide); (case hn => decide)) | ((with_reducible refine isi2_i (T := "NoneType") ?hT ?hm ?hn ?_); (case hT => exact rfl); (case hm => decide); (case hn => decide)) | (with_reducible refine ve_cb ?_) | (with_reducible refine va_cons ?_) | (with_reducible refine va_nil ?_) | (with_reducible refine ve_call ?_)
  | (with_reducible refine ve_int ?_) | (with_reducible refine ve_str ?_) | (with_reducible refine ve_bl ?_) | (with_reducible refine ve_non ?_) | (with_reducible refine ve_ty ?_)
  | (refine ve_var (by exact rfl) ?_)
  | (with_reducible refine ve_and ?_) | (with_reducible refine ve_or ?_) | (with_reducible refine ve_not ?_) | (with_reducible refine ve_chain ?_) | (with_reducible refine ve_un ?_) | (with_reducible refine ve_if ?_)
  | (with_reducible refine bool_ans ?_) | (with_reducible refine tru_bl ?_)
  | (with_reducible refine vc_intI ?_) | (with_reducible refine vc_intB ?_) | (with_reducible refine v2_addI ?_) | (with_reducible refine v2_sub ?_)
  | (with_reducible refine v2_lt ?_) | (with_reducible refine v2_le ?_) | (with_reducible refine v2_gt ?_) | (with_reducible refine v2_ge ?_)
  | (with_reducible refine v2_eqI ?_) | (with_reducible refine v2_eqS ?_) | (with_reducible refine v2_eqB ?_) | (with_reducible refine v2_neI ?_) | (with_reducible refine v2_neS ?_) | (with_reducible refine v2_neB ?_)
  | (with_reducible refine v2_isN ?_) | (with_reducible refine v2_notN ?_) | (with_reducible refine v2_isNU ?_) | ((with_reducible refine v2_isBl ?hx ?_); (case hx => exact rfl))
  | (with_reducible refine v2_addVI ?_) | (with_reducible refine v2_addWI ?_) | (with_reducible refine v2_ltI ?_) | (with_reducible refine v2_ltB ?_) | (with_reducible refine v2_ltS ?_)
  | ((with_reducible refine v2_divW ?hm ?_); case hm => (constructor <;> k_clsL))
  | ((with_reducible refine v2_mulU ?hm ?_); case hm => first | exact cmul_small (by k_clsL) (by k_clsL) | exact cmul_wide (by k_clsL) (by k_clsL))
  | ((with_reducible refine v2_mod ?hm ?_); case hm => k_clsL) | ((with_reducible refine v2_div ?hm ?_); case hm => (constructor <;> k_clsL))
  | ((with_reducible refine v2_mul ?hm ?_); case hm => first | exact cmul_small (by k_clsL) (by k_clsL) | exact cmul_wide (by k_clsL) (by k_clsL))
  | (with_reducible refine vc_abs ?_) | (with_reducible refine vc_min2 ?_) | (with_reducible refine vc_max2 ?_)
  | (with_reducible refine ve_tup ?_) | ((with_reducible refine tup_j ?hl ?_); (case hl => exact rfl))
  | ((with_reducible refine vc_isi (T := "tuple") ?hT ?hn ?_); (case hT => first | exact rfl | exact ⟨rfl, _, by first | assumption | simp⟩); (case hn => decide)) | ((with_reducible refine vc_isi (T := "list") ?hT ?hn ?_); (case hT => first | exact rfl | exact ⟨rfl, _, by first | assumption | simp⟩); (case hn => decide)) | ((with_reducible refine vc_isi (T := "int") ?hT ?hn ?_); (case hT => first | exact rfl | exact ⟨rfl, _, by first | assumption | simp⟩); (case hn => decide)) | ((with_reducible refine vc_isi (T := "bool") ?hT ?hn ?_); (case hT => first | exact rfl | exact ⟨rfl, _, by first | assumption | simp⟩); (case hn => decide)) | ((with_reducible refine vc_isi (T := "str") ?hT ?hn ?_); (case hT => first | exact rfl | exact ⟨rfl, _, by first | assumption | simp⟩); (case hn => decide)) | ((with_reducible refine vc_isi (T := "NoneType") ?hT ?hn ?_); (case hT => first | exact rfl | exact ⟨rfl, _, by first | assumption | simp⟩); (case hn => decide))
  | (with_reducible refine vc_lenL ?_) | (with_reducible refine vc_lenT ?_) | (with_reducible refine ite_nrefl ?_) | (with_reducible refine ite_refl ?_)
  | ((with_reducible refine ite_tt ?hc ?_); (case hc => first | decide | exact rfl)) | ((with_reducible refine ite_ff ?hc ?_); (case hc => first | decide | exact rfl))
  | (with_reducible refine v1_U ?_))
local macro_rules | `(tactic| k_places) => `(tactic| repeat k_subL)

/-- lists and tuples made tuples -/
def frzP : P → P
  | .lst xs => .tup (frzL xs)
  | .tup xs => .tup (frzL xs)
  | x => x
where frzL : List P → List P
  | [] => []
  | x :: xs => frzP x :: frzL xs
theorem frzL_map : ∀ xs : List P, frzP.frzL xs = xs.map frzP
  | [] => rfl
  | x :: xs => by unfold frzP.frzL; rw [frzL_map xs]; rfl
/-- plain data of that depth -/
inductive Deep : Nat → P → Prop
  | non {n : Nat} : Deep n .non
  | bl {n : Nat} {b : Bool} : Deep n (.bl b)
  | int {n : Nat} {i : Int} : Deep n (.int i)
  | str {n : Nat} {s : Str} : Deep n (.str s)
  | tup {n : Nat} {xs : List P} : xs.length < 1000000 → (∀ x ∈ xs, Deep n x) → Deep (n + 1) (.tup xs)
  | lst {n : Nat} {xs : List P} : xs.length < 1000000 → (∀ x ∈ xs, Deep n x) → Deep (n + 1) (.lst xs)
section
variable {Pg : Program} {w : World} {K : PySem.W.Frag} {Θ : List Addr} {mg : Str → Option Value} {base : Heap}
abbrev st_frz : Stmt := (topS 3)
theorem sc_frz : FnScope ["value", "item"] ["value"] (defScope st_frz) := ⟨rfl, rfl, rfl, by decide +kernel, rfl, by decide +kernel, by decide +kernel⟩
def W_frz : Nat → Spc
  | 0 => fun _ _ _ => False
  | n + 1 => fun ds h R => ∃ v : P, ds = [.p v] ∧ Deep n v ∧ R (.p (frzP v)) h
theorem ok_frz (A : DefAt K mg "frozen" st_frz ["value"]) (m_list : mg "list" = none) (m_tuple : mg "tuple" = none) (m_isinstance : mg "isinstance" = none) :
    ∀ n : Nat, HasF Pg w K mg base CX0 (n + 1) "frozen" ["value"] (spD K Θ (W_frz n))
  | 0 => .never A sc_frz fun _ _ _ h => h
  | n + 1 => by
    have sc := sc_frz
    have sz := sizeLine_eq
    have h_frozen := ok_frz A m_list m_tuple m_isinstance n
    refine A.okD sc (W_frz (n + 1)) (fun ds h R ⟨v, e, _⟩ => by rw [e]; rfl) fun f cdv A outer s H E hr => ?_
    refine ⟨_, (pss_cons (ps_if (pt_val (pe_callB (call_isiUK (K := K) (by rfl)) (by rfl) m_isinstance (by decide +kernel) (pa_cons (pv 0) (pa_cons (pe_tup (pa_cons (pe_bltn (v := .ty "list") rfl m_list (by decide +kernel) rfl) (pa_cons (pe_bltn (v := .ty "tuple") rfl m_tuple (by decide +kernel) rfl) pa_nil))) pa_nil)))) (pss_one (ps_ret (pe_callTy (call_tuple_ofK (K := K) (by rfl)) (by rfl) m_tuple (by decide +kernel) (pa_cons (pe_lc (own := [("item", 1)]) rfl sc.nd (pi_seqK (K := K) (by rfl) (pv 0)) (blkOk_by (N := ["value", "item"]) (sc := defScope (topS 3)) (by decide +kernel)) (fun _ _ _ _ _ => (pg_name (i := 1) sc.nd rfl (.inl rfl))) (fun _ _ _ _ _ => pts_nil) (fun _ _ _ _ _ => (h_frozen.call (hr.mono (by first | decide | omega)) rfl pass0 (pa_cons (pv 1) pa_nil)))) pa_nil)))) pss_nil)
  (pss_one (ps_ret (pv 0)))), ?_⟩
    try dsimp only [cxOf]
    rintro ds h R ⟨v, rfl, hv, q⟩
    cases hv with
    | non => k_places; exact q
    | bl => k_places; exact q
    | int => k_places; exact q
    | str => k_places; exact q
    | tup hl hx =>
      rename_i n xs
      have eq : R (.p (.tup (xs.map frzP))) h := by rw [← frzL_map]; exact q
      k_places
      refine ve_lcMap tg_name ?_
      refine vi_seqT ?_
      k_places
      refine ⟨xs, rfl, xs.map frzP, by simp, by simp; omega, fun _ => trivial, ?_, ?_⟩
      · intro i d y acc hd hy
        rw [List.getElem?_map] at hd hy
        cases e : xs[i]? with
        | none => rw [e] at hd; cases hd
        | some x =>
          rw [e] at hd hy
          cases hd; cases hy
          refine vg_name ⟨rfl, ?_⟩
          k_places
          exact ⟨x, rfl, hx x (List.mem_of_getElem? e), rfl, rfl⟩
      · k_places
        refine vc_tuple rfl ?_
        exact eq
    | lst hl hx =>
      rename_i n xs
      have eq : R (.p (.tup (xs.map frzP))) h := by rw [← frzL_map]; exact q
      k_places
      refine ve_lcMap tg_name ?_
      refine vi_seqL ?_
      k_places
      refine ⟨xs, rfl, xs.map frzP, by simp, by simp; omega, fun _ => trivial, ?_, ?_⟩
      · intro i d y acc hd hy
        rw [List.getElem?_map] at hd hy
        cases e : xs[i]? with
        | none => rw [e] at hd; cases hd
        | some x =>
          rw [e] at hd hy
          cases hd; cases hy
          refine vg_name ⟨rfl, ?_⟩
          k_places
          exact ⟨x, rfl, hx x (List.mem_of_getElem? e), rfl, rfl⟩
      · k_places
        refine vc_tuple rfl ?_
        exact eq
end
end Law

namespace Law
open PySem PySem.Spec PyProof.Rows L2 Kb
-- the steps that are tried: k_clsL a side condition; k_subL one step; k_places steps as long as one fits
local macro_rules | `(tactic| k_clsL) => `(tactic| first | assumption | decide | omega)
local macro_rules | `(tactic| k_subL) => `(tactic| first
  | (with_reducible refine vs_seq ?_) | (with_reducible refine vs_asg ?_) | (with_reducible refine vg_name ?_) | (with_reducible refine vs_ret ?_) | (with_reducible refine vs_if ?_) | (with_reducible refine vs_next ?_) | (with_reducible refine vs_drop ?_)
  | (with_reducible refine vt_test ?_) | (with_reducible refine vt_B ?_) | (with_reducible refine vt_and ?_) | (with_reducible refine vt_or ?_) | (with_reducible refine vt_not ?_) | (with_reducible refine vt_truth ?_)
  | (with_reducible refine ve_op ?_) | (with_reducible refine ve_isi2 ?_) | ((with_reducible refine isi2_i (T := "tuple") ?hT ?hm ?hn ?_); (case hT => exact rfl); (case hm => decide); (case hn => decide)) | ((with_reducible refine isi2_i (T := "list") ?hT ?hm ?hn ?_); (case hT => exact rfl); (case hm => decide); (case hn => decide)) | ((with_reducible refine isi2_i (T := "int") ?hT ?hm ?hn ?_); (case hT => exact rfl); (case hm => decide); (case hn => decide)) | ((with_reducible refine isi2_i (T := "bool") ?hT ?hm ?hn ?_); (case hT => exact rfl); (case hm => decide); (case hn => decide)) | ((with_reducible refine isi2_i (T := "str") ?hT ?hm ?hn ?_); (case hT => exact rfl); (case hm => decide); (case hn => decide)) | ((with_reducible refine isi2_i (T := "NoneType") ?hT ?hm ?hn ?_); (case hT => exact rfl); (case hm => decide); (case hn => decide)) | (with_reducible refine ve_cb ?_) | (with_reducible refine va_cons ?_) | (with_reducible refine va_nil ?_) | (with_reducible refine ve_call ?_)
  | (with_reducible refine ve_int ?_) | (with_reducible refine ve_str ?_) | (with_reducible refine ve_bl ?_) | (with_reducible refine ve_non ?_) | (with_reducible refine ve_ty ?_)
  | (refine ve_var (by exact rfl) ?_)
  | (with_reducible refine ve_and ?_) | (with_reducible refine ve_or ?_) | (with_reducible refine ve_not ?_) | (with_reducible refine ve_chain ?_) | (with_reducible refine ve_un ?_) | (with_reducible refine ve_if ?_)
  | (with_reducible refine bool_ans ?_) | (with_reducible refine tru_bl ?_)
  | (with_reducible refine vc_intI ?_) | (with_reducible refine vc_intB ?_) | (with_reducible refine v2_addI ?_) | (with_reducible refine v2_sub ?_)
  | (with_reducible refine v2_lt ?_) | (with_reducible refine v2_le ?_) | (with_reducible refine v2_gt ?_) | (with_reducible refine v2_ge ?_)
  | (with_reducible refine v2_eqI ?_) | (with_reducible refine v2_eqS ?_) | (with_reducible refine v2_eqB ?_) | (with_reducible refine v2_neI ?_) | (with_reducible refine v2_neS ?_) | (with_reducible refine v2_neB ?_)
  | (with_reducible refine v2_isN ?_) | (with_reducible refine v2_notN ?_) | (with_reducible refine v2_isNU ?_) | ((with_reducible refine v2_isBl ?hx ?_); (case hx => exact rfl))
  | (with_reducible refine v2_addVI ?_) | (with_reducible refine v2_addWI ?_) | (with_reducible refine v2_ltI ?_) | (with_reducible refine v2_ltB ?_) | (with_reducible refine v2_ltS ?_)
  | ((with_reducible refine v2_divW ?hm ?_); case hm => (constructor <;> k_clsL))
  | ((with_reducible refine v2_mulU ?hm ?_); case hm => first | exact cmul_small (by k_clsL) (by k_clsL) | exact cmul_wide (by k_clsL) (by k_clsL))
  | ((with_reducible refine v2_mod ?hm ?_); case hm => k_clsL) | ((with_reducible refine v2_div ?hm ?_); case hm => (constructor <;> k_clsL))
  | ((with_reducible refine v2_mul ?hm ?_); case hm => first | exact cmul_small (by k_clsL) (by k_clsL) | exact cmul_wide (by k_clsL) (by k_clsL))
  | (with_reducible refine vc_abs ?_) | (with_reducible refine vc_min2 ?_) | (with_reducible refine vc_max2 ?_)
  | (with_reducible refine ve_tup ?_) | ((with_reducible refine tup_j ?hl ?_); (case hl => exact rfl))
  | ((with_reducible refine vc_isi (T := "tuple") ?hT ?hn ?_); (case hT => first | exact rfl | exact ⟨rfl, _, by first | assumption | simp⟩); (case hn => decide)) | ((with_reducible refine vc_isi (T := "list") ?hT ?hn ?_); (case hT => first | exact rfl | exact ⟨rfl, _, by first | assumption | simp⟩); (case hn => decide)) | ((with_reducible refine vc_isi (T := "int") ?hT ?hn ?_); (case hT => first | exact rfl | exact ⟨rfl, _, by first | assumption | simp⟩); (case hn => decide)) | ((with_reducible refine vc_isi (T := "bool") ?hT ?hn ?_); (case hT => first | exact rfl | exact ⟨rfl, _, by first | assumption | simp⟩); (case hn => decide)) | ((with_reducible refine vc_isi (T := "str") ?hT ?hn ?_); (case hT => first | exact rfl | exact ⟨rfl, _, by first | assumption | simp⟩); (case hn => decide)) | ((with_reducible refine vc_isi (T := "NoneType") ?hT ?hn ?_); (case hT => first | exact rfl | exact ⟨rfl, _, by first | assumption | simp⟩); (case hn => decide))
  | (with_reducible refine vc_lenL ?_) | (with_reducible refine vc_lenT ?_) | (with_reducible refine ite_nrefl ?_) | (with_reducible refine ite_refl ?_)
  | ((with_reducible refine ite_tt ?hc ?_); (case hc => first | decide | exact rfl)) | ((with_reducible refine ite_ff ?hc ?_); (case hc => first | decide | exact rfl))
  | (with_reducible refine v1_U ?_))
local macro_rules | `(tactic| k_places) => `(tactic| repeat k_subL)

structure KptC (K : PySem.W.Frag) (mg : Str → Option Value) (C : Addr) : Prop where
  cl : Cls K C
  n1 : NoAttr K C "acts"
  n2 : NoAttr K C "sums"
  n3 : NoAttr K C "texts"
  mgC : mg "Kept" = some (.ref C)
structure StoC (K : PySem.W.Frag) (mg : Str → Option Value) (C : Addr) : Prop where
  cl : Cls K C
  n1 : NoAttr K C "members"
  n2 : NoAttr K C "cut"
  n3 : NoAttr K C "capabilities"
  n4 : NoAttr K C "kept"
  n5 : NoAttr K C "changes"
  mgC : mg "Store" = some (.ref C)
def keptF (a s t : List P) : List (Str × P) := [("acts", .lst a), ("sums", .lst s), ("texts", .lst t)]
def storeF (m : Int) (i1 i2 i3 i4 : Nat) : List (Str × D) := [("members", dI m), ("cut", .own i1), ("capabilities", .own i2), ("kept", .own i3), ("changes", .own i4)]
theorem put_k1 {x : D} : putD "acts" x [] = [(("acts" : Str), x)] := by kernel_rfl
theorem put_k2 {a x : D} : putD "sums" x [(("acts" : Str), a)] = [(("acts" : Str), a), (("sums" : Str), x)] := by kernel_rfl
theorem put_k3 {a b x : D} : putD "texts" x [(("acts" : Str), a), (("sums" : Str), b)] = [(("acts" : Str), a), (("sums" : Str), b), (("texts" : Str), x)] := by kernel_rfl
theorem put_s1 {x : D} : putD "members" x [] = [(("members" : Str), x)] := by kernel_rfl
theorem put_s2 {a x : D} : putD "cut" x [(("members" : Str), a)] = [(("members" : Str), a), (("cut" : Str), x)] := by kernel_rfl
theorem put_s3 {a b x : D} : putD "capabilities" x [(("members" : Str), a), (("cut" : Str), b)] = [(("members" : Str), a), (("cut" : Str), b), (("capabilities" : Str), x)] := by kernel_rfl
theorem put_s4 {a b c x : D} : putD "kept" x [(("members" : Str), a), (("cut" : Str), b), (("capabilities" : Str), c)] = [(("members" : Str), a), (("cut" : Str), b), (("capabilities" : Str), c), (("kept" : Str), x)] := by kernel_rfl
theorem put_s5 {a b c d x : D} : putD "changes" x [(("members" : Str), a), (("cut" : Str), b), (("capabilities" : Str), c), (("kept" : Str), d)] = [(("members" : Str), a), (("cut" : Str), b), (("capabilities" : Str), c), (("kept" : Str), d), (("changes" : Str), x)] := by kernel_rfl
/-- a store: its members, what is cut away, the kept capabilities, what is kept of each space, each member's changes -/
structure StoreAt (C : Addr) (h : Hs) (n : Nat) (m : Int) (cut : List Int) (caps kept : List P) (chs : List (List P)) (I : List Nat) : Prop where
  ex : ∃ (i1 i2 i3 i4 : Nat) (js : List Nat), I = i1 :: i2 :: i3 :: i4 :: js ∧ h[n]? = some (some (.ins C (storeF m i1 i2 i3 i4))) ∧ h[i1]? = some (some (.lst (cut.map dI))) ∧ h[i2]? = some (some (.lst (caps.map D.p))) ∧ h[i3]? = some (some (.lst (kept.map D.p))) ∧
    h[i4]? = some (some (.lst (js.map D.own))) ∧ js.length = chs.length ∧ (∀ (k : Nat) (j : Nat) (cs : List P), js[k]? = some j → chs[k]? = some cs → h[j]? = some (some (.lst (cs.map D.p)))) ∧ (n :: i1 :: i2 :: i3 :: i4 :: js).Nodup
section
variable {Pg : Program} {w : World} {K : PySem.W.Frag} {Θ : List Addr} {mg : Str → Option Value} {base : Heap} {C CS CK : Addr}
abbrev st_kinit : Stmt := (inClass (topS 6) 0)
theorem sc_kinit : FnScope ["self", "acts", "sums", "texts", "pair", "cell", "characters"] ["self", "acts", "sums", "texts"] (defScope st_kinit) := ⟨rfl, rfl, rfl, by decide +kernel, rfl, by decide +kernel, by decide +kernel⟩
/-- nothing is kept -/
def W_kinit (C : Addr) : Spc := fun ds h R => ∃ n : Nat, ds = [.own n, dL [], dL [], dL []] ∧ h[n]? = some (some (.ins C [])) ∧ R dN (h.set n (some (.ins C ((keptF [] [] []).map fun q => (q.1, D.p q.2)))))
theorem ok_kinit (A : InitAt K C "Kept.__init__" st_kinit ["self", "acts", "sums", "texts"]) (T : KptC K mg C) (h_frozen : HasF Pg w K mg base CX0 9 "frozen" ["value"] (spD K Θ (W_frz 8))) : HasMk Pg w K mg base CX0 10 "Kept" C ["self", "acts", "sums", "texts"] (spD K Θ (W_kinit C)) := by
  have sc := sc_kinit
  refine A.okD T.mgC sc (W_kinit C) (fun ds h R ⟨_, e, _⟩ => by rw [e]; rfl) fun f cdv A outer s H E hr => ?_
  refine ⟨_, (pss_cons (ps_fld (pv 0) (pe_lc (own := [("pair", 4)]) rfl sc.nd (pi_seqK (K := K) (by rfl) (pv 1)) (blkOk_by (N := ["self", "acts", "sums", "texts", "pair", "cell", "characters"]) (sc := defScope (inClass (topS 6) 0)) (by decide +kernel)) (fun _ _ _ _ _ => (pg_name (i := 4) sc.nd rfl (.inl rfl))) (fun _ _ _ _ _ => pts_nil) (fun _ _ _ _ _ => (h_frozen.call (hr.mono (by first | decide | omega)) rfl pass0 (pa_cons (pv 4) pa_nil)))) rfl)
  (pss_cons (ps_fld (pv 0) (pe_lc (own := [("pair", 4)]) rfl sc.nd (pi_seqK (K := K) (by rfl) (pv 2)) (blkOk_by (N := ["self", "acts", "sums", "texts", "pair", "cell", "characters"]) (sc := defScope (inClass (topS 6) 0)) (by decide +kernel)) (fun _ _ _ _ _ => (pg_name (i := 4) sc.nd rfl (.inl rfl))) (fun _ _ _ _ _ => pts_nil) (fun _ _ _ _ _ => (h_frozen.call (hr.mono (by first | decide | omega)) rfl pass0 (pa_cons (pv 4) pa_nil)))) rfl)
  (pss_one (ps_fld (pv 0) (pe_lc (own := [("cell", 5), ("characters", 6)]) rfl sc.nd (pi_seqK (K := K) (by rfl) (pv 3)) (blkOk_by (N := ["self", "acts", "sums", "texts", "pair", "cell", "characters"]) (sc := defScope (inClass (topS 6) 0)) (by decide +kernel)) (fun _ _ _ _ _ => (pg_tupK (K := K) (n := 2) (by rfl) rfl (pgs_cons (pg_name (i := 5) sc.nd rfl (.inl rfl)) (pgs_cons (pg_name (i := 6) sc.nd rfl (.inl rfl)) pgs_nil)))) (fun _ _ _ _ _ => pts_nil) (fun _ _ _ _ _ => (pe_tup (pa_cons (h_frozen.call (hr.mono (by first | decide | omega)) rfl pass0 (pa_cons (pv 5) pa_nil)) (pa_cons (pe_lc (own := [("pair", 4)]) rfl sc.nd (pi_seqK (K := K) (by rfl) (pv 6)) (blkOk_by (N := ["self", "acts", "sums", "texts", "pair", "cell", "characters"]) (sc := { kind := .function, names := [(PySem.Str.ofString ".0", .local), (PySem.Str.ofString "cell", .local), (PySem.Str.ofString "characters", .local), (PySem.Str.ofString "frozen", .globalImplicit)], isGenerator := false, isCoroutine := false }) (by decide +kernel)) (fun _ _ _ _ _ => (pg_name (i := 4) sc.nd rfl (.inl rfl))) (fun _ _ _ _ _ => pts_nil) (fun _ _ _ _ _ => (h_frozen.call (hr.mono (by first | decide | omega)) rfl pass0 (pa_cons (pv 4) pa_nil)))) pa_nil))))) rfl)))), ?_⟩
  try dsimp only [cxOf]
  rintro ds h R ⟨n, rfl, hn, q⟩
  have il : n < h.length := (List.getElem?_eq_some_iff.mp hn).1
  have sz := sizeLine_eq
  refine vs_seq ?_
  refine vs_fld ?_
  refine ve_lcMap tg_name ?_
  refine vi_seqL ?_
  k_places
  refine ⟨[], rfl, [], rfl, by simp; omega, fun _ => trivial, fun i d y acc hd => by simp at hd, ?_⟩
  k_places
  refine ⟨n, C, [], rfl, hn, T.cl, T.n1, by decide, ?_⟩
  rw [put_k1]
  refine vs_seq ?_
  refine vs_fld ?_
  refine ve_lcMap tg_name ?_
  refine vi_seqL ?_
  k_places
  refine ⟨[], rfl, [], rfl, by simp; omega, fun _ => trivial, fun i d y acc hd => by simp at hd, ?_⟩
  k_places
  refine ⟨n, C, _, rfl, List.getElem?_set_self il, T.cl, T.n2, (by show 1 < 1000; decide), ?_⟩
  rw [put_k2, List.set_set]
  refine vs_fld ?_
  refine ve_lcMap tg_tup2 ?_
  refine vi_seqL ?_
  k_places
  refine ⟨[], rfl, [], rfl, by simp; omega, fun _ => trivial, fun i d y acc hd => by simp at hd, ?_⟩
  k_places
  refine ⟨n, C, _, rfl, List.getElem?_set_self il, T.cl, T.n3, (by show 2 < 1000; decide), ?_⟩
  rw [put_k3, List.set_set]
  exact q
abbrev st_sinit : Stmt := (inClass (topS 7) 0)
theorem sc_sinit : FnScope ["self", "members", "space", "member"] ["self", "members"] (defScope st_sinit) := ⟨rfl, rfl, rfl, by decide +kernel, rfl, by decide +kernel, by decide +kernel⟩
abbrev keptE (CK : Addr) : P := .ins CK (keptF [] [] [])
def W_sinit (C CK : Addr) : Spc := fun ds h R => ∃ (n : Nat) (m : Int), ds = [.own n, dI m] ∧ h[n]? = some (some (.ins C [])) ∧ 0 ≤ m ∧ m ≤ 1000 ∧
  ∀ h' I, StoreAt C h' n m (List.replicate m.toNat 0) [] (List.replicate 4 (keptE CK)) (List.replicate m.toNat []) I → (∀ i ∈ I, h.length ≤ i) → (∀ i, i ≠ n → i < h.length → h'[i]? = h[i]?) → h.length ≤ h'.length → R dN h'
theorem ok_sinit (A : InitAt K C "Store.__init__" st_sinit ["self", "members"]) (T : StoC K mg C) (TK : KptC K mg CK) (m_range : mg "range" = none) {tk : Tok} (g_SPACES : mg "SPACES" = some (.int 4 tk))
    (c_Kept : HasMk Pg w K mg base CX0 10 "Kept" CK ["self", "acts", "sums", "texts"] (spD K Θ (W_kinit CK))) : HasMk Pg w K mg base CX0 12 "Store" C ["self", "members"] (spD K Θ (W_sinit C CK)) := by
  have sc := sc_sinit
  refine A.okD T.mgC sc (W_sinit C CK) (fun ds h R ⟨_, _, e, _⟩ => by rw [e]; rfl) fun f cdv A outer s H E hr => ?_
  refine ⟨_, (pss_cons (ps_fld (pv 0) (pv 1) rfl)
  (pss_cons (ps_fld (pv 0) (pe_op op_rep (pe_lst (pa_cons pe_int pa_nil)) (pv 1)) rfl)
  (pss_cons (ps_fld (pv 0) (pe_lst pa_nil) rfl)
  (pss_cons (ps_fld (pv 0) (pe_lc (own := [("space", 2)]) rfl sc.nd (pi_range1 rfl m_range (pa_cons (pe_glob (v := .int 4) rfl g_SPACES ⟨_, rfl⟩) pa_nil)) (blkOk_by (N := ["self", "members", "space", "member"]) (sc := defScope (inClass (topS 7) 0)) (by decide +kernel)) (fun _ _ _ _ _ => (pg_name (i := 2) sc.nd rfl (.inl rfl))) (fun _ _ _ _ _ => pts_nil) (fun _ _ _ _ _ => (c_Kept.make (hr.mono (by first | decide | omega)) rfl pass0 (pa_cons (pe_lst pa_nil) (pa_cons (pe_lst pa_nil) (pa_cons (pe_lst pa_nil) pa_nil)))))) rfl)
  (pss_one (ps_fld (pv 0) (pe_lc (own := [("member", 3)]) rfl sc.nd (pi_range1 rfl m_range (pa_cons (pv 1) pa_nil)) (blkOk_by (N := ["self", "members", "space", "member"]) (sc := defScope (inClass (topS 7) 0)) (by decide +kernel)) (fun _ _ _ _ _ => (pg_name (i := 3) sc.nd rfl (.inl rfl))) (fun _ _ _ _ _ => pts_nil) (fun _ _ _ _ _ => (pe_lst pa_nil))) rfl)))))), ?_⟩
  try dsimp only [cxOf]
  rintro ds h R ⟨n, m, rfl, hn, m0, m1, q⟩
  have il : n < h.length := (List.getElem?_eq_some_iff.mp hn).1
  have sz := sizeLine_eq
  refine vs_seq ?_
  refine vs_fld ?_
  k_places
  refine ⟨n, C, [], rfl, hn, T.cl, T.n1, by decide, ?_⟩
  rw [put_s1]
  refine vs_seq ?_
  refine vs_fld ?_
  k_places
  refine ve_lstO ?_
  k_places
  refine ⟨by decide, ?_⟩
  k_places
  refine v2_repO (xs := [dI 0]) (by simp) (by omega) (by simp; omega) ?_
  k_places
  have L1 : (h.set n (some (.ins C [(("members" : Str), dI m)]))).length = h.length := List.length_set
  generalize e1 : h.set n (some (.ins C [(("members" : Str), dI m)])) = g1 at *
  have n1 : g1[n]? = some (some (.ins C [(("members" : Str), dI m)])) := by rw [← e1]; exact List.getElem?_set_self il
  have f1 : ∀ i, i ≠ n → i < h.length → g1[i]? = h[i]? := fun i hi _ => by rw [← e1, List.getElem?_set_ne (Ne.symm hi)]
  have ilg : n < g1.length := by omega
  refine ⟨n, C, _, rfl, by rw [List.getElem?_append_left (by simp; omega), List.getElem?_append_left (by omega)]; exact n1, T.cl, T.n2, (by show 1 < 1000; decide), ?_⟩
  rw [put_s2]
  generalize e2 : (g1 ++ [some (OO.lst [dI 0])] ++ [some (OO.lst (List.replicate m.toNat [dI 0]).flatten)]).set n (some (.ins C [(("members" : Str), dI m), ("cut", .own (g1 ++ [some (OO.lst [dI 0])]).length)])) = g2
  have L2 : g2.length = h.length + 2 := by rw [← e2, List.length_set, List.length_append, List.length_append, L1]; rfl
  have c2 : (g1 ++ [some (OO.lst [dI 0])]).length = h.length + 1 := by rw [List.length_append, L1]; rfl
  have n2 : g2[n]? = some (some (.ins C [(("members" : Str), dI m), ("cut", .own (h.length + 1))])) := by
    rw [← e2, c2]; exact List.getElem?_set_self (by rw [List.length_append, List.length_append]; omega)
  have k2 : g2[h.length + 1]? = some (some (.lst ((List.replicate m.toNat (0 : Int)).map dI))) := by
    rw [← e2, List.getElem?_set_ne (by omega), ← c2]
    simp
  have f2 : ∀ i, i ≠ n → i < h.length → g2[i]? = h[i]? := fun i hi hl => by
    rw [← e2, List.getElem?_set_ne (Ne.symm hi), List.getElem?_append_left (by rw [List.length_append]; omega), List.getElem?_append_left (by omega)]
    exact f1 i hi hl
  clear e2 e1
  refine vs_seq ?_
  refine vs_fld ?_
  refine ve_lstO ?_
  k_places
  refine ⟨by decide, ?_⟩
  k_places
  refine ⟨n, C, _, rfl, by rw [List.getElem?_append_left (by omega)]; exact n2, T.cl, T.n3, (by show 2 < 1000; decide), ?_⟩
  rw [put_s3]
  generalize e3 : (g2 ++ [some (OO.lst [])]).set n (some (.ins C [(("members" : Str), dI m), ("cut", .own (h.length + 1)), ("capabilities", .own g2.length)])) = g3
  have L3 : g3.length = h.length + 3 := by rw [← e3, List.length_set, List.length_append, L2]; rfl
  have n3 : g3[n]? = some (some (.ins C [(("members" : Str), dI m), ("cut", .own (h.length + 1)), ("capabilities", .own (h.length + 2))])) := by
    rw [← e3, ← L2]; exact List.getElem?_set_self (by rw [List.length_append]; omega)
  have k3 : g3[h.length + 2]? = some (some (.lst (([] : List P).map D.p))) := by
    rw [← e3, List.getElem?_set_ne (by omega), ← L2]
    simp
  have f3 : ∀ i, i ≠ n → i < h.length + 2 → g3[i]? = g2[i]? := fun i hi hl => by
    rw [← e3, List.getElem?_set_ne (Ne.symm hi), List.getElem?_append_left (by omega)]
  clear e3
  refine vs_seq ?_
  refine vs_fld ?_
  refine ve_lcW tg_name ?_
  refine vi_range1 ?_
  k_places
  refine ⟨4, rfl, by decide, by decide, ?_⟩
  refine ⟨fun i acc h' => acc = (List.replicate i (keptE CK)).map D.p ∧ h' = g3 ++ [some (.lst acc)], by rw [rng_len]; show 4 < sizeLine; omega, ⟨rfl, rfl⟩, ?_, ?_, ?_⟩
  · rintro i acc h' ⟨rfl, rfl⟩
    exact ⟨by simp, trivial⟩
  · rintro i d acc h' hd ⟨rfl, rfl⟩
    refine vg_name (vt_yes (ite_t ?_))
    refine ve_makeF ?_
    k_places
    refine ve_lst ?_
    k_places
    refine ve_lst ?_
    k_places
    refine ve_lst ?_
    k_places
    refine ⟨_, rfl, List.getElem?_concat_length, rfl, keptF [] [] [], by simp, ?_⟩
    refine ⟨by simp, ?_, by simp⟩
    rw [List.replicate_succ', List.map_append]
    rfl
  rintro acc h' ⟨rfl, rfl⟩
  rw [rng_len]
  k_places
  refine ⟨n, C, _, rfl, by rw [List.getElem?_append_left (by omega)]; exact n3, T.cl, T.n4, (by show 3 < 1000; decide), ?_⟩
  rw [put_s4]
  generalize e4 : (g3 ++ [some (OO.lst ((List.replicate (4 : Int).toNat (keptE CK)).map D.p))]).set n (some (.ins C [(("members" : Str), dI m), ("cut", .own (h.length + 1)), ("capabilities", .own (h.length + 2)), ("kept", .own g3.length)])) = g4
  have L4 : g4.length = h.length + 4 := by rw [← e4, List.length_set, List.length_append, L3]; rfl
  have n4 : g4[n]? = some (some (.ins C [(("members" : Str), dI m), ("cut", .own (h.length + 1)), ("capabilities", .own (h.length + 2)), ("kept", .own (h.length + 3))])) := by
    rw [← e4, ← L3]; exact List.getElem?_set_self (by rw [List.length_append]; omega)
  have k4 : g4[h.length + 3]? = some (some (.lst ((List.replicate 4 (keptE CK)).map D.p))) := by
    rw [← e4, List.getElem?_set_ne (by omega), ← L3]
    simp
  have f4 : ∀ i, i ≠ n → i < h.length + 3 → g4[i]? = g3[i]? := fun i hi hl => by
    rw [← e4, List.getElem?_set_ne (Ne.symm hi), List.getElem?_append_left (by omega)]
  clear e4
  refine vs_fld ?_
  refine ve_lcW tg_name ?_
  refine vi_range1 ?_
  k_places
  refine ⟨m, rfl, by omega, by omega, ?_⟩
  refine ⟨fun i acc h' => acc = (List.range' (h.length + 5) i).map D.own ∧ h' = g4 ++ [some (.lst acc)] ++ List.replicate i (some (.lst [])), by rw [rng_len]; omega, ⟨rfl, by simp⟩, ?_, ?_, ?_⟩
  · rintro i acc h' ⟨rfl, rfl⟩
    exact ⟨by rw [List.getElem?_append_left (by simp)]; simp, trivial⟩
  · rintro i d acc h' hd ⟨rfl, rfl⟩
    refine vg_name (vt_yes (ite_t ?_))
    refine ve_lstO ?_
    k_places
    have la : (g4 ++ [some (OO.lst ((List.range' (h.length + 5) i).map D.own))] ++ List.replicate i (some (OO.lst []))).length = h.length + 5 + i := by
      rw [List.length_append, List.length_append, L4, List.length_replicate]; rfl
    rw [la]
    refine ⟨by decide, ?_⟩
    have e5 : (List.range' (h.length + 5) i).map D.own ++ [D.own (h.length + 5 + i)] = (List.range' (h.length + 5) (i + 1)).map D.own := by
      rw [List.range'_1_concat, List.map_append]; rfl
    rw [e5]
    refine ⟨?_, rfl, ?_⟩
    · rw [List.append_assoc, List.append_assoc, List.getElem?_append_right (Nat.le_refl _), Nat.sub_self]
      rfl
    · rw [List.append_assoc, List.append_assoc, List.set_append_right _ _ (Nat.le_refl _), Nat.sub_self, List.replicate_succ', List.append_assoc]
      rfl
  rintro acc h' ⟨rfl, rfl⟩
  rw [rng_len]
  k_places
  have lg : (g4 ++ [some (OO.lst ((List.range' (h.length + 5) m.toNat).map D.own))] ++ List.replicate m.toNat (some (OO.lst []))).length = h.length + 5 + m.toNat := by
    rw [List.length_append, List.length_append, L4, List.length_replicate]; rfl
  refine ⟨n, C, _, rfl, by rw [List.append_assoc, List.getElem?_append_left (by omega)]; exact n4, T.cl, T.n5, (by show 4 < 1000; decide), ?_⟩
  rw [put_s5]
  have lo : ∀ i, i ≠ n → i < h.length + 4 → ∀ X, ((g4 ++ [some (OO.lst ((List.range' (h.length + 5) m.toNat).map D.own))] ++ List.replicate m.toNat (some (OO.lst []))).set n X)[i]? = g4[i]? := fun i hi hl X => by
    rw [List.getElem?_set_ne (Ne.symm hi), List.append_assoc, List.getElem?_append_left (by omega)]
  refine q _ ((h.length + 1) :: (h.length + 2) :: (h.length + 3) :: (h.length + 4) :: List.range' (h.length + 5) m.toNat) ⟨h.length + 1, h.length + 2, h.length + 3, h.length + 4, List.range' (h.length + 5) m.toNat, rfl, ?_, ?_, ?_, ?_, ?_, ?_, ?_, ?_⟩ ?_ ?_ ?_
  · rw [List.getElem?_set_self (by omega), ← L4]; rfl
  · rw [lo _ (by omega) (by omega), f4 _ (by omega) (by omega), f3 _ (by omega) (by omega)]; exact k2
  · rw [lo _ (by omega) (by omega), f4 _ (by omega) (by omega)]; exact k3
  · rw [lo _ (by omega) (by omega)]; exact k4
  · rw [List.getElem?_set_ne (by omega), List.append_assoc, List.getElem?_append_right (by omega), L4, Nat.sub_self]; rfl
  · simp
  · intro k j cs hj hc
    have hk : k < m.toNat := by
      have z := (List.getElem?_eq_some_iff.mp hj).1
      simpa using z
    rw [List.getElem?_range' hk] at hj
    rw [List.getElem?_replicate, if_pos hk] at hc
    cases hj; cases hc
    rw [List.getElem?_set_ne (by omega), List.getElem?_append_right (by rw [List.length_append, L4]; simp), List.length_append, L4, List.getElem?_replicate]
    rw [if_pos (by simp; omega)]
    rfl
  · simp only [List.nodup_cons, List.mem_cons, List.mem_range'_1]
    refine ⟨by omega, by omega, by omega, by omega, by omega, List.nodup_range'⟩
  · intro i hi
    simp only [List.mem_cons, List.mem_range'_1] at hi
    omega
  · intro i hi hl
    rw [lo i hi (by omega), f4 i hi (by omega), f3 i hi (by omega)]
    exact f2 i hi hl
  · rw [List.length_set, lg]; omega
end
end Law

namespace Law
open PySem PySem.Spec PyProof.Rows L2 Kb
-- the steps that are tried: k_clsL a side condition; k_subL one step; k_places steps as long as one fits
local macro_rules | `(tactic| k_clsL) => `(tactic| first | assumption | decide | omega)
local macro_rules | `(tactic| k_subL) => `(tactic| first
  | (with_reducible refine vs_seq ?_) | (with_reducible refine vs_asg ?_) | (with_reducible refine vg_name ?_) | (with_reducible refine vs_ret ?_) | (with_reducible refine vs_if ?_) | (with_reducible refine vs_next ?_) | (with_reducible refine vs_drop ?_)
  | (with_reducible refine vt_test ?_) | (with_reducible refine vt_B ?_) | (with_reducible refine vt_and ?_) | (with_reducible refine vt_or ?_) | (with_reducible refine vt_not ?_) | (with_reducible refine vt_truth ?_)
  | (with_reducible refine ve_op ?_) | (with_reducible refine ve_isi2 ?_) | ((with_reducible refine isi2_i (T := "tuple") ?hT ?hm ?hn ?_); (case hT => exact rfl); (case hm => decide); (case hn => decide)) | ((with_reducible refine isi2_i (T := "list") ?hT ?hm ?hn ?_); (case hT => exact rfl); (case hm => decide); (case hn => decide)) | ((with_reducible refine isi2_i (T := "int") ?hT ?hm ?hn ?_); (case hT => exact rfl); (case hm => decide); (case hn => decide)) | ((with_reducible refine isi2_i (T := "bool") ?hT ?hm ?hn ?_); (case hT => exact rfl); (case hm => decide); (case hn => decide)) | ((with_reducible refine isi2_i (T := "str") ?hT ?hm ?hn ?_); (case hT => exact rfl); (case hm => decide); (case hn => decide)) | ((with_reducible refine isi2_i (T := "NoneType") ?hT ?hm ?hn ?_); (case hT => exact rfl); (case hm => decide); (case hn => decide)) | (with_reducible refine ve_cb ?_) | (with_reducible refine va_cons ?_) | (with_reducible refine va_nil ?_) | (with_reducible refine ve_call ?_)
  | (with_reducible refine ve_int ?_) | (with_reducible refine ve_str ?_) | (with_reducible refine ve_bl ?_) | (with_reducible refine ve_non ?_) | (with_reducible refine ve_ty ?_)
  | (refine ve_var (by exact rfl) ?_)
  | (with_reducible refine ve_and ?_) | (with_reducible refine ve_or ?_) | (with_reducible refine ve_not ?_) | (with_reducible refine ve_chain ?_) | (with_reducible refine ve_un ?_) | (with_reducible refine ve_if ?_)
  | (with_reducible refine bool_ans ?_) | (with_reducible refine tru_bl ?_)
  | (with_reducible refine vc_intI ?_) | (with_reducible refine vc_intB ?_) | (with_reducible refine v2_addI ?_) | (with_reducible refine v2_sub ?_)
  | (with_reducible refine v2_lt ?_) | (with_reducible refine v2_le ?_) | (with_reducible refine v2_gt ?_) | (with_reducible refine v2_ge ?_)
  | (with_reducible refine v2_eqI ?_) | (with_reducible refine v2_eqS ?_) | (with_reducible refine v2_eqB ?_) | (with_reducible refine v2_neI ?_) | (with_reducible refine v2_neS ?_) | (with_reducible refine v2_neB ?_)
  | (with_reducible refine v2_isN ?_) | (with_reducible refine v2_notN ?_) | (with_reducible refine v2_isNU ?_) | ((with_reducible refine v2_isBl ?hx ?_); (case hx => exact rfl))
  | (with_reducible refine v2_addVI ?_) | (with_reducible refine v2_addWI ?_) | (with_reducible refine v2_ltI ?_) | (with_reducible refine v2_ltB ?_) | (with_reducible refine v2_ltS ?_)
  | ((with_reducible refine v2_divW ?hm ?_); case hm => (constructor <;> k_clsL))
  | ((with_reducible refine v2_mulU ?hm ?_); case hm => first | exact cmul_small (by k_clsL) (by k_clsL) | exact cmul_wide (by k_clsL) (by k_clsL))
  | ((with_reducible refine v2_mod ?hm ?_); case hm => k_clsL) | ((with_reducible refine v2_div ?hm ?_); case hm => (constructor <;> k_clsL))
  | ((with_reducible refine v2_mul ?hm ?_); case hm => first | exact cmul_small (by k_clsL) (by k_clsL) | exact cmul_wide (by k_clsL) (by k_clsL))
  | (with_reducible refine vc_abs ?_) | (with_reducible refine vc_min2 ?_) | (with_reducible refine vc_max2 ?_)
  | (with_reducible refine ve_tup ?_) | ((with_reducible refine tup_j ?hl ?_); (case hl => exact rfl))
  | ((with_reducible refine vc_isi (T := "tuple") ?hT ?hn ?_); (case hT => first | exact rfl | exact ⟨rfl, _, by first | assumption | simp⟩); (case hn => decide)) | ((with_reducible refine vc_isi (T := "list") ?hT ?hn ?_); (case hT => first | exact rfl | exact ⟨rfl, _, by first | assumption | simp⟩); (case hn => decide)) | ((with_reducible refine vc_isi (T := "int") ?hT ?hn ?_); (case hT => first | exact rfl | exact ⟨rfl, _, by first | assumption | simp⟩); (case hn => decide)) | ((with_reducible refine vc_isi (T := "bool") ?hT ?hn ?_); (case hT => first | exact rfl | exact ⟨rfl, _, by first | assumption | simp⟩); (case hn => decide)) | ((with_reducible refine vc_isi (T := "str") ?hT ?hn ?_); (case hT => first | exact rfl | exact ⟨rfl, _, by first | assumption | simp⟩); (case hn => decide)) | ((with_reducible refine vc_isi (T := "NoneType") ?hT ?hn ?_); (case hT => first | exact rfl | exact ⟨rfl, _, by first | assumption | simp⟩); (case hn => decide))
  | (with_reducible refine vc_lenL ?_) | (with_reducible refine vc_lenT ?_) | (with_reducible refine ite_nrefl ?_) | (with_reducible refine ite_refl ?_)
  | ((with_reducible refine ite_tt ?hc ?_); (case hc => first | decide | exact rfl)) | ((with_reducible refine ite_ff ?hc ?_); (case hc => first | decide | exact rfl))
  | (with_reducible refine v1_U ?_))
local macro_rules | `(tactic| k_places) => `(tactic| repeat k_subL)

/-- how many changes of a member count -/
def cntOf (cut : List Int) (chs : List (List P)) (k : Nat) : Int := (cut[k]?.getD 0) + ((chs[k]?.getD []).length : Nat)
def hasOf (cut : List Int) (chs : List (List P)) (a b : Int) : Bool := decide (0 ≤ a) && decide (a < (cut.length : Nat)) && decide (1 ≤ b) && decide (b ≤ cntOf cut chs a.toNat)
def findOf (cut : List Int) (chs : List (List P)) (a b : Int) : P :=
  if hasOf cut chs a b = true then (if b ≤ cut[a.toNat]?.getD 0 then .non else (chs[a.toNat]?.getD [])[(b - cut[a.toNat]?.getD 0 - 1).toNat]?.getD .non) else .non
/-- a store whose parts fit -/
structure StOk (m : Int) (cut : List Int) (chs : List (List P)) : Prop where
  m0 : 0 ≤ m
  cl : cut.length = m.toNat
  chl : chs.length = m.toNat
  pos : ∀ c ∈ cut, 0 ≤ c ∧ c < 2 ^ 60
  len : ∀ cs ∈ chs, cs.length < 1000000
section
variable {Pg : Program} {w : World} {K : PySem.W.Frag} {Θ : List Addr} {mg : Str → Option Value} {base : Heap} {C CS CK : Addr}
theorem StoreAt.members {h : Hs} {n : Nat} {m : Int} {cut : List Int} {caps kept : List P} {chs : List (List P)} {I : List Nat} (S : StoreAt C h n m cut caps kept chs I) : FldD "members" (.own n) h C (dI m) := by
  obtain ⟨i1, i2, i3, i4, js, _, h1, _⟩ := S.ex
  exact ⟨_, h1, by kernel_rfl⟩
theorem StoreAt.cut_ {h : Hs} {n : Nat} {m : Int} {cut : List Int} {caps kept : List P} {chs : List (List P)} {I : List Nat} (S : StoreAt C h n m cut caps kept chs I) : ∃ i, FldD "cut" (.own n) h C (.own i) ∧ h[i]? = some (some (.lst (cut.map dI))) := by
  obtain ⟨i1, i2, i3, i4, js, _, h1, h2, _⟩ := S.ex
  exact ⟨i1, ⟨_, h1, by kernel_rfl⟩, h2⟩
theorem StoreAt.changes_ {h : Hs} {n : Nat} {m : Int} {cut : List Int} {caps kept : List P} {chs : List (List P)} {I : List Nat} (S : StoreAt C h n m cut caps kept chs I) :
    ∃ (i : Nat) (js : List Nat), FldD "changes" (.own n) h C (.own i) ∧ h[i]? = some (some (.lst (js.map D.own))) ∧ js.length = chs.length ∧ ∀ (k : Nat) (cs : List P), chs[k]? = some cs → ∃ j, (js.map D.own)[k]? = some (.own j) ∧ h[j]? = some (some (.lst (cs.map D.p))) := by
  obtain ⟨i1, i2, i3, i4, js, _, h1, _, _, _, h5, h6, h7, _⟩ := S.ex
  refine ⟨i4, js, ⟨_, h1, by kernel_rfl⟩, h5, h6, fun k cs hc => ?_⟩
  have hk := (List.getElem?_eq_some_iff.mp hc).1
  rw [← h6] at hk
  exact ⟨js[k], by rw [List.getElem?_map, List.getElem?_eq_getElem hk]; rfl, h7 k _ cs (List.getElem?_eq_getElem hk) hc⟩
theorem StoreAt.ins {h : Hs} {n : Nat} {m : Int} {cut : List Int} {caps kept : List P} {chs : List (List P)} {I : List Nat} {x : Str} (S : StoreAt C h n m cut caps kept chs I) (e : ∀ m i1 i2 i3 i4, (storeF m i1 i2 i3 i4).lookup x = none) : InsD C x (.own n) h := by
  obtain ⟨i1, i2, i3, i4, js, _, h1, _⟩ := S.ex
  exact ⟨_, h1, e _ _ _ _ _⟩
theorem no_count {m : Int} {i1 i2 i3 i4 : Nat} : (storeF m i1 i2 i3 i4).lookup ("count" : Str) = none := by kernel_rfl
theorem no_has {m : Int} {i1 i2 i3 i4 : Nat} : (storeF m i1 i2 i3 i4).lookup ("has" : Str) = none := by kernel_rfl
theorem no_find {m : Int} {i1 i2 i3 i4 : Nat} : (storeF m i1 i2 i3 i4).lookup ("find" : Str) = none := by kernel_rfl
theorem no_add {m : Int} {i1 i2 i3 i4 : Nat} : (storeF m i1 i2 i3 i4).lookup ("add" : Str) = none := by kernel_rfl
abbrev st_scount : Stmt := (inClass (topS 7) 1)
theorem sc_scount : FnScope ["self", "member"] ["self", "member"] (defScope st_scount) := ⟨rfl, rfl, rfl, by decide +kernel, rfl, by decide +kernel, by decide +kernel⟩
def W_scount (C : Addr) : Spc := fun ds h R => ∃ (n : Nat) (m : Int) (cut : List Int) (caps kept : List P) (chs : List (List P)) (I : List Nat) (k : Int), ds = [.own n, dI k] ∧ StoreAt C h n m cut caps kept chs I ∧ StOk m cut chs ∧ 0 ≤ k ∧ k < m ∧ R (dI (cntOf cut chs k.toNat)) h
theorem ok_scount (A : MethAt K C "count" "Store.count" st_scount ["self", "member"]) (T : StoC K mg C) (m_len : mg "len" = none) : HasM Pg w K mg base CX0 1 C "count" ["self", "member"] (spD K Θ (W_scount C)) := by
  have sc := sc_scount
  refine A.okD T.cl sc (W_scount C) (fun ds h R ⟨_, _, _, _, _, _, _, _, e, _⟩ => by rw [e]; rfl) fun f cdv A outer s H E hr => ?_
  refine ⟨_, (pss_one (ps_ret (pe_op (op_addWK (K := K) (by rfl)) (pe_ix (ix_seqK (K := K) (by rfl)) (pe_fldK (K := K) (by rfl) (pv 0) rfl) (pv 1) (fun _ _ => rfl)) (pe_callB (call_lenK (K := K) (by rfl)) (by rfl) m_len (by decide +kernel) (pa_cons (pe_ix (ix_seqK (K := K) (by rfl)) (pe_fldK (K := K) (by rfl) (pv 0) rfl) (pv 1) (fun _ _ => rfl)) pa_nil))))), ?_⟩
  try dsimp only [cxOf]
  rintro ds h R ⟨n, m, cut, caps, kept, chs, I, k, rfl, S, ok, k0, k1, q⟩
  have hk : k.toNat < cut.length := by rw [ok.cl]; omega
  have hk2 : k.toNat < chs.length := by rw [ok.chl]; omega
  have q2 : R (dI (cut[k.toNat] + (chs[k.toNat].length : Nat))) h := by
    have e : cntOf cut chs k.toNat = cut[k.toNat] + (chs[k.toNat].length : Nat) := by
      unfold cntOf
      rw [List.getElem?_eq_getElem hk, List.getElem?_eq_getElem hk2]
      rfl
    rw [← e]
    exact q
  obtain ⟨i1, F1, g1⟩ := S.cut_
  obtain ⟨i4, js, F4, g4, jl, jh⟩ := S.changes_
  obtain ⟨j, hj, gj⟩ := jh k.toNat _ (List.getElem?_eq_getElem hk2)
  k_places
  refine ve_fld ?_
  k_places
  refine ⟨C, _, T.cl, T.n2, F1, ?_⟩
  k_places
  refine v2_ixO g1 (at_nat k.toNat (by omega) (by rw [List.getElem?_map, List.getElem?_eq_getElem hk]; rfl)) ?_
  k_places
  refine ve_fld ?_
  k_places
  refine ⟨C, _, T.cl, T.n5, F4, ?_⟩
  k_places
  refine v2_ixO g4 (at_nat k.toNat (by omega) hj) ?_
  k_places
  refine vc_lenO gj ?_
  k_places
  rw [List.length_map]
  exact q2
abbrev st_shas : Stmt := (inClass (topS 7) 4)
theorem sc_shas : FnScope ["self", "name", "author", "number"] ["self", "name"] (defScope st_shas) := ⟨rfl, rfl, rfl, by decide +kernel, rfl, by decide +kernel, by decide +kernel⟩
def W_shas (C : Addr) : Spc := fun ds h R => ∃ (n : Nat) (m : Int) (cut : List Int) (caps kept : List P) (chs : List (List P)) (I : List Nat) (a b : Int), ds = [.own n, dT [.int a, .int b]] ∧ StoreAt C h n m cut caps kept chs I ∧ StOk m cut chs ∧ R (dB (hasOf cut chs a b)) h
theorem ok_shas (A : MethAt K C "has" "Store.has" st_shas ["self", "name"]) (T : StoC K mg C) (h_Store_count : HasM Pg w K mg base CX0 1 C "count" ["self", "member"] (spD K Θ (W_scount C))) : HasM Pg w K mg base CX0 2 C "has" ["self", "name"] (spD K Θ (W_shas C)) := by
  have sc := sc_shas
  refine A.okD T.cl sc (W_shas C) (fun ds h R ⟨_, _, _, _, _, _, _, _, _, e, _⟩ => by rw [e]; rfl) fun f cdv A outer s H E hr => ?_
  refine ⟨_, (pss_cons (ps_asg (pv 1) (pg_tupK (K := K) (n := 2) (by rfl) rfl (pgs_cons (pg_name (i := 2) sc.nd rfl (.inl rfl)) (pgs_cons (pg_name (i := 3) sc.nd rfl (.inl rfl)) pgs_nil))))
  (pss_one (ps_ret (pe_and (pe_chain op_le op_lt pe_int (pv 2) (pe_fldK (K := K) (by rfl) (pv 0) rfl)) (pe_one (pe_chain op_le op_le pe_int (pv 3) (h_Store_count.meth (hr.mono (by first | decide | omega)) pass0 (pv 0) (pa_cons (pv 2) pa_nil)))))))), ?_⟩
  try dsimp only [cxOf]
  rintro ds h R ⟨n, m, cut, caps, kept, chs, I, a, b, rfl, S, ok, q⟩
  have ml : ((cut.length : Nat) : Int) = m := by rw [ok.cl]; have := ok.m0; omega
  unfold hasOf at q
  rw [ml] at q
  refine vs_seq ?_
  refine vs_asg ?_
  k_places
  refine vg_tup rfl (vgs_cons (vg_name (vgs_cons (vg_name (vgs_nil ?_)))))
  k_places
  refine ite_dec (fun e0 => ?_) (fun e0 => ?_)
  · rw [decide_eq_true e0, Bool.true_and] at q
    k_places
    refine ve_fld ?_
    k_places
    refine ⟨C, _, T.cl, T.n1, S.members, ?_⟩
    k_places
    refine ite_dec (fun e1 => ?_) (fun e1 => ?_)
    · rw [decide_eq_true e1, Bool.true_and] at q
      k_places
      refine ite_dec (fun e2 => ?_) (fun e2 => ?_)
      · rw [decide_eq_true e2, Bool.true_and] at q
        k_places
        refine ve_meth ?_
        k_places
        refine ⟨S.ins fun _ _ _ _ _ => no_count, ?_⟩
        k_places
        refine ⟨n, m, cut, caps, kept, chs, I, a, rfl, S, ok, e0, e1, ?_⟩
        k_places
        exact q
      · rw [decide_eq_false e2, Bool.false_and] at q
        exact q
    · rw [decide_eq_false e1, Bool.false_and, Bool.false_and] at q
      exact q
  · rw [decide_eq_false e0, Bool.false_and, Bool.false_and, Bool.false_and] at q
    k_places
    exact q
end
end Law

namespace Law
open PySem PySem.Spec PyProof.Rows L2 Kb
-- the steps that are tried: k_clsL a side condition; k_subL one step; k_places steps as long as one fits
local macro_rules | `(tactic| k_clsL) => `(tactic| first | assumption | decide | omega)
local macro_rules | `(tactic| k_subL) => `(tactic| first
  | (with_reducible refine vs_seq ?_) | (with_reducible refine vs_asg ?_) | (with_reducible refine vg_name ?_) | (with_reducible refine vs_ret ?_) | (with_reducible refine vs_if ?_) | (with_reducible refine vs_next ?_) | (with_reducible refine vs_drop ?_)
  | (with_reducible refine vt_test ?_) | (with_reducible refine vt_B ?_) | (with_reducible refine vt_and ?_) | (with_reducible refine vt_or ?_) | (with_reducible refine vt_not ?_) | (with_reducible refine vt_truth ?_)
  | (with_reducible refine ve_op ?_) | (with_reducible refine ve_isi2 ?_) | ((with_reducible refine isi2_i (T := "tuple") ?hT ?hm ?hn ?_); (case hT => exact rfl); (case hm => decide); (case hn => decide)) | ((with_reducible refine isi2_i (T := "list") ?hT ?hm ?hn ?_); (case hT => exact rfl); (case hm => decide); (case hn => decide)) | ((with_reducible refine isi2_i (T := "int") ?hT ?hm ?hn ?_); (case hT => exact rfl); (case hm => decide); (case hn => decide)) | ((with_reducible refine isi2_i (T := "bool") ?hT ?hm ?hn ?_); (case hT => exact rfl); (case hm => decide); (case hn => decide)) | ((with_reducible refine isi2_i (T := "str") ?hT ?hm ?hn ?_); (case hT => exact rfl); (case hm => decide); (case hn => decide)) | ((with_reducible refine isi2_i (T := "NoneType") ?hT ?hm ?hn ?_); (case hT => exact rfl); (case hm => decide); (case hn => decide)) | (with_reducible refine ve_cb ?_) | (with_reducible refine va_cons ?_) | (with_reducible refine va_nil ?_) | (with_reducible refine ve_call ?_)
  | (with_reducible refine ve_int ?_) | (with_reducible refine ve_str ?_) | (with_reducible refine ve_bl ?_) | (with_reducible refine ve_non ?_) | (with_reducible refine ve_ty ?_)
  | (refine ve_var (by exact rfl) ?_)
  | (with_reducible refine ve_and ?_) | (with_reducible refine ve_or ?_) | (with_reducible refine ve_not ?_) | (with_reducible refine ve_chain ?_) | (with_reducible refine ve_un ?_) | (with_reducible refine ve_if ?_)
  | (with_reducible refine bool_ans ?_) | (with_reducible refine tru_bl ?_)
  | (with_reducible refine vc_intI ?_) | (with_reducible refine vc_intB ?_) | (with_reducible refine v2_addI ?_) | (with_reducible refine v2_sub ?_)
  | (with_reducible refine v2_lt ?_) | (with_reducible refine v2_le ?_) | (with_reducible refine v2_gt ?_) | (with_reducible refine v2_ge ?_)
  | (with_reducible refine v2_eqI ?_) | (with_reducible refine v2_eqS ?_) | (with_reducible refine v2_eqB ?_) | (with_reducible refine v2_neI ?_) | (with_reducible refine v2_neS ?_) | (with_reducible refine v2_neB ?_)
  | (with_reducible refine v2_isN ?_) | (with_reducible refine v2_notN ?_) | (with_reducible refine v2_isNU ?_) | ((with_reducible refine v2_isBl ?hx ?_); (case hx => exact rfl))
  | (with_reducible refine v2_addVI ?_) | (with_reducible refine v2_addWI ?_) | (with_reducible refine v2_ltI ?_) | (with_reducible refine v2_ltB ?_) | (with_reducible refine v2_ltS ?_)
  | ((with_reducible refine v2_divW ?hm ?_); case hm => (constructor <;> k_clsL))
  | ((with_reducible refine v2_mulU ?hm ?_); case hm => first | exact cmul_small (by k_clsL) (by k_clsL) | exact cmul_wide (by k_clsL) (by k_clsL))
  | ((with_reducible refine v2_mod ?hm ?_); case hm => k_clsL) | ((with_reducible refine v2_div ?hm ?_); case hm => (constructor <;> k_clsL))
  | ((with_reducible refine v2_mul ?hm ?_); case hm => first | exact cmul_small (by k_clsL) (by k_clsL) | exact cmul_wide (by k_clsL) (by k_clsL))
  | (with_reducible refine vc_abs ?_) | (with_reducible refine vc_min2 ?_) | (with_reducible refine vc_max2 ?_)
  | (with_reducible refine ve_tup ?_) | ((with_reducible refine tup_j ?hl ?_); (case hl => exact rfl))
  | ((with_reducible refine vc_isi (T := "tuple") ?hT ?hn ?_); (case hT => first | exact rfl | exact ⟨rfl, _, by first | assumption | simp⟩); (case hn => decide)) | ((with_reducible refine vc_isi (T := "list") ?hT ?hn ?_); (case hT => first | exact rfl | exact ⟨rfl, _, by first | assumption | simp⟩); (case hn => decide)) | ((with_reducible refine vc_isi (T := "int") ?hT ?hn ?_); (case hT => first | exact rfl | exact ⟨rfl, _, by first | assumption | simp⟩); (case hn => decide)) | ((with_reducible refine vc_isi (T := "bool") ?hT ?hn ?_); (case hT => first | exact rfl | exact ⟨rfl, _, by first | assumption | simp⟩); (case hn => decide)) | ((with_reducible refine vc_isi (T := "str") ?hT ?hn ?_); (case hT => first | exact rfl | exact ⟨rfl, _, by first | assumption | simp⟩); (case hn => decide)) | ((with_reducible refine vc_isi (T := "NoneType") ?hT ?hn ?_); (case hT => first | exact rfl | exact ⟨rfl, _, by first | assumption | simp⟩); (case hn => decide))
  | (with_reducible refine vc_lenL ?_) | (with_reducible refine vc_lenT ?_) | (with_reducible refine ite_nrefl ?_) | (with_reducible refine ite_refl ?_)
  | ((with_reducible refine ite_tt ?hc ?_); (case hc => first | decide | exact rfl)) | ((with_reducible refine ite_ff ?hc ?_); (case hc => first | decide | exact rfl))
  | (with_reducible refine v1_U ?_))
local macro_rules | `(tactic| k_places) => `(tactic| repeat k_subL)

section
variable {Pg : Program} {w : World} {K : PySem.W.Frag} {Θ : List Addr} {mg : Str → Option Value} {base : Heap} {C CS CK CC : Addr}
theorem nodup_inj {xs : List Nat} (nd : xs.Nodup) {i j : Nat} (hi : i < xs.length) (hj : j < xs.length) (e : xs[i] = xs[j]) : i = j := by
  have z := List.pairwise_iff_getElem.mp nd
  rcases Nat.lt_trichotomy i j with c | c | c
  · exact absurd e (z i j hi hj c)
  · exact c
  · exact absurd e.symm (z j i hj hi c)
theorem hasOf_iff {cut : List Int} {chs : List (List P)} {a b : Int} (h : hasOf cut chs a b = true) : 0 ≤ a ∧ a < (cut.length : Nat) ∧ 1 ≤ b ∧ b ≤ cntOf cut chs a.toNat := by
  unfold hasOf at h
  simp only [Bool.and_eq_true, decide_eq_true_eq] at h
  exact ⟨h.1.1.1, h.1.1.2, h.1.2, h.2⟩
abbrev st_sfind : Stmt := (inClass (topS 7) 3)
theorem sc_sfind : FnScope ["self", "name", "author", "number"] ["self", "name"] (defScope st_sfind) := ⟨rfl, rfl, rfl, by decide +kernel, rfl, by decide +kernel, by decide +kernel⟩
def W_sfind (C : Addr) : Spc := fun ds h R => ∃ (n : Nat) (m : Int) (cut : List Int) (caps kept : List P) (chs : List (List P)) (I : List Nat) (a b : Int), ds = [.own n, dT [.int a, .int b]] ∧ StoreAt C h n m cut caps kept chs I ∧ StOk m cut chs ∧ R (.p (findOf cut chs a b)) h
theorem ok_sfind (A : MethAt K C "find" "Store.find" st_sfind ["self", "name"]) (T : StoC K mg C) (h_Store_has : HasM Pg w K mg base CX0 2 C "has" ["self", "name"] (spD K Θ (W_shas C))) : HasM Pg w K mg base CX0 3 C "find" ["self", "name"] (spD K Θ (W_sfind C)) := by
  have sc := sc_sfind
  refine A.okD T.cl sc (W_sfind C) (fun ds h R ⟨_, _, _, _, _, _, _, _, _, e, _⟩ => by rw [e]; rfl) fun f cdv A outer s H E hr => ?_
  refine ⟨_, (pss_cons (ps_asg (pv 1) (pg_tupK (K := K) (n := 2) (by rfl) rfl (pgs_cons (pg_name (i := 2) sc.nd rfl (.inl rfl)) (pgs_cons (pg_name (i := 3) sc.nd rfl (.inl rfl)) pgs_nil))))
  (pss_cons (ps_if (PW.pt (pw_or (pt_not (pt_val (h_Store_has.meth (hr.mono (by first | decide | omega)) pass0 (pv 0) (pa_cons (pv 1) pa_nil)))) (pw_or1 (pt_cmpR op_le (pv 3) (pe_ix (ix_seqK (K := K) (by rfl)) (pe_fldK (K := K) (by rfl) (pv 0) rfl) (pv 2) (fun _ _ => rfl)) (nomark _))))) (pss_one (ps_ret pe_non)) pss_nil)
  (pss_one (ps_ret (pe_ix (ix_seqK (K := K) (by rfl)) (pe_ix (ix_seqK (K := K) (by rfl)) (pe_fldK (K := K) (by rfl) (pv 0) rfl) (pv 2) (fun _ _ => rfl)) (pe_op op_sub (pe_op op_sub (pv 3) (pe_ix (ix_seqK (K := K) (by rfl)) (pe_fldK (K := K) (by rfl) (pv 0) rfl) (pv 2) (fun _ _ => rfl))) pe_int) (fun _ _ => rfl)))))), ?_⟩
  try dsimp only [cxOf]
  rintro ds h R ⟨n, m, cut, caps, kept, chs, I, a, b, rfl, S, ok, q⟩
  have ml : ((cut.length : Nat) : Int) = m := by rw [ok.cl]; have := ok.m0; omega
  refine vs_seq ?_
  refine vs_asg ?_
  k_places
  refine vg_tup rfl (vgs_cons (vg_name (vgs_cons (vg_name (vgs_nil ?_)))))
  k_places
  refine ve_meth ?_
  k_places
  refine ⟨S.ins fun _ _ _ _ _ => no_has, ?_⟩
  k_places
  refine ⟨n, m, cut, caps, kept, chs, I, a, b, rfl, S, ok, ?_⟩
  k_places
  unfold findOf at q
  refine ite_nb (fun e => ?_) (fun e => ?_)
  · rw [e, if_neg (by decide)] at q
    k_places
    exact q
  · obtain ⟨a0, a1, b0, b1⟩ := hasOf_iff e
    rw [e, if_pos rfl] at q
    have ha : a.toNat < cut.length := by omega
    have ha2 : a.toNat < chs.length := by rw [ok.chl, ← ok.cl]; exact ha
    unfold cntOf at b1
    rw [List.getElem?_eq_getElem ha, List.getElem?_eq_getElem ha2] at b1
    rw [List.getElem?_eq_getElem ha, List.getElem?_eq_getElem ha2] at q
    simp only [Option.getD_some] at q b1
    obtain ⟨i1, F1, g1⟩ := S.cut_
    obtain ⟨i4, js, F4, g4, jl, jh⟩ := S.changes_
    obtain ⟨j, hj, gj⟩ := jh a.toNat _ (List.getElem?_eq_getElem ha2)
    have hc : (cut.map dI)[a.toNat]? = some (dI cut[a.toNat]) := by rw [List.getElem?_map, List.getElem?_eq_getElem ha]; rfl
    k_places
    refine ve_fld ?_
    k_places
    refine ⟨C, _, T.cl, T.n2, F1, ?_⟩
    k_places
    refine v2_ixO g1 (at_nat a.toNat (by omega) hc) ?_
    k_places
    refine ite_dec (fun e2 => ?_) (fun e2 => ?_)
    · rw [if_pos e2] at q
      k_places
      exact q
    · rw [if_neg e2] at q
      have hb : (b - cut[a.toNat] - 1).toNat < chs[a.toNat].length := by omega
      rw [List.getElem?_eq_getElem hb] at q
      k_places
      refine ve_fld ?_
      k_places
      refine ⟨C, _, T.cl, T.n5, F4, ?_⟩
      k_places
      refine v2_ixO g4 (at_nat a.toNat (by omega) hj) ?_
      k_places
      refine ve_fld ?_
      k_places
      refine ⟨C, _, T.cl, T.n2, F1, ?_⟩
      k_places
      refine v2_ixO g1 (at_nat a.toNat (by omega) hc) ?_
      k_places
      refine v2_ixO gj (at_nat (b - cut[a.toNat] - 1).toNat (by omega) (by rw [List.getElem?_map, List.getElem?_eq_getElem hb]; rfl)) ?_
      exact q
abbrev st_sadd : Stmt := (inClass (topS 7) 6)
theorem sc_sadd : FnScope ["self", "change"] ["self", "change"] (defScope st_sadd) := ⟨rfl, rfl, rfl, by decide +kernel, rfl, by decide +kernel, by decide +kernel⟩
/-- the class Change: what is read of it -/
structure ChgC (K : PySem.W.Frag) (mg : Str → Option Value) (C : Addr) : Prop where
  cl : Cls K C
  n1 : NoAttr K C "author"
  n2 : NoAttr K C "number"
  n3 : NoAttr K C "heard"
  n4 : NoAttr K C "capability"
  n5 : NoAttr K C "publics"
  n6 : NoAttr K C "parts"
  mgC : mg "Change" = some (.ref C)
def chgF (a b : Int) (hd cp pb pt : P) : List (Str × P) := [("author", .int a), ("number", .int b), ("heard", hd), ("capability", cp), ("publics", pb), ("parts", pt)]
def W_sadd (C CC : Addr) : Spc := fun ds h R => ∃ (n : Nat) (m : Int) (cut : List Int) (caps kept : List P) (chs : List (List P)) (I : List Nat) (a b : Int) (hd cp pb pt : P), ds = [.own n, .p (.ins CC (chgF a b hd cp pb pt))] ∧ StoreAt C h n m cut caps kept chs I ∧ StOk m cut chs ∧ 0 ≤ a ∧ a < m ∧
  ∀ h', StoreAt C h' n m cut caps kept (chs.set a.toNat ((chs[a.toNat]?.getD []) ++ [.ins CC (chgF a b hd cp pb pt)])) I → (∀ i, i ∉ I → h'[i]? = h[i]?) → h'.length = h.length → R dN h'
theorem ok_sadd (A : MethAt K C "add" "Store.add" st_sadd ["self", "change"]) (T : StoC K mg C) (TC : ChgC K mg CC) : HasM Pg w K mg base CX0 1 C "add" ["self", "change"] (spD K Θ (W_sadd C CC)) := by
  have sc := sc_sadd
  refine A.okD T.cl sc (W_sadd C CC) (fun ds h R ⟨_, _, _, _, _, _, _, _, _, _, _, _, _, e, _⟩ => by rw [e]; rfl) fun f cdv A outer s H E hr => ?_
  refine ⟨_, (pss_one (ps_expr (pe_bm PySem.F.plainAttrs_list PySem.F.slot_list_append PySem.F.type_list_append mt_append (pe_ix (ix_seqK (K := K) (by rfl)) (pe_fldK (K := K) (by rfl) (pv 0) rfl) (pe_fldK (K := K) (by rfl) (pv 1) rfl) (fun _ _ => rfl)) (pa_cons (pv 1) pa_nil)))), ?_⟩
  try dsimp only [cxOf]
  rintro ds h R ⟨n, m, cut, caps, kept, chs, I, a, b, hd, cp, pb, pt, rfl, S, ok, a0, a1, q⟩
  have ha2 : a.toNat < chs.length := by rw [ok.chl]; omega
  obtain ⟨i1, i2, i3, i4, js, rfl, h1, h2, h3, h4, h5, h6, h7, nd⟩ := S.ex
  have hj : a.toNat < js.length := by rw [h6]; exact ha2
  have gj := h7 a.toNat _ _ (List.getElem?_eq_getElem hj) (List.getElem?_eq_getElem ha2)
  have l0 := ok.len _ (List.getElem_mem ha2)
  have sz := sizeLine_eq
  refine vs_drop ?_
  refine ve_bm ?_
  k_places
  refine ve_fld ?_
  k_places
  refine ⟨C, .own i4, T.cl, T.n5, ⟨_, h1, by kernel_rfl⟩, ?_⟩
  k_places
  refine ve_fld ?_
  k_places
  refine ⟨CC, dI a, TC.cl, TC.n1, ⟨rfl, by kernel_rfl⟩, ?_⟩
  k_places
  refine v2_ixO h5 (at_nat a.toNat (by omega) (by rw [List.getElem?_map, List.getElem?_eq_getElem hj]; rfl)) ?_
  refine ⟨⟨rfl, _, gj⟩, ?_⟩
  k_places
  refine vm_append gj (by rw [List.length_map]; omega) ?_
  have ne : ∀ i, i ≠ js[a.toNat] → ∀ X, (h.set js[a.toNat] X)[i]? = h[i]? := fun i hi X => List.getElem?_set_ne (Ne.symm hi)
  have mem := List.getElem_mem hj
  simp only [List.nodup_cons, List.mem_cons, not_or] at nd
  obtain ⟨⟨x1, x2, x3, x4, x5⟩, ⟨y1, y2, y3, y4⟩, ⟨z1, z2, z3⟩, ⟨u1, u2⟩, u3, u4⟩ := nd
  have off : ∀ {i : Nat}, i ∉ js → i ≠ js[a.toNat] := fun hi e => hi (by rw [e]; exact mem)
  refine q _ ⟨i1, i2, i3, i4, js, rfl, ?_, ?_, ?_, ?_, ?_, ?_, ?_, ?_⟩ ?_ List.length_set
  · rw [ne _ (off x5)]; exact h1
  · rw [ne _ (off y4)]; exact h2
  · rw [ne _ (off z3)]; exact h3
  · rw [ne _ (off u2)]; exact h4
  · rw [ne _ (off u3)]; exact h5
  · rw [List.length_set]; exact h6
  · intro k j cs hkj hcs
    by_cases e : k = a.toNat
    · subst e
      rw [List.getElem?_eq_getElem hj] at hkj
      cases hkj
      rw [List.getElem?_set_self ha2] at hcs
      cases hcs
      rw [List.getElem?_set_self (List.getElem?_eq_some_iff.mp gj).1, List.getElem?_eq_getElem ha2]
      simp
    · rw [List.getElem?_set_ne (Ne.symm e)] at hcs
      have nj : j ≠ js[a.toNat] := fun z => by
        have hk := (List.getElem?_eq_some_iff.mp hkj).1
        rw [List.getElem?_eq_getElem hk] at hkj
        have z2 : js[k] = js[a.toNat] := (Option.some.inj hkj).trans z
        exact e (nodup_inj u4 hk hj z2)
      rw [ne _ nj]
      exact h7 k j cs hkj hcs
  · simp only [List.nodup_cons, List.mem_cons, not_or]
    exact ⟨⟨x1, x2, x3, x4, x5⟩, ⟨y1, y2, y3, y4⟩, ⟨z1, z2, z3⟩, ⟨u1, u2⟩, u3, u4⟩
  · intro i hi
    exact ne _ (fun e => hi (by rw [e]; simp only [List.mem_cons]; exact .inr (.inr (.inr (.inr mem))))) _
end
end Law

namespace Law
open PySem PySem.Spec PyProof.Rows L2 Kb
-- the steps that are tried: k_clsL a side condition; k_subL one step; k_places steps as long as one fits
local macro_rules | `(tactic| k_clsL) => `(tactic| first | assumption | decide | omega)
local macro_rules | `(tactic| k_subL) => `(tactic| first
  | (with_reducible refine vs_seq ?_) | (with_reducible refine vs_asg ?_) | (with_reducible refine vg_name ?_) | (with_reducible refine vs_ret ?_) | (with_reducible refine vs_if ?_) | (with_reducible refine vs_next ?_) | (with_reducible refine vs_drop ?_)
  | (with_reducible refine vt_test ?_) | (with_reducible refine vt_B ?_) | (with_reducible refine vt_and ?_) | (with_reducible refine vt_or ?_) | (with_reducible refine vt_not ?_) | (with_reducible refine vt_truth ?_)
  | (with_reducible refine ve_op ?_) | (with_reducible refine ve_isi2 ?_) | ((with_reducible refine isi2_i (T := "tuple") ?hT ?hm ?hn ?_); (case hT => exact rfl); (case hm => decide); (case hn => decide)) | ((with_reducible refine isi2_i (T := "list") ?hT ?hm ?hn ?_); (case hT => exact rfl); (case hm => decide); (case hn => decide)) | ((with_reducible refine isi2_i (T := "int") ?hT ?hm ?hn ?_); (case hT => exact rfl); (case hm => decide); (case hn => decide)) | ((with_reducible refine isi2_i (T := "bool") ?hT ?hm ?hn ?_); (case hT => exact rfl); (case hm => decide); (case hn => decide)) | ((with_reducible refine isi2_i (T := "str") ?hT ?hm ?hn ?_); (case hT => exact rfl); (case hm => decide); (case hn => decide)) | ((with_reducible refine isi2_i (T := "NoneType") ?hT ?hm ?hn ?_); (case hT => exact rfl); (case hm => decide); (case hn => decide)) | (with_reducible refine ve_cb ?_) | (with_reducible refine va_cons ?_) | (with_reducible refine va_nil ?_) | (with_reducible refine ve_call ?_)
  | (with_reducible refine ve_int ?_) | (with_reducible refine ve_str ?_) | (with_reducible refine ve_bl ?_) | (with_reducible refine ve_non ?_) | (with_reducible refine ve_ty ?_)
  | (refine ve_var (by exact rfl) ?_)
  | (with_reducible refine ve_and ?_) | (with_reducible refine ve_or ?_) | (with_reducible refine ve_not ?_) | (with_reducible refine ve_chain ?_) | (with_reducible refine ve_un ?_) | (with_reducible refine ve_if ?_)
  | (with_reducible refine bool_ans ?_) | (with_reducible refine tru_bl ?_)
  | (with_reducible refine vc_intI ?_) | (with_reducible refine vc_intB ?_) | (with_reducible refine v2_addI ?_) | (with_reducible refine v2_sub ?_)
  | (with_reducible refine v2_lt ?_) | (with_reducible refine v2_le ?_) | (with_reducible refine v2_gt ?_) | (with_reducible refine v2_ge ?_)
  | (with_reducible refine v2_eqI ?_) | (with_reducible refine v2_eqS ?_) | (with_reducible refine v2_eqB ?_) | (with_reducible refine v2_neI ?_) | (with_reducible refine v2_neS ?_) | (with_reducible refine v2_neB ?_)
  | (with_reducible refine v2_isN ?_) | (with_reducible refine v2_notN ?_) | (with_reducible refine v2_isNU ?_) | ((with_reducible refine v2_isBl ?hx ?_); (case hx => exact rfl))
  | (with_reducible refine v2_addVI ?_) | (with_reducible refine v2_addWI ?_) | (with_reducible refine v2_ltI ?_) | (with_reducible refine v2_ltB ?_) | (with_reducible refine v2_ltS ?_)
  | ((with_reducible refine v2_divW ?hm ?_); case hm => (constructor <;> k_clsL))
  | ((with_reducible refine v2_mulU ?hm ?_); case hm => first | exact cmul_small (by k_clsL) (by k_clsL) | exact cmul_wide (by k_clsL) (by k_clsL))
  | ((with_reducible refine v2_mod ?hm ?_); case hm => k_clsL) | ((with_reducible refine v2_div ?hm ?_); case hm => (constructor <;> k_clsL))
  | ((with_reducible refine v2_mul ?hm ?_); case hm => first | exact cmul_small (by k_clsL) (by k_clsL) | exact cmul_wide (by k_clsL) (by k_clsL))
  | (with_reducible refine vc_abs ?_) | (with_reducible refine vc_min2 ?_) | (with_reducible refine vc_max2 ?_)
  | (with_reducible refine ve_tup ?_) | ((with_reducible refine tup_j ?hl ?_); (case hl => exact rfl))
  | ((with_reducible refine vc_isi (T := "tuple") ?hT ?hn ?_); (case hT => first | exact rfl | exact ⟨rfl, _, by first | assumption | simp⟩); (case hn => decide)) | ((with_reducible refine vc_isi (T := "list") ?hT ?hn ?_); (case hT => first | exact rfl | exact ⟨rfl, _, by first | assumption | simp⟩); (case hn => decide)) | ((with_reducible refine vc_isi (T := "int") ?hT ?hn ?_); (case hT => first | exact rfl | exact ⟨rfl, _, by first | assumption | simp⟩); (case hn => decide)) | ((with_reducible refine vc_isi (T := "bool") ?hT ?hn ?_); (case hT => first | exact rfl | exact ⟨rfl, _, by first | assumption | simp⟩); (case hn => decide)) | ((with_reducible refine vc_isi (T := "str") ?hT ?hn ?_); (case hT => first | exact rfl | exact ⟨rfl, _, by first | assumption | simp⟩); (case hn => decide)) | ((with_reducible refine vc_isi (T := "NoneType") ?hT ?hn ?_); (case hT => first | exact rfl | exact ⟨rfl, _, by first | assumption | simp⟩); (case hn => decide))
  | (with_reducible refine vc_lenL ?_) | (with_reducible refine vc_lenT ?_) | (with_reducible refine ite_nrefl ?_) | (with_reducible refine ite_refl ?_)
  | ((with_reducible refine ite_tt ?hc ?_); (case hc => first | decide | exact rfl)) | ((with_reducible refine ite_ff ?hc ?_); (case hc => first | decide | exact rfl))
  | (with_reducible refine v1_U ?_))
local macro_rules | `(tactic| k_places) => `(tactic| repeat k_subL)

theorem put_c1 {x : D} : putD "author" x [] = [(("author" : Str), x)] := by kernel_rfl
theorem put_c2 {a x : D} : putD "number" x [(("author" : Str), a)] = [(("author" : Str), a), (("number" : Str), x)] := by kernel_rfl
theorem put_c3 {a b x : D} : putD "heard" x [(("author" : Str), a), (("number" : Str), b)] = [(("author" : Str), a), (("number" : Str), b), (("heard" : Str), x)] := by kernel_rfl
theorem put_c4 {a b c x : D} : putD "capability" x [(("author" : Str), a), (("number" : Str), b), (("heard" : Str), c)] = [(("author" : Str), a), (("number" : Str), b), (("heard" : Str), c), (("capability" : Str), x)] := by kernel_rfl
theorem put_c5 {a b c d x : D} : putD "publics" x [(("author" : Str), a), (("number" : Str), b), (("heard" : Str), c), (("capability" : Str), d)] = [(("author" : Str), a), (("number" : Str), b), (("heard" : Str), c), (("capability" : Str), d), (("publics" : Str), x)] := by kernel_rfl
theorem put_c6 {a b c d e x : D} : putD "parts" x [(("author" : Str), a), (("number" : Str), b), (("heard" : Str), c), (("capability" : Str), d), (("publics" : Str), e)] = [(("author" : Str), a), (("number" : Str), b), (("heard" : Str), c), (("capability" : Str), d), (("publics" : Str), e), (("parts" : Str), x)] := by kernel_rfl
section
variable {Pg : Program} {w : World} {K : PySem.W.Frag} {Θ : List Addr} {mg : Str → Option Value} {base : Heap} {C CS CK CC : Addr}
abbrev st_cinit : Stmt := (inClass (topS 2) 0)
theorem sc_cinit : FnScope ["self", "author", "number", "heard", "capability", "publics", "parts"] ["self", "author", "number", "heard", "capability", "publics", "parts"] (defScope st_cinit) := ⟨rfl, rfl, rfl, by decide +kernel, rfl, by decide +kernel, by decide +kernel⟩
def W_cinit (C : Addr) : Spc := fun ds h R => ∃ (n : Nat) (a b : Int) (hd cp pb pt : P), ds = [.own n, dI a, dI b, .p hd, .p cp, .p pb, .p pt] ∧ h[n]? = some (some (.ins C [])) ∧ Deep 7 hd ∧ Deep 7 pb ∧ Deep 7 pt ∧
  R dN (h.set n (some (.ins C ((chgF a b (frzP hd) cp (frzP pb) (frzP pt)).map fun q => (q.1, D.p q.2)))))
theorem ok_cinit (A : InitAt K C "Change.__init__" st_cinit ["self", "author", "number", "heard", "capability", "publics", "parts"]) (T : ChgC K mg C) (h_frozen : HasF Pg w K mg base CX0 9 "frozen" ["value"] (spD K Θ (W_frz 8))) : HasMk Pg w K mg base CX0 10 "Change" C ["self", "author", "number", "heard", "capability", "publics", "parts"] (spD K Θ (W_cinit C)) := by
  have sc := sc_cinit
  refine A.okD T.mgC sc (W_cinit C) (fun ds h R ⟨_, _, _, _, _, _, _, e, _⟩ => by rw [e]; rfl) fun f cdv A outer s H E hr => ?_
  refine ⟨_, (pss_cons (ps_fld (pv 0) (pv 1) rfl)
  (pss_cons (ps_fld (pv 0) (pv 2) rfl)
  (pss_cons (ps_fld (pv 0) (h_frozen.call (hr.mono (by first | decide | omega)) rfl pass0 (pa_cons (pv 3) pa_nil)) rfl)
  (pss_cons (ps_fld (pv 0) (pv 4) rfl)
  (pss_cons (ps_fld (pv 0) (h_frozen.call (hr.mono (by first | decide | omega)) rfl pass0 (pa_cons (pv 5) pa_nil)) rfl)
  (pss_one (ps_fld (pv 0) (h_frozen.call (hr.mono (by first | decide | omega)) rfl pass0 (pa_cons (pv 6) pa_nil)) rfl))))))), ?_⟩
  try dsimp only [cxOf]
  rintro ds h R ⟨n, a, b, hd, cp, pb, pt, rfl, hn, d1, d2, d3, q⟩
  have il : n < h.length := (List.getElem?_eq_some_iff.mp hn).1
  refine vs_seq ?_
  refine vs_fld ?_
  k_places
  refine ⟨n, C, [], rfl, hn, T.cl, T.n1, by decide, ?_⟩
  rw [put_c1]
  refine vs_seq ?_
  refine vs_fld ?_
  k_places
  refine ⟨n, C, _, rfl, List.getElem?_set_self il, T.cl, T.n2, (by show 1 < 1000; decide), ?_⟩
  rw [put_c2, List.set_set]
  refine vs_seq ?_
  refine vs_fld ?_
  k_places
  refine ⟨hd, rfl, d1, ?_⟩
  k_places
  refine ⟨n, C, _, rfl, List.getElem?_set_self il, T.cl, T.n3, (by show 2 < 1000; decide), ?_⟩
  rw [put_c3, List.set_set]
  refine vs_seq ?_
  refine vs_fld ?_
  k_places
  refine ⟨n, C, _, rfl, List.getElem?_set_self il, T.cl, T.n4, (by show 3 < 1000; decide), ?_⟩
  rw [put_c4, List.set_set]
  refine vs_seq ?_
  refine vs_fld ?_
  k_places
  refine ⟨pb, rfl, d2, ?_⟩
  k_places
  refine ⟨n, C, _, rfl, List.getElem?_set_self il, T.cl, T.n5, (by show 4 < 1000; decide), ?_⟩
  rw [put_c5, List.set_set]
  refine vs_fld ?_
  k_places
  refine ⟨pt, rfl, d3, ?_⟩
  k_places
  refine ⟨n, C, _, rfl, List.getElem?_set_self il, T.cl, T.n6, (by show 5 < 1000; decide), ?_⟩
  rw [put_c6, List.set_set]
  exact q
abbrev st_chead : Stmt := (inClass (topS 2) 2)
theorem sc_chead : FnScope ["self"] ["self"] (defScope st_chead) := ⟨rfl, rfl, rfl, by decide +kernel, rfl, by decide +kernel, by decide +kernel⟩
def W_chead (C : Addr) : Spc := fun ds h R => ∃ (a b : Int) (hd cp pb pt : P), ds = [.p (.ins C (chgF a b hd cp pb pt))] ∧ R (dT [.int a, .int b, hd, cp, pb]) h
theorem ok_chead (A : MethAt K C "header" "Change.header" st_chead ["self"]) (T : ChgC K mg C) : HasM Pg w K mg base CX0 1 C "header" ["self"] (spD K Θ (W_chead C)) := by
  have sc := sc_chead
  refine A.okD T.cl sc (W_chead C) (fun ds h R ⟨_, _, _, _, _, _, e, _⟩ => by rw [e]; rfl) fun f cdv A outer s H E hr => ?_
  refine ⟨_, (pss_one (ps_ret (pe_tup (pa_cons (pe_fldK (K := K) (by rfl) (pv 0) rfl) (pa_cons (pe_fldK (K := K) (by rfl) (pv 0) rfl) (pa_cons (pe_fldK (K := K) (by rfl) (pv 0) rfl) (pa_cons (pe_fldK (K := K) (by rfl) (pv 0) rfl) (pa_cons (pe_fldK (K := K) (by rfl) (pv 0) rfl) pa_nil)))))))), ?_⟩
  try dsimp only [cxOf]
  rintro ds h R ⟨a, b, hd, cp, pb, pt, rfl, q⟩
  k_places
  refine ve_fld ?_
  k_places
  refine ⟨C, dI a, T.cl, T.n1, ⟨rfl, by kernel_rfl⟩, ?_⟩
  k_places
  refine ve_fld ?_
  k_places
  refine ⟨C, dI b, T.cl, T.n2, ⟨rfl, by kernel_rfl⟩, ?_⟩
  k_places
  refine ve_fld ?_
  k_places
  refine ⟨C, .p hd, T.cl, T.n3, ⟨rfl, by kernel_rfl⟩, ?_⟩
  k_places
  refine ve_fld ?_
  k_places
  refine ⟨C, .p cp, T.cl, T.n4, ⟨rfl, by kernel_rfl⟩, ?_⟩
  k_places
  refine ve_fld ?_
  k_places
  refine ⟨C, .p pb, T.cl, T.n5, ⟨rfl, by kernel_rfl⟩, ?_⟩
  k_places
  exact q
abbrev st_kdata : Stmt := (inClass (topS 6) 1)
theorem sc_kdata : FnScope ["self"] ["self"] (defScope st_kdata) := ⟨rfl, rfl, rfl, by decide +kernel, rfl, by decide +kernel, by decide +kernel⟩
def W_kdata (C : Addr) : Spc := fun ds h R => ∃ (as ss ts : List P), ds = [.p (.ins C (keptF as ss ts))] ∧ Deep 7 (.lst as) ∧ Deep 7 (.lst ss) ∧ Deep 7 (.lst ts) ∧ R (dT [frzP (.lst as), frzP (.lst ss), frzP (.lst ts)]) h
theorem ok_kdata (A : MethAt K C "data" "Kept.data" st_kdata ["self"]) (T : KptC K mg C) (h_frozen : HasF Pg w K mg base CX0 9 "frozen" ["value"] (spD K Θ (W_frz 8))) : HasM Pg w K mg base CX0 10 C "data" ["self"] (spD K Θ (W_kdata C)) := by
  have sc := sc_kdata
  refine A.okD T.cl sc (W_kdata C) (fun ds h R ⟨_, _, _, e, _⟩ => by rw [e]; rfl) fun f cdv A outer s H E hr => ?_
  refine ⟨_, (pss_one (ps_ret (pe_tup (pa_cons (h_frozen.call (hr.mono (by first | decide | omega)) rfl pass0 (pa_cons (pe_fldK (K := K) (by rfl) (pv 0) rfl) pa_nil)) (pa_cons (h_frozen.call (hr.mono (by first | decide | omega)) rfl pass0 (pa_cons (pe_fldK (K := K) (by rfl) (pv 0) rfl) pa_nil)) (pa_cons (h_frozen.call (hr.mono (by first | decide | omega)) rfl pass0 (pa_cons (pe_fldK (K := K) (by rfl) (pv 0) rfl) pa_nil)) pa_nil)))))), ?_⟩
  try dsimp only [cxOf]
  rintro ds h R ⟨as, ss, ts, rfl, d1, d2, d3, q⟩
  k_places
  refine ve_fld ?_
  k_places
  refine ⟨C, dL as, T.cl, T.n1, ⟨rfl, by kernel_rfl⟩, ?_⟩
  k_places
  refine ⟨.lst as, rfl, d1, ?_⟩
  k_places
  refine ve_fld ?_
  k_places
  refine ⟨C, dL ss, T.cl, T.n2, ⟨rfl, by kernel_rfl⟩, ?_⟩
  k_places
  refine ⟨.lst ss, rfl, d2, ?_⟩
  k_places
  refine ve_fld ?_
  k_places
  refine ⟨C, dL ts, T.cl, T.n3, ⟨rfl, by kernel_rfl⟩, ?_⟩
  k_places
  refine ⟨.lst ts, rfl, d3, ?_⟩
  k_places
  exact q
end
end Law

namespace Law
open PySem PySem.Spec PyProof.Rows L2 Kb
-- the steps that are tried: k_clsL a side condition; k_subL one step; k_places steps as long as one fits
local macro_rules | `(tactic| k_clsL) => `(tactic| first | assumption | decide | omega)
local macro_rules | `(tactic| k_subL) => `(tactic| first
  | (with_reducible refine vs_seq ?_) | (with_reducible refine vs_asg ?_) | (with_reducible refine vg_name ?_) | (with_reducible refine vs_ret ?_) | (with_reducible refine vs_if ?_) | (with_reducible refine vs_next ?_) | (with_reducible refine vs_drop ?_)
  | (with_reducible refine vt_test ?_) | (with_reducible refine vt_B ?_) | (with_reducible refine vt_and ?_) | (with_reducible refine vt_or ?_) | (with_reducible refine vt_not ?_) | (with_reducible refine vt_truth ?_)
  | (with_reducible refine ve_op ?_) | (with_reducible refine ve_isi2 ?_) | ((with_reducible refine isi2_i (T := "tuple") ?hT ?hm ?hn ?_); (case hT => exact rfl); (case hm => decide); (case hn => decide)) | ((with_reducible refine isi2_i (T := "list") ?hT ?hm ?hn ?_); (case hT => exact rfl); (case hm => decide); (case hn => decide)) | ((with_reducible refine isi2_i (T := "int") ?hT ?hm ?hn ?_); (case hT => exact rfl); (case hm => decide); (case hn => decide)) | ((with_reducible refine isi2_i (T := "bool") ?hT ?hm ?hn ?_); (case hT => exact rfl); (case hm => decide); (case hn => decide)) | ((with_reducible refine isi2_i (T := "str") ?hT ?hm ?hn ?_); (case hT => exact rfl); (case hm => decide); (case hn => decide)) | ((with_reducible refine isi2_i (T := "NoneType") ?hT ?hm ?hn ?_); (case hT => exact rfl); (case hm => decide); (case hn => decide)) | (with_reducible refine ve_cb ?_) | (with_reducible refine va_cons ?_) | (with_reducible refine va_nil ?_) | (with_reducible refine ve_call ?_)
  | (with_reducible refine ve_int ?_) | (with_reducible refine ve_str ?_) | (with_reducible refine ve_bl ?_) | (with_reducible refine ve_non ?_) | (with_reducible refine ve_ty ?_)
  | (refine ve_var (by exact rfl) ?_)
  | (with_reducible refine ve_and ?_) | (with_reducible refine ve_or ?_) | (with_reducible refine ve_not ?_) | (with_reducible refine ve_chain ?_) | (with_reducible refine ve_un ?_) | (with_reducible refine ve_if ?_)
  | (with_reducible refine bool_ans ?_) | (with_reducible refine tru_bl ?_)
  | (with_reducible refine vc_intI ?_) | (with_reducible refine vc_intB ?_) | (with_reducible refine v2_addI ?_) | (with_reducible refine v2_sub ?_)
  | (with_reducible refine v2_lt ?_) | (with_reducible refine v2_le ?_) | (with_reducible refine v2_gt ?_) | (with_reducible refine v2_ge ?_)
  | (with_reducible refine v2_eqI ?_) | (with_reducible refine v2_eqS ?_) | (with_reducible refine v2_eqB ?_) | (with_reducible refine v2_neI ?_) | (with_reducible refine v2_neS ?_) | (with_reducible refine v2_neB ?_)
  | (with_reducible refine v2_isN ?_) | (with_reducible refine v2_notN ?_) | (with_reducible refine v2_isNU ?_) | ((with_reducible refine v2_isBl ?hx ?_); (case hx => exact rfl))
  | (with_reducible refine v2_addVI ?_) | (with_reducible refine v2_addWI ?_) | (with_reducible refine v2_ltI ?_) | (with_reducible refine v2_ltB ?_) | (with_reducible refine v2_ltS ?_)
  | ((with_reducible refine v2_divW ?hm ?_); case hm => (constructor <;> k_clsL))
  | ((with_reducible refine v2_mulU ?hm ?_); case hm => first | exact cmul_small (by k_clsL) (by k_clsL) | exact cmul_wide (by k_clsL) (by k_clsL))
  | ((with_reducible refine v2_mod ?hm ?_); case hm => k_clsL) | ((with_reducible refine v2_div ?hm ?_); case hm => (constructor <;> k_clsL))
  | ((with_reducible refine v2_mul ?hm ?_); case hm => first | exact cmul_small (by k_clsL) (by k_clsL) | exact cmul_wide (by k_clsL) (by k_clsL))
  | (with_reducible refine vc_abs ?_) | (with_reducible refine vc_min2 ?_) | (with_reducible refine vc_max2 ?_)
  | (with_reducible refine ve_tup ?_) | ((with_reducible refine tup_j ?hl ?_); (case hl => exact rfl))
  | ((with_reducible refine vc_isi (T := "tuple") ?hT ?hn ?_); (case hT => first | exact rfl | exact ⟨rfl, _, by first | assumption | simp⟩); (case hn => decide)) | ((with_reducible refine vc_isi (T := "list") ?hT ?hn ?_); (case hT => first | exact rfl | exact ⟨rfl, _, by first | assumption | simp⟩); (case hn => decide)) | ((with_reducible refine vc_isi (T := "int") ?hT ?hn ?_); (case hT => first | exact rfl | exact ⟨rfl, _, by first | assumption | simp⟩); (case hn => decide)) | ((with_reducible refine vc_isi (T := "bool") ?hT ?hn ?_); (case hT => first | exact rfl | exact ⟨rfl, _, by first | assumption | simp⟩); (case hn => decide)) | ((with_reducible refine vc_isi (T := "str") ?hT ?hn ?_); (case hT => first | exact rfl | exact ⟨rfl, _, by first | assumption | simp⟩); (case hn => decide)) | ((with_reducible refine vc_isi (T := "NoneType") ?hT ?hn ?_); (case hT => first | exact rfl | exact ⟨rfl, _, by first | assumption | simp⟩); (case hn => decide))
  | (with_reducible refine vc_lenL ?_) | (with_reducible refine vc_lenT ?_) | (with_reducible refine ite_nrefl ?_) | (with_reducible refine ite_refl ?_)
  | ((with_reducible refine ite_tt ?hc ?_); (case hc => first | decide | exact rfl)) | ((with_reducible refine ite_ff ?hc ?_); (case hc => first | decide | exact rfl))
  | (with_reducible refine v1_U ?_))
local macro_rules | `(tactic| k_places) => `(tactic| repeat k_subL)

/-- what is kept of a space, or that nothing is known -/
def keptP (CK : Addr) : Option (List P × List P × List P) → P
  | none => .non
  | some (a, s, t) => .ins CK (keptF a s t)
def keptOk : Option (List P × List P × List P) → Prop
  | none => True
  | some (a, s, t) => Deep 7 (.lst a) ∧ Deep 7 (.lst s) ∧ Deep 7 (.lst t)
def keptD : Option (List P × List P × List P) → P
  | none => .non
  | some (a, s, t) => .tup [frzP (.lst a), frzP (.lst s), frzP (.lst t)]
structure Chg where
  a : Int
  b : Int
  hd : P
  cp : P
  pb : P
  pt : P
def chgP (CC : Addr) (c : Chg) : P := .ins CC (chgF c.a c.b c.hd c.cp c.pb c.pt)
def chgD (c : Chg) : P := .tup [.int c.a, .int c.b, c.hd, c.cp, c.pb, c.pt]
structure ChgOk (c : Chg) : Prop where
  hd : Deep 4 c.hd
  cp : Deep 4 c.cp
  pb : Deep 4 c.pb
  pt : Deep 4 c.pt
theorem chgD_deep {c : Chg} (h : ChgOk c) : Deep 5 (chgD c) := Deep.tup (n := 4) (xs := [.int c.a, .int c.b, c.hd, c.cp, c.pb, c.pt]) (by show 6 < 1000000; decide) fun x hx => by
  simp only [List.mem_cons, List.mem_nil_iff, or_false] at hx
  rcases hx with rfl | rfl | rfl | rfl | rfl | rfl
  · exact .int
  · exact .int
  · exact h.hd
  · exact h.cp
  · exact h.pb
  · exact h.pt
section
variable {Pg : Program} {w : World} {K : PySem.W.Frag} {Θ : List Addr} {mg : Str → Option Value} {base : Heap} {C CS CK CC : Addr}
/-- asked about an own list -/
def W_frzO : Spc := fun ds h R => ∃ (m : Nat) (xs : List P), ds = [.own m] ∧ h[m]? = some (some (.lst (xs.map D.p))) ∧ xs.length < 1000000 ∧ (∀ x ∈ xs, Deep 6 x) ∧ R (.p (.tup (xs.map frzP))) h
theorem ok_frzO (A : DefAt K mg "frozen" st_frz ["value"]) (m_list : mg "list" = none) (m_tuple : mg "tuple" = none) (m_isinstance : mg "isinstance" = none) : HasF Pg w K mg base CX0 9 "frozen" ["value"] (spD K Θ W_frzO) := by
  have sc := sc_frz
  have sz := sizeLine_eq
  have h_frozen := ok_frz (Pg := Pg) (w := w) (base := base) (Θ := Θ) A m_list m_tuple m_isinstance 7
  refine A.okD sc W_frzO (fun ds h R ⟨_, _, e, _⟩ => by rw [e]; rfl) fun f cdv A outer s H E hr => ?_
  refine ⟨_, (pss_cons (ps_if (pt_val (pe_callB (call_isiUK (K := K) (by rfl)) (by rfl) m_isinstance (by decide +kernel) (pa_cons (pv 0) (pa_cons (pe_tup (pa_cons (pe_bltn (v := .ty "list") rfl m_list (by decide +kernel) rfl) (pa_cons (pe_bltn (v := .ty "tuple") rfl m_tuple (by decide +kernel) rfl) pa_nil))) pa_nil)))) (pss_one (ps_ret (pe_callTy (call_tuple_ofK (K := K) (by rfl)) (by rfl) m_tuple (by decide +kernel) (pa_cons (pe_lc (own := [("item", 1)]) rfl sc.nd (pi_seqK (K := K) (by rfl) (pv 0)) (blkOk_by (N := ["value", "item"]) (sc := defScope (topS 3)) (by decide +kernel)) (fun _ _ _ _ _ => (pg_name (i := 1) sc.nd rfl (.inl rfl))) (fun _ _ _ _ _ => pts_nil) (fun _ _ _ _ _ => (h_frozen.call (hr.mono (by first | decide | omega)) rfl pass0 (pa_cons (pv 1) pa_nil)))) pa_nil)))) pss_nil)
  (pss_one (ps_ret (pv 0)))), ?_⟩
  try dsimp only [cxOf]
  rintro ds h R ⟨m, xs, rfl, hm, hl, hx, q⟩
  have ml : m < h.length := (List.getElem?_eq_some_iff.mp hm).1
  k_places
  refine isi2_i (T := "list") ⟨rfl, _, hm⟩ (by decide) (by decide) ?_
  k_places
  refine ve_lcMap tg_name ?_
  refine vi_seqO ?_
  k_places
  refine ⟨m, _, rfl, hm, xs.map frzP, by simp, by simp; omega, fun acc => (List.getElem?_append_left ml).trans hm, ?_, ?_⟩
  · intro i d y acc hd hy
    rw [List.getElem?_map] at hd hy
    cases e : xs[i]? with
    | none => rw [e] at hd; cases hd
    | some x =>
      rw [e] at hd hy
      cases hd; cases hy
      refine vg_name ⟨rfl, ?_⟩
      k_places
      exact ⟨x, rfl, hx x (List.mem_of_getElem? e), rfl, rfl⟩
  · k_places
    refine vc_tuple rfl ?_
    exact q
abbrev st_sdata : Stmt := (inClass (topS 7) 8)
theorem sc_sdata : FnScope ["self", "kept", "changes", "change"] ["self"] (defScope st_sdata) := ⟨rfl, rfl, rfl, by decide +kernel, rfl, by decide +kernel, by decide +kernel⟩
def storeD (cut : List Int) (caps : List P) (ks : List (Option (List P × List P × List P))) (css : List (List Chg)) : P :=
  .tup [.tup (cut.map P.int), .tup (caps.map frzP), .tup (ks.map keptD), .tup (css.map fun cs => .tup (cs.map fun c => frzP (chgD c)))]
def W_sdata (C CK CC : Addr) : Spc := fun ds h R => ∃ (n : Nat) (m : Int) (cut : List Int) (caps : List P) (ks : List (Option (List P × List P × List P))) (css : List (List Chg)) (I : List Nat), ds = [.own n] ∧
  StoreAt C h n m cut caps (ks.map (keptP CK)) (css.map fun cs => cs.map (chgP CC)) I ∧ caps.length < 1000000 ∧ (∀ x ∈ caps, Deep 6 x) ∧ ks.length < 1000 ∧ (∀ k ∈ ks, keptOk k) ∧ css.length < 1000 ∧ (∀ cs ∈ css, cs.length < 1000000 ∧ ∀ c ∈ cs, ChgOk c) ∧ R (.p (storeD cut caps ks css)) h
theorem ok_sdata (A : MethAt K C "data" "Store.data" st_sdata ["self"]) (T : StoC K mg C) (TK : KptC K mg CK) (TC : ChgC K mg CC) (m_tuple : mg "tuple" = none) (h_frozen : HasF Pg w K mg base CX0 9 "frozen" ["value"] (spD K Θ (W_frz 8)))
    (h_frzO : HasF Pg w K mg base CX0 9 "frozen" ["value"] (spD K Θ W_frzO)) (h_Kept_data : HasM Pg w K mg base CX0 10 CK "data" ["self"] (spD K Θ (W_kdata CK)))
    (h_Change_header : HasM Pg w K mg base CX0 1 CC "header" ["self"] (spD K Θ (W_chead CC))) : HasM Pg w K mg base CX0 11 C "data" ["self"] (spD K Θ (W_sdata C CK CC)) := by
  have sc := sc_sdata
  refine A.okD T.cl sc (W_sdata C CK CC) (fun ds h R ⟨_, _, _, _, _, _, _, e, _⟩ => by rw [e]; rfl) fun f cdv A outer s H E hr => ?_
  refine ⟨_, (pss_cons (ps_set (i := 1) sc.nd rfl (.inl rfl) (pe_callTy (call_tuple_ofK (K := K) (by rfl)) (by rfl) m_tuple (by decide +kernel) (pa_cons (pe_lc (own := [("kept", 1)]) rfl sc.nd (pi_seqK (K := K) (by rfl) (pe_fldK (K := K) (by rfl) (pv 0) rfl)) (blkOk_by (N := ["self", "kept", "changes", "change"]) (sc := defScope (inClass (topS 7) 8)) (by decide +kernel)) (fun _ _ _ _ _ => (pg_name (i := 1) sc.nd rfl (.inl rfl))) (fun _ _ _ _ _ => pts_nil) (fun _ _ _ _ _ => (pe_ifExp (pt_cmpR op_isU (pv 1) pe_non (nomark _)) pe_non (h_Kept_data.meth0 (hr.mono (by first | decide | omega)) pass0 (pv 1))))) pa_nil)))
  (pss_cons (ps_set (i := 2) sc.nd rfl (.inl rfl) (pe_lc (own := [("changes", 2)]) rfl sc.nd (pi_seqK (K := K) (by rfl) (pe_fldK (K := K) (by rfl) (pv 0) rfl)) (blkOk_by (N := ["self", "kept", "changes", "change"]) (sc := defScope (inClass (topS 7) 8)) (by decide +kernel)) (fun _ _ _ _ _ => (pg_name (i := 2) sc.nd rfl (.inl rfl))) (fun _ _ _ _ _ => pts_nil) (fun _ _ _ _ _ => (pe_lc (own := [("change", 3)]) rfl sc.nd (pi_seqK (K := K) (by rfl) (pv 2)) (blkOk_by (N := ["self", "kept", "changes", "change"]) (sc := { kind := .function, names := [(PySem.Str.ofString ".0", .local), (PySem.Str.ofString "changes", .local)], isGenerator := false, isCoroutine := false }) (by decide +kernel)) (fun _ _ _ _ _ => (pg_name (i := 3) sc.nd rfl (.inl rfl))) (fun _ _ _ _ _ => pts_nil) (fun _ _ _ _ _ => (pe_op (op_addWK (K := K) (by rfl)) (h_Change_header.meth0 (hr.mono (by first | decide | omega)) pass0 (pv 3)) (pe_tup (pa_cons (pe_fldK (K := K) (by rfl) (pv 3) rfl) pa_nil))))))))
  (pss_one (ps_ret (pe_tup (pa_cons (pe_callTy (call_tuple_ofK (K := K) (by rfl)) (by rfl) m_tuple (by decide +kernel) (pa_cons (pe_fldK (K := K) (by rfl) (pv 0) rfl) pa_nil)) (pa_cons (h_frzO.call (hr.mono (by first | decide | omega)) rfl pass0 (pa_cons (pe_fldK (K := K) (by rfl) (pv 0) rfl) pa_nil)) (pa_cons (pv 1) (pa_cons (h_frozen.call (hr.mono (by first | decide | omega)) rfl pass0 (pa_cons (pv 2) pa_nil)) pa_nil))))))))), ?_⟩
  try dsimp only [cxOf]
  rintro ds h R ⟨n, m, cut, caps, ks, css, I, rfl, S, l1, d1, l2, d2, l3, d3, q⟩
  have sz := sizeLine_eq
  obtain ⟨i1, i2, i3, i4, js, rfl, h1, h2, h3, h4, h5, h6, h7, nd⟩ := S.ex
  rw [List.length_map] at h6
  have b3 : i3 < h.length := (List.getElem?_eq_some_iff.mp h4).1
  have b4 : i4 < h.length := (List.getElem?_eq_some_iff.mp h5).1
  refine vs_seq ?_
  refine vs_asg ?_
  refine ve_cb ?_
  refine va_cons ?_
  refine ve_lcMap tg_name ?_
  refine vi_seqO ?_
  k_places
  refine ve_fld ?_
  k_places
  refine ⟨C, .own i3, T.cl, T.n4, ⟨_, h1, by kernel_rfl⟩, ?_⟩
  refine ⟨i3, _, rfl, h4, ks.map keptD, by simp, by simp; omega, fun acc => (List.getElem?_append_left b3).trans h4, ?_, ?_⟩
  · intro i d y acc hd hy
    rw [List.getElem?_map, List.getElem?_map] at hd
    rw [List.getElem?_map] at hy
    cases e : ks[i]? with
    | none => rw [e] at hd; cases hd
    | some x =>
      rw [e] at hd hy
      cases hd; cases hy
      refine vg_name ⟨rfl, ?_⟩
      cases x with
      | none =>
        k_places
        exact ⟨rfl, rfl⟩
      | some x =>
        obtain ⟨as, ss, ts⟩ := x
        obtain ⟨e1, e2, e3⟩ := d2 _ (List.mem_of_getElem? e)
        k_places
        refine ve_meth ?_
        k_places
        refine ⟨⟨rfl, by kernel_rfl⟩, ?_⟩
        k_places
        exact ⟨as, ss, ts, rfl, e1, e2, e3, rfl, rfl⟩
  k_places
  refine vc_tuple rfl ?_
  refine vg_name ?_
  refine vs_seq ?_
  refine vs_asg ?_
  refine ve_lcMap tg_name ?_
  refine vi_seqO ?_
  k_places
  refine ve_fld ?_
  k_places
  refine ⟨C, .own i4, T.cl, T.n5, ⟨_, h1, by kernel_rfl⟩, ?_⟩
  refine ⟨i4, _, rfl, h5, css.map fun cs => .lst (cs.map chgD), by simp [h6], by simp [h6]; omega, fun acc => (List.getElem?_append_left b4).trans h5, ?_, ?_⟩
  · intro i d y acc hd hy
    rw [List.getElem?_map] at hd hy
    cases e : css[i]? with
    | none => rw [e] at hy; cases hy
    | some cs =>
      rw [e] at hy
      cases hy
      have hi : i < css.length := (List.getElem?_eq_some_iff.mp e).1
      have hi2 : i < js.length := by rw [h6]; exact hi
      rw [List.getElem?_eq_getElem hi2] at hd
      cases hd
      have gj := h7 i _ _ (List.getElem?_eq_getElem hi2) (by rw [List.getElem?_map, e]; rfl)
      have jl : js[i] < h.length := (List.getElem?_eq_some_iff.mp gj).1
      obtain ⟨cl, ck⟩ := d3 cs (List.mem_of_getElem? e)
      refine vg_name ⟨rfl, ?_⟩
      refine ve_lcMap tg_name ?_
      refine vi_seqO ?_
      k_places
      have gj2 : ∀ x : Hs, (h ++ x)[js[i]]? = some (some (.lst ((cs.map (chgP CC)).map D.p))) := fun x => (List.getElem?_append_left jl).trans gj
      refine ⟨js[i], _, rfl, gj2 _, cs.map chgD, by simp, by simp; omega, fun acc2 => by
        show (h ++ _ ++ _)[js[i]]? = _
        rw [List.append_assoc]; exact gj2 _, ?_, ?_⟩
      · intro k d y acc2 hd hy
        rw [List.getElem?_map, List.getElem?_map] at hd
        rw [List.getElem?_map] at hy
        cases e2 : cs[k]? with
        | none => rw [e2] at hd; cases hd
        | some c =>
          rw [e2] at hd hy
          cases hd; cases hy
          refine vg_name ⟨rfl, ?_⟩
          refine ve_op ?_
          refine ve_meth ?_
          k_places
          refine ⟨⟨rfl, by kernel_rfl⟩, ?_⟩
          k_places
          refine ⟨c.a, c.b, c.hd, c.cp, c.pb, c.pt, rfl, ?_⟩
          k_places
          refine ve_fld ?_
          k_places
          refine ⟨CC, .p c.pt, TC.cl, TC.n6, ⟨rfl, by kernel_rfl⟩, ?_⟩
          k_places
          refine v2_addWT (by show 6 ≤ sizeLine; omega) ?_
          exact ⟨rfl, rfl⟩
      · exact ⟨rfl, rfl⟩
  k_places
  refine ve_fld ?_
  k_places
  refine ⟨C, .own i1, T.cl, T.n2, ⟨_, h1, by kernel_rfl⟩, ?_⟩
  k_places
  refine vc_tuple (ps := cut.map P.int) (by show h[i1]? = some (some (.lst ((cut.map P.int).map D.p))); rw [List.map_map]; exact h2) ?_
  k_places
  refine ve_fld ?_
  k_places
  refine ⟨C, .own i2, T.cl, T.n3, ⟨_, h1, by kernel_rfl⟩, ?_⟩
  k_places
  refine ⟨i2, caps, rfl, h3, l1, d1, ?_⟩
  k_places
  have dd : Deep 7 (.lst (css.map fun cs => .lst (cs.map chgD))) := .lst (by simp; omega) fun x hx => by
    obtain ⟨cs, hcs, rfl⟩ := List.mem_map.mp hx
    obtain ⟨e1, e2⟩ := d3 cs hcs
    exact .lst (by simpa using e1) fun y hy => by
      obtain ⟨c, hc, rfl⟩ := List.mem_map.mp hy
      exact chgD_deep (e2 c hc)
  refine ⟨.lst (css.map fun cs => .lst (cs.map chgD)), rfl, dd, ?_⟩
  have e : frzP (.lst (css.map fun cs => .lst (cs.map chgD))) = .tup (css.map fun cs => .tup (cs.map fun c => frzP (chgD c))) := by
    show P.tup (frzP.frzL _) = _
    rw [frzL_map, List.map_map]
    congr 1
    refine List.map_congr_left fun cs _ => ?_
    show P.tup (frzP.frzL _) = _
    rw [frzL_map, List.map_map]
    rfl
  rw [e]
  k_places
  exact q
end
end Law

namespace Law
open PySem PySem.Spec PyProof.Rows L2 Kb
-- the steps that are tried: k_clsL a side condition; k_subL one step; k_places steps as long as one fits
local macro_rules | `(tactic| k_clsL) => `(tactic| first | assumption | decide | omega)
local macro_rules | `(tactic| k_subL) => `(tactic| first
  | (with_reducible refine vs_seq ?_) | (with_reducible refine vs_asg ?_) | (with_reducible refine vg_name ?_) | (with_reducible refine vs_ret ?_) | (with_reducible refine vs_if ?_) | (with_reducible refine vs_next ?_) | (with_reducible refine vs_drop ?_)
  | (with_reducible refine vt_test ?_) | (with_reducible refine vt_B ?_) | (with_reducible refine vt_and ?_) | (with_reducible refine vt_or ?_) | (with_reducible refine vt_not ?_) | (with_reducible refine vt_truth ?_)
  | (with_reducible refine ve_op ?_) | (with_reducible refine ve_isi2 ?_) | ((with_reducible refine isi2_i (T := "tuple") ?hT ?hm ?hn ?_); (case hT => exact rfl); (case hm => decide); (case hn => decide)) | ((with_reducible refine isi2_i (T := "list") ?hT ?hm ?hn ?_); (case hT => exact rfl); (case hm => decide); (case hn => decide)) | ((with_reducible refine isi2_i (T := "int") ?hT ?hm ?hn ?_); (case hT => exact rfl); (case hm => decide); (case hn => decide)) | ((with_reducible refine isi2_i (T := "bool") ?hT ?hm ?hn ?_); (case hT => exact rfl); (case hm => decide); (case hn => decide)) | ((with_reducible refine isi2_i (T := "str") ?hT ?hm ?hn ?_); (case hT => exact rfl); (case hm => decide); (case hn => decide)) | ((with_reducible refine isi2_i (T := "NoneType") ?hT ?hm ?hn ?_); (case hT => exact rfl); (case hm => decide); (case hn => decide)) | (with_reducible refine ve_cb ?_) | (with_reducible refine va_cons ?_) | (with_reducible refine va_nil ?_) | (with_reducible refine ve_call ?_)
  | (with_reducible refine ve_int ?_) | (with_reducible refine ve_str ?_) | (with_reducible refine ve_bl ?_) | (with_reducible refine ve_non ?_) | (with_reducible refine ve_ty ?_)
  | (refine ve_var (by exact rfl) ?_)
  | (with_reducible refine ve_and ?_) | (with_reducible refine ve_or ?_) | (with_reducible refine ve_not ?_) | (with_reducible refine ve_chain ?_) | (with_reducible refine ve_un ?_) | (with_reducible refine ve_if ?_)
  | (with_reducible refine bool_ans ?_) | (with_reducible refine tru_bl ?_)
  | (with_reducible refine vc_intI ?_) | (with_reducible refine vc_intB ?_) | (with_reducible refine v2_addI ?_) | (with_reducible refine v2_sub ?_)
  | (with_reducible refine v2_lt ?_) | (with_reducible refine v2_le ?_) | (with_reducible refine v2_gt ?_) | (with_reducible refine v2_ge ?_)
  | (with_reducible refine v2_eqI ?_) | (with_reducible refine v2_eqS ?_) | (with_reducible refine v2_eqB ?_) | (with_reducible refine v2_neI ?_) | (with_reducible refine v2_neS ?_) | (with_reducible refine v2_neB ?_)
  | (with_reducible refine v2_isN ?_) | (with_reducible refine v2_notN ?_) | (with_reducible refine v2_isNU ?_) | ((with_reducible refine v2_isBl ?hx ?_); (case hx => exact rfl))
  | (with_reducible refine v2_addVI ?_) | (with_reducible refine v2_addWI ?_) | (with_reducible refine v2_ltI ?_) | (with_reducible refine v2_ltB ?_) | (with_reducible refine v2_ltS ?_)
  | ((with_reducible refine v2_divW ?hm ?_); case hm => (constructor <;> k_clsL))
  | ((with_reducible refine v2_mulU ?hm ?_); case hm => first | exact cmul_small (by k_clsL) (by k_clsL) | exact cmul_wide (by k_clsL) (by k_clsL))
  | ((with_reducible refine v2_mod ?hm ?_); case hm => k_clsL) | ((with_reducible refine v2_div ?hm ?_); case hm => (constructor <;> k_clsL))
  | ((with_reducible refine v2_mul ?hm ?_); case hm => first | exact cmul_small (by k_clsL) (by k_clsL) | exact cmul_wide (by k_clsL) (by k_clsL))
  | (with_reducible refine vc_abs ?_) | (with_reducible refine vc_min2 ?_) | (with_reducible refine vc_max2 ?_)
  | (with_reducible refine ve_tup ?_) | ((with_reducible refine tup_j ?hl ?_); (case hl => exact rfl))
  | ((with_reducible refine vc_isi (T := "tuple") ?hT ?hn ?_); (case hT => first | exact rfl | exact ⟨rfl, _, by first | assumption | simp⟩); (case hn => decide)) | ((with_reducible refine vc_isi (T := "list") ?hT ?hn ?_); (case hT => first | exact rfl | exact ⟨rfl, _, by first | assumption | simp⟩); (case hn => decide)) | ((with_reducible refine vc_isi (T := "int") ?hT ?hn ?_); (case hT => first | exact rfl | exact ⟨rfl, _, by first | assumption | simp⟩); (case hn => decide)) | ((with_reducible refine vc_isi (T := "bool") ?hT ?hn ?_); (case hT => first | exact rfl | exact ⟨rfl, _, by first | assumption | simp⟩); (case hn => decide)) | ((with_reducible refine vc_isi (T := "str") ?hT ?hn ?_); (case hT => first | exact rfl | exact ⟨rfl, _, by first | assumption | simp⟩); (case hn => decide)) | ((with_reducible refine vc_isi (T := "NoneType") ?hT ?hn ?_); (case hT => first | exact rfl | exact ⟨rfl, _, by first | assumption | simp⟩); (case hn => decide))
  | (with_reducible refine vc_lenL ?_) | (with_reducible refine vc_lenT ?_) | (with_reducible refine ite_nrefl ?_) | (with_reducible refine ite_refl ?_)
  | ((with_reducible refine ite_tt ?hc ?_); (case hc => first | decide | exact rfl)) | ((with_reducible refine ite_ff ?hc ?_); (case hc => first | decide | exact rfl))
  | (with_reducible refine v1_U ?_))
local macro_rules | `(tactic| k_places) => `(tactic| repeat k_subL)

/-- a kept capability -/
structure Cap0 where
  a : Int
  b : Int
  p : Int
  par : P
  hol : P
  rts : P
def cap0P (c : Cap0) : P := .tup [.tup [.int c.a, .int c.b, .int c.p], c.par, c.hol, c.rts]
/-- a public act -/
def PubOk (x : P) : Prop := (∃ h r, x = .tup [.str "grant", h, r]) ∨ ∃ (k : Str) (rest : List P), k ≠ "grant" ∧ x = .tup (.str k :: rest)
def pubT (cp : P) (acts : List P) (p : Int) : P :=
  if 0 ≤ p ∧ p < (acts.length : Nat) then (match acts[p.toNat]? with
    | some (.tup [.str k, h, r]) => if k = "grant" then .tup [cp, h, r] else .non
    | _ => .non) else .non
def findC (cut : List Int) (css : List (List Chg)) (a b : Int) : Option Chg :=
  if 0 ≤ a ∧ a < (cut.length : Nat) ∧ 1 ≤ b ∧ cut[a.toNat]?.getD 0 < b then (css[a.toNat]?.getD [])[(b - cut[a.toNat]?.getD 0 - 1).toNat]? else none
theorem findOf_C {CC : Addr} {cut : List Int} {css : List (List Chg)} {a b : Int} (hl : cut.length = css.length) :
    findOf cut (css.map fun cs => cs.map (chgP CC)) a b = (match findC cut css a b with | none => .non | some c => chgP CC c) := by
  have no : ∀ {x : Option Chg} {y : P}, x = none → y = .non → y = (match x with | none => .non | some c => chgP CC c) := fun e f => by rw [e, f]
  by_cases ha : 0 ≤ a ∧ a < (cut.length : Nat)
  · have h1 : a.toNat < cut.length := by omega
    have h2 : a.toNat < css.length := by omega
    have g1 : cut[a.toNat]?.getD 0 = cut[a.toNat] := by rw [List.getElem?_eq_getElem h1]; rfl
    have g2 : css[a.toNat]?.getD [] = css[a.toNat] := by rw [List.getElem?_eq_getElem h2]; rfl
    have g3 : (css.map fun cs => cs.map (chgP CC))[a.toNat]?.getD [] = css[a.toNat].map (chgP CC) := by rw [List.getElem?_map, List.getElem?_eq_getElem h2]; rfl
    by_cases hb : 1 ≤ b ∧ cut[a.toNat] < b
    · by_cases hc : b ≤ cut[a.toNat] + (css[a.toNat].length : Nat)
      · have h3 : (b - cut[a.toNat] - 1).toNat < css[a.toNat].length := by omega
        have e1 : findC cut css a b = some css[a.toNat][(b - cut[a.toNat] - 1).toNat] := by
          unfold findC
          rw [g1, g2, if_pos ⟨ha.1, ha.2, hb.1, hb.2⟩, List.getElem?_eq_getElem h3]
        have e2 : hasOf cut (css.map fun cs => cs.map (chgP CC)) a b = true := by
          unfold hasOf cntOf
          rw [g1, g3, List.length_map, decide_eq_true ha.1, decide_eq_true ha.2, decide_eq_true hb.1, decide_eq_true hc]
          rfl
        rw [e1]
        unfold findOf
        rw [e2, if_pos rfl, g1, g3, if_neg (by omega), List.getElem?_map, List.getElem?_eq_getElem h3]
        rfl
      · have h3 : css[a.toNat].length ≤ (b - cut[a.toNat] - 1).toNat := by omega
        refine no ?_ ?_
        · unfold findC
          rw [g1, g2, if_pos ⟨ha.1, ha.2, hb.1, hb.2⟩, List.getElem?_eq_none_iff.mpr h3]
        · unfold findOf hasOf cntOf
          rw [g1, g3, List.length_map, decide_eq_false hc, Bool.and_false, if_neg (by decide)]
    · refine no ?_ ?_
      · unfold findC
        rw [g1, if_neg (fun z => hb ⟨z.2.2.1, z.2.2.2⟩)]
      · unfold findOf hasOf
        by_cases hb1 : 1 ≤ b
        · have hb2 : b ≤ cut[a.toNat] := by omega
          rw [g1, if_pos hb2]
          split <;> rfl
        · rw [decide_eq_false hb1, Bool.and_false, Bool.false_and, if_neg (by decide)]
  · refine no ?_ ?_
    · unfold findC
      rw [if_neg (fun z => ha ⟨z.1, z.2.1⟩)]
    · have e : (decide (0 ≤ a) && decide (a < (cut.length : Nat))) = false := by
        by_cases h0 : 0 ≤ a
        · rw [decide_eq_false (fun z => ha ⟨h0, z⟩), Bool.and_false]
        · rw [decide_eq_false h0, Bool.false_and]
      unfold findOf hasOf
      rw [e, Bool.false_and, Bool.false_and, if_neg (by decide)]
theorem shaped_key {a b c : Int} : SeqAt.shaped (pyOf (.tup [.int a, .int b, .int c])) = true := by
  simp [SeqAt.shaped, pyOf, pyOf.pyOfs, PyData.canLay0, PyData.canLayAll0, PyData.depth, PyData.depthAll]
theorem eqv_key {a b c d e f : Int} : PyData.eqv (pyOf (.tup [.int a, .int b, .int c])) (pyOf (.tup [.int d, .int e, .int f])) = decide (a = d ∧ b = e ∧ c = f) := by
  by_cases h1 : a = d <;> by_cases h2 : b = e <;> by_cases h3 : c = f <;> simp [pyOf, pyOf.pyOfs, PyData.eqv, PyData.eqvAll, h1, h2, h3]
theorem v2_eqKey {K : PySem.W.Frag} {Θ : Kb.Ctx} {h : Hs} {R : Kb.D → Hs → Prop} {a b c d e f : Int} (q : R (dB (decide (a = d ∧ b = e ∧ c = f))) h) : V2 K Θ (rEqU K) (dT [.int a, .int b, .int c]) (dT [.int d, .int e, .int f]) h R :=
  v2_eqP rfl rfl shaped_key shaped_key (by rw [eqv_key]; exact q)
/-- what is told of a capability -/
def isKey (a b p : Int) (c : Cap0) : Bool := decide (c.a = a ∧ c.b = b ∧ c.p = p)
def toldD (caps : List Cap0) (cut : List Int) (css : List (List Chg)) (a b p : Int) : P := match caps.find? (isKey a b p) with
  | some c => .tup [c.par, c.hol, c.rts]
  | none => (match findC cut css a b with
    | none => .non
    | some c => (match c.pb with
      | .tup acts => pubT c.cp acts p
      | _ => .non))
structure TldOk (m : Int) (cut : List Int) (caps : List Cap0) (css : List (List Chg)) : Prop where
  st : ∀ CC, StOk m cut (css.map fun cs => cs.map (chgP CC))
  cl : caps.length < 1000000
  pub : ∀ cs ∈ css, ∀ c ∈ cs, ∃ acts, c.pb = .tup acts ∧ acts.length < 1000000 ∧ ∀ x ∈ acts, PubOk x
theorem find_none {α : Type} {f : α → Bool} {xs : List α} (h : ∀ (i : Nat) (x : α), xs[i]? = some x → f x = false) : xs.find? f = none := by
  rw [List.find?_eq_none]
  intro x hx
  obtain ⟨i, hi, e⟩ := List.getElem_of_mem hx
  rw [h i x (by rw [List.getElem?_eq_getElem hi, e])]
  decide
theorem find_at {α : Type} {f : α → Bool} {xs : List α} {i : Nat} {x : α} (hx : xs[i]? = some x) (hf : f x = true) (h : ∀ j y, j < i → xs[j]? = some y → f y = false) : xs.find? f = some x := by
  rw [List.find?_eq_some_iff_getElem]
  have hi := (List.getElem?_eq_some_iff.mp hx).1
  refine ⟨hf, i, hi, (List.getElem?_eq_some_iff.mp hx).2, fun j hj => ?_⟩
  rw [h j _ hj (List.getElem?_eq_getElem (by omega))]
  rfl
section
variable {Pg : Program} {w : World} {K : PySem.W.Frag} {Θ : List Addr} {mg : Str → Option Value} {base : Heap} {C CS CK CC : Addr}
abbrev st_told : Stmt := (topS 14)
theorem sc_told : FnScope ["store", "capability", "kept", "parent", "holder", "rights", "author", "number", "place", "change", "act"] ["store", "capability"] (defScope st_told) := ⟨rfl, rfl, rfl, by decide +kernel, rfl, by decide +kernel, by decide +kernel⟩
def W_told (C CC : Addr) : Spc := fun ds h R => ∃ (n : Nat) (m : Int) (cut : List Int) (caps : List Cap0) (kept : List P) (css : List (List Chg)) (I : List Nat) (a b p : Int), ds = [.own n, dT [.int a, .int b, .int p]] ∧
  StoreAt C h n m cut (caps.map cap0P) kept (css.map fun cs => cs.map (chgP CC)) I ∧ TldOk m cut caps css ∧ R (.p (toldD caps cut css a b p)) h
theorem ok_told (A : DefAt K mg "_told_of" st_told ["store", "capability"]) (T : StoC K mg C) (TC : ChgC K mg CC) (m_len : mg "len" = none) (h_Store_find : HasM Pg w K mg base CX0 3 C "find" ["self", "name"] (spD K Θ (W_sfind C))) :
    HasF Pg w K mg base CX0 4 "_told_of" ["store", "capability"] (spD K Θ (W_told C CC)) := by
  have sc := sc_told
  refine A.okD sc (W_told C CC) (fun ds h R ⟨_, _, _, _, _, _, _, _, _, _, e, _⟩ => by rw [e]; rfl) fun f cdv A outer s H E hr => ?_
  refine ⟨_, (pss_cons (ps_for PassesOwn.never rfl (pi_seqK (K := K) (by rfl) (pe_fldK (K := K) (by rfl) (pv 0) rfl)) (pg_tupK (K := K) (n := 4) (by rfl) rfl (pgs_cons (pg_name (i := 2) sc.nd rfl (.inl rfl)) (pgs_cons (pg_name (i := 3) sc.nd rfl (.inl rfl)) (pgs_cons (pg_name (i := 4) sc.nd rfl (.inl rfl)) (pgs_cons (pg_name (i := 5) sc.nd rfl (.inl rfl)) pgs_nil)))))
  (pss_one (ps_if (pt_cmpR (op_eqUK (K := K) (by rfl) hr.units) (pv 2) (pv 1) (nomark _)) (pss_one (ps_ret (pe_tup (pa_cons (pv 3) (pa_cons (pv 4) (pa_cons (pv 5) pa_nil)))))) pss_nil)))
  (pss_cons (ps_asg (pv 1) (pg_tupK (K := K) (n := 3) (by rfl) rfl (pgs_cons (pg_name (i := 6) sc.nd rfl (.inl rfl)) (pgs_cons (pg_name (i := 7) sc.nd rfl (.inl rfl)) (pgs_cons (pg_name (i := 8) sc.nd rfl (.inl rfl)) pgs_nil)))))
  (pss_cons (ps_set (i := 9) sc.nd rfl (.inl rfl) (h_Store_find.meth (hr.mono (by first | decide | omega)) pass0 (pv 0) (pa_cons (pe_tup (pa_cons (pv 6) (pa_cons (pv 7) pa_nil))) pa_nil)))
  (pss_cons (ps_if (PW.pt (pw_or (pt_cmpR op_isU (pv 9) pe_non (nomark _)) (pw_or1 (pt_not (pt_chain op_le op_lt pe_int (pv 8) (pe_callB (call_lenK (K := K) (by rfl)) (by rfl) m_len (by decide +kernel) (pa_cons (pe_fldK (K := K) (by rfl) (pv 9) rfl) pa_nil))))))) (pss_one (ps_ret pe_non)) pss_nil)
  (pss_cons (ps_set (i := 10) sc.nd rfl (.inl rfl) (pe_ix (ix_seqK (K := K) (by rfl)) (pe_fldK (K := K) (by rfl) (pv 9) rfl) (pv 8) (fun _ _ => rfl)))
  (pss_cons (ps_if (pt_cmpR (op_neUK (K := K) (by rfl) hr.units) (pe_ix (ix_seqK (K := K) (by rfl)) (pv 10) pe_int (fun _ _ => rfl)) pe_str (nomark _)) (pss_one (ps_ret pe_non)) pss_nil)
  (pss_one (ps_ret (pe_tup (pa_cons (pe_fldK (K := K) (by rfl) (pv 9) rfl) (pa_cons (pe_ix (ix_seqK (K := K) (by rfl)) (pv 10) pe_int (fun _ _ => rfl)) (pa_cons (pe_ix (ix_seqK (K := K) (by rfl)) (pv 10) pe_int (fun _ _ => rfl)) pa_nil)))))))))))), ?_⟩
  try dsimp only [cxOf]
  rintro ds h R ⟨n, m, cut, caps, kept, css, I, a, b, p, rfl, S, ok, q⟩
  have sz := sizeLine_eq
  have so := ok.st CC
  obtain ⟨i1, i2, i3, i4, js, eI, h1, h2, h3, h4, h5, h6, h7, nd⟩ := S.ex
  refine vs_seq ?_
  refine vs_for (vi_seqO ?_)
  k_places
  refine ve_fld ?_
  k_places
  refine ⟨C, .own i2, T.cl, T.n3, ⟨_, h1, by kernel_rfl⟩, ?_⟩
  refine ⟨i2, _, rfl, h3, fun i env' h' => (∃ o2 o3 o4 o5, env' = [some (.own n), some (dT [.int a, .int b, .int p]), o2, o3, o4, o5, none, none, none, none, none]) ∧ h' = h ∧ ∀ j y, j < i → caps[j]? = some y → isKey a b p y = false, ?_, ?_, ?_, ?_⟩
  · exact ⟨⟨none, none, none, none, rfl⟩, rfl, fun j y hj => absurd hj (Nat.not_lt_zero _)⟩
  · rintro i env' h' ⟨_, rfl, _⟩
    exact h3
  · rintro i d env' h' hd ⟨⟨o2, o3, o4, o5, rfl⟩, rfl, hpre⟩
    rw [List.getElem?_map, List.getElem?_map] at hd
    cases e : caps[i]? with
    | none => rw [e] at hd; cases hd
    | some c =>
      rw [e] at hd
      cases hd
      refine vg_tup rfl (vgs_cons (vg_name (vgs_cons (vg_name (vgs_cons (vg_name (vgs_cons (vg_name (vgs_nil ?_)))))))))
      k_places
      refine v2_eqKey ?_
      k_places
      refine ite_dec (fun e2 => ?_) (fun e2 => ?_)
      · have fd := find_at (f := isKey a b p) e (decide_eq_true e2) hpre
        unfold toldD at q
        rw [fd] at q
        k_places
        exact q
      · k_places
        refine ⟨⟨_, _, _, _, rfl⟩, rfl, fun j y hj hy => ?_⟩
        rcases Nat.lt_succ_iff_lt_or_eq.mp hj with hj | rfl
        · exact hpre j y hj hy
        · rw [e] at hy
          cases hy
          exact decide_eq_false e2
  · rintro env' h' ⟨⟨o2, o3, o4, o5, rfl⟩, rfl, hpre⟩
    rw [List.length_map, List.length_map] at hpre
    have fn : caps.find? (isKey a b p) = none := find_none fun i x hx => hpre i x (List.getElem?_eq_some_iff.mp hx).1 hx
    unfold toldD at q
    rw [fn] at q
    refine vs_seq ?_
    refine vs_asg ?_
    k_places
    refine vg_tup rfl (vgs_cons (vg_name (vgs_cons (vg_name (vgs_cons (vg_name (vgs_nil ?_)))))))
    k_places
    refine ve_meth ?_
    k_places
    refine ⟨S.ins fun _ _ _ _ _ => no_find, ?_⟩
    k_places
    refine ⟨n, m, cut, caps.map cap0P, kept, _, I, a, b, rfl, S, so, ?_⟩
    have cl : cut.length = css.length := by
      have z := so.chl
      rw [List.length_map] at z
      rw [so.cl, z]
    rw [findOf_C cl]
    cases ef : findC cut css a b with
    | none =>
      rw [ef] at q
      k_places
      exact q
    | some c =>
      rw [ef] at q
      have hc : ∃ cs ∈ css, c ∈ cs := by
        unfold findC at ef
        split at ef
        · rename_i hh
          have ha : a.toNat < css.length := by omega
          rw [List.getElem?_eq_getElem ha] at ef
          exact ⟨_, List.getElem_mem ha, List.mem_of_getElem? ef⟩
        · cases ef
      obtain ⟨cs, hcs, hc⟩ := hc
      obtain ⟨acts, eb, al, ao⟩ := ok.pub cs hcs c hc
      have q2 : R (.p (pubT c.cp acts p)) h' := by
        have z : R (.p (match c.pb with | .tup acts => pubT c.cp acts p | _ => .non)) h' := q
        rw [eb] at z
        exact z
      unfold pubT at q2
      have fb : FldD "publics" (.p (chgP CC c)) h' CC (dT acts) := ⟨rfl, by
        have z : ((chgF c.a c.b c.hd c.cp c.pb c.pt).map fun q => (q.1, D.p q.2)).lookup ("publics" : Str) = some (.p c.pb) := by kernel_rfl
        rw [z, eb]⟩
      have fc : FldD "capability" (.p (chgP CC c)) h' CC (.p c.cp) := ⟨rfl, by kernel_rfl⟩
      k_places
      refine ite_dec (fun e0 => ?_) (fun e0 => ?_)
      · k_places
        refine ve_fld ?_
        k_places
        refine ⟨CC, _, TC.cl, TC.n5, fb, ?_⟩
        k_places
        refine ite_ndec (fun e1 => ?_) (fun e1 => ?_)
        · rw [if_neg (fun z => e1 z.2)] at q2
          k_places
          exact q2
        · rw [if_pos ⟨e0, e1⟩] at q2
          have hp : p.toNat < acts.length := by omega
          have ga := List.getElem?_eq_getElem hp
          rw [ga] at q2
          have go := ao _ (List.getElem_mem hp)
          generalize acts[p.toNat] = x at *
          k_places
          refine ve_fld ?_
          k_places
          refine ⟨CC, _, TC.cl, TC.n5, fb, ?_⟩
          k_places
          refine v2_ixT (at_nat p.toNat (by omega) ga) ?_
          k_places
          rcases go with ⟨g, r, rfl⟩ | ⟨k, rest, ne, rfl⟩
          · have q3 : R (dT [c.cp, g, r]) h' := q2
            refine v2_ixT (at_nat 0 (by omega) rfl) ?_
            k_places
            refine ve_fld ?_
            k_places
            refine ⟨CC, _, TC.cl, TC.n4, fc, ?_⟩
            k_places
            refine v2_ixT (at_nat 1 (by omega) rfl) ?_
            k_places
            refine v2_ixT (at_nat 2 (by omega) rfl) ?_
            k_places
            exact q3
          · have q3 : R dN h' := by
              rcases rest with _ | ⟨g, _ | ⟨r, _ | ⟨t, u⟩⟩⟩
              · exact q2
              · exact q2
              · have z : R (.p (if k = "grant" then .tup [c.cp, g, r] else .non)) h' := q2
                rw [if_neg ne] at z
                exact z
              · exact q2
            refine v2_ixT (at_nat 0 (by omega) rfl) ?_
            k_places
            refine ite_ndec (fun e2 => ?_) (fun e2 => ?_)
            · k_places
              exact q3
            · exact absurd e2 ne
      · rw [if_neg (fun z => e0 z.1)] at q2
        k_places
        exact q2
end
end Law

namespace Law
open PySem PySem.Spec PyProof.Rows L2 Kb Gx
-- the steps that are tried: k_clsL a side condition; k_subL one step; k_places steps as long as one fits
local macro_rules | `(tactic| k_clsL) => `(tactic| first | assumption | decide | omega)
local macro_rules | `(tactic| k_subL) => `(tactic| first
  | (with_reducible refine vs_seq ?_) | (with_reducible refine vs_asg ?_) | (with_reducible refine vg_name ?_) | (with_reducible refine vs_ret ?_) | (with_reducible refine vs_if ?_) | (with_reducible refine vs_next ?_) | (with_reducible refine vs_drop ?_)
  | (with_reducible refine vt_test ?_) | (with_reducible refine vt_B ?_) | (with_reducible refine vt_and ?_) | (with_reducible refine vt_or ?_) | (with_reducible refine vt_not ?_) | (with_reducible refine vt_truth ?_)
  | (with_reducible refine ve_op ?_) | (with_reducible refine ve_isi2 ?_) | ((with_reducible refine isi2_i (T := "tuple") ?hT ?hm ?hn ?_); (case hT => exact rfl); (case hm => decide); (case hn => decide)) | ((with_reducible refine isi2_i (T := "list") ?hT ?hm ?hn ?_); (case hT => exact rfl); (case hm => decide); (case hn => decide)) | ((with_reducible refine isi2_i (T := "int") ?hT ?hm ?hn ?_); (case hT => exact rfl); (case hm => decide); (case hn => decide)) | ((with_reducible refine isi2_i (T := "bool") ?hT ?hm ?hn ?_); (case hT => exact rfl); (case hm => decide); (case hn => decide)) | ((with_reducible refine isi2_i (T := "str") ?hT ?hm ?hn ?_); (case hT => exact rfl); (case hm => decide); (case hn => decide)) | ((with_reducible refine isi2_i (T := "NoneType") ?hT ?hm ?hn ?_); (case hT => exact rfl); (case hm => decide); (case hn => decide)) | (with_reducible refine ve_cb ?_) | (with_reducible refine va_cons ?_) | (with_reducible refine va_nil ?_) | (with_reducible refine ve_call ?_)
  | (with_reducible refine ve_int ?_) | (with_reducible refine ve_str ?_) | (with_reducible refine ve_bl ?_) | (with_reducible refine ve_non ?_) | (with_reducible refine ve_ty ?_)
  | (refine ve_var (by exact rfl) ?_)
  | (with_reducible refine ve_and ?_) | (with_reducible refine ve_or ?_) | (with_reducible refine ve_not ?_) | (with_reducible refine ve_chain ?_) | (with_reducible refine ve_un ?_) | (with_reducible refine ve_if ?_)
  | (with_reducible refine bool_ans ?_) | (with_reducible refine tru_bl ?_)
  | (with_reducible refine vc_intI ?_) | (with_reducible refine vc_intB ?_) | (with_reducible refine v2_addI ?_) | (with_reducible refine v2_sub ?_)
  | (with_reducible refine v2_lt ?_) | (with_reducible refine v2_le ?_) | (with_reducible refine v2_gt ?_) | (with_reducible refine v2_ge ?_)
  | (with_reducible refine v2_eqI ?_) | (with_reducible refine v2_eqS ?_) | (with_reducible refine v2_eqB ?_) | (with_reducible refine v2_neI ?_) | (with_reducible refine v2_neS ?_) | (with_reducible refine v2_neB ?_)
  | (with_reducible refine v2_isN ?_) | (with_reducible refine v2_notN ?_) | (with_reducible refine v2_isNU ?_) | ((with_reducible refine v2_isBl ?hx ?_); (case hx => exact rfl))
  | (with_reducible refine v2_addVI ?_) | (with_reducible refine v2_addWI ?_) | (with_reducible refine v2_ltI ?_) | (with_reducible refine v2_ltB ?_) | (with_reducible refine v2_ltS ?_)
  | ((with_reducible refine v2_divW ?hm ?_); case hm => (constructor <;> k_clsL))
  | ((with_reducible refine v2_mulU ?hm ?_); case hm => first | exact cmul_small (by k_clsL) (by k_clsL) | exact cmul_wide (by k_clsL) (by k_clsL))
  | ((with_reducible refine v2_mod ?hm ?_); case hm => k_clsL) | ((with_reducible refine v2_div ?hm ?_); case hm => (constructor <;> k_clsL))
  | ((with_reducible refine v2_mul ?hm ?_); case hm => first | exact cmul_small (by k_clsL) (by k_clsL) | exact cmul_wide (by k_clsL) (by k_clsL))
  | (with_reducible refine vc_abs ?_) | (with_reducible refine vc_min2 ?_) | (with_reducible refine vc_max2 ?_)
  | (with_reducible refine ve_tup ?_) | ((with_reducible refine tup_j ?hl ?_); (case hl => exact rfl))
  | ((with_reducible refine vc_isi (T := "tuple") ?hT ?hn ?_); (case hT => first | exact rfl | exact ⟨rfl, _, by first | assumption | simp⟩); (case hn => decide)) | ((with_reducible refine vc_isi (T := "list") ?hT ?hn ?_); (case hT => first | exact rfl | exact ⟨rfl, _, by first | assumption | simp⟩); (case hn => decide)) | ((with_reducible refine vc_isi (T := "int") ?hT ?hn ?_); (case hT => first | exact rfl | exact ⟨rfl, _, by first | assumption | simp⟩); (case hn => decide)) | ((with_reducible refine vc_isi (T := "bool") ?hT ?hn ?_); (case hT => first | exact rfl | exact ⟨rfl, _, by first | assumption | simp⟩); (case hn => decide)) | ((with_reducible refine vc_isi (T := "str") ?hT ?hn ?_); (case hT => first | exact rfl | exact ⟨rfl, _, by first | assumption | simp⟩); (case hn => decide)) | ((with_reducible refine vc_isi (T := "NoneType") ?hT ?hn ?_); (case hT => first | exact rfl | exact ⟨rfl, _, by first | assumption | simp⟩); (case hn => decide))
  | (with_reducible refine vc_lenL ?_) | (with_reducible refine vc_lenT ?_) | (with_reducible refine ite_nrefl ?_) | (with_reducible refine ite_refl ?_)
  | ((with_reducible refine ite_tt ?hc ?_); (case hc => first | decide | exact rfl)) | ((with_reducible refine ite_ff ?hc ?_); (case hc => first | decide | exact rfl))
  | (with_reducible refine v1_U ?_))
local macro_rules | `(tactic| k_places) => `(tactic| repeat k_subL)

/-! the store of a world -/
def chgOf (pt : Wd.Row → P) (r : Wd.Row) : Chg := ⟨r.a, r.n, hdP r.hd, capP r.cap, pubsP r.pub, pt r⟩
structure SW (C CC : Addr) (h : Hs) (n : Nat) (w : Wd.Wld) (pt : Wd.Row → P) (kept : List P) (I : List Nat) : Prop where
  at_ : StoreAt C h n w.m w.cut (w.caps.map entP) kept ((Wd.byA (chgOf pt) w).map fun cs => cs.map (chgP CC)) I
  ok : Wd.WOk w
def SWx (C CC : Addr) (h : Hs) (n : Nat) (w : Wd.Wld) : Prop := ∃ pt kept I, SW C CC h n w pt kept I
def toCap (e : Wd.Ent) : Cap0 := ⟨e.k.1, e.k.2.1, e.k.2.2, capP e.par, .int e.hol, rtsP e.rts⟩
theorem toCap_P (e : Wd.Ent) : cap0P (toCap e) = entP e := rfl
theorem isKey_eq (a b p : Int) (e : Wd.Ent) : isKey a b p (toCap e) = decide (e.k = (a, b, p)) := by
  unfold isKey toCap
  obtain ⟨⟨x, y, z⟩, _, _, _⟩ := e
  simp [Prod.ext_iff]
theorem mem_ofA {a : Int} {rows : List Wd.Row} {r : Wd.Row} (h : r ∈ Wd.ofA a rows) : r ∈ rows := (List.mem_filter.mp h).1
theorem SW.tld {C CC : Addr} {h : Hs} {n : Nat} {w : Wd.Wld} {pt : Wd.Row → P} {kept : List P} {I : List Nat} (S : SW C CC h n w pt kept I) : TldOk w.m w.cut (w.caps.map toCap) (Wd.byA (chgOf pt) w) := by
  have ok := S.ok
  have m0 := ok.m0
  have m1 := ok.m1
  refine ⟨fun CC => ⟨by omega, ok.cl, by rw [List.length_map, Wd.byA_len], fun c hc => ⟨ok.c0 c hc, ok.c1 c hc⟩, fun cs hcs => ?_⟩, by rw [List.length_map]; have := ok.kl; omega, fun cs hcs c hc => ?_⟩
  · obtain ⟨ds, hd, rfl⟩ := List.mem_map.mp hcs
    unfold Wd.byA at hd
    obtain ⟨a, _, rfl⟩ := List.mem_map.mp hd
    rw [List.length_map, List.length_map]
    have h1 : (Wd.ofA (a : Int) w.rows).length ≤ w.rows.length := List.length_filter_le ..
    have := ok.rl
    omega
  · unfold Wd.byA at hcs
    obtain ⟨a, _, rfl⟩ := List.mem_map.mp hcs
    obtain ⟨r, hr, rfl⟩ := List.mem_map.mp hc
    refine ⟨r.pub.map pubP, rfl, by rw [List.length_map]; have := ok.pl r (mem_ofA hr); omega, fun x hx => ?_⟩
    obtain ⟨u, _, rfl⟩ := List.mem_map.mp hx
    cases u with
    | grant hh rr => exact .inl ⟨_, _, rfl⟩
    | revoke c => exact .inr ⟨"revoke", [capP c], by decide, rfl⟩
    | mark => exact .inr ⟨"seal", [], by decide, rfl⟩
theorem findC_row {w : Wd.Wld} (ok : Wd.WOk w) (pt : Wd.Row → P) (a b : Int) : findC w.cut (Wd.byA (chgOf pt) w) a b = (Wd.rowOf w a b).map (chgOf pt) := by
  have m0 := ok.m0
  unfold findC
  by_cases ha : 0 ≤ a ∧ a < w.m
  · rw [Wd.rowOf_at ok b ha.1]
    have hl : a.toNat < w.m.toNat := by omega
    have g := Wd.byA_get (chgOf pt) w hl
    rw [Int.toNat_of_nonneg ha.1] at g
    unfold Wd.cutA
    have c0 : 0 ≤ w.cut[a.toNat]?.getD 0 := by
      cases e : w.cut[a.toNat]? with
      | none => exact Int.le_refl 0
      | some c => exact ok.c0 c (List.mem_of_getElem? e)
    by_cases hb : w.cut[a.toNat]?.getD 0 < b
    · rw [if_pos ⟨ha.1, by rw [ok.cl]; omega, by omega, hb⟩, if_pos hb, g, Option.getD_some, List.getElem?_map]
    · rw [if_neg (fun z => hb z.2.2.2), if_neg hb]; rfl
  · rw [Wd.rowOf_out ok ha, if_neg (fun z => ha ⟨z.1, by have := z.2.1; rw [ok.cl] at this; omega⟩)]; rfl
theorem told_eq {w : Wd.Wld} (ok : Wd.WOk w) (pt : Wd.Row → P) (c : K3) : toldD (w.caps.map toCap) w.cut (Wd.byA (chgOf pt) w) c.1 c.2.1 c.2.2 = toldP (Wd.told w c) := by
  unfold toldD Wd.told
  rw [List.find?_map]
  have e : (isKey c.1 c.2.1 c.2.2 ∘ toCap) = fun e => decide (e.k = c) := by
    funext e
    show isKey c.1 c.2.1 c.2.2 (toCap e) = _
    rw [isKey_eq]
  rw [e, findC_row ok]
  cases w.caps.find? fun e => decide (e.k = c) with
  | some x => rfl
  | none =>
    dsimp only [Option.map_none]
    unfold Wd.rowTold
    cases er : Wd.rowOf w c.1 c.2.1 with
    | none => rfl
    | some r =>
      dsimp only [Option.map_some, chgOf, pubsP]
      unfold pubT
      rw [List.length_map]
      by_cases h0 : 0 ≤ c.2.2
      · rw [if_pos h0, List.getElem?_map]
        by_cases h1 : c.2.2 < (r.pub.length : Nat)
        · rw [if_pos ⟨h0, h1⟩]
          have hl : c.2.2.toNat < r.pub.length := by omega
          rw [List.getElem?_eq_getElem hl]
          generalize r.pub[c.2.2.toNat] = u
          cases u with
          | grant hh rr => rfl
          | revoke cc => rfl
          | mark => rfl
        · rw [if_neg (fun z => h1 z.2), List.getElem?_eq_none_iff.mpr (by omega)]; rfl
      · rw [if_neg h0, if_neg (fun z => h0 z.1)]; rfl
section
variable {Pg : Program} {w : World} {K : PySem.W.Frag} {Θ : List Addr} {mg : Str → Option Value} {base : Heap} {C CS CK CC : Addr} {c Pt : Addr}
def W_told2 (C CC : Addr) : Spc := fun ds h R => ∃ (n : Nat) (w : Wd.Wld) (c : K3), ds = [.own n, .p (k3P c)] ∧ SWx C CC h n w ∧ R (.p (toldP (Wd.told w c))) h
theorem told2 (h : HasF Pg w K mg base CX0 4 "_told_of" ["store", "capability"] (spD K Θ (W_told C CC))) : HasF Pg w K mg base CX0 4 "_told_of" ["store", "capability"] (spD K Θ (W_told2 C CC)) :=
  h.weak fun ds h R ⟨n, w, c, e, ⟨pt, kept, I, S⟩, q⟩ => by
    refine ⟨n, w.m, w.cut, w.caps.map toCap, kept, Wd.byA (chgOf pt) w, I, c.1, c.2.1, c.2.2, e, ?_, S.tld, by rw [told_eq S.ok]; exact q⟩
    have z := S.at_
    rw [List.map_map]
    exact z
abbrev st_iskept : Stmt := (topS 13)
theorem sc_iskept : FnScope ["store", "capability", "entry"] ["store", "capability"] (defScope st_iskept) := ⟨rfl, rfl, rfl, by decide +kernel, rfl, by decide +kernel, by decide +kernel⟩
def W_iskept (C CC : Addr) : Spc := fun ds h R => ∃ (n : Nat) (w : Wd.Wld) (c : K3), ds = [.own n, .p (k3P c)] ∧ SWx C CC h n w ∧ R (dB (Wd.isKept w c)) h
theorem SW.caps {C CC : Addr} {h : Hs} {n : Nat} {w : Wd.Wld} {pt : Wd.Row → P} {kept : List P} {I : List Nat} (S : SW C CC h n w pt kept I) : ∃ i, FldD "capabilities" (.own n) h C (.own i) ∧ h[i]? = some (some (.lst ((w.caps.map entP).map D.p))) := by
  obtain ⟨i1, i2, i3, i4, js, _, h1, h2, h3, _⟩ := S.at_.ex
  exact ⟨i2, ⟨_, h1, by kernel_rfl⟩, h3⟩
theorem ok_iskept (A : DefT K mg "is_kept" st_iskept ["store", "capability"] c) (TB : GxR.TabB base mg c Pt) (hP : Pt ∈ Θ) (T : StoC K mg C) (m_any : mg "any" = none) :
    HasF Pg w K mg base CX0 4 "is_kept" ["store", "capability"] (spD K Θ (W_iskept C CC)) := by
  have sc := sc_iskept
  refine A.okD sc (W_iskept C CC) (fun ds h R ⟨_, _, _, e, _⟩ => by rw [e]; rfl) fun f A outer s H E hr => ?_
  refine ⟨_, (pss_one (ps_ret (Gx.pe_anyG (k := 0) (own := [("entry", 2)]) (hr.mono (by first | decide | omega)) rfl m_any TB rfl rfl sc.nd ⟨blkOk_by (N := ["store", "capability", "entry"]) (sc := defScope (topS 13)) (by decide +kernel), rfl, by decide +kernel, rfl⟩ (pi_seqK (K := K) (by rfl) (pe_fldK (K := K) (by rfl) (pv 0) rfl)) (fun _ _ _ _ _ => (pg_name (i := 2) sc.nd rfl (.inl rfl))) (fun _ _ _ _ _ hr => (pe_cmpR (op_eqUK (K := K) (by rfl) hr.units) (pe_ix (ix_seqK (K := K) (by rfl)) (pv 2) pe_int (fun _ _ => rfl)) (pv 1) (nomark _))) (fun _ => rfl)))), ?_⟩
  try dsimp only [cxOf]
  rintro ds h R ⟨n, w, c, rfl, ⟨pt, kept, I, S⟩, q⟩
  have sz := sizeLine_eq
  obtain ⟨i, f1, f2⟩ := S.caps
  k_places
  refine ve_anyL (Θ := Ctx.plain Θ) hP tg_name w.caps (fun e => .p (entP e)) (fun e => decide (e.k = c)) ?_
  refine vi_seqO ?_
  refine ve_fld ?_
  k_places
  refine ⟨C, .own i, T.cl, T.n3, f1, ?_⟩
  refine ⟨i, _, rfl, f2, by rw [List.map_map]; rfl, f2, fun e he => ?_, q⟩
  refine vg_name ⟨rfl, ?_⟩
  k_places
  refine v2_ixT (at_nat 0 (by omega) rfl) ?_
  k_places
  exact v2_eqK3 ⟨rfl, rfl⟩
end
end Law

namespace Law
open PySem PySem.Spec PyProof.Rows L2 Kb Gx
-- the steps that are tried: k_clsL a side condition; k_subL one step; k_places steps as long as one fits
local macro_rules | `(tactic| k_clsL) => `(tactic| first | assumption | decide | omega)
local macro_rules | `(tactic| k_subL) => `(tactic| first
  | (with_reducible refine vs_seq ?_) | (with_reducible refine vs_asg ?_) | (with_reducible refine vg_name ?_) | (with_reducible refine vs_ret ?_) | (with_reducible refine vs_if ?_) | (with_reducible refine vs_next ?_) | (with_reducible refine vs_drop ?_)
  | (with_reducible refine vt_test ?_) | (with_reducible refine vt_B ?_) | (with_reducible refine vt_and ?_) | (with_reducible refine vt_or ?_) | (with_reducible refine vt_not ?_) | (with_reducible refine vt_truth ?_)
  | (with_reducible refine ve_op ?_) | (with_reducible refine ve_isi2 ?_) | ((with_reducible refine isi2_i (T := "tuple") ?hT ?hm ?hn ?_); (case hT => exact rfl); (case hm => decide); (case hn => decide)) | ((with_reducible refine isi2_i (T := "list") ?hT ?hm ?hn ?_); (case hT => exact rfl); (case hm => decide); (case hn => decide)) | ((with_reducible refine isi2_i (T := "int") ?hT ?hm ?hn ?_); (case hT => exact rfl); (case hm => decide); (case hn => decide)) | ((with_reducible refine isi2_i (T := "bool") ?hT ?hm ?hn ?_); (case hT => exact rfl); (case hm => decide); (case hn => decide)) | ((with_reducible refine isi2_i (T := "str") ?hT ?hm ?hn ?_); (case hT => exact rfl); (case hm => decide); (case hn => decide)) | ((with_reducible refine isi2_i (T := "NoneType") ?hT ?hm ?hn ?_); (case hT => exact rfl); (case hm => decide); (case hn => decide)) | (with_reducible refine ve_cb ?_) | (with_reducible refine va_cons ?_) | (with_reducible refine va_nil ?_) | (with_reducible refine ve_call ?_)
  | (with_reducible refine ve_int ?_) | (with_reducible refine ve_str ?_) | (with_reducible refine ve_bl ?_) | (with_reducible refine ve_non ?_) | (with_reducible refine ve_ty ?_)
  | (refine ve_var (by exact rfl) ?_)
  | (with_reducible refine ve_and ?_) | (with_reducible refine ve_or ?_) | (with_reducible refine ve_not ?_) | (with_reducible refine ve_chain ?_) | (with_reducible refine ve_un ?_) | (with_reducible refine ve_if ?_)
  | (with_reducible refine bool_ans ?_) | (with_reducible refine tru_bl ?_)
  | (with_reducible refine vc_intI ?_) | (with_reducible refine vc_intB ?_) | (with_reducible refine v2_addI ?_) | (with_reducible refine v2_sub ?_)
  | (with_reducible refine v2_lt ?_) | (with_reducible refine v2_le ?_) | (with_reducible refine v2_gt ?_) | (with_reducible refine v2_ge ?_)
  | (with_reducible refine v2_eqI ?_) | (with_reducible refine v2_eqS ?_) | (with_reducible refine v2_eqB ?_) | (with_reducible refine v2_neI ?_) | (with_reducible refine v2_neS ?_) | (with_reducible refine v2_neB ?_)
  | (with_reducible refine v2_isN ?_) | (with_reducible refine v2_notN ?_) | (with_reducible refine v2_isNU ?_) | ((with_reducible refine v2_isBl ?hx ?_); (case hx => exact rfl))
  | (with_reducible refine v2_addVI ?_) | (with_reducible refine v2_addWI ?_) | (with_reducible refine v2_ltI ?_) | (with_reducible refine v2_ltB ?_) | (with_reducible refine v2_ltS ?_)
  | ((with_reducible refine v2_divW ?hm ?_); case hm => (constructor <;> k_clsL))
  | ((with_reducible refine v2_mulU ?hm ?_); case hm => first | exact cmul_small (by k_clsL) (by k_clsL) | exact cmul_wide (by k_clsL) (by k_clsL))
  | ((with_reducible refine v2_mod ?hm ?_); case hm => k_clsL) | ((with_reducible refine v2_div ?hm ?_); case hm => (constructor <;> k_clsL))
  | ((with_reducible refine v2_mul ?hm ?_); case hm => first | exact cmul_small (by k_clsL) (by k_clsL) | exact cmul_wide (by k_clsL) (by k_clsL))
  | (with_reducible refine vc_abs ?_) | (with_reducible refine vc_min2 ?_) | (with_reducible refine vc_max2 ?_)
  | (with_reducible refine ve_tup ?_) | ((with_reducible refine tup_j ?hl ?_); (case hl => exact rfl))
  | ((with_reducible refine vc_isi (T := "tuple") ?hT ?hn ?_); (case hT => first | exact rfl | exact ⟨rfl, _, by first | assumption | simp⟩); (case hn => decide)) | ((with_reducible refine vc_isi (T := "list") ?hT ?hn ?_); (case hT => first | exact rfl | exact ⟨rfl, _, by first | assumption | simp⟩); (case hn => decide)) | ((with_reducible refine vc_isi (T := "int") ?hT ?hn ?_); (case hT => first | exact rfl | exact ⟨rfl, _, by first | assumption | simp⟩); (case hn => decide)) | ((with_reducible refine vc_isi (T := "bool") ?hT ?hn ?_); (case hT => first | exact rfl | exact ⟨rfl, _, by first | assumption | simp⟩); (case hn => decide)) | ((with_reducible refine vc_isi (T := "str") ?hT ?hn ?_); (case hT => first | exact rfl | exact ⟨rfl, _, by first | assumption | simp⟩); (case hn => decide)) | ((with_reducible refine vc_isi (T := "NoneType") ?hT ?hn ?_); (case hT => first | exact rfl | exact ⟨rfl, _, by first | assumption | simp⟩); (case hn => decide))
  | (with_reducible refine vc_lenL ?_) | (with_reducible refine vc_lenT ?_) | (with_reducible refine ite_nrefl ?_) | (with_reducible refine ite_refl ?_)
  | ((with_reducible refine ite_tt ?hc ?_); (case hc => first | decide | exact rfl)) | ((with_reducible refine ite_ff ?hc ?_); (case hc => first | decide | exact rfl))
  | (with_reducible refine v1_U ?_))
local macro_rules | `(tactic| k_places) => `(tactic| repeat k_subL)
local macro_rules | `(tactic| k_offL) => `(tactic| repeat ((fail_if_success (with_reducible refine vs_seq ?_)); k_subL))

theorem StoreAt.le {C : Addr} {h h' : Hs} {n : Nat} {m : Int} {cut : List Int} {caps kept : List P} {chs : List (List P)} {I : List Nat} (S : StoreAt C h n m cut caps kept chs I) (l : HLe h h') : StoreAt C h' n m cut caps kept chs I := by
  obtain ⟨i1, i2, i3, i4, js, e, h1, h2, h3, h4, h5, h6, h7, h8⟩ := S.ex
  exact ⟨i1, i2, i3, i4, js, e, l _ _ h1, l _ _ h2, l _ _ h3, l _ _ h4, l _ _ h5, h6, fun k j cs a b => l _ _ (h7 k j cs a b), h8⟩
theorem SW.le {C CC : Addr} {h h' : Hs} {n : Nat} {w : Wd.Wld} {pt : Wd.Row → P} {kept : List P} {I : List Nat} (S : SW C CC h n w pt kept I) (l : HLe h h') : SW C CC h' n w pt kept I := ⟨S.at_.le l, S.ok⟩
theorem SWx.le {C CC : Addr} {h h' : Hs} {n : Nat} {w : Wd.Wld} (S : SWx C CC h n w) (l : HLe h h') : SWx C CC h' n w := by
  obtain ⟨pt, kept, I, S⟩ := S
  exact ⟨pt, kept, I, S.le l⟩
def keyK (k : K3) : List Key := [.inl k.1, .inl k.2.1, .inl k.2.2]
def keysD (ks : List K3) : List (List Key × Kb.D) := ks.map fun k => (keyK k, dB true)
theorem keyK_inj {a b : K3} : keyK a = keyK b ↔ a = b := by
  unfold keyK
  obtain ⟨x, y, z⟩ := a
  obtain ⟨x', y', z'⟩ := b
  simp
theorem vK_keys (ks : List K3) (k : K3) : (vK (keysD ks) (keyK k)).isSome = decide (k ∈ ks) := by
  rw [← vK_any]
  unfold keysD
  rw [List.any_map]
  induction ks with
  | nil => rfl
  | cons a ks ih =>
    rw [List.any_cons, ih]
    show (decide (keyK a = keyK k) || _) = _
    by_cases e : a = k
    · subst e; simp
    · have e2 : ¬ keyK a = keyK k := fun z => e (keyK_inj.mp z)
      have e3 : ¬ k = a := fun z => e z.symm
      simp [e2, e3]
theorem pK_keys {ks : List K3} {k : K3} (h : k ∉ ks) : pK (keysD ks) (keyK k) (dB true) = keysD (ks ++ [k]) := by
  unfold pK
  have e := vK_any (keyK k) (keysD ks)
  rw [vK_keys, decide_eq_false h] at e
  rw [e, if_neg (by decide)]
  unfold keysD
  rw [List.map_append]; rfl
/-- the path of a capability, as data -/
def pathR (w : Wd.Wld) (c : Option K3) : List (Option K3) := match Wd.pathW w c with
  | none => []
  | some ks => ks.map some ++ [none]
section
variable {Pg : Program} {w : World} {K : PySem.W.Frag} {Θ : List Addr} {mg : Str → Option Value} {base : Heap} {C CS CK CC : Addr} {c Pt : Addr}
abbrev st_pathof : Stmt := (topS 12)
theorem sc_pathof : FnScope ["store", "capability", "path", "there", "told"] ["store", "capability"] (defScope st_pathof) := ⟨rfl, rfl, rfl, by decide +kernel, rfl, by decide +kernel, by decide +kernel⟩
def W_pathof (C CC : Addr) : Spc := fun ds h R => ∃ (n : Nat) (w : Wd.Wld) (c : Option K3), ds = [.own n, .p (capP c)] ∧ SWx C CC h n w ∧ Wd.PathOk w ∧ R (dL ((pathR w c).map capP)) h
theorem keys_len {w : Wd.Wld} (ok : Wd.WOk w) : (Wd.keysOf w).length ≤ 1001000 := by
  unfold Wd.keysOf
  rw [List.length_append, List.length_map, List.length_flatten]
  have h1 := ok.kl
  have h2 := ok.rl
  have h3 := ok.pl
  generalize w.rows = rows at h2 h3
  have : ∀ rows : List Wd.Row, (∀ r ∈ rows, r.pub.length ≤ 1000) → (List.map List.length (List.map (fun (r : Wd.Row) => List.map (fun (i : Nat) => ((r.a, r.n, (i : Int)) : Wd.Key)) (List.range r.pub.length)) rows)).sum ≤ 1000 * rows.length := by
    intro rows
    induction rows with
    | nil => intro _; simp
    | cons r rows ih =>
      intro hr
      have a := ih fun x hx => hr x (List.mem_cons_of_mem _ hx)
      have b := hr r List.mem_cons_self
      simp only [List.map_cons, List.sum_cons, List.length_map, List.length_range, List.length_cons] at a ⊢
      omega
  have := this rows h3
  omega
theorem told_par {w : Wd.Wld} {k : K3} {p : Option K3} {hh : Int} {r : Wd.Rts} (h : Wd.told w k = some (p, hh, r)) : Wd.par w k = some p := by
  unfold Wd.par; rw [h]; rfl
theorem ok_pathof (A : DefAt K mg "path_of" st_pathof ["store", "capability"]) (m_list : mg "list" = none) (h__told_of : HasF Pg w K mg base CX0 4 "_told_of" ["store", "capability"] (spD K Θ (W_told2 C CC)))
    (h_is_kept : HasF Pg w K mg base CX0 4 "is_kept" ["store", "capability"] (spD K Θ (W_iskept C CC))) : HasF Pg w K mg base CX0 5 "path_of" ["store", "capability"] (spD K Θ (W_pathof C CC)) := by
  have sc := sc_pathof
  refine A.okD sc (W_pathof C CC) (fun ds h R ⟨_, _, _, e, _⟩ => by rw [e]; rfl) fun f cdv A outer s H E hr => ?_
  refine ⟨_, (pss_cons (ps_set (i := 2) sc.nd rfl (.inl rfl) pe_dnewT)
  (pss_cons (ps_set (i := 3) sc.nd rfl (.inl rfl) pe_bl)
  (pss_cons (ps_while PassesOwn.never (PW.pt (pw_and (pt_cmpR op_notN (pv 1) pe_non (nomark _)) (pw_and1 (pt_cmpR (op_ninDT (hu_of hr)) (pv 1) (pv 2) (by rfl)))))
  (pss_cons (ps_set (i := 4) sc.nd rfl (.inl rfl) (h__told_of.call (hr.mono (by first | decide | omega)) rfl pass0 (pa_cons (pv 0) (pa_cons (pv 1) pa_nil))))
  (pss_cons (ps_if (pt_cmpR op_isU (pv 4) pe_non (nomark _)) (pss_one ps_break) pss_nil)
  (pss_cons (ps_set (i := 3) sc.nd rfl (.inl rfl) (pe_or (pv 3) (pe_one (h_is_kept.call (hr.mono (by first | decide | omega)) rfl pass0 (pa_cons (pv 0) (pa_cons (pv 1) pa_nil))))))
  (pss_cons (ps_dput (hu_of hr) (pv 2) (pv 1) pe_bl rfl)
  (pss_one (ps_set (i := 1) sc.nd rfl (.inl rfl) (pe_ix (ix_seqK (K := K) (by rfl)) (pv 4) pe_int (fun _ _ => rfl)))))))))
  (pss_cons (ps_if (PW.pt (pw_or (pt_truth (pv 3) (by intro _; rfl)) (pw_or1 (pt_cmpR op_isU (pv 1) pe_non (nomark _))))) (pss_one (ps_ret (pe_op (op_addWK (K := K) (by rfl)) (pe_callTy (call_listDT rfl) (by rfl) m_list (by decide +kernel) (pa_cons (pv 2) pa_nil)) (pe_lst (pa_cons pe_non pa_nil))))) pss_nil)
  (pss_one (ps_ret (pe_lst pa_nil))))))), ?_⟩
  try dsimp only [cxOf]
  rintro ds h R ⟨n, w, c, rfl, S, ok, q⟩
  have sz := sizeLine_eq
  obtain ⟨_, _, _, S0⟩ := id S
  have kl := keys_len S0.ok
  refine vs_fin ?_
  k_subL; k_subL
  refine ve_dnewT ?_
  k_places
  refine vs_mid (fun env' h' => ∃ (ks : List K3) (d : Option K3) (o4 : Option Kb.D), Wd.Walk (Wd.par w) c ks d ∧ (∀ k, d = some k → k ∈ ks ∨ Wd.par w k = none) ∧ ks.length ≤ 1001000 ∧
    env' = [some (.own n), some (.p (capP d)), some (.own h.length), some (dB (ks.any (Wd.isKept w))), o4] ∧ h' = h ++ [some (.dT (keysD ks))]) ?_ ?_
  · refine vs_whileN (n0 := (Wd.keysOf w).length) (fun N env' h' => ∃ (ks : List K3) (d : Option K3) (o4 : Option Kb.D), Wd.Walk (Wd.par w) c ks d ∧ ks.Nodup ∧ ks.length + N = (Wd.keysOf w).length ∧
      env' = [some (.own n), some (.p (capP d)), some (.own h.length), some (dB (ks.any (Wd.isKept w))), o4] ∧ h' = h ++ [some (.dT (keysD ks))]) ⟨[], c, none, .nil c, .nil, by simp, rfl, rfl⟩ ?_
    rintro N env' h' ⟨ks, d, o4, wk, nd, hN, rfl, rfl⟩
    have hs : (h ++ [some (OO.dT (keysD ks))])[h.length]? = some (some (OO.dT (keysD ks))) := List.getElem?_concat_length
    have S' : SWx C CC (h ++ [some (OO.dT (keysD ks))]) n w := S.le (HLe.push _ _)
    cases d with
    | none =>
      k_places
      exact ⟨ks, none, _, wk, (fun k e => by cases e), by omega, rfl, rfl⟩
    | some k =>
      k_places
      show V2 _ _ _ (dT ((keyK k).map kP)) _ _ _
      refine v2_inDT hs ?_
      rw [if_pos rfl, vK_keys]
      k_places
      refine ite_ndec (fun e => ?_) (fun e => ?_)
      · k_places
        refine ⟨n, w, k, rfl, S', ?_⟩
        cases et : Wd.told w k with
        | none =>
          k_places
          refine vs_break ?_
          refine ⟨ks, some k, _, wk, fun j ej => .inr ?_, by omega, rfl, rfl⟩
          cases ej
          unfold Wd.par; rw [et]; rfl
        | some t =>
          obtain ⟨p, hh, rr⟩ := t
          have pk := told_par et
          have wk2 := wk.snoc pk
          have nd2 : (ks ++ [k]).Nodup := by
            rw [List.nodup_append]
            exact ⟨nd, by simp, fun a ha b hb => by rw [List.mem_singleton.mp hb]; exact fun z => e (z ▸ ha)⟩
          have le2 := Wd.nodup_sub nd2 fun j hj => Wd.par_some (wk2.mem_told j hj)
          rw [List.length_append, List.length_singleton] at le2
          have pu : (ks ++ [k]).any (Wd.isKept w) = (ks.any (Wd.isKept w) || Wd.isKept w k) := by rw [List.any_append]; simp
          k_places
          refine ite_b (fun e1 => ?_) (fun e1 => ?_)
          all_goals k_places
          rotate_left
          refine ⟨n, w, k, rfl, S', ?_⟩
          rotate_left
          all_goals
            k_places
            refine vs_dput ?_
            k_places
            refine ⟨h.length, keysD ks, keyK k, rfl, rfl, hs, by unfold keysD; rw [List.length_map]; omega, ?_⟩
            rw [pK_keys e, List.set_append_right _ _ (Nat.le_refl _), Nat.sub_self]
            k_places
            refine v2_ixT (at_nat 0 (by omega) rfl) ?_
            k_places
            refine ⟨N - 1, by omega, ks ++ [k], p, some (.p (toldP (some (p, hh, rr)))), wk2, nd2, by rw [List.length_append, List.length_singleton]; omega, ?_, rfl⟩
            rw [pu, e1]
            rfl
      · k_places
        exact ⟨ks, some k, _, wk, (fun j ej => .inl (by cases ej; exact e)), by omega, rfl, rfl⟩
  · rintro env' h' ⟨ks, d, o4, wk, hd, hl, rfl, rfl⟩
    have hs : (h ++ [some (OO.dT (keysD ks))])[h.length]? = some (some (OO.dT (keysD ks))) := List.getElem?_concat_length
    have we := Wd.walk_end ok wk hd
    k_places
    unfold pathR at q
    have lk : ((keysD ks).map fun p : List Key × Kb.D => dT (p.1.map kP)) = (ks.map fun k => k3P k).map Kb.D.p := by
      unfold keysD
      rw [List.map_map, List.map_map]; rfl
    have ans : (ks.any (Wd.isKept w) || d.isNone) = true → R (dL (((ks.map some ++ [none]).map capP))) h := fun e => by
      rw [if_pos e] at we
      rw [← we] at q
      exact q
    have le : (ks.map some ++ [none]).map capP = (ks.map fun k => k3P k) ++ [.non] := by
      rw [List.map_append, List.map_map]; rfl
    rw [le] at ans
    refine ite_b (fun e1 => ?_) (fun e1 => ?_)
    · k_places
      refine vc_listDT hs ?_
      rw [lk]
      k_places
      refine ve_lst ?_
      k_places
      refine v2_addWO List.getElem?_concat_length (by rw [List.length_map, List.length_singleton]; omega) ?_
      refine ⟨_, List.append_assoc .., .inl ⟨_, rfl, ans (by rw [e1]; rfl)⟩⟩
    · cases d with
      | none =>
        k_places
        refine vc_listDT hs ?_
        rw [lk]
        k_places
        refine ve_lst ?_
        k_places
        refine v2_addWO List.getElem?_concat_length (by rw [List.length_map, List.length_singleton]; omega) ?_
        refine ⟨_, List.append_assoc .., .inl ⟨_, rfl, ans (by simp)⟩⟩
      | some k =>
        k_places
        refine ve_lst ?_
        k_places
        refine fin_p _ ?_
        rw [e1, if_neg (by simp)] at we
        rw [← we] at q
        exact q
abbrev st_capinfo : Stmt := (topS 10)
theorem sc_capinfo : FnScope ["store", "capability"] ["store", "capability"] (defScope st_capinfo) := ⟨rfl, rfl, rfl, by decide +kernel, rfl, by decide +kernel, by decide +kernel⟩
def fullR : Wd.Rts := [(true, true, true), (true, true, true), (true, true, true), (true, true, true)]
def fullK : P := .ktp [.ktp [.bl true, .bl true, .bl true], .ktp [.bl true, .bl true, .bl true], .ktp [.bl true, .bl true, .bl true], .ktp [.bl true, .bl true, .bl true]]
/-- what is told of a capability that is there -/
def infoW (w : Wd.Wld) (c : Option K3) : Option Wd.Told := match c with
  | none => some (none, 0, fullR)
  | some k => match Wd.pathW w c with
    | none => none
    | some _ => Wd.told w k
def infoP (w : Wd.Wld) (c : Option K3) : P := match c with
  | none => .tup [.non, .int 0, fullK]
  | some k => toldP (infoW w c)
def W_capinfo (C CC : Addr) : Spc := fun ds h R => ∃ (n : Nat) (w : Wd.Wld) (c : Option K3), ds = [.own n, .p (capP c)] ∧ SWx C CC h n w ∧ Wd.PathOk w ∧ R (.p (infoP w c)) h
theorem ok_capinfo (A : DefAt K mg "capability_info" st_capinfo ["store", "capability"]) {ar : Addr} (g_ALL_RIGHTS : mg "ALL_RIGHTS" = some (.ref ar)) (ha : ∀ F, RP K F fullK (.ref ar)) (h__told_of : HasF Pg w K mg base CX0 4 "_told_of" ["store", "capability"] (spD K Θ (W_told2 C CC)))
    (h_path_of : HasF Pg w K mg base CX0 5 "path_of" ["store", "capability"] (spD K Θ (W_pathof C CC))) : HasF Pg w K mg base CX0 6 "capability_info" ["store", "capability"] (spD K Θ (W_capinfo C CC)) := by
  have sc := sc_capinfo
  refine A.okD sc (W_capinfo C CC) (fun ds h R ⟨_, _, _, e, _⟩ => by rw [e]; rfl) fun f cdv A outer s H E hr => ?_
  refine ⟨_, (pss_cons (ps_if (pt_cmpR op_isU (pv 1) pe_non (nomark _)) (pss_one (ps_ret (pe_tup (pa_cons pe_non (pa_cons pe_int (pa_cons (pe_glob (v := .ref ar) rfl g_ALL_RIGHTS rfl) pa_nil)))))) pss_nil)
  (pss_cons (ps_if (pt_not (pt_truth (h_path_of.call (hr.mono (by first | decide | omega)) rfl pass0 (pa_cons (pv 0) (pa_cons (pv 1) pa_nil))) (by intro _; rfl))) (pss_one (ps_ret pe_non)) pss_nil)
  (pss_one (ps_ret (h__told_of.call (hr.mono (by first | decide | omega)) rfl pass0 (pa_cons (pv 0) (pa_cons (pv 1) pa_nil))))))), ?_⟩
  try dsimp only [cxOf]
  rintro ds h R ⟨n, w, c, rfl, S, ok, q⟩
  cases c with
  | none =>
    k_places
    refine ve_kp ha ?_
    k_places
    exact q
  | some k =>
    k_places
    refine ⟨n, w, some k, rfl, S, ok, ?_⟩
    unfold infoP infoW at q
    unfold pathR
    cases e : Wd.pathW w (some k) with
    | none =>
      rw [e] at q
      refine ⟨false, rfl, ?_⟩
      k_places
      exact q
    | some ks =>
      rw [e] at q
      refine ⟨true, by simp [TruD], ?_⟩
      k_places
      exact ⟨n, w, k, rfl, S, q⟩
abbrev st_above : Stmt := (topS 11)
theorem sc_above : FnScope ["store", "first", "second"] ["store", "first", "second"] (defScope st_above) := ⟨rfl, rfl, rfl, by decide +kernel, rfl, by decide +kernel, by decide +kernel⟩
def W_above (C CC : Addr) : Spc := fun ds h R => ∃ (n : Nat) (w : Wd.Wld) (a c : Option K3), ds = [.own n, .p (capP a), .p (capP c)] ∧ SWx C CC h n w ∧ Wd.PathOk w ∧ R (dB (decide (a ∈ pathR w c))) h
theorem ok_above (A : DefAt K mg "is_above" st_above ["store", "first", "second"]) (h_path_of : HasF Pg w K mg base CX0 5 "path_of" ["store", "capability"] (spD K Θ (W_pathof C CC))) : HasF Pg w K mg base CX0 6 "is_above" ["store", "first", "second"] (spD K Θ (W_above C CC)) := by
  have sc := sc_above
  refine A.okD sc (W_above C CC) (fun ds h R ⟨_, _, _, _, e, _⟩ => by rw [e]; rfl) fun f cdv A outer s H E hr => ?_
  refine ⟨_, (pss_one (ps_ret (pe_cmpR (op_inDK (K := K) (by rfl) hr.u65) (pv 1) (h_path_of.call (hr.mono (by first | decide | omega)) rfl pass0 (pa_cons (pv 0) (pa_cons (pv 2) pa_nil))) (by rfl)))), ?_⟩
  try dsimp only [cxOf]
  rintro ds h R ⟨n, w, a, c, rfl, S, ok, q⟩
  k_places
  refine ⟨n, w, c, rfl, S, ok, ?_⟩
  exact v2_inCap rfl q
end
end Law

namespace Law
open PySem PySem.Spec PyProof.Rows L2 Kb Gx
-- the steps that are tried: k_clsL a side condition; k_subL one step; k_places steps as long as one fits
local macro_rules | `(tactic| k_clsL) => `(tactic| first | assumption | decide | omega)
local macro_rules | `(tactic| k_subL) => `(tactic| first
  | (with_reducible refine vs_seq ?_) | (with_reducible refine vs_asg ?_) | (with_reducible refine vg_name ?_) | (with_reducible refine vs_ret ?_) | (with_reducible refine vs_if ?_) | (with_reducible refine vs_next ?_) | (with_reducible refine vs_drop ?_)
  | (with_reducible refine vt_test ?_) | (with_reducible refine vt_B ?_) | (with_reducible refine vt_and ?_) | (with_reducible refine vt_or ?_) | (with_reducible refine vt_not ?_) | (with_reducible refine vt_truth ?_)
  | (with_reducible refine ve_op ?_) | (with_reducible refine ve_isi2 ?_) | ((with_reducible refine isi2_i (T := "tuple") ?hT ?hm ?hn ?_); (case hT => exact rfl); (case hm => decide); (case hn => decide)) | ((with_reducible refine isi2_i (T := "list") ?hT ?hm ?hn ?_); (case hT => exact rfl); (case hm => decide); (case hn => decide)) | ((with_reducible refine isi2_i (T := "int") ?hT ?hm ?hn ?_); (case hT => exact rfl); (case hm => decide); (case hn => decide)) | ((with_reducible refine isi2_i (T := "bool") ?hT ?hm ?hn ?_); (case hT => exact rfl); (case hm => decide); (case hn => decide)) | ((with_reducible refine isi2_i (T := "str") ?hT ?hm ?hn ?_); (case hT => exact rfl); (case hm => decide); (case hn => decide)) | ((with_reducible refine isi2_i (T := "NoneType") ?hT ?hm ?hn ?_); (case hT => exact rfl); (case hm => decide); (case hn => decide)) | (with_reducible refine ve_cb ?_) | (with_reducible refine va_cons ?_) | (with_reducible refine va_nil ?_) | (with_reducible refine ve_call ?_)
  | (with_reducible refine ve_int ?_) | (with_reducible refine ve_str ?_) | (with_reducible refine ve_bl ?_) | (with_reducible refine ve_non ?_) | (with_reducible refine ve_ty ?_)
  | (refine ve_var (by exact rfl) ?_)
  | (with_reducible refine ve_and ?_) | (with_reducible refine ve_or ?_) | (with_reducible refine ve_not ?_) | (with_reducible refine ve_chain ?_) | (with_reducible refine ve_un ?_) | (with_reducible refine ve_if ?_)
  | (with_reducible refine bool_ans ?_) | (with_reducible refine tru_bl ?_)
  | (with_reducible refine vc_intI ?_) | (with_reducible refine vc_intB ?_) | (with_reducible refine v2_addI ?_) | (with_reducible refine v2_sub ?_)
  | (with_reducible refine v2_lt ?_) | (with_reducible refine v2_le ?_) | (with_reducible refine v2_gt ?_) | (with_reducible refine v2_ge ?_)
  | (with_reducible refine v2_eqI ?_) | (with_reducible refine v2_eqS ?_) | (with_reducible refine v2_eqB ?_) | (with_reducible refine v2_neI ?_) | (with_reducible refine v2_neS ?_) | (with_reducible refine v2_neB ?_)
  | (with_reducible refine v2_isN ?_) | (with_reducible refine v2_notN ?_) | (with_reducible refine v2_isNU ?_) | ((with_reducible refine v2_isBl ?hx ?_); (case hx => exact rfl))
  | (with_reducible refine v2_addVI ?_) | (with_reducible refine v2_addWI ?_) | (with_reducible refine v2_ltI ?_) | (with_reducible refine v2_ltB ?_) | (with_reducible refine v2_ltS ?_)
  | ((with_reducible refine v2_divW ?hm ?_); case hm => (constructor <;> k_clsL))
  | ((with_reducible refine v2_mulU ?hm ?_); case hm => first | exact cmul_small (by k_clsL) (by k_clsL) | exact cmul_wide (by k_clsL) (by k_clsL))
  | ((with_reducible refine v2_mod ?hm ?_); case hm => k_clsL) | ((with_reducible refine v2_div ?hm ?_); case hm => (constructor <;> k_clsL))
  | ((with_reducible refine v2_mul ?hm ?_); case hm => first | exact cmul_small (by k_clsL) (by k_clsL) | exact cmul_wide (by k_clsL) (by k_clsL))
  | (with_reducible refine vc_abs ?_) | (with_reducible refine vc_min2 ?_) | (with_reducible refine vc_max2 ?_)
  | (with_reducible refine ve_tup ?_) | ((with_reducible refine tup_j ?hl ?_); (case hl => exact rfl))
  | ((with_reducible refine vc_isi (T := "tuple") ?hT ?hn ?_); (case hT => first | exact rfl | exact ⟨rfl, _, by first | assumption | simp⟩); (case hn => decide)) | ((with_reducible refine vc_isi (T := "list") ?hT ?hn ?_); (case hT => first | exact rfl | exact ⟨rfl, _, by first | assumption | simp⟩); (case hn => decide)) | ((with_reducible refine vc_isi (T := "int") ?hT ?hn ?_); (case hT => first | exact rfl | exact ⟨rfl, _, by first | assumption | simp⟩); (case hn => decide)) | ((with_reducible refine vc_isi (T := "bool") ?hT ?hn ?_); (case hT => first | exact rfl | exact ⟨rfl, _, by first | assumption | simp⟩); (case hn => decide)) | ((with_reducible refine vc_isi (T := "str") ?hT ?hn ?_); (case hT => first | exact rfl | exact ⟨rfl, _, by first | assumption | simp⟩); (case hn => decide)) | ((with_reducible refine vc_isi (T := "NoneType") ?hT ?hn ?_); (case hT => first | exact rfl | exact ⟨rfl, _, by first | assumption | simp⟩); (case hn => decide))
  | (with_reducible refine vc_lenL ?_) | (with_reducible refine vc_lenT ?_) | (with_reducible refine ite_nrefl ?_) | (with_reducible refine ite_refl ?_)
  | ((with_reducible refine ite_tt ?hc ?_); (case hc => first | decide | exact rfl)) | ((with_reducible refine ite_ff ?hc ?_); (case hc => first | decide | exact rfl))
  | (with_reducible refine v1_U ?_))
local macro_rules | `(tactic| k_places) => `(tactic| repeat k_subL)
local macro_rules | `(tactic| k_offL) => `(tactic| repeat ((fail_if_success (with_reducible refine vs_seq ?_)); k_subL))

section
variable {Pg : Program} {w : World} {K : PySem.W.Frag} {Θ : List Addr} {mg : Str → Option Value} {base : Heap} {C CS CK CC : Addr} {c Pt : Addr}
abbrev st_full : Stmt := (topS 21)
theorem sc_full : FnScope ["k"] [] (defScope st_full) := ⟨rfl, rfl, rfl, by decide +kernel, rfl, by decide +kernel, by decide +kernel⟩
def W_full : Spc := fun ds h R => ds = [] ∧ R (.p (rtsP fullR)) h
theorem ok_full (A : DefAt K mg "_law_full" st_full []) (m_tuple : mg "tuple" = none) (m_range : mg "range" = none) : HasF Pg w K mg base CX0 1 "_law_full" [] (spD K Θ W_full) := by
  have sc := sc_full
  refine A.okD sc W_full (fun ds h R ⟨e, _⟩ => by rw [e]; rfl) fun f cdv A outer s H E hr => ?_
  refine ⟨_, (pss_one (ps_ret (pe_callTy (call_tuple_ofK (K := K) (by rfl)) (by rfl) m_tuple (by decide +kernel) (pa_cons (pe_lc (own := [("k", 0)]) rfl sc.nd (pi_range1 rfl m_range (pa_cons pe_int pa_nil)) (blkOk_by (N := ["k"]) (sc := defScope (topS 21)) (by decide +kernel)) (fun _ _ _ _ _ => (pg_name (i := 0) sc.nd rfl (.inl rfl))) (fun _ _ _ _ _ => pts_nil) (fun _ _ _ _ _ => (pe_tup (pa_cons pe_bl (pa_cons pe_bl (pa_cons pe_bl pa_nil)))))) pa_nil)))), ?_⟩
  try dsimp only [cxOf]
  rintro ds h R ⟨rfl, q⟩
  have sz := sizeLine_eq
  k_places
  refine ve_lcL tg_name (List.range 4) (fun i => dI (0 + (i : Int))) (fun _ => true) (fun _ => rtP (true, true, true)) ?_
  refine vi_range1 ?_
  k_places
  refine ⟨4, rfl, by decide, by decide, rfl, by simp; omega, fun _ => trivial, fun x hx acc => ?_, ?_⟩
  · refine vg_name ⟨rfl, vt_yes ⟨rfl, rfl, fun _ => ?_⟩⟩
    k_places
    exact ⟨rfl, rfl⟩
  · k_places
    exact vc_tuple rfl q
abbrev st_rights : Stmt := (topS 22)
theorem sc_rights : FnScope ["value", "bits", "rights", "k", "triple"] ["value"] (defScope st_rights) := ⟨rfl, rfl, rfl, by decide +kernel, rfl, by decide +kernel, by decide +kernel⟩
def W_rights : Spc := fun ds h R => ∃ v : Int, ds = [dI v] ∧ ∀ r : Wd.Rts, r.length = 4 → R (.p (rtsP r)) h
theorem ok_rights (A : DefAt K mg "_law_rights" st_rights ["value"]) (m_tuple : mg "tuple" = none) (m_range : mg "range" = none) (h__law_full : HasF Pg w K mg base CX0 1 "_law_full" [] (spD K Θ W_full)) :
    HasF Pg w K mg base CX0 2 "_law_rights" ["value"] (spD K Θ W_rights) := by
  have sc := sc_rights
  refine A.okD sc W_rights (fun ds h R ⟨_, e, _⟩ => by rw [e]; rfl) fun f cdv A outer s H E hr => ?_
  refine ⟨_, (pss_cons (ps_if (pt_cmpR (op_eqUK (K := K) (by rfl) hr.units) (pe_op op_mod (pv 0) pe_int) pe_int (nomark _)) (pss_one (ps_ret (h__law_full.call0 (hr.mono (by first | decide | omega)) rfl pass0))) pss_nil)
  (pss_cons (ps_set (i := 1) sc.nd rfl (.inl rfl) (pe_op op_fdivW (pv 0) pe_int))
  (pss_cons (ps_set (i := 2) sc.nd rfl (.inl rfl) (pe_lst pa_nil))
  (pss_cons (ps_for PassesOwn.never rfl (pi_range1 rfl m_range (pa_cons pe_int pa_nil)) (pg_name (i := 3) sc.nd rfl (.inl rfl))
  (pss_cons (ps_set (i := 4) sc.nd rfl (.inl rfl) (pe_tup (pa_cons (pe_cmpR (op_eqUK (K := K) (by rfl) hr.units) (pe_op op_mod (pv 1) pe_int) pe_int (nomark _)) (pa_cons (pe_cmpR (op_eqUK (K := K) (by rfl) hr.units) (pe_op op_mod (pe_op op_fdivW (pv 1) pe_int) pe_int) pe_int (nomark _)) (pa_cons (pe_cmpR (op_eqUK (K := K) (by rfl) hr.units) (pe_op op_mod (pe_op op_fdivW (pv 1) pe_int) pe_int) pe_int (nomark _)) pa_nil)))))
  (pss_cons (ps_if (pt_cmpR (op_eqUK (K := K) (by rfl) hr.units) (pe_op op_mod (pv 0) pe_int) pe_int (nomark _)) (pss_one (ps_set (i := 4) sc.nd rfl (.inl rfl) (pe_tup (pa_cons pe_bl (pa_cons (pe_cmpR (op_eqUK (K := K) (by rfl) hr.units) (pe_op op_mod (pv 1) pe_int) pe_int (nomark _)) (pa_cons (pe_cmpR (op_eqUK (K := K) (by rfl) hr.units) (pe_op op_mod (pe_op op_fdivW (pv 1) pe_int) pe_int) pe_int (nomark _)) pa_nil)))))) pss_nil)
  (pss_cons (ps_expr (pe_bm PySem.F.plainAttrs_list PySem.F.slot_list_append PySem.F.type_list_append mt_append (pv 2) (pa_cons (pv 4) pa_nil)))
  (pss_one (ps_set (i := 1) sc.nd rfl (.inl rfl) (pe_op op_fdivW (pv 1) pe_int)))))))
  (pss_one (ps_ret (pe_callTy (call_tuple_ofK (K := K) (by rfl)) (by rfl) m_tuple (by decide +kernel) (pa_cons (pv 2) pa_nil)))))))), ?_⟩
  try dsimp only [cxOf]
  rintro ds h R ⟨v, rfl, q⟩
  have sz := sizeLine_eq
  refine vs_fin ?_
  k_places
  refine ite_dec (fun e0 => ?_) (fun e0 => ?_)
  · k_places
    exact ⟨rfl, fin_p0 (q _ rfl)⟩
  k_places
  refine ve_lstO ?_
  k_places
  refine ⟨by simp, ?_⟩
  k_places
  refine vs_mid (fun env' h' => ∃ (r : Wd.Rts) (o1 o3 o4 : Option Kb.D), r.length = 4 ∧ env' = [some (dI v), o1, some (.own h.length), o3, o4] ∧ h' = h ++ [some (.lst ((r.map rtP).map Kb.D.p))]) ?_ ?_
  · refine vs_for (vi_range1 ?_)
    k_places
    refine ⟨4, rfl, by decide, by decide, ?_⟩
    refine ⟨fun i env' h' => ∃ (r : Wd.Rts) (b : Int) (o3 o4 : Option Kb.D), r.length = i ∧ env' = [some (dI v), some (dI b), some (.own h.length), o3, o4] ∧ h' = h ++ [some (.lst ((r.map rtP).map Kb.D.p))], ⟨[], _, none, none, rfl, rfl, rfl⟩, fun _ _ _ _ => trivial, ?_, ?_⟩
    · rintro i d env' h' hd ⟨r, b, o3, o4, hl, rfl, rfl⟩
      obtain ⟨hi, rfl⟩ := rng_get hd
      have hi4 : i < 4 := hi
      k_places
      refine ite_dec (fun e1 => ?_) (fun e1 => ?_)
      all_goals
        k_places
        refine ve_bm ?_
        k_places
        refine ⟨⟨rfl, _, get_last⟩, ?_⟩
        k_places
        refine vm_appL (f := rtP) (x := (_, _, _)) (by omega) ?_
        k_places
        exact ⟨r ++ [(_, _, _)], _, _, _, by rw [List.length_append, hl]; rfl, rfl, rfl⟩
    · rintro env' h' ⟨r, b, o3, o4, hl, rfl, rfl⟩
      exact ⟨r, _, _, _, hl, rfl, rfl⟩
  · rintro env' h' ⟨r, o1, o3, o4, hl, rfl, rfl⟩
    k_places
    refine vc_tuple (ps := r.map rtP) get_last ?_
    exact fin_p _ (q r hl)
abbrev st_grants : Stmt := (topS 23)
theorem sc_grants : FnScope ["rows", "grants", "row", "place"] ["rows"] (defScope st_grants) := ⟨rfl, rfl, rfl, by decide +kernel, rfl, by decide +kernel, by decide +kernel⟩
abbrev Gr := K3 × Int
def grP (g : Gr) : P := .lst [k3P g.1, .int g.2]
def GrOk (m : Int) (g : Gr) : Prop := Wd.CapOk m (some g.1) ∧ 0 ≤ g.2 ∧ g.2 < m
structure GrSrc (m : Int) (rows : List Wd.Row) : Prop where
  rl : rows.length ≤ 1000
  ok : ∀ r ∈ rows, 0 ≤ r.a ∧ r.a < m ∧ 1 ≤ r.n ∧ r.pub.length ≤ 60 ∧ ∀ u ∈ r.pub, Wd.PubOk m u
def W_grants : Spc := fun ds h R => ∃ (m : Int) (i : Nat) (rows : List Wd.Row), ds = [.own i] ∧ h[i]? = some (some (.lst ((rows.map rowP).map Kb.D.p))) ∧ GrSrc m rows ∧ ∀ gs : List Gr, (∀ g ∈ gs, GrOk m g) → gs.length ≤ 60000 → R (dL (gs.map grP)) h
theorem row_pub {r : Wd.Row} : atI [P.int r.a, .int r.n, .lst (r.hd.map P.int), capP r.cap, .lst (r.pub.map pubP), .lst [.tup [], .tup [], .tup [], .tup []]] 4 = some (.lst (r.pub.map pubP)) := at_nat 4 (by omega) rfl
theorem ok_grants (A : DefAt K mg "_law_grants" st_grants ["rows"]) (m_range : mg "range" = none) (m_len : mg "len" = none) : HasF Pg w K mg base CX0 1 "_law_grants" ["rows"] (spD K Θ W_grants) := by
  have sc := sc_grants
  refine A.okD sc W_grants (fun ds h R ⟨_, _, _, e, _⟩ => by rw [e]; rfl) fun f cdv A outer s H E hr => ?_
  refine ⟨_, (pss_cons (ps_set (i := 1) sc.nd rfl (.inl rfl) (pe_lst pa_nil))
  (pss_cons (ps_for PassesOwn.never rfl (pi_seqK (K := K) (by rfl) (pv 0)) (pg_name (i := 2) sc.nd rfl (.inl rfl))
  (pss_one (ps_for PassesOwn.never rfl (pi_range1 rfl m_range (pa_cons (pe_callB (call_lenK (K := K) (by rfl)) (by rfl) m_len (by decide +kernel) (pa_cons (pe_ix (ix_seqK (K := K) (by rfl)) (pv 2) pe_int (fun _ _ => rfl)) pa_nil)) pa_nil)) (pg_name (i := 3) sc.nd rfl (.inl rfl))
  (pss_one (ps_if (pt_cmpR (op_eqUK (K := K) (by rfl) hr.units) (pe_ix (ix_seqK (K := K) (by rfl)) (pe_ix (ix_seqK (K := K) (by rfl)) (pe_ix (ix_seqK (K := K) (by rfl)) (pv 2) pe_int (fun _ _ => rfl)) (pv 3) (fun _ _ => rfl)) pe_int (fun _ _ => rfl)) pe_str (nomark _)) (pss_one (ps_expr (pe_bm PySem.F.plainAttrs_list PySem.F.slot_list_append PySem.F.type_list_append mt_append (pv 1) (pa_cons (pe_lst (pa_cons (pe_tup (pa_cons (pe_ix (ix_seqK (K := K) (by rfl)) (pv 2) pe_int (fun _ _ => rfl)) (pa_cons (pe_ix (ix_seqK (K := K) (by rfl)) (pv 2) pe_int (fun _ _ => rfl)) (pa_cons (pv 3) pa_nil)))) (pa_cons (pe_ix (ix_seqK (K := K) (by rfl)) (pe_ix (ix_seqK (K := K) (by rfl)) (pe_ix (ix_seqK (K := K) (by rfl)) (pv 2) pe_int (fun _ _ => rfl)) (pv 3) (fun _ _ => rfl)) pe_int (fun _ _ => rfl)) pa_nil))) pa_nil)))) pss_nil)))))
  (pss_one (ps_ret (pv 1))))), ?_⟩
  try dsimp only [cxOf]
  rintro ds h R ⟨m, i0, rows, rfl, hrows, src, q⟩
  have sz := sizeLine_eq
  have li := lt_of_get hrows
  refine vs_fin ?_
  k_subL; k_subL
  refine ve_lstO ?_
  k_places
  refine ⟨by simp, ?_⟩
  k_places
  refine vs_for (vi_seqO ?_)
  k_places
  refine ⟨i0, _, rfl, get_push hrows, fun i env' h' => ∃ (gs : List Gr) (o2 o3 : Option Kb.D), (∀ g ∈ gs, GrOk m g) ∧ gs.length ≤ 60 * i ∧ env' = [some (.own i0), some (.own h.length), o2, o3] ∧ h' = h ++ [some (.lst ((gs.map grP).map Kb.D.p))], ⟨[], none, none, (fun g hg => by cases hg), by simp, rfl, rfl⟩, ?_, ?_, ?_⟩
  · rintro i env' h' ⟨gs, o2, o3, _, _, rfl, rfl⟩
    exact get_push hrows
  · rintro i d env' h' hd ⟨gs, o2, o3, hg, hl, rfl, rfl⟩
    rw [List.getElem?_map, List.getElem?_map] at hd
    cases e : rows[i]? with
    | none => rw [e] at hd; cases hd
    | some r =>
      rw [e] at hd
      cases hd
      have hi : i < rows.length := (List.getElem?_eq_some_iff.mp e).1
      have rl := src.rl
      obtain ⟨r1, r2, r3, r4, r5⟩ := src.ok r (List.mem_of_getElem? e)
      refine vg_name ?_
      refine vs_for (vi_range1 ?_)
      k_places
      refine v2_ixL row_pub ?_
      k_places
      rw [List.length_map]
      refine ⟨_, rfl, by omega, by omega, ?_⟩
      refine ⟨fun j env' h' => ∃ (gs : List Gr) (o3 : Option Kb.D), (∀ g ∈ gs, GrOk m g) ∧ gs.length ≤ 60 * i + j ∧ env' = [some (.own i0), some (.own h.length), some (.p (rowP r)), o3] ∧ h' = h ++ [some (.lst ((gs.map grP).map Kb.D.p))], ⟨gs, _, hg, by omega, rfl, rfl⟩, fun _ _ _ _ => trivial, ?_, ?_⟩
      · rintro j d env' h' hd ⟨gs, o3, hg, hl, rfl, rfl⟩
        obtain ⟨hj, rfl⟩ := rng_get hd
        have hjp : j < r.pub.length := by simpa using hj
        have gp : (r.pub.map pubP)[j]? = some (pubP r.pub[j]) := by rw [List.getElem?_map, List.getElem?_eq_getElem hjp]; rfl
        have pk := r5 _ (List.getElem_mem hjp)
        generalize r.pub[j] = u at gp pk
        k_places
        refine v2_ixL row_pub ?_
        k_places
        refine v2_ixL (at_nat j (by omega) gp) ?_
        k_places
        have stay : ∃ (gs_1 : List Gr) (o3 : Option Kb.D), (∀ g ∈ gs_1, GrOk m g) ∧ gs_1.length ≤ 60 * i + (j + 1) ∧ [some (.own i0), some (.own h.length), some (.p (rowP r)), some (dI (0 + (j : Int)))] = [some (.own i0), some (.own h.length), some (.p (rowP r)), o3] ∧
            h ++ [some (OO.lst ((gs.map grP).map Kb.D.p))] = h ++ [some (.lst ((gs_1.map grP).map Kb.D.p))] := ⟨gs, _, hg, by omega, rfl, rfl⟩
        cases u with
        | revoke c =>
          refine v2_ixT (at_nat 0 (by omega) rfl) ?_
          k_places
          exact stay
        | mark =>
          refine v2_ixT (at_nat 0 (by omega) rfl) ?_
          k_places
          exact stay
        | grant hh rr =>
          refine v2_ixT (at_nat 0 (by omega) rfl) ?_
          k_places
          refine ve_bm ?_
          k_places
          refine ⟨⟨rfl, _, get_last⟩, ?_⟩
          k_places
          refine ve_lst ?_
          k_places
          refine v2_ixL (at_nat 0 (by omega) rfl) ?_
          k_places
          refine v2_ixL (at_nat 1 (by omega) rfl) ?_
          k_places
          refine v2_ixL row_pub ?_
          k_places
          refine v2_ixL (at_nat j (by omega) gp) ?_
          k_places
          refine v2_ixT (at_nat 1 (by omega) rfl) ?_
          k_places
          refine vm_appL (f := grP) (x := ((r.a, r.n, (0 + (j : Int))), hh)) (by omega) ?_
          refine ⟨gs ++ [_], _, fun g hg' => ?_, by rw [List.length_append]; simp; omega, rfl, rfl⟩
          rcases List.mem_append.mp hg' with z | z
          · exact hg g z
          · cases List.mem_singleton.mp z
            refine ⟨fun k e => ?_, pk.1, pk.2.1⟩
            cases e
            exact ⟨r1, r2, r3, by show 0 ≤ 0 + (j : Int); omega⟩
      · rintro env' h' ⟨gs, o3, hg, hl, rfl, rfl⟩
        rw [rng_len] at hl
        exact ⟨gs, _, _, hg, by simp at hl; omega, rfl, rfl⟩
  · rintro env' h' ⟨gs, o2, o3, hg, hl, rfl, rfl⟩
    rw [List.length_map, List.length_map] at hl
    have rl := src.rl
    k_places
    exact fin_own rfl (q gs hg (by omega))
end
end Law

namespace Law
open PySem PySem.Spec PyProof.Rows L2 Kb Gx
-- the steps that are tried: k_clsL a side condition; k_subL one step; k_places steps as long as one fits
local macro_rules | `(tactic| k_clsL) => `(tactic| first | assumption | decide | omega)
local macro_rules | `(tactic| k_subL) => `(tactic| first
  | (with_reducible refine vs_seq ?_) | (with_reducible refine vs_asg ?_) | (with_reducible refine vg_name ?_) | (with_reducible refine vs_ret ?_) | (with_reducible refine vs_if ?_) | (with_reducible refine vs_next ?_) | (with_reducible refine vs_drop ?_)
  | (with_reducible refine vt_test ?_) | (with_reducible refine vt_B ?_) | (with_reducible refine vt_and ?_) | (with_reducible refine vt_or ?_) | (with_reducible refine vt_not ?_) | (with_reducible refine vt_truth ?_)
  | (with_reducible refine ve_op ?_) | (with_reducible refine ve_isi2 ?_) | ((with_reducible refine isi2_i (T := "tuple") ?hT ?hm ?hn ?_); (case hT => exact rfl); (case hm => decide); (case hn => decide)) | ((with_reducible refine isi2_i (T := "list") ?hT ?hm ?hn ?_); (case hT => exact rfl); (case hm => decide); (case hn => decide)) | ((with_reducible refine isi2_i (T := "int") ?hT ?hm ?hn ?_); (case hT => exact rfl); (case hm => decide); (case hn => decide)) | ((with_reducible refine isi2_i (T := "bool") ?hT ?hm ?hn ?_); (case hT => exact rfl); (case hm => decide); (case hn => decide)) | ((with_reducible refine isi2_i (T := "str") ?hT ?hm ?hn ?_); (case hT => exact rfl); (case hm => decide); (case hn => decide)) | ((with_reducible refine isi2_i (T := "NoneType") ?hT ?hm ?hn ?_); (case hT => exact rfl); (case hm => decide); (case hn => decide)) | (with_reducible refine ve_cb ?_) | (with_reducible refine va_cons ?_) | (with_reducible refine va_nil ?_) | (with_reducible refine ve_call ?_)
  | (with_reducible refine ve_int ?_) | (with_reducible refine ve_str ?_) | (with_reducible refine ve_bl ?_) | (with_reducible refine ve_non ?_) | (with_reducible refine ve_ty ?_)
  | (refine ve_var (by exact rfl) ?_)
  | (with_reducible refine ve_and ?_) | (with_reducible refine ve_or ?_) | (with_reducible refine ve_not ?_) | (with_reducible refine ve_chain ?_) | (with_reducible refine ve_un ?_) | (with_reducible refine ve_if ?_)
  | (with_reducible refine bool_ans ?_) | (with_reducible refine tru_bl ?_)
  | (with_reducible refine vc_intI ?_) | (with_reducible refine vc_intB ?_) | (with_reducible refine v2_addI ?_) | (with_reducible refine v2_sub ?_)
  | (with_reducible refine v2_lt ?_) | (with_reducible refine v2_le ?_) | (with_reducible refine v2_gt ?_) | (with_reducible refine v2_ge ?_)
  | (with_reducible refine v2_eqI ?_) | (with_reducible refine v2_eqS ?_) | (with_reducible refine v2_eqB ?_) | (with_reducible refine v2_neI ?_) | (with_reducible refine v2_neS ?_) | (with_reducible refine v2_neB ?_)
  | (with_reducible refine v2_isN ?_) | (with_reducible refine v2_notN ?_) | (with_reducible refine v2_isNU ?_) | ((with_reducible refine v2_isBl ?hx ?_); (case hx => exact rfl))
  | (with_reducible refine v2_addVI ?_) | (with_reducible refine v2_addWI ?_) | (with_reducible refine v2_ltI ?_) | (with_reducible refine v2_ltB ?_) | (with_reducible refine v2_ltS ?_)
  | ((with_reducible refine v2_divW ?hm ?_); case hm => (constructor <;> k_clsL))
  | ((with_reducible refine v2_mulU ?hm ?_); case hm => first | exact cmul_small (by k_clsL) (by k_clsL) | exact cmul_wide (by k_clsL) (by k_clsL))
  | ((with_reducible refine v2_mod ?hm ?_); case hm => k_clsL) | ((with_reducible refine v2_div ?hm ?_); case hm => (constructor <;> k_clsL))
  | ((with_reducible refine v2_mul ?hm ?_); case hm => first | exact cmul_small (by k_clsL) (by k_clsL) | exact cmul_wide (by k_clsL) (by k_clsL))
  | (with_reducible refine vc_abs ?_) | (with_reducible refine vc_min2 ?_) | (with_reducible refine vc_max2 ?_)
  | (with_reducible refine ve_tup ?_) | ((with_reducible refine tup_j ?hl ?_); (case hl => exact rfl))
  | ((with_reducible refine vc_isi (T := "tuple") ?hT ?hn ?_); (case hT => first | exact rfl | exact ⟨rfl, _, by first | assumption | simp⟩); (case hn => decide)) | ((with_reducible refine vc_isi (T := "list") ?hT ?hn ?_); (case hT => first | exact rfl | exact ⟨rfl, _, by first | assumption | simp⟩); (case hn => decide)) | ((with_reducible refine vc_isi (T := "int") ?hT ?hn ?_); (case hT => first | exact rfl | exact ⟨rfl, _, by first | assumption | simp⟩); (case hn => decide)) | ((with_reducible refine vc_isi (T := "bool") ?hT ?hn ?_); (case hT => first | exact rfl | exact ⟨rfl, _, by first | assumption | simp⟩); (case hn => decide)) | ((with_reducible refine vc_isi (T := "str") ?hT ?hn ?_); (case hT => first | exact rfl | exact ⟨rfl, _, by first | assumption | simp⟩); (case hn => decide)) | ((with_reducible refine vc_isi (T := "NoneType") ?hT ?hn ?_); (case hT => first | exact rfl | exact ⟨rfl, _, by first | assumption | simp⟩); (case hn => decide))
  | (with_reducible refine vc_lenL ?_) | (with_reducible refine vc_lenT ?_) | (with_reducible refine ite_nrefl ?_) | (with_reducible refine ite_refl ?_)
  | ((with_reducible refine ite_tt ?hc ?_); (case hc => first | decide | exact rfl)) | ((with_reducible refine ite_ff ?hc ?_); (case hc => first | decide | exact rfl))
  | (with_reducible refine v1_U ?_))
local macro_rules | `(tactic| k_places) => `(tactic| repeat k_subL)
local macro_rules | `(tactic| k_offL) => `(tactic| repeat ((fail_if_success (with_reducible refine vs_seq ?_)); k_subL))

theorem at_use {ms : List Int} {i : Int} {h : Hs} {R : Kb.D → Hs → Prop} (g : Good ms) (hl : ms.length ≤ 3780) (h0 : 0 ≤ i) (h1 : i < 2 ^ 40) (q : R (dI (lawAt ms i)) h) : W_at [dL (ms.map P.int), dI i] h R := ⟨ms, i, rfl, g, hl, h0, h1, q⟩
theorem grants_use {m : Int} {rows : List Wd.Row} {i : Nat} {h : Hs} {R : Kb.D → Hs → Prop} (e : h[i]? = some (some (.lst ((rows.map rowP).map Kb.D.p)))) (src : GrSrc m rows) (q : ∀ gs : List Gr, (∀ g ∈ gs, GrOk m g) → gs.length ≤ 60000 → R (dL (gs.map grP)) h) : W_grants [.own i] h R := ⟨m, i, rows, rfl, e, src, q⟩
local macro_rules | `(tactic| k_subL) => `(tactic| (with_reducible refine at_use (by assumption) (by assumption) (by omega) (by omega) ?_))
section
variable {Pg : Program} {w : World} {K : PySem.W.Frag} {Θ : List Addr} {mg : Str → Option Value} {base : Heap} {C CS CK CC : Addr} {c Pt : Addr}
abbrev st_choice : Stmt := (topS 24)
theorem sc_choice : FnScope ["draws", "index", "rows", "row", "pick", "grants", "own", "grant"] ["draws", "index", "rows", "row"] (defScope st_choice) := ⟨rfl, rfl, rfl, by decide +kernel, rfl, by decide +kernel, by decide +kernel⟩
def W_choice : Spc := fun ds h R => ∃ (m : Int) (ms : List Int) (x : Int) (i j : Nat) (rows : List Wd.Row) (a n : Int) (rest : List Kb.D), ds = [dL (ms.map P.int), dI x, .own i, .own j] ∧ Good ms ∧ ms.length ≤ 3780 ∧ 0 ≤ x ∧ x < 2 ^ 30 ∧
  h[i]? = some (some (.lst ((rows.map rowP).map Kb.D.p))) ∧ GrSrc m rows ∧ h[j]? = some (some (.lst (dI a :: dI n :: rest))) ∧ 0 ≤ a ∧ a < m ∧ 1 ≤ n ∧ ∀ c, Wd.CapOk m c → R (.p (capP c)) h
theorem ok_choice (A : DefAt K mg "_law_choice" st_choice ["draws", "index", "rows", "row"]) (m_len : mg "len" = none) (h__law_at : HasF Pg w K mg base CX0 2 "_law_at" ["draws", "index"] (spD K Θ W_at))
    (h__law_grants : HasF Pg w K mg base CX0 1 "_law_grants" ["rows"] (spD K Θ W_grants)) : HasF Pg w K mg base CX0 3 "_law_choice" ["draws", "index", "rows", "row"] (spD K Θ W_choice) := by
  have sc := sc_choice
  refine A.okD sc W_choice (fun ds h R ⟨_, _, _, _, _, _, _, _, _, e, _⟩ => by rw [e]; rfl) fun f cdv A outer s H E hr => ?_
  refine ⟨_, (pss_cons (ps_set (i := 4) sc.nd rfl (.inl rfl) (h__law_at.call (hr.mono (by first | decide | omega)) rfl pass0 (pa_cons (pv 0) (pa_cons (pv 1) pa_nil))))
  (pss_cons (ps_if (pt_cmpR (op_eqUK (K := K) (by rfl) hr.units) (pe_op op_mod (pv 4) pe_int) pe_int (nomark _)) (pss_one (ps_ret (pe_tup (pa_cons (pe_ix (ix_seqK (K := K) (by rfl)) (pv 3) pe_int (fun _ _ => rfl)) (pa_cons (pe_op (op_addWK (K := K) (by rfl)) (pe_ix (ix_seqK (K := K) (by rfl)) (pv 3) pe_int (fun _ _ => rfl)) (pe_op op_mod (pe_op op_fdivW (pv 4) pe_int) pe_int)) (pa_cons pe_int pa_nil)))))) pss_nil)
  (pss_cons (ps_if (PW.pt (pw_and (pt_cmpR (op_eqUK (K := K) (by rfl) hr.units) (pe_ix (ix_seqK (K := K) (by rfl)) (pv 3) pe_int (fun _ _ => rfl)) pe_int (nomark _)) (pw_and1 (pt_cmpR (op_neUK (K := K) (by rfl) hr.units) (pe_op op_mod (pv 4) pe_int) pe_int (nomark _))))) (pss_one (ps_ret pe_non)) pss_nil)
  (pss_cons (ps_set (i := 5) sc.nd rfl (.inl rfl) (h__law_grants.call (hr.mono (by first | decide | omega)) rfl pass0 (pa_cons (pv 2) pa_nil)))
  (pss_cons (ps_setLc (i := 6) (own := [("grant", 7)]) rfl sc.nd rfl rfl (sw_true rfl rfl rfl (by decide +kernel)) (pi_seqK (K := K) (by rfl) (pv 5)) (blkOk_by (N := ["draws", "index", "rows", "row", "pick", "grants", "own", "grant"]) (sc := defScope (topS 24)) (by decide +kernel)) (fun _ _ _ _ _ => (pg_name (i := 7) sc.nd rfl (.inl rfl))) (fun _ _ _ _ _ => (pts_one (pt_cmpR (op_eqUK (K := K) (by rfl) hr.units) (pe_ix (ix_seqK (K := K) (by rfl)) (pv 7) pe_int (fun _ _ => rfl)) (pe_ix (ix_seqK (K := K) (by rfl)) (pv 3) pe_int (fun _ _ => rfl)) (nomark _)))) (fun _ _ _ _ _ => (pe_ix (ix_seqK (K := K) (by rfl)) (pv 7) pe_int (fun _ _ => rfl))))
  (pss_cons (ps_if (PW.pt (pw_and (pt_cmpR op_gt (pe_callB (call_lenK (K := K) (by rfl)) (by rfl) m_len (by decide +kernel) (pa_cons (pv 6) pa_nil)) pe_int (nomark _)) (pw_and1 (pt_cmpR (op_neUK (K := K) (by rfl) hr.units) (pe_op op_mod (pv 4) pe_int) pe_int (nomark _))))) (pss_one (ps_ret (pe_ix (ix_seqK (K := K) (by rfl)) (pv 6) (pe_op op_mod (pe_op op_fdivW (pv 4) pe_int) (pe_callB (call_lenK (K := K) (by rfl)) (by rfl) m_len (by decide +kernel) (pa_cons (pv 6) pa_nil))) (fun _ _ => rfl)))) pss_nil)
  (pss_cons (ps_if (pt_cmpR op_gt (pe_callB (call_lenK (K := K) (by rfl)) (by rfl) m_len (by decide +kernel) (pa_cons (pv 5) pa_nil)) pe_int (nomark _)) (pss_one (ps_ret (pe_ix (ix_seqK (K := K) (by rfl)) (pe_ix (ix_seqK (K := K) (by rfl)) (pv 5) (pe_op op_mod (pe_op op_fdivW (pv 4) pe_int) (pe_callB (call_lenK (K := K) (by rfl)) (by rfl) m_len (by decide +kernel) (pa_cons (pv 5) pa_nil))) (fun _ _ => rfl)) pe_int (fun _ _ => rfl)))) pss_nil)
  (pss_one (ps_ret pe_non))))))))), ?_⟩
  try dsimp only [cxOf]
  rintro ds h R ⟨m, ms, x, i, j, rows, a, n, rest, rfl, hg, hm, x0, x1, hrows, src, hrow, a0, a1, n0, q⟩
  have sz := sizeLine_eq
  have lo := lawAt_lo hg x x0
  k_places
  generalize lawAt ms x = pick at lo
  refine ite_dec (fun e0 => ?_) (fun e0 => ?_)
  · k_places
    refine v2_ixO hrow (at_nat 0 (by omega) rfl) ?_
    k_places
    refine v2_ixO hrow (at_nat 1 (by omega) rfl) ?_
    k_places
    exact q (some (a, n + pick / 24 % 2, 0)) fun k e => by cases e; exact ⟨a0, a1, by show 1 ≤ n + pick / 24 % 2; omega, Int.le_refl 0⟩
  k_places
  refine v2_ixO hrow (at_nat 0 (by omega) rfl) ?_
  k_places
  refine ite_mid ?_ (fun e1 k => ?_)
  rotate_left
  · k_places
    refine ite_ndec (fun e2 => ?_) (fun _ => k)
    k_places
    exact q none (Wd.CapOk.none m)
  k_places
  refine grants_use hrows src fun gs gok gl => ?_
  k_places
  refine ve_lcL tg_name gs (fun g => .p (grP g)) (fun g => decide (g.2 = a)) (fun g => k3P g.1) ?_
  refine vi_seqL ?_
  k_places
  refine ⟨_, rfl, by rw [List.map_map]; rfl, by omega, fun _ => trivial, fun g hg' acc => ?_, ?_⟩
  · refine vg_name ⟨rfl, ?_⟩
    k_places
    refine v2_ixL (at_nat 1 (by omega) rfl) ?_
    k_places
    refine v2_ixO (get_push hrow) (at_nat 0 (by omega) rfl) ?_
    k_places
    refine ⟨rfl, rfl, fun _ => ?_⟩
    k_places
    refine v2_ixL (at_nat 0 (by omega) rfl) ?_
    exact ⟨rfl, rfl⟩
  generalize eo : gs.filter (fun g => decide (g.2 = a)) = os
  have ool : os.length ≤ 60000 := by rw [← eo]; exact Nat.le_trans (List.length_filter_le ..) gl
  have oin : ∀ g ∈ os, g ∈ gs := fun g hg' => by rw [← eo] at hg'; exact (List.mem_filter.mp hg').1
  k_places
  rw [List.length_map]
  refine ite_mid ?_ (fun e1 k => ?_)
  rotate_left
  · k_places
    refine ite_ndec (fun e2 => ?_) (fun _ => k)
    have e1 := of_decide_eq_true e1
    have hp : (0 : Int) < ((os.length : Nat) : Int) := e1
    k_places
    rw [List.length_map]
    k_places
    have j1 := Int.emod_nonneg (pick / 8) (show (os.length : Int) ≠ 0 by omega)
    have j2 := Int.emod_lt_of_pos (pick / 8) hp
    have jl : (pick / 8 % (os.length : Int)).toNat < os.length := by omega
    refine v2_ixL (at_nat _ (Int.toNat_of_nonneg j1).symm (by rw [List.getElem?_map, List.getElem?_eq_getElem jl]; rfl)) ?_
    exact q (some _) (gok _ (oin _ (List.getElem_mem jl))).1
  k_places
  rw [List.length_map]
  refine ite_dec (fun e1 => ?_) (fun e1 => ?_)
  · have hp : (0 : Int) < ((gs.length : Nat) : Int) := e1
    k_places
    rw [List.length_map]
    k_places
    have j1 := Int.emod_nonneg (pick / 8) (show (gs.length : Int) ≠ 0 by omega)
    have j2 := Int.emod_lt_of_pos (pick / 8) hp
    have jl : (pick / 8 % (gs.length : Int)).toNat < gs.length := by omega
    refine v2_ixL (at_nat _ (Int.toNat_of_nonneg j1).symm (by rw [List.getElem?_map, List.getElem?_eq_getElem jl]; rfl)) ?_
    k_places
    refine v2_ixL (at_nat 0 (by omega) rfl) ?_
    exact q (some _) (gok _ (List.getElem_mem jl)).1
  · k_places
    exact q none (Wd.CapOk.none m)
abbrev st_publics : Stmt := (topS 25)
theorem sc_publics : FnScope ["draws", "index", "rows", "members", "row", "publics", "grants", "k", "kind", "pick", "value"] ["draws", "index", "rows", "members", "row"] (defScope st_publics) := ⟨rfl, rfl, rfl, by decide +kernel, rfl, by decide +kernel, by decide +kernel⟩
def W_publics : Spc := fun ds h R => ∃ (m : Int) (ms : List Int) (x : Int) (i j : Nat) (rows : List Wd.Row) (a n : Int) (rest : List Kb.D), ds = [dL (ms.map P.int), dI x, .own i, dI m, .own j] ∧ Good ms ∧ ms.length ≤ 3780 ∧ 0 ≤ x ∧ x < 2 ^ 30 ∧ 1 ≤ m ∧
  h[i]? = some (some (.lst ((rows.map rowP).map Kb.D.p))) ∧ GrSrc m rows ∧ h[j]? = some (some (.lst (dI a :: dI n :: rest))) ∧ ∀ us : List Wd.Pub, (∀ u ∈ us, Wd.PubOk m u) → us.length ≤ 2 → R (dL (us.map pubP)) h
theorem ok_publics (A : DefAt K mg "_law_publics" st_publics ["draws", "index", "rows", "members", "row"]) (m_len : mg "len" = none) (m_range : mg "range" = none) (h__law_at : HasF Pg w K mg base CX0 2 "_law_at" ["draws", "index"] (spD K Θ W_at))
    (h__law_grants : HasF Pg w K mg base CX0 1 "_law_grants" ["rows"] (spD K Θ W_grants)) (h__law_rights : HasF Pg w K mg base CX0 2 "_law_rights" ["value"] (spD K Θ W_rights)) : HasF Pg w K mg base CX0 3 "_law_publics" ["draws", "index", "rows", "members", "row"] (spD K Θ W_publics) := by
  have sc := sc_publics
  refine A.okD sc W_publics (fun ds h R ⟨_, _, _, _, _, _, _, _, _, e, _⟩ => by rw [e]; rfl) fun f cdv A outer s H E hr => ?_
  refine ⟨_, (pss_cons (ps_set (i := 5) sc.nd rfl (.inl rfl) (pe_lst pa_nil))
  (pss_cons (ps_set (i := 6) sc.nd rfl (.inl rfl) (h__law_grants.call (hr.mono (by first | decide | omega)) rfl pass0 (pa_cons (pv 2) pa_nil)))
  (pss_cons (ps_for PassesOwn.never rfl (pi_range1 rfl m_range (pa_cons (pe_op op_mod (h__law_at.call (hr.mono (by first | decide | omega)) rfl pass0 (pa_cons (pv 0) (pa_cons (pv 1) pa_nil))) pe_int) pa_nil)) (pg_name (i := 7) sc.nd rfl (.inl rfl))
  (pss_cons (ps_set (i := 8) sc.nd rfl (.inl rfl) (pe_op op_mod (h__law_at.call (hr.mono (by first | decide | omega)) rfl pass0 (pa_cons (pv 0) (pa_cons (pe_op (op_addWK (K := K) (by rfl)) (pe_op (op_addWK (K := K) (by rfl)) (pv 1) pe_int) (pe_op op_mulU pe_int (pv 7))) pa_nil))) pe_int))
  (pss_cons (ps_set (i := 9) sc.nd rfl (.inl rfl) (h__law_at.call (hr.mono (by first | decide | omega)) rfl pass0 (pa_cons (pv 0) (pa_cons (pe_op (op_addWK (K := K) (by rfl)) (pe_op (op_addWK (K := K) (by rfl)) (pv 1) pe_int) (pe_op op_mulU pe_int (pv 7))) pa_nil))))
  (pss_one (ps_if (pt_cmpR op_lt (pv 8) pe_int (nomark _)) (pss_cons (ps_set (i := 10) sc.nd rfl (.inl rfl) (pe_op (op_addWK (K := K) (by rfl)) (pe_op op_mulU (h__law_at.call (hr.mono (by first | decide | omega)) rfl pass0 (pa_cons (pv 0) (pa_cons (pe_op (op_addWK (K := K) (by rfl)) (pe_op (op_addWK (K := K) (by rfl)) (pv 1) pe_int) (pe_op op_mulU pe_int (pv 7))) pa_nil))) pe_int) (h__law_at.call (hr.mono (by first | decide | omega)) rfl pass0 (pa_cons (pv 0) (pa_cons (pe_op (op_addWK (K := K) (by rfl)) (pe_op (op_addWK (K := K) (by rfl)) (pv 1) pe_int) (pe_op op_mulU pe_int (pv 7))) pa_nil)))))
  (pss_one (ps_expr (pe_bm PySem.F.plainAttrs_list PySem.F.slot_list_append PySem.F.type_list_append mt_append (pv 5) (pa_cons (pe_tup (pa_cons pe_str (pa_cons (pe_op op_mod (pv 9) (pv 3)) (pa_cons (h__law_rights.call (hr.mono (by first | decide | omega)) rfl pass0 (pa_cons (pv 10) pa_nil)) pa_nil)))) pa_nil))))) (pss_one (ps_if (PW.pt (pw_and (pt_cmpR op_lt (pv 8) pe_int (nomark _)) (pw_and1 (pt_cmpR op_gt (pe_callB (call_lenK (K := K) (by rfl)) (by rfl) m_len (by decide +kernel) (pa_cons (pv 6) pa_nil)) pe_int (nomark _))))) (pss_one (ps_expr (pe_bm PySem.F.plainAttrs_list PySem.F.slot_list_append PySem.F.type_list_append mt_append (pv 5) (pa_cons (pe_tup (pa_cons pe_str (pa_cons (pe_ix (ix_seqK (K := K) (by rfl)) (pe_ix (ix_seqK (K := K) (by rfl)) (pv 6) (pe_op op_mod (pv 9) (pe_callB (call_lenK (K := K) (by rfl)) (by rfl) m_len (by decide +kernel) (pa_cons (pv 6) pa_nil))) (fun _ _ => rfl)) pe_int (fun _ _ => rfl)) pa_nil))) pa_nil)))) (pss_one (ps_if (PW.pt (pw_or (PW.pt (pw_and (pt_cmpR (op_eqUK (K := K) (by rfl) hr.units) (pv 8) pe_int (nomark _)) (pw_and1 (pt_cmpR (op_eqUK (K := K) (by rfl) hr.units) (pe_ix (ix_seqK (K := K) (by rfl)) (pv 4) pe_int (fun _ _ => rfl)) pe_int (nomark _))))) (pw_or1 (PW.pt (pw_and (pt_cmpR (op_eqUK (K := K) (by rfl) hr.units) (pv 8) pe_int (nomark _)) (pw_and1 (pt_cmpR (op_eqUK (K := K) (by rfl) hr.units) (pe_op op_mod (pv 9) pe_int) pe_int (nomark _)))))))) (pss_one (ps_expr (pe_bm PySem.F.plainAttrs_list PySem.F.slot_list_append PySem.F.type_list_append mt_append (pv 5) (pa_cons (pe_tup (pa_cons pe_str pa_nil)) pa_nil)))) (pss_one (ps_if (PW.pt (pw_and (pt_cmpR (op_eqUK (K := K) (by rfl) hr.units) (pv 8) pe_int (nomark _)) (pw_and1 (pt_cmpR (op_eqUK (K := K) (by rfl) hr.units) (pe_op op_mod (pv 9) pe_int) pe_int (nomark _))))) (pss_one (ps_expr (pe_bm PySem.F.plainAttrs_list PySem.F.slot_list_append PySem.F.type_list_append mt_append (pv 5) (pa_cons (pe_tup (pa_cons pe_str (pa_cons pe_non pa_nil))) pa_nil)))) pss_nil)))))))))))
  (pss_one (ps_ret (pv 5)))))), ?_⟩
  try dsimp only [cxOf]
  rintro ds h R ⟨m, ms, x, i, j, rows, a, n, rest, rfl, hg, hm, x0, x1, m1, hrows, src, hrow, q⟩
  have sz := sizeLine_eq
  refine vs_fin ?_
  k_subL; k_subL
  refine ve_lstO ?_
  k_places
  refine ⟨by simp, ?_⟩
  k_places
  refine grants_use (get_push hrows) src fun gs gok gl => ?_
  k_places
  refine vs_for (vi_range1 ?_)
  k_places
  have lo := lawAt_lo hg x x0
  generalize lawAt ms x = cnt at lo
  refine ⟨_, rfl, by omega, by omega, ?_⟩
  refine ⟨fun t env' h' => ∃ (us : List Wd.Pub) (o7 o8 o9 o10 : Option Kb.D), (∀ u ∈ us, Wd.PubOk m u) ∧ us.length ≤ t ∧ env' = [some (dL (ms.map P.int)), some (dI x), some (.own i), some (dI m), some (.own j), some (.own h.length), some (dL (gs.map grP)), o7, o8, o9, o10] ∧
    h' = h ++ [some (.lst ((us.map pubP).map Kb.D.p))], ⟨[], none, none, none, none, (fun u hu => by cases hu), by simp, rfl, rfl⟩, fun _ _ _ _ => trivial, ?_, ?_⟩
  · rintro t d env' h' hd ⟨us, o7, o8, o9, o10, hu, ul, rfl, rfl⟩
    obtain ⟨ht, rfl⟩ := rng_get hd
    have t2 : t < 2 := by omega
    have add : ∀ u, Wd.PubOk m u → ∀ v ∈ us ++ [u], Wd.PubOk m v := fun u pu v hv => by
      rcases List.mem_append.mp hv with z | z
      · exact hu v z
      · cases List.mem_singleton.mp z; exact pu
    have alen : ∀ u, (us ++ [u]).length ≤ t + 1 := fun u => by rw [List.length_append]; simp; omega
    have l1 := lawAt_lo hg (x + 1 + 4 * (0 + (t : Int))) (by omega)
    have l2 := lawAt_lo hg (x + 2 + 4 * (0 + (t : Int))) (by omega)
    have l3 := lawAt_lo hg (x + 3 + 4 * (0 + (t : Int))) (by omega)
    have l4 := lawAt_lo hg (x + 4 + 4 * (0 + (t : Int))) (by omega)
    k_places
    generalize lawAt ms (x + 1 + 4 * (0 + (t : Int))) = kind at *
    generalize lawAt ms (x + 2 + 4 * (0 + (t : Int))) = pick at *
    refine ite_dec (fun e1 => ?_) (fun e1 => ?_)
    · k_places
      generalize lawAt ms (x + 3 + 4 * (0 + (t : Int))) = v1 at *
      k_places
      generalize lawAt ms (x + 4 + 4 * (0 + (t : Int))) = v2 at *
      refine ve_bm ?_
      k_places
      refine ⟨⟨rfl, _, get_last⟩, ?_⟩
      k_places
      refine ⟨_, rfl, fun r r4 => ?_⟩
      k_places
      refine vm_appL (f := pubP) (x := .grant _ _) (by omega) ?_
      exact ⟨us ++ [_], _, _, _, _, add (.grant (pick % m) r) ⟨Int.emod_nonneg _ (by omega), Int.emod_lt_of_pos _ (by omega), r4⟩, alen _, rfl, rfl⟩
    have stay : ∃ (us_1 : List Wd.Pub) (o7 o8 o9 o10 : Option Kb.D), (∀ u ∈ us_1, Wd.PubOk m u) ∧ us_1.length ≤ t + 1 ∧ _ = [some (dL (ms.map P.int)), some (dI x), some (.own i), some (dI m), some (.own j), some (.own h.length), some (dL (gs.map grP)), o7, o8, o9, o10] ∧
        h ++ [some (OO.lst ((us.map pubP).map Kb.D.p))] = h ++ [some (.lst ((us_1.map pubP).map Kb.D.p))] := ⟨us, some (dI (0 + (t : Int))), some (dI (kind % 8)), some (dI pick), o10, hu, by omega, rfl, rfl⟩
    k_places
    refine ite_mid ?_ (fun e2 k => ?_)
    rotate_left
    · k_places
      rw [List.length_map]
      refine ite_dec (fun e3 => ?_) (fun _ => k)
      have hp : (0 : Int) < ((gs.length : Nat) : Int) := e3
      k_places
      refine ve_bm ?_
      k_places
      refine ⟨⟨rfl, _, get_last⟩, ?_⟩
      k_places
      rw [List.length_map]
      k_places
      have j1 := Int.emod_nonneg pick (show (gs.length : Int) ≠ 0 by omega)
      have j2 := Int.emod_lt_of_pos pick hp
      have jl : (pick % (gs.length : Int)).toNat < gs.length := by omega
      refine v2_ixL (at_nat _ (Int.toNat_of_nonneg j1).symm (by rw [List.getElem?_map, List.getElem?_eq_getElem jl]; rfl)) ?_
      k_places
      refine v2_ixL (at_nat 0 (by omega) rfl) ?_
      k_places
      refine vm_appL (f := pubP) (x := .revoke (some _)) (by omega) ?_
      exact ⟨us ++ [_], _, _, _, _, add (.revoke (some _)) (gok _ (List.getElem_mem jl)).1, alen _, rfl, rfl⟩
    k_places
    refine ite_dec (fun e2 => ?_) (fun e2 => ?_)
    · k_places
      refine v2_ixO (get_push hrow) (at_nat 0 (by omega) rfl) ?_
      k_places
      refine ite_dec (fun e3 => ?_) (fun e3 => ?_)
      · k_places
        refine ve_bm ?_
        k_places
        refine ⟨⟨rfl, _, get_last⟩, ?_⟩
        k_places
        refine vm_appL (f := pubP) (x := .mark) (by omega) ?_
        exact ⟨us ++ [_], _, _, _, _, add .mark trivial, alen _, rfl, rfl⟩
      · have e7 : ¬ kind % 8 = 7 := by omega
        k_places
        refine ite_ff (decide_eq_false e7) ?_
        k_places
        refine ite_ff (decide_eq_false e7) ?_
        k_places
        exact stay
    · k_places
      refine ite_dec (fun e3 => ?_) (fun e3 => ?_)
      · k_places
        refine ite_dec (fun e4 => ?_) (fun e4 => ?_)
        · k_places
          refine ve_bm ?_
          k_places
          refine ⟨⟨rfl, _, get_last⟩, ?_⟩
          k_places
          refine vm_appL (f := pubP) (x := .mark) (by omega) ?_
          exact ⟨us ++ [_], _, _, _, _, add .mark trivial, alen _, rfl, rfl⟩
        · k_places
          refine ite_tt (decide_eq_true e3) ?_
          k_places
          refine ite_dec (fun e5 => ?_) (fun e5 => ?_)
          · k_places
            refine ve_bm ?_
            k_places
            refine ⟨⟨rfl, _, get_last⟩, ?_⟩
            k_places
            refine vm_appL (f := pubP) (x := .revoke none) (by omega) ?_
            exact ⟨us ++ [_], _, _, _, _, add (.revoke none) (Wd.CapOk.none m), alen _, rfl, rfl⟩
          · k_places
            exact stay
      · k_places
        refine ite_ff (decide_eq_false e3) ?_
        k_places
        exact stay
  · rintro env' h' ⟨us, o7, o8, o9, o10, hu, ul, rfl, rfl⟩
    rw [rng_len] at ul
    k_places
    exact fin_own rfl (q us hu (by omega))
end
end Law

namespace Law
open PySem PySem.Spec PyProof.Rows L2 Kb Gx
-- the steps that are tried: k_clsL a side condition; k_subL one step; k_places steps as long as one fits
local macro_rules | `(tactic| k_clsL) => `(tactic| first | assumption | decide | omega)
local macro_rules | `(tactic| k_subL) => `(tactic| first
  | (with_reducible refine vs_seq ?_) | (with_reducible refine vs_asg ?_) | (with_reducible refine vg_name ?_) | (with_reducible refine vs_ret ?_) | (with_reducible refine vs_if ?_) | (with_reducible refine vs_next ?_) | (with_reducible refine vs_drop ?_)
  | (with_reducible refine vt_test ?_) | (with_reducible refine vt_B ?_) | (with_reducible refine vt_and ?_) | (with_reducible refine vt_or ?_) | (with_reducible refine vt_not ?_) | (with_reducible refine vt_truth ?_)
  | (with_reducible refine ve_op ?_) | (with_reducible refine ve_isi2 ?_) | ((with_reducible refine isi2_i (T := "tuple") ?hT ?hm ?hn ?_); (case hT => exact rfl); (case hm => decide); (case hn => decide)) | ((with_reducible refine isi2_i (T := "list") ?hT ?hm ?hn ?_); (case hT => exact rfl); (case hm => decide); (case hn => decide)) | ((with_reducible refine isi2_i (T := "int") ?hT ?hm ?hn ?_); (case hT => exact rfl); (case hm => decide); (case hn => decide)) | ((with_reducible refine isi2_i (T := "bool") ?hT ?hm ?hn ?_); (case hT => exact rfl); (case hm => decide); (case hn => decide)) | ((with_reducible refine isi2_i (T := "str") ?hT ?hm ?hn ?_); (case hT => exact rfl); (case hm => decide); (case hn => decide)) | ((with_reducible refine isi2_i (T := "NoneType") ?hT ?hm ?hn ?_); (case hT => exact rfl); (case hm => decide); (case hn => decide)) | (with_reducible refine ve_cb ?_) | (with_reducible refine va_cons ?_) | (with_reducible refine va_nil ?_) | (with_reducible refine ve_call ?_)
  | (with_reducible refine ve_int ?_) | (with_reducible refine ve_str ?_) | (with_reducible refine ve_bl ?_) | (with_reducible refine ve_non ?_) | (with_reducible refine ve_ty ?_)
  | (refine ve_var (by exact rfl) ?_)
  | (with_reducible refine ve_and ?_) | (with_reducible refine ve_or ?_) | (with_reducible refine ve_not ?_) | (with_reducible refine ve_chain ?_) | (with_reducible refine ve_un ?_) | (with_reducible refine ve_if ?_)
  | (with_reducible refine bool_ans ?_) | (with_reducible refine tru_bl ?_)
  | (with_reducible refine vc_intI ?_) | (with_reducible refine vc_intB ?_) | (with_reducible refine v2_addI ?_) | (with_reducible refine v2_sub ?_)
  | (with_reducible refine v2_lt ?_) | (with_reducible refine v2_le ?_) | (with_reducible refine v2_gt ?_) | (with_reducible refine v2_ge ?_)
  | (with_reducible refine v2_eqI ?_) | (with_reducible refine v2_eqS ?_) | (with_reducible refine v2_eqB ?_) | (with_reducible refine v2_neI ?_) | (with_reducible refine v2_neS ?_) | (with_reducible refine v2_neB ?_)
  | (with_reducible refine v2_isN ?_) | (with_reducible refine v2_notN ?_) | (with_reducible refine v2_isNU ?_) | ((with_reducible refine v2_isBl ?hx ?_); (case hx => exact rfl))
  | (with_reducible refine v2_addVI ?_) | (with_reducible refine v2_addWI ?_) | (with_reducible refine v2_ltI ?_) | (with_reducible refine v2_ltB ?_) | (with_reducible refine v2_ltS ?_)
  | ((with_reducible refine v2_divW ?hm ?_); case hm => (constructor <;> k_clsL))
  | ((with_reducible refine v2_mulU ?hm ?_); case hm => first | exact cmul_small (by k_clsL) (by k_clsL) | exact cmul_wide (by k_clsL) (by k_clsL))
  | ((with_reducible refine v2_mod ?hm ?_); case hm => k_clsL) | ((with_reducible refine v2_div ?hm ?_); case hm => (constructor <;> k_clsL))
  | ((with_reducible refine v2_mul ?hm ?_); case hm => first | exact cmul_small (by k_clsL) (by k_clsL) | exact cmul_wide (by k_clsL) (by k_clsL))
  | (with_reducible refine vc_abs ?_) | (with_reducible refine vc_min2 ?_) | (with_reducible refine vc_max2 ?_)
  | (with_reducible refine ve_tup ?_) | ((with_reducible refine tup_j ?hl ?_); (case hl => exact rfl))
  | ((with_reducible refine vc_isi (T := "tuple") ?hT ?hn ?_); (case hT => first | exact rfl | exact ⟨rfl, _, by first | assumption | simp⟩); (case hn => decide)) | ((with_reducible refine vc_isi (T := "list") ?hT ?hn ?_); (case hT => first | exact rfl | exact ⟨rfl, _, by first | assumption | simp⟩); (case hn => decide)) | ((with_reducible refine vc_isi (T := "int") ?hT ?hn ?_); (case hT => first | exact rfl | exact ⟨rfl, _, by first | assumption | simp⟩); (case hn => decide)) | ((with_reducible refine vc_isi (T := "bool") ?hT ?hn ?_); (case hT => first | exact rfl | exact ⟨rfl, _, by first | assumption | simp⟩); (case hn => decide)) | ((with_reducible refine vc_isi (T := "str") ?hT ?hn ?_); (case hT => first | exact rfl | exact ⟨rfl, _, by first | assumption | simp⟩); (case hn => decide)) | ((with_reducible refine vc_isi (T := "NoneType") ?hT ?hn ?_); (case hT => first | exact rfl | exact ⟨rfl, _, by first | assumption | simp⟩); (case hn => decide))
  | (with_reducible refine vc_lenL ?_) | (with_reducible refine vc_lenT ?_) | (with_reducible refine ite_nrefl ?_) | (with_reducible refine ite_refl ?_)
  | ((with_reducible refine ite_tt ?hc ?_); (case hc => first | decide | exact rfl)) | ((with_reducible refine ite_ff ?hc ?_); (case hc => first | decide | exact rfl))
  | (with_reducible refine v1_U ?_))
local macro_rules | `(tactic| k_places) => `(tactic| repeat k_subL)
local macro_rules | `(tactic| k_offL) => `(tactic| repeat ((fail_if_success (with_reducible refine vs_seq ?_)); k_subL))

local macro_rules | `(tactic| k_subL) => `(tactic| (with_reducible refine at_use (by assumption) (by assumption) (by omega) (by omega) ?_))
/-- what each member has heard, row by row -/
structure SeenOk (m : Int) (rows : List Wd.Row) (xss : List (List Int)) : Prop where
  len : xss.length = m.toNat
  each : ∀ (p : Nat) (xs : List Int), xss[p]? = some xs → xs.length = m.toNat ∧ ∀ (j : Nat) (x : Int), xs[j]? = some x → 0 ≤ x ∧ x ≤ Wd.cnt rows j ∧ (j = p → x = Wd.cnt rows p)
theorem SeenOk.start {m : Int} : SeenOk m [] (List.replicate m.toNat (List.replicate m.toNat 0)) := by
  refine ⟨by simp, fun p xs h => ?_⟩
  rw [List.getElem?_replicate] at h
  split at h
  · cases h
    refine ⟨by simp, fun j x hx => ?_⟩
    rw [List.getElem?_replicate] at hx
    split at hx
    · cases hx
      simp [Wd.cnt, Wd.ofA]
    · cases hx
  · cases h
/-- a member takes over what another one has heard -/
theorem SeenOk.merge {m : Int} {rows : List Wd.Row} {xss : List (List Int)} (S : SeenOk m rows xss) {a p : Nat} {xs ys : List Int} (ha : xss[a]? = some xs) (hp : xss[p]? = some ys) {zs : List Int} (zl : zs.length = m.toNat)
    (hz : ∀ (j : Nat) (x y : Int), xs[j]? = some x → ys[j]? = some y → zs[j]? = some (if x < y then y else x)) : SeenOk m rows (xss.set a zs) := by
  refine ⟨by rw [List.length_set]; exact S.len, fun q us hq => ?_⟩
  by_cases e : a = q
  · subst e
    rw [List.getElem?_set_self (List.getElem?_eq_some_iff.mp ha).1] at hq
    cases hq
    obtain ⟨l1, h1⟩ := S.each a xs ha
    obtain ⟨l2, h2⟩ := S.each p ys hp
    refine ⟨zl, fun j x hx => ?_⟩
    have hj : j < m.toNat := by rw [← zl]; exact (List.getElem?_eq_some_iff.mp hx).1
    have ex := List.getElem?_eq_getElem (l := xs) (i := j) (by omega)
    have ey := List.getElem?_eq_getElem (l := ys) (i := j) (by omega)
    have e := hz j _ _ ex ey
    rw [hx] at e
    have e := Option.some.inj e
    obtain ⟨b1, b2, b3⟩ := h1 j _ ex
    obtain ⟨c1, c2, c3⟩ := h2 j _ ey
    subst e
    split
    · refine ⟨c1, c2, fun ej => ?_⟩
      have := b3 ej
      subst ej
      omega
    · exact ⟨b1, b2, b3⟩
  · rw [List.getElem?_set_ne e] at hq
    exact S.each q us hq
/-- a row more -/
theorem SeenOk.step {m : Int} {rows : List Wd.Row} {xss : List (List Int)} (S : SeenOk m rows xss) {r : Wd.Row} {xs : List Int} (r0 : 0 ≤ r.a) (hr : r.n = Wd.cnt rows r.a + 1) (ha : xss[r.a.toNat]? = some xs) : SeenOk m (rows ++ [r]) (xss.set r.a.toNat (xs.set r.a.toNat r.n)) := by
  refine ⟨by rw [List.length_set]; exact S.len, fun q us hq => ?_⟩
  by_cases e : r.a.toNat = q
  · subst e
    rw [List.getElem?_set_self (List.getElem?_eq_some_iff.mp ha).1] at hq
    cases hq
    obtain ⟨l1, h1⟩ := S.each _ xs ha
    refine ⟨by rw [List.length_set]; exact l1, fun j x hx => ?_⟩
    by_cases ej : r.a.toNat = j
    · subst ej
      have hl : r.a.toNat < xs.length := by rw [← List.length_set (as := xs) (i := r.a.toNat) (a := r.n)]; exact (List.getElem?_eq_some_iff.mp hx).1
      rw [List.getElem?_set_self hl] at hx
      have hx := Option.some.inj hx
      have z : ((r.a.toNat : Nat) : Int) = r.a := Int.toNat_of_nonneg r0
      rw [z, Wd.cnt_snoc, if_pos rfl]
      refine ⟨by omega, by omega, fun _ => by omega⟩
    · rw [List.getElem?_set_ne ej] at hx
      obtain ⟨b1, b2, b3⟩ := h1 j x hx
      have := @Wd.cnt_mono rows r j
      exact ⟨b1, by omega, fun z => absurd z.symm ej⟩
  · rw [List.getElem?_set_ne e] at hq
    obtain ⟨l1, h1⟩ := S.each q us hq
    refine ⟨l1, fun j x hx => ?_⟩
    obtain ⟨b1, b2, b3⟩ := h1 j x hx
    have := @Wd.cnt_mono rows r j
    refine ⟨b1, by omega, fun z => ?_⟩
    have ne : ¬ r.a = (q : Int) := fun y => e (by omega)
    rw [Wd.cnt_snoc, if_neg ne]
    exact b3 z
theorem RowsOk.src {m : Int} {rows : List Wd.Row} (h : Wd.RowsOk m rows) (hl : rows.length ≤ 1000) : GrSrc m rows := ⟨hl, fun r hr => by
  obtain ⟨h1, h2, _, h4, _⟩ := h.each r hr
  obtain ⟨_, h5, h6⟩ := h.pubs r hr
  exact ⟨h1, h2, h4, h6, h5⟩⟩
section
variable {Pg : Program} {w : World} {K : PySem.W.Frag} {Θ : List Addr} {mg : Str → Option Value} {base : Heap} {C CS CK CC : Addr} {c Pt : Addr}
abbrev st_rows : Stmt := (topS 26)
theorem sc_rows : FnScope ["draws", "start", "members", "count", "is_rich", "seen", "k", "rows", "base", "author", "partner", "row", "j", "member"] ["draws", "start", "members", "count", "is_rich"] (defScope st_rows) := ⟨rfl, rfl, rfl, by decide +kernel, rfl, by decide +kernel, by decide +kernel⟩
def W_rows : Spc := fun ds h R => ∃ (m : Int) (ms : List Int) (s0 count : Int) (rich : Bool), ds = [dL (ms.map P.int), dI s0, dI m, dI count, dB rich] ∧ Good ms ∧ ms.length ≤ 3780 ∧ 0 ≤ s0 ∧ s0 < 2 ^ 20 ∧ 1 ≤ m ∧ m ≤ 6 ∧ 0 ≤ count ∧ count ≤ 40 ∧
  ∀ rows, Wd.RowsOk m rows → rows.length = count.toNat → Wd.pubSum rows ≤ 2 * count.toNat + 5 → R (dL (rows.map rowP)) h
theorem ok_rows (A : DefAt K mg "_law_rows" st_rows ["draws", "start", "members", "count", "is_rich"]) (m_len : mg "len" = none) (m_range : mg "range" = none) (m_max : mg "max" = none) (m_list : mg "list" = none) (h__law_at : HasF Pg w K mg base CX0 2 "_law_at" ["draws", "index"] (spD K Θ W_at))
    (h__law_full : HasF Pg w K mg base CX0 1 "_law_full" [] (spD K Θ W_full)) (h__law_choice : HasF Pg w K mg base CX0 3 "_law_choice" ["draws", "index", "rows", "row"] (spD K Θ W_choice))
    (h__law_publics : HasF Pg w K mg base CX0 3 "_law_publics" ["draws", "index", "rows", "members", "row"] (spD K Θ W_publics)) : HasF Pg w K mg base CX0 4 "_law_rows" ["draws", "start", "members", "count", "is_rich"] (spD K Θ W_rows) := by
  have sc := sc_rows
  refine A.okD sc W_rows (fun ds h R ⟨_, _, _, _, _, e, _⟩ => by rw [e]; rfl) fun f cdv A outer s H E hr => ?_
  refine ⟨_, (pss_cons (ps_set (i := 5) sc.nd rfl (.inr rfl) (pe_lst pa_nil))
  (pss_cons (ps_for PassesOwn.never rfl (pi_range1 rfl m_range (pa_cons (pv 2) pa_nil)) (pg_name (i := 6) sc.nd rfl (.inl rfl))
  (pss_one (ps_expr (pe_bm PySem.F.plainAttrs_list PySem.F.slot_list_append PySem.F.type_list_append mt_append (pv 5) (pa_cons (pe_lc (own := [("j", 12)]) rfl sc.nd (pi_range1 rfl m_range (pa_cons (pv 2) pa_nil)) (blkOk_by (N := ["draws", "start", "members", "count", "is_rich", "seen", "k", "rows", "base", "author", "partner", "row", "j", "member"]) (sc := defScope (topS 26)) (by decide +kernel)) (fun _ _ _ _ _ => (pg_name (i := 12) sc.nd rfl (.inl rfl))) (fun _ _ _ _ _ => pts_nil) (fun _ _ _ _ _ => pe_int)) pa_nil)))))
  (pss_cons (ps_set (i := 7) sc.nd rfl (.inl rfl) (pe_lst pa_nil))
  (pss_cons (ps_for PassesOwn.never rfl (pi_range1 rfl m_range (pa_cons (pv 3) pa_nil)) (pg_name (i := 6) sc.nd rfl (.inl rfl))
  (pss_cons (ps_set (i := 8) sc.nd rfl (.inl rfl) (pe_op (op_addWK (K := K) (by rfl)) (pv 1) (pe_op op_mulU pe_int (pv 6))))
  (pss_cons (ps_set (i := 9) sc.nd rfl (.inr rfl) (pe_op op_mod (h__law_at.call (hr.mono (by first | decide | omega)) rfl pass0 (pa_cons (pv 0) (pa_cons (pv 8) pa_nil))) (pv 2)))
  (pss_cons (ps_set (i := 10) sc.nd rfl (.inr rfl) (pe_op op_mod (h__law_at.call (hr.mono (by first | decide | omega)) rfl pass0 (pa_cons (pv 0) (pa_cons (pe_op (op_addWK (K := K) (by rfl)) (pv 8) pe_int) pa_nil))) (pe_op (op_addWK (K := K) (by rfl)) (pv 2) pe_int)))
  (pss_cons (ps_if (PW.pt (pw_and (pt_cmpR (op_eqUK (K := K) (by rfl) hr.units) (pv 6) pe_int (nomark _)) (pw_and1 (pt_truth (pv 4) (by intro _; rfl))))) (pss_one (ps_set (i := 9) sc.nd rfl (.inr rfl) pe_int)) pss_nil)
  (pss_cons (ps_if (pt_cmpR (op_eqUK (K := K) (by rfl) hr.units) (pv 10) (pv 2) (nomark _)) (pss_one (ps_set (i := 10) sc.nd rfl (.inr rfl) pe_int)) pss_nil)
  (pss_cons (ps_if (pt_cmpR op_lt (pv 10) (pv 2) (nomark _)) (pss_one (ps_asg (pe_lc (own := [("j", 12)]) rfl sc.nd (pi_range1 rfl m_range (pa_cons (pv 2) pa_nil)) (blkOk_by (N := ["draws", "start", "members", "count", "is_rich", "seen", "k", "rows", "base", "author", "partner", "row", "j", "member"]) (sc := defScope (topS 26)) (by decide +kernel)) (fun _ _ _ _ _ => (pg_name (i := 12) sc.nd rfl (.inl rfl))) (fun _ _ _ _ _ => pts_nil) (fun _ _ _ _ _ => (pe_callB (call_max2 rfl) (by rfl) m_max (by decide +kernel) (pa_cons (pe_ix (ix_seqK (K := K) (by rfl)) (pe_ix (ix_seqK (K := K) (by rfl)) (pv 5) (pv 9) (fun _ _ => rfl)) (pv 12) (fun _ _ => rfl)) (pa_cons (pe_ix (ix_seqK (K := K) (by rfl)) (pe_ix (ix_seqK (K := K) (by rfl)) (pv 5) (pv 10) (fun _ _ => rfl)) (pv 12) (fun _ _ => rfl)) pa_nil))))) (pg_sub (pv 5) (pv 9) set_list))) pss_nil)
  (pss_cons (ps_set (i := 11) sc.nd rfl (.inl rfl) (pe_lst (pa_cons (pv 9) (pa_cons (pe_op (op_addWK (K := K) (by rfl)) (pe_ix (ix_seqK (K := K) (by rfl)) (pe_ix (ix_seqK (K := K) (by rfl)) (pv 5) (pv 9) (fun _ _ => rfl)) (pv 9) (fun _ _ => rfl)) pe_int) (pa_cons (pe_callTy (call_list_ofK (K := K) (by rfl)) (by rfl) m_list (by decide +kernel) (pa_cons (pe_ix (ix_seqK (K := K) (by rfl)) (pv 5) (pv 9) (fun _ _ => rfl)) pa_nil)) (pa_cons pe_non (pa_cons (pe_lst pa_nil) (pa_cons (pe_lst (pa_cons (pe_tup pa_nil) (pa_cons (pe_tup pa_nil) (pa_cons (pe_tup pa_nil) (pa_cons (pe_tup pa_nil) pa_nil))))) pa_nil))))))))
  (pss_cons (ps_if (PW.pt (pw_and (pt_cmpR (op_eqUK (K := K) (by rfl) hr.units) (pv 6) pe_int (nomark _)) (pw_and1 (pt_truth (pv 4) (by intro _; rfl))))) (pss_one (ps_asg (pe_lc (own := [("member", 13)]) rfl sc.nd (pi_range2 rfl m_range (pa_cons pe_int (pa_cons (pv 2) pa_nil))) (blkOk_by (N := ["draws", "start", "members", "count", "is_rich", "seen", "k", "rows", "base", "author", "partner", "row", "j", "member"]) (sc := defScope (topS 26)) (by decide +kernel)) (fun _ _ _ _ _ => (pg_name (i := 13) sc.nd rfl (.inl rfl))) (fun _ _ _ _ _ => pts_nil) (fun _ _ _ _ _ => (pe_tup (pa_cons pe_str (pa_cons (pv 13) (pa_cons (h__law_full.call0 (hr.mono (by first | decide | omega)) rfl pass0) pa_nil)))))) (pg_sub (pv 11) pe_int set_list))) (pss_cons (ps_asg (h__law_choice.call (hr.mono (by first | decide | omega)) rfl pass0 (pa_cons (pv 0) (pa_cons (pe_op (op_addWK (K := K) (by rfl)) (pv 8) pe_int) (pa_cons (pv 7) (pa_cons (pv 11) pa_nil))))) (pg_sub (pv 11) pe_int set_list))
  (pss_one (ps_asg (h__law_publics.call (hr.mono (by first | decide | omega)) rfl pass0 (pa_cons (pv 0) (pa_cons (pe_op (op_addWK (K := K) (by rfl)) (pv 8) pe_int) (pa_cons (pv 7) (pa_cons (pv 2) (pa_cons (pv 11) pa_nil)))))) (pg_sub (pv 11) pe_int set_list)))))
  (pss_cons (ps_expr (pe_bm PySem.F.plainAttrs_list PySem.F.slot_list_append PySem.F.type_list_append mt_append (pv 7) (pa_cons (pv 11) pa_nil)))
  (pss_one (ps_asg (pe_ix (ix_seqK (K := K) (by rfl)) (pv 11) pe_int (fun _ _ => rfl)) (pg_sub (pe_ix (ix_seqK (K := K) (by rfl)) (pv 5) (pv 9) (fun _ _ => rfl)) (pv 9) set_list)))))))))))))
  (pss_one (ps_ret (pv 7))))))), ?_⟩
  try dsimp only [cxOf]
  rintro ds h R ⟨m, ms, s0, count, rich, rfl, hg, hm, s1, s2, m1, m6, c0, c1, q⟩
  have sz := sizeLine_eq
  refine vs_fin ?_
  refine vs_seq ?_
  refine vs_asg ?_
  refine ve_lstO ?_
  k_places
  refine ⟨by simp, ?_⟩
  k_offL
  refine vs_cut (fun env' h' => ∃ (js : List Nat) (o6 o12 : Option Kb.D), LL h' h.length js (List.replicate m.toNat (List.replicate m.toNat 0)) ∧ Pfx h h' ∧ (∀ j ∈ js, h.length ≤ j) ∧
    env' = [some (dL (ms.map P.int)), some (dI s0), some (dI m), some (dI count), some (dB rich), some (.own h.length), o6, none, none, none, none, none, o12, none]) ?_ ?_
  · refine vs_for (vi_range1 ?_)
    k_places
    refine ⟨m, rfl, by omega, by omega, ?_⟩
    refine ⟨fun i env' h' => ∃ (js : List Nat) (o6 o12 : Option Kb.D), LL h' h.length js (List.replicate i (List.replicate m.toNat 0)) ∧ Pfx h h' ∧ (∀ j ∈ js, h.length ≤ j) ∧
      env' = [some (dL (ms.map P.int)), some (dI s0), some (dI m), some (dI count), some (dB rich), some (.own h.length), o6, none, none, none, none, none, o12, none], ?_, fun _ _ _ _ => trivial, ?_, ?_⟩
    · exact ⟨[], none, none, ⟨get_last, rfl, fun k j xs a => by simp at a, by simp⟩, (Pfx.refl h).push _, (fun j hj => by cases hj), rfl⟩
    · rintro i d env' h' hd ⟨js, o6, o12, L, pf, jl, rfl⟩
      obtain ⟨hi, rfl⟩ := rng_get hd
      have hjs : js.length = i := by rw [L.len]; simp
      k_places
      refine ve_bm ?_
      k_places
      refine ⟨⟨rfl, _, L.out⟩, ?_⟩
      k_places
      refine ve_lcLO tg_name (List.range m.toNat) (fun j => dI (0 + (j : Int))) (fun _ => true) (fun _ => .int 0) ?_
      refine vi_range1 ?_
      k_places
      refine ⟨m, rfl, by omega, by omega, rfl, by simp; omega, fun _ => trivial, fun x hx acc => ?_, ?_⟩
      · refine vg_name ⟨rfl, vt_yes ⟨rfl, rfl, fun _ => ?_⟩⟩
        k_places
        exact ⟨rfl, rfl⟩
      k_places
      refine vm_append (get_push L.out) (by rw [List.length_map]; omega) ?_
      have ez : (((List.range m.toNat).filter fun _ => true).map fun _ => P.int 0).map Kb.D.p = (List.replicate m.toNat (0 : Int)).map dI := by
        rw [filter_tt, List.map_map]
        refine List.ext_getElem? fun k => ?_
        rw [List.getElem?_map, List.getElem?_map, List.getElem?_replicate]
        by_cases hk : k < m.toNat
        · rw [List.getElem?_range hk, if_pos hk]; rfl
        · rw [List.getElem?_eq_none_iff.mpr (by simp; omega), if_neg hk]; rfl
      rw [ez]
      have L2 := L.snoc (List.replicate m.toNat 0)
      rw [← List.replicate_succ', List.map_append] at L2
      refine ⟨_, _, _, L2, (pf.push _).put (Nat.le_refl _) _, fun j hj => ?_, rfl⟩
      rcases List.mem_append.mp hj with z | z
      · exact jl j z
      · rw [List.mem_singleton.mp z]; exact pf.len
    · rintro env' h' ⟨js, o6, o12, L, pf, jl, rfl⟩
      rw [rng_len] at L
      exact ⟨js, _, _, L, pf, jl, rfl⟩
  rintro env' h1 ⟨js, o6, o12, L, pf, jl, rfl⟩
  refine vs_seq ?_
  refine vs_asg ?_
  refine ve_lstO ?_
  k_places
  refine ⟨by simp, ?_⟩
  k_offL
  have i0l : h.length < h1.length := lt_of_get L.out
  have ltj := L.lt
  refine vs_seq ?_
  refine vs_for (vi_range1 ?_)
  k_places
  refine ⟨count, rfl, by omega, by omega, ?_⟩
  refine ⟨fun i env' h' => ∃ (js : List Nat) (xss : List (List Int)) (rows : List Wd.Row) (o6 o8 o9 o10 o11 o12 o13 : Option Kb.D), LL h' h.length js xss ∧ Pfx h h' ∧ (∀ j ∈ js, h.length ≤ j) ∧
    h'[h1.length]? = some (some (.lst ((rows.map rowP).map Kb.D.p))) ∧ h1.length ∉ js ∧ Wd.RowsOk m rows ∧ rows.length = i ∧ Wd.pubSum rows ≤ 2 * i + 5 ∧ SeenOk m rows xss ∧
    env' = [some (dL (ms.map P.int)), some (dI s0), some (dI m), some (dI count), some (dB rich), some (.own h.length), o6, some (.own h1.length), o8, o9, o10, o11, o12, o13], ?_, fun _ _ _ _ => trivial, ?_, ?_⟩
  · exact ⟨js, _, [], _, _, _, _, _, _, _, L.push _, pf.push _, jl, get_last, (fun z => by have := ltj _ z; omega), .nil, rfl, by simp [Wd.pubSum], .start, rfl⟩
  · clear L pf jl ltj
    rintro i d env' h' hd ⟨js, xss, rows, o6, o8, o9, o10, o11, o12, o13, L, pf, jl, hrows, irj, rok, rl, ps, S, rfl⟩
    obtain ⟨hi, rfl⟩ := rng_get hd
    have ic : i < 40 := by omega
    have pl := pf.len
    have irl := lt_of_get hrows
    have lo1 := lawAt_lo hg (s0 + 16 * (0 + (i : Int))) (by omega)
    have lo2 := lawAt_lo hg (s0 + 16 * (0 + (i : Int)) + 1) (by omega)
    refine vg_name ?_
    refine vs_seq ?_
    k_offL
    refine vs_seq ?_
    k_offL
    generalize lawAt ms (s0 + 16 * (0 + (i : Int))) = v1 at *
    refine vs_seq ?_
    k_offL
    generalize lawAt ms (s0 + 16 * (0 + (i : Int)) + 1) = v2 at *
    refine vs_cut (fun env' h2 => h' = h2 ∧ ∃ (a : Int), 0 ≤ a ∧ a < m ∧ env' = [some (dL (ms.map P.int)), some (dI s0), some (dI m), some (dI count), some (dB rich), some (.own h.length), some (dI (0 + (i : Int))), some (.own h1.length), some (dI (s0 + 16 * (0 + (i : Int)))), some (dI a), some (dI (v2 % (m + 2))), o11, o12, o13]) ?_ ?_
    · have am := Int.emod_nonneg v1 (show m ≠ 0 by omega)
      have am2 := Int.emod_lt_of_pos v1 (show 0 < m by omega)
      k_places
      refine ite_mid ?_ (fun e1 k => ?_)
      · k_places
        exact ⟨rfl, v1 % m, am, am2, rfl⟩
      · k_places
        refine ite_b (fun e2 => ?_) (fun _ => k)
        k_places
        exact ⟨rfl, 0, by omega, by omega, rfl⟩
    rintro env' _ ⟨rfl, a, a0, a1, rfl⟩
    refine vs_cut (fun env' h2 => h' = h2 ∧ ∃ (p : Int), 0 ≤ p ∧ env' = [some (dL (ms.map P.int)), some (dI s0), some (dI m), some (dI count), some (dB rich), some (.own h.length), some (dI (0 + (i : Int))), some (.own h1.length), some (dI (s0 + 16 * (0 + (i : Int)))), some (dI a), some (dI p), o11, o12, o13]) ?_ ?_
    · have pm := Int.emod_nonneg v2 (show m + 2 ≠ 0 by omega)
      k_places
      refine ite_dec (fun e1 => ?_) (fun e1 => ?_)
      · k_places
        exact ⟨rfl, 0, by omega, rfl⟩
      · k_places
        exact ⟨rfl, _, pm, rfl⟩
    rintro env' _ ⟨rfl, p, p0, rfl⟩
    have al : a.toNat < xss.length := by rw [S.len]; omega
    refine vs_cut (fun env' h2 => ∃ (js : List Nat) (xss : List (List Int)) (o12 : Option Kb.D), LL h2 h.length js xss ∧ Pfx h h2 ∧ (∀ j ∈ js, h.length ≤ j) ∧
      h2[h1.length]? = some (some (.lst ((rows.map rowP).map Kb.D.p))) ∧ h1.length ∉ js ∧ SeenOk m rows xss ∧
      env' = [some (dL (ms.map P.int)), some (dI s0), some (dI m), some (dI count), some (dB rich), some (.own h.length), some (dI (0 + (i : Int))), some (.own h1.length), some (dI (s0 + 16 * (0 + (i : Int)))), some (dI a), some (dI p), o11, o12, o13]) ?_ ?_
    · k_places
      refine ite_dec (fun e1 => ?_) (fun e1 => ?_)
      · k_places
        obtain ⟨ja, xa, x1, x2, x3, x4⟩ := L.ix al
        have pl2 : p.toNat < xss.length := by rw [S.len]; omega
        obtain ⟨jp, xp, y1, y2, y3, y4⟩ := L.ix pl2
        obtain ⟨la, ha⟩ := S.each _ _ x2
        obtain ⟨lp, hp⟩ := S.each _ _ y2
        refine ve_lcLO tg_name (List.range m.toNat) (fun j => dI (0 + (j : Int))) (fun _ => true) (fun j => .int (if xa[j]?.getD 0 < xp[j]?.getD 0 then xp[j]?.getD 0 else xa[j]?.getD 0)) ?_
        refine vi_range1 ?_
        k_places
        refine ⟨m, rfl, by omega, by omega, rfl, by simp; omega, fun _ => trivial, fun j hj acc => ?_, ?_⟩
        · have jm : j < m.toNat := List.mem_range.mp hj
          refine vg_name ⟨rfl, vt_yes ⟨rfl, rfl, fun _ => ?_⟩⟩
          k_places
          refine v2_ixO (get_push L.out) (at_nat a.toNat (by omega) x3) ?_
          k_places
          refine v2_ixO (get_push x4) (at_nat j (by omega) (by rw [List.getElem?_map, List.getElem?_eq_getElem (by omega)]; rfl)) ?_
          k_places
          refine v2_ixO (get_push L.out) (at_nat p.toNat (by omega) y3) ?_
          k_places
          refine v2_ixO (get_push y4) (at_nat j (by omega) (by rw [List.getElem?_map, List.getElem?_eq_getElem (by omega)]; rfl)) ?_
          k_places
          refine ⟨rfl, ?_⟩
          have ex := List.getElem?_eq_getElem (l := xa) (i := j) (by omega)
          have ey := List.getElem?_eq_getElem (l := xp) (i := j) (by omega)
          rw [ex, ey]
          rfl
        · generalize ez : (List.range m.toNat).map (fun j => if xa[j]?.getD 0 < xp[j]?.getD 0 then xp[j]?.getD 0 else xa[j]?.getD 0) = zs
          have e1 : (((List.range m.toNat).filter fun _ => true).map fun j => P.int (if xa[j]?.getD 0 < xp[j]?.getD 0 then xp[j]?.getD 0 else xa[j]?.getD 0)).map Kb.D.p = zs.map dI := by
            rw [filter_tt, List.map_map, ← ez, List.map_map]; rfl
          rw [e1]
          have zl : zs.length = m.toNat := by rw [← ez]; simp
          have hz : ∀ (j : Nat) (x y : Int), xa[j]? = some x → xp[j]? = some y → zs[j]? = some (if x < y then y else x) := fun j x y hx hy => by
            have jl : j < m.toNat := by rw [← la]; exact (List.getElem?_eq_some_iff.mp hx).1
            rw [← ez, List.getElem?_map, List.getElem?_range jl, Option.map_some, hx, hy]; rfl
          have L2 := L.anew al zs
          rw [List.map_set] at L2
          refine vg_subO ?_
          k_places
          refine ⟨h.length, a, _, rfl, rfl, get_push L.out, a0, by rw [List.length_map, L.len]; exact al, ?_⟩
          refine ⟨_, _, _, L2, (pf.push _).put (Nat.le_refl _) _, fun j hj => ?_, get_put (get_push hrows) (by omega), fun z => ?_, S.merge x2 y2 zl hz, rfl⟩
          · rcases List.mem_or_eq_of_mem_set hj with z | z
            · exact jl j z
            · rw [z]; exact pl
          · rcases List.mem_or_eq_of_mem_set z with z | z
            · exact irj z
            · omega
      · k_places
        exact ⟨js, xss, _, L, pf, jl, hrows, irj, S, rfl⟩
    rintro env' h2 ⟨js, xss, o12, L, pf, jl, hrows, irj, S, rfl⟩
    clear al
    have al : a.toNat < xss.length := by rw [S.len]; omega
    obtain ⟨ja, xa, x1, x2, x3, x4⟩ := L.ix al
    obtain ⟨la, ha⟩ := S.each _ _ x2
    have aa : a.toNat < xa.length := by omega
    obtain ⟨aw0, aw1, aw2⟩ := ha a.toNat _ (List.getElem?_eq_getElem aa)
    have aw := aw2 rfl
    have za : ((a.toNat : Nat) : Int) = a := Int.toNat_of_nonneg a0
    rw [za] at aw
    have ltj := L.lt
    have irl2 := lt_of_get hrows
    refine vs_seq ?_
    refine vs_asg ?_
    refine ve_lstO ?_
    k_places
    refine v2_ixO L.out (at_nat a.toNat (by omega) x3) ?_
    k_places
    refine v2_ixO x4 (at_nat a.toNat (by omega) (by rw [List.getElem?_map, List.getElem?_eq_getElem aa]; rfl)) ?_
    k_places
    refine v2_ixO L.out (at_nat a.toNat (by omega) x3) ?_
    k_places
    refine vc_list (ps := xa.map P.int) (by show h2[ja]? = _; rw [x4, List.map_map]; rfl) ?_
    k_places
    refine ve_lst ?_
    k_places
    refine ve_lst ?_
    k_places
    refine ⟨by simp; omega, ?_⟩
    k_offL
    have hn2 : ∀ x : Option OO, (h2 ++ [x]).length = h2.length + 1 := fun x => by simp
    generalize en : xa[a.toNat] + 1 = n at *
    have n1 : n = Wd.cnt rows a + 1 := by omega
    refine vs_cut (fun env' h3 => ∃ (cp : Option K3) (us : List Wd.Pub) (o12 o13 : Option Kb.D), Wd.CapOk m cp ∧ (∀ u ∈ us, Wd.PubOk m u) ∧ (us.length ≤ if i = 0 then 5 else 2) ∧
      h3 = h2 ++ [some (.lst [dI a, dI n, dL (xa.map P.int), .p (capP cp), dL (us.map pubP), dL [.tup [], .tup [], .tup [], .tup []]])] ∧
      env' = [some (dL (ms.map P.int)), some (dI s0), some (dI m), some (dI count), some (dB rich), some (.own h.length), some (dI (0 + (i : Int))), some (.own h1.length), some (dI (s0 + 16 * (0 + (i : Int)))), some (dI a), some (dI p), some (.own h2.length), o12, o13]) ?_ ?_
    · have hl0 := @get_last h2 (some (OO.lst [dI a, dI n, dL (xa.map P.int), .p .non, dL [], dL [.tup [], .tup [], .tup [], .tup []]]))
      have src := RowsOk.src rok (by omega)
      k_places
      refine ite_mid ?_ (fun e1 k => ?_)
      · k_places
        refine ⟨m, ms, _, h1.length, h2.length, rows, a, n, _, rfl, hg, hm, by omega, by omega, get_push hrows, src, hl0, a0, a1, by omega, fun cp hcp => ?_⟩
        refine vg_subO ?_
        k_places
        refine ⟨h2.length, 3, _, rfl, rfl, hl0, by omega, by simp, ?_⟩
        rw [List.set_append_right _ _ (Nat.le_refl _), Nat.sub_self]
        k_places
        have hl1 := @get_last h2 (some (OO.lst [dI a, dI n, dL (xa.map P.int), .p (capP cp), dL [], dL [.tup [], .tup [], .tup [], .tup []]]))
        refine ⟨m, ms, _, h1.length, h2.length, rows, a, n, _, rfl, hg, hm, by omega, by omega, m1, get_push hrows, src, hl1, fun us hus ul => ?_⟩
        refine vg_subO ?_
        k_places
        refine ⟨h2.length, 4, _, rfl, rfl, hl1, by omega, by simp, ?_⟩
        refine ⟨cp, us, _, _, hcp, hus, by split <;> omega, ?_, rfl⟩
        show (h2 ++ [_]).set h2.length _ = _
        rw [List.set_append_right _ _ (Nat.le_refl _), Nat.sub_self]; rfl
      · k_places
        refine ite_b (fun e2 => ?_) (fun _ => k)
        have e1 := of_decide_eq_true e1
        have i0 : i = 0 := by omega
        k_places
        refine ve_lcL tg_name (List.range (m - 1).toNat) (fun j => dI (1 + (j : Int))) (fun _ => true) (fun j => pubP (.grant (1 + (j : Int)) fullR)) ?_
        refine vi_range2 ?_
        k_places
        refine ⟨1, m, rfl, by omega, rfl, by simp; omega, fun _ => trivial, fun j hj acc => ?_, ?_⟩
        · refine vg_name ⟨rfl, vt_yes ⟨rfl, rfl, fun _ => ?_⟩⟩
          k_places
          refine ⟨rfl, ?_⟩
          k_places
          exact ⟨rfl, rfl⟩
        · rw [filter_tt]
          refine vg_subO ?_
          k_places
          refine ⟨h2.length, 4, _, rfl, rfl, hl0, by omega, by simp, ?_⟩
          refine ⟨none, (List.range (m - 1).toNat).map fun (j : Nat) => .grant (1 + (j : Int)) fullR, _, _, Wd.CapOk.none m, fun u hu => ?_, by rw [if_pos i0, List.length_map, List.length_range]; omega, ?_, rfl⟩
          · obtain ⟨j, hj, rfl⟩ := List.mem_map.mp hu
            have := List.mem_range.mp hj
            exact ⟨by omega, by omega, rfl⟩
          · rw [List.set_append_right _ _ (Nat.le_refl _), Nat.sub_self, List.map_map]; rfl
    rintro env' h3 ⟨cp, us, o12, o13, hcp, hus, usl, rfl, rfl⟩
    generalize er : (⟨a, n, xa, cp, us⟩ : Wd.Row) = r
    have hrp : [dI a, dI n, dL (xa.map P.int), .p (capP cp), dL (us.map pubP), dL [.tup [], .tup [], .tup [], .tup []]] = [P.int a, .int n, .lst (xa.map P.int), capP cp, .lst (us.map pubP), .lst [.tup [], .tup [], .tup [], .tup []]].map Kb.D.p := rfl
    have ra : r.a = a := by rw [← er]
    have rn : r.n = n := by rw [← er]
    have rowok : Wd.RowOk m rows r := by
      rw [← er]
      refine ⟨a0, a1, n1, la, fun j x hx => ?_, ?_, hcp, hus, by show us.length ≤ 60; split at usl <;> omega⟩
      · obtain ⟨b1, b2, _⟩ := ha j x hx
        exact ⟨b1, b2⟩
      · show xa[a.toNat]? = some (n - 1)
        rw [List.getElem?_eq_getElem aa]
        congr 1
        omega
    refine vs_freeze (i := 11) (n := h2.length) rfl (by rw [get_last, hrp]) ?_
    have eP : dL [P.int a, .int n, .lst (xa.map P.int), capP cp, .lst (us.map pubP), .lst [.tup [], .tup [], .tup [], .tup []]] = .p (rowP r) := by rw [← er]; rfl
    rw [eP, List.set_append_right _ _ (Nat.le_refl _), Nat.sub_self]
    show VS _ _ _ _ _ (h2 ++ [none])
    refine vs_seq ?_
    refine vs_drop ?_
    refine ve_bm ?_
    k_places
    have hr3 : (h2 ++ [(none : Option OO)])[h1.length]? = some (some (.lst ((rows.map rowP).map Kb.D.p))) := get_push hrows
    refine ⟨⟨rfl, _, hr3⟩, ?_⟩
    k_places
    refine vm_appA hr3 (by omega) ?_
    have L3 : LL ((h2 ++ [(none : Option OO)]).set h1.length (some (.lst (((rows ++ [r]).map rowP).map Kb.D.p)))) h.length js xss := (L.push _).put _ (by omega) irj
    have L4 := L3.inner x1 (xa.set a.toNat n)
    k_places
    refine v2_ixL (xs := [P.int r.a, .int r.n, .lst (r.hd.map P.int), capP r.cap, .lst (r.pub.map pubP), .lst [.tup [], .tup [], .tup [], .tup []]]) (at_nat 1 (by omega) rfl) ?_
    refine vg_subO ?_
    k_places
    refine v2_ixO L3.out (at_nat a.toNat (by omega) x3) ?_
    k_places
    refine ⟨ja, a, _, rfl, rfl, L3.inn _ _ _ x1 x2, a0, by rw [List.length_map]; exact aa, ?_⟩
    rw [rn]
    have e5 : ((xa.map dI).set a.toNat (dI n)) = (xa.set a.toNat n).map dI := by rw [List.map_set]
    rw [e5]
    have jal := jl ja (List.mem_of_getElem? x1)
    have jlt := ltj ja (List.mem_of_getElem? x1)
    have jne : ja ≠ h1.length := fun z => irj (z ▸ List.mem_of_getElem? x1)
    refine ⟨js, _, rows ++ [r], _, _, _, _, _, _, _, L4, ((pf.push _).put (by omega) _).put jal _, jl, get_put (get_self (by rw [List.length_append]; omega)) jne, irj, rok.snoc rowok, by rw [List.length_append, rl]; rfl, ?_, ?_, rfl⟩
    · rw [Wd.pubSum_app]
      have z : Wd.pubSum [r] = us.length := by rw [← er]; simp [Wd.pubSum]
      split at usl
      · rename_i i0
        have : rows = [] := List.length_eq_zero_iff.mp (by omega)
        rw [this]
        simp [Wd.pubSum] at z ⊢
        omega
      · omega
    · have z := S.step (r := r) (xs := xa) (by omega) (by rw [rn, ra]; exact n1) (by rw [ra]; exact x2)
      rw [ra, rn] at z
      exact z
  · rintro env' h' ⟨js, xss, rows, o6, o8, o9, o10, o11, o12, o13, L, pf, jl, hrows, irj, rok, rl, ps, S, rfl⟩
    rw [rng_len] at rl ps
    k_places
    obtain ⟨g, rfl⟩ := pf
    refine ⟨g, rfl, .inr (.inl ⟨h1.length, rows.map rowP, rfl, by omega, hrows, q rows rok rl ps⟩)⟩
end
end Law

namespace Law
open PySem PySem.Spec PyProof.Rows L2 Kb Gx
-- the steps that are tried: k_clsL a side condition; k_subL one step; k_places steps as long as one fits
local macro_rules | `(tactic| k_clsL) => `(tactic| first | assumption | decide | omega)
local macro_rules | `(tactic| k_subL) => `(tactic| first
  | (with_reducible refine vs_seq ?_) | (with_reducible refine vs_asg ?_) | (with_reducible refine vg_name ?_) | (with_reducible refine vs_ret ?_) | (with_reducible refine vs_if ?_) | (with_reducible refine vs_next ?_) | (with_reducible refine vs_drop ?_)
  | (with_reducible refine vt_test ?_) | (with_reducible refine vt_B ?_) | (with_reducible refine vt_and ?_) | (with_reducible refine vt_or ?_) | (with_reducible refine vt_not ?_) | (with_reducible refine vt_truth ?_)
  | (with_reducible refine ve_op ?_) | (with_reducible refine ve_isi2 ?_) | ((with_reducible refine isi2_i (T := "tuple") ?hT ?hm ?hn ?_); (case hT => exact rfl); (case hm => decide); (case hn => decide)) | ((with_reducible refine isi2_i (T := "list") ?hT ?hm ?hn ?_); (case hT => exact rfl); (case hm => decide); (case hn => decide)) | ((with_reducible refine isi2_i (T := "int") ?hT ?hm ?hn ?_); (case hT => exact rfl); (case hm => decide); (case hn => decide)) | ((with_reducible refine isi2_i (T := "bool") ?hT ?hm ?hn ?_); (case hT => exact rfl); (case hm => decide); (case hn => decide)) | ((with_reducible refine isi2_i (T := "str") ?hT ?hm ?hn ?_); (case hT => exact rfl); (case hm => decide); (case hn => decide)) | ((with_reducible refine isi2_i (T := "NoneType") ?hT ?hm ?hn ?_); (case hT => exact rfl); (case hm => decide); (case hn => decide)) | (with_reducible refine ve_cb ?_) | (with_reducible refine va_cons ?_) | (with_reducible refine va_nil ?_) | (with_reducible refine ve_call ?_)
  | (with_reducible refine ve_int ?_) | (with_reducible refine ve_str ?_) | (with_reducible refine ve_bl ?_) | (with_reducible refine ve_non ?_) | (with_reducible refine ve_ty ?_)
  | (refine ve_var (by exact rfl) ?_)
  | (with_reducible refine ve_and ?_) | (with_reducible refine ve_or ?_) | (with_reducible refine ve_not ?_) | (with_reducible refine ve_chain ?_) | (with_reducible refine ve_un ?_) | (with_reducible refine ve_if ?_)
  | (with_reducible refine bool_ans ?_) | (with_reducible refine tru_bl ?_)
  | (with_reducible refine vc_intI ?_) | (with_reducible refine vc_intB ?_) | (with_reducible refine v2_addI ?_) | (with_reducible refine v2_sub ?_)
  | (with_reducible refine v2_lt ?_) | (with_reducible refine v2_le ?_) | (with_reducible refine v2_gt ?_) | (with_reducible refine v2_ge ?_)
  | (with_reducible refine v2_eqI ?_) | (with_reducible refine v2_eqS ?_) | (with_reducible refine v2_eqB ?_) | (with_reducible refine v2_neI ?_) | (with_reducible refine v2_neS ?_) | (with_reducible refine v2_neB ?_)
  | (with_reducible refine v2_isN ?_) | (with_reducible refine v2_notN ?_) | (with_reducible refine v2_isNU ?_) | ((with_reducible refine v2_isBl ?hx ?_); (case hx => exact rfl))
  | (with_reducible refine v2_addVI ?_) | (with_reducible refine v2_addWI ?_) | (with_reducible refine v2_ltI ?_) | (with_reducible refine v2_ltB ?_) | (with_reducible refine v2_ltS ?_)
  | ((with_reducible refine v2_divW ?hm ?_); case hm => (constructor <;> k_clsL))
  | ((with_reducible refine v2_mulU ?hm ?_); case hm => first | exact cmul_small (by k_clsL) (by k_clsL) | exact cmul_wide (by k_clsL) (by k_clsL))
  | ((with_reducible refine v2_mod ?hm ?_); case hm => k_clsL) | ((with_reducible refine v2_div ?hm ?_); case hm => (constructor <;> k_clsL))
  | ((with_reducible refine v2_mul ?hm ?_); case hm => first | exact cmul_small (by k_clsL) (by k_clsL) | exact cmul_wide (by k_clsL) (by k_clsL))
  | (with_reducible refine vc_abs ?_) | (with_reducible refine vc_min2 ?_) | (with_reducible refine vc_max2 ?_)
  | (with_reducible refine ve_tup ?_) | ((with_reducible refine tup_j ?hl ?_); (case hl => exact rfl))
  | ((with_reducible refine vc_isi (T := "tuple") ?hT ?hn ?_); (case hT => first | exact rfl | exact ⟨rfl, _, by first | assumption | simp⟩); (case hn => decide)) | ((with_reducible refine vc_isi (T := "list") ?hT ?hn ?_); (case hT => first | exact rfl | exact ⟨rfl, _, by first | assumption | simp⟩); (case hn => decide)) | ((with_reducible refine vc_isi (T := "int") ?hT ?hn ?_); (case hT => first | exact rfl | exact ⟨rfl, _, by first | assumption | simp⟩); (case hn => decide)) | ((with_reducible refine vc_isi (T := "bool") ?hT ?hn ?_); (case hT => first | exact rfl | exact ⟨rfl, _, by first | assumption | simp⟩); (case hn => decide)) | ((with_reducible refine vc_isi (T := "str") ?hT ?hn ?_); (case hT => first | exact rfl | exact ⟨rfl, _, by first | assumption | simp⟩); (case hn => decide)) | ((with_reducible refine vc_isi (T := "NoneType") ?hT ?hn ?_); (case hT => first | exact rfl | exact ⟨rfl, _, by first | assumption | simp⟩); (case hn => decide))
  | (with_reducible refine vc_lenL ?_) | (with_reducible refine vc_lenT ?_) | (with_reducible refine ite_nrefl ?_) | (with_reducible refine ite_refl ?_)
  | ((with_reducible refine ite_tt ?hc ?_); (case hc => first | decide | exact rfl)) | ((with_reducible refine ite_ff ?hc ?_); (case hc => first | decide | exact rfl))
  | (with_reducible refine v1_U ?_))
local macro_rules | `(tactic| k_places) => `(tactic| repeat k_subL)
local macro_rules | `(tactic| k_offL) => `(tactic| repeat ((fail_if_success (with_reducible refine vs_seq ?_)); k_subL))

local macro_rules | `(tactic| k_subL) => `(tactic| (with_reducible refine at_use (by assumption) (by assumption) (by omega) (by omega) ?_))
def nothingP : P := .lst (List.replicate 4 (.lst [.lst [], .lst [], .lst []]))
/-- a world as data -/
def worldI (w : Wd.Wld) : List P := [.int w.m, .lst (w.rows.map rowP), .lst (w.cut.map P.int), .lst (w.caps.map entP), nothingP]
def worldP (w : Wd.Wld) : P := .lst (worldI w)
section
variable {Pg : Program} {w : World} {K : PySem.W.Frag} {Θ : List Addr} {mg : Str → Option Value} {base : Heap} {C CS CK CC : Addr} {c Pt : Addr}
abbrev st_nothing : Stmt := (topS 27)
theorem sc_nothing : FnScope ["k"] [] (defScope st_nothing) := ⟨rfl, rfl, rfl, by decide +kernel, rfl, by decide +kernel, by decide +kernel⟩
def W_nothing : Spc := fun ds h R => ds = [] ∧ R (.p nothingP) h
theorem ok_nothing (A : DefAt K mg "_law_nothing" st_nothing []) (m_range : mg "range" = none) : HasF Pg w K mg base CX0 1 "_law_nothing" [] (spD K Θ W_nothing) := by
  have sc := sc_nothing
  refine A.okD sc W_nothing (fun ds h R ⟨e, _⟩ => by rw [e]; rfl) fun f cdv A outer s H E hr => ?_
  refine ⟨_, (pss_one (ps_ret (pe_lc (own := [("k", 0)]) rfl sc.nd (pi_range1 rfl m_range (pa_cons pe_int pa_nil)) (blkOk_by (N := ["k"]) (sc := defScope (topS 27)) (by decide +kernel)) (fun _ _ _ _ _ => (pg_name (i := 0) sc.nd rfl (.inl rfl))) (fun _ _ _ _ _ => pts_nil) (fun _ _ _ _ _ => (pe_lst (pa_cons (pe_lst pa_nil) (pa_cons (pe_lst pa_nil) (pa_cons (pe_lst pa_nil) pa_nil)))))))), ?_⟩
  try dsimp only [cxOf]
  rintro ds h R ⟨rfl, q⟩
  have sz := sizeLine_eq
  k_places
  refine ve_lcL tg_name (List.range 4) (fun i => dI (0 + (i : Int))) (fun _ => true) (fun _ => .lst [.lst [], .lst [], .lst []]) ?_
  refine vi_range1 ?_
  k_places
  refine ⟨4, rfl, by decide, by decide, rfl, by simp; omega, fun _ => trivial, fun x hx acc => ?_, q⟩
  refine vg_name ⟨rfl, vt_yes ⟨rfl, rfl, fun _ => ?_⟩⟩
  refine ve_lst ?_
  k_places
  refine ve_lst ?_
  k_places
  refine ve_lst ?_
  k_places
  refine ve_lst ?_
  k_places
  exact ⟨rfl, rfl⟩
abbrev st_world : Stmt := (topS 28)
theorem sc_world : FnScope ["members", "rows", "k"] ["members", "rows"] (defScope st_world) := ⟨rfl, rfl, rfl, by decide +kernel, rfl, by decide +kernel, by decide +kernel⟩
def W_world : Spc := fun ds h R => ∃ (m : Int) (rows : List Wd.Row), ds = [dI m, dL (rows.map rowP)] ∧ 0 ≤ m ∧ m ≤ 1000 ∧ R (.own h.length) (h ++ [some (.lst ((worldI ⟨m, rows, List.replicate m.toNat 0, []⟩).map Kb.D.p))])
theorem ok_world (A : DefAt K mg "_law_world" st_world ["members", "rows"]) (m_range : mg "range" = none) (h__law_nothing : HasF Pg w K mg base CX0 1 "_law_nothing" [] (spD K Θ W_nothing)) : HasF Pg w K mg base CX0 2 "_law_world" ["members", "rows"] (spD K Θ W_world) := by
  have sc := sc_world
  refine A.okD sc W_world (fun ds h R ⟨_, _, e, _⟩ => by rw [e]; rfl) fun f cdv A outer s H E hr => ?_
  refine ⟨_, (pss_one (ps_ret (pe_lst (pa_cons (pv 0) (pa_cons (pv 1) (pa_cons (pe_lc (own := [("k", 2)]) rfl sc.nd (pi_range1 rfl m_range (pa_cons (pv 0) pa_nil)) (blkOk_by (N := ["members", "rows", "k"]) (sc := defScope (topS 28)) (by decide +kernel)) (fun _ _ _ _ _ => (pg_name (i := 2) sc.nd rfl (.inl rfl))) (fun _ _ _ _ _ => pts_nil) (fun _ _ _ _ _ => pe_int)) (pa_cons (pe_lst pa_nil) (pa_cons (h__law_nothing.call0 (hr.mono (by first | decide | omega)) rfl pass0) pa_nil)))))))), ?_⟩
  try dsimp only [cxOf]
  rintro ds h R ⟨m, rows, rfl, m0, m1, q⟩
  have sz := sizeLine_eq
  k_places
  refine ve_lstO ?_
  k_places
  refine ve_lcL tg_name (List.range m.toNat) (fun i => dI (0 + (i : Int))) (fun _ => true) (fun _ => .int 0) ?_
  refine vi_range1 ?_
  k_places
  refine ⟨m, rfl, by omega, by omega, rfl, by simp; omega, fun _ => trivial, fun x hx acc => ?_, ?_⟩
  · refine vg_name ⟨rfl, vt_yes ⟨rfl, rfl, fun _ => ?_⟩⟩
    k_places
    exact ⟨rfl, rfl⟩
  have ez : ((List.range m.toNat).filter fun _ => true).map (fun _ => P.int 0) = (List.replicate m.toNat (0 : Int)).map P.int := by
    rw [filter_tt]
    refine List.ext_getElem? fun k => ?_
    rw [List.getElem?_map, List.getElem?_map, List.getElem?_replicate]
    by_cases hk : k < m.toNat
    · rw [List.getElem?_range hk, if_pos hk]; rfl
    · rw [List.getElem?_eq_none_iff.mpr (by simp; omega), if_neg hk]; rfl
  rw [ez]
  k_places
  refine ve_lst ?_
  k_places
  refine ⟨rfl, ?_⟩
  k_places
  exact ⟨by simp; omega, q⟩
abbrev st_cutw : Stmt := (topS 29)
theorem sc_cutw : FnScope ["draws", "index", "members", "rows", "world", "last", "cut", "kept", "names", "k", "row", "place"] ["draws", "index", "members", "rows"] (defScope st_cutw) := ⟨rfl, rfl, rfl, by decide +kernel, rfl, by decide +kernel, by decide +kernel⟩
def W_cutw : Spc := fun ds h R => ∃ (m : Int) (ms : List Int) (x : Int) (rows : List Wd.Row), ds = [dL (ms.map P.int), dI x, dI m, dL (rows.map rowP)] ∧ Good ms ∧ ms.length ≤ 3780 ∧ 0 ≤ x ∧ x < 2 ^ 20 ∧ 1 ≤ m ∧ m ≤ 6 ∧
  Wd.RowsOk m rows ∧ rows.length ≤ 40 ∧ Wd.pubSum rows ≤ 39 ∧ ∀ w, Wd.CutW m rows w → R (.p (worldP w)) h
abbrev wEnv (ms : List Int) (x m : Int) (rows : List Wd.Row) (a4 a5 a6 a7 a8 a9 a10 a11 : Option Kb.D) : Env' := [some (dL (ms.map P.int)), some (dI x), some (dI m), some (dL (rows.map rowP)), a4, a5, a6, a7, a8, a9, a10, a11]
abbrev namesP (L : List Wd.Ent) : List (Option K3) := none :: L.map fun e => some e.k
def hwD (h : Hs) (W : List Kb.D) (cut : List Int) (L : List Wd.Ent) : Hs := h ++ [some (.lst W), some (.lst (cut.map dI)), some (.lst ((L.map entP).map Kb.D.p)), some (.lst (((namesP L).map capP).map Kb.D.p))]
theorem hw0 {h : Hs} {W : List Kb.D} {cut : List Int} {L : List Wd.Ent} : (hwD h W cut L)[h.length]? = some (some (.lst W)) := by unfold hwD; rw [List.getElem?_append_right (Nat.le_refl _), Nat.sub_self]; rfl
theorem hw1 {h : Hs} {W : List Kb.D} {cut : List Int} {L : List Wd.Ent} : (hwD h W cut L)[h.length + 1]? = some (some (.lst (cut.map dI))) := by unfold hwD; rw [List.getElem?_append_right (by omega), show h.length + 1 - h.length = 1 by omega]; rfl
theorem hw2 {h : Hs} {W : List Kb.D} {cut : List Int} {L : List Wd.Ent} : (hwD h W cut L)[h.length + 2]? = some (some (.lst ((L.map entP).map Kb.D.p))) := by unfold hwD; rw [List.getElem?_append_right (by omega), show h.length + 2 - h.length = 2 by omega]; rfl
theorem hw3 {h : Hs} {W : List Kb.D} {cut : List Int} {L : List Wd.Ent} : (hwD h W cut L)[h.length + 3]? = some (some (.lst (((namesP L).map capP).map Kb.D.p))) := by unfold hwD; rw [List.getElem?_append_right (by omega), show h.length + 3 - h.length = 3 by omega]; rfl
theorem hw_add {h : Hs} {W : List Kb.D} {cut : List Int} {L : List Wd.Ent} {e : Wd.Ent} : ((hwD h W cut L).set (h.length + 2) (some (.lst (((L ++ [e]).map entP).map Kb.D.p)))).set (h.length + 3) (some (.lst (((namesP L ++ [some e.k]).map capP).map Kb.D.p))) = hwD h W cut (L ++ [e]) := by
  unfold hwD
  rw [List.set_append_right _ _ (by omega), List.set_append_right _ _ (by omega), show h.length + 2 - h.length = 2 by omega, show h.length + 3 - h.length = 3 by omega]
  have : namesP (L ++ [e]) = namesP L ++ [some e.k] := by simp [namesP]
  rw [this]; rfl
theorem hw_w {h : Hs} {W W' : List Kb.D} {cut : List Int} {L : List Wd.Ent} : (hwD h W cut L).set h.length (some (.lst W')) = hwD h W' cut L := by
  unfold hwD
  rw [List.set_append_right _ _ (by omega), Nat.sub_self]; rfl
theorem ok_cutw (A : DefAt K mg "_law_cut_world" st_cutw ["draws", "index", "members", "rows"]) (m_len : mg "len" = none) (m_range : mg "range" = none) (m_list : mg "list" = none) (m_sorted : mg "sorted" = none) (h__law_at : HasF Pg w K mg base CX0 2 "_law_at" ["draws", "index"] (spD K Θ W_at))
    (h__law_world : HasF Pg w K mg base CX0 2 "_law_world" ["members", "rows"] (spD K Θ W_world)) : HasF Pg w K mg base CX0 3 "_law_cut_world" ["draws", "index", "members", "rows"] (spD K Θ W_cutw) := by
  have sc := sc_cutw
  refine A.okD sc W_cutw (fun ds h R ⟨_, _, _, _, e, _⟩ => by rw [e]; rfl) fun f cdv A outer s H E hr => ?_
  refine ⟨_, (pss_cons (ps_set (i := 4) sc.nd rfl (.inl rfl) (h__law_world.call (hr.mono (by first | decide | omega)) rfl pass0 (pa_cons (pv 2) (pa_cons (pv 3) pa_nil))))
  (pss_cons (ps_if (PW.pt (pw_or (pt_cmpR (op_eqUK (K := K) (by rfl) hr.units) (pe_callB (call_lenK (K := K) (by rfl)) (by rfl) m_len (by decide +kernel) (pa_cons (pv 3) pa_nil)) pe_int (nomark _)) (pw_or1 (pt_cmpR (op_neUK (K := K) (by rfl) hr.units) (pe_op op_mod (h__law_at.call (hr.mono (by first | decide | omega)) rfl pass0 (pa_cons (pv 0) (pa_cons (pv 1) pa_nil))) pe_int) pe_int (nomark _))))) (pss_one (ps_ret (pv 4))) pss_nil)
  (pss_cons (ps_set (i := 5) sc.nd rfl (.inl rfl) (pe_ix (ix_seqK (K := K) (by rfl)) (pv 3) (pe_op op_mod (h__law_at.call (hr.mono (by first | decide | omega)) rfl pass0 (pa_cons (pv 0) (pa_cons (pe_op (op_addWK (K := K) (by rfl)) (pv 1) pe_int) pa_nil))) (pe_callB (call_lenK (K := K) (by rfl)) (by rfl) m_len (by decide +kernel) (pa_cons (pv 3) pa_nil))) (fun _ _ => rfl)))
  (pss_cons (ps_set (i := 6) sc.nd rfl (.inr rfl) (pe_callTy (call_list_ofK (K := K) (by rfl)) (by rfl) m_list (by decide +kernel) (pa_cons (pe_ix (ix_seqK (K := K) (by rfl)) (pv 5) pe_int (fun _ _ => rfl)) pa_nil)))
  (pss_cons (ps_asg (pe_op (op_addWK (K := K) (by rfl)) (pe_ix (ix_seqK (K := K) (by rfl)) (pv 6) (pe_ix (ix_seqK (K := K) (by rfl)) (pv 5) pe_int (fun _ _ => rfl)) (fun _ _ => rfl)) (pe_op op_mod (h__law_at.call (hr.mono (by first | decide | omega)) rfl pass0 (pa_cons (pv 0) (pa_cons (pe_op (op_addWK (K := K) (by rfl)) (pv 1) pe_int) pa_nil))) pe_int)) (pg_sub (pv 6) (pe_ix (ix_seqK (K := K) (by rfl)) (pv 5) pe_int (fun _ _ => rfl)) set_list))
  (pss_cons (ps_set (i := 7) sc.nd rfl (.inl rfl) (pe_lst pa_nil))
  (pss_cons (ps_set (i := 8) sc.nd rfl (.inl rfl) (pe_lst (pa_cons pe_non pa_nil)))
  (pss_cons (ps_for PassesOwn.never rfl (pi_range1 rfl m_range (pa_cons (pe_callB (call_lenK (K := K) (by rfl)) (by rfl) m_len (by decide +kernel) (pa_cons (pv 3) pa_nil)) pa_nil)) (pg_name (i := 9) sc.nd rfl (.inl rfl))
  (pss_cons (ps_set (i := 10) sc.nd rfl (.inl rfl) (pe_ix (ix_seqK (K := K) (by rfl)) (pv 3) (pv 9) (fun _ _ => rfl)))
  (pss_one (ps_if (PW.pt (pw_and (pt_cmpR op_le (pe_ix (ix_seqK (K := K) (by rfl)) (pv 10) pe_int (fun _ _ => rfl)) (pe_ix (ix_seqK (K := K) (by rfl)) (pv 6) (pe_ix (ix_seqK (K := K) (by rfl)) (pv 10) pe_int (fun _ _ => rfl)) (fun _ _ => rfl)) (nomark _)) (pw_and1 (pt_cmpR (op_inDK (K := K) (by rfl) hr.u65) (pe_ix (ix_seqK (K := K) (by rfl)) (pv 10) pe_int (fun _ _ => rfl)) (pv 8) (by rfl))))) (pss_one (ps_for PassesOwn.never rfl (pi_range1 rfl m_range (pa_cons (pe_callB (call_lenK (K := K) (by rfl)) (by rfl) m_len (by decide +kernel) (pa_cons (pe_ix (ix_seqK (K := K) (by rfl)) (pv 10) pe_int (fun _ _ => rfl)) pa_nil)) pa_nil)) (pg_name (i := 11) sc.nd rfl (.inl rfl))
  (pss_one (ps_if (PW.pt (pw_and (pt_cmpR (op_eqUK (K := K) (by rfl) hr.units) (pe_ix (ix_seqK (K := K) (by rfl)) (pe_ix (ix_seqK (K := K) (by rfl)) (pe_ix (ix_seqK (K := K) (by rfl)) (pv 10) pe_int (fun _ _ => rfl)) (pv 11) (fun _ _ => rfl)) pe_int (fun _ _ => rfl)) pe_str (nomark _)) (pw_and1 (pt_cmpR (op_neUK (K := K) (by rfl) hr.units) (pe_op op_mod (h__law_at.call (hr.mono (by first | decide | omega)) rfl pass0 (pa_cons (pv 0) (pa_cons (pe_op (op_addWK (K := K) (by rfl)) (pe_op (op_addWK (K := K) (by rfl)) (pe_op (op_addWK (K := K) (by rfl)) (pv 1) pe_int) (pe_op op_mulU pe_int (pv 9))) (pv 11)) pa_nil))) pe_int) pe_int (nomark _))))) (pss_cons (ps_expr (pe_bm PySem.F.plainAttrs_list PySem.F.slot_list_append PySem.F.type_list_append mt_append (pv 7) (pa_cons (pe_tup (pa_cons (pe_tup (pa_cons (pe_ix (ix_seqK (K := K) (by rfl)) (pv 10) pe_int (fun _ _ => rfl)) (pa_cons (pe_ix (ix_seqK (K := K) (by rfl)) (pv 10) pe_int (fun _ _ => rfl)) (pa_cons (pv 11) pa_nil)))) (pa_cons (pe_ix (ix_seqK (K := K) (by rfl)) (pv 10) pe_int (fun _ _ => rfl)) (pa_cons (pe_ix (ix_seqK (K := K) (by rfl)) (pe_ix (ix_seqK (K := K) (by rfl)) (pe_ix (ix_seqK (K := K) (by rfl)) (pv 10) pe_int (fun _ _ => rfl)) (pv 11) (fun _ _ => rfl)) pe_int (fun _ _ => rfl)) (pa_cons (pe_ix (ix_seqK (K := K) (by rfl)) (pe_ix (ix_seqK (K := K) (by rfl)) (pe_ix (ix_seqK (K := K) (by rfl)) (pv 10) pe_int (fun _ _ => rfl)) (pv 11) (fun _ _ => rfl)) pe_int (fun _ _ => rfl)) pa_nil))))) pa_nil)))
  (pss_one (ps_expr (pe_bm PySem.F.plainAttrs_list PySem.F.slot_list_append PySem.F.type_list_append mt_append (pv 8) (pa_cons (pe_tup (pa_cons (pe_ix (ix_seqK (K := K) (by rfl)) (pv 10) pe_int (fun _ _ => rfl)) (pa_cons (pe_ix (ix_seqK (K := K) (by rfl)) (pv 10) pe_int (fun _ _ => rfl)) (pa_cons (pv 11) pa_nil)))) pa_nil))))) pss_nil)))) pss_nil))))
  (pss_cons (ps_asg (pe_lc (own := [("row", 10)]) rfl sc.nd (pi_seqK (K := K) (by rfl) (pv 3)) (blkOk_by (N := ["draws", "index", "members", "rows", "world", "last", "cut", "kept", "names", "k", "row", "place"]) (sc := defScope (topS 29)) (by decide +kernel)) (fun _ _ _ _ _ => (pg_name (i := 10) sc.nd rfl (.inl rfl))) (fun _ _ _ _ _ => (pts_one (pt_cmpR op_gt (pe_ix (ix_seqK (K := K) (by rfl)) (pv 10) pe_int (fun _ _ => rfl)) (pe_ix (ix_seqK (K := K) (by rfl)) (pv 6) (pe_ix (ix_seqK (K := K) (by rfl)) (pv 10) pe_int (fun _ _ => rfl)) (fun _ _ => rfl)) (nomark _)))) (fun _ _ _ _ _ => (pv 10))) (pg_sub (pv 4) pe_int set_list))
  (pss_cons (ps_asg (pv 6) (pg_sub (pv 4) pe_int set_list))
  (pss_cons (ps_asg (pe_callB (cr_sortK3K (K := K) (by rfl) hr.units) (by rfl) m_sorted (by decide +kernel) (pa_cons (pv 7) pa_nil)) (pg_sub (pv 4) pe_int set_list))
  (pss_one (ps_ret (pv 4)))))))))))))), ?_⟩
  try dsimp only [cxOf]
  rintro ds h R ⟨m, ms, x, rows, rfl, hg, hm, x0, x1, m0, m1, rok, rl, ps, q⟩
  have sz := sizeLine_eq
  have lo1 := lawAt_lo hg x x0
  have lo2 := lawAt_lo hg (x + 1) (by omega)
  have lo3 := lawAt_lo hg (x + 2) (by omega)
  refine vs_fin ?_
  refine vs_seq ?_
  k_offL
  refine ⟨m, rows, rfl, by omega, by omega, ?_⟩
  k_offL
  generalize hW : (⟨m, rows, List.replicate m.toNat 0, []⟩ : Wd.Wld) = w0
  have q0 : R (.p (worldP w0)) h := by rw [← hW]; exact q _ (Wd.cutW_all rok m0 m1 rl ps)
  refine vs_seq ?_
  k_places
  rw [List.length_map]
  refine ite_midT ?_ (fun e1 k => ?_)
  · k_places
    exact fin_own rfl q0
  k_places
  generalize lawAt ms x = v1 at *
  refine ite_ndec (fun e2 => ?_) (fun e2 => ?_)
  · k_places
    exact fin_own rfl q0
  clear q0
  have e1 := of_decide_eq_false e1
  have rp : (0 : Int) < ((rows.length : Nat) : Int) := by omega
  k_offL
  refine vs_seq ?_
  k_offL
  rw [List.length_map]
  k_offL
  generalize lawAt ms (x + 1) = v2 at *
  have j1 := Int.emod_nonneg v2 (show (rows.length : Int) ≠ 0 by omega)
  have j2 := Int.emod_lt_of_pos v2 rp
  have jl : (v2 % (rows.length : Int)).toNat < rows.length := by omega
  refine v2_ixL (at_nat _ (Int.toNat_of_nonneg j1).symm (by rw [List.getElem?_map, List.getElem?_eq_getElem jl]; rfl)) ?_
  have hlast := List.getElem_mem jl
  generalize rows[(v2 % (rows.length : Int)).toNat] = last at *
  obtain ⟨la0, la1, lhl, ln0, ln1, lown, lhd⟩ := rok.each last hlast
  k_offL
  refine vs_seq ?_
  k_offL
  refine v2_ixL (at_nat 2 (by omega) rfl) ?_
  k_offL
  refine vc_listO (ps := last.hd.map P.int) rfl ?_
  k_offL
  rw [map_dI]
  have hL0 : (h ++ [some (OO.lst ((worldI w0).map Kb.D.p))]).length = h.length + 1 := by simp
  rw [hL0]
  have al : last.a.toNat < last.hd.length := by omega
  have ea : last.hd[last.a.toNat] = last.n - 1 := by
    rw [List.getElem?_eq_getElem al] at lown
    exact Option.some.inj lown
  have g1 : (h ++ [some (OO.lst ((worldI w0).map Kb.D.p))] ++ [some (OO.lst (last.hd.map dI))])[h.length + 1]? = some (some (.lst (last.hd.map dI))) := by rw [← hL0]; exact get_last
  refine vs_seq ?_
  k_offL
  refine v2_ixL (at_nat 0 (by omega) rfl) ?_
  k_offL
  refine v2_ixO g1 (at_nat last.a.toNat (by omega) (by rw [List.getElem?_map, List.getElem?_eq_getElem al]; rfl)) ?_
  k_offL
  generalize lawAt ms (x + 2) = v3 at *
  rw [ea]
  refine vg_subO ?_
  k_offL
  refine v2_ixL (at_nat 0 (by omega) rfl) ?_
  refine ⟨h.length + 1, last.a, _, rfl, rfl, g1, la0, by rw [List.length_map]; exact al, ?_⟩
  have ec : ((last.hd.map dI).set last.a.toNat (dI (last.n - 1 + v3 % 2))) = (last.hd.set last.a.toNat (last.n - 1 + v3 % 2)).map dI := by rw [List.map_set]
  rw [ec]
  generalize hcut : last.hd.set last.a.toNat (last.n - 1 + v3 % 2) = cut
  have cl : cut.length = m.toNat := by rw [← hcut, List.length_set]; exact lhl
  have cb : ∀ (j : Nat) (y : Int), cut[j]? = some y → 0 ≤ y ∧ y ≤ Wd.cnt rows j := fun j y hy => by
    rw [← hcut] at hy
    by_cases ej : last.a.toNat = j
    · subst ej
      rw [List.getElem?_set_self al] at hy
      have hy := Option.some.inj hy
      rw [Int.toNat_of_nonneg la0]
      omega
    · rw [List.getElem?_set_ne ej] at hy
      exact lhd j y hy
  have eh : (h ++ [some (OO.lst ((worldI w0).map Kb.D.p))] ++ [some (OO.lst (last.hd.map dI))]).set (h.length + 1) (some (.lst (cut.map dI))) = h ++ [some (OO.lst ((worldI w0).map Kb.D.p)), some (OO.lst (cut.map dI))] := by
    rw [← hL0, List.set_append_right _ _ (Nat.le_refl _), Nat.sub_self, List.append_assoc]; rfl
  rw [eh]
  clear eh g1 ec
  refine vs_seq ?_
  refine vs_asg ?_
  refine ve_lstO ?_
  k_offL
  refine ⟨by simp, ?_⟩
  k_offL
  refine vs_seq ?_
  refine vs_asg ?_
  refine ve_lstO ?_
  k_offL
  refine ⟨by simp; omega, ?_⟩
  have ehw : h ++ [some (OO.lst ((worldI w0).map Kb.D.p)), some (OO.lst (cut.map dI))] ++ [some (OO.lst [])] ++ [some (OO.lst [dN])] = hwD h ((worldI w0).map Kb.D.p) cut [] := by
    rw [List.append_assoc, List.append_assoc]; rfl
  rw [ehw]
  have el2 : (h ++ [some (OO.lst ((worldI w0).map Kb.D.p)), some (OO.lst (cut.map dI))]).length = h.length + 2 := by simp
  have el3 : (h ++ [some (OO.lst ((worldI w0).map Kb.D.p)), some (OO.lst (cut.map dI))] ++ [some (OO.lst [])]).length = h.length + 3 := by simp
  rw [el2, el3]
  k_offL
  refine vs_cut (fun env' h' => ∃ (L : List Wd.Ent) (o9 o10 o11 : Option Kb.D), Wd.KInv m rows cut rows.length 0 L ∧ h' = hwD h ((worldI w0).map Kb.D.p) cut L ∧
    env' = wEnv ms x m rows (some (.own h.length)) (some (.p (rowP last))) (some (.own (h.length + 1))) (some (.own (h.length + 2))) (some (.own (h.length + 3))) o9 o10 o11) ?_ ?_
  · refine vs_for (vi_range1 ?_)
    k_places
    rw [List.length_map]
    refine ⟨_, rfl, by omega, by omega, ?_⟩
    refine ⟨fun i env' h' => ∃ (L : List Wd.Ent) (o9 o10 o11 : Option Kb.D), Wd.KInv m rows cut i 0 L ∧ h' = hwD h ((worldI w0).map Kb.D.p) cut L ∧
      env' = wEnv ms x m rows (some (.own h.length)) (some (.p (rowP last))) (some (.own (h.length + 1))) (some (.own (h.length + 2))) (some (.own (h.length + 3))) o9 o10 o11, ⟨[], none, none, none, .start, rfl, rfl⟩, fun _ _ _ _ => trivial, ?_, ?_⟩
    · rintro i d env' h' hd ⟨L, o9, o10, o11, kv, rfl, rfl⟩
      obtain ⟨hi, rfl⟩ := rng_get hd
      have hir : i < rows.length := by simpa using hi
      have er := List.getElem?_eq_getElem hir
      have hmem := List.getElem_mem hir
      generalize rows[i] = r at er hmem
      obtain ⟨a0, a1, hl, n0, n1, own, hdb⟩ := rok.each r hmem
      obtain ⟨cpk, pbk, pl⟩ := rok.pubs r hmem
      have kl := kv.len
      have psf : Wd.pubSum ((rows.take i).filter (Wd.isCut cut)) ≤ 39 := by
        have s1 := Wd.pubSum_split (Wd.isCut cut) (rows.take i)
        have s2 := Wd.pubSum_app (rows.take i) (rows.drop i)
        rw [List.take_append_drop] at s2
        omega
      have ac : r.a.toNat < cut.length := by omega
      have ecut : Wd.cutA cut r.a = cut[r.a.toNat] := by
        unfold Wd.cutA
        rw [List.getElem?_eq_getElem ac]; rfl
      refine vg_name ?_
      refine vs_seq ?_
      k_offL
      refine v2_ixL (at_nat i (by omega) (by rw [List.getElem?_map, er]; rfl)) ?_
      k_places
      refine v2_ixL (at_nat 1 (by omega) rfl) ?_
      k_places
      refine v2_ixL (at_nat 0 (by omega) rfl) ?_
      k_places
      refine v2_ixO hw1 (at_nat r.a.toNat (by omega) (by rw [List.getElem?_map, List.getElem?_eq_getElem ac]; rfl)) ?_
      k_places
      refine ite_mid ?_ (fun e3 kk => ?_)
      · k_places
        exact ⟨L, _, _, _, kv.skip er, rfl, rfl⟩
      have e3 := of_decide_eq_true e3
      have hc : Wd.isCut cut r = true := by unfold Wd.isCut; rw [ecut]; exact decide_eq_true e3
      k_places
      refine v2_ixL (at_nat 3 (by omega) rfl) ?_
      k_places
      refine v2_inCap (cs := namesP L) hw3 ?_
      k_places
      refine ite_dec (fun e4 => ?_) (fun _ => kk)
      clear kk
      have hpar : r.cap = none ∨ ∃ e' ∈ L, r.cap = some e'.k := by
        rcases List.mem_cons.mp e4 with z | z
        · exact .inl z
        · obtain ⟨e', h1, h2⟩ := List.mem_map.mp z
          exact .inr ⟨e', h1, h2.symm⟩
      refine vs_for (vi_range1 ?_)
      k_places
      refine v2_ixL row_pub ?_
      k_places
      rw [List.length_map]
      refine ⟨_, rfl, by omega, by omega, ?_⟩
      refine ⟨fun p env' h' => ∃ (L : List Wd.Ent) (o11 : Option Kb.D), Wd.KInv m rows cut i p L ∧ (r.cap = none ∨ ∃ e' ∈ L, r.cap = some e'.k) ∧ h' = hwD h ((worldI w0).map Kb.D.p) cut L ∧
        env' = wEnv ms x m rows (some (.own h.length)) (some (.p (rowP last))) (some (.own (h.length + 1))) (some (.own (h.length + 2))) (some (.own (h.length + 3))) (some (dI (0 + (i : Int)))) (some (.p (rowP r))) o11, ⟨L, _, kv, hpar, rfl, rfl⟩, fun _ _ _ _ => trivial, ?_, ?_⟩
      · clear kl kv hpar e4
        rintro p d env' h' hd ⟨L, o11, kv, hpar, rfl, rfl⟩
        obtain ⟨hp, rfl⟩ := rng_get hd
        have hpp : p < r.pub.length := by simpa using hp
        have gp : (r.pub.map pubP)[p]? = some (pubP r.pub[p]) := by rw [List.getElem?_map, List.getElem?_eq_getElem hpp]; rfl
        have pk := pbk _ (List.getElem_mem hpp)
        have kl := kv.len
        generalize r.pub[p] = u at gp pk
        have stay : ∃ (L_1 : List Wd.Ent) (o11 : Option Kb.D), Wd.KInv m rows cut i (p + 1) L_1 ∧ (r.cap = none ∨ ∃ e' ∈ L_1, r.cap = some e'.k) ∧ hwD h ((worldI w0).map Kb.D.p) cut L = hwD h ((worldI w0).map Kb.D.p) cut L_1 ∧
          wEnv ms x m rows (some (.own h.length)) (some (.p (rowP last))) (some (.own (h.length + 1))) (some (.own (h.length + 2))) (some (.own (h.length + 3))) (some (dI (0 + (i : Int)))) (some (.p (rowP r))) (some (dI (0 + (p : Int)))) =
          wEnv ms x m rows (some (.own h.length)) (some (.p (rowP last))) (some (.own (h.length + 1))) (some (.own (h.length + 2))) (some (.own (h.length + 3))) (some (dI (0 + (i : Int)))) (some (.p (rowP r))) o11 := ⟨L, _, kv.next, hpar, rfl, rfl⟩
        refine vg_name ?_
        k_places
        refine v2_ixL row_pub ?_
        k_places
        refine v2_ixL (at_nat p (by omega) gp) ?_
        k_places
        cases u with
        | revoke c =>
          refine v2_ixT (at_nat 0 (by omega) rfl) ?_
          k_places
          exact stay
        | mark =>
          refine v2_ixT (at_nat 0 (by omega) rfl) ?_
          k_places
          exact stay
        | grant hh rr =>
          refine v2_ixT (at_nat 0 (by omega) rfl) ?_
          k_places
          refine ite_ndec (fun e5 => ?_) (fun _ => ?_)
          · k_places
            refine ve_bm ?_
            k_places
            refine ⟨⟨rfl, _, hw2⟩, ?_⟩
            k_places
            refine v2_ixL (at_nat 0 (by omega) rfl) ?_
            k_places
            refine v2_ixL (at_nat 1 (by omega) rfl) ?_
            k_places
            refine v2_ixL (at_nat 3 (by omega) rfl) ?_
            k_places
            refine v2_ixL row_pub ?_
            k_places
            refine v2_ixL (at_nat p (by omega) gp) ?_
            k_places
            refine v2_ixT (at_nat 1 (by omega) rfl) ?_
            k_places
            refine v2_ixL row_pub ?_
            k_places
            refine v2_ixL (at_nat p (by omega) gp) ?_
            k_places
            refine v2_ixT (at_nat 2 (by omega) rfl) ?_
            k_places
            refine vm_appA (f := entP) (xs := L) (x := ⟨(r.a, r.n, (0 + (p : Int))), r.cap, hh, rr⟩) hw2 (by omega) ?_
            k_places
            refine ve_bm ?_
            k_places
            refine ⟨⟨rfl, _, get_put hw3 (by omega)⟩, ?_⟩
            k_places
            refine v2_ixL (at_nat 0 (by omega) rfl) ?_
            k_places
            refine v2_ixL (at_nat 1 (by omega) rfl) ?_
            k_places
            refine vm_appA (f := capP) (xs := namesP L) (x := some (r.a, r.n, (0 + (p : Int)))) (get_put hw3 (by omega)) (by simp [namesP]; omega) ?_
            rw [hw_add (e := ⟨(r.a, r.n, (0 + (p : Int))), r.cap, hh, rr⟩)]
            refine ⟨L ++ [_], _, kv.add rok.names er hc hpp (by simp) ⟨fun k e => ?_, cpk, pk.2.2, pk.1, pk.2.1⟩ hpar, ?_, rfl, rfl⟩
            · cases e
              exact ⟨a0, a1, n0, by show 0 ≤ 0 + (p : Int); omega⟩
            · rcases hpar with z | ⟨e', h1, h2⟩
              · exact .inl z
              · exact .inr ⟨e', List.mem_append_left _ h1, h2⟩
          · k_places
            exact stay
      · rintro env' h' ⟨L, o11, kv, _, rfl, rfl⟩
        rw [rng_len] at kv
        exact ⟨L, _, _, _, kv.done er hc (by simp), rfl, rfl⟩
    · rintro env' h' ⟨L, o9, o10, o11, kv, rfl, rfl⟩
      rw [rng_len] at kv
      exact ⟨L, _, _, _, by simpa using kv, rfl, rfl⟩
  rintro env' h' ⟨L, o9, o10, o11, kv, rfl, rfl⟩
  have pf : Pfx h (hwD h ((worldI w0).map Kb.D.p) cut L) := ⟨_, rfl⟩
  have hl : (hwD h ((worldI w0).map Kb.D.p) cut L).length = h.length + 4 := by unfold hwD; simp
  have W0 : (worldI w0).map Kb.D.p = [dI m, dL (rows.map rowP), dL ((List.replicate m.toNat (0 : Int)).map P.int), dL [], .p nothingP] := by rw [← hW]; rfl
  refine vs_seq ?_
  refine vs_asg ?_
  refine ve_lcL tg_name rows (fun r => .p (rowP r)) (fun r => decide (Wd.cutA cut r.a < r.n)) rowP ?_
  refine vi_seqL ?_
  k_places
  refine ⟨_, rfl, by rw [List.map_map]; rfl, by omega, fun _ => trivial, fun r hr acc => ?_, ?_⟩
  · obtain ⟨a0, a1, _, n0, n1, own, hdb⟩ := rok.each r hr
    have ac : r.a.toNat < cut.length := by omega
    have ecut : Wd.cutA cut r.a = cut[r.a.toNat] := by
      unfold Wd.cutA
      rw [List.getElem?_eq_getElem ac]; rfl
    refine vg_name ⟨rfl, ?_⟩
    k_places
    refine v2_ixL (at_nat 1 (by omega) rfl) ?_
    k_places
    refine v2_ixL (at_nat 0 (by omega) rfl) ?_
    k_places
    refine v2_ixO (get_push hw1) (at_nat r.a.toNat (by omega) (by rw [List.getElem?_map, List.getElem?_eq_getElem ac]; rfl)) ?_
    k_places
    refine ⟨rfl, by rw [ecut], fun _ => ?_⟩
    k_places
    exact ⟨rfl, rfl⟩
  rw [← Wd.isCut_eq]
  generalize hrs : (rows.filter fun r => !Wd.isCut cut r) = rs
  refine vg_subO ?_
  k_places
  refine ⟨h.length, 1, _, rfl, rfl, hw0, by omega, by rw [W0]; show 1 < 5; omega, ?_⟩
  rw [hw_w, W0]
  show VS _ _ _ _ _ (hwD h [dI m, dL (rs.map rowP), dL ((List.replicate m.toNat (0 : Int)).map P.int), dL [], .p nothingP] cut L)
  generalize hW1 : [dI m, dL (rs.map rowP), dL ((List.replicate m.toNat (0 : Int)).map P.int), dL [], .p nothingP] = W1
  refine vs_freeze (i := 6) (n := h.length + 1) (ps := cut.map P.int) rfl (by rw [hw1, map_dI]) ?_
  have f0 : ((hwD h W1 cut L).set (h.length + 1) none)[h.length]? = some (some (.lst W1)) := get_put hw0 (by omega)
  have f2 : ((hwD h W1 cut L).set (h.length + 1) none)[h.length + 2]? = some (some (.lst ((L.map entP).map Kb.D.p))) := get_put hw2 (by omega)
  have pf2 : Pfx h ((hwD h W1 cut L).set (h.length + 1) none) := Pfx.put ⟨_, rfl⟩ (by omega) _
  generalize (hwD h W1 cut L).set (h.length + 1) none = g at f0 f2 pf2
  have gl := lt_of_get f0
  refine vs_seq ?_
  k_offL
  refine vg_subO ?_
  k_places
  refine ⟨h.length, 2, _, rfl, rfl, f0, by omega, by rw [← hW1]; show 2 < 5; omega, ?_⟩
  rw [← hW1]
  refine vs_seq ?_
  k_offL
  refine vc_sortK3 (ps := L.map entP) (ks := L.map (·.k)) (get_put f2 (by omega)) kv.nd (by rw [List.length_map, List.length_map]) (fun i x c hx hc => ?_) (fun qs pq => ?_)
  · rw [List.getElem?_map] at hx hc
    cases e : L[i]? with
    | none => rw [e] at hx; cases hx
    | some y =>
      rw [e] at hx hc
      cases hx; cases hc
      exact ⟨_, rfl⟩
  obtain ⟨caps, pc, rfl⟩ := Wd.perm_map pq rfl
  refine vg_subO ?_
  k_places
  refine ⟨h.length, 3, _, rfl, rfl, get_self gl, by omega, by show 3 < 5; omega, ?_⟩
  k_places
  have cw := Wd.cutW_of rok m0 m1 rl ps cl cb kv pc
  rw [hrs] at cw
  obtain ⟨gg, eg⟩ := (pf2.put (Nat.le_refl _) (some (.lst ([dI m, dL (rs.map rowP), dL ((List.replicate m.toNat (0 : Int)).map P.int), dL [], .p nothingP].set 2 (dL (cut.map P.int)))))).put (Nat.le_refl _) (some (.lst (([dI m, dL (rs.map rowP), dL ((List.replicate m.toNat (0 : Int)).map P.int), dL [], .p nothingP].set 2 (dL (cut.map P.int))).set 3 (dL (caps.map entP)))))
  exact ⟨gg, eg, .inr (.inl ⟨h.length, worldI ⟨m, rs, cut, caps⟩, rfl, Nat.le_refl _, get_self (by rw [List.length_set]; exact gl), q _ cw⟩)⟩
end
end Law

namespace Law
open PySem PySem.Spec PyProof.Rows L2 Kb Gx
-- the steps that are tried: k_clsL a side condition; k_subL one step; k_places steps as long as one fits
local macro_rules | `(tactic| k_clsL) => `(tactic| first | assumption | decide | omega)
local macro_rules | `(tactic| k_subL) => `(tactic| first
  | (with_reducible refine vs_seq ?_) | (with_reducible refine vs_asg ?_) | (with_reducible refine vg_name ?_) | (with_reducible refine vs_ret ?_) | (with_reducible refine vs_if ?_) | (with_reducible refine vs_next ?_) | (with_reducible refine vs_drop ?_)
  | (with_reducible refine vt_test ?_) | (with_reducible refine vt_B ?_) | (with_reducible refine vt_and ?_) | (with_reducible refine vt_or ?_) | (with_reducible refine vt_not ?_) | (with_reducible refine vt_truth ?_)
  | (with_reducible refine ve_op ?_) | (with_reducible refine ve_isi2 ?_) | ((with_reducible refine isi2_i (T := "tuple") ?hT ?hm ?hn ?_); (case hT => exact rfl); (case hm => decide); (case hn => decide)) | ((with_reducible refine isi2_i (T := "list") ?hT ?hm ?hn ?_); (case hT => exact rfl); (case hm => decide); (case hn => decide)) | ((with_reducible refine isi2_i (T := "int") ?hT ?hm ?hn ?_); (case hT => exact rfl); (case hm => decide); (case hn => decide)) | ((with_reducible refine isi2_i (T := "bool") ?hT ?hm ?hn ?_); (case hT => exact rfl); (case hm => decide); (case hn => decide)) | ((with_reducible refine isi2_i (T := "str") ?hT ?hm ?hn ?_); (case hT => exact rfl); (case hm => decide); (case hn => decide)) | ((with_reducible refine isi2_i (T := "NoneType") ?hT ?hm ?hn ?_); (case hT => exact rfl); (case hm => decide); (case hn => decide)) | (with_reducible refine ve_cb ?_) | (with_reducible refine va_cons ?_) | (with_reducible refine va_nil ?_) | (with_reducible refine ve_call ?_)
  | (with_reducible refine ve_int ?_) | (with_reducible refine ve_str ?_) | (with_reducible refine ve_bl ?_) | (with_reducible refine ve_non ?_) | (with_reducible refine ve_ty ?_)
  | (refine ve_var (by exact rfl) ?_)
  | (with_reducible refine ve_and ?_) | (with_reducible refine ve_or ?_) | (with_reducible refine ve_not ?_) | (with_reducible refine ve_chain ?_) | (with_reducible refine ve_un ?_) | (with_reducible refine ve_if ?_)
  | (with_reducible refine bool_ans ?_) | (with_reducible refine tru_bl ?_)
  | (with_reducible refine vc_intI ?_) | (with_reducible refine vc_intB ?_) | (with_reducible refine v2_addI ?_) | (with_reducible refine v2_sub ?_)
  | (with_reducible refine v2_lt ?_) | (with_reducible refine v2_le ?_) | (with_reducible refine v2_gt ?_) | (with_reducible refine v2_ge ?_)
  | (with_reducible refine v2_eqI ?_) | (with_reducible refine v2_eqS ?_) | (with_reducible refine v2_eqB ?_) | (with_reducible refine v2_neI ?_) | (with_reducible refine v2_neS ?_) | (with_reducible refine v2_neB ?_)
  | (with_reducible refine v2_isN ?_) | (with_reducible refine v2_notN ?_) | (with_reducible refine v2_isNU ?_) | ((with_reducible refine v2_isBl ?hx ?_); (case hx => exact rfl))
  | (with_reducible refine v2_addVI ?_) | (with_reducible refine v2_addWI ?_) | (with_reducible refine v2_ltI ?_) | (with_reducible refine v2_ltB ?_) | (with_reducible refine v2_ltS ?_)
  | ((with_reducible refine v2_divW ?hm ?_); case hm => (constructor <;> k_clsL))
  | ((with_reducible refine v2_mulU ?hm ?_); case hm => first | exact cmul_small (by k_clsL) (by k_clsL) | exact cmul_wide (by k_clsL) (by k_clsL))
  | ((with_reducible refine v2_mod ?hm ?_); case hm => k_clsL) | ((with_reducible refine v2_div ?hm ?_); case hm => (constructor <;> k_clsL))
  | ((with_reducible refine v2_mul ?hm ?_); case hm => first | exact cmul_small (by k_clsL) (by k_clsL) | exact cmul_wide (by k_clsL) (by k_clsL))
  | (with_reducible refine vc_abs ?_) | (with_reducible refine vc_min2 ?_) | (with_reducible refine vc_max2 ?_)
  | (with_reducible refine ve_tup ?_) | ((with_reducible refine tup_j ?hl ?_); (case hl => exact rfl))
  | ((with_reducible refine vc_isi (T := "tuple") ?hT ?hn ?_); (case hT => first | exact rfl | exact ⟨rfl, _, by first | assumption | simp⟩); (case hn => decide)) | ((with_reducible refine vc_isi (T := "list") ?hT ?hn ?_); (case hT => first | exact rfl | exact ⟨rfl, _, by first | assumption | simp⟩); (case hn => decide)) | ((with_reducible refine vc_isi (T := "int") ?hT ?hn ?_); (case hT => first | exact rfl | exact ⟨rfl, _, by first | assumption | simp⟩); (case hn => decide)) | ((with_reducible refine vc_isi (T := "bool") ?hT ?hn ?_); (case hT => first | exact rfl | exact ⟨rfl, _, by first | assumption | simp⟩); (case hn => decide)) | ((with_reducible refine vc_isi (T := "str") ?hT ?hn ?_); (case hT => first | exact rfl | exact ⟨rfl, _, by first | assumption | simp⟩); (case hn => decide)) | ((with_reducible refine vc_isi (T := "NoneType") ?hT ?hn ?_); (case hT => first | exact rfl | exact ⟨rfl, _, by first | assumption | simp⟩); (case hn => decide))
  | (with_reducible refine vc_lenL ?_) | (with_reducible refine vc_lenT ?_) | (with_reducible refine ite_nrefl ?_) | (with_reducible refine ite_refl ?_)
  | ((with_reducible refine ite_tt ?hc ?_); (case hc => first | decide | exact rfl)) | ((with_reducible refine ite_ff ?hc ?_); (case hc => first | decide | exact rfl))
  | (with_reducible refine v1_U ?_))
local macro_rules | `(tactic| k_places) => `(tactic| repeat k_subL)
local macro_rules | `(tactic| k_offL) => `(tactic| repeat ((fail_if_success (with_reducible refine vs_seq ?_)); k_subL))

theorem pfx_of {h h' : Hs} (e : ∀ i, i < h.length → h'[i]? = h[i]?) (l : h.length ≤ h'.length) : Pfx h h' := by
  refine ⟨h'.drop h.length, List.ext_getElem? fun i => ?_⟩
  by_cases hi : i < h.length
  · rw [List.getElem?_append_left hi]; exact e i hi
  · rw [List.getElem?_append_right (by omega), List.getElem?_drop, show h.length + (i - h.length) = i by omega]
theorem pfx_at {h0 h : Hs} (p : Pfx h0 h) {i : Nat} (hi : i < h0.length) : h[i]? = h0[i]? := by
  obtain ⟨g, rfl⟩ := p
  exact List.getElem?_append_left hi
section
variable {C : Addr} {h : Hs} {n : Nat} {m : Int} {cut : List Int} {caps kept : List P} {chs : List (List P)} {I : List Nat}
theorem StoreAt.cutP (S : StoreAt C h n m cut caps kept chs I) : ∃ i, i ∈ I ∧ FldD "cut" (.own n) h C (.own i) ∧ h[i]? = some (some (.lst (cut.map dI))) ∧ ∀ cut' : List Int, StoreAt C (h.set i (some (.lst (cut'.map dI)))) n m cut' caps kept chs I := by
  obtain ⟨i1, i2, i3, i4, js, rfl, h1, h2, h3, h4, h5, h6, h7, nd⟩ := S.ex
  simp only [List.nodup_cons, List.mem_cons, not_or] at nd
  obtain ⟨⟨a1, a2, a3, a4, a5⟩, ⟨b1, b2, b3, b4⟩, ⟨c1, c2, c3⟩, ⟨d1, d2⟩, e1, f1⟩ := nd
  refine ⟨i1, by simp, ⟨_, h1, by kernel_rfl⟩, h2, fun cut' => ⟨i1, i2, i3, i4, js, rfl, get_put h1 (fun z => a1 z.symm), get_self (lt_of_get h2), get_put h3 b1, get_put h4 b2, get_put h5 b3, h6, fun k j cs hj hc => get_put (h7 k j cs hj hc) fun z => b4 (z ▸ List.mem_of_getElem? hj), ?_⟩⟩
  simp only [List.nodup_cons, List.mem_cons, not_or]
  exact ⟨⟨a1, a2, a3, a4, a5⟩, ⟨b1, b2, b3, b4⟩, ⟨c1, c2, c3⟩, ⟨d1, d2⟩, e1, f1⟩
theorem StoreAt.capsP (S : StoreAt C h n m cut caps kept chs I) : ∃ i, i ∈ I ∧ FldD "capabilities" (.own n) h C (.own i) ∧ h[i]? = some (some (.lst (caps.map Kb.D.p))) ∧ ∀ caps' : List P, StoreAt C (h.set i (some (.lst (caps'.map Kb.D.p)))) n m cut caps' kept chs I := by
  obtain ⟨i1, i2, i3, i4, js, rfl, h1, h2, h3, h4, h5, h6, h7, nd⟩ := S.ex
  simp only [List.nodup_cons, List.mem_cons, not_or] at nd
  obtain ⟨⟨a1, a2, a3, a4, a5⟩, ⟨b1, b2, b3, b4⟩, ⟨c1, c2, c3⟩, ⟨d1, d2⟩, e1, f1⟩ := nd
  refine ⟨i2, by simp, ⟨_, h1, by kernel_rfl⟩, h3, fun caps' => ⟨i1, i2, i3, i4, js, rfl, get_put h1 (fun z => a2 z.symm), get_put h2 (fun z => b1 z.symm), get_self (lt_of_get h3), get_put h4 c1, get_put h5 c2, h6, fun k j cs hj hc => get_put (h7 k j cs hj hc) fun z => c3 (z ▸ List.mem_of_getElem? hj), ?_⟩⟩
  simp only [List.nodup_cons, List.mem_cons, not_or]
  exact ⟨⟨a1, a2, a3, a4, a5⟩, ⟨b1, b2, b3, b4⟩, ⟨c1, c2, c3⟩, ⟨d1, d2⟩, e1, f1⟩
theorem StoreAt.keptP (S : StoreAt C h n m cut caps kept chs I) : ∃ i, i ∈ I ∧ FldD "kept" (.own n) h C (.own i) ∧ h[i]? = some (some (.lst (kept.map Kb.D.p))) ∧ ∀ kept' : List P, StoreAt C (h.set i (some (.lst (kept'.map Kb.D.p)))) n m cut caps kept' chs I := by
  obtain ⟨i1, i2, i3, i4, js, rfl, h1, h2, h3, h4, h5, h6, h7, nd⟩ := S.ex
  simp only [List.nodup_cons, List.mem_cons, not_or] at nd
  obtain ⟨⟨a1, a2, a3, a4, a5⟩, ⟨b1, b2, b3, b4⟩, ⟨c1, c2, c3⟩, ⟨d1, d2⟩, e1, f1⟩ := nd
  refine ⟨i3, by simp, ⟨_, h1, by kernel_rfl⟩, h4, fun kept' => ⟨i1, i2, i3, i4, js, rfl, get_put h1 (fun z => a3 z.symm), get_put h2 (fun z => b2 z.symm), get_put h3 (fun z => c1 z.symm), get_self (lt_of_get h4), get_put h5 d1, h6, fun k j cs hj hc => get_put (h7 k j cs hj hc) fun z => d2 (z ▸ List.mem_of_getElem? hj), ?_⟩⟩
  simp only [List.nodup_cons, List.mem_cons, not_or]
  exact ⟨⟨a1, a2, a3, a4, a5⟩, ⟨b1, b2, b3, b4⟩, ⟨c1, c2, c3⟩, ⟨d1, d2⟩, e1, f1⟩
end
theorem byA_snoc {α : Type} (f : Wd.Row → α) (m : Int) (rows : List Wd.Row) (cut : List Int) (caps : List Wd.Ent) (r : Wd.Row) (r0 : 0 ≤ r.a) (r1 : r.a < m) :
    Wd.byA f ⟨m, rows ++ [r], cut, caps⟩ = (Wd.byA f ⟨m, rows, cut, caps⟩).set r.a.toNat (((Wd.byA f ⟨m, rows, cut, caps⟩)[r.a.toNat]?.getD []) ++ [f r]) := by
  have hl : r.a.toNat < m.toNat := by omega
  refine List.ext_getElem? fun i => ?_
  by_cases hi : i < m.toNat
  · rw [Wd.byA_get f ⟨m, rows ++ [r], cut, caps⟩ hi]
    show some ((Wd.ofA (i : Int) (rows ++ [r])).map f) = _
    rw [Wd.ofA_app, Wd.ofA_one, List.map_append]
    by_cases e : r.a.toNat = i
    · subst e
      rw [List.getElem?_set_self (by rw [Wd.byA_len]; exact hl), Wd.byA_get f ⟨m, rows, cut, caps⟩ hl, if_pos (by omega)]; rfl
    · rw [List.getElem?_set_ne e, Wd.byA_get f ⟨m, rows, cut, caps⟩ hi, if_neg (by omega)]
      simp
  · rw [List.getElem?_eq_none_iff.mpr (by rw [Wd.byA_len]; exact Nat.le_of_not_lt hi), List.getElem?_eq_none_iff.mpr (by rw [List.length_set, Wd.byA_len]; exact Nat.le_of_not_lt hi)]
theorem frz_hd (xs : List Int) : frzP (hdP xs) = hdP xs := by
  unfold hdP
  show P.tup (frzP.frzL _) = _
  rw [frzL_map, List.map_map]; rfl
theorem frz_rts (r : Wd.Rts) : frzP (rtsP r) = rtsP r := by
  unfold rtsP
  show P.tup (frzP.frzL _) = _
  rw [frzL_map, List.map_map]; rfl
theorem frz_cap (c : Option K3) : frzP (capP c) = capP c := by cases c <;> rfl
theorem frz_pub (u : Wd.Pub) : frzP (pubP u) = pubP u := by
  cases u with
  | grant hh r =>
    show P.tup [.str "grant", .int hh, frzP (rtsP r)] = _
    rw [frz_rts]; rfl
  | revoke c =>
    show P.tup [.str "revoke", frzP (capP c)] = _
    rw [frz_cap]; rfl
  | mark => rfl
theorem frz_pubs (us : List Wd.Pub) : frzP (pubsP us) = pubsP us := by
  unfold pubsP
  show P.tup (frzP.frzL _) = _
  rw [frzL_map, List.map_map]
  exact congrArg P.tup (List.map_congr_left fun u _ => frz_pub u)
theorem frz_parts : frzP partsP = partsP := rfl
theorem deep_hd {xs : List Int} (hl : xs.length < 1000000) (n : Nat) : Deep (n + 1) (hdP xs) := by
  refine .tup (by rw [List.length_map]; exact hl) fun x hx => ?_
  obtain ⟨i, _, rfl⟩ := List.mem_map.mp hx
  exact .int
theorem deep_rts {r : Wd.Rts} (hl : r.length < 1000000) (n : Nat) : Deep (n + 2) (rtsP r) := by
  refine .tup (by rw [List.length_map]; exact hl) fun x hx => ?_
  obtain ⟨t, _, rfl⟩ := List.mem_map.mp hx
  refine .tup (by show 3 < _; omega) fun y hy => ?_
  simp only [List.mem_cons, List.mem_nil_iff, or_false] at hy
  rcases hy with rfl | rfl | rfl <;> exact .bl
theorem deep_cap (c : Option K3) (n : Nat) : Deep (n + 1) (capP c) := by
  cases c with
  | none => exact .non
  | some c =>
    refine .tup (by show 3 < _; omega) fun y hy => ?_
    simp only [List.mem_cons, List.mem_nil_iff, or_false] at hy
    rcases hy with rfl | rfl | rfl <;> exact .int
theorem deep_pub {m : Int} {u : Wd.Pub} (hu : Wd.PubOk m u) (n : Nat) : Deep (n + 3) (pubP u) := by
  cases u with
  | grant hh r =>
    refine .tup (by show 3 < _; omega) fun y hy => ?_
    simp only [List.mem_cons, List.mem_nil_iff, or_false] at hy
    rcases hy with rfl | rfl | rfl
    · exact .str
    · exact .int
    · exact deep_rts (by have := hu.2.2; omega) n
  | revoke c =>
    refine .tup (by show 2 < _; omega) fun y hy => ?_
    simp only [List.mem_cons, List.mem_nil_iff, or_false] at hy
    rcases hy with rfl | rfl
    · exact .str
    · exact deep_cap c _
  | mark =>
    refine .tup (by show 1 < _; omega) fun y hy => ?_
    simp only [List.mem_cons, List.mem_nil_iff, or_false] at hy
    rcases hy with rfl
    exact .str
theorem deep_pubs {m : Int} {us : List Wd.Pub} (hl : us.length < 1000000) (hu : ∀ u ∈ us, Wd.PubOk m u) (n : Nat) : Deep (n + 4) (pubsP us) := by
  refine .tup (by rw [List.length_map]; exact hl) fun x hx => ?_
  obtain ⟨u, h1, rfl⟩ := List.mem_map.mp hx
  exact deep_pub (hu u h1) n
theorem deep_parts (n : Nat) : Deep (n + 2) partsP := by
  refine .tup (by show 4 < _; omega) fun y hy => ?_
  simp only [List.mem_cons, List.mem_nil_iff, or_false] at hy
  rcases hy with rfl | rfl | rfl | rfl <;> exact .tup (by simp) (fun x hx => by cases hx)
section
variable {Pg : Program} {w : World} {K : PySem.W.Frag} {Θ : List Addr} {mg : Str → Option Value} {base : Heap} {C CS CK CC : Addr} {c Pt : Addr}
abbrev st_lkept : Stmt := (topS 30)
theorem sc_lkept : FnScope ["kept", "cell", "chars"] ["kept"] (defScope st_lkept) := ⟨rfl, rfl, rfl, by decide +kernel, rfl, by decide +kernel, by decide +kernel⟩
def W_lkept (CK : Addr) : Spc := fun ds h R => ds = [dL [.lst [], .lst [], .lst []]] ∧ R (.p (keptE CK)) h
theorem ok_lkept (A : DefAt K mg "_law_kept" st_lkept ["kept"]) (m_list : mg "list" = none) (c_Kept : HasMk Pg w K mg base CX0 10 "Kept" CK ["self", "acts", "sums", "texts"] (spD K Θ (W_kinit CK))) : HasF Pg w K mg base CX0 12 "_law_kept" ["kept"] (spD K Θ (W_lkept CK)) := by
  have sc := sc_lkept
  refine A.okD sc (W_lkept CK) (fun ds h R ⟨e, _⟩ => by rw [e]; rfl) fun f cdv A outer s H E hr => ?_
  refine ⟨_, (pss_cons (ps_if (pt_cmpR op_isU (pv 0) pe_non (nomark _)) (pss_one (ps_ret pe_non)) pss_nil)
  (pss_one (ps_ret (c_Kept.make (hr.mono (by first | decide | omega)) rfl pass0 (pa_cons (pe_callTy (call_list_ofK (K := K) (by rfl)) (by rfl) m_list (by decide +kernel) (pa_cons (pe_ix (ix_seqK (K := K) (by rfl)) (pv 0) pe_int (fun _ _ => rfl)) pa_nil)) (pa_cons (pe_callTy (call_list_ofK (K := K) (by rfl)) (by rfl) m_list (by decide +kernel) (pa_cons (pe_ix (ix_seqK (K := K) (by rfl)) (pv 0) pe_int (fun _ _ => rfl)) pa_nil)) (pa_cons (pe_lc (own := [("cell", 1), ("chars", 2)]) rfl sc.nd (pi_seqK (K := K) (by rfl) (pe_ix (ix_seqK (K := K) (by rfl)) (pv 0) pe_int (fun _ _ => rfl))) (blkOk_by (N := ["kept", "cell", "chars"]) (sc := defScope (topS 30)) (by decide +kernel)) (fun _ _ _ _ _ => (pg_tupK (K := K) (n := 2) (by rfl) rfl (pgs_cons (pg_name (i := 1) sc.nd rfl (.inl rfl)) (pgs_cons (pg_name (i := 2) sc.nd rfl (.inl rfl)) pgs_nil)))) (fun _ _ _ _ _ => pts_nil) (fun _ _ _ _ _ => (pe_tup (pa_cons (pv 1) (pa_cons (pe_callTy (call_list_ofK (K := K) (by rfl)) (by rfl) m_list (by decide +kernel) (pa_cons (pv 2) pa_nil)) pa_nil))))) pa_nil))))))), ?_⟩
  try dsimp only [cxOf]
  rintro ds h R ⟨rfl, q⟩
  have sz := sizeLine_eq
  k_places
  refine ve_makeF ?_
  k_places
  refine v2_ixL (at_nat 0 (by omega) rfl) ?_
  k_places
  refine vc_list (ps := []) rfl ?_
  k_places
  refine v2_ixL (at_nat 1 (by omega) rfl) ?_
  k_places
  refine vc_list (ps := []) rfl ?_
  k_places
  refine ve_lcL tg_tup2 ([] : List Unit) (fun _ => dN) (fun _ => true) (fun _ => .non) ?_
  refine vi_seqL ?_
  k_places
  refine v2_ixL (at_nat 2 (by omega) rfl) ?_
  k_places
  refine ⟨[], rfl, rfl, by simp; omega, fun _ => trivial, (fun x hx => by cases hx), ?_⟩
  k_places
  exact ⟨_, rfl, List.getElem?_concat_length, rfl, keptF [] [] [], by simp, q⟩
abbrev st_lstore : Stmt := (topS 31)
theorem sc_lstore : FnScope ["world", "store", "k", "space", "row"] ["world"] (defScope st_lstore) := ⟨rfl, rfl, rfl, by decide +kernel, rfl, by decide +kernel, by decide +kernel⟩
def W_lstore (C CK CC : Addr) : Spc := fun ds h R => ∃ (w : Wd.Wld), ds = [.p (worldP w)] ∧ Wd.WOk w ∧ ∀ h' n I, SW C CC h' n w (fun _ => partsP) (List.replicate 4 (keptE CK)) I → Pfx h h' → h.length ≤ n → (∀ i ∈ I, h.length ≤ i) → R (.own n) h'
theorem ok_lstore (A : DefAt K mg "_law_store" st_lstore ["world"]) (T : StoC K mg C) (TC : ChgC K mg CC) (m_range : mg "range" = none) (m_list : mg "list" = none) (m_tuple : mg "tuple" = none)
    (c_Store : HasMk Pg w K mg base CX0 12 "Store" C ["self", "members"] (spD K Θ (W_sinit C CK))) (c_Change : HasMk Pg w K mg base CX0 10 "Change" CC ["self", "author", "number", "heard", "capability", "publics", "parts"] (spD K Θ (W_cinit CC)))
    (h_Store_add : HasM Pg w K mg base CX0 1 C "add" ["self", "change"] (spD K Θ (W_sadd C CC))) (h__law_kept : HasF Pg w K mg base CX0 12 "_law_kept" ["kept"] (spD K Θ (W_lkept CK))) : HasF Pg w K mg base CX0 14 "_law_store" ["world"] (spD K Θ (W_lstore C CK CC)) := by
  have sc := sc_lstore
  refine A.okD sc (W_lstore C CK CC) (fun ds h R ⟨_, e, _⟩ => by rw [e]; rfl) fun f cdv A outer s H E hr => ?_
  refine ⟨_, (pss_cons (ps_set (i := 1) sc.nd rfl (.inl rfl) (c_Store.make (hr.mono (by first | decide | omega)) rfl pass0 (pa_cons (pe_ix (ix_seqK (K := K) (by rfl)) (pv 0) pe_int (fun _ _ => rfl)) pa_nil)))
  (pss_cons (ps_for PassesOwn.never rfl (pi_range1 rfl m_range (pa_cons (pe_ix (ix_seqK (K := K) (by rfl)) (pv 0) pe_int (fun _ _ => rfl)) pa_nil)) (pg_name (i := 2) sc.nd rfl (.inl rfl))
  (pss_one (ps_asg (pe_ix (ix_seqK (K := K) (by rfl)) (pe_ix (ix_seqK (K := K) (by rfl)) (pv 0) pe_int (fun _ _ => rfl)) (pv 2) (fun _ _ => rfl)) (pg_sub (pe_fldK (K := K) (by rfl) (pv 1) rfl) (pv 2) set_list))))
  (pss_cons (ps_expr (pe_bm PySem.F.plainAttrs_list PySem.F.slot_list_extend PySem.F.type_list_extend (mt_extLK (K := K) (by rfl)) (pe_fldK (K := K) (by rfl) (pv 1) rfl) (pa_cons (pe_callTy (call_list_ofK (K := K) (by rfl)) (by rfl) m_list (by decide +kernel) (pa_cons (pe_ix (ix_seqK (K := K) (by rfl)) (pv 0) pe_int (fun _ _ => rfl)) pa_nil)) pa_nil)))
  (pss_cons (ps_for PassesOwn.never rfl (pi_range1 rfl m_range (pa_cons pe_int pa_nil)) (pg_name (i := 3) sc.nd rfl (.inl rfl))
  (pss_one (ps_asg (h__law_kept.call (hr.mono (by first | decide | omega)) rfl pass0 (pa_cons (pe_ix (ix_seqK (K := K) (by rfl)) (pe_ix (ix_seqK (K := K) (by rfl)) (pv 0) pe_int (fun _ _ => rfl)) (pv 3) (fun _ _ => rfl)) pa_nil)) (pg_sub (pe_fldK (K := K) (by rfl) (pv 1) rfl) (pv 3) set_list))))
  (pss_cons (ps_for PassesOwn.never rfl (pi_seqK (K := K) (by rfl) (pe_ix (ix_seqK (K := K) (by rfl)) (pv 0) pe_int (fun _ _ => rfl))) (pg_name (i := 4) sc.nd rfl (.inl rfl))
  (pss_one (ps_expr (h_Store_add.meth (hr.mono (by first | decide | omega)) pass0 (pv 1) (pa_cons (c_Change.make (hr.mono (by first | decide | omega)) rfl pass0 (pa_cons (pe_ix (ix_seqK (K := K) (by rfl)) (pv 4) pe_int (fun _ _ => rfl)) (pa_cons (pe_ix (ix_seqK (K := K) (by rfl)) (pv 4) pe_int (fun _ _ => rfl)) (pa_cons (pe_callTy (call_tuple_ofK (K := K) (by rfl)) (by rfl) m_tuple (by decide +kernel) (pa_cons (pe_ix (ix_seqK (K := K) (by rfl)) (pv 4) pe_int (fun _ _ => rfl)) pa_nil)) (pa_cons (pe_ix (ix_seqK (K := K) (by rfl)) (pv 4) pe_int (fun _ _ => rfl)) (pa_cons (pe_callTy (call_tuple_ofK (K := K) (by rfl)) (by rfl) m_tuple (by decide +kernel) (pa_cons (pe_ix (ix_seqK (K := K) (by rfl)) (pv 4) pe_int (fun _ _ => rfl)) pa_nil)) (pa_cons (pe_callTy (call_tuple_ofK (K := K) (by rfl)) (by rfl) m_tuple (by decide +kernel) (pa_cons (pe_ix (ix_seqK (K := K) (by rfl)) (pv 4) pe_int (fun _ _ => rfl)) pa_nil)) pa_nil))))))) pa_nil)))))
  (pss_one (ps_ret (pv 1)))))))), ?_⟩
  try dsimp only [cxOf]
  rintro ds h R ⟨w, rfl, ok, q⟩
  have sz := sizeLine_eq
  have m0 := ok.m0
  have m1 := ok.m1
  have cl := ok.cl
  refine vs_seq ?_
  refine vs_asg ?_
  refine ve_makeO ?_
  k_places
  refine v2_ixL (at_nat 0 (by omega) rfl) ?_
  k_places
  refine ⟨h.length, w.m, rfl, get_last, by omega, by omega, fun h1 I S hI old hl => ⟨rfl, ?_⟩⟩
  rw [List.length_append, List.length_singleton] at hI old hl
  have pf : Pfx h h1 := pfx_of (fun i hi => by rw [old i (by omega) (by omega), List.getElem?_append_left hi]) (by omega)
  clear old hl
  k_offL
  refine vs_cut (fun env' h' => ∃ (o2 : Option Kb.D), StoreAt C h' h.length w.m w.cut [] (List.replicate 4 (keptE CK)) (List.replicate w.m.toNat []) I ∧ Pfx h h' ∧ env' = [some (.p (worldP w)), some (.own h.length), o2, none, none]) ?_ ?_
  · refine vs_for (vi_range1 ?_)
    k_places
    refine v2_ixL (at_nat 0 (by omega) rfl) ?_
    k_places
    refine ⟨w.m, rfl, by omega, by omega, ?_⟩
    refine ⟨fun i env' h' => ∃ (o2 : Option Kb.D), StoreAt C h' h.length w.m (w.cut.take i ++ List.replicate (w.m.toNat - i) 0) [] (List.replicate 4 (keptE CK)) (List.replicate w.m.toNat []) I ∧ Pfx h h' ∧ env' = [some (.p (worldP w)), some (.own h.length), o2, none, none], ⟨none, by simpa using S, pf, rfl⟩, fun _ _ _ _ => trivial, ?_, ?_⟩
    · clear S pf
      rintro i d env' h' hd ⟨o2, S, pf, rfl⟩
      obtain ⟨hi, rfl⟩ := rng_get hd
      have ic : i < w.cut.length := by omega
      obtain ⟨i1, im, f1, f2, f3⟩ := S.cutP
      refine vg_name ?_
      refine vs_asg ?_
      k_places
      refine v2_ixL (at_nat 2 (by omega) rfl) ?_
      k_places
      refine v2_ixL (at_nat i (by omega) (by rw [List.getElem?_map, List.getElem?_eq_getElem ic]; rfl)) ?_
      refine vg_subO ?_
      refine ve_fld ?_
      k_places
      refine ⟨C, .own i1, T.cl, T.n2, f1, ?_⟩
      k_places
      refine ⟨i1, _, _, rfl, rfl, f2, by omega, by simp; omega, ?_⟩
      have e0 : (w.cut.take i ++ List.replicate (w.m.toNat - i) 0).set i w.cut[i] = w.cut.take (i + 1) ++ List.replicate (w.m.toNat - (i + 1)) 0 := by
        rw [List.set_append_right _ _ (by simp; omega), show i - (w.cut.take i).length = 0 by simp; omega, show w.m.toNat - i = (w.m.toNat - (i + 1)) + 1 by omega, List.replicate_succ, List.set_cons_zero, List.take_add_one, List.getElem?_eq_getElem ic, List.append_assoc]; rfl
      have e : ((w.cut.take i ++ List.replicate (w.m.toNat - i) 0).map dI).set (0 + (i : Int)).toNat (dI w.cut[i]) = (w.cut.take (i + 1) ++ List.replicate (w.m.toNat - (i + 1)) 0).map dI := by
        rw [← List.map_set, show (0 + (i : Int)).toNat = i by omega, e0]
      have z := f3 (w.cut.take (i + 1) ++ List.replicate (w.m.toNat - (i + 1)) 0)
      rw [← e] at z
      exact ⟨_, z, pf.put (by have := hI i1 im; omega) _, rfl⟩
    · rintro env' h' ⟨o2, S, pf, rfl⟩
      have et : w.cut.take w.m.toNat = w.cut := by rw [← cl, List.take_length]
      rw [rng_len, Nat.sub_self, List.replicate_zero, List.append_nil, et] at S
      exact ⟨_, S, pf, rfl⟩
  clear S pf
  rintro env' h2 ⟨o2, S, pf, rfl⟩
  obtain ⟨i2, im2, f1, f2, f3⟩ := S.capsP
  refine vs_seq ?_
  refine vs_drop ?_
  refine ve_bm ?_
  refine ve_fld ?_
  k_places
  refine ⟨C, .own i2, T.cl, T.n3, f1, ⟨rfl, _, f2⟩, ?_⟩
  k_places
  refine v2_ixL (at_nat 3 (by omega) rfl) ?_
  k_places
  refine vc_list (ps := w.caps.map entP) rfl ?_
  k_places
  have S3 := f3 (w.caps.map entP)
  have pf3 := pf.put (show h.length ≤ i2 by have := hI i2 im2; omega) (some (.lst ((w.caps.map entP).map Kb.D.p)))
  refine vm_extL (xs := []) (zs := w.caps.map entP) f2 rfl (by rw [List.length_map]; have := ok.kl; simp; omega) ?_
  rw [List.nil_append]
  generalize h2.set i2 (some (.lst ((w.caps.map entP).map Kb.D.p))) = h3 at *
  k_offL
  refine vs_cut (fun env' h' => ∃ (o2 o3 : Option Kb.D), StoreAt C h' h.length w.m w.cut (w.caps.map entP) (List.replicate 4 (keptE CK)) (List.replicate w.m.toNat []) I ∧ Pfx h h' ∧ env' = [some (.p (worldP w)), some (.own h.length), o2, o3, none]) ?_ ?_
  · refine vs_for (vi_range1 ?_)
    k_places
    refine ⟨4, rfl, by omega, by omega, ?_⟩
    refine ⟨fun i env' h' => ∃ (o2 o3 : Option Kb.D), StoreAt C h' h.length w.m w.cut (w.caps.map entP) (List.replicate 4 (keptE CK)) (List.replicate w.m.toNat []) I ∧ Pfx h h' ∧ env' = [some (.p (worldP w)), some (.own h.length), o2, o3, none], ⟨_, _, S3, pf3, rfl⟩, fun _ _ _ _ => trivial, ?_, ?_⟩
    · rintro i d env' h' hd ⟨o2, o3, S, pf, rfl⟩
      obtain ⟨hi, rfl⟩ := rng_get hd
      have i4 : i < 4 := hi
      obtain ⟨i3, im3, g1, g2, g3⟩ := S.keptP
      refine vg_name ?_
      refine vs_asg ?_
      k_places
      refine v2_ixL (at_nat 4 (by omega) rfl) ?_
      k_places
      refine v2_ixL (p := .lst [.lst [], .lst [], .lst []]) (at_nat i (by omega) (by rw [List.getElem?_replicate, if_pos i4])) ?_
      k_places
      refine ⟨rfl, ?_⟩
      refine vg_subO ?_
      refine ve_fld ?_
      k_places
      refine ⟨C, .own i3, T.cl, T.n4, g1, ?_⟩
      k_places
      refine ⟨i3, _, _, rfl, rfl, g2, by omega, by simp; omega, ?_⟩
      have e : ((List.replicate 4 (keptE CK)).map Kb.D.p).set (0 + (i : Int)).toNat (.p (keptE CK)) = (List.replicate 4 (keptE CK)).map Kb.D.p := by
        rw [← List.map_set]
        congr 1
        refine List.ext_getElem? fun k => ?_
        by_cases hk : (0 + (i : Int)).toNat = k
        · rw [hk, List.getElem?_set_self (by simp; omega), List.getElem?_replicate, if_pos (by omega)]
        · rw [List.getElem?_set_ne hk]
      have z := g3 (List.replicate 4 (keptE CK))
      rw [← e] at z
      exact ⟨_, _, z, pf.put (by have := hI i3 im3; omega) _, rfl⟩
    · rintro env' h' ⟨o2, o3, S, pf, rfl⟩
      exact ⟨_, _, S, pf, rfl⟩
  clear S pf S3 pf3 f1 f2 f3
  rintro env' h4 ⟨o2, o3, S, pf, rfl⟩
  have hIh : ∀ i ∈ I, h.length ≤ i := fun i hi => by have := hI i hi; omega
  refine vs_seq ?_
  refine vs_for (vi_seqL ?_)
  k_places
  refine v2_ixL (at_nat 1 (by omega) rfl) ?_
  refine ⟨_, rfl, ?_⟩
  refine ⟨fun i env' h' => ∃ (o4 : Option Kb.D), StoreAt C h' h.length w.m w.cut (w.caps.map entP) (List.replicate 4 (keptE CK)) ((Wd.byA (chgOf fun _ => partsP) ⟨w.m, w.rows.take i, w.cut, w.caps⟩).map fun cs => cs.map (chgP CC)) I ∧ Pfx h h' ∧
    env' = [some (.p (worldP w)), some (.own h.length), o2, o3, o4], ?_, fun _ _ _ _ => trivial, ?_, ?_⟩
  · refine ⟨none, ?_, pf, rfl⟩
    have e : (Wd.byA (chgOf fun _ => partsP) ⟨w.m, w.rows.take 0, w.cut, w.caps⟩).map (fun cs => cs.map (chgP CC)) = List.replicate w.m.toNat [] := by
      refine List.ext_getElem? fun k => ?_
      rw [List.getElem?_map, List.getElem?_replicate]
      by_cases hk : k < w.m.toNat
      · rw [Wd.byA_get _ ⟨w.m, w.rows.take 0, w.cut, w.caps⟩ hk, if_pos hk]
        simp [Wd.ofA]
      · rw [List.getElem?_eq_none_iff.mpr (by rw [Wd.byA_len]; exact Nat.le_of_not_lt hk), if_neg hk]; rfl
    rw [e]; exact S
  · clear S pf
    rintro i d env' h' hd ⟨o4, S, pf, rfl⟩
    rw [List.getElem?_map, List.getElem?_map] at hd
    cases er : w.rows[i]? with
    | none => rw [er] at hd; cases hd
    | some r =>
      rw [er] at hd
      cases hd
      have hr := List.mem_of_getElem? er
      obtain ⟨a0, a1⟩ := ok.au r hr
      have hdl := ok.hl r hr
      have pll := ok.pl r hr
      have pbo := ok.pb r hr
      refine vg_name ?_
      refine vs_drop ?_
      refine ve_meth ?_
      k_places
      refine ⟨S.ins fun _ _ _ _ _ => no_add, ?_⟩
      k_places
      refine ve_makeF ?_
      k_places
      refine v2_ixL (at_nat 0 (by omega) rfl) ?_
      k_places
      refine v2_ixL (at_nat 1 (by omega) rfl) ?_
      k_places
      refine v2_ixL (at_nat 2 (by omega) rfl) ?_
      k_places
      refine vc_tuple (ps := r.hd.map P.int) rfl ?_
      k_places
      refine v2_ixL (at_nat 3 (by omega) rfl) ?_
      k_places
      refine v2_ixL (at_nat 4 (by omega) rfl) ?_
      k_places
      refine vc_tuple (ps := r.pub.map pubP) rfl ?_
      k_places
      refine v2_ixL (at_nat 5 (by omega) rfl) ?_
      k_places
      refine vc_tuple (ps := [.tup [], .tup [], .tup [], .tup []]) rfl ?_
      k_places
      refine ⟨h'.length, r.a, r.n, hdP r.hd, capP r.cap, pubsP r.pub, partsP, rfl, get_last, deep_hd (by omega) _, deep_pubs (by omega) pbo _, deep_parts _, rfl, chgF r.a r.n (hdP r.hd) (capP r.cap) (pubsP r.pub) partsP, ?_, ?_⟩
      · rw [List.set_append_right _ _ (Nat.le_refl _), Nat.sub_self, frz_hd, frz_pubs, frz_parts]; rfl
      k_places
      have so : StOk w.m w.cut ((Wd.byA (chgOf fun _ => partsP) ⟨w.m, w.rows.take i, w.cut, w.caps⟩).map fun cs => cs.map (chgP CC)) := by
        refine ⟨by omega, cl, by rw [List.length_map, Wd.byA_len], fun c hc => ⟨ok.c0 c hc, ok.c1 c hc⟩, fun cs hcs => ?_⟩
        obtain ⟨ds, hd, rfl⟩ := List.mem_map.mp hcs
        unfold Wd.byA at hd
        obtain ⟨a, _, rfl⟩ := List.mem_map.mp hd
        rw [List.length_map, List.length_map]
        show (Wd.ofA (a : Int) (w.rows.take i)).length < 1000000
        have h1 : (Wd.ofA (a : Int) (w.rows.take i)).length ≤ (w.rows.take i).length := List.length_filter_le ..
        have := ok.rl
        simp at h1
        omega
      refine ⟨h.length, w.m, w.cut, _, _, _, I, r.a, r.n, hdP r.hd, capP r.cap, pubsP r.pub, partsP, rfl, S, so, a0, a1, fun h5 S5 old l5 => ?_⟩
      have pf5 : Pfx h h5 := pfx_of (fun k hk => by rw [old k (fun z => by have := hIh k z; omega), pfx_at pf hk]) (by have := pf.len; omega)
      refine ⟨_, ?_, pf5, rfl⟩
      have al : r.a.toNat < w.m.toNat := by omega
      have et : w.rows.take (i + 1) = w.rows.take i ++ [r] := by rw [List.take_add_one, er]; rfl
      rw [et, byA_snoc _ _ _ _ _ _ a0 a1, List.map_set, List.map_append]
      have eg : ((Wd.byA (chgOf fun _ => partsP) ⟨w.m, w.rows.take i, w.cut, w.caps⟩)[r.a.toNat]?.getD []).map (chgP CC) = (((Wd.byA (chgOf fun _ => partsP) ⟨w.m, w.rows.take i, w.cut, w.caps⟩).map fun cs => cs.map (chgP CC))[r.a.toNat]?.getD []) := by
        rw [List.getElem?_map, Wd.byA_get _ ⟨w.m, w.rows.take i, w.cut, w.caps⟩ al]; rfl
      rw [eg]
      exact S5
  · rintro env' h' ⟨o4, S, pf, rfl⟩
    rw [List.length_map, List.length_map, List.take_length] at S
    k_places
    exact q h' h.length I ⟨S, ok⟩ pf (Nat.le_refl _) hIh
end
end Law

namespace Law
open PySem PySem.Spec PyProof.Rows L2 Kb Gx
-- the steps that are tried: k_clsL a side condition; k_subL one step; k_places steps as long as one fits
local macro_rules | `(tactic| k_clsL) => `(tactic| first | assumption | decide | omega)
local macro_rules | `(tactic| k_subL) => `(tactic| first
  | (with_reducible refine vs_seq ?_) | (with_reducible refine vs_asg ?_) | (with_reducible refine vg_name ?_) | (with_reducible refine vs_ret ?_) | (with_reducible refine vs_if ?_) | (with_reducible refine vs_next ?_) | (with_reducible refine vs_drop ?_)
  | (with_reducible refine vt_test ?_) | (with_reducible refine vt_B ?_) | (with_reducible refine vt_and ?_) | (with_reducible refine vt_or ?_) | (with_reducible refine vt_not ?_) | (with_reducible refine vt_truth ?_)
  | (with_reducible refine ve_op ?_) | (with_reducible refine ve_isi2 ?_) | ((with_reducible refine isi2_i (T := "tuple") ?hT ?hm ?hn ?_); (case hT => exact rfl); (case hm => decide); (case hn => decide)) | ((with_reducible refine isi2_i (T := "list") ?hT ?hm ?hn ?_); (case hT => exact rfl); (case hm => decide); (case hn => decide)) | ((with_reducible refine isi2_i (T := "int") ?hT ?hm ?hn ?_); (case hT => exact rfl); (case hm => decide); (case hn => decide)) | ((with_reducible refine isi2_i (T := "bool") ?hT ?hm ?hn ?_); (case hT => exact rfl); (case hm => decide); (case hn => decide)) | ((with_reducible refine isi2_i (T := "str") ?hT ?hm ?hn ?_); (case hT => exact rfl); (case hm => decide); (case hn => decide)) | ((with_reducible refine isi2_i (T := "NoneType") ?hT ?hm ?hn ?_); (case hT => exact rfl); (case hm => decide); (case hn => decide)) | (with_reducible refine ve_cb ?_) | (with_reducible refine va_cons ?_) | (with_reducible refine va_nil ?_) | (with_reducible refine ve_call ?_)
  | (with_reducible refine ve_int ?_) | (with_reducible refine ve_str ?_) | (with_reducible refine ve_bl ?_) | (with_reducible refine ve_non ?_) | (with_reducible refine ve_ty ?_)
  | (refine ve_var (by exact rfl) ?_)
  | (with_reducible refine ve_and ?_) | (with_reducible refine ve_or ?_) | (with_reducible refine ve_not ?_) | (with_reducible refine ve_chain ?_) | (with_reducible refine ve_un ?_) | (with_reducible refine ve_if ?_)
  | (with_reducible refine bool_ans ?_) | (with_reducible refine tru_bl ?_)
  | (with_reducible refine vc_intI ?_) | (with_reducible refine vc_intB ?_) | (with_reducible refine v2_addI ?_) | (with_reducible refine v2_sub ?_)
  | (with_reducible refine v2_lt ?_) | (with_reducible refine v2_le ?_) | (with_reducible refine v2_gt ?_) | (with_reducible refine v2_ge ?_)
  | (with_reducible refine v2_eqI ?_) | (with_reducible refine v2_eqS ?_) | (with_reducible refine v2_eqB ?_) | (with_reducible refine v2_neI ?_) | (with_reducible refine v2_neS ?_) | (with_reducible refine v2_neB ?_)
  | (with_reducible refine v2_isN ?_) | (with_reducible refine v2_notN ?_) | (with_reducible refine v2_isNU ?_) | ((with_reducible refine v2_isBl ?hx ?_); (case hx => exact rfl))
  | (with_reducible refine v2_addVI ?_) | (with_reducible refine v2_addWI ?_) | (with_reducible refine v2_ltI ?_) | (with_reducible refine v2_ltB ?_) | (with_reducible refine v2_ltS ?_)
  | ((with_reducible refine v2_divW ?hm ?_); case hm => (constructor <;> k_clsL))
  | ((with_reducible refine v2_mulU ?hm ?_); case hm => first | exact cmul_small (by k_clsL) (by k_clsL) | exact cmul_wide (by k_clsL) (by k_clsL))
  | ((with_reducible refine v2_mod ?hm ?_); case hm => k_clsL) | ((with_reducible refine v2_div ?hm ?_); case hm => (constructor <;> k_clsL))
  | ((with_reducible refine v2_mul ?hm ?_); case hm => first | exact cmul_small (by k_clsL) (by k_clsL) | exact cmul_wide (by k_clsL) (by k_clsL))
  | (with_reducible refine vc_abs ?_) | (with_reducible refine vc_min2 ?_) | (with_reducible refine vc_max2 ?_)
  | (with_reducible refine ve_tup ?_) | ((with_reducible refine tup_j ?hl ?_); (case hl => exact rfl))
  | ((with_reducible refine vc_isi (T := "tuple") ?hT ?hn ?_); (case hT => first | exact rfl | exact ⟨rfl, _, by first | assumption | simp⟩); (case hn => decide)) | ((with_reducible refine vc_isi (T := "list") ?hT ?hn ?_); (case hT => first | exact rfl | exact ⟨rfl, _, by first | assumption | simp⟩); (case hn => decide)) | ((with_reducible refine vc_isi (T := "int") ?hT ?hn ?_); (case hT => first | exact rfl | exact ⟨rfl, _, by first | assumption | simp⟩); (case hn => decide)) | ((with_reducible refine vc_isi (T := "bool") ?hT ?hn ?_); (case hT => first | exact rfl | exact ⟨rfl, _, by first | assumption | simp⟩); (case hn => decide)) | ((with_reducible refine vc_isi (T := "str") ?hT ?hn ?_); (case hT => first | exact rfl | exact ⟨rfl, _, by first | assumption | simp⟩); (case hn => decide)) | ((with_reducible refine vc_isi (T := "NoneType") ?hT ?hn ?_); (case hT => first | exact rfl | exact ⟨rfl, _, by first | assumption | simp⟩); (case hn => decide))
  | (with_reducible refine vc_lenL ?_) | (with_reducible refine vc_lenT ?_) | (with_reducible refine ite_nrefl ?_) | (with_reducible refine ite_refl ?_)
  | ((with_reducible refine ite_tt ?hc ?_); (case hc => first | decide | exact rfl)) | ((with_reducible refine ite_ff ?hc ?_); (case hc => first | decide | exact rfl))
  | (with_reducible refine v1_U ?_))
local macro_rules | `(tactic| k_places) => `(tactic| repeat k_subL)
local macro_rules | `(tactic| k_offL) => `(tactic| repeat ((fail_if_success (with_reducible refine vs_seq ?_)); k_subL))

def rowO : Option Wd.Row → P
  | none => .non
  | some r => rowP r
def CapN (c : Option K3) : Prop := ∀ k, c = some k → 0 ≤ k.2.2
theorem CapN.of {m : Int} {c : Option K3} (h : Wd.CapOk m c) : CapN c := fun k e => (h k e).2.2.2
theorem told_capN {w : Wd.Wld} (ok : Wd.WOk w) {k : K3} {p : Option K3} {hh : Int} {r : Wd.Rts} (h : Wd.told w k = some (p, hh, r)) : CapN p := by
  unfold Wd.told at h
  cases e : w.caps.find? fun e => decide (e.k = k) with
  | some x =>
    rw [e] at h
    cases h
    exact CapN.of (ok.ek x (List.mem_of_find?_eq_some e)).2.1
  | none =>
    rw [e] at h
    unfold Wd.rowTold at h
    dsimp only at h
    cases e2 : Wd.rowOf w k.1 k.2.1 with
    | none => rw [e2] at h; cases h
    | some r' =>
      rw [e2] at h
      dsimp only at h
      split at h
      · split at h
        · rename_i u _
          cases u with
          | grant h1 r1 =>
            cases h
            exact CapN.of (ok.cp r' (Wd.rowOf_mem e2).1)
          | revoke c => cases h
          | mark => cases h
        · cases h
      · cases h
def infoL (w : Wd.Wld) (c : Option K3) : P := match c with
  | none => .lst [.non, .int 0, rtsP fullR]
  | some k => match Wd.told w k with
    | none => .non
    | some (p, hh, r) => .lst [capP p, .int hh, rtsP r]
section
variable {Pg : Program} {w : World} {K : PySem.W.Frag} {Θ : List Addr} {mg : Str → Option Value} {base : Heap} {C CS CK CC : Addr} {c Pt : Addr}
abbrev st_lfind : Stmt := (topS 32)
theorem sc_lfind : FnScope ["world", "name", "row"] ["world", "name"] (defScope st_lfind) := ⟨rfl, rfl, rfl, by decide +kernel, rfl, by decide +kernel, by decide +kernel⟩
def W_lfind : Spc := fun ds h R => ∃ (w : Wd.Wld) (a b : Int) (rest : List P), ds = [.p (worldP w), dT (.int a :: .int b :: rest)] ∧ R (.p (rowO (Wd.rowOf w a b))) h
theorem ok_lfind (A : DefAt K mg "_law_find" st_lfind ["world", "name"]) : HasF Pg w K mg base CX0 1 "_law_find" ["world", "name"] (spD K Θ W_lfind) := by
  have sc := sc_lfind
  refine A.okD sc W_lfind (fun ds h R ⟨_, _, _, _, e, _⟩ => by rw [e]; rfl) fun f cdv A outer s H E hr => ?_
  refine ⟨_, (pss_cons (ps_for PassesOwn.never rfl (pi_seqK (K := K) (by rfl) (pe_ix (ix_seqK (K := K) (by rfl)) (pv 0) pe_int (fun _ _ => rfl))) (pg_name (i := 2) sc.nd rfl (.inl rfl))
  (pss_one (ps_if (PW.pt (pw_and (pt_cmpR (op_eqUK (K := K) (by rfl) hr.units) (pe_ix (ix_seqK (K := K) (by rfl)) (pv 2) pe_int (fun _ _ => rfl)) (pe_ix (ix_seqK (K := K) (by rfl)) (pv 1) pe_int (fun _ _ => rfl)) (nomark _)) (pw_and1 (pt_cmpR (op_eqUK (K := K) (by rfl) hr.units) (pe_ix (ix_seqK (K := K) (by rfl)) (pv 2) pe_int (fun _ _ => rfl)) (pe_ix (ix_seqK (K := K) (by rfl)) (pv 1) pe_int (fun _ _ => rfl)) (nomark _))))) (pss_one (ps_ret (pv 2))) pss_nil)))
  (pss_one (ps_ret pe_non))), ?_⟩
  try dsimp only [cxOf]
  rintro ds h R ⟨w, a, b, rest, rfl, q⟩
  refine vs_seq ?_
  refine vs_for (vi_seqL ?_)
  k_places
  refine v2_ixL (at_nat 1 (by omega) rfl) ?_
  refine ⟨_, rfl, fun i env' h' => (∃ o, env' = [some (.p (worldP w)), some (dT (.int a :: .int b :: rest)), o]) ∧ h' = h ∧ ∀ (j : Nat) (y : Wd.Row), j < i → w.rows[j]? = some y → decide (y.a = a ∧ y.n = b) = false, ⟨⟨none, rfl⟩, rfl, fun j y hj => absurd hj (Nat.not_lt_zero _)⟩, fun _ _ _ _ => trivial, ?_, ?_⟩
  · rintro i d env' h' hd ⟨⟨o, rfl⟩, rfl, hpre⟩
    rw [List.getElem?_map, List.getElem?_map] at hd
    cases er : w.rows[i]? with
    | none => rw [er] at hd; cases hd
    | some r =>
      rw [er] at hd
      cases hd
      have next : ¬ (r.a = a ∧ r.n = b) → ∀ (j : Nat) (y : Wd.Row), j < i + 1 → w.rows[j]? = some y → decide (y.a = a ∧ y.n = b) = false := fun ne j y hj hy => by
        rcases Nat.lt_succ_iff_lt_or_eq.mp hj with hj | rfl
        · exact hpre j y hj hy
        · rw [er] at hy
          cases hy
          exact decide_eq_false ne
      refine vg_name ?_
      k_places
      refine v2_ixL (at_nat 0 (by omega) rfl) ?_
      k_places
      refine v2_ixT (at_nat 0 (by omega) rfl) ?_
      k_places
      refine ite_dec (fun e1 => ?_) (fun e1 => ?_)
      · k_places
        refine v2_ixL (at_nat 1 (by omega) rfl) ?_
        k_places
        refine v2_ixT (at_nat 1 (by omega) rfl) ?_
        k_places
        refine ite_dec (fun e2 => ?_) (fun e2 => ?_)
        · k_places
          have z : Wd.rowOf w a b = some r := find_at er (decide_eq_true ⟨e1, e2⟩) hpre
          rw [z] at q
          exact q
        · k_places
          exact ⟨⟨_, rfl⟩, rfl, next fun z => e2 z.2⟩
      · k_places
        exact ⟨⟨_, rfl⟩, rfl, next fun z => e1 z.1⟩
  · rintro env' h' ⟨⟨o, rfl⟩, rfl, hpre⟩
    rw [List.length_map, List.length_map] at hpre
    k_places
    have z : Wd.rowOf w a b = none := find_none fun i x hx => hpre i x (List.getElem?_eq_some_iff.mp hx).1 hx
    rw [z] at q
    exact q
abbrev st_linfo : Stmt := (topS 33)
theorem sc_linfo : FnScope ["world", "capability", "entry", "row"] ["world", "capability"] (defScope st_linfo) := ⟨rfl, rfl, rfl, by decide +kernel, rfl, by decide +kernel, by decide +kernel⟩
def W_linfo : Spc := fun ds h R => ∃ (w : Wd.Wld) (c : Option K3), ds = [.p (worldP w), .p (capP c)] ∧ CapN c ∧ R (.p (infoL w c)) h
theorem ok_linfo (A : DefAt K mg "_law_info" st_linfo ["world", "capability"]) (m_len : mg "len" = none) (h__law_full : HasF Pg w K mg base CX0 1 "_law_full" [] (spD K Θ W_full)) (h__law_find : HasF Pg w K mg base CX0 1 "_law_find" ["world", "name"] (spD K Θ W_lfind)) :
    HasF Pg w K mg base CX0 2 "_law_info" ["world", "capability"] (spD K Θ W_linfo) := by
  have sc := sc_linfo
  refine A.okD sc W_linfo (fun ds h R ⟨_, _, e, _⟩ => by rw [e]; rfl) fun f cdv A outer s H E hr => ?_
  refine ⟨_, (pss_cons (ps_if (pt_cmpR op_isU (pv 1) pe_non (nomark _)) (pss_one (ps_ret (pe_lst (pa_cons pe_non (pa_cons pe_int (pa_cons (h__law_full.call0 (hr.mono (by first | decide | omega)) rfl pass0) pa_nil)))))) pss_nil)
  (pss_cons (ps_for PassesOwn.never rfl (pi_seqK (K := K) (by rfl) (pe_ix (ix_seqK (K := K) (by rfl)) (pv 0) pe_int (fun _ _ => rfl))) (pg_name (i := 2) sc.nd rfl (.inl rfl))
  (pss_one (ps_if (pt_cmpR (op_eqUK (K := K) (by rfl) hr.units) (pe_ix (ix_seqK (K := K) (by rfl)) (pv 2) pe_int (fun _ _ => rfl)) (pv 1) (nomark _)) (pss_one (ps_ret (pe_lst (pa_cons (pe_ix (ix_seqK (K := K) (by rfl)) (pv 2) pe_int (fun _ _ => rfl)) (pa_cons (pe_ix (ix_seqK (K := K) (by rfl)) (pv 2) pe_int (fun _ _ => rfl)) (pa_cons (pe_ix (ix_seqK (K := K) (by rfl)) (pv 2) pe_int (fun _ _ => rfl)) pa_nil)))))) pss_nil)))
  (pss_cons (ps_set (i := 3) sc.nd rfl (.inl rfl) (h__law_find.call (hr.mono (by first | decide | omega)) rfl pass0 (pa_cons (pv 0) (pa_cons (pv 1) pa_nil))))
  (pss_cons (ps_if (PW.pt (pw_or (pt_cmpR op_isU (pv 3) pe_non (nomark _)) (pw_or (pt_cmpR op_ge (pe_ix (ix_seqK (K := K) (by rfl)) (pv 1) pe_int (fun _ _ => rfl)) (pe_callB (call_lenK (K := K) (by rfl)) (by rfl) m_len (by decide +kernel) (pa_cons (pe_ix (ix_seqK (K := K) (by rfl)) (pv 3) pe_int (fun _ _ => rfl)) pa_nil)) (nomark _)) (pw_or1 (pt_cmpR (op_neUK (K := K) (by rfl) hr.units) (pe_ix (ix_seqK (K := K) (by rfl)) (pe_ix (ix_seqK (K := K) (by rfl)) (pe_ix (ix_seqK (K := K) (by rfl)) (pv 3) pe_int (fun _ _ => rfl)) (pe_ix (ix_seqK (K := K) (by rfl)) (pv 1) pe_int (fun _ _ => rfl)) (fun _ _ => rfl)) pe_int (fun _ _ => rfl)) pe_str (nomark _)))))) (pss_one (ps_ret pe_non)) pss_nil)
  (pss_one (ps_ret (pe_lst (pa_cons (pe_ix (ix_seqK (K := K) (by rfl)) (pv 3) pe_int (fun _ _ => rfl)) (pa_cons (pe_ix (ix_seqK (K := K) (by rfl)) (pe_ix (ix_seqK (K := K) (by rfl)) (pe_ix (ix_seqK (K := K) (by rfl)) (pv 3) pe_int (fun _ _ => rfl)) (pe_ix (ix_seqK (K := K) (by rfl)) (pv 1) pe_int (fun _ _ => rfl)) (fun _ _ => rfl)) pe_int (fun _ _ => rfl)) (pa_cons (pe_ix (ix_seqK (K := K) (by rfl)) (pe_ix (ix_seqK (K := K) (by rfl)) (pe_ix (ix_seqK (K := K) (by rfl)) (pv 3) pe_int (fun _ _ => rfl)) (pe_ix (ix_seqK (K := K) (by rfl)) (pv 1) pe_int (fun _ _ => rfl)) (fun _ _ => rfl)) pe_int (fun _ _ => rfl)) pa_nil)))))))))), ?_⟩
  try dsimp only [cxOf]
  rintro ds h R ⟨w, c, rfl, cn, q⟩
  cases c with
  | none =>
    k_places
    refine ve_lst ?_
    k_places
    refine ⟨rfl, ?_⟩
    k_places
    exact q
  | some k =>
  have k0 := cn k rfl
  unfold infoL Wd.told at q
  dsimp only at q
  k_places
  refine vs_for (vi_seqL ?_)
  k_places
  refine v2_ixL (at_nat 3 (by omega) rfl) ?_
  refine ⟨_, rfl, fun i env' h' => (∃ o, env' = [some (.p (worldP w)), some (.p (capP (some k))), o, none]) ∧ h' = h ∧ ∀ (j : Nat) (y : Wd.Ent), j < i → w.caps[j]? = some y → decide (y.k = k) = false, ⟨⟨none, rfl⟩, rfl, fun j y hj => absurd hj (Nat.not_lt_zero _)⟩, fun _ _ _ _ => trivial, ?_, ?_⟩
  · rintro i d env' h' hd ⟨⟨o, rfl⟩, rfl, hpre⟩
    rw [List.getElem?_map, List.getElem?_map] at hd
    cases er : w.caps[i]? with
    | none => rw [er] at hd; cases hd
    | some x =>
      rw [er] at hd
      cases hd
      refine vg_name ?_
      k_places
      refine v2_ixT (at_nat 0 (by omega) rfl) ?_
      k_places
      refine v2_eqK3 ?_
      k_places
      refine ite_dec (fun e1 => ?_) (fun e1 => ?_)
      · have z : (w.caps.find? fun e => decide (e.k = k)) = some x := find_at er (decide_eq_true e1) hpre
        rw [z] at q
        k_places
        refine ve_lst ?_
        k_places
        refine v2_ixT (at_nat 1 (by omega) rfl) ?_
        k_places
        refine v2_ixT (at_nat 2 (by omega) rfl) ?_
        k_places
        refine v2_ixT (at_nat 3 (by omega) rfl) ?_
        k_places
        exact q
      · k_places
        refine ⟨⟨_, rfl⟩, rfl, fun j y hj hy => ?_⟩
        rcases Nat.lt_succ_iff_lt_or_eq.mp hj with hj | rfl
        · exact hpre j y hj hy
        · rw [er] at hy
          cases hy
          exact decide_eq_false e1
  · rintro env' h' ⟨⟨o, rfl⟩, rfl, hpre⟩
    rw [List.length_map, List.length_map] at hpre
    have z : (w.caps.find? fun e => decide (e.k = k)) = none := find_none fun i x hx => hpre i x (List.getElem?_eq_some_iff.mp hx).1 hx
    rw [z] at q
    dsimp only at q
    k_places
    refine ⟨w, k.1, k.2.1, [.int k.2.2], rfl, ?_⟩
    cases er : Wd.rowOf w k.1 k.2.1 with
    | none =>
      rw [er] at q
      k_places
      exact q
    | some r =>
      rw [er] at q
      unfold Wd.rowTold at q
      dsimp only at q
      rw [if_pos k0] at q
      k_places
      refine v2_ixT (at_nat 2 (by omega) rfl) ?_
      k_places
      refine v2_ixL row_pub ?_
      k_places
      rw [List.length_map]
      refine ite_dec (fun e1 => ?_) (fun e1 => ?_)
      · rw [List.getElem?_eq_none_iff.mpr (by omega)] at q
        k_places
        exact q
      · have hp : k.2.2.toNat < r.pub.length := by omega
        have gp : (r.pub.map pubP)[k.2.2.toNat]? = some (pubP r.pub[k.2.2.toNat]) := by rw [List.getElem?_map, List.getElem?_eq_getElem hp]; rfl
        rw [List.getElem?_eq_getElem hp] at q
        generalize r.pub[k.2.2.toNat] = u at gp q
        k_places
        refine v2_ixL row_pub ?_
        k_places
        refine v2_ixT (at_nat 2 (by omega) rfl) ?_
        k_places
        refine v2_ixL (at_nat k.2.2.toNat (by omega) gp) ?_
        k_places
        cases u with
        | revoke c =>
          refine v2_ixT (at_nat 0 (by omega) rfl) ?_
          k_places
          exact q
        | mark =>
          refine v2_ixT (at_nat 0 (by omega) rfl) ?_
          k_places
          exact q
        | grant hh rr =>
          refine v2_ixT (at_nat 0 (by omega) rfl) ?_
          k_places
          refine ve_lst ?_
          k_places
          refine v2_ixL (at_nat 3 (by omega) rfl) ?_
          k_places
          refine v2_ixL row_pub ?_
          k_places
          refine v2_ixT (at_nat 2 (by omega) rfl) ?_
          k_places
          refine v2_ixL (at_nat k.2.2.toNat (by omega) gp) ?_
          k_places
          refine v2_ixT (at_nat 1 (by omega) rfl) ?_
          k_places
          refine v2_ixL row_pub ?_
          k_places
          refine v2_ixT (at_nat 2 (by omega) rfl) ?_
          k_places
          refine v2_ixL (at_nat k.2.2.toNat (by omega) gp) ?_
          k_places
          refine v2_ixT (at_nat 2 (by omega) rfl) ?_
          k_places
          exact q
abbrev st_lpath : Stmt := (topS 34)
theorem sc_lpath : FnScope ["world", "capability", "path", "k", "info"] ["world", "capability"] (defScope st_lpath) := ⟨rfl, rfl, rfl, by decide +kernel, rfl, by decide +kernel, by decide +kernel⟩
def W_lpath : Spc := fun ds h R => ∃ (w : Wd.Wld) (c : Option K3), ds = [.p (worldP w), .p (capP c)] ∧ CapN c ∧ Wd.WOk w ∧ R (dL ((pathR w c).map capP)) h
theorem ok_lpath (A : DefAt K mg "_law_path" st_lpath ["world", "capability"]) (m_range : mg "range" = none) (h__law_info : HasF Pg w K mg base CX0 2 "_law_info" ["world", "capability"] (spD K Θ W_linfo)) :
    HasF Pg w K mg base CX0 3 "_law_path" ["world", "capability"] (spD K Θ W_lpath) := by
  have sc := sc_lpath
  refine A.okD sc W_lpath (fun ds h R ⟨_, _, e, _⟩ => by rw [e]; rfl) fun f cdv A outer s H E hr => ?_
  refine ⟨_, (pss_cons (ps_set (i := 2) sc.nd rfl (.inl rfl) (pe_lst pa_nil))
  (pss_cons (ps_for PassesOwn.never rfl (pi_range1 rfl m_range (pa_cons pe_int pa_nil)) (pg_name (i := 3) sc.nd rfl (.inl rfl))
  (pss_cons (ps_if (pt_cmpR op_isU (pv 1) pe_non (nomark _)) (pss_one (ps_ret (pe_op (op_addWK (K := K) (by rfl)) (pv 2) (pe_lst (pa_cons pe_non pa_nil))))) pss_nil)
  (pss_cons (ps_set (i := 4) sc.nd rfl (.inl rfl) (h__law_info.call (hr.mono (by first | decide | omega)) rfl pass0 (pa_cons (pv 0) (pa_cons (pv 1) pa_nil))))
  (pss_cons (ps_if (pt_cmpR op_isU (pv 4) pe_non (nomark _)) (pss_one (ps_ret (pe_lst pa_nil))) pss_nil)
  (pss_cons (ps_expr (pe_bm PySem.F.plainAttrs_list PySem.F.slot_list_append PySem.F.type_list_append mt_append (pv 2) (pa_cons (pv 1) pa_nil)))
  (pss_one (ps_set (i := 1) sc.nd rfl (.inl rfl) (pe_ix (ix_seqK (K := K) (by rfl)) (pv 4) pe_int (fun _ _ => rfl)))))))))
  (pss_one (ps_ret (pe_lst pa_nil))))), ?_⟩
  try dsimp only [cxOf]
  rintro ds h R ⟨w, c, rfl, cn, ok, q⟩
  have sz := sizeLine_eq
  refine vs_fin ?_
  k_subL; k_subL
  refine ve_lstO ?_
  k_places
  refine ⟨by simp, ?_⟩
  k_places
  refine vs_for (vi_range1 ?_)
  k_places
  refine ⟨40, rfl, by omega, by omega, ?_⟩
  refine ⟨fun i env' h' => ∃ (ks : List K3) (d : Option K3) (o3 o4 : Option Kb.D), Wd.Walk (Wd.par w) c ks d ∧ ks.length = i ∧ CapN d ∧ env' = [some (.p (worldP w)), some (.p (capP d)), some (.own h.length), o3, o4] ∧ h' = h ++ [some (.lst ((ks.map k3P).map Kb.D.p))], ⟨[], c, none, none, .nil c, rfl, cn, rfl, rfl⟩, fun _ _ _ _ => trivial, ?_, ?_⟩
  · rintro i d env' h' hd ⟨ks, d, o3, o4, wk, hl, dn, rfl, rfl⟩
    obtain ⟨hi, rfl⟩ := rng_get hd
    have i40 : i < 40 := hi
    cases d with
    | none =>
      have z : Wd.pathW w c = some ks := Wd.path_mono wk.path (by omega)
      unfold pathR at q
      rw [z] at q
      have le : (ks.map some ++ [none]).map capP = ks.map k3P ++ [.non] := by
        rw [List.map_append, List.map_map]; rfl
      dsimp only at q
      rw [le] at q
      k_places
      refine ve_lst ?_
      k_places
      refine v2_addWO get_last (by rw [List.length_map, List.length_singleton]; omega) ?_
      exact fin_p _ q
    | some k =>
      k_places
      refine ⟨w, some k, rfl, dn, ?_⟩
      unfold infoL
      dsimp only
      cases et : Wd.told w k with
      | none =>
        have pn : Wd.par w k = none := by unfold Wd.par; rw [et]; rfl
        have z : Wd.pathW w c = none := wk.stuck pn 40
        unfold pathR at q
        rw [z] at q
        k_places
        refine ve_lst ?_
        k_places
        exact fin_p _ q
      | some t =>
        obtain ⟨p, hh, rr⟩ := t
        k_places
        refine ve_bm ?_
        k_places
        refine ⟨⟨rfl, _, get_last⟩, ?_⟩
        k_places
        refine vm_appL (f := k3P) (x := k) (by omega) ?_
        k_places
        refine v2_ixL (at_nat 0 (by omega) rfl) ?_
        k_places
        exact ⟨ks ++ [k], p, _, _, wk.snoc (told_par et), by rw [List.length_append, hl]; rfl, told_capN ok et, rfl, rfl⟩
  · rintro env' h' ⟨ks, d, o3, o4, wk, hl, dn, rfl, rfl⟩
    rw [rng_len] at hl
    have z : Wd.pathW w c = none := by
      cases e : Wd.pathW w c with
      | none => rfl
      | some js =>
        obtain ⟨r, m, h1, h2, h3⟩ := wk.path_back e
        have h4 := (Wd.path_len e).1
        rw [h1, List.length_append] at h4
        have : (40 : Int).toNat = 40 := rfl
        omega
    unfold pathR at q
    rw [z] at q
    k_places
    refine ve_lst ?_
    k_places
    exact fin_p _ q
end
end Law

namespace Law
open PySem PySem.Spec PyProof.Rows L2 Kb Gx
-- the steps that are tried: k_clsL a side condition; k_subL one step; k_places steps as long as one fits
local macro_rules | `(tactic| k_clsL) => `(tactic| first | assumption | decide | omega)
local macro_rules | `(tactic| k_subL) => `(tactic| first
  | (with_reducible refine vs_seq ?_) | (with_reducible refine vs_asg ?_) | (with_reducible refine vg_name ?_) | (with_reducible refine vs_ret ?_) | (with_reducible refine vs_if ?_) | (with_reducible refine vs_next ?_) | (with_reducible refine vs_drop ?_)
  | (with_reducible refine vt_test ?_) | (with_reducible refine vt_B ?_) | (with_reducible refine vt_and ?_) | (with_reducible refine vt_or ?_) | (with_reducible refine vt_not ?_) | (with_reducible refine vt_truth ?_)
  | (with_reducible refine ve_op ?_) | (with_reducible refine ve_isi2 ?_) | ((with_reducible refine isi2_i (T := "tuple") ?hT ?hm ?hn ?_); (case hT => exact rfl); (case hm => decide); (case hn => decide)) | ((with_reducible refine isi2_i (T := "list") ?hT ?hm ?hn ?_); (case hT => exact rfl); (case hm => decide); (case hn => decide)) | ((with_reducible refine isi2_i (T := "int") ?hT ?hm ?hn ?_); (case hT => exact rfl); (case hm => decide); (case hn => decide)) | ((with_reducible refine isi2_i (T := "bool") ?hT ?hm ?hn ?_); (case hT => exact rfl); (case hm => decide); (case hn => decide)) | ((with_reducible refine isi2_i (T := "str") ?hT ?hm ?hn ?_); (case hT => exact rfl); (case hm => decide); (case hn => decide)) | ((with_reducible refine isi2_i (T := "NoneType") ?hT ?hm ?hn ?_); (case hT => exact rfl); (case hm => decide); (case hn => decide)) | (with_reducible refine ve_cb ?_) | (with_reducible refine va_cons ?_) | (with_reducible refine va_nil ?_) | (with_reducible refine ve_call ?_)
  | (with_reducible refine ve_int ?_) | (with_reducible refine ve_str ?_) | (with_reducible refine ve_bl ?_) | (with_reducible refine ve_non ?_) | (with_reducible refine ve_ty ?_)
  | (refine ve_var (by exact rfl) ?_)
  | (with_reducible refine ve_and ?_) | (with_reducible refine ve_or ?_) | (with_reducible refine ve_not ?_) | (with_reducible refine ve_chain ?_) | (with_reducible refine ve_un ?_) | (with_reducible refine ve_if ?_)
  | (with_reducible refine bool_ans ?_) | (with_reducible refine tru_bl ?_)
  | (with_reducible refine vc_intI ?_) | (with_reducible refine vc_intB ?_) | (with_reducible refine v2_addI ?_) | (with_reducible refine v2_sub ?_)
  | (with_reducible refine v2_lt ?_) | (with_reducible refine v2_le ?_) | (with_reducible refine v2_gt ?_) | (with_reducible refine v2_ge ?_)
  | (with_reducible refine v2_eqI ?_) | (with_reducible refine v2_eqS ?_) | (with_reducible refine v2_eqB ?_) | (with_reducible refine v2_neI ?_) | (with_reducible refine v2_neS ?_) | (with_reducible refine v2_neB ?_)
  | (with_reducible refine v2_isN ?_) | (with_reducible refine v2_notN ?_) | (with_reducible refine v2_isNU ?_) | ((with_reducible refine v2_isBl ?hx ?_); (case hx => exact rfl))
  | (with_reducible refine v2_addVI ?_) | (with_reducible refine v2_addWI ?_) | (with_reducible refine v2_ltI ?_) | (with_reducible refine v2_ltB ?_) | (with_reducible refine v2_ltS ?_)
  | ((with_reducible refine v2_divW ?hm ?_); case hm => (constructor <;> k_clsL))
  | ((with_reducible refine v2_mulU ?hm ?_); case hm => first | exact cmul_small (by k_clsL) (by k_clsL) | exact cmul_wide (by k_clsL) (by k_clsL))
  | ((with_reducible refine v2_mod ?hm ?_); case hm => k_clsL) | ((with_reducible refine v2_div ?hm ?_); case hm => (constructor <;> k_clsL))
  | ((with_reducible refine v2_mul ?hm ?_); case hm => first | exact cmul_small (by k_clsL) (by k_clsL) | exact cmul_wide (by k_clsL) (by k_clsL))
  | (with_reducible refine vc_abs ?_) | (with_reducible refine vc_min2 ?_) | (with_reducible refine vc_max2 ?_)
  | (with_reducible refine ve_tup ?_) | ((with_reducible refine tup_j ?hl ?_); (case hl => exact rfl))
  | ((with_reducible refine vc_isi (T := "tuple") ?hT ?hn ?_); (case hT => first | exact rfl | exact ⟨rfl, _, by first | assumption | simp⟩); (case hn => decide)) | ((with_reducible refine vc_isi (T := "list") ?hT ?hn ?_); (case hT => first | exact rfl | exact ⟨rfl, _, by first | assumption | simp⟩); (case hn => decide)) | ((with_reducible refine vc_isi (T := "int") ?hT ?hn ?_); (case hT => first | exact rfl | exact ⟨rfl, _, by first | assumption | simp⟩); (case hn => decide)) | ((with_reducible refine vc_isi (T := "bool") ?hT ?hn ?_); (case hT => first | exact rfl | exact ⟨rfl, _, by first | assumption | simp⟩); (case hn => decide)) | ((with_reducible refine vc_isi (T := "str") ?hT ?hn ?_); (case hT => first | exact rfl | exact ⟨rfl, _, by first | assumption | simp⟩); (case hn => decide)) | ((with_reducible refine vc_isi (T := "NoneType") ?hT ?hn ?_); (case hT => first | exact rfl | exact ⟨rfl, _, by first | assumption | simp⟩); (case hn => decide))
  | (with_reducible refine vc_lenL ?_) | (with_reducible refine vc_lenT ?_) | (with_reducible refine ite_nrefl ?_) | (with_reducible refine ite_refl ?_)
  | ((with_reducible refine ite_tt ?hc ?_); (case hc => first | decide | exact rfl)) | ((with_reducible refine ite_ff ?hc ?_); (case hc => first | decide | exact rfl))
  | (with_reducible refine v1_U ?_))
local macro_rules | `(tactic| k_places) => `(tactic| repeat k_subL)
local macro_rules | `(tactic| k_offL) => `(tactic| repeat ((fail_if_success (with_reducible refine vs_seq ?_)); k_subL))

theorem vc_lenG {K : PySem.W.Frag} {Θ : Kb.Ctx} {h : Hs} {x : P} {xs : List P} {R : Kb.D → Hs → Prop} (hx : tupL x = some xs) (q : R (dI xs.length) h) : VC K Θ (fun xs H Q => ∃ x n, xs = [x] ∧ LenV K x H n ∧ Q (.int n) H) [.p x] h R := fun F ρ H vs Q rl a k => by
  cases a with
  | cons a b =>
    cases b
    cases a with
    | p a =>
      obtain ⟨c, vs, rfl, g1, g2⟩ := a.tupL hx rl.same
      exact ⟨_, vs.length, rfl, .inr ⟨vs, g1 _ rl.same, rfl⟩, by rw [← g2.len]; exact k _ h _ F ρ H (Same.refl _) (Pre.refl _) rl (.p (.int _)) q⟩
local macro_rules | `(tactic| k_subL) => `(tactic| (with_reducible refine vc_lenG rfl ?_))
/-- the same data; a tuple of the top is a tuple -/
inductive Sm : Nat → P → P → Prop
  | non {n : Nat} : Sm n .non .non
  | bl {n : Nat} (b : Bool) : Sm n (.bl b) (.bl b)
  | int {n : Nat} (i : Int) : Sm n (.int i) (.int i)
  | str {n : Nat} (s : Str) : Sm n (.str s) (.str s)
  | tup {n : Nat} {xs ys : List P} : xs.length = ys.length → ys.length ≤ 100000 → (∀ (i : Nat) (x y : P), xs[i]? = some x → ys[i]? = some y → Sm n x y) → Sm (n + 1) (.tup xs) (.tup ys)
  | ktp {n : Nat} {xs ys : List P} : xs.length = ys.length → ys.length ≤ 100000 → (∀ (i : Nat) (x y : P), xs[i]? = some x → ys[i]? = some y → Sm n x y) → Sm (n + 1) (.ktp xs) (.tup ys)
  | lst {n : Nat} {xs ys : List P} : xs.length = ys.length → ys.length ≤ 100000 → (∀ (i : Nat) (x y : P), xs[i]? = some x → ys[i]? = some y → Sm n x y) → Sm (n + 1) (.lst xs) (.lst ys)
section
variable {Pg : Program} {w : World} {K : PySem.W.Frag} {Θ : List Addr} {mg : Str → Option Value} {base : Heap} {C CS CK CC : Addr} {c Pt : Addr}
abbrev st_isint : Stmt := (topS 19)
theorem sc_isint : FnScope ["actual"] ["actual"] (defScope st_isint) := ⟨rfl, rfl, rfl, by decide +kernel, rfl, by decide +kernel, by decide +kernel⟩
def W_isint : Spc := fun ds h R => ∃ i : Int, ds = [dI i] ∧ R (dB true) h
theorem ok_isint (A : DefAt K mg "_law_is_integer" st_isint ["actual"]) (m_int : mg "int" = none) (m_bool : mg "bool" = none) (m_isinstance : mg "isinstance" = none) : HasF Pg w K mg base CX0 1 "_law_is_integer" ["actual"] (spD K Θ W_isint) := by
  have sc := sc_isint
  refine A.okD sc W_isint (fun ds h R ⟨_, e, _⟩ => by rw [e]; rfl) fun f cdv A outer s H E hr => ?_
  refine ⟨_, (pss_one (ps_ret (pe_and (pe_callB (call_isiUK (K := K) (by rfl)) (by rfl) m_isinstance (by decide +kernel) (pa_cons (pv 0) (pa_cons (pe_bltn (v := .ty "int") rfl m_int (by decide +kernel) rfl) pa_nil))) (pe_one (pe_not (pe_callB (call_isiUK (K := K) (by rfl)) (by rfl) m_isinstance (by decide +kernel) (pa_cons (pv 0) (pa_cons (pe_bltn (v := .ty "bool") rfl m_bool (by decide +kernel) rfl) pa_nil)))))))), ?_⟩
  try dsimp only [cxOf]
  rintro ds h R ⟨i, rfl, q⟩
  k_places
  exact q
abbrev st_same : Stmt := (topS 20)
theorem sc_same : FnScope ["actual", "expected", "k"] ["actual", "expected"] (defScope st_same) := ⟨rfl, rfl, rfl, by decide +kernel, rfl, by decide +kernel, by decide +kernel⟩
def W_same : Nat → Spc
  | 0 => fun _ _ _ => False
  | n + 1 => fun ds h R => ∃ a b : P, ds = [.p a, .p b] ∧ Sm n a b ∧ R (dB true) h
theorem ok_same (A : DefAt K mg "_law_same" st_same ["actual", "expected"]) (m_int : mg "int" = none) (m_bool : mg "bool" = none) (m_str : mg "str" = none) (m_list : mg "list" = none) (m_tuple : mg "tuple" = none) (m_len : mg "len" = none) (m_range : mg "range" = none) (m_isinstance : mg "isinstance" = none)
    (h__law_is_integer : HasF Pg w K mg base CX0 1 "_law_is_integer" ["actual"] (spD K Θ W_isint)) : ∀ n : Nat, HasF Pg w K mg base CX0 (n + 2) "_law_same" ["actual", "expected"] (spD K Θ (W_same n))
  | 0 => .never A sc_same fun _ _ _ h => h
  | n + 1 => by
    have sc := sc_same
    have h__law_same := ok_same A m_int m_bool m_str m_list m_tuple m_len m_range m_isinstance h__law_is_integer n
    refine A.okD sc (W_same (n + 1)) (fun ds h R ⟨a, b, e, _⟩ => by rw [e]; rfl) fun f cdv A outer s H E hr => ?_
    refine ⟨_, (pss_cons (ps_if (pt_val (pe_callB (call_isiUK (K := K) (by rfl)) (by rfl) m_isinstance (by decide +kernel) (pa_cons (pv 1) (pa_cons (pe_tup (pa_cons (pe_bltn (v := .ty "list") rfl m_list (by decide +kernel) rfl) (pa_cons (pe_bltn (v := .ty "tuple") rfl m_tuple (by decide +kernel) rfl) pa_nil))) pa_nil)))) (pss_cons (ps_if (PW.pt (pw_or (pt_cmpR (op_neUK (K := K) (by rfl) hr.units) (pe_callB (call_isiUK (K := K) (by rfl)) (by rfl) m_isinstance (by decide +kernel) (pa_cons (pv 1) (pa_cons (pe_bltn (v := .ty "list") rfl m_list (by decide +kernel) rfl) pa_nil))) (pe_callB (call_isiUK (K := K) (by rfl)) (by rfl) m_isinstance (by decide +kernel) (pa_cons (pv 0) (pa_cons (pe_bltn (v := .ty "list") rfl m_list (by decide +kernel) rfl) pa_nil))) (nomark _)) (pw_or1 (pt_cmpR (op_neUK (K := K) (by rfl) hr.units) (pe_callB (call_isiUK (K := K) (by rfl)) (by rfl) m_isinstance (by decide +kernel) (pa_cons (pv 1) (pa_cons (pe_bltn (v := .ty "tuple") rfl m_tuple (by decide +kernel) rfl) pa_nil))) (pe_callB (call_isiUK (K := K) (by rfl)) (by rfl) m_isinstance (by decide +kernel) (pa_cons (pv 0) (pa_cons (pe_bltn (v := .ty "tuple") rfl m_tuple (by decide +kernel) rfl) pa_nil))) (nomark _))))) (pss_one (ps_ret pe_bl)) pss_nil)
  (pss_cons (ps_if (pt_cmpR (op_neUK (K := K) (by rfl) hr.units) (pe_callB (call_lenK (K := K) (by rfl)) (by rfl) m_len (by decide +kernel) (pa_cons (pv 0) pa_nil)) (pe_callB (call_lenK (K := K) (by rfl)) (by rfl) m_len (by decide +kernel) (pa_cons (pv 1) pa_nil)) (nomark _)) (pss_one (ps_ret pe_bl)) pss_nil)
  (pss_cons (ps_for PassesOwn.never rfl (pi_range1 rfl m_range (pa_cons (pe_callB (call_lenK (K := K) (by rfl)) (by rfl) m_len (by decide +kernel) (pa_cons (pv 1) pa_nil)) pa_nil)) (pg_name (i := 2) sc.nd rfl (.inl rfl))
  (pss_one (ps_if (pt_not (pt_val (h__law_same.call (hr.mono (by first | decide | omega)) rfl pass0 (pa_cons (pe_ix (ix_seqK (K := K) (by rfl)) (pv 0) (pv 2) (fun _ _ => rfl)) (pa_cons (pe_ix (ix_seqK (K := K) (by rfl)) (pv 1) (pv 2) (fun _ _ => rfl)) pa_nil))))) (pss_one (ps_ret pe_bl)) pss_nil)))
  (pss_one (ps_ret pe_bl))))) pss_nil)
  (pss_cons (ps_if (pt_cmpR op_isU (pv 1) pe_non (nomark _)) (pss_one (ps_ret (pe_cmpR op_isU (pv 0) pe_non (nomark _)))) pss_nil)
  (pss_cons (ps_if (pt_val (pe_callB (call_isiUK (K := K) (by rfl)) (by rfl) m_isinstance (by decide +kernel) (pa_cons (pv 1) (pa_cons (pe_bltn (v := .ty "bool") rfl m_bool (by decide +kernel) rfl) pa_nil)))) (pss_one (ps_ret (pe_and (pe_callB (call_isiUK (K := K) (by rfl)) (by rfl) m_isinstance (by decide +kernel) (pa_cons (pv 0) (pa_cons (pe_bltn (v := .ty "bool") rfl m_bool (by decide +kernel) rfl) pa_nil))) (pe_one (pe_cmpR (op_eqUK (K := K) (by rfl) hr.units) (pv 0) (pv 1) (nomark _)))))) pss_nil)
  (pss_cons (ps_if (pt_val (pe_callB (call_isiUK (K := K) (by rfl)) (by rfl) m_isinstance (by decide +kernel) (pa_cons (pv 1) (pa_cons (pe_bltn (v := .ty "int") rfl m_int (by decide +kernel) rfl) pa_nil)))) (pss_one (ps_ret (pe_and (h__law_is_integer.call (hr.mono (by first | decide | omega)) rfl pass0 (pa_cons (pv 0) pa_nil)) (pe_one (pe_cmpR (op_eqUK (K := K) (by rfl) hr.units) (pv 0) (pv 1) (nomark _)))))) pss_nil)
  (pss_one (ps_ret (pe_and (pe_callB (call_isiUK (K := K) (by rfl)) (by rfl) m_isinstance (by decide +kernel) (pa_cons (pv 0) (pa_cons (pe_bltn (v := .ty "str") rfl m_str (by decide +kernel) rfl) pa_nil))) (pe_one (pe_cmpR (op_eqUK (K := K) (by rfl) hr.units) (pv 0) (pv 1) (nomark _)))))))))), ?_⟩
    try dsimp only [cxOf]
    rintro ds h R ⟨a, b, rfl, sm, q⟩
    refine vs_fin ?_
    cases sm with
    | non => k_places; exact fin_p0 q
    | bl x => k_places; exact fin_p0 (by rw [decide_eq_true rfl]; exact q)
    | int x =>
      k_places
      refine ⟨x, rfl, ?_⟩
      k_places
      exact fin_p0 (by rw [decide_eq_true rfl]; exact q)
    | str x => k_places; exact fin_p0 (by rw [decide_eq_true rfl]; exact q)
    | @tup n xs ys hl hz hx =>
      k_places
      refine ite_ff (by rw [hl]; simp) ?_
      k_places
      refine vs_for (vi_range1 ?_)
      k_places
      refine ⟨_, rfl, by omega, by omega, ?_⟩
      refine ⟨fun i env h' => (∃ o, env = [some (dT xs), some (dT ys), o]) ∧ h' = h, ⟨⟨none, rfl⟩, rfl⟩, fun _ _ _ _ => trivial, ?_, ?_⟩
      · rintro i d env h' hd ⟨⟨o, rfl⟩, rfl⟩
        obtain ⟨hi, rfl⟩ := rng_get hd
        have hiy : i < ys.length := by omega
        have hix : i < xs.length := by omega
        k_places
        refine v2_ixT (at_nat i (by omega) (List.getElem?_eq_getElem hix)) ?_
        k_places
        refine v2_ixT (at_nat i (by omega) (List.getElem?_eq_getElem hiy)) ?_
        k_places
        refine ⟨_, _, rfl, hx i _ _ (List.getElem?_eq_getElem hix) (List.getElem?_eq_getElem hiy), ?_⟩
        k_places
        exact ⟨⟨_, rfl⟩, rfl⟩
      · rintro env h' ⟨⟨o, rfl⟩, rfl⟩
        k_places
        exact fin_p0 q
    | @ktp n xs ys hl hz hx =>
      k_places
      refine ite_ff (by rw [hl]; simp) ?_
      k_places
      refine vs_for (vi_range1 ?_)
      k_places
      refine ⟨_, rfl, by omega, by omega, ?_⟩
      refine ⟨fun i env h' => (∃ o, env = [some (.p (.ktp xs)), some (dT ys), o]) ∧ h' = h, ⟨⟨none, rfl⟩, rfl⟩, fun _ _ _ _ => trivial, ?_, ?_⟩
      · rintro i d env h' hd ⟨⟨o, rfl⟩, rfl⟩
        obtain ⟨hi, rfl⟩ := rng_get hd
        have hiy : i < ys.length := by omega
        have hix : i < xs.length := by omega
        k_places
        refine v2_ixG rfl (at_nat i (by omega) (List.getElem?_eq_getElem hix)) ?_
        k_places
        refine v2_ixT (at_nat i (by omega) (List.getElem?_eq_getElem hiy)) ?_
        k_places
        refine ⟨_, _, rfl, hx i _ _ (List.getElem?_eq_getElem hix) (List.getElem?_eq_getElem hiy), ?_⟩
        k_places
        exact ⟨⟨_, rfl⟩, rfl⟩
      · rintro env h' ⟨⟨o, rfl⟩, rfl⟩
        k_places
        exact fin_p0 q
    | @lst n xs ys hl hz hx =>
      k_places
      refine ite_ff (by rw [hl]; simp) ?_
      k_places
      refine vs_for (vi_range1 ?_)
      k_places
      refine ⟨_, rfl, by omega, by omega, ?_⟩
      refine ⟨fun i env h' => (∃ o, env = [some (dL xs), some (dL ys), o]) ∧ h' = h, ⟨⟨none, rfl⟩, rfl⟩, fun _ _ _ _ => trivial, ?_, ?_⟩
      · rintro i d env h' hd ⟨⟨o, rfl⟩, rfl⟩
        obtain ⟨hi, rfl⟩ := rng_get hd
        have hiy : i < ys.length := by omega
        have hix : i < xs.length := by omega
        k_places
        refine v2_ixL (at_nat i (by omega) (List.getElem?_eq_getElem hix)) ?_
        k_places
        refine v2_ixL (at_nat i (by omega) (List.getElem?_eq_getElem hiy)) ?_
        k_places
        refine ⟨_, _, rfl, hx i _ _ (List.getElem?_eq_getElem hix) (List.getElem?_eq_getElem hiy), ?_⟩
        k_places
        exact ⟨⟨_, rfl⟩, rfl⟩
      · rintro env h' ⟨⟨o, rfl⟩, rfl⟩
        k_places
        exact fin_p0 q
theorem Sm.refl : ∀ {n : Nat} {x : P}, okP n x = true → Sm n x x
  | _, .non, _ => .non
  | _, .bl b, _ => .bl b
  | _, .int i, _ => .int i
  | _, .str s, _ => .str s
  | _, .ty _, h => by simp [okP] at h
  | _, .cls _, h => by simp [okP] at h
  | _, .ins _ _, h => by simp [okP] at h
  | _, .ktp _, h => by simp [okP] at h
  | n, .tup xs, h => by
    obtain ⟨m, rfl, hl, hx⟩ := okP_tup h
    exact .tup rfl hl fun i x y a b => by rw [a] at b; cases b; exact Sm.refl (hx x (List.mem_of_getElem? a))
  | n, .lst xs, h => by
    obtain ⟨m, rfl, hl, hx⟩ := okP_lst h
    exact .lst rfl hl fun i x y a b => by rw [a] at b; cases b; exact Sm.refl (hx x (List.mem_of_getElem? a))
theorem Sm.full (n : Nat) : Sm (n + 2) fullK (rtsP fullR) := by
  refine .ktp rfl (by show 4 ≤ 100000; omega) fun i x y a b => ?_
  have e : ∀ n : Nat, Sm (n + 1) (.ktp [.bl true, .bl true, .bl true]) (.tup [.bl true, .bl true, .bl true]) := fun n => by
    refine .ktp rfl (by show 3 ≤ 100000; omega) fun i x y a b => ?_
    match i, a, b with
    | 0, a, b => cases a; cases b; exact .bl true
    | 1, a, b => cases a; cases b; exact .bl true
    | 2, a, b => cases a; cases b; exact .bl true
  match i, a, b with
  | 0, a, b => cases a; cases b; exact e n
  | 1, a, b => cases a; cases b; exact e n
  | 2, a, b => cases a; cases b; exact e n
  | 3, a, b => cases a; cases b; exact e n
end
end Law

namespace Law
open PySem PySem.Spec PyProof.Rows L2 Kb Gx
-- the steps that are tried: k_clsL a side condition; k_subL one step; k_places steps as long as one fits
local macro_rules | `(tactic| k_clsL) => `(tactic| first | assumption | decide | omega)
local macro_rules | `(tactic| k_subL) => `(tactic| first
  | (with_reducible refine vs_seq ?_) | (with_reducible refine vs_asg ?_) | (with_reducible refine vg_name ?_) | (with_reducible refine vs_ret ?_) | (with_reducible refine vs_if ?_) | (with_reducible refine vs_next ?_) | (with_reducible refine vs_drop ?_)
  | (with_reducible refine vt_test ?_) | (with_reducible refine vt_B ?_) | (with_reducible refine vt_and ?_) | (with_reducible refine vt_or ?_) | (with_reducible refine vt_not ?_) | (with_reducible refine vt_truth ?_)
  | (with_reducible refine ve_op ?_) | (with_reducible refine ve_isi2 ?_) | ((with_reducible refine isi2_i (T := "tuple") ?hT ?hm ?hn ?_); (case hT => exact rfl); (case hm => decide); (case hn => decide)) | ((with_reducible refine isi2_i (T := "list") ?hT ?hm ?hn ?_); (case hT => exact rfl); (case hm => decide); (case hn => decide)) | ((with_reducible refine isi2_i (T := "int") ?hT ?hm ?hn ?_); (case hT => exact rfl); (case hm => decide); (case hn => decide)) | ((with_reducible refine isi2_i (T := "bool") ?hT ?hm ?hn ?_); (case hT => exact rfl); (case hm => decide); (case hn => decide)) | ((with_reducible refine isi2_i (T := "str") ?hT ?hm ?hn ?_); (case hT => exact rfl); (case hm => decide); (case hn => decide)) | ((with_reducible refine isi2_i (T := "NoneType") ?hT ?hm ?hn ?_); (case hT => exact rfl); (case hm => decide); (case hn => decide)) | (with_reducible refine ve_cb ?_) | (with_reducible refine va_cons ?_) | (with_reducible refine va_nil ?_) | (with_reducible refine ve_call ?_)
  | (with_reducible refine ve_int ?_) | (with_reducible refine ve_str ?_) | (with_reducible refine ve_bl ?_) | (with_reducible refine ve_non ?_) | (with_reducible refine ve_ty ?_)
  | (refine ve_var (by exact rfl) ?_)
  | (with_reducible refine ve_and ?_) | (with_reducible refine ve_or ?_) | (with_reducible refine ve_not ?_) | (with_reducible refine ve_chain ?_) | (with_reducible refine ve_un ?_) | (with_reducible refine ve_if ?_)
  | (with_reducible refine bool_ans ?_) | (with_reducible refine tru_bl ?_)
  | (with_reducible refine vc_intI ?_) | (with_reducible refine vc_intB ?_) | (with_reducible refine v2_addI ?_) | (with_reducible refine v2_sub ?_)
  | (with_reducible refine v2_lt ?_) | (with_reducible refine v2_le ?_) | (with_reducible refine v2_gt ?_) | (with_reducible refine v2_ge ?_)
  | (with_reducible refine v2_eqI ?_) | (with_reducible refine v2_eqS ?_) | (with_reducible refine v2_eqB ?_) | (with_reducible refine v2_neI ?_) | (with_reducible refine v2_neS ?_) | (with_reducible refine v2_neB ?_)
  | (with_reducible refine v2_isN ?_) | (with_reducible refine v2_notN ?_) | (with_reducible refine v2_isNU ?_) | ((with_reducible refine v2_isBl ?hx ?_); (case hx => exact rfl))
  | (with_reducible refine v2_addVI ?_) | (with_reducible refine v2_addWI ?_) | (with_reducible refine v2_ltI ?_) | (with_reducible refine v2_ltB ?_) | (with_reducible refine v2_ltS ?_)
  | ((with_reducible refine v2_divW ?hm ?_); case hm => (constructor <;> k_clsL))
  | ((with_reducible refine v2_mulU ?hm ?_); case hm => first | exact cmul_small (by k_clsL) (by k_clsL) | exact cmul_wide (by k_clsL) (by k_clsL))
  | ((with_reducible refine v2_mod ?hm ?_); case hm => k_clsL) | ((with_reducible refine v2_div ?hm ?_); case hm => (constructor <;> k_clsL))
  | ((with_reducible refine v2_mul ?hm ?_); case hm => first | exact cmul_small (by k_clsL) (by k_clsL) | exact cmul_wide (by k_clsL) (by k_clsL))
  | (with_reducible refine vc_abs ?_) | (with_reducible refine vc_min2 ?_) | (with_reducible refine vc_max2 ?_)
  | (with_reducible refine ve_tup ?_) | ((with_reducible refine tup_j ?hl ?_); (case hl => exact rfl))
  | ((with_reducible refine vc_isi (T := "tuple") ?hT ?hn ?_); (case hT => first | exact rfl | exact ⟨rfl, _, by first | assumption | simp⟩); (case hn => decide)) | ((with_reducible refine vc_isi (T := "list") ?hT ?hn ?_); (case hT => first | exact rfl | exact ⟨rfl, _, by first | assumption | simp⟩); (case hn => decide)) | ((with_reducible refine vc_isi (T := "int") ?hT ?hn ?_); (case hT => first | exact rfl | exact ⟨rfl, _, by first | assumption | simp⟩); (case hn => decide)) | ((with_reducible refine vc_isi (T := "bool") ?hT ?hn ?_); (case hT => first | exact rfl | exact ⟨rfl, _, by first | assumption | simp⟩); (case hn => decide)) | ((with_reducible refine vc_isi (T := "str") ?hT ?hn ?_); (case hT => first | exact rfl | exact ⟨rfl, _, by first | assumption | simp⟩); (case hn => decide)) | ((with_reducible refine vc_isi (T := "NoneType") ?hT ?hn ?_); (case hT => first | exact rfl | exact ⟨rfl, _, by first | assumption | simp⟩); (case hn => decide))
  | (with_reducible refine vc_lenL ?_) | (with_reducible refine vc_lenT ?_) | (with_reducible refine ite_nrefl ?_) | (with_reducible refine ite_refl ?_)
  | ((with_reducible refine ite_tt ?hc ?_); (case hc => first | decide | exact rfl)) | ((with_reducible refine ite_ff ?hc ?_); (case hc => first | decide | exact rfl))
  | (with_reducible refine v1_U ?_))
local macro_rules | `(tactic| k_places) => `(tactic| repeat k_subL)
local macro_rules | `(tactic| k_offL) => `(tactic| repeat ((fail_if_success (with_reducible refine vs_seq ?_)); k_subL))

/-! what Store.data gives of a world; it compares as the same -/
theorem flat_mono {n m : Nat} {x : P} (f : Flat n x) (h : n ≤ m) : Flat m x := ⟨f.lay, Nat.le_trans f.dep h, f.pl⟩
theorem flat_str {n : Nat} (s : Str) (h : (PyData.str s).canLay0 = true := by decide +kernel) : Flat n (.str s) := ⟨h, Nat.zero_le _, rfl⟩
theorem flat_ints {n : Nat} (xs : List Int) : Flat (n + 1) (.tup (xs.map P.int)) := .tup fun x hx => by
  obtain ⟨i, _, rfl⟩ := List.mem_map.mp hx
  exact .int i
theorem flat_cap (c : Option K3) (n : Nat) : Flat (n + 1) (capP c) := by
  cases c with
  | none => exact .non
  | some c =>
    refine .tup fun y hy => ?_
    simp only [List.mem_cons, List.mem_nil_iff, or_false] at hy
    rcases hy with rfl | rfl | rfl <;> exact .int _
theorem flat_rts (r : Wd.Rts) (n : Nat) : Flat (n + 2) (rtsP r) := by
  refine .tup fun x hx => ?_
  obtain ⟨t, _, rfl⟩ := List.mem_map.mp hx
  refine .tup fun y hy => ?_
  simp only [List.mem_cons, List.mem_nil_iff, or_false] at hy
  rcases hy with rfl | rfl | rfl <;> exact .bl _
theorem flat_pub (u : Wd.Pub) (n : Nat) : Flat (n + 3) (pubP u) := by
  cases u with
  | grant hh r =>
    refine .tup fun y hy => ?_
    simp only [List.mem_cons, List.mem_nil_iff, or_false] at hy
    rcases hy with rfl | rfl | rfl
    · exact flat_str _
    · exact .int _
    · exact flat_rts r n
  | revoke c =>
    refine .tup fun y hy => ?_
    simp only [List.mem_cons, List.mem_nil_iff, or_false] at hy
    rcases hy with rfl | rfl
    · exact flat_str _
    · exact flat_cap c _
  | mark =>
    refine .tup fun y hy => ?_
    simp only [List.mem_cons, List.mem_nil_iff, or_false] at hy
    rcases hy with rfl
    exact flat_str _
theorem flat_pubs (us : List Wd.Pub) (n : Nat) : Flat (n + 4) (pubsP us) := by
  refine .tup fun x hx => ?_
  obtain ⟨u, h1, rfl⟩ := List.mem_map.mp hx
  exact flat_pub u n
theorem flat_ent (e : Wd.Ent) (n : Nat) : Flat (n + 3) (entP e) := by
  refine .tup fun y hy => ?_
  simp only [List.mem_cons, List.mem_nil_iff, or_false] at hy
  rcases hy with rfl | rfl | rfl | rfl
  · exact flat_cap (some e.k) _
  · exact flat_cap _ _
  · exact .int _
  · exact flat_rts _ n
theorem frz_ent (e : Wd.Ent) : frzP (entP e) = entP e := by
  show P.tup [frzP (k3P e.k), frzP (capP e.par), .int e.hol, frzP (rtsP e.rts)] = _
  rw [frz_cap, frz_rts]; rfl
theorem deep_ent {m : Int} {e : Wd.Ent} (h : e.rts.length = 4) (n : Nat) : Deep (n + 3) (entP e) := by
  refine .tup (by show 4 < _; omega) fun y hy => ?_
  simp only [List.mem_cons, List.mem_nil_iff, or_false] at hy
  rcases hy with rfl | rfl | rfl | rfl
  · exact deep_cap (some e.k) _
  · exact deep_cap _ _
  · exact .int
  · exact deep_rts (by omega) n
def noKept : List (Option (List P × List P × List P)) := List.replicate 4 (some ([], [], []))
/-- parts as data that may stand in a store -/
structure PtOk (p : P) : Prop where
  deep : Deep 4 p
  flat : Flat 6 (frzP p)
def worldD (pt : Wd.Row → P) (w : Wd.Wld) : P := storeD w.cut (w.caps.map entP) noKept (Wd.byA (chgOf pt) w)
theorem flat_chg (pt : Wd.Row → P) (r : Wd.Row) (hp : PtOk (pt r)) : Flat 7 (frzP (chgD (chgOf pt r))) := by
  have e : frzP (chgD (chgOf pt r)) = .tup [.int r.a, .int r.n, hdP r.hd, capP r.cap, pubsP r.pub, frzP (pt r)] := by
    show P.tup [.int r.a, .int r.n, frzP (hdP r.hd), frzP (capP r.cap), frzP (pubsP r.pub), frzP (pt r)] = _
    rw [frz_hd, frz_cap, frz_pubs]
  rw [e]
  refine .tup fun y hy => ?_
  simp only [List.mem_cons, List.mem_nil_iff, or_false] at hy
  rcases hy with rfl | rfl | rfl | rfl | rfl | rfl
  · exact .int _
  · exact .int _
  · exact flat_ints _
  · exact flat_cap _ _
  · exact flat_pubs _ 2
  · exact hp.flat
theorem worldD_flat {pt : Wd.Row → P} {w : Wd.Wld} (hp : ∀ r ∈ w.rows, PtOk (pt r)) : Flat 10 (worldD pt w) := by
  refine .tup fun y hy => ?_
  simp only [List.mem_cons, List.mem_nil_iff, or_false] at hy
  rcases hy with rfl | rfl | rfl | rfl
  · exact flat_ints _
  · refine .tup fun x hx => ?_
    obtain ⟨x0, h1, rfl⟩ := List.mem_map.mp hx
    obtain ⟨e, _, rfl⟩ := List.mem_map.mp h1
    rw [frz_ent]
    exact flat_ent e 5
  · refine .tup fun x hx => ?_
    obtain ⟨x0, h1, rfl⟩ := List.mem_map.mp hx
    unfold noKept at h1
    rw [List.eq_of_mem_replicate h1]
    refine .tup fun z hz => ?_
    simp only [keptD, List.mem_cons, List.mem_nil_iff, or_false] at hz
    have z0 : Flat 7 (frzP (.lst [])) := .tup (fun _ h => by cases h)
    rcases hz with rfl | rfl | rfl <;> exact z0
  · refine .tup fun x hx => ?_
    obtain ⟨cs, h1, rfl⟩ := List.mem_map.mp hx
    refine .tup fun z hz => ?_
    obtain ⟨c, h2, rfl⟩ := List.mem_map.mp hz
    unfold Wd.byA at h1
    obtain ⟨a, _, rfl⟩ := List.mem_map.mp h1
    obtain ⟨r, h3, rfl⟩ := List.mem_map.mp h2
    exact flat_chg pt r (hp r (mem_ofA h3))
theorem ptOk_parts : PtOk partsP := by
  refine ⟨deep_parts 2, ?_⟩
  rw [frz_parts]
  refine .tup fun y hy => ?_
  simp only [List.mem_cons, List.mem_nil_iff, or_false] at hy
  rcases hy with rfl | rfl | rfl | rfl <;> exact .tup (fun _ h => by cases h)
theorem data_use {C CK CC : Addr} {h : Hs} {R : Kb.D → Hs → Prop} {n : Nat} {w : Wd.Wld} {pt : Wd.Row → P} {I : List Nat} (S : SW C CC h n w pt (List.replicate 4 (keptE CK)) I) (hp : ∀ r ∈ w.rows, PtOk (pt r)) (q : R (.p (worldD pt w)) h) : W_sdata C CK CC [.own n] h R := by
  have ok := S.ok
  have hk : noKept.map (keptP CK) = List.replicate 4 (keptE CK) := rfl
  refine ⟨n, w.m, w.cut, w.caps.map entP, noKept, Wd.byA (chgOf pt) w, I, rfl, by rw [hk]; exact S.at_, by rw [List.length_map]; have := ok.kl; omega, fun x hx => ?_, by decide, fun k hk => ?_, by rw [Wd.byA_len]; have := ok.m1; omega, fun cs hcs => ?_, q⟩
  · obtain ⟨e, he, rfl⟩ := List.mem_map.mp hx
    exact deep_ent (m := 0) (ok.ek e he).2.2.1 3
  · unfold noKept at hk
    rw [List.eq_of_mem_replicate hk]
    have z : Deep 7 (.lst []) := .lst (by simp) (fun _ h => by cases h)
    exact ⟨z, z, z⟩
  · unfold Wd.byA at hcs
    obtain ⟨a, _, rfl⟩ := List.mem_map.mp hcs
    refine ⟨?_, fun c hc => ?_⟩
    · rw [List.length_map]
      have h1 : (Wd.ofA (a : Int) w.rows).length ≤ w.rows.length := List.length_filter_le ..
      have := ok.rl
      omega
    · obtain ⟨r, hr, rfl⟩ := List.mem_map.mp hc
      have hr := mem_ofA hr
      have hl := ok.hl r hr
      have := ok.m1
      exact ⟨deep_hd (by omega) 3, deep_cap _ 3, deep_pubs (by have := ok.pl r hr; omega) (ok.pb r hr) 0, (hp r hr).deep⟩
theorem told_len {w : Wd.Wld} (ok : Wd.WOk w) {k : K3} {p : Option K3} {hh : Int} {r : Wd.Rts} (h : Wd.told w k = some (p, hh, r)) : r.length = 4 := by
  unfold Wd.told at h
  cases e : w.caps.find? fun e => decide (e.k = k) with
  | some x =>
    rw [e] at h
    cases h
    exact (ok.ek x (List.mem_of_find?_eq_some e)).2.2.1
  | none =>
    rw [e] at h
    unfold Wd.rowTold at h
    dsimp only at h
    cases e2 : Wd.rowOf w k.1 k.2.1 with
    | none => rw [e2] at h; cases h
    | some r' =>
      rw [e2] at h
      dsimp only at h
      split at h
      · split at h
        · rename_i u hu
          have po := ok.pb r' (Wd.rowOf_mem e2).1 u (List.mem_of_getElem? hu)
          cases u with
          | grant h1 r1 =>
            cases h
            exact po.2.2
          | revoke c => cases h
          | mark => cases h
        · cases h
      · cases h
theorem okP_cap (c : Option K3) (n : Nat) : okP (n + 1) (capP c) = true := by cases c <;> cases n <;> rfl
theorem okP_rts {r : Wd.Rts} (h : r.length = 4) (n : Nat) : okP (n + 2) (rtsP r) = true := by
  unfold rtsP
  simp only [okP, Bool.and_eq_true, decide_eq_true_eq, List.all_eq_true, List.length_map]
  refine ⟨by omega, fun x hx => ?_⟩
  obtain ⟨t, _, rfl⟩ := List.mem_map.mp hx
  cases n <;> rfl
end Law

namespace Law
open PySem PySem.Spec PyProof.Rows L2 Kb Gx
-- the steps that are tried: k_clsL a side condition; k_subL one step; k_places steps as long as one fits
local macro_rules | `(tactic| k_clsL) => `(tactic| first | assumption | decide | omega)
local macro_rules | `(tactic| k_subL) => `(tactic| first
  | (with_reducible refine vs_seq ?_) | (with_reducible refine vs_asg ?_) | (with_reducible refine vg_name ?_) | (with_reducible refine vs_ret ?_) | (with_reducible refine vs_if ?_) | (with_reducible refine vs_next ?_) | (with_reducible refine vs_drop ?_)
  | (with_reducible refine vt_test ?_) | (with_reducible refine vt_B ?_) | (with_reducible refine vt_and ?_) | (with_reducible refine vt_or ?_) | (with_reducible refine vt_not ?_) | (with_reducible refine vt_truth ?_)
  | (with_reducible refine ve_op ?_) | (with_reducible refine ve_isi2 ?_) | ((with_reducible refine isi2_i (T := "tuple") ?hT ?hm ?hn ?_); (case hT => exact rfl); (case hm => decide); (case hn => decide)) | ((with_reducible refine isi2_i (T := "list") ?hT ?hm ?hn ?_); (case hT => exact rfl); (case hm => decide); (case hn => decide)) | ((with_reducible refine isi2_i (T := "int") ?hT ?hm ?hn ?_); (case hT => exact rfl); (case hm => decide); (case hn => decide)) | ((with_reducible refine isi2_i (T := "bool") ?hT ?hm ?hn ?_); (case hT => exact rfl); (case hm => decide); (case hn => decide)) | ((with_reducible refine isi2_i (T := "str") ?hT ?hm ?hn ?_); (case hT => exact rfl); (case hm => decide); (case hn => decide)) | ((with_reducible refine isi2_i (T := "NoneType") ?hT ?hm ?hn ?_); (case hT => exact rfl); (case hm => decide); (case hn => decide)) | (with_reducible refine ve_cb ?_) | (with_reducible refine va_cons ?_) | (with_reducible refine va_nil ?_) | (with_reducible refine ve_call ?_)
  | (with_reducible refine ve_int ?_) | (with_reducible refine ve_str ?_) | (with_reducible refine ve_bl ?_) | (with_reducible refine ve_non ?_) | (with_reducible refine ve_ty ?_)
  | (refine ve_var (by exact rfl) ?_)
  | (with_reducible refine ve_and ?_) | (with_reducible refine ve_or ?_) | (with_reducible refine ve_not ?_) | (with_reducible refine ve_chain ?_) | (with_reducible refine ve_un ?_) | (with_reducible refine ve_if ?_)
  | (with_reducible refine bool_ans ?_) | (with_reducible refine tru_bl ?_)
  | (with_reducible refine vc_intI ?_) | (with_reducible refine vc_intB ?_) | (with_reducible refine v2_addI ?_) | (with_reducible refine v2_sub ?_)
  | (with_reducible refine v2_lt ?_) | (with_reducible refine v2_le ?_) | (with_reducible refine v2_gt ?_) | (with_reducible refine v2_ge ?_)
  | (with_reducible refine v2_eqI ?_) | (with_reducible refine v2_eqS ?_) | (with_reducible refine v2_eqB ?_) | (with_reducible refine v2_neI ?_) | (with_reducible refine v2_neS ?_) | (with_reducible refine v2_neB ?_)
  | (with_reducible refine v2_isN ?_) | (with_reducible refine v2_notN ?_) | (with_reducible refine v2_isNU ?_) | ((with_reducible refine v2_isBl ?hx ?_); (case hx => exact rfl))
  | (with_reducible refine v2_addVI ?_) | (with_reducible refine v2_addWI ?_) | (with_reducible refine v2_ltI ?_) | (with_reducible refine v2_ltB ?_) | (with_reducible refine v2_ltS ?_)
  | ((with_reducible refine v2_divW ?hm ?_); case hm => (constructor <;> k_clsL))
  | ((with_reducible refine v2_mulU ?hm ?_); case hm => first | exact cmul_small (by k_clsL) (by k_clsL) | exact cmul_wide (by k_clsL) (by k_clsL))
  | ((with_reducible refine v2_mod ?hm ?_); case hm => k_clsL) | ((with_reducible refine v2_div ?hm ?_); case hm => (constructor <;> k_clsL))
  | ((with_reducible refine v2_mul ?hm ?_); case hm => first | exact cmul_small (by k_clsL) (by k_clsL) | exact cmul_wide (by k_clsL) (by k_clsL))
  | (with_reducible refine vc_abs ?_) | (with_reducible refine vc_min2 ?_) | (with_reducible refine vc_max2 ?_)
  | (with_reducible refine ve_tup ?_) | ((with_reducible refine tup_j ?hl ?_); (case hl => exact rfl))
  | ((with_reducible refine vc_isi (T := "tuple") ?hT ?hn ?_); (case hT => first | exact rfl | exact ⟨rfl, _, by first | assumption | simp⟩); (case hn => decide)) | ((with_reducible refine vc_isi (T := "list") ?hT ?hn ?_); (case hT => first | exact rfl | exact ⟨rfl, _, by first | assumption | simp⟩); (case hn => decide)) | ((with_reducible refine vc_isi (T := "int") ?hT ?hn ?_); (case hT => first | exact rfl | exact ⟨rfl, _, by first | assumption | simp⟩); (case hn => decide)) | ((with_reducible refine vc_isi (T := "bool") ?hT ?hn ?_); (case hT => first | exact rfl | exact ⟨rfl, _, by first | assumption | simp⟩); (case hn => decide)) | ((with_reducible refine vc_isi (T := "str") ?hT ?hn ?_); (case hT => first | exact rfl | exact ⟨rfl, _, by first | assumption | simp⟩); (case hn => decide)) | ((with_reducible refine vc_isi (T := "NoneType") ?hT ?hn ?_); (case hT => first | exact rfl | exact ⟨rfl, _, by first | assumption | simp⟩); (case hn => decide))
  | (with_reducible refine vc_lenL ?_) | (with_reducible refine vc_lenT ?_) | (with_reducible refine ite_nrefl ?_) | (with_reducible refine ite_refl ?_)
  | ((with_reducible refine ite_tt ?hc ?_); (case hc => first | decide | exact rfl)) | ((with_reducible refine ite_ff ?hc ?_); (case hc => first | decide | exact rfl))
  | (with_reducible refine v1_U ?_))
local macro_rules | `(tactic| k_places) => `(tactic| repeat k_subL)
local macro_rules | `(tactic| k_offL) => `(tactic| repeat ((fail_if_success (with_reducible refine vs_seq ?_)); k_subL))

local macro_rules | `(tactic| k_subL) => `(tactic| (with_reducible refine at_use (by assumption) (by assumption) (by omega) (by omega) ?_))
section
variable {Pg : Program} {w : World} {K : PySem.W.Frag} {Θ : List Addr} {mg : Str → Option Value} {base : Heap} {C CS CK CC : Addr} {c Pt : Addr}
abbrev st_asked : Stmt := (topS 35)
theorem sc_asked : FnScope ["draws", "world", "spots", "row", "first", "entry", "place"] ["draws", "world"] (defScope st_asked) := ⟨rfl, rfl, rfl, by decide +kernel, rfl, by decide +kernel, by decide +kernel⟩
def W_asked : Spc := fun ds h R => ∃ (ms : List Int) (w : Wd.Wld), ds = [dL (ms.map P.int), .p (worldP w)] ∧ Good ms ∧ ms.length ≤ 3780 ∧ Wd.WOk w ∧ w.rows.length ≤ 40 ∧ ∀ cs : List (Option K3), (∀ c ∈ cs, CapN c) → cs.length ≤ 100000 → R (dL (cs.map capP)) h
theorem ok_asked (A : DefAt K mg "_law_asked" st_asked ["draws", "world"]) (m_len : mg "len" = none) (m_range : mg "range" = none) (h__law_at : HasF Pg w K mg base CX0 2 "_law_at" ["draws", "index"] (spD K Θ W_at)) : HasF Pg w K mg base CX0 3 "_law_asked" ["draws", "world"] (spD K Θ W_asked) := by
  have sc := sc_asked
  refine A.okD sc W_asked (fun ds h R ⟨_, _, e, _⟩ => by rw [e]; rfl) fun f cdv A outer s H E hr => ?_
  refine ⟨_, (pss_cons (ps_set (i := 2) sc.nd rfl (.inl rfl) (pe_lst (pa_cons pe_non (pa_cons (pe_tup (pa_cons pe_int (pa_cons pe_int (pa_cons pe_int pa_nil)))) (pa_cons (pe_tup (pa_cons pe_int (pa_cons pe_int (pa_cons pe_int pa_nil)))) pa_nil)))))
  (pss_cons (ps_expr (pe_bm PySem.F.plainAttrs_list PySem.F.slot_list_extend PySem.F.type_list_extend (mt_extLK (K := K) (by rfl)) (pv 2) (pa_cons (pe_lc (own := [("entry", 5)]) rfl sc.nd (pi_seqK (K := K) (by rfl) (pe_ix (ix_seqK (K := K) (by rfl)) (pv 1) pe_int (fun _ _ => rfl))) (blkOk_by (N := ["draws", "world", "spots", "row", "first", "entry", "place"]) (sc := defScope (topS 35)) (by decide +kernel)) (fun _ _ _ _ _ => (pg_name (i := 5) sc.nd rfl (.inl rfl))) (fun _ _ _ _ _ => pts_nil) (fun _ _ _ _ _ => (pe_ix (ix_seqK (K := K) (by rfl)) (pv 5) pe_int (fun _ _ => rfl)))) pa_nil)))
  (pss_cons (ps_for PassesOwn.never rfl (pi_seqK (K := K) (by rfl) (pe_ix (ix_seqK (K := K) (by rfl)) (pv 1) pe_int (fun _ _ => rfl))) (pg_name (i := 3) sc.nd rfl (.inr rfl))
  (pss_one (ps_expr (pe_bm PySem.F.plainAttrs_list PySem.F.slot_list_extend PySem.F.type_list_extend (mt_extLK (K := K) (by rfl)) (pv 2) (pa_cons (pe_lc (own := [("place", 6)]) rfl sc.nd (pi_range1 rfl m_range (pa_cons (pe_callB (call_lenK (K := K) (by rfl)) (by rfl) m_len (by decide +kernel) (pa_cons (pe_ix (ix_seqK (K := K) (by rfl)) (pv 3) pe_int (fun _ _ => rfl)) pa_nil)) pa_nil)) (blkOk_by (N := ["draws", "world", "spots", "row", "first", "entry", "place"]) (sc := defScope (topS 35)) (by decide +kernel)) (fun _ _ _ _ _ => (pg_name (i := 6) sc.nd rfl (.inl rfl))) (fun _ _ _ _ _ => pts_nil) (fun _ _ _ _ _ => (pe_tup (pa_cons (pe_ix (ix_seqK (K := K) (by rfl)) (pv 3) pe_int (fun _ _ => rfl)) (pa_cons (pe_ix (ix_seqK (K := K) (by rfl)) (pv 3) pe_int (fun _ _ => rfl)) (pa_cons (pv 6) pa_nil)))))) pa_nil)))))
  (pss_cons (ps_if (pt_cmpR op_gt (pe_callB (call_lenK (K := K) (by rfl)) (by rfl) m_len (by decide +kernel) (pa_cons (pv 2) pa_nil)) pe_int (nomark _)) (pss_cons (ps_set (i := 4) sc.nd rfl (.inl rfl) (pe_op (op_addWK (K := K) (by rfl)) pe_int (pe_op op_mod (h__law_at.call (hr.mono (by first | decide | omega)) rfl pass0 (pa_cons (pv 0) (pa_cons pe_int pa_nil))) (pe_op op_sub (pe_callB (call_lenK (K := K) (by rfl)) (by rfl) m_len (by decide +kernel) (pa_cons (pv 2) pa_nil)) pe_int))))
  (pss_one (ps_set (i := 2) sc.nd rfl (.inl rfl) (pe_op (op_addWK (K := K) (by rfl)) (pe_slice (sl_listK (K := K) (by rfl)) (pv 2) po_none (po_some pe_int)) (pe_slice (sl_listK (K := K) (by rfl)) (pv 2) (po_some (pv 4)) (po_some (pe_op (op_addWK (K := K) (by rfl)) (pv 4) pe_int))))))) pss_nil)
  (pss_one (ps_ret (pv 2))))))), ?_⟩
  try dsimp only [cxOf]
  rintro ds h R ⟨ms, w, rfl, hg, hm, ok, rl, q⟩
  have sz := sizeLine_eq
  have kl := ok.kl
  refine vs_fin ?_
  refine vs_seq ?_
  refine vs_asg ?_
  refine ve_lstO ?_
  k_places
  refine ⟨by simp; omega, ?_⟩
  k_offL
  refine vs_seq ?_
  refine vs_drop ?_
  refine ve_bm ?_
  k_places
  refine ⟨⟨rfl, _, get_last⟩, ?_⟩
  k_places
  refine ve_lcL tg_name w.caps (fun e => .p (entP e)) (fun _ => true) (fun e => k3P e.k) ?_
  refine vi_seqL ?_
  k_places
  refine v2_ixL (at_nat 3 (by omega) rfl) ?_
  refine ⟨_, rfl, by rw [List.map_map]; rfl, by omega, fun _ => trivial, fun e he acc => ?_, ?_⟩
  · refine vg_name ⟨rfl, vt_yes ⟨rfl, rfl, fun _ => ?_⟩⟩
    k_places
    refine v2_ixT (at_nat 0 (by omega) rfl) ?_
    exact ⟨rfl, rfl⟩
  k_places
  rw [filter_tt]
  refine vm_extL (xs := [dN, dT [.int 0, .int 1, .int 7], dT [.int 5, .int 3, .int 0]]) (zs := w.caps.map fun (e : Wd.Ent) => k3P e.k) get_last rfl (by rw [List.length_map]; simp; omega) ?_
  rw [List.set_append_right _ _ (Nat.le_refl _), Nat.sub_self]
  have e0 : [dN, dT [.int 0, .int 1, .int 7], dT [.int 5, .int 3, .int 0]] ++ (w.caps.map fun (e : Wd.Ent) => k3P e.k).map Kb.D.p = (([none, some (0, 1, 7), some (5, 3, 0)] ++ w.caps.map fun (e : Wd.Ent) => some e.k).map capP).map Kb.D.p := by
    simp only [List.map_append, List.map_map]; rfl
  rw [e0]
  generalize hc0 : ([none, some (0, 1, 7), some (5, 3, 0)] ++ w.caps.map fun (e : Wd.Ent) => some e.k : List (Option K3)) = c0
  have n0 : ∀ c ∈ c0, CapN c := fun c hc => by
    rw [← hc0] at hc
    rcases List.mem_append.mp hc with z | z
    · simp only [List.mem_cons, List.mem_nil_iff, or_false] at z
      rcases z with rfl | rfl | rfl
      · exact fun k e => by cases e
      · exact fun k e => by cases e; decide
      · exact fun k e => by cases e; decide
    · obtain ⟨e, he, rfl⟩ := List.mem_map.mp z
      exact CapN.of (ok.ek e he).1
  have l0 : c0.length ≤ 1003 := by rw [← hc0]; simp; omega
  show VS _ _ _ _ _ (h ++ [some (.lst ((c0.map capP).map Kb.D.p))])
  k_offL
  refine vs_cut (fun env' h' => ∃ (cs : List (Option K3)) (o3 o6 : Option Kb.D), (∀ c ∈ cs, CapN c) ∧ cs.length ≤ 50000 ∧ env' = [some (dL (ms.map P.int)), some (.p (worldP w)), some (.own h.length), o3, none, none, o6] ∧ h' = h ++ [some (.lst ((cs.map capP).map Kb.D.p))]) ?_ ?_
  · refine vs_for (vi_seqL ?_)
    k_places
    refine v2_ixL (at_nat 1 (by omega) rfl) ?_
    refine ⟨_, rfl, fun i env' h' => ∃ (cs : List (Option K3)) (o3 o6 : Option Kb.D), (∀ c ∈ cs, CapN c) ∧ cs.length ≤ 1003 + 1000 * i ∧ env' = [some (dL (ms.map P.int)), some (.p (worldP w)), some (.own h.length), o3, none, none, o6] ∧ h' = h ++ [some (.lst ((cs.map capP).map Kb.D.p))], ⟨c0, none, none, n0, by omega, rfl, rfl⟩, fun _ _ _ _ => trivial, ?_, ?_⟩
    · rintro i d env' h' hd ⟨cs, o3, o6, cn, cl, rfl, rfl⟩
      rw [List.getElem?_map, List.getElem?_map] at hd
      cases er : w.rows[i]? with
      | none => rw [er] at hd; cases hd
      | some r =>
        rw [er] at hd
        cases hd
        have hr := List.mem_of_getElem? er
        have il := (List.getElem?_eq_some_iff.mp er).1
        have pl := ok.pl r hr
        refine vg_name ?_
        refine vs_drop ?_
        refine ve_bm ?_
        k_places
        refine ⟨⟨rfl, _, get_last⟩, ?_⟩
        k_places
        refine ve_lcL tg_name (List.range r.pub.length) (fun i => dI (0 + (i : Int))) (fun _ => true) (fun i => k3P (r.a, r.n, 0 + (i : Int))) ?_
        refine vi_range1 ?_
        k_places
        refine v2_ixL row_pub ?_
        k_places
        rw [List.length_map]
        refine ⟨_, rfl, by omega, by omega, by rfl, by simp; omega, fun _ => trivial, fun x hx acc => ?_, ?_⟩
        · refine vg_name ⟨rfl, vt_yes ⟨rfl, rfl, fun _ => ?_⟩⟩
          k_places
          refine v2_ixL (at_nat 0 (by omega) rfl) ?_
          k_places
          refine v2_ixL (at_nat 1 (by omega) rfl) ?_
          k_places
          exact ⟨rfl, rfl⟩
        k_places
        rw [filter_tt]
        refine vm_extL (zs := (List.range r.pub.length).map fun (i : Nat) => k3P (r.a, r.n, 0 + (i : Int))) get_last rfl (by rw [List.length_map, List.length_map, List.length_map, List.length_range]; omega) ?_
        rw [List.set_append_right _ _ (Nat.le_refl _), Nat.sub_self]
        have e1 : (cs.map capP).map Kb.D.p ++ ((List.range r.pub.length).map fun (i : Nat) => k3P (r.a, r.n, 0 + (i : Int))).map Kb.D.p = ((cs ++ (List.range r.pub.length).map fun (i : Nat) => some (r.a, r.n, 0 + (i : Int))).map capP).map Kb.D.p := by
          rw [List.map_append, List.map_append, List.map_map, List.map_map, List.map_map, List.map_map]; rfl
        rw [e1]
        refine ⟨_, _, _, fun c hc => ?_, ?_, rfl, rfl⟩
        · rcases List.mem_append.mp hc with z | z
          · exact cn c z
          · obtain ⟨j, _, rfl⟩ := List.mem_map.mp z
            exact fun k e => by cases e; show 0 ≤ 0 + (j : Int); omega
        · rw [List.length_append, List.length_map, List.length_range]; omega
    · rintro env' h' ⟨cs, o3, o6, cn, cl, rfl, rfl⟩
      rw [List.length_map, List.length_map] at cl
      exact ⟨cs, _, _, cn, by omega, rfl, rfl⟩
  rintro env' h' ⟨cs, o3, o6, cn, cl, rfl, rfl⟩
  refine vs_seq ?_
  k_places
  refine vc_lenO get_last ?_
  k_places
  rw [List.length_map, List.length_map]
  refine ite_dec (fun e1 => ?_) (fun e1 => ?_)
  · k_places
    have lo := lawAt_lo hg 9 (by omega)
    generalize lawAt ms 9 = v at lo
    refine vc_lenO get_last ?_
    k_places
    rw [List.length_map, List.length_map]
    k_places
    refine ve_slLF ?_
    k_places
    refine vo_none (vo_some ?_)
    k_places
    refine ⟨3, rfl, _, get_last, ?_⟩
    refine ve_slLF ?_
    k_places
    refine vo_some ?_
    k_places
    refine ⟨_, rfl, vo_some ?_⟩
    k_places
    refine ⟨_, rfl, _, get_last, ?_⟩
    have cm : ∀ (ps : List (Option K3)) (lo hi : Option Int), cutP (ps.map capP) lo hi = (cutP ps lo hi).map capP := fun ps lo hi => by
      unfold cutP
      rw [List.length_map, List.map_take, List.map_drop]
    have csub : ∀ (ps : List (Option K3)) (lo hi : Option Int), ∀ x ∈ cutP ps lo hi, x ∈ ps := fun ps lo hi x hx => List.mem_of_mem_drop (List.mem_of_mem_take hx)
    rw [cm, cm]
    refine v2_addWL (by rw [List.length_map, List.length_map]; have h1 := cut_len cs none (some 3); have h2 := cut_len cs (some (3 + v % ((cs.length : Int) - 11))) (some (3 + v % ((cs.length : Int) - 11) + 9)); omega) ?_
    rw [← List.map_append]
    k_places
    refine fin_p _ (q _ (fun c hc => ?_) ?_)
    · rcases List.mem_append.mp hc with z | z
      · exact cn c (csub _ _ _ c z)
      · exact cn c (csub _ _ _ c z)
    · rw [List.length_append]
      have h1 := cut_len cs none (some 3)
      have h2 := cut_len cs (some (3 + v % ((cs.length : Int) - 11))) (some (3 + v % ((cs.length : Int) - 11) + 9))
      omega
  · k_places
    exact fin_own rfl (q cs cn (by omega))
abbrev st_law : Stmt := (topS 36)
theorem sc_law : FnScope ["script", "draws", "members", "rows", "world", "store", "data", "spots", "paths", "k", "expected", "j", "actual", "spot"] ["script"] (defScope st_law) := ⟨rfl, rfl, rfl, by decide +kernel, rfl, by decide +kernel, by decide +kernel⟩
def W_law : Spc := fun ds h R => ∃ ns : List Int, ds = [dL (ns.map P.int)] ∧ ns.length ≤ 63 ∧ (∀ n ∈ ns, n.natAbs.log2 < 2000000) ∧ R (dB true) h
theorem info_same {w : Wd.Wld} (ok : Wd.WOk w) {c : Option K3} {ks : List K3} (h : Wd.pathW w c = some ks) : ∃ xs, infoL w c = .lst xs ∧ Sm 5 (infoP w c) (.tup xs) := by
  cases c with
  | none =>
    refine ⟨[.non, .int 0, rtsP fullR], rfl, .tup rfl (by show 3 ≤ _; omega) fun i x y a b => ?_⟩
    match i, a, b with
    | 0, a, b => cases a; cases b; exact .non
    | 1, a, b => cases a; cases b; exact .int 0
    | 2, a, b => cases a; cases b; exact Sm.full 2
  | some k =>
    unfold infoL infoP infoW
    dsimp only
    rw [h]
    dsimp only
    obtain ⟨m, p, r, _, e1, _, _⟩ := Wd.path_inv h
    cases et : Wd.told w k with
    | none => unfold Wd.par at e1; rw [et] at e1; cases e1
    | some t =>
      obtain ⟨p, hh, rr⟩ := t
      have l4 := told_len ok et
      refine ⟨[capP p, .int hh, rtsP rr], rfl, Sm.refl ?_⟩
      simp only [toldP, okP, List.all_cons, List.all_nil, okP_cap, okP_rts l4]
      rfl
theorem ok_law {f : Addr} {fd : FuncData} (F : Fun K "law" "law" st_law f fd) (T : StoC K mg C) (m_len : mg "len" = none) (m_range : mg "range" = none) (m_tuple : mg "tuple" = none) (m_bool : mg "bool" = none) (m_isinstance : mg "isinstance" = none)
    (h__law_draws : HasF Pg w K mg base CX0 2 "_law_draws" ["script"] (spD K Θ W_draws)) (h__law_at : HasF Pg w K mg base CX0 2 "_law_at" ["draws", "index"] (spD K Θ W_at)) (h__law_rows : HasF Pg w K mg base CX0 4 "_law_rows" ["draws", "start", "members", "count", "is_rich"] (spD K Θ W_rows))
    (h__law_cut_world : HasF Pg w K mg base CX0 3 "_law_cut_world" ["draws", "index", "members", "rows"] (spD K Θ W_cutw)) (h__law_store : HasF Pg w K mg base CX0 14 "_law_store" ["world"] (spD K Θ (W_lstore C CK CC)))
    (h_Store_data : HasM Pg w K mg base CX0 11 C "data" ["self"] (spD K Θ (W_sdata C CK CC))) (h__law_asked : HasF Pg w K mg base CX0 3 "_law_asked" ["draws", "world"] (spD K Θ W_asked)) (h__law_path : HasF Pg w K mg base CX0 3 "_law_path" ["world", "capability"] (spD K Θ W_lpath))
    (h__law_info : HasF Pg w K mg base CX0 2 "_law_info" ["world", "capability"] (spD K Θ W_linfo)) (h_capability_info : HasF Pg w K mg base CX0 6 "capability_info" ["store", "capability"] (spD K Θ (W_capinfo C CC))) (h_is_above : HasF Pg w K mg base CX0 6 "is_above" ["store", "first", "second"] (spD K Θ (W_above C CC)))
    (h__law_same : HasF Pg w K mg base CX0 8 "_law_same" ["actual", "expected"] (spD K Θ (W_same 6))) : FnOk Pg w K mg base CX0 16 f fd ["script"] (spD K Θ W_law) := by
  have sc := sc_law
  refine fnD F sc W_law (fun ds h R ⟨_, e, _⟩ => by rw [e]; rfl) fun cdv A outer s H E hr => ?_
  refine ⟨_, (pss_cons (ps_set (i := 1) sc.nd rfl (.inl rfl) (h__law_draws.call (hr.mono (by first | decide | omega)) rfl pass0 (pa_cons (pv 0) pa_nil)))
  (pss_cons (ps_set (i := 2) sc.nd rfl (.inl rfl) (pe_op (op_addWK (K := K) (by rfl)) pe_int (pe_op op_mod (pe_op op_mod (h__law_at.call (hr.mono (by first | decide | omega)) rfl pass0 (pa_cons (pv 1) (pa_cons pe_int pa_nil))) pe_int) pe_int)))
  (pss_cons (ps_set (i := 3) sc.nd rfl (.inl rfl) (h__law_rows.call (hr.mono (by first | decide | omega)) rfl pass0 (pa_cons (pv 1) (pa_cons pe_int (pa_cons (pv 2) (pa_cons (pe_op op_mod (h__law_at.call (hr.mono (by first | decide | omega)) rfl pass0 (pa_cons (pv 1) (pa_cons pe_int pa_nil))) pe_int) (pa_cons (pe_cmpR (op_eqUK (K := K) (by rfl) hr.units) (pe_op op_mod (h__law_at.call (hr.mono (by first | decide | omega)) rfl pass0 (pa_cons (pv 1) (pa_cons pe_int pa_nil))) pe_int) pe_int (nomark _)) pa_nil)))))))
  (pss_cons (ps_set (i := 4) sc.nd rfl (.inr rfl) (h__law_cut_world.call (hr.mono (by first | decide | omega)) rfl pass0 (pa_cons (pv 1) (pa_cons pe_int (pa_cons (pv 2) (pa_cons (pv 3) pa_nil))))))
  (pss_cons (ps_set (i := 5) sc.nd rfl (.inl rfl) (h__law_store.call (hr.mono (by first | decide | omega)) rfl pass0 (pa_cons (pv 4) pa_nil)))
  (pss_cons (ps_set (i := 6) sc.nd rfl (.inl rfl) (h_Store_data.meth0 (hr.mono (by first | decide | omega)) pass0 (pv 5)))
  (pss_cons (ps_set (i := 7) sc.nd rfl (.inl rfl) (h__law_asked.call (hr.mono (by first | decide | omega)) rfl pass0 (pa_cons (pv 1) (pa_cons (pv 4) pa_nil))))
  (pss_cons (ps_setLc (i := 8) (own := [("spot", 13)]) rfl sc.nd rfl rfl (sw_true rfl rfl rfl (by decide +kernel)) (pi_seqK (K := K) (by rfl) (pv 7)) (blkOk_by (N := ["script", "draws", "members", "rows", "world", "store", "data", "spots", "paths", "k", "expected", "j", "actual", "spot"]) (sc := defScope (topS 36)) (by decide +kernel)) (fun _ _ _ _ _ => (pg_name (i := 13) sc.nd rfl (.inl rfl))) (fun _ _ _ _ _ => pts_nil) (fun _ _ _ _ _ => (h__law_path.call (hr.mono (by first | decide | omega)) rfl pass0 (pa_cons (pv 4) (pa_cons (pv 13) pa_nil)))))
  (pss_cons (ps_for PassesOwn.never rfl (pi_range1 rfl m_range (pa_cons (pe_callB (call_lenK (K := K) (by rfl)) (by rfl) m_len (by decide +kernel) (pa_cons (pv 7) pa_nil)) pa_nil)) (pg_name (i := 9) sc.nd rfl (.inl rfl))
  (pss_cons (ps_set (i := 10) sc.nd rfl (.inl rfl) pe_non)
  (pss_cons (ps_if (pt_cmpR op_gt (pe_callB (call_lenK (K := K) (by rfl)) (by rfl) m_len (by decide +kernel) (pa_cons (pe_ix (ix_seqK (K := K) (by rfl)) (pv 8) (pv 9) (fun _ _ => rfl)) pa_nil)) pe_int (nomark _)) (pss_one (ps_set (i := 10) sc.nd rfl (.inl rfl) (pe_callTy (call_tuple_ofK (K := K) (by rfl)) (by rfl) m_tuple (by decide +kernel) (pa_cons (h__law_info.call (hr.mono (by first | decide | omega)) rfl pass0 (pa_cons (pv 4) (pa_cons (pe_ix (ix_seqK (K := K) (by rfl)) (pv 7) (pv 9) (fun _ _ => rfl)) pa_nil))) pa_nil)))) pss_nil)
  (pss_cons (ps_if (pt_not (pt_val (h__law_same.call (hr.mono (by first | decide | omega)) rfl pass0 (pa_cons (h_capability_info.call (hr.mono (by first | decide | omega)) rfl pass0 (pa_cons (pv 5) (pa_cons (pe_ix (ix_seqK (K := K) (by rfl)) (pv 7) (pv 9) (fun _ _ => rfl)) pa_nil))) (pa_cons (pv 10) pa_nil))))) (pss_one (ps_ret pe_bl)) pss_nil)
  (pss_one (ps_for PassesOwn.never rfl (pi_range1 rfl m_range (pa_cons (pe_callB (call_lenK (K := K) (by rfl)) (by rfl) m_len (by decide +kernel) (pa_cons (pv 7) pa_nil)) pa_nil)) (pg_name (i := 11) sc.nd rfl (.inl rfl))
  (pss_cons (ps_set (i := 12) sc.nd rfl (.inl rfl) (h_is_above.call (hr.mono (by first | decide | omega)) rfl pass0 (pa_cons (pv 5) (pa_cons (pe_ix (ix_seqK (K := K) (by rfl)) (pv 7) (pv 11) (fun _ _ => rfl)) (pa_cons (pe_ix (ix_seqK (K := K) (by rfl)) (pv 7) (pv 9) (fun _ _ => rfl)) pa_nil)))))
  (pss_one (ps_if (PW.pt (pw_or (pt_not (pt_val (pe_callB (call_isiUK (K := K) (by rfl)) (by rfl) m_isinstance (by decide +kernel) (pa_cons (pv 12) (pa_cons (pe_bltn (v := .ty "bool") rfl m_bool (by decide +kernel) rfl) pa_nil))))) (pw_or1 (pt_cmpR (op_neUK (K := K) (by rfl) hr.units) (pv 12) (pe_cmpR (op_inDK (K := K) (by rfl) hr.u65) (pe_ix (ix_seqK (K := K) (by rfl)) (pv 7) (pv 11) (fun _ _ => rfl)) (pe_ix (ix_seqK (K := K) (by rfl)) (pv 8) (pv 9) (fun _ _ => rfl)) (by rfl)) (nomark _))))) (pss_one (ps_ret pe_bl)) pss_nil)))))))))
  (pss_one (ps_ret (pe_cmpR (op_eqUK (K := K) (by rfl) hr.units) (h_Store_data.meth0 (hr.mono (by first | decide | omega)) pass0 (pv 5)) (pv 6) (nomark _))))))))))))), ?_⟩
  try dsimp only [cxOf]
  rintro ds h R ⟨ns, rfl, hl, hb, q⟩
  have sz := sizeLine_eq
  refine vs_fin ?_
  refine vs_seq ?_
  k_offL
  refine ⟨ns, rfl, hl, hb, fun ms hg hm => ?_⟩
  have lo0 := lawAt_lo hg 0 (by omega)
  have lo1 := lawAt_lo hg 1 (by omega)
  have lo2 := lawAt_lo hg 2 (by omega)
  k_offL
  refine vs_seq ?_
  k_offL
  generalize lawAt ms 0 = v0 at *
  generalize hmm : 1 + v0 % 8 % 6 = m
  have m1 : 1 ≤ m := by omega
  have m6 : m ≤ 6 := by omega
  refine vs_seq ?_
  k_offL
  generalize lawAt ms 1 = v1 at *
  generalize lawAt ms 2 = v2 at *
  refine ⟨m, ms, 20, v1 % 13, decide (v2 % 2 = 0), rfl, hg, hm, by omega, by omega, m1, m6, by omega, by omega, fun rows rok rl ps => ?_⟩
  have rl2 : rows.length ≤ 12 := by omega
  have ps2 : Wd.pubSum rows ≤ 39 := by omega
  k_offL
  refine vs_seq ?_
  k_offL
  refine ⟨m, ms, 300, rows, rfl, hg, hm, by omega, by omega, m1, m6, rok, by omega, ps2, fun w cw => ?_⟩
  have wok := cw.ok
  have pok := cw.path
  have wrl : w.rows.length ≤ 40 := by rw [cw.wr]; exact Nat.le_trans (List.length_filter_le ..) (by omega)
  k_offL
  refine vs_seq ?_
  k_offL
  refine ⟨w, rfl, wok, fun h' n I S pf hn hI => ?_⟩
  have S2 : SWx C CC h' n w := ⟨_, _, _, S⟩
  k_offL
  refine vs_seq ?_
  refine vs_asg ?_
  refine ve_meth ?_
  k_places
  refine ⟨S.at_.ins fun _ _ _ _ _ => by kernel_rfl, ?_⟩
  k_places
  refine data_use S (fun _ _ => ptOk_parts) ?_
  generalize hD : worldD (fun _ => partsP) w = D0
  have fl : Flat 10 D0 := by rw [← hD]; exact worldD_flat fun _ _ => ptOk_parts
  k_offL
  refine vs_seq ?_
  k_offL
  refine ⟨ms, w, rfl, hg, hm, wok, wrl, fun cs cn cl => ?_⟩
  k_offL
  refine vs_seq ?_
  refine vs_asg ?_
  refine ve_lcL tg_name cs (fun c => .p (capP c)) (fun _ => true) (fun c => .lst ((pathR w c).map capP)) ?_
  refine vi_seqL ?_
  k_places
  refine ⟨_, rfl, by rw [List.map_map]; rfl, by omega, fun _ => trivial, fun c hc acc => ?_, ?_⟩
  · refine vg_name ⟨rfl, vt_yes ⟨rfl, rfl, fun _ => ?_⟩⟩
    k_places
    exact ⟨w, c, rfl, cn c hc, wok, rfl, rfl⟩
  rw [filter_tt]
  k_offL
  refine vs_cut (fun env' h2 => (∃ (o9 o10 o11 o12 o13 : Option Kb.D), env' = [some (dL (ns.map P.int)), some (dL (ms.map P.int)), some (dI m), some (dL (rows.map rowP)), some (.p (worldP w)), some (.own n), some (.p D0), some (dL (cs.map capP)), some (dL (cs.map fun c => .lst ((pathR w c).map capP))), o9, o10, o11, o12, o13]) ∧ h' = h2) ?_ ?_
  · refine vs_for (vi_range1 ?_)
    k_places
    rw [List.length_map]
    refine ⟨_, rfl, by omega, by omega, ?_⟩
    refine ⟨fun i env' h2 => (∃ (o9 o10 o11 o12 o13 : Option Kb.D), env' = [some (dL (ns.map P.int)), some (dL (ms.map P.int)), some (dI m), some (dL (rows.map rowP)), some (.p (worldP w)), some (.own n), some (.p D0), some (dL (cs.map capP)), some (dL (cs.map fun c => .lst ((pathR w c).map capP))), o9, o10, o11, o12, o13]) ∧ h' = h2, ⟨⟨_, _, _, _, _, rfl⟩, rfl⟩, fun _ _ _ _ => trivial, ?_, ?_⟩
    · rintro i d env' h2 hd ⟨⟨o9, o10, o11, o12, o13, rfl⟩, rfl⟩
      obtain ⟨hi, rfl⟩ := rng_get hd
      have hic : i < cs.length := by omega
      have ec := List.getElem?_eq_getElem hic
      have cnc := cn _ (List.getElem_mem hic)
      generalize cs[i] = c at ec cnc
      have es : (cs.map capP)[i]? = some (capP c) := by rw [List.getElem?_map, ec]; rfl
      have ep : (cs.map fun c => P.lst ((pathR w c).map capP))[i]? = some (.lst ((pathR w c).map capP)) := by rw [List.getElem?_map, ec]; rfl
      refine vg_name ?_
      refine vs_seq ?_
      k_offL
      refine vs_cut (fun env' h2 => (∃ (E : P) (o11 o12 o13 : Option Kb.D), Sm 5 (infoP w c) E ∧ env' = [some (dL (ns.map P.int)), some (dL (ms.map P.int)), some (dI m), some (dL (rows.map rowP)), some (.p (worldP w)), some (.own n), some (.p D0), some (dL (cs.map capP)), some (dL (cs.map fun c => .lst ((pathR w c).map capP))), some (dI (0 + (i : Int))), some (.p E), o11, o12, o13]) ∧ h' = h2) ?_ ?_
      · k_places
        refine v2_ixL (at_nat i (by omega) ep) ?_
        k_places
        rw [List.length_map]
        cases e : Wd.pathW w c with
        | none =>
          have z : (pathR w c).length = 0 := by unfold pathR; rw [e]; rfl
          refine ite_ff (by rw [z]; decide) ?_
          k_places
          refine ⟨⟨.non, _, _, _, ?_, rfl⟩, rfl⟩
          cases c with
          | none => cases e
          | some k =>
            unfold infoP infoW
            dsimp only
            rw [e]
            exact .non
        | some ks =>
          have z : (pathR w c).length = ks.length + 1 := by unfold pathR; rw [e]; simp
          refine ite_tt (by rw [z]; exact decide_eq_true (by omega)) ?_
          obtain ⟨xs, x1, x2⟩ := info_same wok e
          k_places
          refine v2_ixL (at_nat i (by omega) es) ?_
          k_places
          refine ⟨w, c, rfl, cnc, ?_⟩
          rw [x1]
          k_places
          refine vc_tuple (ps := xs) rfl ?_
          k_places
          exact ⟨⟨_, _, _, _, x2, rfl⟩, rfl⟩
      rintro env' h3 ⟨⟨E, o11, o12, o13, sm, rfl⟩, rfl⟩
      refine vs_seq ?_
      k_places
      refine v2_ixL (at_nat i (by omega) es) ?_
      k_places
      refine ⟨n, w, c, rfl, S2, pok, ?_⟩
      k_places
      refine ⟨_, _, rfl, sm, ?_⟩
      k_places
      refine vs_for (vi_range1 ?_)
      k_places
      rw [List.length_map]
      refine ⟨_, rfl, by omega, by omega, ?_⟩
      refine ⟨fun j env' h2 => (∃ (o11 o12 o13 : Option Kb.D), env' = [some (dL (ns.map P.int)), some (dL (ms.map P.int)), some (dI m), some (dL (rows.map rowP)), some (.p (worldP w)), some (.own n), some (.p D0), some (dL (cs.map capP)), some (dL (cs.map fun c => .lst ((pathR w c).map capP))), some (dI (0 + (i : Int))), some (.p E), o11, o12, o13]) ∧ h' = h2, ⟨⟨_, _, _, rfl⟩, rfl⟩, fun _ _ _ _ => trivial, ?_, ?_⟩
      · rintro j d env' h2 hd ⟨⟨o11, o12, o13, rfl⟩, rfl⟩
        obtain ⟨hj, rfl⟩ := rng_get hd
        have hjc : j < cs.length := by omega
        have ec2 := List.getElem?_eq_getElem hjc
        generalize cs[j] = b at ec2
        have es2 : (cs.map capP)[j]? = some (capP b) := by rw [List.getElem?_map, ec2]; rfl
        refine vg_name ?_
        refine vs_seq ?_
        k_offL
        refine v2_ixL (at_nat j (by omega) es2) ?_
        k_places
        refine v2_ixL (at_nat i (by omega) es) ?_
        k_places
        refine ⟨n, w, b, c, rfl, S2, pok, ?_⟩
        k_places
        refine v2_ixL (at_nat j (by omega) es2) ?_
        k_places
        refine v2_ixL (at_nat i (by omega) ep) ?_
        k_places
        refine v2_inCap (cs := pathR w c) rfl ?_
        k_places
        exact ⟨⟨_, _, _, rfl⟩, rfl⟩
      · rintro env' h2 ⟨⟨o11, o12, o13, rfl⟩, rfl⟩
        exact ⟨⟨_, _, _, _, _, rfl⟩, rfl⟩
    · rintro env' h2 ⟨⟨o9, o10, o11, o12, o13, rfl⟩, rfl⟩
      exact ⟨⟨_, _, _, _, _, rfl⟩, rfl⟩
  rintro env' h2 ⟨⟨o9, o10, o11, o12, o13, rfl⟩, rfl⟩
  refine vs_ret ?_
  refine ve_op ?_
  refine ve_meth ?_
  k_places
  refine ⟨S.at_.ins fun _ _ _ _ _ => by kernel_rfl, ?_⟩
  k_places
  refine data_use S (fun _ _ => ptOk_parts) ?_
  rw [hD]
  k_places
  refine v2_eqF fl (by omega) ?_
  obtain ⟨g, rfl⟩ := pf
  exact fin_p g q
end
end Law

namespace Law
open PySem PySem.Spec PyProof.Rows L2 Kb
theorem law_all {l : PySem.W.OpenLaw} {w : World} {K : PySem.W.Frag} {h : Heap} {mg : Str → Option Value} {fa fl C CC CK : Addr} (X : K.In h) (G : h.Ns mainGlobals mg) (hfa : mg "law" = some (.ref fa))
    {od an : Option Addr} {sl : Array (Option Value)} {oc kV dc pm cd ct : Value}
    (aC : PySem.W.nsIn K mainGlobals "Store" = some (some (.ref C)))
    (pgC : PySem.W.plainGet K C Str.empty = true)
    (hdC : PySem.W.hasDictIn K C = true)
    (poC : PySem.W.plainOver K C = true)
    (saC : PySem.W.findIn K (.ref C) "__setattr__" = some (some (.builtin "object.__setattr__")))
    (nC1 : PySem.W.findIn K (.ref C) "members" = some none)
    (nC2 : PySem.W.findIn K (.ref C) "cut" = some none)
    (nC3 : PySem.W.findIn K (.ref C) "capabilities" = some none)
    (nC4 : PySem.W.findIn K (.ref C) "kept" = some none)
    (nC5 : PySem.W.findIn K (.ref C) "changes" = some none)
    (aCC : PySem.W.nsIn K mainGlobals "Change" = some (some (.ref CC)))
    (pgCC : PySem.W.plainGet K CC Str.empty = true)
    (hdCC : PySem.W.hasDictIn K CC = true)
    (poCC : PySem.W.plainOver K CC = true)
    (saCC : PySem.W.findIn K (.ref CC) "__setattr__" = some (some (.builtin "object.__setattr__")))
    (nCC1 : PySem.W.findIn K (.ref CC) "author" = some none)
    (nCC2 : PySem.W.findIn K (.ref CC) "number" = some none)
    (nCC3 : PySem.W.findIn K (.ref CC) "heard" = some none)
    (nCC4 : PySem.W.findIn K (.ref CC) "capability" = some none)
    (nCC5 : PySem.W.findIn K (.ref CC) "publics" = some none)
    (nCC6 : PySem.W.findIn K (.ref CC) "parts" = some none)
    (aCK : PySem.W.nsIn K mainGlobals "Kept" = some (some (.ref CK)))
    (pgCK : PySem.W.plainGet K CK Str.empty = true)
    (hdCK : PySem.W.hasDictIn K CK = true)
    (poCK : PySem.W.plainOver K CK = true)
    (saCK : PySem.W.findIn K (.ref CK) "__setattr__" = some (some (.builtin "object.__setattr__")))
    (nCK1 : PySem.W.findIn K (.ref CK) "acts" = some none)
    (nCK2 : PySem.W.findIn K (.ref CK) "sums" = some none)
    (nCK3 : PySem.W.findIn K (.ref CK) "texts" = some none)
    (z_len : PySem.W.nsIn K mainGlobals "len" = some none)
    (z_range : PySem.W.nsIn K mainGlobals "range" = some none)
    (z_tuple : PySem.W.nsIn K mainGlobals "tuple" = some none)
    (z_bool : PySem.W.nsIn K mainGlobals "bool" = some none)
    (z_isinstance : PySem.W.nsIn K mainGlobals "isinstance" = some none)
    (d__law_draws : DefAt K mg "_law_draws" st_draws ["script"])
    (z_int : PySem.W.nsIn K mainGlobals "int" = some none)
    (z_min : PySem.W.nsIn K mainGlobals "min" = some none)
    (d__law_mix : DefAt K mg "_law_mix" st_mix ["cell", "k"])
    (d__law_at : DefAt K mg "_law_at" st_at ["draws", "index"])
    (d__law_rows : DefAt K mg "_law_rows" st_rows ["draws", "start", "members", "count", "is_rich"])
    (z_max : PySem.W.nsIn K mainGlobals "max" = some none)
    (z_list : PySem.W.nsIn K mainGlobals "list" = some none)
    (d__law_full : DefAt K mg "_law_full" st_full [])
    (d__law_choice : DefAt K mg "_law_choice" st_choice ["draws", "index", "rows", "row"])
    (d__law_grants : DefAt K mg "_law_grants" st_grants ["rows"])
    (d__law_publics : DefAt K mg "_law_publics" st_publics ["draws", "index", "rows", "members", "row"])
    (d__law_rights : DefAt K mg "_law_rights" st_rights ["value"])
    (d__law_cut_world : DefAt K mg "_law_cut_world" st_cutw ["draws", "index", "members", "rows"])
    (z_sorted : PySem.W.nsIn K mainGlobals "sorted" = some none)
    (d__law_world : DefAt K mg "_law_world" st_world ["members", "rows"])
    (d__law_nothing : DefAt K mg "_law_nothing" st_nothing [])
    (d__law_store : DefAt K mg "_law_store" st_lstore ["world"])
    (d_Store___init__ : InitAt K C "Store.__init__" st_sinit ["self", "members"])
    {tk_SPACES : Tok}
    (q_SPACES : PySem.W.nsIn K mainGlobals "SPACES" = some (some (.int 4 tk_SPACES)))
    (d_Kept___init__ : InitAt K CK "Kept.__init__" st_kinit ["self", "acts", "sums", "texts"])
    (d_frozen : DefAt K mg "frozen" st_frz ["value"])
    (d_Change___init__ : InitAt K CC "Change.__init__" st_cinit ["self", "author", "number", "heard", "capability", "publics", "parts"])
    (d_Store_add : MethAt K C "add" "Store.add" st_sadd ["self", "change"])
    (d__law_kept : DefAt K mg "_law_kept" st_lkept ["kept"])
    (d_Store_data : MethAt K C "data" "Store.data" st_sdata ["self"])
    (d_Kept_data : MethAt K CK "data" "Kept.data" st_kdata ["self"])
    (d_Change_header : MethAt K CC "header" "Change.header" st_chead ["self"])
    (d__law_asked : DefAt K mg "_law_asked" st_asked ["draws", "world"])
    (d__law_path : DefAt K mg "_law_path" st_lpath ["world", "capability"])
    (d__law_info : DefAt K mg "_law_info" st_linfo ["world", "capability"])
    (d__law_find : DefAt K mg "_law_find" st_lfind ["world", "name"])
    (d_capability_info : DefAt K mg "capability_info" st_capinfo ["store", "capability"])
    {r_ALL_RIGHTS : Addr}
    (q_ALL_RIGHTS : PySem.W.nsIn K mainGlobals "ALL_RIGHTS" = some (some (.ref r_ALL_RIGHTS)))
    (kd_ALL_RIGHTS : kDat K 4 (.ref r_ALL_RIGHTS) = some fullK)
    (d__told_of : DefAt K mg "_told_of" st_told ["store", "capability"])
    (d_Store_find : MethAt K C "find" "Store.find" st_sfind ["self", "name"])
    (d_Store_has : MethAt K C "has" "Store.has" st_shas ["self", "name"])
    (d_Store_count : MethAt K C "count" "Store.count" st_scount ["self", "member"])
    (d_path_of : DefAt K mg "path_of" st_pathof ["store", "capability"])
    {c_d_is_kept P_d_is_kept : Addr}
    (d_is_kept : DefT K mg "is_kept" st_iskept ["store", "capability"] c_d_is_kept)
    (tab_d_is_kept : TabIs K h "is_kept" c_d_is_kept P_d_is_kept)
    (z_any : PySem.W.nsIn K mainGlobals "any" = some none)
    (d_is_above : DefAt K mg "is_above" st_above ["store", "first", "second"])
    (d__law_same : DefAt K mg "_law_same" st_same ["actual", "expected"])
    (z_str : PySem.W.nsIn K mainGlobals "str" = some none)
    (d__law_is_integer : DefAt K mg "_law_is_integer" st_isint ["actual"])
    (al : PySem.W.nsIn K mainGlobals "law" = some (some (.ref fl)))
    (ll : K.lookup fl = some ⟨oc, od, .func (PySem.W.fnOf "law" "law" (defArgs st_law) (defBody st_law) (defScope st_law) .none kV dc pm an cd ct), sl⟩)
    (cl : PySem.W.codeIn K cd "law" = true)
    (kl : PySem.W.keepIn K (.ref fl) = true) :
    ∃ (fd : FuncData) (cs : List (Addr × Addr)), (∀ p ∈ cs, h.get? p.2 = some { cls := .none, data := .fields #[] }) ∧ (∀ p ∈ cs, K.lookup p.2 = none) ∧ (∀ p ∈ cs, PySem.W.CodeHd h p.1 p.2) ∧ (∀ (s : Shared) (v : Value), BindsTo s fd ⟨[v], []⟩ [("script", v)]) ∧
      ∀ base : Heap, K.In base → base.Ns mainGlobals mg → (∀ p ∈ cs, LamX.TabB base mg p.1 p.2) → FnOk l.prog w K mg base CX0 16 fa fd ["script"] (spD K (cs.map (·.2)) W_law) := by
  have e := hfa.symm.trans (PySem.W.mg_of X G al)
  cases e
  have F := fun_mk (st := st_law) ll cl kl
  have m : ∀ {x : Str}, PySem.W.nsIn K mainGlobals x = some none → mg x = none := fun z => PySem.W.mg_none_of X G z
  have TC : StoC K mg C := ⟨⟨pgC, hdC, poC, saC⟩, nC1, nC2, nC3, nC4, nC5, PySem.W.mg_of X G aC⟩
  have TCC : ChgC K mg CC := ⟨⟨pgCC, hdCC, poCC, saCC⟩, nCC1, nCC2, nCC3, nCC4, nCC5, nCC6, PySem.W.mg_of X G aCC⟩
  have TCK : KptC K mg CK := ⟨⟨pgCK, hdCK, poCK, saCK⟩, nCK1, nCK2, nCK3, PySem.W.mg_of X G aCK⟩
  have all : ∀ {Z : Addr × Addr → Prop}, Z (c_d_is_kept, P_d_is_kept) → ∀ p ∈ ([(c_d_is_kept, P_d_is_kept)] : List (Addr × Addr)), Z p := fun z p hp => by
    simp only [List.mem_cons, List.mem_nil_iff, or_false] at hp
    subst hp; exact z
  refine ⟨PySem.W.fnOf "law" "law" (defArgs st_law) (defBody st_law) (defScope st_law) .none kV dc pm an cd ct, [(c_d_is_kept, P_d_is_kept)], all tab_d_is_kept.empty, all tab_d_is_kept.none, all tab_d_is_kept.code, fun s v => .of_eq rfl, fun base _ _ tb => ?_⟩
  show FnOk l.prog w K mg base CX0 16 fa _ ["script"] (spD K [P_d_is_kept] W_law)
  have tb_d_is_kept := tb (c_d_is_kept, P_d_is_kept) (by simp)
  have TB_d_is_kept : GxR.TabB base mg c_d_is_kept P_d_is_kept := ⟨tb_d_is_kept.code, tb_d_is_kept.bm, tb_d_is_kept.gP⟩
  have hP_d_is_kept : P_d_is_kept ∈ [P_d_is_kept] := by simp
  have h_ok_mix := ok_mix (Pg := l.prog) (w := w) (base := base) (Θ := [P_d_is_kept])  d__law_mix (m z_int)
  have h_ok_draws := ok_draws (Pg := l.prog) (w := w) (base := base) (Θ := [P_d_is_kept])  d__law_draws (m z_int) (m z_len) (m z_min) (m z_range) h_ok_mix
  have h_ok_at := ok_at (Pg := l.prog) (w := w) (base := base) (Θ := [P_d_is_kept])  d__law_at (m z_int) (m z_len) h_ok_mix
  have h_ok_full := ok_full (Pg := l.prog) (w := w) (base := base) (Θ := [P_d_is_kept])  d__law_full (m z_tuple) (m z_range)
  have h_ok_grants := ok_grants (Pg := l.prog) (w := w) (base := base) (Θ := [P_d_is_kept])  d__law_grants (m z_range) (m z_len)
  have h_ok_choice := ok_choice (Pg := l.prog) (w := w) (base := base) (Θ := [P_d_is_kept])  d__law_choice (m z_len) h_ok_at h_ok_grants
  have h_ok_rights := ok_rights (Pg := l.prog) (w := w) (base := base) (Θ := [P_d_is_kept])  d__law_rights (m z_tuple) (m z_range) h_ok_full
  have h_ok_publics := ok_publics (Pg := l.prog) (w := w) (base := base) (Θ := [P_d_is_kept])  d__law_publics (m z_len) (m z_range) h_ok_at h_ok_grants h_ok_rights
  have h_ok_rows := ok_rows (Pg := l.prog) (w := w) (base := base) (Θ := [P_d_is_kept])  d__law_rows (m z_len) (m z_range) (m z_max) (m z_list) h_ok_at h_ok_full h_ok_choice h_ok_publics
  have h_ok_nothing := ok_nothing (Pg := l.prog) (w := w) (base := base) (Θ := [P_d_is_kept])  d__law_nothing (m z_range)
  have h_ok_world := ok_world (Pg := l.prog) (w := w) (base := base) (Θ := [P_d_is_kept])  d__law_world (m z_range) h_ok_nothing
  have h_ok_cutw := ok_cutw (Pg := l.prog) (w := w) (base := base) (Θ := [P_d_is_kept])  d__law_cut_world (m z_len) (m z_range) (m z_list) (m z_sorted) h_ok_at h_ok_world
  have h_ok_frz_8 := ok_frz (Pg := l.prog) (w := w) (base := base) (Θ := [P_d_is_kept])  d_frozen (m z_list) (m z_tuple) (m z_isinstance) 8
  have h_ok_kinit_CK := ok_kinit (Pg := l.prog) (w := w) (base := base) (Θ := [P_d_is_kept]) (C := CK) d_Kept___init__ TCK h_ok_frz_8
  have h_ok_sinit := ok_sinit (Pg := l.prog) (w := w) (base := base) (Θ := [P_d_is_kept]) (C := C) (CK := CK) d_Store___init__ TC TCK (m z_range) (PySem.W.mg_of X G q_SPACES) h_ok_kinit_CK
  have h_ok_cinit_CC := ok_cinit (Pg := l.prog) (w := w) (base := base) (Θ := [P_d_is_kept]) (C := CC) d_Change___init__ TCC h_ok_frz_8
  have h_ok_sadd := ok_sadd (Pg := l.prog) (w := w) (base := base) (Θ := [P_d_is_kept]) (C := C) (CC := CC) d_Store_add TC TCC
  have h_ok_lkept := ok_lkept (Pg := l.prog) (w := w) (base := base) (Θ := [P_d_is_kept]) (CK := CK) d__law_kept (m z_list) h_ok_kinit_CK
  have h_ok_lstore := ok_lstore (Pg := l.prog) (w := w) (base := base) (Θ := [P_d_is_kept]) (C := C) (CK := CK) (CC := CC) d__law_store TC TCC (m z_range) (m z_list) (m z_tuple) h_ok_sinit h_ok_cinit_CC h_ok_sadd h_ok_lkept
  have h_ok_frzO := ok_frzO (Pg := l.prog) (w := w) (base := base) (Θ := [P_d_is_kept])  d_frozen (m z_list) (m z_tuple) (m z_isinstance)
  have h_ok_kdata_CK := ok_kdata (Pg := l.prog) (w := w) (base := base) (Θ := [P_d_is_kept]) (C := CK) d_Kept_data TCK h_ok_frz_8
  have h_ok_chead_CC := ok_chead (Pg := l.prog) (w := w) (base := base) (Θ := [P_d_is_kept]) (C := CC) d_Change_header TCC
  have h_ok_sdata := ok_sdata (Pg := l.prog) (w := w) (base := base) (Θ := [P_d_is_kept]) (C := C) (CK := CK) (CC := CC) d_Store_data TC TCK TCC (m z_tuple) h_ok_frz_8 h_ok_frzO h_ok_kdata_CK h_ok_chead_CC
  have h_ok_asked := ok_asked (Pg := l.prog) (w := w) (base := base) (Θ := [P_d_is_kept])  d__law_asked (m z_len) (m z_range) h_ok_at
  have h_ok_lfind := ok_lfind (Pg := l.prog) (w := w) (base := base) (Θ := [P_d_is_kept])  d__law_find
  have h_ok_linfo := ok_linfo (Pg := l.prog) (w := w) (base := base) (Θ := [P_d_is_kept])  d__law_info (m z_len) h_ok_full h_ok_lfind
  have h_ok_lpath := ok_lpath (Pg := l.prog) (w := w) (base := base) (Θ := [P_d_is_kept])  d__law_path (m z_range) h_ok_linfo
  have h_ok_scount := ok_scount (Pg := l.prog) (w := w) (base := base) (Θ := [P_d_is_kept]) (C := C) d_Store_count TC (m z_len)
  have h_ok_shas := ok_shas (Pg := l.prog) (w := w) (base := base) (Θ := [P_d_is_kept]) (C := C) d_Store_has TC h_ok_scount
  have h_ok_sfind := ok_sfind (Pg := l.prog) (w := w) (base := base) (Θ := [P_d_is_kept]) (C := C) d_Store_find TC h_ok_shas
  have h_ok_told := ok_told (Pg := l.prog) (w := w) (base := base) (Θ := [P_d_is_kept]) (C := C) (CC := CC) d__told_of TC TCC (m z_len) h_ok_sfind
  have h_told2 := told2 (Pg := l.prog) (w := w) (base := base) (Θ := [P_d_is_kept]) (C := C) (CC := CC) h_ok_told
  have h_ok_iskept := ok_iskept (Pg := l.prog) (w := w) (base := base) (Θ := [P_d_is_kept]) (C := C) (CC := CC) d_is_kept TB_d_is_kept hP_d_is_kept TC (m z_any)
  have h_ok_pathof := ok_pathof (Pg := l.prog) (w := w) (base := base) (Θ := [P_d_is_kept]) (C := C) (CC := CC) d_path_of (m z_list) h_told2 h_ok_iskept
  have h_ok_capinfo := ok_capinfo (Pg := l.prog) (w := w) (base := base) (Θ := [P_d_is_kept]) (C := C) (CC := CC) d_capability_info (PySem.W.mg_of X G q_ALL_RIGHTS) (kDat_ref kd_ALL_RIGHTS) h_told2 h_ok_pathof
  have h_ok_above := ok_above (Pg := l.prog) (w := w) (base := base) (Θ := [P_d_is_kept]) (C := C) (CC := CC) d_is_above h_ok_pathof
  have h_ok_isint := ok_isint (Pg := l.prog) (w := w) (base := base) (Θ := [P_d_is_kept])  d__law_is_integer (m z_int) (m z_bool) (m z_isinstance)
  have h_ok_same_6 := ok_same (Pg := l.prog) (w := w) (base := base) (Θ := [P_d_is_kept])  d__law_same (m z_int) (m z_bool) (m z_str) (m z_list) (m z_tuple) (m z_len) (m z_range) (m z_isinstance) h_ok_isint 6
  exact ok_law F TC (m z_len) (m z_range) (m z_tuple) (m z_bool) (m z_isinstance) h_ok_draws h_ok_at h_ok_rows h_ok_cutw h_ok_lstore h_ok_sdata h_ok_asked h_ok_lpath h_ok_linfo h_ok_capinfo h_ok_above h_ok_same_6
end Law

open PySem PySem.W PyProof.Rows
set_option maxRecDepth 100000 in
set_option maxHeartbeats 0 in
theorem PySem.Challenge.cw_kithbase_k05_capabilities_form_a_tree_holds : PySem.Challenge.rw_kithbase_k05_capabilities_form_a_tree.Holds := by
  w_on; o_law; k_head; (case hw => w_witness2)
  k_fill
  refine Kb.walkDT2 (l := PySem.Challenge.rw_kithbase_k05_capabilities_form_a_tree) (k := 16) (W := Law.W_law) rfl rfl ⟨rfl, by decide, by decide⟩ (fun w h Y => PySem.W.kIn_of Y) (fun ns hl hb => ⟨ns, rfl, hl, hb, rfl⟩) ?F
  case F =>
    intro w mg fa h Y KX G hmg TT
    refine' Law.law_all KX G hmg ?aC ?pgC ?hdC ?poC ?saC ?nC1 ?nC2 ?nC3 ?nC4 ?nC5 ?aCC ?pgCC ?hdCC ?poCC ?saCC ?nCC1 ?nCC2 ?nCC3 ?nCC4 ?nCC5 ?nCC6 ?aCK ?pgCK ?hdCK ?poCK ?saCK ?nCK1 ?nCK2 ?nCK3 ?z_len ?z_range ?z_tuple ?z_bool ?z_isinstance ?d__law_draws ?z_int ?z_min ?d__law_mix ?d__law_at ?d__law_rows ?z_max ?z_list ?d__law_full ?d__law_choice ?d__law_grants ?d__law_publics ?d__law_rights ?d__law_cut_world ?z_sorted ?d__law_world ?d__law_nothing ?d__law_store ?d_Store___init__ ?q_SPACES ?d_Kept___init__ ?d_frozen ?d_Change___init__ ?d_Store_add ?d__law_kept ?d_Store_data ?d_Kept_data ?d_Change_header ?d__law_asked ?d__law_path ?d__law_info ?d__law_find ?d_capability_info ?q_ALL_RIGHTS ?kd_ALL_RIGHTS ?d__told_of ?d_Store_find ?d_Store_has ?d_Store_count ?d_path_of ?d_is_kept ?tab_d_is_kept ?z_any ?d_is_above ?d__law_same ?z_str ?d__law_is_integer ?al ?ll ?cl ?kl
    (case aC => k_is)
    (case pgC => k_is)
    (case hdC => k_is)
    (case poC => k_is)
    (case saC => k_is)
    (case nC1 => k_is)
    (case nC2 => k_is)
    (case nC3 => k_is)
    (case nC4 => k_is)
    (case nC5 => k_is)
    (case aCC => k_is)
    (case pgCC => k_is)
    (case hdCC => k_is)
    (case poCC => k_is)
    (case saCC => k_is)
    (case nCC1 => k_is)
    (case nCC2 => k_is)
    (case nCC3 => k_is)
    (case nCC4 => k_is)
    (case nCC5 => k_is)
    (case nCC6 => k_is)
    (case aCK => k_is)
    (case pgCK => k_is)
    (case hdCK => k_is)
    (case poCK => k_is)
    (case saCK => k_is)
    (case nCK1 => k_is)
    (case nCK2 => k_is)
    (case nCK3 => k_is)
    (case z_len => k_is)
    (case z_range => k_is)
    (case z_tuple => k_is)
    (case z_bool => k_is)
    (case z_isinstance => k_is)
    (case d__law_draws => (refine' Kb.defAt_mk KX G ?b ?a ?l ?c ?k; (case b => exact fun _ _ _ _ _ _ us hl => match us, hl with | [_], _ => rfl); (case a => k_is); (case l => k_is); (case c => k_is); (case k => k_is)))
    (case z_int => k_is)
    (case z_min => k_is)
    (case d__law_mix => (refine' Kb.defAt_mk KX G ?b ?a ?l ?c ?k; (case b => exact fun _ _ _ _ _ _ us hl => match us, hl with | [_, _], _ => rfl); (case a => k_is); (case l => k_is); (case c => k_is); (case k => k_is)))
    (case d__law_at => (refine' Kb.defAt_mk KX G ?b ?a ?l ?c ?k; (case b => exact fun _ _ _ _ _ _ us hl => match us, hl with | [_, _], _ => rfl); (case a => k_is); (case l => k_is); (case c => k_is); (case k => k_is)))
    (case d__law_rows => (refine' Kb.defAt_mk KX G ?b ?a ?l ?c ?k; (case b => exact fun _ _ _ _ _ _ us hl => match us, hl with | [_, _, _, _, _], _ => rfl); (case a => k_is); (case l => k_is); (case c => k_is); (case k => k_is)))
    (case z_max => k_is)
    (case z_list => k_is)
    (case d__law_full => (refine' Kb.defAt_mk KX G ?b ?a ?l ?c ?k; (case b => exact fun _ _ _ _ _ _ us hl => match us, hl with | [], _ => rfl); (case a => k_is); (case l => k_is); (case c => k_is); (case k => k_is)))
    (case d__law_choice => (refine' Kb.defAt_mk KX G ?b ?a ?l ?c ?k; (case b => exact fun _ _ _ _ _ _ us hl => match us, hl with | [_, _, _, _], _ => rfl); (case a => k_is); (case l => k_is); (case c => k_is); (case k => k_is)))
    (case d__law_grants => (refine' Kb.defAt_mk KX G ?b ?a ?l ?c ?k; (case b => exact fun _ _ _ _ _ _ us hl => match us, hl with | [_], _ => rfl); (case a => k_is); (case l => k_is); (case c => k_is); (case k => k_is)))
    (case d__law_publics => (refine' Kb.defAt_mk KX G ?b ?a ?l ?c ?k; (case b => exact fun _ _ _ _ _ _ us hl => match us, hl with | [_, _, _, _, _], _ => rfl); (case a => k_is); (case l => k_is); (case c => k_is); (case k => k_is)))
    (case d__law_rights => (refine' Kb.defAt_mk KX G ?b ?a ?l ?c ?k; (case b => exact fun _ _ _ _ _ _ us hl => match us, hl with | [_], _ => rfl); (case a => k_is); (case l => k_is); (case c => k_is); (case k => k_is)))
    (case d__law_cut_world => (refine' Kb.defAt_mk KX G ?b ?a ?l ?c ?k; (case b => exact fun _ _ _ _ _ _ us hl => match us, hl with | [_, _, _, _], _ => rfl); (case a => k_is); (case l => k_is); (case c => k_is); (case k => k_is)))
    (case z_sorted => k_is)
    (case d__law_world => (refine' Kb.defAt_mk KX G ?b ?a ?l ?c ?k; (case b => exact fun _ _ _ _ _ _ us hl => match us, hl with | [_, _], _ => rfl); (case a => k_is); (case l => k_is); (case c => k_is); (case k => k_is)))
    (case d__law_nothing => (refine' Kb.defAt_mk KX G ?b ?a ?l ?c ?k; (case b => exact fun _ _ _ _ _ _ us hl => match us, hl with | [], _ => rfl); (case a => k_is); (case l => k_is); (case c => k_is); (case k => k_is)))
    (case d__law_store => (refine' Kb.defAt_mk KX G ?b ?a ?l ?c ?k; (case b => exact fun _ _ _ _ _ _ us hl => match us, hl with | [_], _ => rfl); (case a => k_is); (case l => k_is); (case c => k_is); (case k => k_is)))
    (case d_Store___init__ => (refine' Kb.initAt_mk ?b ?a ?i ?l ?c ?k ?mk ?kc; (case b => exact fun _ _ _ _ _ _ us hl => match us, hl with | [_, _], _ => rfl); (case a => k_is); (case i => k_is); (case l => k_is); (case c => k_is); (case k => k_is); (case mk => k_is); (case kc => k_is)))
    (case q_SPACES => k_is)
    (case d_Kept___init__ => (refine' Kb.initAt_mk ?b ?a ?i ?l ?c ?k ?mk ?kc; (case b => exact fun _ _ _ _ _ _ us hl => match us, hl with | [_, _, _, _], _ => rfl); (case a => k_is); (case i => k_is); (case l => k_is); (case c => k_is); (case k => k_is); (case mk => k_is); (case kc => k_is)))
    (case d_frozen => (refine' Kb.defAt_mk KX G ?b ?a ?l ?c ?k; (case b => exact fun _ _ _ _ _ _ us hl => match us, hl with | [_], _ => rfl); (case a => k_is); (case l => k_is); (case c => k_is); (case k => k_is)))
    (case d_Change___init__ => (refine' Kb.initAt_mk ?b ?a ?i ?l ?c ?k ?mk ?kc; (case b => exact fun _ _ _ _ _ _ us hl => match us, hl with | [_, _, _, _, _, _, _], _ => rfl); (case a => k_is); (case i => k_is); (case l => k_is); (case c => k_is); (case k => k_is); (case mk => k_is); (case kc => k_is)))
    (case d_Store_add => (refine' Kb.methAt_mk ?b ?a ?i ?l ?c ?k; (case b => exact fun _ _ _ _ _ _ us hl => match us, hl with | [_, _], _ => rfl); (case a => k_is); (case i => k_is); (case l => k_is); (case c => k_is); (case k => k_is)))
    (case d__law_kept => (refine' Kb.defAt_mk KX G ?b ?a ?l ?c ?k; (case b => exact fun _ _ _ _ _ _ us hl => match us, hl with | [_], _ => rfl); (case a => k_is); (case l => k_is); (case c => k_is); (case k => k_is)))
    (case d_Store_data => (refine' Kb.methAt_mk ?b ?a ?i ?l ?c ?k; (case b => exact fun _ _ _ _ _ _ us hl => match us, hl with | [_], _ => rfl); (case a => k_is); (case i => k_is); (case l => k_is); (case c => k_is); (case k => k_is)))
    (case d_Kept_data => (refine' Kb.methAt_mk ?b ?a ?i ?l ?c ?k; (case b => exact fun _ _ _ _ _ _ us hl => match us, hl with | [_], _ => rfl); (case a => k_is); (case i => k_is); (case l => k_is); (case c => k_is); (case k => k_is)))
    (case d_Change_header => (refine' Kb.methAt_mk ?b ?a ?i ?l ?c ?k; (case b => exact fun _ _ _ _ _ _ us hl => match us, hl with | [_], _ => rfl); (case a => k_is); (case i => k_is); (case l => k_is); (case c => k_is); (case k => k_is)))
    (case d__law_asked => (refine' Kb.defAt_mk KX G ?b ?a ?l ?c ?k; (case b => exact fun _ _ _ _ _ _ us hl => match us, hl with | [_, _], _ => rfl); (case a => k_is); (case l => k_is); (case c => k_is); (case k => k_is)))
    (case d__law_path => (refine' Kb.defAt_mk KX G ?b ?a ?l ?c ?k; (case b => exact fun _ _ _ _ _ _ us hl => match us, hl with | [_, _], _ => rfl); (case a => k_is); (case l => k_is); (case c => k_is); (case k => k_is)))
    (case d__law_info => (refine' Kb.defAt_mk KX G ?b ?a ?l ?c ?k; (case b => exact fun _ _ _ _ _ _ us hl => match us, hl with | [_, _], _ => rfl); (case a => k_is); (case l => k_is); (case c => k_is); (case k => k_is)))
    (case d__law_find => (refine' Kb.defAt_mk KX G ?b ?a ?l ?c ?k; (case b => exact fun _ _ _ _ _ _ us hl => match us, hl with | [_, _], _ => rfl); (case a => k_is); (case l => k_is); (case c => k_is); (case k => k_is)))
    (case d_capability_info => (refine' Kb.defAt_mk KX G ?b ?a ?l ?c ?k; (case b => exact fun _ _ _ _ _ _ us hl => match us, hl with | [_, _], _ => rfl); (case a => k_is); (case l => k_is); (case c => k_is); (case k => k_is)))
    (case q_ALL_RIGHTS => k_is)
    (case kd_ALL_RIGHTS => kernel_rfl)
    (case d__told_of => (refine' Kb.defAt_mk KX G ?b ?a ?l ?c ?k; (case b => exact fun _ _ _ _ _ _ us hl => match us, hl with | [_, _], _ => rfl); (case a => k_is); (case l => k_is); (case c => k_is); (case k => k_is)))
    (case d_Store_find => (refine' Kb.methAt_mk ?b ?a ?i ?l ?c ?k; (case b => exact fun _ _ _ _ _ _ us hl => match us, hl with | [_, _], _ => rfl); (case a => k_is); (case i => k_is); (case l => k_is); (case c => k_is); (case k => k_is)))
    (case d_Store_has => (refine' Kb.methAt_mk ?b ?a ?i ?l ?c ?k; (case b => exact fun _ _ _ _ _ _ us hl => match us, hl with | [_, _], _ => rfl); (case a => k_is); (case i => k_is); (case l => k_is); (case c => k_is); (case k => k_is)))
    (case d_Store_count => (refine' Kb.methAt_mk ?b ?a ?i ?l ?c ?k; (case b => exact fun _ _ _ _ _ _ us hl => match us, hl with | [_, _], _ => rfl); (case a => k_is); (case i => k_is); (case l => k_is); (case c => k_is); (case k => k_is)))
    (case d_path_of => (refine' Kb.defAt_mk KX G ?b ?a ?l ?c ?k; (case b => exact fun _ _ _ _ _ _ us hl => match us, hl with | [_, _], _ => rfl); (case a => k_is); (case l => k_is); (case c => k_is); (case k => k_is)))
    (case d_is_kept => (refine' Kb.defT_mk KX G ?b ?a ?l ?cc ?k; (case b => exact fun _ _ _ _ _ _ us hl => match us, hl with | [_, _], _ => rfl); (case a => k_is); (case l => k_is); (case cc => k_is); (case k => k_is)))
    (case tab_d_is_kept => (refine' Kb.tabIs_mk TT ?tr ?ta ?tl ?tc ?tlc ?tv ?tn; (case tr => exact rfl); (case ta => k_is); (case tl => k_is); (case tc => exact rfl); (case tlc => k_is); (case tv => exact rfl); (case tn => kernel_rfl)))
    (case z_any => k_is)
    (case d_is_above => (refine' Kb.defAt_mk KX G ?b ?a ?l ?c ?k; (case b => exact fun _ _ _ _ _ _ us hl => match us, hl with | [_, _, _], _ => rfl); (case a => k_is); (case l => k_is); (case c => k_is); (case k => k_is)))
    (case d__law_same => (refine' Kb.defAt_mk KX G ?b ?a ?l ?c ?k; (case b => exact fun _ _ _ _ _ _ us hl => match us, hl with | [_, _], _ => rfl); (case a => k_is); (case l => k_is); (case c => k_is); (case k => k_is)))
    (case z_str => k_is)
    (case d__law_is_integer => (refine' Kb.defAt_mk KX G ?b ?a ?l ?c ?k; (case b => exact fun _ _ _ _ _ _ us hl => match us, hl with | [_], _ => rfl); (case a => k_is); (case l => k_is); (case c => k_is); (case k => k_is)))
    (case al => k_is)
    (case ll => k_is)
    (case cl => k_is)
    (case kl => k_is)

