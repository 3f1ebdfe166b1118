import PyProof.Rows.All
import Wide.All
import OpenK.AllK
import Wide.FinOn
import HandS.ForMost
import HandS.ForExc
import HandS.Wide
import HandS.IsInst
import HandS.EndBits
import HandS.SortKw
import HandS.Flow
import HandS.AnyAll
import HandS.Lambda
import KE.SortKeyed
import KE.SortData
import HandS.EndTab
import HandS.GenOver
import HandS.Comp
import KE.KNest
import HandS.Zip
import HandS.Style
import HandS.Text
import KE.DataCmp
import HandS.TupAny
import HandS.More
import HandS.RaiseMore
import HandS.ExcIs
import HandS.TryOnly
import HandS.FStr
import HandS.Iter
import HandS.ExcInit
import HandS.ExcField
import KE.KExcIs
import PyProof.DelItemList
import HandS.IterVal
import HandS.Strs
import HandS.ReplaceList
import HandS.StrMore
import HandS.Conv
import HandS.SortOrd
import HandS.Deep
import HandS.Zip0
import KE.KeyNested
import PyProof.DictFindH
import KE.GoesMore
import PyProof.Draws
import PyProof.EnumMake
import HandS.TupLen
import HandS.DictComp
import KE.KDictKeyed
import PyProof.DictMoreH
import PySem.Challenge.RW_kithbase_k66_bytes_of_codes
import HandS.HeadHook3
set_option Elab.async false
set_option linter.all false
set_option maxRecDepth 100000
set_option maxHeartbeats 4000000
namespace Kb
open PySem PySem.Spec PyProof.Rows L2
/-! defs of the text: where they stand, what they promise -/
/-- a def of the top: found by its name, with so many plain parameters -/
structure DefAt (K : PySem.W.Frag) (mg : Str → Option Value) (x : Str) (st : Stmt) (ps : List Str) : Prop where
  ex : ∃ f fd, Fun K x x st f fd ∧ mg x = some (.ref f) ∧ Binds K fd ps []
/-- a def of the top that keeps a promise -/
structure HasF (P : Program) (w : World) (K : PySem.W.Frag) (mg : Str → Option Value) (base : Heap) (CX : CXT) (k : Nat) (x : Str) (ps : List Str) (sp : Sp) : Prop where
  ex : ∃ f fd, FnOk P w K mg base CX k f fd ps sp ∧ mg x = some (.ref f) ∧ PySem.W.keepIn K (.ref f) = true ∧ Binds K fd ps []
section
variable {P : Program} {w : World} {K : PySem.W.Frag} {mg : Str → Option Value} {base : Heap} {x : Str} {st : Stmt} {N ps : List Str} {k : Nat} {sp : Sp}
theorem DefAt.ok (A : DefAt K mg x st ps) (S : FnScope N ps (defScope st)) (len : ∀ vs H Q E, sp vs H Q E → vs.length = ps.length)
    (hbody : ∀ (f : Addr) (cdv : Value) (A : Around) (outer : List Env) (s : Shared) (H : Hp) (vs : List V) (Q : VK) (E : XK), Room k (A.deeper (envOfC x (defScope st) s.heap.objs.size f cdv)) → sp vs H Q E →
      ∃ t, PSs (cxOf CX0 P w K mg base N x (defScope st) f cdv A outer s H E).nox (defBody st) t ∧ t { nx := fun _ H' => Q .non H', rt := Q } (start N vs) H) : HasF P w K mg base CX0 (k + 1) x ps sp := by
  obtain ⟨f, fd, F, hm, hb⟩ := A.ex
  exact ⟨f, fd, F.ok S len (fun cdv A outer s H vs Q E hr h => hbody f cdv A outer s H vs Q E hr h), hm, F.kp, hb⟩
end
section
variable {X : Cx} {CX : CXT} {k : Nat} {x : Str} {ps : List Str} {sp : Sp} {E : XK} {p pos : Pos} {e : Expr} {es : List Expr} {t : TA}
theorem HasF.call (h : HasF X.prog X.w X.K X.mg X.base CX k x ps sp) (hr : Room k X.A) (hg : Gl X x) (hx : Passes CX X E)
    (ha : PA X (e :: es) t) (hdb : (x == ("__debug__" : Str)) = false := by decide) (he : starEach (e :: es) X.env = (false, eval e X.env) :: starEach es X.env := by rfl) (hpl : (backTo pos (starEach es X.env)).any (·.1) = false := by rfl) :
    PE X (.Call (.Name x p) (e :: es) [] pos) (tCall sp [] E t) := by
  obtain ⟨f, fd, F, hm, hk, hb⟩ := h.ex
  exact pe_call F hr hg hm hk hb .nil hx ha hdb he hpl
end
/-! universal operators -/
def CMulX (i j : Int) : Prop := i.natAbs.log2 + j.natAbs.log2 < 100000000
theorem CMulX.ok {i j : Int} (h : CMulX i j) : IntMulOk i j := by
  have bit : ∀ x : Int, Builtin.Int.intBits x ≤ x.natAbs.log2 + 1 := fun x => by
    unfold Builtin.Int.intBits
    split <;> omega
  have g1 := bit i
  have g2 := bit j
  have g3 : i.natAbs.log2 + j.natAbs.log2 < 100000000 := h
  have big : bitsLine = 134217728 := by decide
  intro c
  obtain ⟨_, c2⟩ := Bool.and_eq_true_iff.mp c
  unfold Builtin.Int.intTooBig at c2
  have c3 := of_decide_eq_true c2
  rw [big] at c3
  omega
section
variable {X : Cx}
theorem op_mulX : OpR X (binaryOp .Mult) (rI CMulX fun i j => .int (i * j)) := opI fun _ _ _ _ _ _ _ hc q => mul_int q hc.ok
end
end Kb

/-! A logic over plain data: values D (tuples, lists, instances that no longer change stand inline; what a def still changes is owned, by number). -/
namespace Kb
open PySem PySem.Spec PyProof.Rows L2
/-- data that stay as they are -/
inductive P where
  | non | bl (b : Bool) | int (i : Int) | str (s : Str) | tup (xs : List P) | ktp (xs : List P) | lst (xs : List P) | ins (C : Addr) (fs : List (Str × P)) | ty (n : String) | cls (C : Addr)
/-- a datum, or what is owned, by its number -/
inductive D where
  | p (x : P) | own (i : Nat)
abbrev dN : D := .p .non
abbrev dB (b : Bool) : D := .p (.bl b)
abbrev dI (i : Int) : D := .p (.int i)
abbrev dS (s : Str) : D := .p (.str s)
abbrev dT (xs : List P) : D := .p (.tup xs)
abbrev dL (xs : List P) : D := .p (.lst xs)
/-- what is owned -/
inductive OO where
  | lst (xs : List D) | ins (C : Addr) (fs : List (Str × D)) | dK (kvs : List (Key × D)) | dT (kvs : List (List Key × D))
abbrev Hs := List (Option OO)
abbrev Env' := List (Option D)
/-- a tuple that stands there -/
def SqU (_ : PySem.W.Frag) (F : Hp) (a : Addr) (vs : List V) : Prop := F a = some (.tup vs)
theorem SqU.of {K : PySem.W.Frag} {F : Hp} {a : Addr} {vs : List V} (h : F a = some (.tup vs)) : SqU K F a vs := h
section
variable (K : PySem.W.Frag)
mutual
inductive RP (F : Hp) : P → V → Prop
  | non : RP F .non .non
  | bl (b : Bool) : RP F (.bl b) (.bl b)
  | int (i : Int) : RP F (.int i) (.int i)
  | str (s : Str) : RP F (.str s) (.str s)
  | tup {a : Addr} {xs : List P} {vs : List V} : SqU K F a vs → RPs F xs vs → RP F (.tup xs) (.ref a)
  | ktp {a : Addr} {xs : List P} {vs : List V} : (∀ H, SqT K H a vs) → RPs F xs vs → RP F (.ktp xs) (.ref a)
  | lst {a : Addr} {xs : List P} {vs : List V} : SqL K F a vs → RPs F xs vs → RP F (.lst xs) (.ref a)
  | ins {a C dx : Addr} {fs : List (Str × P)} {gs : List (Str × V)} : F a = some (.ins C dx gs) → RPf F fs gs → RP F (.ins C fs) (.ref a)
  | ty (n : String) : RP F (.ty n) (.ty n)
  | cls (C : Addr) : RP F (.cls C) (.ref C)
inductive RPs (F : Hp) : List P → List V → Prop
  | nil : RPs F [] []
  | cons {d : P} {v : V} {ds : List P} {vs : List V} : RP F d v → RPs F ds vs → RPs F (d :: ds) (v :: vs)
inductive RPf (F : Hp) : List (Str × P) → List (Str × V) → Prop
  | nil : RPf F [] []
  | cons {f : Str} {d : P} {v : V} {ds : List (Str × P)} {vs : List (Str × V)} : RP F d v → RPf F ds vs → RPf F ((f, d) :: ds) ((f, v) :: vs)
end
inductive RD (F : Hp) (ρ : List Addr) : D → V → Prop
  | p {x : P} {v : V} : RP K F x v → RD F ρ (.p x) v
  | own {a : Addr} {i : Nat} : ρ[i]? = some a → RD F ρ (.own i) (.ref a)
inductive RA (F : Hp) (ρ : List Addr) : List D → List V → Prop
  | nil : RA F ρ [] []
  | cons {d : D} {v : V} {ds : List D} {vs : List V} : RD K F ρ d v → RA F ρ ds vs → RA F ρ (d :: ds) (v :: vs)
inductive RK {κ : Type} (F : Hp) (ρ : List Addr) : List (κ × D) → List (κ × V) → Prop
  | nil : RK F ρ [] []
  | cons {f : κ} {d : D} {v : V} {ds : List (κ × D)} {vs : List (κ × V)} : RD K F ρ d v → RK F ρ ds vs → RK F ρ ((f, d) :: ds) ((f, v) :: vs)
inductive RF (F : Hp) (ρ : List Addr) : List (Str × D) → List (Str × V) → Prop
  | nil : RF F ρ [] []
  | cons {f : Str} {d : D} {v : V} {ds : List (Str × D)} {vs : List (Str × V)} : RD K F ρ d v → RF F ρ ds vs → RF F ρ ((f, d) :: ds) ((f, v) :: vs)
end
/-- what is raised: its class, and its fields if it has some that count -/
structure Exn where
  cls : Addr
  fs : Option (List (Str × P))
/-- the tables: of generator expressions, and of lambdas with the names of their code objects -/
structure Tbs where
  g : List Addr
  l : List (Addr × Str)
  dj : ∀ p ∈ l, p.1 ∉ g
  un : ∀ p ∈ l, ∀ q ∈ l, p.1 = q.1 → p.2 = q.2
instance : Membership Addr Tbs := ⟨fun T P => P ∈ T.g⟩
abbrev Tbs.of (g : List Addr) : Tbs := ⟨g, [], fun _ h => absurd h (by simp), fun _ h => absurd h (by simp)⟩
instance : Coe (List Addr) Tbs := ⟨Tbs.of⟩
/-- what a text runs in: tables, the wish, the errors that may be raised -/
structure Ctx where
  tabs : Tbs
  wish : L2.St → XK
  ex : Exn → Env' → Hs → Prop
  fl : Hp := fun _ => none
/-- nothing is raised -/
abbrev Ctx.plain (T : Tbs) : Ctx := ⟨T, fun _ _ _ _ => False, fun _ _ _ => False, fun _ => none⟩
instance : Coe Tbs Ctx := ⟨Ctx.plain⟩
instance : Coe (List Addr) Ctx := ⟨fun g => Ctx.plain (Tbs.of g)⟩
section
variable {K : PySem.W.Frag} {Θ : Ctx} {T : Tbs}
theorem sqU_mono {F F' : Hp} (e : Same F F') {a : Addr} {vs : List V} (h : SqU K F a vs) : SqU K F' a vs := e _ _ h
theorem sqT_mono {F F' : Hp} (e : Same F F') {a : Addr} {vs : List V} (h : SqU K F a vs) : SqT K F' a vs := .of (e _ _ h)
/-- numbers keep their addresses -/
def Pre (ρ ρ' : List Addr) : Prop := ∀ (i : Nat) (a : Addr), ρ[i]? = some a → ρ'[i]? = some a
theorem Pre.refl (ρ : List Addr) : Pre ρ ρ := fun _ _ h => h
theorem Pre.trans {a b c : List Addr} (x : Pre a b) (y : Pre b c) : Pre a c := fun i p h => y i p (x i p h)
theorem Pre.push (ρ : List Addr) (p : Addr) : Pre ρ (ρ ++ [p]) := fun i a h => by
  have hl : i < ρ.length := (List.getElem?_eq_some_iff.mp h).1
  rw [List.getElem?_append_left hl]
  exact h
mutual
theorem RP.mono {F F' : Hp} (e : Same F F') : ∀ {d : P} {v : V}, RP K F d v → RP K F' d v
  | _, _, .non => .non
  | _, _, .bl b => .bl b
  | _, _, .int i => .int i
  | _, _, .str s => .str s
  | _, _, .tup h r => .tup (sqU_mono e h) (RPs.mono e r)
  | _, _, .ktp h r => .ktp h (RPs.mono e r)
  | _, _, .lst h r => .lst (e.seq h) (RPs.mono e r)
  | _, _, .ins h r => .ins (e _ _ h) (RPf.mono e r)
  | _, _, .ty n => .ty n
  | _, _, .cls C => .cls C
theorem RPs.mono {F F' : Hp} (e : Same F F') : ∀ {d : List P} {v : List V}, RPs K F d v → RPs K F' d v
  | _, _, .nil => .nil
  | _, _, .cons h r => .cons (RP.mono e h) (RPs.mono e r)
theorem RPf.mono {F F' : Hp} (e : Same F F') : ∀ {d : List (Str × P)} {v : List (Str × V)}, RPf K F d v → RPf K F' d v
  | _, _, .nil => .nil
  | _, _, .cons h r => .cons (RP.mono e h) (RPf.mono e r)
end
theorem RD.mono {F F' : Hp} {ρ ρ' : List Addr} (e : Same F F') (p : Pre ρ ρ') {d : D} {v : V} (h : RD K F ρ d v) : RD K F' ρ' d v := by
  cases h with
  | p h => exact .p (h.mono e)
  | own h => exact .own (p _ _ h)
theorem RA.mono {F F' : Hp} {ρ ρ' : List Addr} (e : Same F F') (p : Pre ρ ρ') {d : List D} {v : List V} (h : RA K F ρ d v) : RA K F' ρ' d v := by
  induction h with
  | nil => exact .nil
  | cons h _ ih => exact .cons (h.mono e p) ih
theorem RF.mono {F F' : Hp} {ρ ρ' : List Addr} (e : Same F F') (p : Pre ρ ρ') {d : List (Str × D)} {v : List (Str × V)} (h : RF K F ρ d v) : RF K F' ρ' d v := by
  induction h with
  | nil => exact .nil
  | cons h _ ih => exact .cons (h.mono e p) ih
theorem RK.mono {κ : Type} {F F' : Hp} {ρ ρ' : List Addr} (e : Same F F') (p : Pre ρ ρ') {d : List (κ × D)} {v : List (κ × V)} (h : RK K F ρ d v) : RK K F' ρ' d v := by
  induction h with
  | nil => exact .nil
  | cons h _ ih => exact .cons (h.mono e p) ih
theorem RA.len {F : Hp} {ρ : List Addr} {ds : List D} {vs : List V} (h : RA K F ρ ds vs) : ds.length = vs.length := by
  induction h with
  | nil => rfl
  | cons _ _ ih => exact congrArg (· + 1) ih
theorem RPs.len {F : Hp} : ∀ {ds : List P} {vs : List V}, RPs K F ds vs → ds.length = vs.length
  | _, _, .nil => rfl
  | _, _, .cons _ r => congrArg (· + 1) (RPs.len r)
theorem RA.get {F : Hp} {ρ : List Addr} : ∀ {ds : List D} {vs : List V} {i : Nat} {d : D}, RA K F ρ ds vs → ds[i]? = some d → ∃ v, vs[i]? = some v ∧ RD K F ρ d v
  | _, _, _, _, .nil, h => by simp at h
  | _, _, 0, _, .cons q r, h => by
    cases Option.some.inj h
    exact ⟨_, rfl, q⟩
  | _, _, i + 1, d, .cons q r, h => by
    obtain ⟨v, h1, h2⟩ := RA.get (i := i) (d := d) r (by simpa using h)
    exact ⟨v, by simpa using h1, h2⟩
theorem RPs.get {F : Hp} : ∀ {ds : List P} {vs : List V} {i : Nat} {d : P}, RPs K F ds vs → ds[i]? = some d → ∃ v, vs[i]? = some v ∧ RP K F d v
  | _, _, _, _, .nil, h => by simp at h
  | _, _, 0, _, .cons q r, h => by
    cases Option.some.inj h
    exact ⟨_, rfl, q⟩
  | _, _, i + 1, d, .cons q r, h => by
    obtain ⟨v, h1, h2⟩ := RPs.get (i := i) (d := d) r (by simpa using h)
    exact ⟨v, by simpa using h1, h2⟩
theorem RA.append {F : Hp} {ρ : List Addr} : ∀ {ds es : List D} {vs us : List V}, RA K F ρ ds vs → RA K F ρ es us → RA K F ρ (ds ++ es) (vs ++ us)
  | _, _, _, _, .nil, s => s
  | _, _, _, _, .cons q r, s => .cons q (RA.append r s)
theorem RPs.append {F : Hp} : ∀ {ds es : List P} {vs us : List V}, RPs K F ds vs → RPs K F es us → RPs K F (ds ++ es) (vs ++ us)
  | _, _, _, _, .nil, s => s
  | _, _, _, _, .cons q r, s => .cons q (RPs.append r s)
theorem RPs.take {F : Hp} : ∀ {ds : List P} {vs : List V} (i : Nat), RPs K F ds vs → RPs K F (ds.take i) (vs.take i)
  | _, _, 0, _ => .nil
  | _, _, _ + 1, .nil => .nil
  | _, _, i + 1, .cons p r => .cons p (RPs.take i r)
theorem RPs.drop {F : Hp} : ∀ {ds : List P} {vs : List V} (i : Nat), RPs K F ds vs → RPs K F (ds.drop i) (vs.drop i)
  | _, _, 0, r => r
  | _, _, _ + 1, .nil => .nil
  | _, _, i + 1, .cons p r => RPs.drop i r
theorem RA.pure {F : Hp} {ρ : List Addr} : ∀ {ps : List P} {vs : List V}, RA K F ρ (ps.map D.p) vs → RPs K F ps vs
  | [], _, .nil => .nil
  | _ :: _, _, .cons (.p q) r => .cons q (RA.pure r)
theorem RPs.data {F : Hp} {ρ : List Addr} : ∀ {ps : List P} {vs : List V}, RPs K F ps vs → RA K F ρ (ps.map D.p) vs
  | [], _, .nil => .nil
  | _ :: _, _, .cons q r => .cons (.p q) (RPs.data r)
theorem RPs.of_ints {F : Hp} : ∀ (ns : List Int), RPs K F (ns.map P.int) (ns.map V.int)
  | [] => .nil
  | n :: ns => .cons (.int n) (RPs.of_ints ns)
theorem RF.look {F : Hp} {ρ : List Addr} {f : Str} : ∀ {ds : List (Str × D)} {vs : List (Str × V)} {d : D}, RF K F ρ ds vs → ds.lookup f = some d → ∃ v, vs.lookup f = some v ∧ RD K F ρ d v
  | _, _, _, .nil, h => by simp at h
  | _, _, d', .cons (f := g) q r, h => by
    by_cases e : f = g
    · subst e
      simp only [List.lookup, beq_self_eq_true] at h ⊢
      cases h
      exact ⟨_, rfl, q⟩
    · have e' : (f == g) = false := by simpa using e
      simp only [List.lookup, e'] at h ⊢
      exact RF.look r h
theorem RF.lookN {F : Hp} {ρ : List Addr} {f : Str} : ∀ {ds : List (Str × D)} {vs : List (Str × V)}, RF K F ρ ds vs → ds.lookup f = none → vs.lookup f = none
  | _, _, .nil, h => rfl
  | _, _, .cons (f := g) q r, h => by
    by_cases e : f = g
    · subst e
      simp [List.lookup] at h
    · have e' : (f == g) = false := by simpa using e
      simp only [List.lookup, e'] at h ⊢
      exact RF.lookN r h
theorem RPf.data {F : Hp} {ρ : List Addr} : ∀ {fs : List (Str × P)} {vs : List (Str × V)}, RPf K F fs vs → RF K F ρ (fs.map fun q => (q.1, D.p q.2)) vs
  | _, _, .nil => .nil
  | _, _, .cons q r => .cons (.p q) (RPf.data r)
theorem RF.pure {F : Hp} {ρ : List Addr} : ∀ {fs : List (Str × P)} {vs : List (Str × V)}, RF K F ρ (fs.map fun q => (q.1, D.p q.2)) vs → RPf K F fs vs
  | [], _, .nil => .nil
  | (_, _) :: _, _, .cons (.p q) r => .cons q (RF.pure r)
theorem RF.len {F : Hp} {ρ : List Addr} {ds : List (Str × D)} {vs : List (Str × V)} (h : RF K F ρ ds vs) : ds.length = vs.length := by
  induction h with
  | nil => rfl
  | cons _ _ ih => exact congrArg (· + 1) ih
def putD (f : Str) (d : D) : List (Str × D) → List (Str × D)
  | [] => [(f, d)]
  | p :: r => if p.1 = f then (f, d) :: r else p :: putD f d r
theorem RF.put {F : Hp} {ρ : List Addr} {f : Str} {d : D} {v : V} (q : RD K F ρ d v) : ∀ {ds : List (Str × D)} {vs : List (Str × V)}, RF K F ρ ds vs → RF K F ρ (putD f d ds) (putF f v vs)
  | _, _, .nil => .cons q .nil
  | _, _, .cons (f := g) p r => by
    by_cases e : g = f
    · subst e
      simp only [putD, putF, if_true]
      exact .cons q r
    · simp only [putD, putF, if_neg e]
      exact .cons p (RF.put q r)
/-- an owned thing and what stands there -/
def RO (K : PySem.W.Frag) (F : Hp) (ρ : List Addr) : OO → HO → Prop
  | .lst xs, o => ∃ vs, o = .lst vs ∧ RA K F ρ xs vs
  | .ins C fs, o => ∃ dx gs, o = .ins C dx gs ∧ RF K F ρ fs gs
  | .dK kvs, o => ∃ gs, o = .dK gs ∧ RK K F ρ kvs gs
  | .dT kvs, o => ∃ gs, o = .dT gs ∧ RK K F ρ kvs gs
theorem RO.mono {F F' : Hp} {ρ ρ' : List Addr} (e : Same F F') (p : Pre ρ ρ') : ∀ {o : OO} {u : HO}, RO K F ρ o u → RO K F' ρ' o u
  | .lst _, _, ⟨vs, h, r⟩ => ⟨vs, h, r.mono e p⟩
  | .ins _ _, _, ⟨dx, gs, h, r⟩ => ⟨dx, gs, h, r.mono e p⟩
  | .dK _, _, ⟨gs, h, r⟩ => ⟨gs, h, r.mono e p⟩
  | .dT _, _, ⟨gs, h, r⟩ => ⟨gs, h, r.mono e p⟩
/-- the heap H: frozen things F, owned things h at ρ -/
structure Base (K : PySem.W.Frag) (T : Tbs) (F : Hp) (ρ : List Addr) (h : Hs) (H : Hp) : Prop where
  same : Same F H
  len : ρ.length = h.length
  own : ∀ (i : Nat) (o : OO), h[i]? = some (some o) → ∃ a u, ρ[i]? = some a ∧ F a = none ∧ H a = some u ∧ RO K F ρ o u
  inj : ∀ (i j : Nat) (o u : OO) (a : Addr), h[i]? = some (some o) → h[j]? = some (some u) → ρ[i]? = some a → ρ[j]? = some a → i = j
  tab : ∀ P ∈ T, F P = none ∧ GxR.TabG H P
  lam : ∀ p ∈ T.l, F p.1 = none ∧ LamX.TabS H p.1 p.2
/-- the error's fields -/
def XnAt (K : PySem.W.Frag) (F : Hp) (X : Exn) (d : Option Addr) : Prop := match X.fs with
  | none => d = none
  | some fs => ∃ a gs, d = some a ∧ F a = some (.xd gs) ∧ RPf K F fs gs
structure REnv (K : PySem.W.Frag) (F : Hp) (ρ : List Addr) (env : Env') (σ : L2.St) : Prop where
  len : env.length = σ.length
  get : ∀ (i : Nat) (d : D), env[i]? = some (some d) → ∃ v, σ[i]? = some (some v) ∧ RD K F ρ d v
theorem REnv.mono {F F' : Hp} {ρ ρ' : List Addr} {env : Env'} {σ : L2.St} (e : Same F F') (p : Pre ρ ρ') (r : REnv K F ρ env σ) : REnv K F' ρ' env σ :=
  ⟨r.len, fun i d h => let ⟨v, h1, h2⟩ := r.get i d h; ⟨v, h1, h2.mono e p⟩⟩
theorem REnv.set {F : Hp} {ρ : List Addr} {env : Env'} {σ : L2.St} {i : Nat} {d : D} {v : V} (r : REnv K F ρ env σ) (q : RD K F ρ d v) : REnv K F ρ (env.set i (some d)) (σ.set i (some v)) := by
  refine ⟨by rw [List.length_set, List.length_set]; exact r.len, fun j e h => ?_⟩
  by_cases hj : i = j
  · subst hj
    have hl : i < env.length := by
      have := (List.getElem?_eq_some_iff.mp h).1
      rwa [List.length_set] at this
    rw [List.getElem?_set_self hl] at h
    cases h
    exact ⟨v, by rw [List.getElem?_set_self (by rw [← r.len]; exact hl)], q⟩
  · rw [List.getElem?_set_ne hj] at h ⊢
    exact r.get j e h
theorem REnv.wipe {F : Hp} {ρ : List Addr} {env : Env'} {σ : L2.St} {i : Nat} (r : REnv K F ρ env σ) : REnv K F ρ (env.set i none) (σ.set i none) := by
  refine ⟨by rw [List.length_set, List.length_set]; exact r.len, fun j e h => ?_⟩
  by_cases hj : i = j
  · subst hj
    have hl : i < env.length := by
      have := (List.getElem?_eq_some_iff.mp h).1
      rwa [List.length_set] at this
    rw [List.getElem?_set_self hl] at h
    cases h
  · rw [List.getElem?_set_ne hj] at h ⊢
    exact r.get j e h
/-- from here on these errors keep the wish -/
structure Wish (K : PySem.W.Frag) (Θ : Ctx) (F : Hp) (ρ : List Addr) : Prop where
  run : ∀ (X : Exn) (d : Option Addr) (env : Env') (h' : Hs) (F' : Hp) (ρ' : List Addr) (σ : L2.St) (H' : Hp), Same F F' → Pre ρ ρ' → Base K Θ.tabs F' ρ' h' H' → REnv K F' ρ' env σ → XnAt K F' X d → Θ.ex X env h' → Θ.wish σ (.ref X.cls) d H'
  floor : Same Θ.fl F
theorem Wish.mono {F F' : Hp} {ρ ρ' : List Addr} (w : Wish K Θ F ρ) (s : Same F F') (p : Pre ρ ρ') : Wish K Θ F' ρ' := ⟨fun X d env h' F2 ρ2 σ H' s2 p2 => w.run X d env h' F2 ρ2 σ H' (s.trans s2) (p.trans p2), w.floor.trans s⟩
theorem Wish.plain {F : Hp} {ρ : List Addr} : Wish K (Ctx.plain T) F ρ := ⟨fun _ _ _ _ _ _ _ _ _ _ _ _ _ z => z.elim, fun _ _ z => by cases z⟩
structure Rel (K : PySem.W.Frag) (Θ : Ctx) (F : Hp) (ρ : List Addr) (h : Hs) (H : Hp) : Prop extends Base K Θ.tabs F ρ h H where
  wish : Wish K Θ F ρ
theorem Base.plain {F : Hp} {ρ : List Addr} {h : Hs} {H : Hp} (r : Base K T F ρ h H) : Rel K (Ctx.plain T) F ρ h H := ⟨r, .plain⟩
/-! ### the judgements -/
def VE (K : PySem.W.Frag) (Θ : Ctx) (te : TE) (env : Env') (h : Hs) (R : D → Hs → Prop) : Prop :=
  ∀ (F : Hp) (ρ : List Addr) (σ : L2.St) (H : Hp) (Q : VK), Rel K Θ F ρ h H → REnv K F ρ env σ →
    (∀ (d : D) (h' : Hs) (v : V) (F' : Hp) (ρ' : List Addr) (H' : Hp), Same F F' → Pre ρ ρ' → Rel K Θ F' ρ' h' H' → RD K F' ρ' d v → R d h' → Q v H') → te σ H Q
def VA (K : PySem.W.Frag) (Θ : Ctx) (ta : TA) (env : Env') (h : Hs) (R : List D → Hs → Prop) : Prop :=
  ∀ (F : Hp) (ρ : List Addr) (σ : L2.St) (H : Hp) (Q : List V → Hp → Prop), Rel K Θ F ρ h H → REnv K F ρ env σ →
    (∀ (d : List D) (h' : Hs) (v : List V) (F' : Hp) (ρ' : List Addr) (H' : Hp), Same F F' → Pre ρ ρ' → Rel K Θ F' ρ' h' H' → RA K F' ρ' d v → R d h' → Q v H') → ta σ H Q
def VT (K : PySem.W.Frag) (Θ : Ctx) (tt : TT) (env : Env') (h : Hs) (R : Bool → Hs → Prop) : Prop :=
  ∀ (F : Hp) (ρ : List Addr) (σ : L2.St) (H : Hp) (Q : Bool → Hp → Prop), Rel K Θ F ρ h H → REnv K F ρ env σ →
    (∀ (b : Bool) (h' : Hs) (F' : Hp) (ρ' : List Addr) (H' : Hp), Same F F' → Pre ρ ρ' → Rel K Θ F' ρ' h' H' → R b h' → Q b H') → tt σ H Q
/-- an operation upon values -/
def V2 (K : PySem.W.Frag) (Θ : Ctx) (r : R2) (x y : D) (h : Hs) (R : D → Hs → Prop) : Prop :=
  ∀ (F : Hp) (ρ : List Addr) (H : Hp) (vx vy : V) (Q : VK), Rel K Θ F ρ h H → RD K F ρ x vx → RD K F ρ y vy →
    (∀ (d : D) (h' : Hs) (v : V) (F' : Hp) (ρ' : List Addr) (H' : Hp), Same F F' → Pre ρ ρ' → Rel K Θ F' ρ' h' H' → RD K F' ρ' d v → R d h' → Q v H') → r vx vy H Q
def V1 (K : PySem.W.Frag) (Θ : Ctx) (r : V → Hp → VK → Prop) (x : D) (h : Hs) (R : D → Hs → Prop) : Prop :=
  ∀ (F : Hp) (ρ : List Addr) (H : Hp) (vx : V) (Q : VK), Rel K Θ F ρ h H → RD K F ρ x vx →
    (∀ (d : D) (h' : Hs) (v : V) (F' : Hp) (ρ' : List Addr) (H' : Hp), Same F F' → Pre ρ ρ' → Rel K Θ F' ρ' h' H' → RD K F' ρ' d v → R d h' → Q v H') → r vx H Q
/-- a call upon values -/
def VC (K : PySem.W.Frag) (Θ : Ctx) (r : List V → Hp → VK → Prop) (xs : List D) (h : Hs) (R : D → Hs → Prop) : Prop :=
  ∀ (F : Hp) (ρ : List Addr) (H : Hp) (vs : List V) (Q : VK), Rel K Θ F ρ h H → RA K F ρ xs vs →
    (∀ (d : D) (h' : Hs) (v : V) (F' : Hp) (ρ' : List Addr) (H' : Hp), Same F F' → Pre ρ ρ' → Rel K Θ F' ρ' h' H' → RD K F' ρ' d v → R d h' → Q v H') → r vs H Q
/-- a method upon values -/
def VM (K : PySem.W.Frag) (Θ : Ctx) (r : V → List V → Hp → VK → Prop) (x : D) (xs : List D) (h : Hs) (R : D → Hs → Prop) : Prop :=
  ∀ (F : Hp) (ρ : List Addr) (H : Hp) (vx : V) (vs : List V) (Q : VK), Rel K Θ F ρ h H → RD K F ρ x vx → RA K F ρ xs vs →
    (∀ (d : D) (h' : Hs) (v : V) (F' : Hp) (ρ' : List Addr) (H' : Hp), Same F F' → Pre ρ ρ' → Rel K Θ F' ρ' h' H' → RD K F' ρ' d v → R d h' → Q v H') → r vx vs H Q
structure En where
  nx : Env' → Hs → Prop
  rt : D → Hs → Prop
  bk : Env' → Hs → Prop := fun _ _ => False
  ct : Env' → Hs → Prop := fun _ _ => False
/-- what the reading's ends owe to the data's -/
structure EnOk (K : PySem.W.Frag) (Θ : Ctx) (F : Hp) (ρ : List Addr) (E : En) (D' : Ends) : Prop where
  nx : ∀ (env : Env') (h : Hs) (F' : Hp) (ρ' : List Addr) (σ : L2.St) (H : Hp), Same F F' → Pre ρ ρ' → Rel K Θ F' ρ' h H → REnv K F' ρ' env σ → E.nx env h → D'.nx σ H
  rt : ∀ (d : D) (h : Hs) (v : V) (F' : Hp) (ρ' : List Addr) (H : Hp), Same F F' → Pre ρ ρ' → Rel K Θ F' ρ' h H → RD K F' ρ' d v → E.rt d h → D'.rt v H
  bk : ∀ (env : Env') (h : Hs) (F' : Hp) (ρ' : List Addr) (σ : L2.St) (H : Hp), Same F F' → Pre ρ ρ' → Rel K Θ F' ρ' h H → REnv K F' ρ' env σ → E.bk env h → D'.bk σ H
  ct : ∀ (env : Env') (h : Hs) (F' : Hp) (ρ' : List Addr) (σ : L2.St) (H : Hp), Same F F' → Pre ρ ρ' → Rel K Θ F' ρ' h H → REnv K F' ρ' env σ → E.ct env h → D'.ct σ H
theorem EnOk.mono {F F' : Hp} {ρ ρ' : List Addr} {E : En} {D' : Ends} (e : Same F F') (p : Pre ρ ρ') (k : EnOk K Θ F ρ E D') : EnOk K Θ F' ρ' E D' :=
  ⟨fun env h F2 ρ2 σ H a b => k.nx env h F2 ρ2 σ H (e.trans a) (p.trans b), fun d h v F2 ρ2 H a b => k.rt d h v F2 ρ2 H (e.trans a) (p.trans b),
   fun env h F2 ρ2 σ H a b => k.bk env h F2 ρ2 σ H (e.trans a) (p.trans b), fun env h F2 ρ2 σ H a b => k.ct env h F2 ρ2 σ H (e.trans a) (p.trans b)⟩
def VS (K : PySem.W.Frag) (Θ : Ctx) (t : TS) (E : En) (env : Env') (h : Hs) : Prop :=
  ∀ (F : Hp) (ρ : List Addr) (σ : L2.St) (H : Hp) (D' : Ends), Rel K Θ F ρ h H → REnv K F ρ env σ → EnOk K Θ F ρ E D' → t D' σ H
/-- a target -/
def VG (K : PySem.W.Frag) (Θ : Ctx) (g : TG) (d : D) (env : Env') (h : Hs) (N : Env' → Hs → Prop) : Prop :=
  ∀ (F : Hp) (ρ : List Addr) (σ : L2.St) (H : Hp) (v : V) (Q : L2.St → Hp → Prop), Rel K Θ F ρ h H → REnv K F ρ env σ → RD K F ρ d v →
    (∀ (env' : Env') (h' : Hs) (F' : Hp) (ρ' : List Addr) (σ' : L2.St) (H' : Hp), Same F F' → Pre ρ ρ' → Rel K Θ F' ρ' h' H' → REnv K F' ρ' env' σ' → N env' h' → Q σ' H') → g v σ H Q
def VGs (K : PySem.W.Frag) (Θ : Ctx) (g : TGs) (ds : List D) (env : Env') (h : Hs) (N : Env' → Hs → Prop) : Prop :=
  ∀ (F : Hp) (ρ : List Addr) (σ : L2.St) (H : Hp) (vs : List V) (Q : L2.St → Hp → Prop), Rel K Θ F ρ h H → REnv K F ρ env σ → RA K F ρ ds vs →
    (∀ (env' : Env') (h' : Hs) (F' : Hp) (ρ' : List Addr) (σ' : L2.St) (H' : Hp), Same F F' → Pre ρ ρ' → Rel K Θ F' ρ' h' H' → REnv K F' ρ' env' σ' → N env' h' → Q σ' H') → g vs σ H Q
/-- a promise in data: W args heap what-follows -/
abbrev Spc := List D → Hs → (D → Hs → Prop) → Prop
def spD (K : PySem.W.Frag) (T : Tbs) (W : Spc) : Sp := fun vs H Q _ => ∃ (ds : List D) (h : Hs) (F : Hp) (ρ : List Addr) (R : D → Hs → Prop), Base K T F ρ h H ∧ RA K F ρ ds vs ∧ W ds h R ∧
  ∀ (d : D) (h' : Hs) (v : V) (F' : Hp) (ρ' : List Addr) (H' : Hp), Same F F' → Pre ρ ρ' → Base K T F' ρ' h' H' → RD K F' ρ' d v → R d h' → Q v H'
/-! ### heaps -/
theorem Base.free {F : Hp} {ρ : List Addr} {h : Hs} {H : Hp} (r : Base K T F ρ h H) {p : Addr} (e : H p = none) : F p = none := r.same.free e
theorem same_updB {F H : Hp} {p : Addr} {o : HO} (s : Same F H) : Same (upd F p o) (upd H p o) := fun b u e => by
  by_cases hb : b = p
  · subst hb; rw [upd_same] at e ⊢; exact e
  · rw [upd_ne hb] at e ⊢; exact s b u e
theorem same_new {F : Hp} {p : Addr} {o : HO} (h : F p = none) : Same F (upd F p o) := fun b u e => by
  rw [upd_ne (ne_of_none e h)]; exact e
theorem tab_ne {H : Hp} {P p : Addr} (t : GxR.TabG H P) (e : H p = none) : P ≠ p := by
  obtain ⟨ps, h1, _⟩ := t
  exact ne_of_none h1 e
theorem tab_upd {H : Hp} {P p : Addr} {o : HO} (t : GxR.TabG H P) (n : P ≠ p) : GxR.TabG (upd H p o) P := by
  obtain ⟨ps, h1, h2⟩ := t
  exact ⟨ps, by rw [upd_ne n]; exact h1, h2⟩
theorem RO.notTab {F : Hp} {ρ : List Addr} {o : OO} {ps : Array Value} (r : RO K F ρ o (.tbl ps)) : False := by
  cases o with
  | lst xs => obtain ⟨vs, e, _⟩ := r; cases e
  | ins C fs => obtain ⟨dx, gs, e, _⟩ := r; cases e
  | dK kvs => obtain ⟨gs, e, _⟩ := r; cases e
  | dT kvs => obtain ⟨gs, e, _⟩ := r; cases e
theorem tab_own {H F : Hp} {ρ : List Addr} {P a : Addr} {o : OO} {u : HO} (t : GxR.TabG H P) (e : H a = some u) (r : RO K F ρ o u) : P ≠ a := by
  obtain ⟨ps, h1, _⟩ := t
  rintro rfl
  rw [h1] at e
  cases e
  exact r.notTab
theorem lam_upd {H : Hp} {P p : Addr} {q : Str} {o : HO} (t : LamX.TabS H P q) (e : H p = none) : LamX.TabS (upd H p o) P q := t.ext fun b u eb => by rw [upd_ne (ne_of_none eb e)]; exact eb
theorem lam_ne {H : Hp} {P p : Addr} {q : Str} (t : LamX.TabS H P q) (e : H p = none) : P ≠ p := by
  obtain ⟨ps, h1, _⟩ := t
  exact ne_of_none h1 e
theorem lam_neO {H : Hp} {P p : Addr} {q : Str} {o : HO} (t : LamX.TabS H P q) (e : H p = some o) (n : ∀ ps, o ≠ .tbl ps) : P ≠ p := by
  obtain ⟨ps, h1, _⟩ := t
  rintro rfl
  rw [h1] at e
  exact n ps (Option.some.inj e).symm
theorem RO.notCode {F : Hp} {ρ : List Addr} {o : OO} {c : Addr} {q : Str} (r : RO K F ρ o (LamX.CodeO c q)) : False := by
  unfold LamX.CodeO at r
  cases o with
  | lst xs => obtain ⟨vs, e, _⟩ := r; cases e
  | ins C fs => obtain ⟨dx, gs, e, _⟩ := r; cases e
  | dK kvs => obtain ⟨gs, e, _⟩ := r; cases e
  | dT kvs => obtain ⟨gs, e, _⟩ := r; cases e
theorem lam_own {H F : Hp} {ρ : List Addr} {P a : Addr} {q : Str} {o : OO} {u : HO} (t : LamX.TabS H P q) (e : H a = some u) (r : RO K F ρ o u) (w : HO) : P ≠ a ∧ LamX.TabS (upd H a w) P q := by
  obtain ⟨ps, h1, h2, h3⟩ := t
  have n : P ≠ a := by
    rintro rfl
    rw [h1] at e
    cases e
    exact r.notTab
  refine ⟨n, ps, by rw [upd_ne n]; exact h1, h2, fun pos cv hc => ?_⟩
  obtain ⟨c, e1, e2⟩ := h3 pos cv hc
  refine ⟨c, e1, ?_⟩
  have n2 : c ≠ a := by
    rintro rfl
    rw [e2] at e
    cases e
    exact r.notCode
  rw [upd_ne n2]
  exact e2
/-- a new frozen thing -/
theorem Base.frz {F : Hp} {ρ : List Addr} {h : Hs} {H : Hp} (r : Base K T F ρ h H) {p : Addr} {o : HO} (e : H p = none) : Base K T (upd F p o) ρ h (upd H p o) := by
  have hF := r.free e
  refine ⟨same_updB r.same, r.len, fun i u hi => ?_, r.inj, fun P hP => ⟨by rw [upd_ne (tab_ne (r.tab P hP).2 e)]; exact (r.tab P hP).1, tab_upd (r.tab P hP).2 (tab_ne (r.tab P hP).2 e)⟩, fun q hq => ⟨by rw [upd_ne (lam_ne (r.lam q hq).2 e)]; exact (r.lam q hq).1, lam_upd (r.lam q hq).2 e⟩⟩
  obtain ⟨a, w, h1, h2, h3, h4⟩ := r.own i u hi
  have ha : a ≠ p := ne_of_none h3 e
  exact ⟨a, w, h1, by rw [upd_ne ha]; exact h2, by rw [upd_ne ha]; exact h3, h4.mono (same_new hF) (Pre.refl _)⟩
/-- a new owned thing -/
theorem Base.push {F : Hp} {ρ : List Addr} {h : Hs} {H : Hp} (r : Base K T F ρ h H) {p : Addr} {o : OO} {u : HO} (e : H p = none) (ro : RO K F ρ o u) : Base K T F (ρ ++ [p]) (h ++ [some o]) (upd H p u) := by
  have hF := r.free e
  have old : ∀ (i : Nat) (o : OO), h[i]? = some (some o) → ∀ a, ρ[i]? = some a → a ≠ p := fun i o hi a ha => by
    obtain ⟨a', w, h1, h2, h3, h4⟩ := r.own i o hi
    rw [h1] at ha; cases ha
    exact ne_of_none h3 e
  have cs : ∀ (i : Nat) (o' : OO), (h ++ [some o])[i]? = some (some o') → (i < h.length ∧ h[i]? = some (some o')) ∨ (i = h.length ∧ o' = o) := fun i o' hi => by
    by_cases hl : i < h.length
    · rw [List.getElem?_append_left hl] at hi; exact .inl ⟨hl, hi⟩
    · by_cases he : i = h.length
      · subst he
        rw [List.getElem?_append_right (Nat.le_refl _), Nat.sub_self] at hi
        simp at hi
        exact .inr ⟨rfl, hi.symm⟩
      · have : (h ++ [some o]).length ≤ i := by rw [List.length_append]; simp only [List.length_cons, List.length_nil]; omega
        rw [List.getElem?_eq_none_iff.mpr this] at hi; cases hi
  have pl : ∀ (i : Nat), i < h.length → (ρ ++ [p])[i]? = ρ[i]? := fun i hi => List.getElem?_append_left (by rw [r.len]; exact hi)
  have pr : (ρ ++ [p])[h.length]? = some p := by rw [List.getElem?_append_right (by rw [r.len]; exact Nat.le_refl _), r.len, Nat.sub_self]; rfl
  refine ⟨fun b o e' => ?_, by rw [List.length_append, List.length_append, r.len]; rfl, fun i o' hi => ?_, fun i j o1 o2 a hi hj ha hb => ?_, fun P hP => ⟨(r.tab P hP).1, tab_upd (r.tab P hP).2 (tab_ne (r.tab P hP).2 e)⟩, fun q hq => ⟨(r.lam q hq).1, lam_upd (r.lam q hq).2 e⟩⟩
  · rw [upd_ne (ne_of_none (r.same b o e') e)]; exact r.same b o e'
  · rcases cs i o' hi with ⟨hl, hi⟩ | ⟨rfl, rfl⟩
    · obtain ⟨a, w, h1, h2, h3, h4⟩ := r.own i o' hi
      exact ⟨a, w, by rw [pl i hl]; exact h1, h2, by rw [upd_ne (ne_of_none h3 e)]; exact h3, h4.mono (Same.refl _) (Pre.push _ _)⟩
    · exact ⟨p, u, pr, hF, upd_same, ro.mono (Same.refl _) (Pre.push _ _)⟩
  · rcases cs i o1 hi with ⟨hl, hi1⟩ | ⟨hl, _⟩ <;> rcases cs j o2 hj with ⟨hl2, hj1⟩ | ⟨hl2, _⟩
    · rw [pl i hl] at ha
      rw [pl j hl2] at hb
      exact r.inj i j o1 o2 a hi1 hj1 ha hb
    · rw [pl i hl] at ha
      rw [hl2, pr] at hb
      cases hb
      exact absurd rfl (old i o1 hi1 p ha)
    · rw [pl j hl2] at hb
      rw [hl, pr] at ha
      cases ha
      exact absurd rfl (old j o2 hj1 p hb)
    · rw [hl, hl2]
/-- an owned thing changes -/
theorem Base.put {F : Hp} {ρ : List Addr} {h : Hs} {H : Hp} (r : Base K T F ρ h H) {i : Nat} {a : Addr} {o o' : OO} {u : HO} (hi : h[i]? = some (some o)) (ha : ρ[i]? = some a) (ro : RO K F ρ o' u) : Base K T F ρ (h.set i (some o')) (upd H a u) := by
  obtain ⟨a1, w, h1, h2, h3, h4⟩ := r.own i o hi
  have ea : a1 = a := Option.some.inj (h1.symm.trans ha)
  rw [ea] at h1 h2 h3
  have hil : i < h.length := (List.getElem?_eq_some_iff.mp hi).1
  have cs : ∀ (j : Nat) (o2 : OO), (h.set i (some o'))[j]? = some (some o2) → (j = i ∧ o2 = o') ∨ (j ≠ i ∧ h[j]? = some (some o2)) := fun j o2 hj => by
    by_cases e : j = i
    · subst e; rw [List.getElem?_set_self hil] at hj; simp at hj; exact .inl ⟨rfl, hj.symm⟩
    · rw [List.getElem?_set_ne (Ne.symm e)] at hj; exact .inr ⟨e, hj⟩
  have old : ∀ (j : Nat) (o2 : OO), (h.set i (some o'))[j]? = some (some o2) → ∃ o3, h[j]? = some (some o3) := fun j o2 hj => by
    rcases cs j o2 hj with ⟨e, _⟩ | ⟨_, e⟩
    · rw [e]; exact ⟨o, hi⟩
    · exact ⟨o2, e⟩
  refine ⟨fun b o2 e => ?_, by rw [List.length_set]; exact r.len, fun j o2 hj => ?_, fun j k o1 o2 b hj hk hb hc => ?_, fun P hP => ⟨(r.tab P hP).1, tab_upd (r.tab P hP).2 (tab_own (r.tab P hP).2 h3 h4)⟩, fun q hq => ⟨(r.lam q hq).1, (lam_own (r.lam q hq).2 h3 h4 u).2⟩⟩
  · rw [upd_ne (ne_of_none e h2)]; exact r.same b o2 e
  · rcases cs j o2 hj with ⟨e1, e2⟩ | ⟨hne, hj1⟩
    · rw [e1, e2]; exact ⟨a, u, h1, h2, upd_same, ro⟩
    · obtain ⟨b, w2, g1, g2, g3, g4⟩ := r.own j o2 hj1
      have hb : b ≠ a := fun e => hne (r.inj j i o2 o b hj1 hi g1 (e ▸ h1))
      exact ⟨b, w2, g1, g2, by rw [upd_ne hb]; exact g3, g4⟩
  · obtain ⟨o3, g1⟩ := old j o1 hj
    obtain ⟨o4, g2⟩ := old k o2 hk
    exact r.inj j k o3 o4 b g1 g2 hb hc
/-- an owned thing is frozen from now on -/
theorem Base.freeze {F : Hp} {ρ : List Addr} {h : Hs} {H : Hp} (r : Base K T F ρ h H) {i : Nat} {o : OO} (hi : h[i]? = some (some o)) :
    ∃ a u, ρ[i]? = some a ∧ F a = none ∧ H a = some u ∧ RO K (upd F a u) ρ o u ∧ Base K T (upd F a u) ρ (h.set i none) H := by
  obtain ⟨a, u, h1, h2, h3, h4⟩ := r.own i o hi
  have hil : i < h.length := (List.getElem?_eq_some_iff.mp hi).1
  refine ⟨a, u, h1, h2, h3, h4.mono (same_new h2) (Pre.refl _), ⟨fun b o2 e => ?_, by rw [List.length_set]; exact r.len, fun j o2 hj => ?_, fun j k o1 o2 b hj hk hb hc => ?_, fun P hP => ⟨by rw [upd_ne (tab_own (r.tab P hP).2 h3 h4)]; exact (r.tab P hP).1, (r.tab P hP).2⟩, fun q hq => ⟨by rw [upd_ne (lam_own (r.lam q hq).2 h3 h4 u).1]; exact (r.lam q hq).1, (r.lam q hq).2⟩⟩⟩
  · by_cases hb : b = a
    · subst hb; rw [upd_same] at e; rw [h3]; exact e
    · rw [upd_ne hb] at e; exact r.same b o2 e
  · by_cases e : j = i
    · subst e; rw [List.getElem?_set_self hil] at hj; simp at hj
    · rw [List.getElem?_set_ne (Ne.symm e)] at hj
      obtain ⟨b, w2, g1, g2, g3, g4⟩ := r.own j o2 hj
      have hb : b ≠ a := fun z => e (r.inj j i o2 o b hj hi g1 (z ▸ h1))
      exact ⟨b, w2, g1, by rw [upd_ne hb]; exact g2, g3, g4.mono (same_new h2) (Pre.refl _)⟩
  · have sub : ∀ (j : Nat) (o2 : OO), (h.set i none)[j]? = some (some o2) → h[j]? = some (some o2) := fun j o2 hj => by
      by_cases e : j = i
      · subst e; rw [List.getElem?_set_self hil] at hj; simp at hj
      · rw [List.getElem?_set_ne (Ne.symm e)] at hj; exact hj
    exact r.inj _ _ _ _ b (sub _ _ hj) (sub _ _ hk) hb hc
theorem Rel.free {F : Hp} {ρ : List Addr} {h : Hs} {H : Hp} (r : Rel K Θ F ρ h H) {p : Addr} (e : H p = none) : F p = none := r.same.free e
theorem Rel.frz {F : Hp} {ρ : List Addr} {h : Hs} {H : Hp} (r : Rel K Θ F ρ h H) {p : Addr} {o : HO} (e : H p = none) : Rel K Θ (upd F p o) ρ h (upd H p o) := ⟨r.toBase.frz e, r.wish.mono (same_new (r.free e)) (Pre.refl _)⟩
theorem Rel.push {F : Hp} {ρ : List Addr} {h : Hs} {H : Hp} (r : Rel K Θ F ρ h H) {p : Addr} {o : OO} {u : HO} (e : H p = none) (ro : RO K F ρ o u) : Rel K Θ F (ρ ++ [p]) (h ++ [some o]) (upd H p u) := ⟨r.toBase.push e ro, r.wish.mono (Same.refl _) (Pre.push _ _)⟩
theorem Rel.put {F : Hp} {ρ : List Addr} {h : Hs} {H : Hp} (r : Rel K Θ F ρ h H) {i : Nat} {a : Addr} {o o' : OO} {u : HO} (hi : h[i]? = some (some o)) (ha : ρ[i]? = some a) (ro : RO K F ρ o' u) : Rel K Θ F ρ (h.set i (some o')) (upd H a u) := ⟨r.toBase.put hi ha ro, r.wish⟩
theorem Rel.freeze {F : Hp} {ρ : List Addr} {h : Hs} {H : Hp} (r : Rel K Θ F ρ h H) {i : Nat} {o : OO} (hi : h[i]? = some (some o)) :
    ∃ a u, ρ[i]? = some a ∧ F a = none ∧ H a = some u ∧ RO K (upd F a u) ρ o u ∧ Rel K Θ (upd F a u) ρ (h.set i none) H := by
  obtain ⟨a, u, h1, h2, h3, h4, h5⟩ := r.toBase.freeze hi
  exact ⟨a, u, h1, h2, h3, h4, h5, r.wish.mono (same_new h2) (Pre.refl _)⟩
end
end Kb

/-! The rules of the logic: expressions, statements. -/
namespace Kb
open PySem PySem.Spec PyProof.Rows L2
/-- a constant as data -/
inductive CD : P → V → Prop
  | non : CD .non .non
  | bl (b : Bool) : CD (.bl b) (.bl b)
  | int (i : Int) : CD (.int i) (.int i)
  | str (s : Str) : CD (.str s) (.str s)
  | ty (n : String) : CD (.ty n) (.ty n)
  | cls (C : Addr) : CD (.cls C) (.ref C)
section
variable {K : PySem.W.Frag} {Θ : Ctx} {env : Env'} {h : Hs} {ta tb te tc : TE} {R : D → Hs → Prop} {x y d : D}
theorem CD.rd {F : Hp} {ρ : List Addr} {d : P} {v : V} (c : CD d v) : RD K F ρ (.p d) v := by
  cases c
  · exact .p .non
  · exact .p (.bl _)
  · exact .p (.int _)
  · exact .p (.str _)
  · exact .p (.ty _)
  · exact .p (.cls _)
theorem RD.bl {F : Hp} {ρ : List Addr} {b : Bool} {v : V} (h : RD K F ρ (dB b) v) : v = .bl b := by
  cases h with
  | p h => cases h; rfl
theorem RD.int {F : Hp} {ρ : List Addr} {b : Int} {v : V} (h : RD K F ρ (dI b) v) : v = .int b := by
  cases h with
  | p h => cases h; rfl
theorem RD.str {F : Hp} {ρ : List Addr} {b : Str} {v : V} (h : RD K F ρ (dS b) v) : v = .str b := by
  cases h with
  | p h => cases h; rfl
theorem RD.non {F : Hp} {ρ : List Addr} {v : V} (h : RD K F ρ dN v) : v = .non := by
  cases h with
  | p h => cases h; rfl
theorem ve_var {i : Nat} (hd : env[i]? = some (some d)) (q : R d h) : VE K Θ (tVar i) env h R := fun F ρ σ H Q r e k => by
  obtain ⟨v, h1, h2⟩ := e.get i d hd
  exact ⟨v, h1, k d h v F ρ H (Same.refl _) (Pre.refl _) r h2 q⟩
theorem ve_c {v : V} {d : P} (c : CD d v) (q : R (.p d) h) : VE K Θ (tC v) env h R := fun F ρ σ H Q r e k => k (.p d) h v F ρ H (Same.refl _) (Pre.refl _) r c.rd q
theorem ve_int {i : Int} (q : R (dI i) h) : VE K Θ (tC (.int i)) env h R := ve_c (.int i) q
theorem ve_bl {b : Bool} (q : R (dB b) h) : VE K Θ (tC (.bl b)) env h R := ve_c (.bl b) q
theorem ve_str {s : Str} (q : R (dS s) h) : VE K Θ (tC (.str s)) env h R := ve_c (.str s) q
theorem ve_non (q : R dN h) : VE K Θ (tC .non) env h R := ve_c .non q
theorem ve_ty {n : String} (q : R (.p (.ty n)) h) : VE K Θ (tC (.ty n)) env h R := ve_c (.ty n) q
theorem ve_cls {C : Addr} (q : R (.p (.cls C)) h) : VE K Θ (tC (.ref C)) env h R := ve_c (.cls C) q
theorem ve_op {r : R2} (q : VE K Θ ta env h fun x h1 => VE K Θ tb env h1 fun y h2 => V2 K Θ r x y h2 R) : VE K Θ (tOp r ta tb) env h R := fun F ρ σ H Q rl e k =>
  q F ρ σ H _ rl e fun x h1 vx F1 ρ1 H1 s1 p1 r1 dx q1 => q1 F1 ρ1 σ H1 _ r1 (e.mono s1 p1) fun y h2 vy F2 ρ2 H2 s2 p2 r2 dy q2 =>
    q2 F2 ρ2 H2 vx vy Q r2 (dx.mono s2 p2) dy fun d h' v F' ρ' H' s3 p3 r3 dv q3 => k d h' v F' ρ' H' (s1.trans (s2.trans s3)) (p1.trans (p2.trans p3)) r3 dv q3
theorem ve_un {r : V → Hp → VK → Prop} (q : VE K Θ ta env h fun x h1 => V1 K Θ r x h1 R) : VE K Θ (tUn r ta) env h R := fun F ρ σ H Q rl e k =>
  q F ρ σ H _ rl e fun x h1 vx F1 ρ1 H1 s1 p1 r1 dx q1 => q1 F1 ρ1 H1 vx Q r1 dx fun d h' v F' ρ' H' s3 p3 r3 dv q3 => k d h' v F' ρ' H' (s1.trans s3) (p1.trans p3) r3 dv q3
theorem va_nil {R : List D → Hs → Prop} (q : R [] h) : VA K Θ tNil env h R := fun F ρ σ H Q r e k => k [] h [] F ρ H (Same.refl _) (Pre.refl _) r .nil q
theorem va_cons {tr : TA} {R : List D → Hs → Prop} (q : VE K Θ ta env h fun x h1 => VA K Θ tr env h1 fun xs h2 => R (x :: xs) h2) : VA K Θ (tCons ta tr) env h R := fun F ρ σ H Q rl e k =>
  q F ρ σ H _ rl e fun x h1 vx F1 ρ1 H1 s1 p1 r1 dx q1 => q1 F1 ρ1 σ H1 _ r1 (e.mono s1 p1) fun xs h2 vs F2 ρ2 H2 s2 p2 r2 dxs q2 =>
    k (x :: xs) h2 (vx :: vs) F2 ρ2 H2 (s1.trans s2) (p1.trans p2) r2 (.cons (dx.mono s2 p2) dxs) q2
theorem sz_le {n : Nat} (h : n ≤ 100000) : n ≤ sizeLine := Nat.le_trans h (by decide)
theorem ve_tup {t : TA} (q : VA K Θ t env h fun xs h1 => ∃ ps, xs = ps.map D.p ∧ xs.length ≤ sizeLine ∧ R (dT ps) h1) : VE K Θ (tTup t) env h R := fun F ρ σ H Q rl e k =>
  q F ρ σ H _ rl e fun xs h1 vs F1 ρ1 H1 s1 p1 r1 dxs q1 => by
    obtain ⟨ps, rfl, hl, q1⟩ := q1
    refine ⟨by rw [← dxs.len]; exact hl, fun p hp => ?_⟩
    exact k (dT ps) h1 (.ref p) (upd F1 p (.tup vs)) ρ1 _ (s1.trans (same_new (r1.free hp))) p1 (r1.frz hp) (.p (.tup (.of upd_same) (dxs.pure.mono (same_new (r1.free hp))))) q1
/-- a list display whose list stays as it is -/
theorem ve_lst {t : TA} (q : VA K Θ t env h fun xs h1 => ∃ ps, xs = ps.map D.p ∧ xs.length ≤ sizeLine ∧ R (dL ps) h1) : VE K Θ (tLst t) env h R := fun F ρ σ H Q rl e k =>
  q F ρ σ H _ rl e fun xs h1 vs F1 ρ1 H1 s1 p1 r1 dxs q1 => by
    obtain ⟨ps, rfl, hl, q1⟩ := q1
    refine ⟨by rw [← dxs.len]; exact hl, fun p hp => ?_⟩
    exact k (dL ps) h1 (.ref p) (upd F1 p (.lst vs)) ρ1 _ (s1.trans (same_new (r1.free hp))) p1 (r1.frz hp) (.p (.lst (.of upd_same) (dxs.pure.mono (same_new (r1.free hp))))) q1
/-- a list display that is owned -/
theorem ve_lstO {t : TA} (q : VA K Θ t env h fun xs h1 => xs.length ≤ sizeLine ∧ R (.own h1.length) (h1 ++ [some (.lst xs)])) : VE K Θ (tLst t) env h R := fun F ρ σ H Q rl e k =>
  q F ρ σ H _ rl e fun xs h1 vs F1 ρ1 H1 s1 p1 r1 dxs q1 => ⟨by rw [← dxs.len]; exact q1.1, fun p hp =>
    k (.own h1.length) (h1 ++ [some (.lst xs)]) (.ref p) F1 (ρ1 ++ [p]) _ s1 (p1.trans (Pre.push _ _)) (r1.push (o := .lst xs) hp ⟨vs, rfl, dxs⟩) (.own (by rw [← r1.len]; simp)) q1.2⟩
theorem ve_cb {r : List V → Hp → VK → Prop} {t : TA} (q : VA K Θ t env h fun xs h1 => VC K Θ r xs h1 R) : VE K Θ (tCB r t) env h R := fun F ρ σ H Q rl e k =>
  q F ρ σ H _ rl e fun xs h1 vs F1 ρ1 H1 s1 p1 r1 dxs q1 => q1 F1 ρ1 H1 vs Q r1 dxs fun d h' v F' ρ' H' s3 p3 r3 dv q3 => k d h' v F' ρ' H' (s1.trans s3) (p1.trans p3) r3 dv q3
theorem ve_call {W : Spc} {E : XK} {t : TA} (q : VA K Θ t env h fun xs h1 => W xs h1 R) : VE K Θ (tCall (spD K Θ.tabs W) [] E t) env h R := fun F ρ σ H Q rl e k =>
  q F ρ σ H _ rl e fun xs h1 vs F1 ρ1 H1 s1 p1 r1 dxs q1 => ⟨xs, h1, F1, ρ1, R, r1.toBase, by rw [List.append_nil]; exact dxs, q1, fun d h' v F' ρ' H' s3 p3 r3 dv q3 => k d h' v F' ρ' H' (s1.trans s3) (p1.trans p3) ⟨r3, r1.wish.mono s3 p3⟩ dv q3⟩
/-- of what built-in type -/
def TyD (T : String) (d : D) (h : Hs) : Prop := match d with
  | .p (.str _) => T = "str"
  | .p (.int _) => T = "int"
  | .p (.lst _) => T = "list"
  | .own i => T = "list" ∧ ∃ xs, h[i]? = some (some (.lst xs))
  | _ => False
theorem TyD.v {T : String} {F : Hp} {ρ : List Addr} {h : Hs} {H : Hp} {d : D} {v : V} (r : Rel K Θ F ρ h H) (q : RD K F ρ d v) (t : TyD T d h) : tyV K T v H := by
  cases q with
  | p q =>
    cases q with
    | str s => exact t
    | int i => exact t
    | lst a b => exact .inl ⟨t, _, r.same.seq a⟩
    | _ => exact t.elim
  | own e =>
    obtain ⟨h1, xs, hx⟩ := t
    obtain ⟨a, u, e1, e2, e3, vs, e4, _⟩ := r.own _ _ hx
    rw [e] at e1; cases e1
    subst e4
    exact .inl ⟨h1, vs, .of e3⟩
theorem ve_bm {T : String} {r : V → List V → Hp → VK → Prop} {to : TE} {t : TA}
    (q : VE K Θ to env h fun x h1 => TyD T x h1 ∧ VA K Θ t env h1 fun xs h2 => VM K Θ r x xs h2 R) : VE K Θ (tBM K T r to t) env h R := fun F ρ σ H Q rl e k =>
  q F ρ σ H _ rl e fun x h1 vx F1 ρ1 H1 s1 p1 r1 dx q1 => ⟨q1.1.v r1 dx, q1.2 F1 ρ1 σ H1 _ r1 (e.mono s1 p1) fun xs h2 vs F2 ρ2 H2 s2 p2 r2 dxs q2 =>
    q2 F2 ρ2 H2 vx vs Q r2 (dx.mono s2 p2) dxs fun d h' v F' ρ' H' s3 p3 r3 dv q3 => k d h' v F' ρ' H' (s1.trans (s2.trans s3)) (p1.trans (p2.trans p3)) r3 dv q3⟩
/-- an attribute of an instance that stays; of one that is owned -/
def FldD (f : Str) (x : D) (h : Hs) (C : Addr) (d : D) : Prop := match x with
  | .p (.ins C' fs) => C' = C ∧ (fs.map fun q => (q.1, D.p q.2)).lookup f = some d
  | .own i => ∃ fs, h[i]? = some (some (.ins C fs)) ∧ fs.lookup f = some d
  | _ => False
theorem ve_fld {f : Str} (q : VE K Θ ta env h fun x h1 => ∃ C d, Cls K C ∧ NoAttr K C f ∧ FldD f x h1 C d ∧ R d h1) : VE K Θ (tFld K ta f) env h R := fun F ρ σ H Q rl e k =>
  q F ρ σ H _ rl e fun x h1 vx F1 ρ1 H1 s1 p1 r1 dx q1 => by
    obtain ⟨C, d, c, n, l, q1⟩ := q1
    cases dx with
    | p dx =>
      cases dx with
      | ins a b =>
        obtain ⟨rfl, l⟩ := l
        obtain ⟨v, l1, l2⟩ := (b.data (ρ := ρ1)).look l
        exact ⟨_, _, _, _, v, rfl, r1.same _ _ a, c, n, l1, k d h1 v F1 ρ1 H1 s1 p1 r1 l2 q1⟩
      | _ => exact l.elim
    | own hi =>
      obtain ⟨fs, hx, l⟩ := l
      obtain ⟨a, u, e1, e2, e3, dx, gs, e4, e5⟩ := r1.own _ _ hx
      rw [hi] at e1; cases e1
      subst e4
      obtain ⟨v, l1, l2⟩ := e5.look l
      exact ⟨_, _, _, _, v, rfl, e3, c, n, l1, k d h1 v F1 ρ1 H1 s1 p1 r1 l2 q1⟩
theorem ve_if {tt : TT} (q : VT K Θ tt env h fun b h1 => if b = true then VE K Θ ta env h1 R else VE K Θ tb env h1 R) : VE K Θ (tIf tt ta tb) env h R := fun F ρ σ H Q rl e k =>
  q F ρ σ H _ rl e fun b h1 F1 ρ1 H1 s1 p1 r1 q1 => by
    cases b with
    | true => exact q1 F1 ρ1 σ H1 Q r1 (e.mono s1 p1) fun d h' v F' ρ' H' s3 p3 r3 dv q3 => k d h' v F' ρ' H' (s1.trans s3) (p1.trans p3) r3 dv q3
    | false => exact q1 F1 ρ1 σ H1 Q r1 (e.mono s1 p1) fun d h' v F' ρ' H' s3 p3 r3 dv q3 => k d h' v F' ρ' H' (s1.trans s3) (p1.trans p3) r3 dv q3
theorem ve_and (q : VE K Θ ta env h fun x h1 => ∃ c, x = dB c ∧ if c = true then VE K Θ tb env h1 R else R (dB false) h1) : VE K Θ (tAndV ta tb) env h R := fun F ρ σ H Q rl e k =>
  q F ρ σ H _ rl e fun x h1 vx F1 ρ1 H1 s1 p1 r1 dx q1 => by
    obtain ⟨c, rfl, q1⟩ := q1
    obtain rfl := dx.bl
    refine ⟨c, rfl, ?_⟩
    cases c with
    | true => exact q1 F1 ρ1 σ H1 Q r1 (e.mono s1 p1) fun d h' v F' ρ' H' s3 p3 r3 dv q3 => k d h' v F' ρ' H' (s1.trans s3) (p1.trans p3) r3 dv q3
    | false => exact k (dB false) h1 (.bl false) F1 ρ1 H1 s1 p1 r1 (.p (.bl false)) q1
theorem ve_or (q : VE K Θ ta env h fun x h1 => ∃ c, x = dB c ∧ if c = true then R (dB true) h1 else VE K Θ tb env h1 R) : VE K Θ (tOrV ta tb) env h R := fun F ρ σ H Q rl e k =>
  q F ρ σ H _ rl e fun x h1 vx F1 ρ1 H1 s1 p1 r1 dx q1 => by
    obtain ⟨c, rfl, q1⟩ := q1
    obtain rfl := dx.bl
    refine ⟨c, rfl, ?_⟩
    cases c with
    | true => exact k (dB true) h1 (.bl true) F1 ρ1 H1 s1 p1 r1 (.p (.bl true)) q1
    | false => exact q1 F1 ρ1 σ H1 Q r1 (e.mono s1 p1) fun d h' v F' ρ' H' s3 p3 r3 dv q3 => k d h' v F' ρ' H' (s1.trans s3) (p1.trans p3) r3 dv q3
theorem ve_not (q : VE K Θ ta env h fun x h1 => ∃ c, x = dB c ∧ R (dB (!c)) h1) : VE K Θ (tNotV ta) env h R := fun F ρ σ H Q rl e k =>
  q F ρ σ H _ rl e fun x h1 vx F1 ρ1 H1 s1 p1 r1 dx q1 => by
    obtain ⟨c, rfl, q1⟩ := q1
    obtain rfl := dx.bl
    exact ⟨c, rfl, k _ h1 _ F1 ρ1 H1 s1 p1 r1 (.p (.bl _)) q1⟩
theorem ve_chain {r r' : R2} (q : VE K Θ ta env h fun x h1 => VE K Θ tb env h1 fun y h2 => V2 K Θ r x y h2 fun z h3 => ∃ c, z = dB c ∧ if c = true then VE K Θ tc env h3 fun w h4 => V2 K Θ r' y w h4 R else R (dB false) h3) : VE K Θ (tChain r r' ta tb tc) env h R := by
  intro F ρ σ H Q rl e k
  refine q F ρ σ H _ rl e fun x h1 vx F1 ρ1 H1 s1 p1 r1 dx q1 => ?_
  refine q1 F1 ρ1 σ H1 _ r1 (e.mono s1 p1) fun y h2 vy F2 ρ2 H2 s2 p2 r2 dy q2 => ?_
  refine q2 F2 ρ2 H2 vx vy _ r2 (dx.mono s2 p2) dy fun z h3 vz F3 ρ3 H3 s3 p3 r3 dz q3 => ?_
  obtain ⟨c, rfl, q3⟩ := q3
  obtain rfl := dz.bl
  refine ⟨c, rfl, ?_⟩
  have s13 := s1.trans (s2.trans s3)
  have p13 := p1.trans (p2.trans p3)
  cases c with
  | true =>
    refine q3 F3 ρ3 σ H3 _ r3 (e.mono s13 p13) fun w h4 vw F4 ρ4 H4 s4 p4 r4 dw q4 => ?_
    exact q4 F4 ρ4 H4 vy vw Q r4 (dy.mono (s3.trans s4) (p3.trans p4)) dw fun d h' v F' ρ' H' s5 p5 r5 dv q5 => k d h' v F' ρ' H' (s13.trans (s4.trans s5)) (p13.trans (p4.trans p5)) r5 dv q5
  | false => exact k (dB false) h3 (.bl false) F3 ρ3 H3 s13 p13 r3 (.p (.bl false)) q3
/-! ### tests -/
variable {tt uu : TT} {B : Bool → Hs → Prop}
theorem vt_test (q : VE K Θ ta env h fun x h1 => ∃ c, x = dB c ∧ B c h1) : VT K Θ (tTest ta) env h B := fun F ρ σ H Q rl e k =>
  q F ρ σ H _ rl e fun x h1 vx F1 ρ1 H1 s1 p1 r1 dx q1 => by
    obtain ⟨c, rfl, q1⟩ := q1
    obtain rfl := dx.bl
    exact ⟨c, rfl, k c h1 F1 ρ1 H1 s1 p1 r1 q1⟩
theorem vt_B (q : VE K Θ ta env h fun x h1 => ∃ c, x = dB c ∧ B c h1) : VT K Θ (tB ta) env h B := fun F ρ σ H Q rl e k =>
  q F ρ σ H _ rl e fun x h1 vx F1 ρ1 H1 s1 p1 r1 dx q1 => by
    obtain ⟨c, rfl, q1⟩ := q1
    obtain rfl := dx.bl
    exact ⟨c, rfl, k c h1 F1 ρ1 H1 s1 p1 r1 q1⟩
theorem vt_and (q : VT K Θ tt env h fun c h1 => if c = true then VT K Θ uu env h1 B else B false h1) : VT K Θ (tAnd tt uu) env h B := fun F ρ σ H Q rl e k =>
  q F ρ σ H _ rl e fun c h1 F1 ρ1 H1 s1 p1 r1 q1 => by
    cases c with
    | true => exact q1 F1 ρ1 σ H1 Q r1 (e.mono s1 p1) fun b h' F' ρ' H' s3 p3 r3 q3 => k b h' F' ρ' H' (s1.trans s3) (p1.trans p3) r3 q3
    | false => exact k false h1 F1 ρ1 H1 s1 p1 r1 q1
theorem vt_or (q : VT K Θ tt env h fun c h1 => if c = true then B true h1 else VT K Θ uu env h1 B) : VT K Θ (tOr tt uu) env h B := fun F ρ σ H Q rl e k =>
  q F ρ σ H _ rl e fun c h1 F1 ρ1 H1 s1 p1 r1 q1 => by
    cases c with
    | true => exact k true h1 F1 ρ1 H1 s1 p1 r1 q1
    | false => exact q1 F1 ρ1 σ H1 Q r1 (e.mono s1 p1) fun b h' F' ρ' H' s3 p3 r3 q3 => k b h' F' ρ' H' (s1.trans s3) (p1.trans p3) r3 q3
theorem vt_not (q : VT K Θ tt env h fun c h1 => B (!c) h1) : VT K Θ (tNot tt) env h B := fun F ρ σ H Q rl e k =>
  q F ρ σ H _ rl e fun c h1 F1 ρ1 H1 s1 p1 r1 q1 => k (!c) h1 F1 ρ1 H1 s1 p1 r1 q1
/-- truth of a datum -/
def TruD (d : D) (h : Hs) (k : Bool) : Prop := match d with
  | .p .non => k = false
  | .p (.bl b) => k = b
  | .p (.int i) => k = (i != 0)
  | .p (.str y) => y.length ≤ sizeLine ∧ k = ((y.length : Int) != 0)
  | .p (.lst xs) => k = !xs.isEmpty
  | .p (.tup xs) => k = !xs.isEmpty
  | .p (.ktp xs) => k = !xs.isEmpty
  | .own i => ∃ xs, h[i]? = some (some (.lst xs)) ∧ k = !xs.isEmpty
  | _ => False
theorem RA.empty {F : Hp} {ρ : List Addr} {xs : List D} {vs : List V} (r : RA K F ρ xs vs) : (!vs.isEmpty) = !xs.isEmpty := by
  cases r <;> rfl
theorem RPs.empty {F : Hp} {xs : List P} {vs : List V} (r : RPs K F xs vs) : (!vs.isEmpty) = !xs.isEmpty := by
  cases r <;> rfl
theorem TruD.v {F : Hp} {ρ : List Addr} {h : Hs} {H : Hp} {d : D} {v : V} {k : Bool} (r : Rel K Θ F ρ h H) (q : RD K F ρ d v) (t : TruD d h k) : TruV K v H k := by
  cases q with
  | p q =>
    cases q with
    | lst a b => exact .inl ⟨_, r.same.seq a, by rw [b.empty]; exact t⟩
    | tup a b => exact .inr (.inl ⟨_, sqT_mono r.same a, by rw [b.empty]; exact t⟩)
    | ktp a b => exact .inr (.inl ⟨_, a _, by rw [b.empty]; exact t⟩)
    | ins => exact t.elim
    | ty => exact t.elim
    | cls => exact t.elim
    | _ => exact t
  | own e =>
    obtain ⟨xs, hx, t⟩ := t
    obtain ⟨a, u, e1, e2, e3, vs, e4, e5⟩ := r.own _ _ hx
    rw [e] at e1; cases e1
    subst e4
    exact .inl ⟨vs, .of e3, by rw [e5.empty]; exact t⟩
theorem vt_truth (q : VE K Θ ta env h fun x h1 => ∃ c, TruD x h1 c ∧ B c h1) : VT K Θ (fun σ H Q => ta σ H fun x H' => ∃ k, TruV K x H' k ∧ Q k H') env h B := fun F ρ σ H Q rl e k =>
  q F ρ σ H _ rl e fun x h1 vx F1 ρ1 H1 s1 p1 r1 dx q1 => by
    obtain ⟨c, t, q1⟩ := q1
    exact ⟨c, t.v r1 dx, k c h1 F1 ρ1 H1 s1 p1 r1 q1⟩
/-! ### statements -/
variable {t1 t2 : TS} {E : En}
theorem vs_seq (q : VS K Θ t1 { E with nx := VS K Θ t2 E } env h) : VS K Θ (tSeq t1 t2) E env h := fun F ρ σ H D' rl e k =>
  q F ρ σ H _ rl e ⟨fun env' h' F' ρ' σ' H' s p r e' q' => q' F' ρ' σ' H' D' r e' (k.mono s p), k.rt, k.bk, k.ct⟩
theorem vs_next (q : E.nx env h) : VS K Θ tNext E env h := fun F ρ σ H D' rl e k => k.nx env h F ρ σ H (Same.refl _) (Pre.refl _) rl e q
theorem vs_asg {g : TG} (q : VE K Θ ta env h fun d h1 => VG K Θ g d env h1 E.nx) : VS K Θ (tAsg ta g) E env h := fun F ρ σ H D' rl e k =>
  q F ρ σ H _ rl e fun x h1 vx F1 ρ1 H1 s1 p1 r1 dx q1 => q1 F1 ρ1 σ H1 vx _ r1 (e.mono s1 p1) dx fun env' h' F' ρ' σ' H' s2 p2 r2 e2 q2 => k.nx env' h' F' ρ' σ' H' (s1.trans s2) (p1.trans p2) r2 e2 q2
theorem vs_if (q : VT K Θ tt env h fun b h1 => if b = true then VS K Θ t1 E env h1 else VS K Θ t2 E env h1) : VS K Θ (tIfS tt t1 t2) E env h := fun F ρ σ H D' rl e k =>
  q F ρ σ H _ rl e fun b h1 F1 ρ1 H1 s1 p1 r1 q1 => by
    cases b with
    | true => exact q1 F1 ρ1 σ H1 D' r1 (e.mono s1 p1) (k.mono s1 p1)
    | false => exact q1 F1 ρ1 σ H1 D' r1 (e.mono s1 p1) (k.mono s1 p1)
theorem vs_ret (q : VE K Θ ta env h E.rt) : VS K Θ (tRet ta) E env h := fun F ρ σ H D' rl e k =>
  q F ρ σ H _ rl e fun d h1 v F1 ρ1 H1 s1 p1 r1 dv q1 => k.rt d h1 v F1 ρ1 H1 s1 p1 r1 dv q1
theorem vs_drop (q : VE K Θ ta env h fun _ h1 => E.nx env h1) : VS K Θ (tDrop ta) E env h := fun F ρ σ H D' rl e k =>
  q F ρ σ H _ rl e fun d h1 v F1 ρ1 H1 s1 p1 r1 dv q1 => k.nx env h1 F1 ρ1 σ H1 s1 p1 r1 (e.mono s1 p1) q1
theorem vg_name {i : Nat} {N : Env' → Hs → Prop} (q : N (env.set i (some d)) h) : VG K Θ (gName i) d env h N := fun F ρ σ H v Q rl e dv k =>
  k (env.set i (some d)) h F ρ (σ.set i (some v)) H (Same.refl _) (Pre.refl _) rl (e.set dv) q
theorem vgs_nil {N : Env' → Hs → Prop} (q : N env h) : VGs K Θ gNil [] env h N := fun F ρ σ H vs Q rl e dv k => by
  cases dv
  exact ⟨rfl, k env h F ρ σ H (Same.refl _) (Pre.refl _) rl e q⟩
theorem vgs_cons {g : TG} {gs : TGs} {ds : List D} {N : Env' → Hs → Prop} (q : VG K Θ g d env h fun env' h' => VGs K Θ gs ds env' h' N) : VGs K Θ (gCons g gs) (d :: ds) env h N := fun F ρ σ H vs Q rl e dv k => by
  cases dv with
  | cons a b =>
    exact ⟨_, _, rfl, q F ρ σ H _ _ rl e a fun env' h' F' ρ' σ' H' s p r e' q' => q' F' ρ' σ' H' _ _ r e' (b.mono s p) fun env2 h2 F2 ρ2 σ2 H2 s2 p2 r2 e2 q2 => k env2 h2 F2 ρ2 σ2 H2 (s.trans s2) (p.trans p2) r2 e2 q2⟩
theorem vg_tup {n : Nat} {gs : TGs} {ds : List P} {N : Env' → Hs → Prop} (hl : ds.length = n) (q : VGs K Θ gs (ds.map D.p) env h N) : VG K Θ (gTup K n gs) (dT ds) env h N := fun F ρ σ H v Q rl e dv k => by
  cases dv with
  | p dv =>
    cases dv with
    | tup a b => exact ⟨_, _, rfl, sqT_mono rl.same a, by rw [← b.len]; exact hl, q F ρ σ H _ Q rl e b.data k⟩
/-- o.f = v, o an instance that is owned -/
theorem vs_fld {f : Str} {tv to : TE} (q : VE K Θ tv env h fun y h1 => VE K Θ to env h1 fun x h2 => ∃ n C fs, x = .own n ∧ h2[n]? = some (some (.ins C fs)) ∧ Cls K C ∧ NoAttr K C f ∧ fs.length < 1000 ∧ E.nx env (h2.set n (some (.ins C (putD f y fs))))) :
    VS K Θ (sFld K to tv f) E env h := fun F ρ σ H D' rl e k =>
  q F ρ σ H _ rl e fun y h1 vy F1 ρ1 H1 s1 p1 r1 dy q1 => q1 F1 ρ1 σ H1 _ r1 (e.mono s1 p1) fun x h2 vx F2 ρ2 H2 s2 p2 r2 dx q2 => by
    obtain ⟨n, C, fs, rfl, hx, c, na, hl, q2⟩ := q2
    cases dx with
    | own ho =>
      obtain ⟨a, u, e1, e2, e3, dx, gs, e4, e5⟩ := r2.own _ _ hx
      rw [ho] at e1; cases e1
      subst e4
      refine ⟨_, C, dx, gs, rfl, e3, c, na, by rw [← e5.len]; exact hl, ?_⟩
      exact k.nx env _ F2 ρ2 σ _ (s1.trans s2) (p1.trans p2) (r2.put (o' := .ins C (putD f y fs)) hx ho ⟨dx, _, rfl, RF.put (dy.mono s2 p2) e5⟩) (e.mono (s1.trans s2) (p1.trans p2)) q2
theorem VE.imp {R' : D → Hs → Prop} (q : VE K Θ ta env h R) (w : ∀ d h, R d h → R' d h) : VE K Θ ta env h R' := fun F ρ σ H Q rl e k => q F ρ σ H Q rl e fun d h' v F' ρ' H' s p r dv q' => k d h' v F' ρ' H' s p r dv (w d h' q')
theorem VT.imp {B' : Bool → Hs → Prop} (q : VT K Θ tt env h B) (w : ∀ b h, B b h → B' b h) : VT K Θ tt env h B' := fun F ρ σ H Q rl e k => q F ρ σ H Q rl e fun d h' F' ρ' H' s p r q' => k d h' F' ρ' H' s p r (w d h' q')
theorem VS.imp {E' : En} (q : VS K Θ t1 E env h) (w1 : ∀ e h, E.nx e h → E'.nx e h) (w2 : ∀ d h, E.rt d h → E'.rt d h) (w3 : ∀ e h, E.bk e h → E'.bk e h) (w4 : ∀ e h, E.ct e h → E'.ct e h) : VS K Θ t1 E' env h := fun F ρ σ H D' rl e k =>
  q F ρ σ H D' rl e ⟨fun a b c d e f g h i j l => k.nx a b c d e f g h i j (w1 _ _ l), fun a b c d e f g h i j l => k.rt a b c d e f g h i j (w2 _ _ l) , fun a b c d e f g h i j l => k.bk a b c d e f g h i j (w3 _ _ l), fun a b c d e f g h i j l => k.ct a b c d e f g h i j (w4 _ _ l)⟩
end
end Kb

/-! Loops, comprehensions; operations upon data; defs. -/
namespace Kb
open PySem PySem.Spec PyProof.Rows L2
section
variable {K : PySem.W.Frag} {Θ : Ctx} {env : Env'} {h : Hs} {ta tb te tc : TE} {R : D → Hs → Prop} {x y d : D}
/-! ### what is walked -/
/-- J walks ds while C holds of what is owned -/
structure ItOk (K : PySem.W.Frag) (Θ : Ctx) (F : Hp) (ρ : List Addr) (C : Hs → Prop) (ds : List D) (J : It) : Prop where
  stop : ∀ (F' : Hp) (ρ' : List Addr) (h : Hs) (H : Hp), Same F F' → Pre ρ ρ' → Rel K Θ F' ρ' h H → C h → J.stop ds.length H
  go : ∀ (i : Nat) (F' : Hp) (ρ' : List Addr) (h : Hs) (H : Hp), Same F F' → Pre ρ ρ' → Rel K Θ F' ρ' h H → C h → i < ds.length → J.go i H
  yld : ∀ (i : Nat) (d : D) (F' : Hp) (ρ' : List Addr) (h : Hs) (H : Hp) (x : V) (H' : Hp), Same F F' → Pre ρ ρ' → Rel K Θ F' ρ' h H → C h → ds[i]? = some d → J.yld i H x H' →
    ∃ F2 : Hp, Same F' F2 ∧ Rel K Θ F2 ρ' h H' ∧ RD K F2 ρ' d x
def VI (K : PySem.W.Frag) (Θ : Ctx) (wi : TI) (env : Env') (h : Hs) (R : List D → (Hs → Prop) → Hs → Prop) : Prop :=
  ∀ (F : Hp) (ρ : List Addr) (σ : L2.St) (H : Hp) (Q : It → Hp → Prop), Rel K Θ F ρ h H → REnv K F ρ env σ →
    (∀ (ds : List D) (C : Hs → Prop) (h' : Hs) (J : It) (F' : Hp) (ρ' : List Addr) (H' : Hp), Same F F' → Pre ρ ρ' → Rel K Θ F' ρ' h' H' → ItOk K Θ F' ρ' C ds J → R ds C h' → Q J H') → wi σ H Q
/-- the numbers lo, lo + 1, .. -/
def rng (lo : Int) (n : Nat) : List D := (List.range n).map fun (i : Nat) => dI (lo + (i : Int))
theorem rng_len (lo : Int) (n : Nat) : (rng lo n).length = n := by simp [rng]
theorem rng_get {lo : Int} {n i : Nat} {d : D} (hd : (rng lo n)[i]? = some d) : i < n ∧ d = dI (lo + (i : Int)) := by
  have hl : i < (rng lo n).length := (List.getElem?_eq_some_iff.mp hd).1
  rw [rng_len] at hl
  refine ⟨hl, ?_⟩
  unfold rng at hd
  rw [List.getElem?_map, List.getElem?_range hl] at hd
  exact (Option.some.inj hd).symm
theorem itr_ok {F : Hp} {ρ : List Addr} {lo : Int} {n : Nat} : ItOk K Θ F ρ (fun _ => True) (rng lo n) (Itr lo n) :=
  ⟨fun F' ρ' h H s p r c => by rw [rng_len]; exact Nat.le_refl n, fun i F' ρ' h H s p r c hi => by rw [rng_len] at hi; exact hi, fun i d F' ρ' h H x H' s p r c hd hy => by
    obtain ⟨e1, e2⟩ := hy
    subst e1 e2
    rw [(rng_get hd).2]
    exact ⟨F', Same.refl _, r, .p (.int _)⟩⟩
theorem vi_range1 {t : TA} {R : List D → (Hs → Prop) → Hs → Prop} (q : VA K Θ t env h fun xs h1 => ∃ j : Int, xs = [dI j] ∧ -(2 ^ 62) ≤ j ∧ j < 2 ^ 62 ∧ R (rng 0 j.toNat) (fun _ => True) h1) : VI K Θ (iRng1 t) env h R := fun F ρ σ H Q rl e k =>
  q F ρ σ H _ rl e fun xs h1 vs F1 ρ1 H1 s1 p1 r1 dx q1 => by
    obtain ⟨j, rfl, b1, b2, q1⟩ := q1
    cases dx with
    | cons a b =>
      cases b
      obtain rfl := a.int
      exact ⟨j, rfl, b1, b2, k _ _ h1 _ F1 ρ1 H1 s1 p1 r1 itr_ok q1⟩
theorem vs_for {wi : TI} {g : TG} {tb : TS} {E : En} (q : VI K Θ wi env h fun ds C h1 => ∃ Inv : Nat → Env' → Hs → Prop, Inv 0 env h1 ∧ (∀ i env h, Inv i env h → C h) ∧
    (∀ i d env h, ds[i]? = some d → Inv i env h → VG K Θ g d env h fun env' h' => VS K Θ tb { E with nx := Inv (i + 1), ct := Inv (i + 1), bk := E.nx } env' h') ∧ (∀ env h, Inv ds.length env h → E.nx env h)) : VS K Θ (tFor wi g tb) E env h := fun F ρ σ H D' rl e k =>
  q F ρ σ H _ rl e fun ds C h1 J F1 ρ1 H1 s1 p1 r1 it q1 => by
    obtain ⟨Inv, i0, iC, turn, fin⟩ := q1
    have e1 := e.mono s1 p1
    refine ⟨fun i m σ H => m = ds.length - i ∧ i ≤ ds.length ∧ ∃ env h F' ρ', Same F1 F' ∧ Pre ρ1 ρ' ∧ Rel K Θ F' ρ' h H ∧ REnv K F' ρ' env σ ∧ Inv i env h, ⟨ds.length, by simp, Nat.zero_le _, env, h1, F1, ρ1, Same.refl _, Pre.refl _, r1, e1, i0⟩, ?_⟩
    rintro i m σ H ⟨rfl, hi, env, h, F', ρ', s, p, r, e', iv⟩
    have c := iC i env h iv
    by_cases hlt : i < ds.length
    · refine .inr ⟨it.go i F' ρ' h H s p r c hlt, fun σ' H' => ∃ env h F2 ρ2, Same F1 F2 ∧ Pre ρ1 ρ2 ∧ Rel K Θ F2 ρ2 h H' ∧ REnv K F2 ρ2 env σ' ∧ Inv (i + 1) env h, fun σ' H' n => ⟨ds.length - (i + 1), by omega, rfl, hlt, n⟩, fun x H' hy => ?_⟩
      have hd : ds[i]? = some ds[i] := List.getElem?_eq_getElem hlt
      obtain ⟨F2, s2, r2, dx⟩ := it.yld i _ F' ρ' h H x H' s p r c hd hy
      refine turn i _ env h hd iv F2 ρ' σ H' x _ r2 (e'.mono s2 (Pre.refl _)) dx fun env3 h3 F3 ρ3 σ3 H3 s3 p3 r3 e3 q3 => ?_
      have ss : Same F1 F3 := s.trans (s2.trans s3)
      have pp : Pre ρ1 ρ3 := p.trans p3
      have kk := k.mono (s1.trans ss) (p1.trans pp)
      refine q3 F3 ρ3 σ3 H3 _ r3 e3 ⟨fun env4 h4 F4 ρ4 σ4 H4 s4 p4 r4 e4 q4 => ⟨env4, h4, F4, ρ4, ss.trans s4, pp.trans p4, r4, e4, q4⟩, kk.rt, kk.nx, fun env4 h4 F4 ρ4 σ4 H4 s4 p4 r4 e4 q4 => ⟨env4, h4, F4, ρ4, ss.trans s4, pp.trans p4, r4, e4, q4⟩⟩
    · have ei : i = ds.length := by omega
      subst ei
      exact .inl ⟨it.stop F' ρ' h H s p r c, k.nx env h F' ρ' σ H (s1.trans s) (p1.trans p) r e' (fin env h iv)⟩
theorem vs_while {c : TT} {tb : TS} {E : En} (Inv : Env' → Hs → Prop) (μ : Env' → Hs → Nat) (i0 : Inv env h)
    (turn : ∀ env h, Inv env h → VT K Θ c env h fun b h1 => if b = true then VS K Θ tb { E with nx := fun env' h' => Inv env' h' ∧ μ env' h' < μ env h, ct := fun env' h' => Inv env' h' ∧ μ env' h' < μ env h, bk := E.nx } env h1 else E.nx env h1) :
    VS K Θ (tWhile c tb) E env h := fun F ρ σ H D' rl e k => by
  refine ⟨fun m σ H => ∃ env h F' ρ', Same F F' ∧ Pre ρ ρ' ∧ Rel K Θ F' ρ' h H ∧ REnv K F' ρ' env σ ∧ Inv env h ∧ m = μ env h, ⟨_, env, h, F, ρ, Same.refl _, Pre.refl _, rl, e, i0, rfl⟩, ?_⟩
  rintro m σ H ⟨env, h, F', ρ', s, p, r, e', iv, rfl⟩
  refine turn env h iv F' ρ' σ H _ r e' fun b h1 F1 ρ1 H1 s1 p1 r1 q1 => ?_
  cases b with
  | true =>
    rw [if_pos rfl] at q1 ⊢
    refine ⟨fun σ' H' => ∃ env' h' F2 ρ2, Same F F2 ∧ Pre ρ ρ2 ∧ Rel K Θ F2 ρ2 h' H' ∧ REnv K F2 ρ2 env' σ' ∧ Inv env' h' ∧ μ env' h' < μ env h, fun σ' H' ⟨env', h', F2, ρ2, s2, p2, r2, e2, iv2, lt⟩ => ⟨_, lt, env', h', F2, ρ2, s2, p2, r2, e2, iv2, rfl⟩, ?_⟩
    have kk := k.mono (s.trans s1) (p.trans p1)
    exact q1 F1 ρ1 σ H1 _ r1 (e'.mono s1 p1) ⟨fun env4 h4 F4 ρ4 σ4 H4 s4 p4 r4 e4 q4 => ⟨env4, h4, F4, ρ4, (s.trans s1).trans s4, (p.trans p1).trans p4, r4, e4, q4.1, q4.2⟩, kk.rt, kk.nx, fun env4 h4 F4 ρ4 σ4 H4 s4 p4 r4 e4 q4 => ⟨env4, h4, F4, ρ4, (s.trans s1).trans s4, (p.trans p1).trans p4, r4, e4, q4.1, q4.2⟩⟩
  | false =>
    rw [if_neg Bool.false_ne_true] at q1 ⊢
    exact k.nx env h1 F1 ρ1 σ H1 (s.trans s1) (p.trans p1) r1 (e'.mono s1 p1) q1
/-! ### comprehensions -/
/-- the target's slots: after the store they are the comprehension's alone -/
def TgOk (g : TG) (vs : List Nat) : Prop := ∀ (x : V) (σ : L2.St) (H : Hp) (Q : L2.St → Hp → Prop), g x (wipe σ vs) H Q → g x (wipe σ vs) H fun σ2 H2 => wipe σ2 vs = wipe σ vs ∧ Q σ2 H2
theorem set_none_none {σ : L2.St} {j : Nat} {x : Option V} : ((σ.set j none).set j x).set j none = σ.set j none := by rw [List.set_set, List.set_set]
theorem tg_name {j : Nat} : TgOk (gName j) [j] := fun x σ H Q q => ⟨set_none_none, q⟩
theorem wipe2 {σ : L2.St} {i j : Nat} {x y : Option V} : wipe (((wipe σ [i, j]).set i x).set j y) [i, j] = wipe σ [i, j] := by
  show (((((σ.set j none).set i none).set i x).set j y).set j none).set i none = (σ.set j none).set i none
  refine List.ext_getElem? fun k => ?_
  simp only [List.getElem?_set, List.length_set]
  by_cases e1 : i = k
  · subst e1
    simp
  · by_cases e2 : j = k
    · subst e2
      simp [e1]
    · simp [e1, e2]
theorem tg_tup2 {K : PySem.W.Frag} {i j : Nat} : TgOk (gTup K 2 (gCons (gName i) (gCons (gName j) gNil))) [i, j] := fun x σ H Q q => by
  obtain ⟨a, xs, e, sq, hl, v, r, e2, v2, r2, e3, e4, q⟩ := q
  exact ⟨a, xs, e, sq, hl, v, r, e2, v2, r2, e3, e4, wipe2, q⟩
/-- own slots of a comprehension forgotten -/
def wipeD (env : Env') : List Nat → Env'
  | [] => env
  | v :: vs => (wipeD env vs).set v none
theorem REnv.wipes {F : Hp} {ρ : List Addr} {σ : L2.St} (r : REnv K F ρ env σ) : ∀ vs : List Nat, REnv K F ρ (wipeD env vs) (L2.wipe σ vs)
  | [] => r
  | v :: vs => (REnv.wipes r vs).wipe
theorem Rel.pop {F : Hp} {ρ : List Addr} {h : Hs} {H : Hp} {p : Addr} {o : Option OO} (r : Rel K Θ F (ρ ++ [p]) (h ++ [o]) H) (hl : ρ.length = h.length) (hw : Wish K Θ F ρ) (w : ∀ (i : Nat) (o : OO) (a : Addr), h[i]? = some (some o) → ρ[i]? = some a → ∀ u, RO K F (ρ ++ [p]) o u → RO K F ρ o u) : Rel K Θ F ρ h H := by
  have lt : ∀ (i : Nat) (o' : OO), h[i]? = some (some o') → i < h.length := fun i o' e => (List.getElem?_eq_some_iff.mp e).1
  have up : ∀ (i : Nat) (o' : OO), h[i]? = some (some o') → (h ++ [o])[i]? = some (some o') := fun i o' e => by rw [List.getElem?_append_left (lt i o' e)]; exact e
  have pl : ∀ (i : Nat), i < h.length → (ρ ++ [p])[i]? = ρ[i]? := fun i hi => List.getElem?_append_left (by rw [hl]; exact hi)
  refine ⟨⟨r.same, hl, fun i o' hi => ?_, fun i j o1 o2 a hi hj ha hb => r.inj i j o1 o2 a (up i o1 hi) (up j o2 hj) (by rw [pl i (lt i o1 hi)]; exact ha) (by rw [pl j (lt j o2 hj)]; exact hb), r.tab, r.lam⟩, hw⟩
  obtain ⟨a, u, h1, h2, h3, h4⟩ := r.own i o' (up i o' hi)
  rw [pl i (lt i o' hi)] at h1
  exact ⟨a, u, h1, h2, h3, w i o' a hi h1 u h4⟩
theorem RA.low {F F0 : Hp} {ρ : List Addr} {p : Addr} : ∀ {ds : List D} {vs v0 : List V}, RA K F0 ρ ds v0 → RA K F (ρ ++ [p]) ds vs → RA K F ρ ds vs
  | _, _, _, .nil, .nil => .nil
  | _, _, _, .cons a r, .cons b s => .cons (by
      cases b with
      | p b => exact .p b
      | own b =>
        cases a with
        | own a =>
          have hl := (List.getElem?_eq_some_iff.mp a).1
          rw [List.getElem?_append_left hl] at b
          exact .own b) (RA.low r s)
theorem RF.low {F F0 : Hp} {ρ : List Addr} {p : Addr} : ∀ {ds : List (Str × D)} {vs v0 : List (Str × V)}, RF K F0 ρ ds v0 → RF K F (ρ ++ [p]) ds vs → RF K F ρ ds vs
  | _, _, _, .nil, .nil => .nil
  | _, _, _, .cons a r, .cons b s => .cons (by
      cases b with
      | p b => exact .p b
      | own b =>
        cases a with
        | own a =>
          have hl := (List.getElem?_eq_some_iff.mp a).1
          rw [List.getElem?_append_left hl] at b
          exact .own b) (RF.low r s)
theorem RK.low {κ : Type} {F F0 : Hp} {ρ : List Addr} {p : Addr} : ∀ {ds : List (κ × D)} {vs v0 : List (κ × V)}, RK K F0 ρ ds v0 → RK K F (ρ ++ [p]) ds vs → RK K F ρ ds vs
  | _, _, _, .nil, .nil => .nil
  | _, _, _, .cons a r, .cons b s => .cons (by
      cases b with
      | p b => exact .p b
      | own b =>
        cases a with
        | own a =>
          have hl := (List.getElem?_eq_some_iff.mp a).1
          rw [List.getElem?_append_left hl] at b
          exact .own b) (RK.low r s)
theorem RO.low {F F0 : Hp} {ρ : List Addr} {p : Addr} {o : OO} {u u0 : HO} (a : RO K F0 ρ o u0) (b : RO K F (ρ ++ [p]) o u) : RO K F ρ o u := by
  cases o with
  | lst xs =>
    obtain ⟨v0, _, r0⟩ := a
    obtain ⟨vs, e, r⟩ := b
    exact ⟨vs, e, r0.low r⟩
  | ins C fs =>
    obtain ⟨d0, g0, _, r0⟩ := a
    obtain ⟨dx, gs, e, r⟩ := b
    exact ⟨dx, gs, e, r0.low r⟩
  | dK kvs =>
    obtain ⟨g0, _, r0⟩ := a
    obtain ⟨gs, e, r⟩ := b
    exact ⟨gs, e, r0.low r⟩
  | dT kvs =>
    obtain ⟨g0, _, r0⟩ := a
    obtain ⟨gs, e, r⟩ := b
    exact ⟨gs, e, r0.low r⟩
theorem pre_eq {ρ ρ' : List Addr} (p : Pre ρ ρ') (hl : ρ'.length = ρ.length) : ρ' = ρ := by
  refine List.ext_getElem? fun i => ?_
  cases e : ρ[i]? with
  | some a => exact p i a e
  | none =>
    rw [List.getElem?_eq_none_iff] at e ⊢
    omega
theorem filterMap_succ {α : Type} (f : Nat → Option α) (n : Nat) : (List.range (n + 1)).filterMap f = (List.range n).filterMap f ++ (f n).toList := by
  rw [List.range_succ, List.filterMap_append]
  cases e : f n <;> simp [List.filterMap, e]
/-- what one turn of a comprehension must do: the heap as it was, the item fs i or none -/
def LcTurn (K : PySem.W.Frag) (Θ : Ctx) (g : TG) (tt : TT) (te : TE) (env : Env') (d : D) (h : Hs) (o : Option P) : Prop :=
  VG K Θ g d env h fun env' h' => h' = h ∧ VT K Θ tt env' h' fun b h2 => h2 = h' ∧ if b = true then VE K Θ te env' h2 (fun y h3 => h3 = h2 ∧ ∃ p, y = .p p ∧ o = some p) else o = none
theorem lc_run {wi : TI} {g : TG} {tt : TT} {te : TE} {vs : List Nat} (tg : TgOk g vs) {F : Hp} {ρ : List Addr} {σ : L2.St} {H1 : Hp} {ds : List D} {C : Hs → Prop} {h1 : Hs} {J : It} (Q : VK)
    (r1 : Rel K Θ F ρ h1 H1) (e : REnv K F ρ env σ) (it : ItOk K Θ F ρ C ds J) (fs : Nat → Option P) (hl : ds.length < sizeLine) (hC : ∀ acc, C (h1 ++ [some (.lst acc)]))
    (turn : ∀ i d acc, ds[i]? = some d → LcTurn K Θ g tt te (wipeD env vs) d (h1 ++ [some (.lst acc)]) (fs i))
    (fin : ∀ (p : Addr) (F' : Hp) (us : List V) (H : Hp), Same F F' → F' p = none → H p = some (.lst us) → H1 p = none → Rel K Θ F' (ρ ++ [p]) (h1 ++ [some (.lst (((List.range ds.length).filterMap fs).map D.p))]) H → RPs K F' ((List.range ds.length).filterMap fs) us → Rel K Θ F' ρ h1 H → Q (.ref p) H) :
    ∀ D, H1 D = none → ∃ W : Nat → Nat → Hp → Prop, (∃ m, W 0 m (upd H1 D (.lst []))) ∧ ∀ i m H, W i m H → (J.stop i H ∧ Q (.ref D) H) ∨
      (J.go i H ∧ ∃ Nx : Hp → Prop, (∀ H', Nx H' → ∃ m', m' < m ∧ W (i + 1) m' H') ∧ ∀ x H', J.yld i H x H' → g x (wipe σ vs) H' fun σ2 H2 => wipe σ2 vs = wipe σ vs ∧ tt σ2 H2 fun b H3 => if b = true then te σ2 H3 fun y H4 => ∃ acc, H4 D = some (.lst acc) ∧ acc.length < sizeLine ∧ Nx (upd H4 D (.lst (acc ++ [y]))) else Nx H3) := by
  intro p hp
  have hn : (h1 ++ [some (OO.lst [])])[h1.length]? = some (some (.lst [])) := by simp
  refine ⟨fun i m H => m = ds.length - i ∧ i ≤ ds.length ∧ ∃ F', Same F F' ∧ Rel K Θ F' (ρ ++ [p]) (h1 ++ [some (.lst (((List.range i).filterMap fs).map D.p))]) H, ⟨ds.length, by simp, Nat.zero_le _, F, Same.refl _, r1.push (o := .lst []) hp ⟨[], rfl, .nil⟩⟩, ?_⟩
  rintro i m H ⟨rfl, hi, F', s, r⟩
  have hpl : (ρ ++ [p])[h1.length]? = some p := by rw [← r1.len]; simp
  have got : ∀ (F' : Hp) (H : Hp) (xs : List D), Rel K Θ F' (ρ ++ [p]) (h1 ++ [some (.lst xs)]) H → ∃ us, H p = some (.lst us) ∧ F' p = none ∧ RA K F' (ρ ++ [p]) xs us := fun F' H xs r => by
    obtain ⟨a, u, e1, e2, e3, us, e4, e5⟩ := r.own h1.length (.lst xs) (by simp)
    rw [hpl] at e1; cases e1
    subst e4
    exact ⟨us, e3, e2, e5⟩
  by_cases hlt : i < ds.length
  · refine .inr ⟨it.go i F' (ρ ++ [p]) _ H s (Pre.push _ _) r (hC _) hlt, fun H' => ∃ F2, Same F F2 ∧ Rel K Θ F2 (ρ ++ [p]) (h1 ++ [some (.lst (((List.range (i + 1)).filterMap fs).map D.p))]) H', fun H' ⟨F2, s2, r2⟩ => ⟨ds.length - (i + 1), by omega, rfl, hlt, F2, s2, r2⟩, fun x H' hy => ?_⟩
    have hd : ds[i]? = some ds[i] := List.getElem?_eq_getElem hlt
    obtain ⟨F2, s2, r2, dx⟩ := it.yld i _ F' (ρ ++ [p]) _ H x H' s (Pre.push _ _) r (hC _) hd hy
    refine tg x σ H' _ ?_
    refine turn i _ _ hd F2 (ρ ++ [p]) (wipe σ vs) H' x _ r2 ((e.mono (s.trans s2) (Pre.push _ _)).wipes vs) dx fun env3 h3 F3 ρ3 σ3 H3 s3 p3 r3 e3 q3 => ?_
    obtain ⟨rfl, q3⟩ := q3
    have eρ : ρ3 = ρ ++ [p] := pre_eq p3 (by rw [r3.len, r2.len])
    subst eρ
    refine q3 F3 _ σ3 H3 _ r3 e3 fun b h4 F4 ρ4 H4 s4 p4 r4 q4 => ?_
    obtain ⟨rfl, q4⟩ := q4
    have eρ : ρ4 = ρ ++ [p] := pre_eq p4 (by rw [r4.len, r3.len])
    subst eρ
    have ss : Same F F4 := s.trans (s2.trans (s3.trans s4))
    cases b with
    | true =>
      rw [if_pos rfl] at q4 ⊢
      refine q4 F4 _ σ3 H4 _ r4 (e3.mono s4 p4) fun y h5 v F5 ρ5 H5 s5 p5 r5 dv q5 => ?_
      obtain ⟨rfl, pp, rfl, ef⟩ := q5
      have eρ : ρ5 = ρ ++ [p] := pre_eq p5 (by rw [r5.len, r4.len])
      subst eρ
      obtain ⟨us, g1, g2, g3⟩ := got F5 H5 _ r5
      refine ⟨us, g1, ?_, F5, ss.trans s5, ?_⟩
      · rw [← g3.len, List.length_map]
        have := List.length_filterMap_le fs (List.range i)
        rw [List.length_range] at this
        omega
      · have z := r5.put (i := h1.length) (o := .lst (((List.range i).filterMap fs).map D.p)) (o' := .lst (((List.range (i + 1)).filterMap fs).map D.p)) (by simp) hpl ⟨us ++ [v], rfl, by
          rw [filterMap_succ, ef, List.map_append]
          exact g3.append (.cons dv .nil)⟩
        rw [List.set_append_right _ _ (Nat.le_refl _), Nat.sub_self] at z
        exact z
    | false =>
      rw [if_neg Bool.false_ne_true] at q4 ⊢
      refine ⟨F4, ss, ?_⟩
      rw [filterMap_succ, q4]
      simpa using r4
  · have ei : i = ds.length := by omega
    subst ei
    refine .inl ⟨it.stop F' (ρ ++ [p]) _ H s (Pre.push _ _) r (hC _), ?_⟩
    obtain ⟨us, g1, g2, g3⟩ := got F' H _ r
    refine fin p F' us H s g2 g1 hp r g3.pure (r.pop r1.len (r1.wish.mono s (Pre.refl _)) fun i o a hi ha u q => ?_)
    obtain ⟨a0, u0, f1, f2, f3, f4⟩ := r1.own i o hi
    exact f4.low q
/-- [..]: a new list that stays as it is -/
theorem ve_lc {wi : TI} {g : TG} {tt : TT} {te : TE} {vs : List Nat} (tg : TgOk g vs)
    (q : VI K Θ wi env h fun ds C h1 => ∃ fs : Nat → Option P, ds.length < sizeLine ∧ (∀ acc, C (h1 ++ [some (.lst acc)])) ∧
      (∀ i d acc, ds[i]? = some d → LcTurn K Θ g tt te (wipeD env vs) d (h1 ++ [some (.lst acc)]) (fs i)) ∧ R (dL ((List.range ds.length).filterMap fs)) h1) : VE K Θ (tLc wi g tt te vs) env h R := fun F ρ σ H Q rl e k =>
  q F ρ σ H _ rl e fun ds C h1 J F1 ρ1 H1 s1 p1 r1 it q1 => by
    obtain ⟨fs, hl, hC, turn, q1⟩ := q1
    refine lc_run (wi := wi) tg Q r1 (e.mono s1 p1) it fs hl hC turn fun p F' us H s hn hp hp1 r rp r2 => ?_
    have sn : Same F' (upd F' p (.lst us)) := same_new hn
    refine k _ h1 (.ref p) (upd F' p (.lst us)) ρ1 H (s1.trans (s.trans sn)) p1 ?_ (.p (.lst (.of upd_same) (rp.mono sn))) q1
    have np : ∀ P ∈ Θ.tabs, P ≠ p := fun P hP => by
      obtain ⟨ps, z, _⟩ := (r2.tab P hP).2
      rintro rfl
      rw [hp] at z
      cases z
    refine ⟨⟨fun b o e => ?_, r2.len, fun i o hi => ?_, r2.inj, fun P hP => ⟨by rw [upd_ne (np P hP)]; exact (r2.tab P hP).1, (r2.tab P hP).2⟩, fun q hq => ⟨by rw [upd_ne (lam_neO (r2.lam q hq).2 hp fun _ z => by cases z)]; exact (r2.lam q hq).1, (r2.lam q hq).2⟩⟩, r2.wish.mono sn (Pre.refl _)⟩
    · by_cases hb : b = p
      · subst hb; rw [upd_same] at e; rw [hp]; exact e
      · rw [upd_ne hb] at e; exact r2.same b o e
    · obtain ⟨a, u, f1, f2, f3, f4⟩ := r2.own i o hi
      have ha : a ≠ p := fun z => by
        subst z
        obtain ⟨a0, u0, g1, g2, g3, g4⟩ := r1.own i o hi
        rw [f1] at g1; cases g1
        rw [hp1] at g3; cases g3
      exact ⟨a, u, f1, by rw [upd_ne ha]; exact f2, f3, f4.mono sn (Pre.refl _)⟩
end
end Kb

/-! Operations upon data. -/
namespace Kb
open PySem PySem.Spec PyProof.Rows L2
section
variable {X : Cx}
def rAddS' : R2 := fun x y H Q => ∃ i j, x = .str i ∧ y = .str j ∧ i.length + j.length ≤ sizeLine ∧ Q (.str (i ++ j)) H
def rAddI : R2 := rI0 fun i j => .int (i + j)
def rAddU (K : PySem.W.Frag) : R2 := fun x y H Q => rAddI x y H Q ∨ (rAddS' x y H Q ∨ (rCatT K x y H Q ∨ rCat x y H Q))
def rEqU (K : PySem.W.Frag) : R2 := fun x y H Q => rEq x y H Q ∨ rEqD K x y H Q
def rNeU (K : PySem.W.Frag) : R2 := fun x y H Q => rNe x y H Q ∨ rNeD K x y H Q
theorem op_eqU (hu : X.A.units + 64 < cLine) : OpR X (compareOp .Eq) (rEqU X.K) := op_eq.or (op_eqD hu)
theorem op_neU (hu : X.A.units + 64 < cLine) : OpR X (compareOp .NotEq) (rNeU X.K) := op_ne.or (op_neD hu)
def rInSg : R2 := fun x y H Q => ∃ (c : Nat) (z : Str), x = .str ⟨#[c]⟩ ∧ y = .str z ∧ Q (.bl (decide (c ∈ z.cps.toList))) H
def rInU (K : PySem.W.Frag) : R2 := fun x y H Q => rIn K false x y H Q ∨ rInSg x y H Q
theorem op_inU : OpR X (compareOp .In) (rInU X.K) := OpR.or op_in_seq op_in_sign
def rInt1 : List V → Hp → VK → Prop := fun xs H Q => (∃ i, xs = [.int i] ∧ Q (.int i) H) ∨ ∃ k, xs = [.bl k] ∧ Q (.int (if k then 1 else 0)) H
def rIntS : List V → Hp → VK → Prop := fun xs H Q => ∃ a n, xs = [.str a] ∧ PySem.intText? a = some n ∧ a.length ≤ 640 ∧ Q (.int n) H
def rIntU : List V → Hp → VK → Prop := fun xs H Q => rInt1 xs H Q ∨ rIntS xs H Q
theorem call_intU : CallR X (.type "int") rIntU := CallR.or (r := rInt1) (r' := rIntS) call_int1 call_int_str
def rIsiU (K : PySem.W.Frag) : List V → Hp → VK → Prop := fun xs H Q => rIsi K xs H Q ∨ rIsiT K xs H Q
theorem call_isiU : CallR X (.builtin "isinstance") (rIsiU X.K) := call_isi.or call_isiT
end
section
variable {K : PySem.W.Frag} {Θ : Ctx} {env : Env'} {h : Hs} {R : D → Hs → Prop} {x y d : D}
/-! ### two operands -/
theorem v2_I {C : Int → Int → Prop} {g : Int → Int → Int} {i j : Int} (c : C i j) (q : R (dI (g i j)) h) : V2 K Θ (rI C fun i j => .int (g i j)) (dI i) (dI j) h R := fun F ρ H vx vy Q rl a b k => by
  obtain rfl := a.int
  obtain rfl := b.int
  exact ⟨i, j, rfl, rfl, c, k _ h _ F ρ H (Same.refl _) (Pre.refl _) rl (.p (.int _)) q⟩
theorem v2_I0 {g : Int → Int → Int} {i j : Int} (q : R (dI (g i j)) h) : V2 K Θ (rI0 fun i j => .int (g i j)) (dI i) (dI j) h R := fun F ρ H vx vy Q rl a b k => by
  obtain rfl := a.int
  obtain rfl := b.int
  exact ⟨i, j, rfl, rfl, k _ h _ F ρ H (Same.refl _) (Pre.refl _) rl (.p (.int _)) q⟩
theorem v2_B0 {g : Int → Int → Bool} {i j : Int} (q : R (dB (g i j)) h) : V2 K Θ (rI0 fun i j => .bl (g i j)) (dI i) (dI j) h R := fun F ρ H vx vy Q rl a b k => by
  obtain rfl := a.int
  obtain rfl := b.int
  exact ⟨i, j, rfl, rfl, k _ h _ F ρ H (Same.refl _) (Pre.refl _) rl (.p (.bl _)) q⟩
theorem v2_or1 {r r' : R2} (q : V2 K Θ r x y h R) : V2 K Θ (fun x y H Q => r x y H Q ∨ r' x y H Q) x y h R := fun F ρ H vx vy Q rl a b k => .inl (q F ρ H vx vy Q rl a b k)
theorem v2_or2 {r r' : R2} (q : V2 K Θ r' x y h R) : V2 K Θ (fun x y H Q => r x y H Q ∨ r' x y H Q) x y h R := fun F ρ H vx vy Q rl a b k => .inr (q F ρ H vx vy Q rl a b k)
theorem v2_addI {i j : Int} (q : R (dI (i + j)) h) : V2 K Θ (rAddU K) (dI i) (dI j) h R := v2_or1 (v2_I0 q)
theorem v2_eqI {i j : Int} (q : R (dB (decide (i = j))) h) : V2 K Θ (rEqU K) (dI i) (dI j) h R := v2_or1 fun F ρ H vx vy Q rl a b k => by
  obtain rfl := a.int
  obtain rfl := b.int
  refine ⟨rfl, ?_⟩
  have e : decide (V.int i = V.int j) = decide (i = j) := decide_eq_decide.mpr ⟨V.int.inj, congrArg V.int⟩
  rw [e]
  exact k _ h _ F ρ H (Same.refl _) (Pre.refl _) rl (.p (.bl _)) q
theorem v2_eqB {i j : Bool} (q : R (dB (decide (i = j))) h) : V2 K Θ (rEqU K) (dB i) (dB j) h R := v2_or1 fun F ρ H vx vy Q rl a b k => by
  obtain rfl := a.bl
  obtain rfl := b.bl
  refine ⟨rfl, ?_⟩
  have e : decide (V.bl i = V.bl j) = decide (i = j) := decide_eq_decide.mpr ⟨V.bl.inj, congrArg V.bl⟩
  rw [e]
  exact k _ h _ F ρ H (Same.refl _) (Pre.refl _) rl (.p (.bl _)) q
theorem v2_eqS {i j : Str} (q : R (dB (decide (i = j))) h) : V2 K Θ (rEqU K) (dS i) (dS j) h R := v2_or1 fun F ρ H vx vy Q rl a b k => by
  obtain rfl := a.str
  obtain rfl := b.str
  refine ⟨rfl, ?_⟩
  have e : decide (V.str i = V.str j) = decide (i = j) := decide_eq_decide.mpr ⟨V.str.inj, congrArg V.str⟩
  rw [e]
  exact k _ h _ F ρ H (Same.refl _) (Pre.refl _) rl (.p (.bl _)) q
theorem v2_neI {i j : Int} (q : R (dB (!decide (i = j))) h) : V2 K Θ (rNeU K) (dI i) (dI j) h R := v2_or1 fun F ρ H vx vy Q rl a b k => by
  obtain rfl := a.int
  obtain rfl := b.int
  refine ⟨rfl, ?_⟩
  have e : decide (V.int i = V.int j) = decide (i = j) := decide_eq_decide.mpr ⟨V.int.inj, congrArg V.int⟩
  rw [e]
  exact k _ h _ F ρ H (Same.refl _) (Pre.refl _) rl (.p (.bl _)) q
theorem v2_neB {i j : Bool} (q : R (dB (!decide (i = j))) h) : V2 K Θ (rNeU K) (dB i) (dB j) h R := v2_or1 fun F ρ H vx vy Q rl a b k => by
  obtain rfl := a.bl
  obtain rfl := b.bl
  refine ⟨rfl, ?_⟩
  have e : decide (V.bl i = V.bl j) = decide (i = j) := decide_eq_decide.mpr ⟨V.bl.inj, congrArg V.bl⟩
  rw [e]
  exact k _ h _ F ρ H (Same.refl _) (Pre.refl _) rl (.p (.bl _)) q
theorem v2_neS {i j : Str} (q : R (dB (!decide (i = j))) h) : V2 K Θ (rNeU K) (dS i) (dS j) h R := v2_or1 fun F ρ H vx vy Q rl a b k => by
  obtain rfl := a.str
  obtain rfl := b.str
  refine ⟨rfl, ?_⟩
  have e : decide (V.str i = V.str j) = decide (i = j) := decide_eq_decide.mpr ⟨V.str.inj, congrArg V.str⟩
  rw [e]
  exact k _ h _ F ρ H (Same.refl _) (Pre.refl _) rl (.p (.bl _)) q
/-- data as the library compares them -/
def pyOf : P → PyData
  | .non => .none
  | .bl b => .bool b
  | .int i => .int i
  | .str s => .str s
  | .tup xs => .tuple (pyOfs xs)
  | .ktp xs => .tuple (pyOfs xs)
  | .lst xs => .list (pyOfs xs)
  | .ins _ _ => .none
  | .ty _ => .none
  | .cls _ => .none
where pyOfs : List P → List PyData
  | [] => []
  | x :: xs => pyOf x :: pyOfs xs
/-- None, bools, ints, texts, tuples and lists of these -/
def plainP : P → Bool
  | .non => true
  | .bl _ => true
  | .int _ => true
  | .str _ => true
  | .tup xs => plainPs xs
  | .ktp xs => plainPs xs
  | .lst xs => plainPs xs
  | _ => false
where plainPs : List P → Bool
  | [] => true
  | x :: xs => plainP x && plainPs xs
mutual
theorem RP.dp {F H : Hp} (s : Same F H) : ∀ {x : P} {v : V}, RP K F x v → plainP x = true → Dp K H v (pyOf x)
  | _, _, .non, _ => .non
  | _, _, .bl b, _ => .bl b
  | _, _, .int i, _ => .int i
  | _, _, .str i, _ => .str i
  | .tup xs, _, .tup a r, c => .tup (sqT_mono s a) (RPs.dp s r (by unfold plainP at c; exact c))
  | .ktp xs, _, .ktp a r, c => .tup (a _) (RPs.dp s r (by unfold plainP at c; exact c))
  | .lst xs, _, .lst a r, c => .lst (s.seq a) (RPs.dp s r (by unfold plainP at c; exact c))
  | _, _, .ins _ _, c => by simp [plainP] at c
  | _, _, .ty _, c => by simp [plainP] at c
  | _, _, .cls _, c => by simp [plainP] at c
theorem RPs.dp {F H : Hp} (s : Same F H) : ∀ {xs : List P} {vs : List V}, RPs K F xs vs → plainP.plainPs xs = true → DpAll K H vs (pyOf.pyOfs xs)
  | _, _, .nil, _ => .nil
  | x :: xs, _, .cons a r, c => by
    unfold plainP.plainPs at c
    rw [Bool.and_eq_true] at c
    exact .cons (RP.dp s a c.1) (RPs.dp s r c.2)
end
/-- is it None -/
def isNonD : D → Bool
  | .p .non => true
  | _ => false
theorem isNon_v {F : Hp} {ρ : List Addr} {d : D} {v : V} (a : RD K F ρ d v) : decide (v = .non) = isNonD d := by
  cases a with
  | p a => cases a <;> rfl
  | own _ => rfl
theorem v2_isN (q : R (dB (isNonD x)) h) : V2 K Θ (fun x y H Q => y = V.non ∧ Q (.bl (decide (x = .non))) H) x dN h R := fun F ρ H vx vy Q rl a b k => by
  obtain rfl := b.non
  refine ⟨rfl, ?_⟩
  rw [isNon_v a]
  exact k _ h _ F ρ H (Same.refl _) (Pre.refl _) rl (.p (.bl _)) q
theorem v2_notN (q : R (dB (!isNonD x)) h) : V2 K Θ (fun x y H Q => y = V.non ∧ Q (.bl (!decide (x = .non))) H) x dN h R := fun F ρ H vx vy Q rl a b k => by
  obtain rfl := b.non
  refine ⟨rfl, ?_⟩
  rw [isNon_v a]
  exact k _ h _ F ρ H (Same.refl _) (Pre.refl _) rl (.p (.bl _)) q
theorem v1_U {g : Int → Int} {i : Int} (q : R (dI (g i)) h) : V1 K Θ (rU fun i => .int (g i)) (dI i) h R := fun F ρ H vx Q rl a k => by
  obtain rfl := a.int
  exact ⟨i, rfl, k _ h _ F ρ H (Same.refl _) (Pre.refl _) rl (.p (.int _)) q⟩
/-! ### items -/
theorem RPs.at_ {F : Hp} {ds : List P} {vs : List V} {i : Int} {d : P} (r : RPs K F ds vs) (h : atI ds i = some d) : ∃ v, atI vs i = some v ∧ RP K F d v := by
  unfold atI at h ⊢
  rw [← r.len]
  cases e : ixN ds.length i with
  | none => rw [e] at h; cases h
  | some j =>
    rw [e] at h
    exact r.get h
theorem RA.at_ {F : Hp} {ρ : List Addr} {ds : List D} {vs : List V} {i : Int} {d : D} (r : RA K F ρ ds vs) (h : atI ds i = some d) : ∃ v, atI vs i = some v ∧ RD K F ρ d v := by
  unfold atI at h ⊢
  rw [← r.len]
  cases e : ixN ds.length i with
  | none => rw [e] at h; cases h
  | some j =>
    rw [e] at h
    exact r.get h
theorem v2_ixL {xs : List P} {i : Int} {p : P} (ha : atI xs i = some p) (q : R (.p p) h) : V2 K Θ (rIx K) (dL xs) (dI i) h R := fun F ρ H vx vy Q rl a b k => by
  obtain rfl := b.int
  cases a with
  | p a =>
    cases a with
    | lst a r =>
      obtain ⟨v, h1, h2⟩ := r.at_ ha
      exact .inl ⟨_, _, i, v, rfl, rfl, rl.same.seq a, h1, k _ h _ F ρ H (Same.refl _) (Pre.refl _) rl (.p h2) q⟩
theorem v2_ixT {xs : List P} {i : Int} {p : P} (ha : atI xs i = some p) (q : R (.p p) h) : V2 K Θ (rIx K) (dT xs) (dI i) h R := fun F ρ H vx vy Q rl a b k => by
  obtain rfl := b.int
  cases a with
  | p a =>
    cases a with
    | tup a r =>
      obtain ⟨v, h1, h2⟩ := r.at_ ha
      exact .inr (.inl ⟨_, _, i, v, rfl, rfl, sqT_mono rl.same a, h1, k _ h _ F ρ H (Same.refl _) (Pre.refl _) rl (.p h2) q⟩)
theorem v2_ixS {z : Str} {i : Int} {c : Nat} (hl : z.length ≤ sizeLine) (ha : atI z.cps.toList i = some c) (q : R (dS ⟨#[c]⟩) h) : V2 K Θ (rIx K) (dS z) (dI i) h R := fun F ρ H vx vy Q rl a b k => by
  obtain rfl := a.str
  obtain rfl := b.int
  exact .inr (.inr ⟨z, i, c, rfl, rfl, hl, ha, k _ h _ F ρ H (Same.refl _) (Pre.refl _) rl (.p (.str _)) q⟩)
theorem v2_ixO {n : Nat} {xs : List D} {i : Int} (hn : h[n]? = some (some (.lst xs))) (ha : atI xs i = some d) (q : R d h) : V2 K Θ (rIx K) (.own n) (dI i) h R := fun F ρ H vx vy Q rl a b k => by
  obtain rfl := b.int
  cases a with
  | own a =>
    obtain ⟨p, u, e1, e2, e3, vs, e4, e5⟩ := rl.own _ _ hn
    rw [a] at e1; cases e1
    subst e4
    obtain ⟨v, h1, h2⟩ := e5.at_ ha
    exact .inl ⟨_, _, i, v, rfl, rfl, .of e3, h1, k _ h _ F ρ H (Same.refl _) (Pre.refl _) rl h2 q⟩
/-! ### slices -/
def VO (K : PySem.W.Frag) (Θ : Ctx) (to : TO) (env : Env') (h : Hs) (R : Option Int → Hs → Prop) : Prop :=
  ∀ (F : Hp) (ρ : List Addr) (σ : L2.St) (H : Hp) (Q : Option Int → Hp → Prop), Rel K Θ F ρ h H → REnv K F ρ env σ →
    (∀ (d : Option Int) (h' : Hs) (F' : Hp) (ρ' : List Addr) (H' : Hp), Same F F' → Pre ρ ρ' → Rel K Θ F' ρ' h' H' → R d h' → Q d H') → to σ H Q
theorem vo_none {R : Option Int → Hs → Prop} (q : R none h) : VO K Θ tNoPart env h R := fun F ρ σ H Q rl e k => k none h F ρ H (Same.refl _) (Pre.refl _) rl q
theorem vo_some {te : TE} {R : Option Int → Hs → Prop} (q : VE K Θ te env h fun x h1 => ∃ i, x = dI i ∧ R (some i) h1) : VO K Θ (tPart te) env h R := fun F ρ σ H Q rl e k =>
  q F ρ σ H _ rl e fun x h1 v F1 ρ1 H1 s1 p1 r1 dx q1 => by
    obtain ⟨i, rfl, q1⟩ := q1
    obtain rfl := dx.int
    exact ⟨i, rfl, k _ h1 F1 ρ1 H1 s1 p1 r1 q1⟩
def cutP {α : Type} (xs : List α) (lo hi : Option Int) : List α := (xs.drop (HT.sIx xs.length 0 lo)).take (HT.sIx xs.length xs.length hi - HT.sIx xs.length 0 lo)
theorem RPs.cut {F : Hp} {xs : List P} {vs : List V} (r : RPs K F xs vs) (lo hi : Option Int) : RPs K F (cutP xs lo hi) (cutV vs lo hi) := by
  unfold cutP cutV
  rw [r.len]
  exact (r.drop _).take _
theorem cut_len {α : Type} (xs : List α) (lo hi : Option Int) : (cutP xs lo hi).length ≤ xs.length := by
  unfold cutP
  rw [List.length_take, List.length_drop]
  omega
theorem ve_slL {te : TE} {tl th : TO} (q : VE K Θ te env h fun x h1 => VO K Θ tl env h1 fun lo h2 => VO K Θ th env h2 fun hi h3 => ∃ xs, x = dL xs ∧ R (dL (cutP xs lo hi)) h3) : VE K Θ (tSl (rSlL K) te tl th) env h R := fun F ρ σ H Q rl e k =>
  q F ρ σ H _ rl e fun x h1 v F1 ρ1 H1 s1 p1 r1 dx q1 => q1 F1 ρ1 σ H1 _ r1 (e.mono s1 p1) fun lo h2 F2 ρ2 H2 s2 p2 r2 q2 => q2 F2 ρ2 σ H2 _ r2 (e.mono (s1.trans s2) (p1.trans p2)) fun hi h3 F3 ρ3 H3 s3 p3 r3 q3 => by
    obtain ⟨xs, rfl, q3⟩ := q3
    have dx3 := dx.mono (s2.trans s3) (p2.trans p3)
    cases dx3 with
    | p a =>
      cases a with
      | lst a r =>
        refine ⟨_, _, rfl, r3.same.seq a, fun p hp => ?_⟩
        have sn := fun o => same_new (o := o) (r3.free hp)
        exact k _ h3 _ _ ρ3 _ ((s1.trans (s2.trans s3)).trans (sn _)) (p1.trans (p2.trans p3)) (r3.frz hp) (.p (.lst (.of upd_same) ((r.cut lo hi).mono (sn _)))) q3
/-! ### calls of built-ins -/
theorem vc_len {n : Nat} (l : match x with | .p (.str y) => y.length ≤ sizeLine ∧ n = y.length | .p (.lst xs) => n = xs.length | .p (.tup xs) => n = xs.length | .own i => ∃ xs, h[i]? = some (some (.lst xs)) ∧ n = xs.length | _ => False) (q : R (dI n) h) :
    VC K Θ (fun xs H Q => ∃ x n, xs = [x] ∧ LenV K x H n ∧ Q (.int n) H) [x] h R := fun F ρ H vs Q rl a k => by
  cases a with
  | cons a b =>
    cases b
    have fin : ∀ v : V, LenV K v H n → ∃ x n, [v] = [x] ∧ LenV K x H n ∧ Q (.int n) H := fun v l => ⟨v, n, rfl, l, k _ h _ F ρ H (Same.refl _) (Pre.refl _) rl (.p (.int _)) q⟩
    cases a with
    | p a =>
      cases a with
      | str s => exact fin _ l
      | lst a r => exact fin _ (.inl ⟨_, rl.same.seq a, by rw [← r.len]; exact l⟩)
      | tup a r => exact fin _ (.inr ⟨_, sqT_mono rl.same a, by rw [← r.len]; exact l⟩)
      | _ => exact l.elim
    | own a =>
      obtain ⟨xs, hn, l⟩ := l
      obtain ⟨p, u, e1, e2, e3, vs, e4, e5⟩ := rl.own _ _ hn
      rw [a] at e1; cases e1
      subst e4
      exact fin _ (.inl ⟨vs, .of e3, by rw [← e5.len]; exact l⟩)
theorem vc_intI {i : Int} (q : R (dI i) h) : VC K Θ rIntU [dI i] h R := fun F ρ H vs Q rl a k => by
  cases a with
  | cons a b =>
    cases b
    obtain rfl := a.int
    exact .inl (.inl ⟨i, rfl, k _ h _ F ρ H (Same.refl _) (Pre.refl _) rl (.p (.int _)) q⟩)
theorem vc_str {i : Int} (hl : i.natAbs.log2 < 1920) (q : R (dS (toString i)) h) : VC K Θ (fun xs H Q => ∃ i, xs = [V.int i] ∧ i.natAbs.log2 < 1920 ∧ Q (.str (toString i)) H) [dI i] h R := fun F ρ H vs Q rl a k => by
  cases a with
  | cons a b =>
    cases b
    obtain rfl := a.int
    exact ⟨i, rfl, hl, k _ h _ F ρ H (Same.refl _) (Pre.refl _) rl (.p (.str _)) q⟩
theorem vc_2 {g : Int → Int → Int} {i j : Int} (q : R (dI (g i j)) h) : VC K Θ (fun xs H Q => ∃ i j, xs = [V.int i, V.int j] ∧ Q (.int (g i j)) H) [dI i, dI j] h R := fun F ρ H vs Q rl a k => by
  cases a with
  | cons a b =>
    cases b with
    | cons b c =>
      cases c
      obtain rfl := a.int
      obtain rfl := b.int
      exact ⟨i, j, rfl, k _ h _ F ρ H (Same.refl _) (Pre.refl _) rl (.p (.int _)) q⟩
theorem vc_min2 {i j : Int} (q : R (dI (if j < i then j else i)) h) : VC K Θ (fun xs H Q => ∃ i j, xs = [V.int i, V.int j] ∧ Q (.int (if j < i then j else i)) H) [dI i, dI j] h R := vc_2 (g := fun i j => if j < i then j else i) q
theorem vc_max2 {i j : Int} (q : R (dI (if j > i then j else i)) h) : VC K Θ (fun xs H Q => ∃ i j, xs = [V.int i, V.int j] ∧ Q (.int (if j > i then j else i)) H) [dI i, dI j] h R := vc_2 (g := fun i j => if j > i then j else i) q
/-- the items of a list or tuple -/
def SeqP (d : D) (h : Hs) (ps : List P) : Prop := match d with
  | .p (.lst xs) => xs = ps
  | .p (.tup xs) => xs = ps
  | .own i => h[i]? = some (some (.lst (ps.map D.p)))
  | _ => False
theorem vc_tuple {ps : List P} (s : SeqP x h ps) (q : R (dT ps) h) : VC K Θ (fun xs H Q => ∃ p ys, xs = [V.ref p] ∧ ((SqL K H p ys ∧ ∀ l, H l = none → Q (.ref l) (upd H l (.tup ys))) ∨ (SqT K H p ys ∧ Q (.ref p) H))) [x] h R := fun F ρ H vs Q rl a k => by
  cases a with
  | cons a b =>
    cases b
    cases a with
    | p a =>
      cases a with
      | lst a r =>
        cases s
        refine ⟨_, _, rfl, .inl ⟨rl.same.seq a, fun l hl => ?_⟩⟩
        have sn := fun o => same_new (o := o) (rl.free hl)
        exact k _ h _ _ ρ _ (sn _) (Pre.refl _) (rl.frz hl) (.p (.tup (.of upd_same) (r.mono (sn _)))) q
      | tup a r =>
        cases s
        exact ⟨_, _, rfl, .inr ⟨sqT_mono rl.same a, k _ h _ F ρ H (Same.refl _) (Pre.refl _) rl (.p (.tup a r)) q⟩⟩
      | _ => exact s.elim
    | own a =>
      obtain ⟨p, u, e1, e2, e3, vs, e4, e5⟩ := rl.own _ _ s
      rw [a] at e1; cases e1
      subst e4
      refine ⟨_, _, rfl, .inl ⟨.of e3, fun l hl => ?_⟩⟩
      have sn := fun o => same_new (o := o) (rl.free hl)
      exact k _ h _ _ ρ _ (sn _) (Pre.refl _) (rl.frz hl) (.p (.tup (.of upd_same) (e5.pure.mono (sn _)))) q
theorem vm_append {n : Nat} {xs : List D} (hn : h[n]? = some (some (.lst xs))) (hl : xs.length < sizeLine) (q : R dN (h.set n (some (.lst (xs ++ [y]))))) : VM K Θ rAppend (.own n) [y] h R := fun F ρ H vx vs Q rl a b k => by
  cases a with
  | own a =>
    cases b with
    | cons b c =>
      cases c
      obtain ⟨p, u, e1, e2, e3, us, e4, e5⟩ := rl.own _ _ hn
      rw [a] at e1; cases e1
      subst e4
      refine ⟨_, us, _, rfl, rfl, e3, by rw [← e5.len]; exact hl, ?_⟩
      exact k _ _ _ F ρ _ (Same.refl _) (Pre.refl _) (rl.put (o' := .lst (xs ++ [y])) hn a ⟨_, rfl, e5.append (.cons b .nil)⟩) (.p .non) q
end
end Kb

/-! Defs and classes in data. -/
namespace Kb
open PySem PySem.Spec PyProof.Rows L2
def startD (N : List Str) (ds : List D) : Env' := ds.map some ++ List.replicate (N.length - ds.length) none
section
variable {K : PySem.W.Frag} {Θ : Ctx}
theorem renv_start {F : Hp} {ρ : List Addr} {N : List Str} {ds : List D} {vs : List V} (r : RA K F ρ ds vs) : REnv K F ρ (startD N ds) (L2.start N vs) := by
  have hl := r.len
  refine ⟨by unfold startD L2.start; simp [hl], fun i d h => ?_⟩
  unfold startD at h
  unfold L2.start
  by_cases hi : i < ds.length
  · rw [List.getElem?_append_left (by simpa using hi), List.getElem?_map] at h
    cases e : ds[i]? with
    | none => rw [e] at h; cases h
    | some d0 =>
      rw [e] at h; cases h
      obtain ⟨v, h1, h2⟩ := r.get e
      exact ⟨v, by rw [List.getElem?_append_left (by simp; omega), List.getElem?_map, h1]; rfl, h2⟩
  · rw [List.getElem?_append_right (by simp; omega), List.getElem?_replicate] at h
    split at h <;> cases h
/-! ### what a def leaves behind -/
theorem RA.lowP {F F0 : Hp} {ρ ρ' : List Addr} (p : Pre ρ ρ') : ∀ {ds : List D} {vs v0 : List V}, RA K F0 ρ ds v0 → RA K F ρ' ds vs → RA K F ρ ds vs
  | _, _, _, .nil, .nil => .nil
  | _, _, _, .cons a r, .cons b s => .cons (by
      cases b with
      | p b => exact .p b
      | own b =>
        cases a with
        | own a =>
          have z := p _ _ a
          rw [b] at z; cases z
          exact .own a) (RA.lowP p r s)
theorem RF.lowP {F F0 : Hp} {ρ ρ' : List Addr} (p : Pre ρ ρ') : ∀ {ds : List (Str × D)} {vs v0 : List (Str × V)}, RF K F0 ρ ds v0 → RF K F ρ' ds vs → RF K F ρ ds vs
  | _, _, _, .nil, .nil => .nil
  | _, _, _, .cons a r, .cons b s => .cons (by
      cases b with
      | p b => exact .p b
      | own b =>
        cases a with
        | own a =>
          have z := p _ _ a
          rw [b] at z; cases z
          exact .own a) (RF.lowP p r s)
theorem RK.lowP {κ : Type} {F F0 : Hp} {ρ ρ' : List Addr} (p : Pre ρ ρ') : ∀ {ds : List (κ × D)} {vs v0 : List (κ × V)}, RK K F0 ρ ds v0 → RK K F ρ' ds vs → RK K F ρ ds vs
  | _, _, _, .nil, .nil => .nil
  | _, _, _, .cons a r, .cons b s => .cons (by
      cases b with
      | p b => exact .p b
      | own b =>
        cases a with
        | own a =>
          have z := p _ _ a
          rw [b] at z; cases z
          exact .own a) (RK.lowP p r s)
theorem RO.lowP {F F0 : Hp} {ρ ρ' : List Addr} (p : Pre ρ ρ') {o : OO} {u u0 : HO} (a : RO K F0 ρ o u0) (b : RO K F ρ' o u) : RO K F ρ o u := by
  cases o with
  | lst xs =>
    obtain ⟨v0, _, r0⟩ := a
    obtain ⟨vs, e, r⟩ := b
    exact ⟨vs, e, r0.lowP p r⟩
  | ins C fs =>
    obtain ⟨d0, g0, _, r0⟩ := a
    obtain ⟨dx, gs, e, r⟩ := b
    exact ⟨dx, gs, e, r0.lowP p r⟩
  | dK kvs =>
    obtain ⟨g0, _, r0⟩ := a
    obtain ⟨gs, e, r⟩ := b
    exact ⟨gs, e, r0.lowP p r⟩
  | dT kvs =>
    obtain ⟨g0, _, r0⟩ := a
    obtain ⟨gs, e, r⟩ := b
    exact ⟨gs, e, r0.lowP p r⟩
theorem Rel.back {F F' : Hp} {ρ ρ' : List Addr} {h junk : Hs} {H H' : Hp} (r0 : Rel K Θ F ρ h H) (s : Same F F') (p : Pre ρ ρ') (r : Rel K Θ F' ρ' (h ++ junk) H') : Rel K Θ F' ρ h H' := by
  have lt : ∀ (i : Nat) (o' : OO), h[i]? = some (some o') → i < h.length := fun i o' e => (List.getElem?_eq_some_iff.mp e).1
  have up : ∀ (i : Nat) (o' : OO), h[i]? = some (some o') → (h ++ junk)[i]? = some (some o') := fun i o' e => by rw [List.getElem?_append_left (lt i o' e)]; exact e
  refine ⟨⟨r.same, r0.len, fun i o' hi => ?_, fun i j o1 o2 a hi hj ha hb => r.inj i j o1 o2 a (up i o1 hi) (up j o2 hj) (p _ _ ha) (p _ _ hb), r.tab, r.lam⟩, r0.wish.mono s (Pre.refl _)⟩
  obtain ⟨a, u, h1, h2, h3, h4⟩ := r.own i o' (up i o' hi)
  obtain ⟨a0, u0, g1, g2, g3, g4⟩ := r0.own i o' hi
  have z := p _ _ g1
  rw [h1] at z; cases z
  exact ⟨a, u, g1, h2, h3, g4.lowP p h4⟩
/-- behind a def that leaves what was owned as it was -/
def Fin (h : Hs) (R : D → Hs → Prop) (d : D) (h' : Hs) : Prop := ∃ junk, h' = h ++ junk ∧
  ((∃ p, d = .p p ∧ R (.p p) h) ∨ (∃ n ps, d = .own n ∧ h.length ≤ n ∧ h'[n]? = some (some (.lst (ps.map D.p))) ∧ R (dL ps) h) ∨
    ∃ n C fs, d = .own n ∧ h.length ≤ n ∧ h'[n]? = some (some (.ins C (fs.map fun q => (q.1, D.p q.2)))) ∧ R (.p (.ins C fs)) h)
theorem fin_p {h : Hs} {R : D → Hs → Prop} {p : P} (junk : Hs) (q : R (.p p) h) : Fin h R (.p p) (h ++ junk) := ⟨junk, rfl, .inl ⟨p, rfl, q⟩⟩
theorem fin_p0 {h : Hs} {R : D → Hs → Prop} {p : P} (q : R (.p p) h) : Fin h R (.p p) h := ⟨[], by simp, .inl ⟨p, rfl, q⟩⟩
theorem fin_run {F F' : Hp} {ρ ρ' : List Addr} {h h' : Hs} {H H' : Hp} {R : D → Hs → Prop} {d : D} {v : V} {Q : VK} (r0 : Rel K Θ F ρ h H) (s : Same F F') (p : Pre ρ ρ') (r : Rel K Θ F' ρ' h' H') (dv : RD K F' ρ' d v) (f : Fin h R d h')
    (k : ∀ (d : D) (F2 : Hp), Same F F2 → Rel K Θ F2 ρ h H' → RD K F2 ρ d v → R d h → Q v H') : Q v H' := by
  obtain ⟨junk, rfl, f⟩ := f
  have st : ∀ (n : Nat), h.length ≤ n → (h ++ junk).set n none = h ++ junk.set (n - h.length) none := fun n hn => List.set_append_right _ _ hn
  rcases f with ⟨x, rfl, q⟩ | ⟨n, ps, rfl, hn, hx, q⟩ | ⟨n, C, fs, rfl, hn, hx, q⟩
  · cases dv with
    | p dv => exact k _ F' s (r0.back s p r) (.p dv) q
  · cases dv with
    | own dv =>
      obtain ⟨a, u, e1, e2, e3, e4, r2⟩ := r.freeze hx
      rw [dv] at e1; cases e1
      rw [st n hn] at r2
      obtain ⟨vs, rfl, e5⟩ := e4
      exact k _ _ (s.trans (same_new e2)) (r0.back (s.trans (same_new e2)) p r2) (.p (.lst (.of upd_same) e5.pure)) q
  · cases dv with
    | own dv =>
      obtain ⟨a, u, e1, e2, e3, e4, r2⟩ := r.freeze hx
      rw [dv] at e1; cases e1
      rw [st n hn] at r2
      obtain ⟨dx, gs, rfl, e5⟩ := e4
      exact k _ _ (s.trans (same_new e2)) (r0.back (s.trans (same_new e2)) p r2) (.p (.ins upd_same e5.pure)) q
theorem vs_fin {t : TS} {R : D → Hs → Prop} {env : Env'} {h : Hs} (q : VS K Θ t { nx := fun _ h' => Fin h R dN h', rt := Fin h R } env h) : VS K Θ t { nx := fun _ h' => R dN h', rt := R } env h := fun F ρ σ H D' rl e k => by
  refine q F ρ σ H ⟨fun σ' H' => D'.nx σ' H', fun v H' => D'.rt v H', D'.bk, D'.ct⟩ rl e ⟨fun env' h' F' ρ' σ' H' s p r e' f => ?_, fun d h' v F' ρ' H' s p r dv f => ?_, fun _ _ _ _ _ _ _ _ _ _ z => z.elim, fun _ _ _ _ _ _ _ _ _ _ z => z.elim⟩
  · refine fin_run (v := .non) (Q := fun _ H' => D'.nx σ' H') rl s p r (.p .non) f fun d F2 s2 r2 d2 q2 => ?_
    have ed : d = dN ∨ d ≠ dN := by cases d with
      | own i => exact .inr (fun z => by cases z)
      | p x => cases x <;> first | exact .inl rfl | exact .inr (fun z => by cases z)
    obtain ⟨junk, _, f⟩ := f
    have q3 : R dN h := by
      rcases f with ⟨x, ex, q⟩ | ⟨n, ps, ex, _⟩ | ⟨n, C, fs, ex, _⟩
      · cases ex; exact q
      · cases ex
      · cases ex
    refine k.nx (List.replicate σ'.length none) h F2 ρ σ' H' s2 (Pre.refl _) r2 ⟨by simp, fun i d z => ?_⟩ q3
    rw [List.getElem?_replicate] at z
    split at z <;> cases z
  · exact fin_run rl s p r dv f fun d F2 s2 r2 d2 q2 => k.rt d h v F2 ρ H' s2 (Pre.refl _) r2 d2 q2
variable {P : Program} {w : World} {mg : Str → Option Value} {base : Heap} {x : Str} {st : Stmt} {N ps : List Str} {k : Nat}
/-- a def whose body keeps a promise in data -/
theorem DefAt.okD {T : Tbs} (A : DefAt K mg x st ps) (S : FnScope N ps (defScope st)) (W : Spc) (len : ∀ ds h R, W ds h R → ds.length = ps.length)
    (hbody : ∀ (f : Addr) (cdv : Value) (A : Around) (outer : List Env) (s : Shared) (H : Hp) (E : XK), Room k (A.deeper (envOfC x (defScope st) s.heap.objs.size f cdv)) →
      ∃ t, PSs (cxOf CX0 P w K mg base N x (defScope st) f cdv A outer s H E).nox (defBody st) t ∧ ∀ ds h R, W ds h R → VS K (Ctx.plain T) t { nx := fun _ h' => R dN h', rt := R } (startD N ds) h) : HasF P w K mg base CX0 (k + 1) x ps (spD K T W) := by
  refine A.ok S (fun vs H Q E h => ?_) fun f cdv A outer s H vs Q E hr h => ?_
  · obtain ⟨ds, h, F, ρ, R, rl, ra, hw, _⟩ := h
    rw [← ra.len]
    exact len ds h R hw
  · obtain ⟨ds, h, F, ρ, R, rl, ra, hw, kq⟩ := h
    obtain ⟨t, ht, q⟩ := hbody f cdv A outer s H E hr
    refine ⟨t, ht, q ds h R hw F ρ _ H _ rl.plain (renv_start ra) ⟨fun env' h' F' ρ' σ' H' s p r e q => kq dN h' .non F' ρ' H' s p r.toBase (.p .non) q, fun d h' v F' ρ' H' s p r dv q => kq d h' v F' ρ' H' s p r.toBase dv q, fun _ _ _ _ _ _ _ _ _ _ z => z.elim, fun _ _ _ _ _ _ _ _ _ _ z => z.elim⟩⟩
end
end Kb

/-! The rules in the forms that are tried one after the other. -/
namespace Kb
open PySem PySem.Spec PyProof.Rows L2
section
variable {K : PySem.W.Frag} {Θ : Ctx} {env : Env'} {h : Hs} {R : D → Hs → Prop} {x y d : D} {i j : Int}
theorem log2_small {n : Nat} (h : n < 2 ^ 200) : n.log2 < 200 := PySem.Flt.log2_lt_of (by decide) h
theorem cmul_small (hi : i.natAbs < 2 ^ 200) (hj : j.natAbs < 2 ^ 200) : CMulX i j := by
  have h1 := log2_small hi
  have h2 := log2_small hj
  unfold CMulX
  omega
theorem cmul_wide (hi : i.natAbs.log2 < 2000000) (hj : j.natAbs < 2 ^ 200) : CMulX i j := by
  have h2 := log2_small hj
  unfold CMulX
  omega
theorem v2_mul (c : CMulX i j) (q : R (dI (i * j)) h) : V2 K Θ (rI CMulX fun i j => V.int (i * j)) (dI i) (dI j) h R := v2_I (g := fun i j => i * j) c q
theorem v2_mod (c : 0 < j) (q : R (dI (i % j)) h) : V2 K Θ (rI (fun _ j => 0 < j) fun i j => V.int (i % j)) (dI i) (dI j) h R := v2_I (g := fun i j => i % j) c q
theorem v2_div (c : 0 < j ∧ j < 1073741824) (q : R (dI (i / j)) h) : V2 K Θ (rI CDiv fun i j => V.int (i / j)) (dI i) (dI j) h R := v2_I (g := fun i j => i / j) c q
theorem v2_pow (c : 0 ≤ j ∧ j ≤ 1000000 ∧ i.natAbs < 2 ^ 64) (q : R (dI (i ^ j.toNat)) h) : V2 K Θ (rI CPow fun i j => V.int (i ^ j.toNat)) (dI i) (dI j) h R := v2_I (g := fun i j => i ^ j.toNat) c q
theorem v2_sub (q : R (dI (i - j)) h) : V2 K Θ (rI0 fun i j => V.int (i - j)) (dI i) (dI j) h R := v2_I0 (g := fun i j => i - j) q
theorem v2_lt (q : R (dB (decide (i < j))) h) : V2 K Θ (rI0 fun i j => V.bl (decide (i < j))) (dI i) (dI j) h R := v2_B0 (g := fun i j => decide (i < j)) q
theorem v2_le (q : R (dB (decide (i ≤ j))) h) : V2 K Θ (rI0 fun i j => V.bl (decide (i ≤ j))) (dI i) (dI j) h R := v2_B0 (g := fun i j => decide (i ≤ j)) q
theorem v2_gt (q : R (dB (decide (j < i))) h) : V2 K Θ (rI0 fun i j => V.bl (decide (j < i))) (dI i) (dI j) h R := v2_B0 (g := fun i j => decide (j < i)) q
theorem v2_ge (q : R (dB (decide (j ≤ i))) h) : V2 K Θ (rI0 fun i j => V.bl (decide (j ≤ i))) (dI i) (dI j) h R := v2_B0 (g := fun i j => decide (j ≤ i)) q
/-- the test's answer -/
theorem bool_ans {c : Bool} {B : Bool → Prop} (q : B c) : ∃ c', dB c = dB c' ∧ B c' := ⟨c, rfl, q⟩
theorem tru_bl {c : Bool} {h : Hs} {B : Bool → Prop} (q : B c) : ∃ c', TruD (dB c) h c' ∧ B c' := ⟨c, rfl, q⟩
theorem ite_dec {c : Prop} [Decidable c] {A B : Prop} (h1 : c → A) (h2 : ¬ c → B) : if decide c = true then A else B := by
  by_cases h : c
  · rw [decide_eq_true h, if_pos rfl]; exact h1 h
  · rw [decide_eq_false h, if_neg Bool.false_ne_true]; exact h2 h
theorem ite_nb {c : Bool} {A B : Prop} (h1 : c = false → A) (h2 : c = true → B) : if (!c) = true then A else B := by
  cases c with
  | true => exact h2 rfl
  | false => exact h1 rfl
theorem ite_t {A B : Prop} (h : A) : if true = true then A else B := by rw [if_pos rfl]; exact h
theorem at_nat {α : Type} {xs : List α} {i : Int} {v : α} (n : Nat) (e : i = (n : Int)) (h : xs[n]? = some v) : atI xs i = some v := by
  rw [e]; exact atI_nat h
end
end Kb

/-! sorted(xs, key=f), f a def of the program. -/
namespace Kb
open PySem PySem.Spec PyProof.Rows L2
open PySem.W (dataLe KeyedOut AllAlike Sortable)
section
variable {X : Cx} {pins : List (Addr × Obj)} {σ : L2.St} {H : Hp} {s : Shared}
end
/-! ### in data -/
section
variable {K : PySem.W.Frag} {Θ : Ctx} {env : Env'} {h : Hs} {R : D → Hs → Prop}
end
end Kb

/-! Classes, isinstance, defs that call themselves. -/
namespace Kb
open PySem PySem.Spec PyProof.Rows L2
/-- __init__ of a class, as the top has it -/
structure InitAt (K : PySem.W.Frag) (C : Addr) (qual : Str) (st : Stmt) (ps : List Str) : Prop where
  ex : ∃ f fd, Fun K "__init__" qual st f fd ∧ Mk K C f ∧ Binds K fd ps []
structure MethAt (K : PySem.W.Frag) (C : Addr) (m qual : Str) (st : Stmt) (ps : List Str) : Prop where
  ex : ∃ f fd, Fun K m qual st f fd ∧ Meth K C m f ∧ Binds K fd ps []
structure HasMk (P : Program) (w : World) (K : PySem.W.Frag) (mg : Str → Option Value) (base : Heap) (CX : CXT) (k : Nat) (x : Str) (C : Addr) (ps : List Str) (sp : Sp) : Prop where
  ex : ∃ f fd, Mk K C f ∧ FnOk P w K mg base CX k f fd ps sp ∧ Binds K fd ps []
  at_ : mg x = some (.ref C)
structure HasM (P : Program) (w : World) (K : PySem.W.Frag) (mg : Str → Option Value) (base : Heap) (CX : CXT) (k : Nat) (C : Addr) (m : Str) (ps : List Str) (sp : Sp) : Prop where
  cl : Cls K C
  ex : ∃ f fd, Meth K C m f ∧ FnOk P w K mg base CX k f fd ps sp ∧ Binds K fd ps []
section
variable {X : Cx} {CX : CXT} {k : Nat} {x m : Str} {C : Addr} {ps : List Str} {sp : Sp} {E : XK} {p pos apos : Pos} {e o : Expr} {es : List Expr} {t : TA} {ta : TE}
theorem HasMk.make (h : HasMk X.prog X.w X.K X.mg X.base CX k x C ps sp) (hr : Room (k + 1) X.A) (hg : Gl X x) (hx : Passes CX X E)
    (ha : PA X (e :: es) t) (hdb : (x == ("__debug__" : Str)) = false := by decide) (he : starEach (e :: es) X.env = (false, eval e X.env) :: starEach es X.env := by rfl) (hpl : (backTo pos (starEach es X.env)).any (·.1) = false := by rfl) :
    PE X (.Call (.Name x p) (e :: es) [] pos) (tMake C sp [] E t) := by
  obtain ⟨f, fd, M, F, hb⟩ := h.ex
  exact pe_make M F hr hg h.at_ hb .nil hx ha hdb he hpl
theorem HasM.meth {pl : Sem Bool} (h : HasM X.prog X.w X.K X.mg X.base CX k C m ps sp) (hr : Room k X.A) (hx : Passes CX X E) (he : PE X o ta) (ha : PA X (e :: es) t)
    (hst : starEach (e :: es) X.env = (false, eval e X.env) :: starEach es X.env := by rfl) (hpl : (backTo pos (starEach es X.env)).any (·.1) = false := by rfl)
    (ht : eval (.Call (.Attribute o m apos) (e :: es) [] pos) X.env = (do
      let ov ← eval o X.env
      standAt apos.atName
      let (f, first) ← holding [ov] (getMethod ov m pl)
      callWith pos f first (backTo pos (starEach (e :: es) X.env)) (backToKw pos (keywordEach [] X.env))) := by rfl) :
    PE X (.Call (.Attribute o m apos) (e :: es) [] pos) (tMeth C m sp [] E ta t) := by
  obtain ⟨f, fd, M, F, hb⟩ := h.ex
  exact pe_meth he h.cl M F hr hb .nil hx ha hst hpl ht
theorem HasM.meth0 {pl : Sem Bool} (h : HasM X.prog X.w X.K X.mg X.base CX k C m ps sp) (hr : Room k X.A) (hx : Passes CX X E) (he : PE X o ta)
    (ht : eval (.Call (.Attribute o m apos) [] [] pos) X.env = (do
      let ov ← eval o X.env
      standAt apos.atName
      let (f, first) ← holding [ov] (getMethod ov m pl)
      callWith pos f first (backTo pos (starEach [] X.env)) (backToKw pos (keywordEach [] X.env))) := by rfl) :
    PE X (.Call (.Attribute o m apos) [] [] pos) (tMeth C m sp [] E ta tNil) := by
  obtain ⟨f, fd, M, F, hb⟩ := h.ex
  exact pe_meth0 he h.cl M F hr hb .nil hx ht
end
section
variable {Pg : Program} {w : World} {K : PySem.W.Frag} {T : Tbs} {mg : Str → Option Value} {base : Heap} {x m qual : Str} {st : Stmt} {N ps : List Str} {k : Nat} {C : Addr}
theorem fnD {x qual : Str} {f : Addr} {fd : FuncData} (F : Fun K x qual st f fd) (S : FnScope N ps (defScope st)) (W : Spc) (len : ∀ ds h R, W ds h R → ds.length = ps.length)
    (hbody : ∀ (cdv : Value) (A : Around) (outer : List Env) (s : Shared) (H : Hp) (E : XK), Room k (A.deeper (envOfC qual (defScope st) s.heap.objs.size f cdv)) →
      ∃ t, PSs (cxOf CX0 Pg w K mg base N qual (defScope st) f cdv A outer s H E).nox (defBody st) t ∧ ∀ ds h R, W ds h R → VS K (Ctx.plain T) t { nx := fun _ h' => R dN h', rt := R } (startD N ds) h) : FnOk Pg w K mg base CX0 (k + 1) f fd ps (spD K T W) := by
  refine F.ok S (fun vs H Q E h => ?_) fun cdv A outer s H vs Q E hr h => ?_
  · obtain ⟨ds, h, F, ρ, R, rl, ra, hw, _⟩ := h
    rw [← ra.len]
    exact len ds h R hw
  · obtain ⟨ds, h, F, ρ, R, rl, ra, hw, kq⟩ := h
    obtain ⟨t, ht, q⟩ := hbody cdv A outer s H E hr
    exact ⟨t, ht, q ds h R hw F ρ _ H _ rl.plain (renv_start ra) ⟨fun env' h' F' ρ' σ' H' s p r e q => kq dN h' .non F' ρ' H' s p r.toBase (.p .non) q, fun d h' v F' ρ' H' s p r dv q => kq d h' v F' ρ' H' s p r.toBase dv q, fun _ _ _ _ _ _ _ _ _ _ z => z.elim, fun _ _ _ _ _ _ _ _ _ _ z => z.elim⟩⟩
theorem InitAt.okD (A : InitAt K C qual st ps) (hm : mg x = some (.ref C)) (S : FnScope N ps (defScope st)) (W : Spc) (len : ∀ ds h R, W ds h R → ds.length = ps.length)
    (hbody : ∀ (f : Addr) (cdv : Value) (A : Around) (outer : List Env) (s : Shared) (H : Hp) (E : XK), Room k (A.deeper (envOfC qual (defScope st) s.heap.objs.size f cdv)) →
      ∃ t, PSs (cxOf CX0 Pg w K mg base N qual (defScope st) f cdv A outer s H E).nox (defBody st) t ∧ ∀ ds h R, W ds h R → VS K (Ctx.plain T) t { nx := fun _ h' => R dN h', rt := R } (startD N ds) h) : HasMk Pg w K mg base CX0 (k + 1) x C ps (spD K T W) := by
  obtain ⟨f, fd, F, M, hb⟩ := A.ex
  exact ⟨⟨f, fd, M, fnD F S W len (hbody f), hb⟩, hm⟩
theorem MethAt.okD (A : MethAt K C m qual st ps) (cl : Cls K C) (S : FnScope N ps (defScope st)) (W : Spc) (len : ∀ ds h R, W ds h R → ds.length = ps.length)
    (hbody : ∀ (f : Addr) (cdv : Value) (A : Around) (outer : List Env) (s : Shared) (H : Hp) (E : XK), Room k (A.deeper (envOfC qual (defScope st) s.heap.objs.size f cdv)) →
      ∃ t, PSs (cxOf CX0 Pg w K mg base N qual (defScope st) f cdv A outer s H E).nox (defBody st) t ∧ ∀ ds h R, W ds h R → VS K (Ctx.plain T) t { nx := fun _ h' => R dN h', rt := R } (startD N ds) h) : HasM Pg w K mg base CX0 (k + 1) C m ps (spD K T W) := by
  obtain ⟨f, fd, F, M, hb⟩ := A.ex
  exact ⟨cl, f, fd, M, fnD F S W len (hbody f), hb⟩
/-- a def that nobody may call yet -/
theorem HasF.never (A : DefAt K mg x st ps) (S : FnScope N ps (defScope st)) {W : Spc} (hw : ∀ ds h R, ¬ W ds h R) : HasF Pg w K mg base CX0 (k + 1) x ps (spD K T W) :=
  A.okD S W (fun ds h R q => (hw _ _ _ q).elim) fun f cdv A outer s H E hr => ⟨_, pss_never, fun ds h R q => (hw _ _ _ q).elim⟩
end
section
variable {K : PySem.W.Frag} {Θ : Ctx} {env : Env'} {h : Hs} {R : D → Hs → Prop} {ta : TE} {t : TA} {C : Addr}
/-- C(..), the instance stays as it is from then on -/
theorem ve_makeF {W : Spc} {E : XK} (q : VA K Θ t env h fun xs h1 => W (.own h1.length :: xs) (h1 ++ [some (.ins C [])]) fun d h2 => d = dN ∧ ∃ fs : List (Str × P), h2 = h1 ++ [some (.ins C (fs.map fun q => (q.1, D.p q.2)))] ∧ R (.p (.ins C fs)) h1) :
    VE K Θ (tMake C (spD K Θ.tabs W) [] E t) env h R := fun F ρ σ H Q rl e k =>
  q F ρ σ H _ rl e fun xs h1 vs F1 ρ1 H1 s1 p1 r1 dxs q1 => by
    intro x dx hx hdx hne
    have hx' : (upd H1 dx (.own x)) x = none := by rw [upd_ne (Ne.symm hne)]; exact hx
    have sn : Same F1 (upd F1 dx (.own x)) := same_new (r1.free hdx)
    have r2 : Rel K Θ (upd F1 dx (.own x)) ρ1 h1 (upd H1 dx (.own x)) := r1.frz hdx
    have r3 := r2.push (o := .ins C []) (u := .ins C dx []) hx' ⟨dx, [], rfl, .nil⟩
    refine ⟨.own h1.length :: xs, _, _, ρ1 ++ [x], _, r3.toBase, .cons (.own (by rw [← r1.len]; simp)) (by rw [List.append_nil]; exact dxs.mono sn (Pre.push _ _)), q1, fun d h' v F' ρ' H' s p r dv q2 => ?_⟩
    obtain ⟨rfl, fs, rfl, q2⟩ := q2
    refine ⟨dv.non, ?_⟩
    obtain ⟨a, u, e1, e2, e3, e4, r4⟩ := (⟨r, r3.wish.mono s p⟩ : Rel K Θ _ _ _ _).freeze (i := h1.length) (o := .ins C (fs.map fun q => (q.1, D.p q.2))) (by simp)
    have ea : ρ'[h1.length]? = some x := p _ _ (by rw [← r1.len]; simp)
    rw [ea] at e1
    cases e1
    obtain ⟨dx', gs, rfl, e5⟩ := e4
    have pp : Pre ρ1 ρ' := (Pre.push ρ1 x).trans p
    have r5 : Rel K Θ (upd F' x (.ins C dx' gs)) ρ' (h1 ++ [none]) H' := by
      have z := r4
      rw [List.set_append_right _ _ (Nat.le_refl _), Nat.sub_self] at z
      exact z
    exact k _ h1 _ _ ρ1 H' ((s1.trans (sn.trans s)).trans (same_new e2)) p1 (r1.back (sn.trans (s.trans (same_new e2))) pp r5) (.p (.ins upd_same e5.pure)) q2
def InsD (C : Addr) (m : Str) (x : D) (h : Hs) : Prop := match x with
  | .p (.ins C' fs) => C' = C ∧ (fs.map fun q => (q.1, D.p q.2)).lookup m = none
  | .own i => ∃ fs, h[i]? = some (some (.ins C fs)) ∧ fs.lookup m = none
  | _ => False
theorem ve_meth {m : Str} {W : Spc} {E : XK} (q : VE K Θ ta env h fun x h1 => InsD C m x h1 ∧ VA K Θ t env h1 fun xs h2 => W (x :: xs) h2 R) : VE K Θ (tMeth C m (spD K Θ.tabs W) [] E ta t) env h R := fun F ρ σ H Q rl e k =>
  q F ρ σ H _ rl e fun x h1 vx F1 ρ1 H1 s1 p1 r1 dx q1 => by
    obtain ⟨hi, q1⟩ := q1
    have go : ∀ a dd gs, vx = .ref a → H1 a = some (.ins C dd gs) → gs.lookup m = none → ∃ a dx fs, vx = .ref a ∧ H1 a = some (.ins C dx fs) ∧ fs.lookup m = none ∧ t σ H1 fun vs H2 => spD K Θ.tabs W (vx :: (vs ++ [])) H2 Q E := fun a dd gs g1 g2 g3 =>
      ⟨a, dd, gs, g1, g2, g3, q1 F1 ρ1 σ H1 _ r1 (e.mono s1 p1) fun xs h2 vs F2 ρ2 H2 s2 p2 r2 dxs q2 => ⟨x :: xs, h2, F2, ρ2, R, r2.toBase, .cons (dx.mono s2 p2) (by rw [List.append_nil]; exact dxs), q2, fun d h' v F' ρ' H' s3 p3 r3 dv q3 => k d h' v F' ρ' H' (s1.trans (s2.trans s3)) (p1.trans (p2.trans p3)) ⟨r3, r2.wish.mono s3 p3⟩ dv q3⟩⟩
    cases id dx with
    | p dx =>
      cases dx with
      | ins a b =>
        obtain ⟨rfl, l⟩ := hi
        exact go _ _ _ rfl (r1.same _ _ a) ((b.data (ρ := ρ1)).lookN l)
      | _ => exact hi.elim
    | own ho =>
      obtain ⟨fs, hx, l⟩ := hi
      obtain ⟨a, u, e1, e2, e3, dd, gs, e4, e5⟩ := r1.own _ _ hx
      rw [ho] at e1; cases e1
      subst e4
      exact go _ _ _ rfl e3 (e5.lookN l)
/-! ### isinstance -/
/-- the name of the type of what is written data -/
def tyN : P → Option String
  | .non => some "NoneType"
  | .bl _ => some "bool"
  | .int _ => some "int"
  | .str _ => some "str"
  | .tup _ => some "tuple"
  | .ktp _ => some "tuple"
  | .lst _ => some "list"
  | _ => none
def tyD (d : D) (h : Hs) (T : String) : Prop := match d with
  | .p p => tyN p = some T
  | .own i => T = "list" ∧ ∃ xs, h[i]? = some (some (.lst xs))
def isA (a b : String) : Bool := a == b || (a == "bool" && b == "int")
theorem tyD.v {F : Hp} {ρ : List Addr} {H : Hp} {d : D} {v : V} {T : String} (r : Rel K Θ F ρ h H) (q : RD K F ρ d v) (hT : tyD d h T) : TyX K H v (.type T) := by
  cases q with
  | p q =>
    cases q with
    | non => cases hT; exact .base .non
    | bl b => cases hT; exact .base (.bl b)
    | int b => cases hT; exact .base (.int b)
    | str b => cases hT; exact .base (.str b)
    | tup a b =>
      cases hT
      rcases sqT_mono r.same a with (a | ⟨o, a⟩) | ⟨o, its, n, a, c, _⟩
      · exact .base (.tup a)
      · exact .fTuple a
      · exact .kTuple a c
    | ktp a b =>
      cases hT
      rcases a (fun _ => none) with (a | ⟨o, a⟩) | ⟨o, its, n, a, c, _⟩
      · cases a
      · cases a
      · exact .kTuple a c
    | lst a b =>
      cases hT
      rcases r.same.seq a with (a | ⟨o, a⟩) | ⟨o, its, n, a, c, _⟩
      · exact .base (.lst a)
      · exact .base (.frz a)
      · exact .kList a c
    | ins a b => cases hT
    | ty n => cases hT
    | cls n => cases hT
  | own e =>
    obtain ⟨rfl, xs, hx⟩ := hT
    obtain ⟨a, u, e1, e2, e3, vs, e4, _⟩ := r.own _ _ hx
    rw [e] at e1; cases e1
    subst e4
    exact .base (.lst e3)
theorem isA_kit {a b : String} (ha : a ∈ ["NoneType", "bool", "int", "str", "tuple", "list"]) (hb : b ∈ ["bool", "int", "str", "tuple", "list", "dict"]) : PySem.W.kitOne K (.type a) (.type b) = some (isA a b) := by
  refine kit_ty ?_
  have all : ∀ a ∈ ["NoneType", "bool", "int", "str", "tuple", "list"], ∀ b ∈ ["bool", "int", "str", "tuple", "list", "dict"], kitB a b = some (isA a b) := by decide +kernel
  exact all a ha b hb
theorem tyD_mem {d : D} {T : String} (hT : tyD d h T) : T ∈ ["NoneType", "bool", "int", "str", "tuple", "list"] := by
  cases d with
  | p p =>
    cases p <;> first | (cases hT; decide) | cases hT
  | own i => rw [hT.1]; decide
/-- isinstance(x, T) -/
theorem vc_isi {x : D} {T n : String} (hT : tyD x h T) (hn : n ∈ ["bool", "int", "str", "tuple", "list", "dict"]) (q : R (dB (isA T n)) h) : VC K Θ (rIsiU K) [x, .p (.ty n)] h R := fun F ρ H vs Q rl a k => by
  cases a with
  | cons a b =>
    cases b with
    | cons b c =>
      cases c
      cases b with
      | p b =>
        cases b
        exact .inl ⟨_, _, _, _, _, rfl, .ty n, hT.v rl a, isA_kit (tyD_mem hT) hn, k _ h _ F ρ H (Same.refl _) (Pre.refl _) rl (.p (.bl _)) q⟩
/-- isinstance(x, (T, S)) -/
theorem ve_isi2 {m n : String} (q : VE K Θ ta env h fun x h1 => ∃ T, tyD x h1 T ∧ m ∈ ["bool", "int", "str", "tuple", "list", "dict"] ∧ n ∈ ["bool", "int", "str", "tuple", "list", "dict"] ∧ R (dB (isA T m || isA T n)) h1) :
    VE K Θ (tCB (rIsiU K) (tCons ta (tCons (tTup (tCons (tC (.ty m)) (tCons (tC (.ty n)) tNil))) tNil))) env h R := fun F ρ σ H Q rl e k =>
  q F ρ σ H _ rl e fun x h1 vx F1 ρ1 H1 s1 p1 r1 dx q1 => by
    obtain ⟨T, hT, hm, hn, q1⟩ := q1
    refine ⟨by show 2 ≤ sizeLine; exact sz_le (by decide), fun p hp => ?_⟩
    have r2 : Rel K Θ (upd F1 p (.tup [.ty m, .ty n])) ρ1 h1 (upd H1 p (.tup [.ty m, .ty n])) := r1.frz hp
    have sn : Same F1 (upd F1 p (.tup [.ty m, .ty n])) := same_new (r1.free hp)
    refine .inr ⟨vx, p, [.ty m, .ty n], _, [.type m, .type n], isA T m || isA T n, rfl, upd_same, .cons (.ty m) (.cons (.ty n) .nil), hT.v r2 (dx.mono sn (Pre.refl _)), ?_, ?_⟩
    · have e1 := isA_kit (K := K) (tyD_mem hT) hm
      have e2 := isA_kit (K := K) (tyD_mem hT) hn
      refine kitAny_cons e1 (fun z => ?_) fun z => by rw [z]; rfl
      rw [z, Bool.false_or]
      refine kitAny_cons e2 (fun z2 => ?_) fun z2 => z2
      rw [z2]
      rfl
    · exact k _ h1 _ _ ρ1 _ (s1.trans sn) p1 r2 (.p (.bl _)) q1
end
end Kb

/-! What is walked is a list or a tuple; data of bounded depth. -/
namespace Kb
open PySem PySem.Spec PyProof.Rows L2
/-- either kind -/
def iSeq (K : PySem.W.Frag) (tl : TE) : TI := fun σ H R => tl σ H fun x H1 => (∃ a, x = .ref a ∧ (∃ xs, SqL K H1 a xs) ∧ R (Itl K a) H1) ∨ ∃ a, x = .ref a ∧ (∃ xs, SqT K H1 a xs) ∧ R (Itt K a) H1
theorem pi_seq {X : Cx} {tg l : Expr} {tl : TE} (hl : PE X l tl) : PI X tg l (iSeq X.K tl) := by
  refine ⟨fun pins s σ H R I h => ?_⟩
  refine thn (hl.run pins s σ H _ I h) fun v s1 ⟨x, H1, I1, r1, q1⟩ => ?_
  have fin : ∀ b ∈ [s1.heap.objs.size], _ := fun b hb => by
    have e : b = s1.heap.objs.size := by simpa using hb
    subst e
    exact I1.fpOk (Nat.le_refl _) (I1.hok.fresh (Nat.le_refl _))
  rcases q1 with q1 | q1 <;> obtain ⟨a, e, ⟨xs, hq⟩, q⟩ := q1 <;> subst e <;> cases r1
  · obtain ⟨its, rv, p, hz⟩ := I1.list hq
    refine wpAny_pyIter_list p.isList ?_
    exact ⟨s1.heap.objs.size, [s1.heap.objs.size], _, _, H1, rfl, I1.kept (t' := s1.toks) fun b o e => Heap.get?_push_of_some _ e, turn_list a _, ⟨_, Heap.get?_push_size _ rfl, rfl, rfl⟩, fin, q⟩
  · obtain ⟨its, rv, p, hz⟩ := I1.tuple hq
    refine wpAny_pyIter_tuple (show s1.heap.IsTuple a its.toArray from p) ?_
    exact ⟨s1.heap.objs.size, [s1.heap.objs.size], _, _, H1, rfl, I1.kept (t' := s1.toks) fun b o e => Heap.get?_push_of_some _ e, turn_tuple a _, ⟨_, Heap.get?_push_size _ rfl, rfl, rfl⟩, fin, q⟩
section
variable {K : PySem.W.Frag} {Θ : Ctx} {env : Env'} {h : Hs}
theorem vi_seqL {tl : TE} {R : List D → (Hs → Prop) → Hs → Prop} (q : VE K Θ tl env h fun x h1 => ∃ ps, x = dL ps ∧ R (ps.map D.p) (fun _ => True) h1) : VI K Θ (iSeq K tl) env h R := fun F ρ σ H Q rl e k =>
  q F ρ σ H _ rl e fun x h1 vx F1 ρ1 H1 s1 p1 r1 dx q1 => by
    obtain ⟨ps, rfl, q1⟩ := q1
    cases dx with
    | p dx =>
      cases dx with
      | @lst a _ vs ha rp =>
        refine .inl ⟨a, rfl, ⟨vs, r1.same.seq ha⟩, k (ps.map D.p) (fun _ => True) h1 _ F1 ρ1 H1 s1 p1 r1 ⟨fun F' ρ' h' H' s p r _ => ?_, fun i F' ρ' h' H' s p r _ hi => ?_, fun i d F' ρ' h' H' x H2 s p r _ hd hy => ?_⟩ q1⟩
        · exact ⟨vs, r.same.seq (s.seq ha), by rw [List.length_map, rp.len]; exact Nat.le_refl _⟩
        · rw [List.length_map, rp.len] at hi
          exact ⟨vs, vs[i], r.same.seq (s.seq ha), List.getElem?_eq_getElem hi⟩
        · obtain ⟨e1, e2⟩ := hy
          subst e1
          rw [List.getElem?_map] at hd
          cases hp : ps[i]? with
          | none => rw [hp] at hd; cases hd
          | some p0 =>
            rw [hp] at hd; cases hd
            obtain ⟨v, hv, rv⟩ := rp.get hp
            have ev := e2 vs (r.same.seq (s.seq ha))
            rw [hv] at ev; cases ev
            exact ⟨F', Same.refl _, r, .p (rv.mono s)⟩
theorem vi_seqT {tl : TE} {R : List D → (Hs → Prop) → Hs → Prop} (q : VE K Θ tl env h fun x h1 => ∃ ps, x = dT ps ∧ R (ps.map D.p) (fun _ => True) h1) : VI K Θ (iSeq K tl) env h R := fun F ρ σ H Q rl e k =>
  q F ρ σ H _ rl e fun x h1 vx F1 ρ1 H1 s1 p1 r1 dx q1 => by
    obtain ⟨ps, rfl, q1⟩ := q1
    cases dx with
    | p dx =>
      cases dx with
      | @tup a _ vs ha rp =>
        refine .inr ⟨a, rfl, ⟨vs, sqT_mono r1.same ha⟩, k (ps.map D.p) (fun _ => True) h1 _ F1 ρ1 H1 s1 p1 r1 ⟨fun F' ρ' h' H' s p r _ => ?_, fun i F' ρ' h' H' s p r _ hi => ?_, fun i d F' ρ' h' H' x H2 s p r _ hd hy => ?_⟩ q1⟩
        · exact ⟨vs, sqT_mono r.same (sqU_mono s ha), by rw [List.length_map, rp.len]; exact Nat.le_refl _⟩
        · rw [List.length_map, rp.len] at hi
          exact ⟨vs, vs[i], sqT_mono r.same (sqU_mono s ha), List.getElem?_eq_getElem hi⟩
        · obtain ⟨e1, e2⟩ := hy
          subst e1
          rw [List.getElem?_map] at hd
          cases hp : ps[i]? with
          | none => rw [hp] at hd; cases hd
          | some p0 =>
            rw [hp] at hd; cases hd
            obtain ⟨v, hv, rv⟩ := rp.get hp
            have ev := e2 vs (sqT_mono r.same (sqU_mono s ha))
            rw [hv] at ev; cases ev
            exact ⟨F', Same.refl _, r, .p (rv.mono s)⟩
theorem vi_seqO {tl : TE} {R : List D → (Hs → Prop) → Hs → Prop} (q : VE K Θ tl env h fun x h1 => ∃ n xs, x = .own n ∧ h1[n]? = some (some (.lst xs)) ∧ R xs (fun h2 => h2[n]? = some (some (.lst xs))) h1) : VI K Θ (iSeq K tl) env h R := fun F ρ σ H Q rl e k =>
  q F ρ σ H _ rl e fun x h1 vx F1 ρ1 H1 s1 p1 r1 dx q1 => by
    obtain ⟨n, xs, rfl, hx, q1⟩ := q1
    cases dx with
    | @own a _ ha =>
      have at_ : ∀ (F' : Hp) (ρ' : List Addr) (h' : Hs) (H' : Hp), Pre ρ1 ρ' → Rel K Θ F' ρ' h' H' → h'[n]? = some (some (.lst xs)) → ∃ vs, H' a = some (.lst vs) ∧ RA K F' ρ' xs vs := fun F' ρ' h' H' p r hn => by
        obtain ⟨a', u, e1, e2, e3, vs, e4, e5⟩ := r.own _ _ hn
        rw [p _ _ ha] at e1; cases e1
        subst e4
        exact ⟨vs, e3, e5⟩
      obtain ⟨vs, hv, _⟩ := at_ F1 ρ1 h1 H1 (Pre.refl _) r1 hx
      refine .inl ⟨a, rfl, ⟨vs, .of hv⟩, k xs _ h1 _ F1 ρ1 H1 s1 p1 r1 ⟨fun F' ρ' h' H' s p r c => ?_, fun i F' ρ' h' H' s p r c hi => ?_, fun i d F' ρ' h' H' x H2 s p r c hd hy => ?_⟩ q1⟩
      · obtain ⟨vs, hv, rv⟩ := at_ F' ρ' h' H' p r c
        exact ⟨vs, .of hv, by rw [rv.len]; exact Nat.le_refl _⟩
      · obtain ⟨vs, hv, rv⟩ := at_ F' ρ' h' H' p r c
        rw [rv.len] at hi
        exact ⟨vs, vs[i], .of hv, List.getElem?_eq_getElem hi⟩
      · obtain ⟨e1, e2⟩ := hy
        subst e1
        obtain ⟨vs, hv, rv⟩ := at_ F' ρ' h' _ p r c
        obtain ⟨v, h1, h2⟩ := rv.get hd
        have ev := e2 vs (.of hv)
        rw [h1] at ev; cases ev
        exact ⟨F', Same.refl _, r, h2⟩

theorem vc_lenL {xs : List P} {R : D → Hs → Prop} (q : R (dI xs.length) h) : VC K Θ (fun xs H Q => ∃ x n, xs = [x] ∧ LenV K x H n ∧ Q (.int n) H) [dL xs] h R := vc_len (n := xs.length) rfl q
theorem vc_lenT {xs : List P} {R : D → Hs → Prop} (q : R (dI xs.length) h) : VC K Θ (fun xs H Q => ∃ x n, xs = [x] ∧ LenV K x H n ∧ Q (.int n) H) [dT xs] h R := vc_len (n := xs.length) rfl q
theorem vc_lenO {i : Nat} {xs : List D} {R : D → Hs → Prop} (hx : h[i]? = some (some (.lst xs))) (q : R (dI xs.length) h) : VC K Θ (fun xs H Q => ∃ x n, xs = [x] ∧ LenV K x H n ∧ Q (.int n) H) [.own i] h R := vc_len (n := xs.length) ⟨xs, hx, rfl⟩ q
theorem ite_nrefl {α : Type} [DecidableEq α] {a : α} {A B : Prop} (q : B) : if (!decide (a = a)) = true then A else B := by rw [decide_eq_true (rfl : a = a)]; exact q
theorem ite_refl {α : Type} [DecidableEq α] {a : α} {A B : Prop} (q : A) : if decide (a = a) = true then A else B := by rw [decide_eq_true (rfl : a = a)]; exact q
theorem isi2_i {x : D} {T m n : String} {S : String → Prop} (hT : tyD x h T) (hm : m ∈ ["bool", "int", "str", "tuple", "list", "dict"]) (hn : n ∈ ["bool", "int", "str", "tuple", "list", "dict"]) (q : S T) :
    ∃ T, tyD x h T ∧ m ∈ ["bool", "int", "str", "tuple", "list", "dict"] ∧ n ∈ ["bool", "int", "str", "tuple", "list", "dict"] ∧ S T := ⟨T, hT, hm, hn, q⟩
theorem ite_tt {c : Bool} {A B : Prop} (e : c = true) (q : A) : if c = true then A else B := by rw [if_pos e]; exact q
theorem ite_ff {c : Bool} {A B : Prop} (e : c = false) (q : B) : if c = true then A else B := by rw [e, if_neg Bool.false_ne_true]; exact q
theorem vt_yes {B : Bool → Hs → Prop} (q : B true h) : VT K Θ tYes env h B := fun F ρ σ H Q rl e k => k true h F ρ H (Same.refl _) (Pre.refl _) rl q
theorem fm_get {α : Type} (ys : List α) : (List.range ys.length).filterMap (fun i => ys[i]?) = ys := by
  induction ys with
  | nil => rfl
  | cons x xs ih =>
    rw [List.length_cons, List.range_succ_eq_map, List.filterMap_cons]
    simp only [List.getElem?_cons_zero, List.filterMap_map]
    exact congrArg (x :: ·) ih
theorem ve_lcMap {wi : TI} {g : TG} {te : TE} {vs : List Nat} {R : D → Hs → Prop} (tg : TgOk g vs)
    (q : VI K Θ wi env h fun ds C h1 => ∃ ys : List P, ys.length = ds.length ∧ ds.length < sizeLine ∧ (∀ acc, C (h1 ++ [some (.lst acc)])) ∧
      (∀ (i : Nat) (d : D) (y : P) (acc : List D), ds[i]? = some d → ys[i]? = some y → VG K Θ g d (wipeD env vs) (h1 ++ [some (.lst acc)]) fun env' h' => h' = h1 ++ [some (.lst acc)] ∧ VE K Θ te env' h' fun z h3 => h3 = h1 ++ [some (.lst acc)] ∧ z = .p y) ∧ R (dL ys) h1) : VE K Θ (tLc wi g tYes te vs) env h R :=
  ve_lc tg fun F ρ σ H Q rl e k => q F ρ σ H Q rl e fun ds C h' J F' ρ' H' s p r it ⟨ys, hl, hz, hC, turn, fin⟩ => k ds C h' J F' ρ' H' s p r it
    ⟨fun i => ys[i]?, hz, hC, fun i d acc hd => by
      have hi : i < ys.length := by rw [hl]; exact (List.getElem?_eq_some_iff.mp hd).1
      have ey : ys[i]? = some ys[i] := List.getElem?_eq_getElem hi
      refine fun F ρ σ H v Q rl e dv k => turn i d _ acc hd ey F ρ σ H v Q rl e dv fun env' h' F' ρ' σ' H' s p r e' ⟨eh, qe⟩ => k env' h' F' ρ' σ' H' s p r e' ⟨eh, vt_yes ⟨rfl, ite_tt rfl ?_⟩⟩
      exact VE.imp qe fun z h3 ⟨a, b⟩ => ⟨a.trans eh.symm, ys[i], b, ey⟩, by rw [← hl, fm_get]; exact fin⟩
end
/-- tuples in place of all lists -/
def frzP : Nat → P → P
  | n + 1, .tup xs => .tup (xs.map (frzP n))
  | n + 1, .lst xs => .tup (xs.map (frzP n))
  | _, x => x
end Kb

/-! sum of a list or a tuple; fields; more steps. -/
namespace Kb
open PySem PySem.Spec PyProof.Rows L2
section
variable {prog : Program} {w : World} {A : Around} {E : Value → Shared → Prop} {s : Shared} {l : Addr} {its : List Value} {ns : List Int} {Q : Value → Shared → Prop}
end
section
variable {X : Cx}
end
section
variable {K : PySem.W.Frag} {Θ : Ctx} {env : Env'} {h : Hs} {R : D → Hs → Prop}
class IsPs (xs : List D) (ps : outParam (List P)) : Prop where
  eq : xs = ps.map D.p
instance : IsPs [] [] := ⟨rfl⟩
instance {x : P} {ds : List D} {ps : List P} [h : IsPs ds ps] : IsPs (.p x :: ds) (x :: ps) := ⟨by rw [h.eq]; rfl⟩
theorem tup_j {S : List P → Prop} {xs : List D} {ps : List P} [ex : IsPs xs ps] (hl : Nat.ble xs.length 100000 = true) (q : S ps) : ∃ ps, xs = ps.map D.p ∧ xs.length ≤ sizeLine ∧ S ps := ⟨ps, ex.eq, sz_le (Nat.le_of_ble_eq_true hl), q⟩
end
end Kb

/-! The rules with the kit's part named: they serve in the block of a comprehension too. -/
namespace Kb
open PySem PySem.Spec PyProof.Rows L2
section
variable {X : Cx} {K : PySem.W.Frag}
theorem op_eqUK (hK : X.K = K) (hu : X.A.units + 64 < cLine) : OpR X (compareOp .Eq) (rEqU K) := hK ▸ op_eqU hu
theorem op_neUK (hK : X.K = K) (hu : X.A.units + 64 < cLine) : OpR X (compareOp .NotEq) (rNeU K) := hK ▸ op_neU hu
theorem op_inUK (hK : X.K = K) : OpR X (compareOp .In) (rInU K) := hK ▸ op_inU
theorem ix_seqK (hK : X.K = K) : IxR X (rIx K) := hK ▸ ix_seq
theorem sl_listK (hK : X.K = K) : SlR X (rSlL K) := hK ▸ sl_list
theorem call_lenK (hK : X.K = K) : CallR X (.builtin "len") (fun xs H Q => ∃ x n, xs = [x] ∧ LenV K x H n ∧ Q (.int n) H) := hK ▸ call_len
theorem call_isiUK (hK : X.K = K) : CallR X (.builtin "isinstance") (rIsiU K) := hK ▸ call_isiU
theorem call_tuple_ofK (hK : X.K = K) : CallR X (.type "tuple") (fun xs H Q => ∃ p ys, xs = [.ref p] ∧ ((SqL K H p ys ∧ ∀ l, H l = none → Q (.ref l) (upd H l (.tup ys))) ∨ (SqT K H p ys ∧ Q (.ref p) H))) := hK ▸ call_tuple_of
theorem pi_seqK {tg l : Expr} {tl : TE} (hK : X.K = K) (hl : PE X l tl) : PI X tg l (iSeq K tl) := hK ▸ pi_seq hl
theorem pe_fldK {e : Expr} {ta : TE} {f : Str} {pos : Pos} (hK : X.K = K) (he : PE X e ta) (hb : attributeBase e f X.env (eval e X.env) = eval e X.env) : PE X (.Attribute e f pos) (tFld K ta f) := hK ▸ pe_fld he hb
end
section
variable {K : PySem.W.Frag} {Θ : Ctx} {env : Env'} {h : Hs} {E : En} {t1 t2 : TS}
/-- what is known between two statements -/
theorem vs_cut (I : Env' → Hs → Prop) (q : VS K Θ t1 { E with nx := I } env h) (k : ∀ env' h', I env' h' → VS K Θ t2 E env' h') : VS K Θ (tSeq t1 t2) E env h :=
  vs_seq (VS.imp q k (fun _ _ x => x) (fun _ _ x => x) fun _ _ x => x)
end
end Kb

/-! Keys of three numbers; lists of pairs of numbers; membership. -/
namespace Kb
open PySem PySem.Spec PyProof.Rows L2
open PySem.W (dataLe dataLt AllAlike Sortable)
section
variable {K : PySem.W.Frag} {Θ : Ctx} {h : Hs} {R : D → Hs → Prop}
end
end Kb

/-! From what the top has written to the defs; from the def of the law to its row. -/
namespace Kb
open PySem PySem.Spec PyProof.Rows L2
section
variable {K : PySem.W.Frag} {Θ : Ctx} {h : Heap} {mg : Str → Option Value} {x m qual : Str} {st : Stmt} {ps : List Str} {f C : Addr} {oc : Value} {od an : Option Addr} {osl : Array (Option Value)} {kV doc pm cdv ct : Value}
theorem defAt_mk (X : K.In h) (G : h.Ns mainGlobals mg) (hb : ∀ (kV doc pm : Value) (an : Option Addr) (cdv ct : Value) (us : List Value), us.length = ps.length → bindArgs (PySem.W.fnOf x x (defArgs st) (defBody st) (defScope st) .none kV doc pm an cdv ct) ⟨us, []⟩ = pure (ps.zip us))
    (a : PySem.W.nsIn K mainGlobals x = some (some (.ref f))) (l : K.lookup f = some ⟨oc, od, .func (PySem.W.fnOf x x (defArgs st) (defBody st) (defScope st) .none kV doc pm an cdv ct), osl⟩) (c : PySem.W.codeIn K cdv x = true) (k : PySem.W.keepIn K (.ref f) = true) : DefAt K mg x st ps :=
  have F := fun_mk (st := st) l c k
  ⟨f, _, F, PySem.W.mg_of X G a, F.binds hb⟩
theorem methAt_mk (hb : ∀ (kV doc pm : Value) (an : Option Addr) (cdv ct : Value) (us : List Value), us.length = ps.length → bindArgs (PySem.W.fnOf m qual (defArgs st) (defBody st) (defScope st) .none kV doc pm an cdv ct) ⟨us, []⟩ = pure (ps.zip us))
    (a : PySem.W.findIn K (.ref C) m = some (some (.ref f))) (i : PySem.W.isFn K (.ref f) = true) (l : K.lookup f = some ⟨oc, od, .func (PySem.W.fnOf m qual (defArgs st) (defBody st) (defScope st) .none kV doc pm an cdv ct), osl⟩) (c : PySem.W.codeIn K cdv qual = true) (k : PySem.W.keepIn K (.ref f) = true) : MethAt K C m qual st ps :=
  have F := fun_mk (st := st) l c k
  ⟨f, _, F, ⟨a, i, k⟩, F.binds hb⟩
theorem initAt_mk (hb : ∀ (kV doc pm : Value) (an : Option Addr) (cdv ct : Value) (us : List Value), us.length = ps.length → bindArgs (PySem.W.fnOf "__init__" qual (defArgs st) (defBody st) (defScope st) .none kV doc pm an cdv ct) ⟨us, []⟩ = pure (ps.zip us))
    (a : PySem.W.findIn K (.ref C) "__init__" = some (some (.ref f))) (i : PySem.W.isFn K (.ref f) = true) (l : K.lookup f = some ⟨oc, od, .func (PySem.W.fnOf "__init__" qual (defArgs st) (defBody st) (defScope st) .none kV doc pm an cdv ct), osl⟩) (c : PySem.W.codeIn K cdv qual = true) (k : PySem.W.keepIn K (.ref f) = true)
    (mk : PySem.W.makesIn K C = true) (kc : PySem.W.keepIn K (.ref C) = true) : InitAt K C qual st ps :=
  have F := fun_mk (st := st) l c k
  ⟨f, _, F, ⟨mk, a, i, kc⟩, F.binds hb⟩
end
theorem bits_log {z : Int} (h : Builtin.Int.intBits z ≤ 1048576) : z.natAbs.log2 < 2000000 := by
  unfold Builtin.Int.intBits at h
  split at h
  · rename_i e
    have : z = 0 := by simpa using e
    subst this
    decide
  · omega
/-- the law's promise at its own call; Θ: the tables -/
theorem spD_start {K : PySem.W.Frag} {T : Tbs} {W : Spc} {H : Hp} {a : Addr} {ns : List Int} {E : XK} (hT : ∀ P ∈ T, H P = some (.tbl #[])) (hL : ∀ p ∈ T.l, H p.1 = some (.tbl #[])) (sq : SqL K H a (ns.map V.int)) (w : W [dL (ns.map P.int)] [] fun d _ => d = dB true) : spD K T W [.ref a] H (fun v _ => v = .bl true) E := by
  refine ⟨[dL (ns.map P.int)], [], fun b => if b ∈ T.g ∨ b ∈ T.l.map (·.1) then none else H b, [], fun d _ => d = dB true, ⟨fun b o e => ?_, rfl, fun i o h => by simp at h, fun i j o u a h => by simp at h, fun P hP => ⟨if_pos (.inl hP), #[], hT P hP, trivial⟩, fun p hp => ⟨if_pos (.inr (List.mem_map_of_mem hp)), LamX.TabS.nil (hL p hp)⟩⟩, .cons (.p (.lst ?_ (RPs.of_ints ns))) .nil, w, fun d h' v F' ρ' H' s p r dv e => ?_⟩
  · by_cases hb : b ∈ T.g ∨ b ∈ T.l.map (·.1)
    · have e' := (if_pos hb).symm.trans e
      cases e'
    · exact (if_neg hb).symm.trans e
  · have na : ∀ u, H a = some u → (∀ q, u ≠ .tbl q) → ¬(a ∈ T.g ∨ a ∈ T.l.map (·.1)) := fun u e n hm => by
      rcases hm with hm | hm
      · rw [hT a hm] at e
        exact n _ (Option.some.inj e).symm
      · obtain ⟨p, hp, rfl⟩ := List.mem_map.mp hm
        rw [hL p hp] at e
        exact n _ (Option.some.inj e).symm
    rcases sq with (q | ⟨o, q⟩) | q
    · exact .inl (.inl ((if_neg (na _ q fun _ z => by cases z)).trans q))
    · exact .inl (.inr ⟨o, (if_neg (na _ q fun _ z => by cases z)).trans q⟩)
    · exact .inr q
  · subst e
    exact dv.bl
/-- the end of a law without tables -/
theorem walkD {l : PySem.W.OpenLaw} {k : Nat} {q : Program} {loose : List Str} {XP : (Str → Option Value) → Heap → Prop} {YP : World → Heap → Prop} {d : DefRec} {K : Params → PySem.W.Frag} {W : Spc}
    (hn : l.most = some 63) (hdf : d.params.defaults = []) (hr : Room k callerA) (hY : ∀ (w : World) (h : Heap), YP w h → (K w.params).In h)
    (hW : ∀ ns : List Int, ns.length ≤ 63 → (∀ n ∈ ns, n.natAbs.log2 < 2000000) → W [dL (ns.map P.int)] [] fun d _ => d = dB true)
    (F : ∀ (w : World) (mg : Str → Option Value) (fa : Addr) (h : Heap), (K w.params).In h → h.Ns mainGlobals mg → mg d.name = some (.ref fa) →
      ∃ fd : FuncData, (∀ (s : Shared) (u : Value), BindsTo s fd ⟨[u], []⟩ [("script", u)]) ∧ ∀ base : Heap, (K w.params).In base → base.Ns mainGlobals mg → FnOk l.prog w (K w.params) mg base CX0 k fa fd ["script"] (spD (K w.params) (Tbs.of []) W)) :
    PySem.W.WalkO q loose XP YP l.row.toRowW d [] (fun f vs => PySem.call f vs) :=
  L2.walk_ofB (n := 63) (k := k) (x := "script") (CX := fun _ => CX0) (sp := fun w => spD (K w.params) (Tbs.of []) W) hn (by decide) hdf hr hY F
    (fun w H a ns hl hb _ hS => spD_start (fun P hP => absurd (show P ∈ ([] : List Addr) from hP) (by simp)) (fun p hp => by simp at hp) hS (hW ns hl fun n hm => bits_log (hb n hm))) fun _ _ _ _ _ z => z
end Kb

/-! any, all of a generator expression whose test may call defs: the generator's turns. -/
namespace Gx
open PySem PySem.Spec PyProof.Rows L2 GenW
section
variable {X : Cx} {Ag : Around} {elt tg iter : Expr} {scope : Scope} {gpos : Pos} {it : Addr} {fp : List Addr} {tn : Nat → Heap → Prop} {J : It} {g : TG} {te : TE} {vs : List Nat} {pins : List (Addr × Obj)} {σw : L2.St} {W : Nat → Hp → Prop} {N : Nat} {tr : Nat → Bool}
end
end Gx

/-! any, all: they ask the generator. -/
namespace Gx
open PySem PySem.Spec PyProof.Rows L2 GenW
section
variable {X : Cx} {A : Around} {fp : List Addr} {tn : Nat → Heap → Prop} {pins : List (Addr × Obj)} {σw : L2.St} {W : Nat → Hp → Prop} {N : Nat} {tr : Nat → Bool} {a : Addr} {g : Nat} {R : Result → Shared → Prop}
end
end Gx

/-! The context in which a generator expression's test runs. -/
namespace Gx
open PySem PySem.Spec PyProof.Rows L2 GenW
section
variable {X : Cx} {pins0 : List (Addr × Obj)} {σ : L2.St} {H : Hp} {s : Shared} {scope : Scope} {own : List (Str × Nat)} {fp : List Addr} {A : Around} {code : Value} {h' : Heap} {tk : Nat} {gs : Array GenState} {itv : Value} {gob : Obj}
end
end Gx

/-! any(test for x in xs), all(..): the rules. -/
namespace Gx
open PySem PySem.Spec PyProof.Rows L2 GenW GxR
section
variable {X : Cx} {pins : List (Addr × Obj)} {σ : L2.St} {H : Hp} {s : Shared} {elt tg iter : Expr} {scope : Scope} {gpos : Pos} {own : List (Str × Nat)} {wi : TI} {g : TG} {te : TE} {c P : Addr} {k : Nat}
end
end Gx

/-! any(test for x in xs), all(..) in data. -/
namespace Kb
open PySem PySem.Spec PyProof.Rows L2 Gx GxR
section
variable {K : PySem.W.Frag} {Θ : Ctx} {env : Env'} {h : Hs} {R : D → Hs → Prop}
end
end Kb

/-! any, all of a generator expression in data. -/
namespace Kb
open PySem PySem.Spec PyProof.Rows L2 Gx GxR
section
variable {K : PySem.W.Frag} {Θ : Ctx} {env : Env'} {h : Hs} {R : D → Hs → Prop}
end
end Kb

/-! Defs whose code object is known by address; the end with tables, by what the top's text says of them. -/
namespace Kb
open PySem PySem.Spec PyProof.Rows L2
section
variable {K : PySem.W.Frag} {Θ : Ctx} {h : Heap} {mg : Str → Option Value} {x : Str} {st : Stmt} {ps : List Str} {f c : Addr} {oc : Value} {od an : Option Addr} {osl : Array (Option Value)} {kV doc pm ct : Value}
variable {P : Program} {w : World} {base : Heap} {N : List Str} {k : Nat}
end
end Kb

/-! Comprehensions with two sources, in data. -/
namespace Kb
open PySem PySem.Spec PyProof.Rows L2
/-- the first n parts, one behind the other -/
def catN (gs : Nat → List P) : Nat → List P
  | 0 => []
  | n + 1 => catN gs n ++ gs n
theorem catN_le {gs : Nat → List P} {i : Nat} : ∀ {n : Nat}, i ≤ n → (catN gs i).length ≤ (catN gs n).length
  | 0, h => by cases Nat.le_zero.mp h; exact Nat.le_refl _
  | n + 1, h => by
    rcases Nat.lt_or_ge i (n + 1) with z | z
    · refine Nat.le_trans (catN_le (Nat.lt_succ_iff.mp z)) ?_
      rw [catN, List.length_append]
      exact Nat.le_add_right _ _
    · cases Nat.le_antisymm h z
      exact Nat.le_refl _
theorem fm_le {α : Type} {f : Nat → Option α} {i : Nat} : ∀ {n : Nat}, i ≤ n → ((List.range i).filterMap f).length ≤ ((List.range n).filterMap f).length
  | 0, h => by cases Nat.le_zero.mp h; exact Nat.le_refl _
  | n + 1, h => by
    rcases Nat.lt_or_ge i (n + 1) with z | z
    · refine Nat.le_trans (fm_le (Nat.lt_succ_iff.mp z)) ?_
      rw [filterMap_succ, List.length_append]
      exact Nat.le_add_right _ _
    · cases Nat.le_antisymm h z
      exact Nat.le_refl _
section
variable {K : PySem.W.Frag} {Θ : Ctx} {env : Env'} {h : Hs} {R : D → Hs → Prop}
/-- what one turn of the first source must do: the heap as it was, the items o -/
def Lc2Turn (K : PySem.W.Frag) (Θ : Ctx) (g : TG) (tt : TT) (wi1 : TI) (g1 : TG) (tt1 : TT) (te : TE) (vs1 : List Nat) (env : Env') (d : D) (h1 : Hs) (acc0 : List D) (o : List P) : Prop :=
  VG K Θ g d env (h1 ++ [some (.lst acc0)]) fun env2 h2 => h2 = h1 ++ [some (.lst acc0)] ∧ VT K Θ tt env2 h2 fun b h3 => h3 = h2 ∧
    if b = true then VI K Θ wi1 env2 h3 (fun ds1 C1 h4 => h4 = h3 ∧ ∃ fs : Nat → Option P, (∀ acc, C1 (h1 ++ [some (.lst acc)])) ∧
      (∀ (j : Nat) (d1 : D) (acc : List D), ds1[j]? = some d1 → LcTurn K Θ g1 tt1 te (wipeD env2 vs1) d1 (h1 ++ [some (.lst acc)]) (fs j)) ∧ o = (List.range ds1.length).filterMap fs) else o = []
theorem lc2_run {wi wi1 : TI} {g g1 : TG} {tt tt1 : TT} {te : TE} {vs vs1 : List Nat} (tg : TgOk g vs) (tg1 : TgOk g1 vs1) {F : Hp} {ρ : List Addr} {σ : L2.St} {H1 : Hp} {ds : List D} {C : Hs → Prop} {h1 : Hs} {J : It} (Q : VK)
    (r1 : Rel K Θ F ρ h1 H1) (e : REnv K F ρ env σ) (it : ItOk K Θ F ρ C ds J) (gs : Nat → List P) (hl : (catN gs ds.length).length < sizeLine) (hC : ∀ acc, C (h1 ++ [some (.lst acc)]))
    (turn : ∀ i d acc, ds[i]? = some d → Lc2Turn K Θ g tt wi1 g1 tt1 te vs1 (wipeD env vs) d h1 acc (gs i))
    (fin : ∀ (p : Addr) (F' : Hp) (us : List V) (H : Hp), Same F F' → F' p = none → H p = some (.lst us) → H1 p = none → Rel K Θ F' (ρ ++ [p]) (h1 ++ [some (.lst ((catN gs ds.length).map D.p))]) H → RPs K F' (catN gs ds.length) us → Rel K Θ F' ρ h1 H → Q (.ref p) H) :
    ∀ D, H1 D = none → ∃ W : Nat → Nat → Hp → Prop, (∃ m, W 0 m (upd H1 D (.lst []))) ∧ ∀ i m H, W i m H →
  (J.stop i H ∧ Q (.ref D) H) ∨ (J.go i H ∧ ∃ Nx : Hp → Prop, (∀ H', Nx H' → ∃ m', m' < m ∧ W (i + 1) m' H') ∧ ∀ x H', J.yld i H x H' → g x (wipe σ vs) H' fun σ2 H2 => wipe σ2 vs = wipe σ vs ∧ tt σ2 H2 fun b H3 =>
    if b = true then wi1 σ2 H3 fun J1 H4 => ∃ W1 : Nat → Nat → Hp → Prop, (∃ m, W1 0 m H4) ∧ ∀ j k H, W1 j k H →
      (J1.stop j H ∧ Nx H) ∨ (J1.go j H ∧ ∃ Nx1 : Hp → Prop, (∀ H', Nx1 H' → ∃ k', k' < k ∧ W1 (j + 1) k' H') ∧ ∀ x H', J1.yld j H x H' → g1 x (wipe σ2 vs1) H' fun σ3 H5 => wipe σ3 vs1 = wipe σ2 vs1 ∧ tt1 σ3 H5 fun b H6 =>
        if b = true then te σ3 H6 fun y H7 => ∃ acc, H7 D = some (.lst acc) ∧ acc.length < sizeLine ∧ Nx1 (upd H7 D (.lst (acc ++ [y]))) else Nx1 H6)
    else Nx H3) := by
  intro p hp
  have hn : (h1 ++ [some (OO.lst [])])[h1.length]? = some (some (.lst [])) := by simp
  refine ⟨fun i m H => m = ds.length - i ∧ i ≤ ds.length ∧ ∃ F', Same F F' ∧ Rel K Θ F' (ρ ++ [p]) (h1 ++ [some (.lst ((catN gs i).map D.p))]) H, ⟨ds.length, by simp, Nat.zero_le _, F, Same.refl _, r1.push (o := .lst []) hp ⟨[], rfl, .nil⟩⟩, ?_⟩
  rintro i m H ⟨rfl, hi, F', s, r⟩
  have hpl : (ρ ++ [p])[h1.length]? = some p := by rw [← r1.len]; simp
  have got : ∀ (F' : Hp) (H : Hp) (xs : List D), Rel K Θ F' (ρ ++ [p]) (h1 ++ [some (.lst xs)]) H → ∃ us, H p = some (.lst us) ∧ F' p = none ∧ RA K F' (ρ ++ [p]) xs us := fun F' H xs r => by
    obtain ⟨a, u, e1, e2, e3, us, e4, e5⟩ := r.own h1.length (.lst xs) (by simp)
    rw [hpl] at e1; cases e1
    subst e4
    exact ⟨us, e3, e2, e5⟩
  by_cases hlt : i < ds.length
  · refine .inr ⟨it.go i F' (ρ ++ [p]) _ H s (Pre.push _ _) r (hC _) hlt, fun H' => ∃ F2, Same F F2 ∧ Rel K Θ F2 (ρ ++ [p]) (h1 ++ [some (.lst ((catN gs (i + 1)).map D.p))]) H', fun H' ⟨F2, s2, r2⟩ => ⟨ds.length - (i + 1), by omega, rfl, hlt, F2, s2, r2⟩, fun x H' hy => ?_⟩
    have hd : ds[i]? = some ds[i] := List.getElem?_eq_getElem hlt
    obtain ⟨F2, s2, r2, dx⟩ := it.yld i _ F' (ρ ++ [p]) _ H x H' s (Pre.push _ _) r (hC _) hd hy
    refine tg x σ H' _ ?_
    refine turn i _ _ hd F2 (ρ ++ [p]) (wipe σ vs) H' x _ r2 ((e.mono (s.trans s2) (Pre.push _ _)).wipes vs) dx fun env3 h3 F3 ρ3 σ3 H3 s3 p3 r3 e3 q3 => ?_
    obtain ⟨rfl, q3⟩ := q3
    have eρ : ρ3 = ρ ++ [p] := pre_eq p3 (by rw [r3.len, r2.len])
    subst eρ
    refine q3 F3 _ σ3 H3 _ r3 e3 fun b h4 F4 ρ4 H4 s4 p4 r4 q4 => ?_
    obtain ⟨rfl, q4⟩ := q4
    have eρ : ρ4 = ρ ++ [p] := pre_eq p4 (by rw [r4.len, r3.len])
    subst eρ
    have ss : Same F F4 := s.trans (s2.trans (s3.trans s4))
    cases b with
    | true =>
      rw [if_pos rfl] at q4 ⊢
      refine q4 F4 _ σ3 H4 _ r4 (e3.mono s4 p4) fun ds1 C1 h5 J1 F5 ρ5 H5 s5 p5 r5 it1 q5 => ?_
      obtain ⟨rfl, fs, hC1, turn1, eg⟩ := q5
      have eρ : ρ5 = ρ ++ [p] := pre_eq p5 (by rw [r5.len, r4.len])
      subst eρ
      have ss5 : Same F F5 := ss.trans s5
      have e5 : REnv K F5 (ρ ++ [p]) env3 σ3 := (e3.mono s4 p4).mono s5 p5
      refine ⟨fun j k H => k = ds1.length - j ∧ j ≤ ds1.length ∧ ∃ F', Same F5 F' ∧ Rel K Θ F' (ρ ++ [p]) (h1 ++ [some (.lst ((catN gs i ++ (List.range j).filterMap fs).map D.p))]) H, ⟨ds1.length, by simp, Nat.zero_le _, F5, Same.refl _, by simpa using r5⟩, ?_⟩
      rintro j k H6 ⟨rfl, hj, F6, s6, r6⟩
      by_cases hjt : j < ds1.length
      · refine .inr ⟨it1.go j F6 (ρ ++ [p]) _ H6 s6 (Pre.refl _) r6 (hC1 _) hjt, fun H' => ∃ F2, Same F5 F2 ∧ Rel K Θ F2 (ρ ++ [p]) (h1 ++ [some (.lst ((catN gs i ++ (List.range (j + 1)).filterMap fs).map D.p))]) H', fun H' ⟨F2, s2, r2⟩ => ⟨ds1.length - (j + 1), by omega, rfl, hjt, F2, s2, r2⟩, fun x1 H7 hy1 => ?_⟩
        have hd1 : ds1[j]? = some ds1[j] := List.getElem?_eq_getElem hjt
        obtain ⟨F7, s7, r7, dx1⟩ := it1.yld j _ F6 (ρ ++ [p]) _ H6 x1 H7 s6 (Pre.refl _) r6 (hC1 _) hd1 hy1
        refine tg1 x1 σ3 H7 _ ?_
        refine turn1 j _ _ hd1 F7 (ρ ++ [p]) (wipe σ3 vs1) H7 x1 _ r7 ((e5.mono (s6.trans s7) (Pre.refl _)).wipes vs1) dx1 fun env8 h8 F8 ρ8 σ8 H8 s8 p8 r8 e8 q8 => ?_
        obtain ⟨rfl, q8⟩ := q8
        have eρ : ρ8 = ρ ++ [p] := pre_eq p8 (by rw [r8.len, r7.len])
        subst eρ
        refine q8 F8 _ σ8 H8 _ r8 e8 fun b h9 F9 ρ9 H9 s9 p9 r9 q9 => ?_
        obtain ⟨rfl, q9⟩ := q9
        have eρ : ρ9 = ρ ++ [p] := pre_eq p9 (by rw [r9.len, r8.len])
        subst eρ
        have ss9 : Same F5 F9 := s6.trans (s7.trans (s8.trans s9))
        cases b with
        | true =>
          rw [if_pos rfl] at q9 ⊢
          refine q9 F9 _ σ8 H9 _ r9 (e8.mono s9 p9) fun y h10 v F10 ρ10 H10 s10 p10 r10 dv q10 => ?_
          obtain ⟨rfl, pp, rfl, ef⟩ := q10
          have eρ : ρ10 = ρ ++ [p] := pre_eq p10 (by rw [r10.len, r9.len])
          subst eρ
          obtain ⟨us, g1', g2, g3⟩ := got F10 H10 _ r10
          refine ⟨us, g1', ?_, F10, ss9.trans s10, ?_⟩
          · rw [← g3.len, List.length_map, List.length_append]
            have b1 := catN_le (gs := gs) (i := i + 1) (n := ds.length) hlt
            rw [catN, List.length_append, eg] at b1
            have b2 := fm_le (f := fs) (i := j + 1) (n := ds1.length) hjt
            rw [filterMap_succ, ef, List.length_append] at b2
            have b3 : (some pp).toList.length = 1 := rfl
            omega
          · have z := r10.put (i := h1.length) (o := .lst ((catN gs i ++ (List.range j).filterMap fs).map D.p)) (o' := .lst ((catN gs i ++ (List.range (j + 1)).filterMap fs).map D.p)) (by simp) hpl ⟨us ++ [v], rfl, by
              rw [filterMap_succ, ef, ← List.append_assoc, List.map_append]
              exact g3.append (.cons dv .nil)⟩
            rw [List.set_append_right _ _ (Nat.le_refl _), Nat.sub_self] at z
            exact z
        | false =>
          rw [if_neg Bool.false_ne_true] at q9 ⊢
          refine ⟨F9, ss9, ?_⟩
          rw [filterMap_succ, q9]
          simpa using r9
      · have ej : j = ds1.length := by omega
        subst ej
        refine .inl ⟨it1.stop F6 (ρ ++ [p]) _ H6 s6 (Pre.refl _) r6 (hC1 _), F6, ss5.trans s6, ?_⟩
        rw [catN, eg]
        exact r6
    | false =>
      rw [if_neg Bool.false_ne_true] at q4 ⊢
      refine ⟨F4, ss, ?_⟩
      rw [catN, q4, List.append_nil]
      exact r4
  · have ei : i = ds.length := by omega
    subst ei
    refine .inl ⟨it.stop F' (ρ ++ [p]) _ H s (Pre.push _ _) r (hC _), ?_⟩
    obtain ⟨us, g1, g2, g3⟩ := got F' H _ r
    refine fin p F' us H s g2 g1 hp r g3.pure (r.pop r1.len (r1.wish.mono s (Pre.refl _)) fun i o a hi ha u q => ?_)
    obtain ⟨a0, u0, f1, f2, f3, f4⟩ := r1.own i o hi
    exact f4.low q
/-- [.. for .. for ..]: a new list that stays as it is -/
theorem ve_lc2 {wi wi1 : TI} {g g1 : TG} {tt tt1 : TT} {te : TE} {vs vs1 : List Nat} (tg : TgOk g vs) (tg1 : TgOk g1 vs1)
    (q : VI K Θ wi env h fun ds C h1 => ∃ gs : Nat → List P, (catN gs ds.length).length < sizeLine ∧ (∀ acc, C (h1 ++ [some (.lst acc)])) ∧
      (∀ i d acc, ds[i]? = some d → Lc2Turn K Θ g tt wi1 g1 tt1 te vs1 (wipeD env vs) d h1 acc (gs i)) ∧ R (dL (catN gs ds.length)) h1) : VE K Θ (tLc2 wi g tt wi1 g1 tt1 te vs vs1) env h R := fun F ρ σ H Q rl e k =>
  q F ρ σ H _ rl e fun ds C h1 J F1 ρ1 H1 s1 p1 r1 it q1 => by
    obtain ⟨gs, hl, hC, turn, q1⟩ := q1
    refine lc2_run (wi := wi) tg tg1 Q r1 (e.mono s1 p1) it gs hl hC turn fun p F' us H s hn hp hp1 r rp r2 => ?_
    have sn : Same F' (upd F' p (.lst us)) := same_new hn
    refine k _ h1 (.ref p) (upd F' p (.lst us)) ρ1 H (s1.trans (s.trans sn)) p1 ?_ (.p (.lst (.of upd_same) (rp.mono sn))) q1
    have np : ∀ P ∈ Θ.tabs, P ≠ p := fun P hP => by
      obtain ⟨ps, z, _⟩ := (r2.tab P hP).2
      rintro rfl
      rw [hp] at z
      cases z
    refine ⟨⟨fun b o e => ?_, r2.len, fun i o hi => ?_, r2.inj, fun P hP => ⟨by rw [upd_ne (np P hP)]; exact (r2.tab P hP).1, (r2.tab P hP).2⟩, fun q hq => ⟨by rw [upd_ne (lam_neO (r2.lam q hq).2 hp fun _ z => by cases z)]; exact (r2.lam q hq).1, (r2.lam q hq).2⟩⟩, r2.wish.mono sn (Pre.refl _)⟩
    · by_cases hb : b = p
      · subst hb; rw [upd_same] at e; rw [hp]; exact e
      · rw [upd_ne hb] at e; exact r2.same b o e
    · obtain ⟨a, u, f1, f2, f3, f4⟩ := r2.own i o hi
      have ha : a ≠ p := fun z => by
        subst z
        obtain ⟨a0, u0, g1, g2, g3, g4⟩ := r1.own i o hi
        rw [f1] at g1; cases g1
        rw [hp1] at g3; cases g3
      exact ⟨a, u, f1, by rw [upd_ne ha]; exact f2, f3, f4.mono sn (Pre.refl _)⟩
end
end Kb

/-! zip of two sequences; a tuple as a target, K named. -/
namespace Kb
open PySem PySem.Spec PyProof.Rows L2 RZ
section
variable {X : Cx} {K : PySem.W.Frag}
theorem pg_tupK {es : List Expr} {k : Nat} {t : TGs} {n : Nat} {pos : Pos} (hK : X.K = K) (hc : X.calm = true) (h : PGs X es t)
    (hn : (assignEach es X.env).length = n := by rfl) (hst : (assignEach es X.env).findIdx? (·.1) = none := by rfl) : PG X (.Tuple es k pos) (gTup K n t) := hK ▸ pg_tup hc h hn hst
theorem pi_zipK {e e2 : Expr} {ta : TA} {p pos tpos : Pos} {elts : List Expr} {kk : Nat} (hK : X.K = K) (hg : Gl X "zip") (hm : X.mg "zip" = none) (ha : PA X [e, e2] ta)
    (hs : starEach [e, e2] X.env = (false, eval e X.env) :: starEach [e2] X.env := by rfl) (hpl : (backTo pos (starEach [e2] X.env)).any (·.1) = false := by rfl) :
    PI X (.Tuple elts kk tpos) (.Call (.Name "zip" p) [e, e2] [] pos) (iZipA K ta) := hK ▸ pi_zipA hg hm ha hs hpl
end
section
variable {K : PySem.W.Frag} {Θ : Ctx} {env : Env'} {h : Hs}
def zipP (xs ys : List P) : List D := (xs.zip ys).map fun q => dT [q.1, q.2]
theorem zip_get {α β : Type} {xs : List α} {ys : List β} {i : Nat} {q : α × β} (h : (xs.zip ys)[i]? = some q) : xs[i]? = some q.1 ∧ ys[i]? = some q.2 := by
  rw [List.getElem?_zip_eq_some] at h
  exact h
end
end Kb

/-! xs[i] op= e; comprehensions whose turns change what is owned; more operators. -/
namespace Kb
open PySem PySem.Spec PyProof.Rows L2
section
variable {X : Cx}
end
section
variable {K : PySem.W.Frag} {Θ : Ctx} {env : Env'} {h : Hs} {R : D → Hs → Prop} {E : En}
end
end Kb

/-! `is` a truth; lists that stay, joined; texts: times, join; `in` a list of texts; great divisors. -/
namespace Kb
open PySem PySem.Spec PyProof.Rows L2
section
variable {X : Cx}
def rIsBl : R2 := fun x y H Q => ∃ b : Bool, y = .bl b ∧ (∀ a, x ≠ .ref a) ∧ Q (.bl (decide (x = .bl b))) H
theorem op_isBlAny : OpR X (compareOp .Is) rIsBl := by
  intro pins s σ H x y v u Q I rx ry h
  obtain ⟨b, rfl, nr, q⟩ := h
  cases (show u = Value.bool b from ry)
  by_cases e : x = .bl b
  · subst e
    cases (show v = Value.bool b from rx)
    exact wpAny_is_self rfl ⟨.bl true, H, I, rfl, by simpa using q⟩
  · have qn : EP X pins σ Q (.bool false) s := ⟨.bl false, H, I, rfl, by simpa [e] using q⟩
    cases x with
    | non => cases rx; exact wpAny_is_other rfl (by intro z; cases z) qn
    | bl c => cases (show v = Value.bool c from rx); exact wpAny_is_other rfl (fun z => e (by rw [Value.bool.inj z])) qn
    | int i => obtain ⟨t, rfl⟩ := rx; exact wpAny_is_other rfl (by intro z; cases z) qn
    | str i => obtain ⟨t, rfl⟩ := rx; exact wpAny_is_other rfl (by intro z; cases z) qn
    | byt i => obtain ⟨t, rfl⟩ := rx; exact wpAny_is_other rfl (by intro z; cases z) qn
    | flt i => obtain ⟨t, rfl⟩ := rx; exact wpAny_is_other rfl (by intro z; cases z) qn
    | ref a => exact absurd rfl (nr a)
    | ty n => cases rx; exact wpAny_is_other rfl (by intro z; cases z) qn
def rIsNG : R2 := fun x y H Q => y = V.non ∧ Q (.bl (decide (x = .non))) H
/-- x is None, x is True, x is False -/
def rIsU : R2 := fun x y H Q => rIsNG x y H Q ∨ rIsBl x y H Q
theorem op_isU : OpR X (compareOp .Is) rIsU := OpR.or (r := rIsNG) op_isN op_isBlAny
/-- lists that stay, one behind the other: a new list -/
def rCatL (K : PySem.W.Frag) : R2 := fun x y H Q => ∃ l b xs zs, x = .ref l ∧ y = .ref b ∧ SqL K H l xs ∧ SqL K H b zs ∧ xs.length + zs.length ≤ sizeLine ∧ ∀ p, H p = none → Q (.ref p) (upd H p (.lst (xs ++ zs)))
theorem op_catL : OpR X (binaryOp .Add) (rCatL X.K) := by
  intro pins s σ H x y v u Q I rx ry h
  obtain ⟨l, b, xs, zs, rfl, rfl, hH, hB, hz, q⟩ := h
  cases rx
  cases ry
  obtain ⟨its, r, pl, _⟩ := I.list hH
  obtain ⟨its2, r2, pl2, _⟩ := I.list hB
  obtain ⟨⟨cls, dd, data, sl⟩, ho, hc, n, hd⟩ := pl.isList
  obtain ⟨⟨cls2, dd2, data2, sl2⟩, ho2, hc2, n2, hd2⟩ := pl2.isList
  simp only at hc hd hc2 hd2
  subst hc hd hc2 hd2
  have e : its.toArray ++ its2.toArray = (its ++ its2).toArray := by simp
  refine concat_meets ⟨_, ho, rfl⟩ ⟨_, ho2, rfl⟩ noFill_list_add seq_list_add PySem.F.slot_list_add PySem.F.entry_list_add (PySem.F.args_list_add_2 _ _) (list_addW l b its.toArray its2.toArray n n2 dd dd2 sl sl2 (by simp only [List.size_toArray]; rw [← r.length, ← r2.length]; exact hz)) ⟨ho, ho2, ?_⟩
  rw [e]
  exact ⟨.ref _, _, I.lnew (t' := s.toks) (r.append r2) (by rw [List.length_append]; exact hz), rfl, q _ I.fresh⟩
def rAddV (K : PySem.W.Frag) : R2 := fun x y H Q => rAddI x y H Q ∨ (rAddS' x y H Q ∨ (rCatT K x y H Q ∨ rCatL K x y H Q))
/-- so many times the text -/
def repS (x : Str) (n : Int) : Str := ⟨(List.replicate n.toNat x.cps).foldl (· ++ ·) #[]⟩
theorem repS_cps (x : Str) (n : Int) : (repS x n).cps.toList = (List.replicate n.toNat x.cps.toList).flatten := by
  unfold repS
  have g : ∀ (k : Nat) (a : Array Nat), ((List.replicate k x.cps).foldl (· ++ ·) a).toList = a.toList ++ (List.replicate k x.cps.toList).flatten := by
    intro k
    induction k with
    | zero => intro a; simp
    | succ k ih => intro a; rw [List.replicate_succ, List.foldl_cons, ih]; simp [List.replicate_succ]
  rw [g]
  simp
theorem repS_len (x : Str) (n : Int) : (repS x n).length = n.toNat * x.length := by
  show (repS x n).cps.size = _
  rw [← Array.length_toList, repS_cps]
  simp [Str.length]
def rMulS : R2 := fun x y H Q => ∃ i j, x = .str i ∧ y = .int j ∧ -(2 ^ 20) ≤ j ∧ j < 2 ^ 20 ∧ i.length ≤ 2 ^ 20 ∧ i.length * j.toNat ≤ sizeLine ∧ Q (.str (repS i j)) H
theorem op_mulS : OpR X (binaryOp .Mult) rMulS := by
  intro pins s σ H x y v u Q I rx ry h
  obtain ⟨i, j, rfl, rfl, h1, h2, h3, h4, q⟩ := h
  obtain ⟨t, rfl⟩ := rx
  obtain ⟨t', rfl⟩ := ry
  refine PySem.P.mul_str ?_ (fun hn _ => ?_) (fun hn _ => ?_) ?_
  · rw [decide_eq_false (by omega), decide_eq_false (by omega)]; rfl
  · intro hgt
    have hj : 0 < j := by omega
    have z : (i.length : Int) * j ≤ 2 ^ 63 - 1 := by
      have : (i.length : Int) * j ≤ 2 ^ 20 * 2 ^ 20 := Int.mul_le_mul (by omega) (by omega) (by omega) (by omega)
      omega
    have := (Int.le_ediv_iff_mul_le hj).mpr z
    omega
  · unfold Builtin.Str.tooLong
    exact decide_eq_false (by have e := sizeLine_eq; omega)
  · have fs : ∀ (m : Str), m = repS i j → EP X pins σ Q (.str m s.toks) { s with toks := s.toks + 1 } := fun m e => by
      subst e
      exact ⟨.str _, H, I.tok _, ⟨_, rfl⟩, q⟩
    by_cases hn : j < 1
    · rw [if_pos hn]
      refine ⟨by decide, fs _ ?_⟩
      have : j.toNat = 0 := by omega
      unfold repS
      rw [this]
      rfl
    · rw [if_neg hn]
      by_cases h1 : (j == 1 || i.length == 0) = true
      · rw [if_pos h1]
        refine ⟨.str i, H, I, ⟨_, rfl⟩, ?_⟩
        have e : repS i j = i := by
          have e0 : (repS i j).cps.toList = i.cps.toList := by
            rw [repS_cps]
            rcases Bool.or_eq_true_iff.mp h1 with z | z
            · have : j = 1 := by simpa using z
              subst this
              simp
            · have hz : i.cps.toList = [] := by
                have : i.cps.size = 0 := by simpa [Str.length] using z
                rw [← List.length_eq_zero_iff, Array.length_toList]; exact this
              rw [hz]
              simp
          have hc := Array.toList_inj.mp e0
          cases hr : repS i j
          cases i
          rw [hr] at hc
          simpa using hc
        rw [← e]; exact q
      · rw [if_neg h1]
        refine ⟨?_, fs _ rfl⟩
        show (repS i j).length ≤ _
        rw [repS_len, Nat.mul_comm]
        exact h4
def rMulI : R2 := rI CMulX fun i j => .int (i * j)
def rMulU : R2 := fun x y H Q => rMulI x y H Q ∨ rMulS x y H Q
theorem op_mulU : OpR X (binaryOp .Mult) rMulU := OpR.or (r := rMulI) op_mulX op_mulS
/-- < of truths, of numbers, of texts -/
def b2n (b : Bool) : Int := if b then 1 else 0
def rLtB : R2 := fun x y H Q => ∃ i j, x = .bl i ∧ y = .bl j ∧ Q (.bl (decide (b2n i < b2n j))) H
def rLtI : R2 := rI0 fun i j => .bl (decide (i < j))
def rLtS : R2 := fun x y H Q => ∃ i j, x = .str i ∧ y = .str j ∧ Q (.bl (decide (i.cps.toList < j.cps.toList))) H
def rLtG : R2 := fun x y H Q => rLtI x y H Q ∨ (rLtB x y H Q ∨ rLtS x y H Q)
end
section
variable {K : PySem.W.Frag} {Θ : Ctx} {env : Env'} {h : Hs} {R : D → Hs → Prop} {x y : D}
/-- is it this truth -/
def isBlD (b : Bool) : D → Bool
  | .p (.bl c) => decide (c = b)
  | _ => false
/-- no thing of the heap -/
def flatD : D → Bool
  | .p .non => true
  | .p (.bl _) => true
  | .p (.int _) => true
  | .p (.str _) => true
  | _ => false
theorem v2_isNU (q : R (dB (isNonD x)) h) : V2 K Θ rIsU x dN h R := v2_or1 (v2_isN q)
theorem v2_isBl {b : Bool} (hx : flatD x = true) (q : R (dB (isBlD b x)) h) : V2 K Θ rIsU x (dB b) h R := v2_or2 fun F ρ H vx vy Q rl a c k => by
  obtain rfl := c.bl
  have kk := k _ h _ F ρ H (Same.refl _) (Pre.refl _) rl (.p (.bl _)) q
  cases a with
  | own _ => cases hx
  | p a =>
    cases a with
    | non => exact ⟨b, rfl, (fun _ z => by cases z), kk⟩
    | bl c =>
      refine ⟨b, rfl, (fun _ z => by cases z), ?_⟩
      have e : decide (V.bl c = V.bl b) = decide (c = b) := decide_eq_decide.mpr ⟨V.bl.inj, congrArg V.bl⟩
      rw [e]
      exact kk
    | int c => exact ⟨b, rfl, (fun _ z => by cases z), kk⟩
    | str c => exact ⟨b, rfl, (fun _ z => by cases z), kk⟩
    | tup _ _ => cases hx
    | ktp _ _ => cases hx
    | lst _ _ => cases hx
    | ins _ _ => cases hx
    | ty _ => cases hx
    | cls _ => cases hx
theorem v2_addVI {i j : Int} (q : R (dI (i + j)) h) : V2 K Θ (rAddV K) (dI i) (dI j) h R := v2_or1 (v2_I0 q)
theorem v2_mulU {i j : Int} (c : CMulX i j) (q : R (dI (i * j)) h) : V2 K Θ rMulU (dI i) (dI j) h R := v2_or1 (v2_mul c q)
theorem v2_mulS {i : Str} {j : Int} (h1 : -(2 ^ 20) ≤ j ∧ j < 2 ^ 20) (h2 : i.length ≤ 2 ^ 20) (h3 : i.length * j.toNat ≤ sizeLine) (q : R (dS (repS i j)) h) : V2 K Θ rMulU (dS i) (dI j) h R := v2_or2 fun F ρ H vx vy Q rl a b k => by
  obtain rfl := a.str
  obtain rfl := b.int
  exact ⟨i, j, rfl, rfl, h1.1, h1.2, h2, h3, k _ h _ F ρ H (Same.refl _) (Pre.refl _) rl (.p (.str _)) q⟩
theorem v2_divW {i j : Int} (c : 0 < j ∧ j.natAbs.log2 < 9000) (q : R (dI (i / j)) h) : V2 K Θ (rI CDivW fun i j => V.int (i / j)) (dI i) (dI j) h R := v2_I (g := fun i j => i / j) c q
theorem v2_ltI {i j : Int} (q : R (dB (decide (i < j))) h) : V2 K Θ rLtG (dI i) (dI j) h R := v2_or1 (v2_lt q)
theorem v2_ltB {i j : Bool} (q : R (dB (decide (b2n i < b2n j))) h) : V2 K Θ rLtG (dB i) (dB j) h R := v2_or2 (v2_or1 fun F ρ H vx vy Q rl a b k => by
  obtain rfl := a.bl
  obtain rfl := b.bl
  exact ⟨i, j, rfl, rfl, k _ h _ F ρ H (Same.refl _) (Pre.refl _) rl (.p (.bl _)) q⟩)
theorem v2_ltS {i j : Str} (q : R (dB (decide (i.cps.toList < j.cps.toList))) h) : V2 K Θ rLtG (dS i) (dS j) h R := v2_or2 (v2_or2 fun F ρ H vx vy Q rl a b k => by
  obtain rfl := a.str
  obtain rfl := b.str
  exact ⟨i, j, rfl, rfl, k _ h _ F ρ H (Same.refl _) (Pre.refl _) rl (.p (.bl _)) q⟩)
/-- texts -/
theorem RPs.strs {F : Hp} : ∀ {ns : List Str} {vs : List V}, RPs K F (ns.map P.str) vs → vs = ns.map V.str
  | [], _, .nil => rfl
  | n :: ns, _, .cons (.str _) r => by
    rw [RPs.strs r]
    rfl
theorem inV_strs {x : Str} : ∀ {ns : List Str}, inV (.str x) (ns.map V.str) = decide (x ∈ ns)
  | [] => rfl
  | n :: ns => by
    have ih := inV_strs (x := x) (ns := ns)
    unfold inV at ih ⊢
    rw [List.map_cons, List.any_cons, ih]
    show ((n == x) || _) = _
    by_cases e : n = x
    · simp [e]
    · simp [e, Ne.symm e]
/-- x in xs, texts -/
theorem v2_inS {x : Str} {ns : List Str} (q : R (dB (decide (x ∈ ns))) h) : V2 K Θ (rInU K) (dS x) (dL (ns.map P.str)) h R := v2_or1 fun F ρ H vx vy Q rl a b k => by
  obtain rfl := a.str
  cases b with
  | p b =>
    cases b with
    | lst b1 b2 =>
      have e := b2.strs
      subst e
      refine ⟨_, _, rfl, .inl (rl.same.seq b1), rfl, by simp [flatV], ?_⟩
      show Q (.bl (inV (.str x) (ns.map V.str))) H
      rw [inV_strs]
      exact k _ h _ F ρ H (Same.refl _) (Pre.refl _) rl (.p (.bl _)) q
theorem vm_join {a : Str} {ys : List Str} (hl : (ys.map (·.length)).sum + ys.length * a.length ≤ 16777216) (q : R (dS (Txt.join a ys)) h) :
    VM K Θ (fun x xs H Q => ∃ a p, ∃ ys : List Str, x = V.str a ∧ xs = [V.ref p] ∧ (SqL K H p (ys.map V.str) ∨ SqT K H p (ys.map V.str)) ∧ (ys.map (·.length)).sum + ys.length * a.length ≤ 16777216 ∧ Q (.str (Txt.join a ys)) H) (dS a) [dL (ys.map P.str)] h R := fun F ρ H vx vs Q rl b c k => by
  obtain rfl := b.str
  cases c with
  | cons c e =>
    cases e
    cases c with
    | p c =>
      cases c with
      | lst c1 c2 =>
        have e := c2.strs
        subst e
        exact ⟨a, _, ys, rfl, rfl, .inl (rl.same.seq c1), hl, k _ h _ F ρ H (Same.refl _) (Pre.refl _) rl (.p (.str _)) q⟩
theorem mt_joinK {X : Cx} (hK : X.K = K) : MtR X "str.join" (fun x xs H Q => ∃ a p, ∃ ys : List Str, x = .str a ∧ xs = [.ref p] ∧ (SqL K H p (ys.map V.str) ∨ SqT K H p (ys.map V.str)) ∧ (ys.map (·.length)).sum + ys.length * a.length ≤ 16777216 ∧ Q (.str (Txt.join a ys)) H) := hK ▸ mt_join
end
end Kb

/-! abs. -/
namespace Kb
open PySem PySem.Spec PyProof.Rows L2
section
variable {K : PySem.W.Frag} {Θ : Ctx} {env : Env'} {h : Hs} {R : D → Hs → Prop} {x y : D}
theorem vc_abs {i : Int} (q : R (dI (if i < 0 then -i else i)) h) : VC K Θ (fun xs H Q => ∃ i, xs = [V.int i] ∧ Q (.int (if i < 0 then -i else i)) H) [dI i] h R := fun F ρ H vs Q rl a k => by
  cases a with
  | cons a b =>
    cases b
    obtain rfl := a.int
    exact ⟨i, rfl, k _ h _ F ρ H (Same.refl _) (Pre.refl _) rl (.p (.int _)) q⟩
end
end Kb

/-! t < u, t <= u, t > u, t >= u for tuples of numbers and texts: items behind the first difference may be of any kind. -/
namespace Kb
open PySem PySem.Spec PyProof.Rows L2
section
open PySem.SeqAt
open PySem.AutoSeq1 (wpAny_loadPart')
open PySem.MeetsSeq PySem.MeetsSeq2 PySem.MeetsSeq3
end
end Kb

/-! Keys compared, as rules; int of a truth. -/
namespace Kb
open PySem PySem.Spec PyProof.Rows L2
section
variable {X : Cx} {K : PySem.W.Frag}
end
section
variable {K : PySem.W.Frag} {Θ : Ctx} {h : Hs} {R : D → Hs → Prop}
theorem vc_intB {b : Bool} (q : R (dI (if b then 1 else 0)) h) : VC K Θ rIntU [dB b] h R := fun F ρ H vs Q rl a k => by
  cases a with
  | cons a c =>
    cases c
    obtain rfl := a.bl
    exact .inl (.inr ⟨b, rfl, k _ h _ F ρ H (Same.refl _) (Pre.refl _) rl (.p (.int _)) q⟩)
end
end Kb

/-! Tuples of any length joined and cut; xs.extend(t); an own list made by a comprehension whose turns change what is owned. -/
namespace Kb
open PySem PySem.Spec PyProof.Rows L2
section
open PySem.AutoSeq1 (wpAny_loadPart')
end
section
variable {X : Cx}
def rAddW (K : PySem.W.Frag) : R2 := fun x y H Q => rAddI x y H Q ∨ (rAddS' x y H Q ∨ (rCatA K x y H Q ∨ rCatL K x y H Q))
theorem op_addW : OpR X (binaryOp .Add) (rAddW X.K) := OpR.or (r := rAddI) op_add (OpR.or (r := rAddS') op_add_str (op_catA.or op_catL))
theorem op_addWK {K : PySem.W.Frag} (hK : X.K = K) : OpR X (binaryOp .Add) (rAddW K) := hK ▸ op_addW
theorem sl_tupAK {K : PySem.W.Frag} (hK : X.K = K) : SlR X (rSlA K) := hK ▸ sl_tupA
end
section
variable {K : PySem.W.Frag} {Θ : Ctx} {env : Env'} {h : Hs} {R : D → Hs → Prop} {x y : D}
theorem v2_addWI {i j : Int} (q : R (dI (i + j)) h) : V2 K Θ (rAddW K) (dI i) (dI j) h R := v2_or1 (v2_I0 q)
theorem v2_addWS {i j : Str} (hl : i.length + j.length ≤ sizeLine) (q : R (dS (i ++ j)) h) : V2 K Θ (rAddW K) (dS i) (dS j) h R := v2_or2 (v2_or1 fun F ρ H vx vy Q rl a b k => by
  obtain rfl := a.str
  obtain rfl := b.str
  exact ⟨i, j, rfl, rfl, hl, k _ h _ F ρ H (Same.refl _) (Pre.refl _) rl (.p (.str _)) q⟩)
theorem cut_whole {α : Type} {xs : List α} {lo hi : Option Int} (w : HT.sIx xs.length 0 lo = 0 ∧ HT.sIx xs.length xs.length hi = xs.length) : cutP xs lo hi = xs := by
  unfold cutP
  rw [w.1, w.2, List.drop_zero, Nat.sub_zero, List.take_length]
theorem ve_slT {te : TE} {tl th : TO} (q : VE K Θ te env h fun x h1 => VO K Θ tl env h1 fun lo h2 => VO K Θ th env h2 fun hi h3 => ∃ xs, x = dT xs ∧ R (dT (cutP xs lo hi)) h3) : VE K Θ (tSl (rSlA K) te tl th) env h R := fun F ρ σ H Q rl e k =>
  q F ρ σ H _ rl e fun x h1 v F1 ρ1 H1 s1 p1 r1 dx q1 => q1 F1 ρ1 σ H1 _ r1 (e.mono s1 p1) fun lo h2 F2 ρ2 H2 s2 p2 r2 q2 => q2 F2 ρ2 σ H2 _ r2 (e.mono (s1.trans s2) (p1.trans p2)) fun hi h3 F3 ρ3 H3 s3 p3 r3 q3 => by
    obtain ⟨xs, rfl, q3⟩ := q3
    have dx3 := dx.mono (s2.trans s3) (p2.trans p3)
    cases dx3 with
    | p a =>
      cases a with
      | tup a r =>
        refine ⟨_, _, rfl, sqT_mono r3.same a, fun w => ?_, fun w p hp => ?_⟩
        · rw [← r.len] at w
          rw [cut_whole w] at q3
          exact k _ h3 _ F3 ρ3 H3 (s1.trans (s2.trans s3)) (p1.trans (p2.trans p3)) r3 (.p (.tup a r)) q3
        · have sn := fun o => same_new (o := o) (r3.free hp)
          exact k _ h3 _ _ ρ3 _ ((s1.trans (s2.trans s3)).trans (sn _)) (p1.trans (p2.trans p3)) (r3.frz hp) (.p (.tup (.of upd_same) ((r.cut lo hi).mono (sn _)))) q3
end
end Kb

/-! Dicts that are owned, with keys that are tuples of numbers and texts; xs.insert; own lists read and joined. -/
namespace Kb
open PySem PySem.Spec PyProof.Rows L2
section
variable {κ β : Type} [DecidableEq κ]
end
section
variable {K : PySem.W.Frag} {Θ : Ctx} {env : Env'} {h : Hs} {R : D → Hs → Prop} {E : En} {x y : D}
end
end Kb

/-! What may be raised: defs that raise, raise, try .. except. -/
namespace Kb
open PySem PySem.Spec PyProof.Rows L2
section
variable {P : Program} {w : World} {K : PySem.W.Frag} {mg : Str → Option Value} {base : Heap} {x : Str} {st : Stmt} {N ps : List Str} {k : Nat} {T : Tbs}
end
section
variable {K : PySem.W.Frag} {Θ : Ctx} {env : Env'} {h : Hs} {R : D → Hs → Prop} {ta : TE} {t : TA}
end
section
variable {X : Cx} {C : Addr} {B newId initId : String} {bmB : List Value} {x : Str} {e : Expr} {ta : TE} {p pos pos' : Pos} {E : XK}
end
section
variable {X : Cx} {x n : Str} {c : Value} {i : Nat} {body suite : List Stmt} {b₀ : Stmt} {np pos pos' : Pos} {tb : WX → TS} {ts : Addr → Value → Option Addr → TS}
end
section
variable {X : Cx} {k : Nat} {x : Str} {ps : List Str} {sp : Sp} {p pos : Pos} {e : Expr} {es : List Expr} {t : TA} {W : WX}
end
/-! ### what is known of an error's class -/
section
variable {K : PySem.W.Frag} {N D : Addr} {r : Bool}
end
end Kb

/-! Texts: walked over, split, sliced, put together; what stands in them. -/
namespace Kb
open PySem PySem.Spec PyProof.Rows L2
section
variable {K : PySem.W.Frag} {Θ : Ctx} {env : Env'} {h : Hs} {R : D → Hs → Prop} {te : TE}
/-- a text's characters -/
def chP (z : Str) : List P := z.cps.toList.map fun c => .str ⟨#[c]⟩
theorem vi_str {R : List D → (Hs → Prop) → Hs → Prop} (q : VE K Θ te env h fun x h1 => ∃ z, x = dS z ∧ R ((chP z).map D.p) (fun _ => True) h1) : VI K Θ (iStr te) env h R := fun F ρ σ H Q rl e k =>
  q F ρ σ H _ rl e fun x h1 vx F1 ρ1 H1 s1 p1 r1 dx q1 => by
    obtain ⟨z, rfl, q1⟩ := q1
    obtain rfl := dx.str
    have hl : ((chP z).map D.p).length = z.cps.size := by unfold chP; simp
    refine ⟨z, rfl, k ((chP z).map D.p) (fun _ => True) h1 _ F1 ρ1 H1 s1 p1 r1 ⟨fun F' ρ' h' H' s p r _ => ?_, fun i F' ρ' h' H' s p r _ hi => ?_, fun i d F' ρ' h' H' x H2 s p r _ hd hy => ?_⟩ q1⟩
    · show z.cps.size ≤ _
      rw [hl]
      exact Nat.le_refl _
    · rw [hl] at hi
      exact hi
    · obtain ⟨e1, c, e2, e3⟩ := hy
      subst e1 e3
      have : d = dS ⟨#[c]⟩ := by
        unfold chP at hd
        rw [List.getElem?_map, List.getElem?_map, Array.getElem?_toList, e2] at hd
        exact (Option.some.inj hd).symm
      subst this
      exact ⟨F', Same.refl _, r, .p (.str _)⟩
theorem RPs.of_strs {F : Hp} : ∀ ys : List Str, RPs K F (ys.map P.str) (ys.map V.str)
  | [] => .nil
  | y :: ys => .cons (.str y) (RPs.of_strs ys)
theorem ve_slS {tl th : TO} (q : VE K Θ te env h fun x h1 => VO K Θ tl env h1 fun lo h2 => VO K Θ th env h2 fun hi h3 => ∃ z, x = dS z ∧ z.length ≤ sizeLine ∧ R (dS (cutS z lo hi)) h3) : VE K Θ (tSl rSlS te tl th) env h R := fun F ρ σ H Q rl e k =>
  q F ρ σ H _ rl e fun x h1 v F1 ρ1 H1 s1 p1 r1 dx q1 => q1 F1 ρ1 σ H1 _ r1 (e.mono s1 p1) fun lo h2 F2 ρ2 H2 s2 p2 r2 q2 => q2 F2 ρ2 σ H2 _ r2 (e.mono (s1.trans s2) (p1.trans p2)) fun hi h3 F3 ρ3 H3 s3 p3 r3 q3 => by
    obtain ⟨z, rfl, hz, q3⟩ := q3
    obtain rfl := dx.str
    exact ⟨z, rfl, hz, k _ h3 _ F3 ρ3 _ (s1.trans (s2.trans s3)) (p1.trans (p2.trans p3)) r3 (.p (.str _)) q3⟩
theorem cutS_le (z : Str) (lo hi : Option Int) : (cutS z lo hi).length ≤ z.length := cutS_length z lo hi
end
end Kb

/-! Errors with one field of their own. -/
namespace Kb
open PySem PySem.Spec PyProof.Rows L2
section
variable {K : PySem.W.Frag} {env : Env'} {h : Hs} {t : TA}
end
section
variable {P : Program} {w : World} {K : PySem.W.Frag} {mg : Str → Option Value} {base : Heap} {x qual f : Str} {st : Stmt} {N ps : List Str} {k : Nat} {fI C : Addr} {fd : FuncData}
end
section
variable {X : Cx} {C fI : Addr} {x f : Str} {e : Expr} {es : List Expr} {ta : TA} {p pos pos' : Pos} {E : XK} {k : Nat} {fd : FuncData} {ps : List Str}
end
section
variable {K : PySem.W.Frag} {h : Hs} {R : D → Hs → Prop}
end
end Kb

/-! del xs[a:]; instances that stay owned; dicts with written keys; own lists cut, joined, compared, walked over. -/
namespace Kb
open PySem PySem.Spec PyProof.Rows L2
section
variable {prog : Program} {w : World} {A : Around} {E : Value → Shared → Prop} {s : Shared}
end
section
variable {X : Cx} {o : Expr} {lo : Option Expr} {p2 tpos pos : Pos} {to : TE} {tl : TO}
end
section
variable {X : Cx} {CX : CXT} {k : Nat} {x : Str} {C : Addr} {ps : List Str} {sp : Sp} {E : XK} {p pos : Pos}
end
section
variable {K : PySem.W.Frag} {Θ : Ctx} {env : Env'} {h : Hs} {R : D → Hs → Prop} {E : En} {x y : D} {te : TE} {t : TA} {C : Addr}
/-- C(..), the instance stays owned -/
theorem ve_makeO {W : Spc} {E : XK} (q : VA K Θ t env h fun xs h1 => W (.own h1.length :: xs) (h1 ++ [some (.ins C [])]) fun d h2 => d = dN ∧ R (.own h1.length) h2) : VE K Θ (tMake C (spD K Θ.tabs W) [] E t) env h R := fun F ρ σ H Q rl e k =>
  q F ρ σ H _ rl e fun xs h1 vs F1 ρ1 H1 s1 p1 r1 dxs q1 => by
    intro x dx hx hdx hne
    have hx' : (upd H1 dx (.own x)) x = none := by rw [upd_ne (Ne.symm hne)]; exact hx
    have sn : Same F1 (upd F1 dx (.own x)) := same_new (r1.free hdx)
    have r2 : Rel K Θ (upd F1 dx (.own x)) ρ1 h1 (upd H1 dx (.own x)) := r1.frz hdx
    have r3 := r2.push (o := .ins C []) (u := .ins C dx []) hx' ⟨dx, [], rfl, .nil⟩
    refine ⟨.own h1.length :: xs, _, _, ρ1 ++ [x], _, r3.toBase, .cons (.own (by rw [← r1.len]; simp)) (by rw [List.append_nil]; exact dxs.mono sn (Pre.push _ _)), q1, fun d h' v F' ρ' H' s p r dv q2 => ?_⟩
    obtain ⟨rfl, q2⟩ := q2
    refine ⟨dv.non, ?_⟩
    have ea : ρ'[h1.length]? = some x := p _ _ (by rw [← r1.len]; simp)
    exact k _ _ _ F' ρ' H' (s1.trans (sn.trans s)) (p1.trans ((Pre.push ρ1 x).trans p)) ⟨r, (r1.wish.mono (sn.trans s) ((Pre.push ρ1 x).trans p))⟩ (.own ea) q2
/-! ### dicts whose keys are numbers and texts -/
/-- a list that stays, or an own one -/
def SeqL (d : D) (h : Hs) (ps : List P) : Prop := match d with
  | .p (.lst xs) => xs = ps
  | .own i => h[i]? = some (some (.lst (ps.map D.p)))
  | _ => False
theorem SeqL.v {F : Hp} {ρ : List Addr} {H : Hp} {d : D} {v : V} {ps : List P} (s : SeqL d h ps) (rl : Rel K Θ F ρ h H) (a : RD K F ρ d v) : ∃ p vs, v = .ref p ∧ SqL K H p vs ∧ RPs K F ps vs := by
  cases a with
  | p a =>
    cases a with
    | lst a r => cases s; exact ⟨_, _, rfl, rl.same.seq a, r⟩
    | _ => exact s.elim
  | own a =>
    obtain ⟨p, u, e1, e2, e3, vs, e4, e5⟩ := rl.own _ _ s
    rw [a] at e1; cases e1
    subst e4
    exact ⟨_, _, rfl, .of e3, e5.pure⟩
/-- plain data, or an own list of such -/
def PyD (d : D) (h : Hs) (p : P) : Prop := match d with
  | .p y => y = p
  | .own i => ∃ ps, p = .lst ps ∧ h[i]? = some (some (.lst (ps.map D.p)))
theorem PyD.dp {F : Hp} {ρ : List Addr} {H : Hp} {d : D} {v : V} {p : P} (s : PyD d h p) (rl : Rel K Θ F ρ h H) (a : RD K F ρ d v) (pl : plainP p = true) : Dp K H v (pyOf p) := by
  cases a with
  | p a => cases s; exact a.dp rl.same pl
  | own a =>
    obtain ⟨ps, rfl, hn⟩ := s
    obtain ⟨q, u, e1, e2, e3, vs, e4, e5⟩ := rl.own _ _ hn
    rw [a] at e1; cases e1
    subst e4
    exact .lst (.of e3) (RPs.dp rl.same e5.pure (by unfold plainP at pl; exact pl))
theorem v2_eqM {x y : D} {p p' : P} (hx : PyD x h p) (hy : PyD y h p') (lx : plainP p = true) (ly : plainP p' = true) (sx : SeqAt.shaped (pyOf p) = true) (sy : SeqAt.shaped (pyOf p') = true) (q : R (dB (PyData.eqv (pyOf p) (pyOf p'))) h) : V2 K Θ (rEqU K) x y h R := v2_or2 fun F ρ H vx vy Q rl a b k =>
  ⟨_, _, hx.dp rl a lx, hy.dp rl b ly, sx, sy, k _ h _ F ρ H (Same.refl _) (Pre.refl _) rl (.p (.bl _)) q⟩
theorem v2_neM {x y : D} {p p' : P} (hx : PyD x h p) (hy : PyD y h p') (lx : plainP p = true) (ly : plainP p' = true) (sx : SeqAt.shaped (pyOf p) = true) (sy : SeqAt.shaped (pyOf p') = true) (q : R (dB (!PyData.eqv (pyOf p) (pyOf p'))) h) : V2 K Θ (rNeU K) x y h R := v2_or2 fun F ρ H vx vy Q rl a b k =>
  ⟨_, _, hx.dp rl a lx, hy.dp rl b ly, sx, sy, k _ h _ F ρ H (Same.refl _) (Pre.refl _) rl (.p (.bl _)) q⟩
theorem plain_ints (ns : List Int) : plainP (.lst (ns.map P.int)) = true := by
  unfold plainP
  induction ns with
  | nil => rfl
  | cons n ns ih => rw [List.map_cons]; unfold plainP.plainPs; rw [ih]; rfl
theorem shaped_ints (ns : List Int) : SeqAt.shaped (pyOf (.lst (ns.map P.int))) = true := by
  have e : PyData.canLayAll0 (pyOf.pyOfs (ns.map P.int)) = true ∧ PyData.depthAll (pyOf.pyOfs (ns.map P.int)) = 0 := by
    induction ns with
    | nil => simp [pyOf.pyOfs, PyData.canLayAll0, PyData.depthAll]
    | cons r rs ih => simp [pyOf.pyOfs, pyOf, PyData.canLayAll0, PyData.canLay0, PyData.depthAll, PyData.depth, ih.1, ih.2]
  simp only [SeqAt.shaped, pyOf, PyData.canLay0, PyData.depth, e.1, Bool.true_and, decide_eq_true_eq, e.2]
  omega
theorem eqvAll_ints : ∀ ns ms : List Int, PyData.eqvAll (pyOf.pyOfs (ns.map P.int)) (pyOf.pyOfs (ms.map P.int)) = decide (ns = ms)
  | [], [] => rfl
  | [], _ :: _ => rfl
  | _ :: _, [] => rfl
  | n :: ns, m :: ms => by
    have ih := eqvAll_ints ns ms
    simp only [List.map_cons, pyOf.pyOfs, pyOf, PyData.eqvAll, PyData.eqv, ih]
    by_cases e : n = m
    · subst e; simp
    · simp [e]
theorem eqv_ints (ns ms : List Int) : PyData.eqv (pyOf (.lst (ns.map P.int))) (pyOf (.lst (ms.map P.int))) = decide (ns = ms) := by
  show PyData.eqvAll _ _ = _
  exact eqvAll_ints ns ms
theorem v2_eqInts {x y : D} {ns ms : List Int} (hx : PyD x h (.lst (ns.map P.int))) (hy : PyD y h (.lst (ms.map P.int))) (q : R (dB (decide (ns = ms))) h) : V2 K Θ (rEqU K) x y h R :=
  v2_eqM hx hy (plain_ints ns) (plain_ints ms) (shaped_ints ns) (shaped_ints ms) (by rw [eqv_ints]; exact q)
theorem v2_neInts {x y : D} {ns ms : List Int} (hx : PyD x h (.lst (ns.map P.int))) (hy : PyD y h (.lst (ms.map P.int))) (q : R (dB (!decide (ns = ms))) h) : V2 K Θ (rNeU K) x y h R :=
  v2_neM hx hy (plain_ints ns) (plain_ints ms) (shaped_ints ns) (shaped_ints ms) (by rw [eqv_ints]; exact q)
/-! ### own lists -/
end
end Kb

/-! Promises that follow from others. -/
namespace Kb
open PySem PySem.Spec PyProof.Rows L2
section
variable {P : Program} {w : World} {K : PySem.W.Frag} {T : Tbs} {mg : Str → Option Value} {base : Heap} {CX : CXT} {k : Nat} {x m : Str} {C : Addr} {ps : List Str} {W W' : Spc}
theorem spD_weak (i : ∀ ds h R, W' ds h R → W ds h R) : ∀ vs H Q E, spD K T W' vs H Q E → spD K T W vs H Q E := fun vs H Q E ⟨ds, h, F, ρ, R, rl, ra, hw, kq⟩ => ⟨ds, h, F, ρ, R, rl, ra, i _ _ _ hw, kq⟩
theorem spD_fin (i : ∀ ds h R, W' ds h R → W ds h (Fin h R)) : ∀ vs H Q E, spD K T W' vs H Q E → spD K T W vs H Q E := fun vs H Q E ⟨ds, h, F, ρ, R, rl, ra, hw, kq⟩ =>
  ⟨ds, h, F, ρ, Fin h R, rl, ra, i _ _ _ hw, fun d h' v F' ρ' H' s p r dv f => fin_run (Θ := Ctx.plain T) (Q := fun v H => Q v H) rl.plain s p r.plain dv f fun d F2 s2 r2 d2 q2 => kq d h v F2 ρ H' s2 (Pre.refl _) r2.toBase d2 q2⟩
theorem HasF.weak (h : HasF P w K mg base CX k x ps (spD K T W)) (i : ∀ ds h R, W' ds h R → W ds h R) : HasF P w K mg base CX k x ps (spD K T W') := by
  obtain ⟨f, fd, F, a, b, c⟩ := h.ex
  exact ⟨f, fd, F.imp (spD_weak i), a, b, c⟩
theorem HasF.fin (h : HasF P w K mg base CX k x ps (spD K T W)) (i : ∀ ds h R, W' ds h R → W ds h (Fin h R)) : HasF P w K mg base CX k x ps (spD K T W') := by
  obtain ⟨f, fd, F, a, b, c⟩ := h.ex
  exact ⟨f, fd, F.imp (spD_fin i), a, b, c⟩
end
/-- an own list of written data as the def's end -/
theorem fin_own {h : Hs} {R : D → Hs → Prop} {ps : List P} {o : Option OO} (e : o = some (.lst (ps.map D.p))) (q : R (dL ps) h) : Fin h R (.own h.length) (h ++ [o]) :=
  ⟨[o], rfl, .inr (.inl ⟨h.length, ps, rfl, Nat.le_refl _, by simp [e], q⟩)⟩
end Kb

/-! Methods that raise; own lists that stay from here on; reversed(xs); lists of either kind joined. -/
namespace Kb
open PySem PySem.Spec PyProof.Rows L2
section
variable {P : Program} {w : World} {K : PySem.W.Frag} {mg : Str → Option Value} {base : Heap} {m qual : Str} {st : Stmt} {N ps : List Str} {k : Nat} {T : Tbs} {C : Addr}
end
section
variable {X : Cx} {k : Nat} {C : Addr} {m : Str} {ps : List Str} {sp : Sp} {pos apos : Pos} {o : Expr} {ta : TE} {W : WX}
end
section
variable {K : PySem.W.Frag} {Θ : Ctx} {env : Env'} {h : Hs} {R : D → Hs → Prop} {E : En} {ta : TE} {ts : TS}
/-- lists of either kind joined: a new list that stays; one that is owned -/
theorem v2_addWM {x y : D} {i j : List P} (hx : SeqL x h i) (hy : SeqL y h j) (hl : i.length + j.length ≤ sizeLine) (q : R (dL (i ++ j)) h) : V2 K Θ (rAddW K) x y h R := v2_or2 (v2_or2 (v2_or2 fun F ρ H vx vy Q rl a b k => by
  obtain ⟨p1, us, rfl, s1, r1⟩ := hx.v rl a
  obtain ⟨p2, ws, rfl, s2, r2⟩ := hy.v rl b
  refine ⟨_, _, _, _, rfl, rfl, s1, s2, by rw [← r1.len, ← r2.len]; exact hl, fun p hp => ?_⟩
  have sn := fun o => same_new (o := o) (rl.free hp)
  exact k _ h _ _ ρ _ (sn _) (Pre.refl _) (rl.frz hp) (.p (.lst (.of upd_same) ((r1.append r2).mono (sn _)))) q))
theorem v2_addWMO {x y : D} {i j : List P} (hx : SeqL x h i) (hy : SeqL y h j) (hl : i.length + j.length ≤ sizeLine) (q : R (.own h.length) (h ++ [some (.lst ((i ++ j).map D.p))])) : V2 K Θ (rAddW K) x y h R := v2_or2 (v2_or2 (v2_or2 fun F ρ H vx vy Q rl a b k => by
  obtain ⟨p1, us, rfl, s1, r1⟩ := hx.v rl a
  obtain ⟨p2, ws, rfl, s2, r2⟩ := hy.v rl b
  refine ⟨_, _, _, _, rfl, rfl, s1, s2, by rw [← r1.len, ← r2.len]; exact hl, fun p hp => ?_⟩
  exact k _ _ _ F (ρ ++ [p]) _ (Same.refl _) (Pre.push _ _) (rl.push (o := .lst ((i ++ j).map D.p)) hp ⟨_, rfl, (r1.append r2).data⟩) (.own (by rw [← rl.len]; simp)) q))
end
end Kb

/-! Numbers as bytes, seven bits in each. -/
namespace Kb
open PySem PySem.Spec PyProof.Rows L2
def wnum (n : Nat) : List Int := if h : n < 128 then [(n : Int)] else ((n % 128 + 128 : Nat) : Int) :: wnum (n / 128)
termination_by n
decreasing_by omega
theorem wnum_small {n : Nat} (h : n < 128) : wnum n = [(n : Int)] := by rw [wnum, dif_pos h]
theorem wnum_great {n : Nat} (h : ¬ n < 128) : wnum n = ((n % 128 + 128 : Nat) : Int) :: wnum (n / 128) := by rw [wnum, dif_neg h]
/-- all bytes but the last -/
theorem wnum_form (n : Nat) : ∃ (hs : List Int) (l : Int), wnum n = hs ++ [l] ∧ (∀ b ∈ hs, 128 ≤ b ∧ b < 256) ∧ 0 ≤ l ∧ l < 128 ∧ (128 ≤ n → hs ≠ []) ∧ (1 ≤ n → l ≠ 0) := by
  induction n using Nat.strongRecOn with
  | ind n ih =>
    by_cases h : n < 128
    · exact ⟨[], n, wnum_small h, (fun b hb => by cases hb), by omega, by omega, (fun z => by omega), (fun z => by omega)⟩
    · obtain ⟨hs, l, e, a, b, c, d, f⟩ := ih (n / 128) (by omega)
      refine ⟨((n % 128 + 128 : Nat) : Int) :: hs, l, by rw [wnum_great h, e]; rfl, fun x hx => ?_, b, c, (fun _ z => by cases z), (fun _ => f (by omega))⟩
      rcases List.mem_cons.mp hx with rfl | hx
      · omega
      · exact a x hx
theorem wnum_len : ∀ (k n : Nat), n < 128 ^ (k + 1) → (wnum n).length ≤ k + 1
  | 0, n, h => by rw [wnum_small (by simpa using h)]; simp
  | k + 1, n, h => by
    by_cases c : n < 128
    · rw [wnum_small c]; simp
    · rw [wnum_great c, List.length_cons]
      have := wnum_len k (n / 128) (by
        rw [Nat.div_lt_iff_lt_mul (by decide)]
        rw [Nat.pow_succ] at h
        exact h)
      omega
section
variable {K : PySem.W.Frag} {Θ : Ctx} {env : Env'} {h : Hs} {E : En} {t : TA} {i j : Nat}
end
end Kb

/-! Plain data of bounded depth, compared. -/
namespace Kb
open PySem PySem.Spec PyProof.Rows L2
structure Flat (n : Nat) (x : P) : Prop where
  lay : PyData.canLay0 (pyOf x) = true
  dep : PyData.depth (pyOf x) ≤ n
  pl : plainP x = true
theorem Flat.int {n : Nat} (i : Int) : Flat n (.int i) := ⟨rfl, Nat.zero_le _, rfl⟩
theorem Flat.bl {n : Nat} (b : Bool) : Flat n (.bl b) := ⟨rfl, Nat.zero_le _, rfl⟩
theorem Flat.non {n : Nat} : Flat n .non := ⟨rfl, Nat.zero_le _, rfl⟩
theorem flats {n : Nat} : ∀ {xs : List P}, (∀ x ∈ xs, Flat n x) → PyData.canLayAll0 (pyOf.pyOfs xs) = true ∧ PyData.depthAll (pyOf.pyOfs xs) ≤ n ∧ plainP.plainPs xs = true
  | [], _ => ⟨rfl, Nat.zero_le _, rfl⟩
  | x :: xs, h => by
    obtain ⟨a, b, c⟩ := h x (List.mem_cons_self ..)
    obtain ⟨a', b', c'⟩ := flats fun y hy => h y (List.mem_cons_of_mem _ hy)
    refine ⟨?_, ?_, ?_⟩
    · simp [pyOf.pyOfs, PyData.canLayAll0, a, a']
    · simp [pyOf.pyOfs, PyData.depthAll]
      omega
    · simp [plainP.plainPs, c, c']
theorem Flat.tup {n : Nat} {xs : List P} (h : ∀ x ∈ xs, Flat n x) : Flat (n + 1) (.tup xs) := by
  obtain ⟨a, b, c⟩ := flats h
  refine ⟨?_, ?_, ?_⟩
  · simpa [pyOf, PyData.canLay0] using a
  · simp [pyOf, PyData.depth]; omega
  · unfold plainP; exact c
theorem Flat.shaped {n : Nat} {x : P} (f : Flat n x) (h : n ≤ 64) : SeqAt.shaped (pyOf x) = true := by
  have d := f.dep
  simp only [SeqAt.shaped, f.lay, Bool.true_and, decide_eq_true_eq]
  omega
section
variable {K : PySem.W.Frag} {Θ : Ctx} {h : Hs} {R : D → Hs → Prop} {n : Nat} {x : P}
end
end Kb

/-! Defs as values, called; what the program's top holds: tuples and dicts; a list extended by one that stays. -/
namespace Kb
open PySem PySem.Spec PyProof.Rows L2 RZ
/-- two readings of one expression -/
theorem pe_orE {X : Cx} {e : Expr} {t1 t2 : TE} (h1 : PE X e t1) (h2 : PE X e t2) : PE X e (fun σ H Q => t1 σ H Q ∨ t2 σ H Q) := ⟨fun pins s σ H Q I h => by
  rcases h with h | h
  · exact h1.run pins s σ H Q I h
  · exact h2.run pins s σ H Q I h⟩
/-- the def at f keeps a promise -/
structure FnAt (P : Program) (w : World) (K : PySem.W.Frag) (mg : Str → Option Value) (base : Heap) (CX : CXT) (k : Nat) (f : Addr) (ps : List Str) (sp : Sp) : Prop where
  ex : ∃ fd, FnOk P w K mg base CX k f fd ps sp ∧ PySem.W.keepIn K (.ref f) = true ∧ Binds K fd ps []
theorem HasF.at_ {P : Program} {w : World} {K : PySem.W.Frag} {mg : Str → Option Value} {base : Heap} {CX : CXT} {k : Nat} {x : Str} {ps : List Str} {sp : Sp} {f : Addr} (h : HasF P w K mg base CX k x ps sp) (hf : mg x = some (.ref f)) : FnAt P w K mg base CX k f ps sp := by
  obtain ⟨g, fd, F, a, b, c⟩ := h.ex
  rw [hf] at a
  cases a
  exact ⟨fd, F, b, c⟩
theorem FnAt.mono {P : Program} {w : World} {K : PySem.W.Frag} {mg : Str → Option Value} {base : Heap} {CX : CXT} {j k : Nat} {f : Addr} {ps : List Str} {sp : Sp} (h : FnAt P w K mg base CX j f ps sp) (hk : j ≤ k) : FnAt P w K mg base CX k f ps sp := by
  obtain ⟨fd, F, b, c⟩ := h.ex
  exact ⟨fd, F.mono hk, b, c⟩
theorem FnAt.callV {X : Cx} {CX : CXT} {k i : Nat} {f : Addr} {ps : List Str} {sp : Sp} {E : XK} {x : Str} {e : Expr} {es : List Expr} {t : TA} {p pos : Pos} (h : FnAt X.prog X.w X.K X.mg X.base CX k f ps sp) (hr : Room k X.A) (hx : Passes CX X E) (hN : X.N[i]? = some x) (ha : PA X (e :: es) t)
    (hv : Vis X.env.scope x := by first | exact Or.inl rfl | exact Or.inr (Or.inl rfl) | exact Or.inr (Or.inr rfl)) (hd : (x == ("__debug__" : Str)) = false := by decide) (hcd : (x == ("__classdict__" : Str)) = false := by decide)
    (he : starEach (e :: es) X.env = (false, eval e X.env) :: starEach es X.env := by rfl) (hpl : (backTo pos (starEach es X.env)).any (·.1) = false := by rfl) : PE X (.Call (.Name x p) (e :: es) [] pos) (ItX.tCallV i f sp E t) := by
  obtain ⟨fd, F, hk, hb⟩ := h.ex
  have G : FnR X.prog X.w X.K X.mg X.base CX k f sp := FnR.imp (F.raw hb .nil) fun vs H Q E q => by rw [List.append_nil]; exact q
  exact ItX.pe_callV G hr hk hx hN hv ha hd hcd he hpl
section
variable {K : PySem.W.Frag} {Θ : Ctx} {env : Env'} {h : Hs} {R : D → Hs → Prop} {E : En} {t : TA}
theorem ve_or1 {t1 t2 : TE} (q : VE K Θ t1 env h R) : VE K Θ (fun σ H Q => t1 σ H Q ∨ t2 σ H Q) env h R := fun F ρ σ H Q rl e k => .inl (q F ρ σ H Q rl e k)
theorem ve_or2 {t1 t2 : TE} (q : VE K Θ t2 env h R) : VE K Θ (fun σ H Q => t1 σ H Q ∨ t2 σ H Q) env h R := fun F ρ σ H Q rl e k => .inr (q F ρ σ H Q rl e k)
theorem RD.cls {F : Hp} {ρ : List Addr} {c : Addr} {v : V} (a : RD K F ρ (.p (.cls c)) v) : v = .ref c := by
  cases a with
  | p a => cases a; rfl
theorem ve_callV {i : Nat} {f : Addr} {W : Spc} {E : XK} (hi : env[i]? = some (some (.p (.cls f)))) (q : VA K Θ t env h fun xs h1 => W xs h1 R) : VE K Θ (ItX.tCallV i f (spD K Θ.tabs W) E t) env h R := fun F ρ σ H Q rl e k => by
  obtain ⟨v, h1, h2⟩ := e.get i _ hi
  obtain rfl := h2.cls
  exact ⟨h1, q F ρ σ H _ rl e fun xs h1 vs F1 ρ1 H1 s1 p1 r1 dxs q1 => ⟨xs, h1, F1, ρ1, R, r1.toBase, dxs, q1, fun d h' v F' ρ' H' s3 p3 r3 dv q3 => k d h' v F' ρ' H' (s1.trans s3) (p1.trans p3) ⟨r3, r1.wish.mono s3 p3⟩ dv q3⟩⟩
/-! ### what the top holds -/
/-- a tuple of the top -/
def KTup (K : PySem.W.Frag) (a : Addr) (vs : List V) : Prop := ∃ (o : Obj) (its : Array Value) (n : Nat), K.lookup a = some o ∧ o.cls = .type "tuple" ∧ o.data = .seq its n ∧ its.size ≤ sizeLine ∧ Vals vs its.toList
theorem KTup.sq {a : Addr} {vs : List V} (c : KTup K a vs) (H : Hp) : SqT K H a vs := .inr c
/-- an item of it -/
inductive CK : D → V → Prop
  | str (s : Str) : CK (dS s) (.str s)
  | int (i : Int) : CK (dI i) (.int i)
  | ref (a : Addr) : CK (.p (.cls a)) (.ref a)
theorem CK.rd {F : Hp} {ρ : List Addr} {d : D} {v : V} (c : CK d v) : RD K F ρ d v := by
  cases c with
  | str s => exact .p (.str s)
  | int i => exact .p (.int i)
  | ref a => exact .p (.cls a)
inductive CKs : List D → List V → Prop
  | nil : CKs [] []
  | cons {d : D} {v : V} {ds : List D} {vs : List V} : CK d v → CKs ds vs → CKs (d :: ds) (v :: vs)
theorem CKs.len : ∀ {ds : List D} {vs : List V}, CKs ds vs → ds.length = vs.length
  | _, _, .nil => rfl
  | _, _, .cons _ r => congrArg (· + 1) r.len
theorem CKs.rd {F : Hp} {ρ : List Addr} : ∀ {ds : List D} {vs : List V}, CKs ds vs → RA K F ρ ds vs
  | _, _, .nil => .nil
  | _, _, .cons c r => .cons c.rd r.rd
theorem CKs.get {i : Nat} {d : D} : ∀ {ds : List D} {vs : List V}, CKs ds vs → ds[i]? = some d → ∃ v, vs[i]? = some v ∧ CK d v
  | _, _, .nil, h => by simp at h
  | _, _, .cons c r, h => by
    cases i with
    | zero => cases h; exact ⟨_, rfl, c⟩
    | succ j =>
      obtain ⟨v, h1, h2⟩ := r.get (i := j) (by simpa using h)
      exact ⟨v, by simpa using h1, h2⟩
theorem v2_ixK {c : Addr} {ds : List D} {vs : List V} {i : Nat} {d : D} (hc : KTup K c vs) (ck : CKs ds vs) (hi : ds[i]? = some d) (q : R d h) : V2 K Θ (rIx K) (.p (.cls c)) (dI i) h R := fun F ρ H vx vy Q rl a b k => by
  obtain rfl := a.cls
  obtain rfl := b.int
  obtain ⟨v, h1, h2⟩ := ck.get hi
  exact .inr (.inl ⟨_, _, _, v, rfl, rfl, hc.sq H, atI_nat h1, k _ h _ F ρ H (Same.refl _) (Pre.refl _) rl h2.rd q⟩)
theorem vc_lenK {c : Addr} {vs : List V} (hc : KTup K c vs) (q : R (dI vs.length) h) : VC K Θ (fun xs H Q => ∃ x n, xs = [x] ∧ LenV K x H n ∧ Q (.int n) H) [.p (.cls c)] h R := fun F ρ H vs' Q rl a k => by
  cases a with
  | cons a b =>
    cases b
    obtain rfl := a.cls
    exact ⟨_, _, rfl, .inr ⟨vs, hc.sq H, rfl⟩, k _ h _ F ρ H (Same.refl _) (Pre.refl _) rl (.p (.int _)) q⟩
theorem vi_seqK {tl : TE} {R : List D → (Hs → Prop) → Hs → Prop} (q : VE K Θ tl env h fun x h1 => ∃ c ds vs, x = .p (.cls c) ∧ KTup K c vs ∧ CKs ds vs ∧ R ds (fun _ => True) h1) : VI K Θ (iSeq K tl) env h R := fun F ρ σ H Q rl e k =>
  q F ρ σ H _ rl e fun x h1 vx F1 ρ1 H1 s1 p1 r1 dx q1 => by
    obtain ⟨c, ds, vs, rfl, hc, ck, q1⟩ := q1
    obtain rfl := dx.cls
    refine .inr ⟨c, rfl, ⟨vs, hc.sq H1⟩, k ds (fun _ => True) h1 _ F1 ρ1 H1 s1 p1 r1 ⟨fun F' ρ' h' H' s p r _ => ?_, fun i F' ρ' h' H' s p r _ hi => ?_, fun i d F' ρ' h' H' x H2 s p r _ hd hy => ?_⟩ q1⟩
    · exact ⟨vs, hc.sq H', by rw [ck.len]; exact Nat.le_refl _⟩
    · rw [ck.len] at hi
      exact ⟨vs, vs[i], hc.sq H', List.getElem?_eq_getElem hi⟩
    · obtain ⟨e1, e2⟩ := hy
      subst e1
      obtain ⟨v, hv, rv⟩ := ck.get hd
      have ev := e2 vs (hc.sq H2)
      rw [hv] at ev; cases ev
      exact ⟨F', Same.refl _, r, rv.rd⟩
theorem vg_tupK {n : Nat} {gs : TGs} {c : Addr} {ds : List D} {vs : List V} {N : Env' → Hs → Prop} (hc : KTup K c vs) (ck : CKs ds vs) (hl : ds.length = n) (q : VGs K Θ gs ds env h N) : VG K Θ (gTup K n gs) (.p (.cls c)) env h N := fun F ρ σ H v Q rl e dv k => by
  obtain rfl := dv.cls
  exact ⟨c, vs, rfl, hc.sq H, by rw [← ck.len]; exact hl, q F ρ σ H _ Q rl e ck.rd k⟩
/-- t.index(z), t a tuple of texts of the top -/
theorem vm_indexK {c : Addr} {ys : List Str} {z : Str} {j : Nat} (hc : KTup K c (ys.map V.str)) (hj : ys[j]? = some z) (hno : ∀ m, m < j → ys[m]? ≠ some z) (q : R (dI j) h) :
    VM K Θ (fun x xs H Q => ∃ p, ∃ ys : List Str, ∃ z j, x = .ref p ∧ xs = [.str z] ∧ SqT K H p (ys.map V.str) ∧ ys[j]? = some z ∧ (∀ m, m < j → ys[m]? ≠ some z) ∧ Q (.int (j : Nat)) H) (.p (.cls c)) [dS z] h R := fun F ρ H vx vs Q rl a b k => by
  obtain rfl := a.cls
  cases b with
  | cons b e =>
    cases e
    obtain rfl := b.str
    exact ⟨c, ys, z, j, rfl, rfl, hc.sq H, hj, hno, k _ h _ F ρ H (Same.refl _) (Pre.refl _) rl (.p (.int _)) q⟩
/-- d[z], d a dict of the top with texts for keys that holds defs -/
theorem v2_ixDK {w : World} {c f : Addr} {z : Str} (hd : KDct K w c z (.ref f)) (q : R (.p (.cls f)) h) : V2 K Θ (rIxD K w) (.p (.cls c)) (dS z) h R := fun F ρ H vx vy Q rl a b k => by
  obtain rfl := a.cls
  obtain rfl := b.str
  exact ⟨c, z, _, rfl, rfl, hd, k _ h _ F ρ H (Same.refl _) (Pre.refl _) rl (.p (.cls f)) q⟩
/-- zip of a tuple of the top and one that stays -/
theorem vi_zipK {ta : TA} {R : List D → (Hs → Prop) → Hs → Prop} (q : VA K Θ ta env h fun vs h1 => ∃ (c : Addr) (zs : List Str) (ys : List P), vs = [.p (.cls c), dT ys] ∧ KTup K c (zs.map V.str) ∧ R (zipP (zs.map P.str) ys) (fun _ => True) h1) : VI K Θ (iZipA K ta) env h R := fun F ρ σ H Q rl e k =>
  q F ρ σ H _ rl e fun vs h1 us F1 ρ1 H1 s1 p1 r1 dus q1 => by
    obtain ⟨c, zs, ys, rfl, hc, q1⟩ := q1
    cases dus with
    | cons dx du =>
      cases du with
      | cons dy dn =>
        cases dn
        obtain rfl := dx.cls
        cases dy with
        | p dy =>
          cases dy with
          | @tup b _ ws hb rw' =>
            have hz : (zipP (zs.map P.str) ys).length = min (zs.map V.str).length ws.length := by
              unfold zipP
              rw [List.length_map, List.length_zip, rw'.len, List.length_map, List.length_map]
            refine ⟨c, b, zs.map V.str, ws, rfl, .inr ⟨hc.sq H1, sqT_mono r1.same hb, k (zipP (zs.map P.str) ys) (fun _ => True) h1 _ F1 ρ1 H1 s1 p1 r1 ⟨fun F' ρ' h' H' s p r _ => ?_, fun i F' ρ' h' H' s p r _ hi => ?_, fun i d F' ρ' h' H' x H2 s p r _ hd hy => ?_⟩ q1⟩⟩
            · refine ⟨zs.map V.str, ws, hc.sq H', sqT_mono r.same (sqU_mono s hb), ?_⟩
              rw [hz]
              omega
            · rw [hz] at hi
              exact ⟨zs.map V.str, ws, (zs.map V.str)[i]'(by omega), ws[i]'(by omega), hc.sq H', sqT_mono r.same (sqU_mono s hb), List.getElem?_eq_getElem _, List.getElem?_eq_getElem _⟩
            · obtain ⟨T, x1, y1, rfl, hT, rfl, gx, gy⟩ := hy
              unfold zipP at hd
              rw [List.getElem?_map] at hd
              cases hq : ((zs.map P.str).zip ys)[i]? with
              | none => rw [hq] at hd; cases hd
              | some q =>
                rw [hq] at hd; cases hd
                obtain ⟨e1, e2⟩ := zip_get hq
                obtain ⟨v1, f1, g1⟩ := (RPs.of_strs (K := K) (F := F') zs).get e1
                obtain ⟨v2, f2, g2⟩ := rw'.get e2
                have z1 := gx (zs.map V.str) (hc.sq _)
                have z2 := gy ws (sqT_mono r.same (sqU_mono s hb))
                rw [f1] at z1; cases z1
                rw [f2] at z2; cases z2
                have sn := same_new (o := .tup [x1, y1]) (r.free hT)
                exact ⟨upd F' T (.tup [x1, y1]), sn, r.frz hT, .p (.tup (.of upd_same) (.cons (g1.mono sn) (.cons ((g2.mono s).mono sn) .nil)))⟩
end
end Kb

/-! An own list extended by a list of either kind. -/
namespace Kb
open PySem PySem.Spec PyProof.Rows L2 RZ
section
open PySem.AutoSeq1 (wpAny_loadPart')
theorem extLstW (p q : Addr) (xs ys : Array Value) (i j : Nat) (dt : Option Addr) (st : Array (Option Value)) (hz : xs.size + ys.size ≤ sizeLine) :
    Meets (Builtin.«list.extend» ⟨[.ref p, .ref q], []⟩)
      (fun _ R s => s.heap.get? p = some { cls := .type "list", data := .seq xs i } ∧ s.heap.get? q = some ⟨.type "list", dt, .seq ys j, st⟩ ∧ R (.ok (.ret .none)) { s with heap := s.heap.update p (Obj.mapSeq fun x => x ++ ys) }) :=
  .of_wp fun prog w A R s hyp => by
    obtain ⟨H, G, D, T, O⟩ := s; obtain ⟨ep, eq, hR⟩ := hyp
    have g1 := AutoSeq1.idx_int; have g2 := AutoSeq1.sub_tuple_tuple
    have g3 := AutoSeq1.sub_list_list; have g4 := AutoSeq1.sub_tuple_list; have g5 := AutoSeq1.sub_list_tuple
    have nl : ¬ (!xs.isEmpty && Builtin.List.listTooLong (xs.size + ys.size)) = true := by rw [notLongL hz, Bool.and_false]; exact Bool.false_ne_true
    have z1 : xs.size ≤ sizeLine := Nat.le_trans (Nat.le_add_right _ _) hz
    have z2 : (xs ++ ys).size ≤ sizeLine + 1 := by rw [Array.size_append]; omega
    wp_walk using (wpAny_updateSeq ep rfl (hz := z1) (_hz' := z2)), wpAny_loadPart' ep, wpAny_loadPart' eq
    exact ⟨_, rfl, hR⟩
end
section
variable {X : Cx}
def rExtL (K : PySem.W.Frag) : V → List V → Hp → VK → Prop := fun x vs H Q => ∃ l b xs zs, x = .ref l ∧ vs = [.ref b] ∧ H l = some (.lst xs) ∧ SqL K H b zs ∧ xs.length + zs.length ≤ sizeLine ∧ Q .non (upd H l (.lst (xs ++ zs)))
theorem mt_extL : MtM X "list.extend" (rExtL X.K) := by
  intro pins s σ H x vs v us Q I rx rv h
  obtain ⟨l, b, xs, zs, rfl, rfl, hH, hB, hz, q⟩ := h
  cases rx
  obtain ⟨u, rfl, ru⟩ := rv.one
  cases ru
  obtain ⟨z, its, n, r, hl, e⟩ := I.lstM hH
  obtain ⟨its2, r2, ⟨⟨cls, dd, data, sl⟩, n2, ho, hc, hdn, hd⟩, _⟩ := I.list hB
  simp only at hc hd
  subst hc hd
  have l2 := r2.length
  refine call_meets PySem.F.slot_list_extend ⟨_, e, rfl⟩ PySem.F.entry_list_extend (PySem.F.args_list_extend_2 _ _) (extLstW l b its.toArray its2.toArray n n2 dd sl (by rw [List.size_toArray, List.size_toArray]; omega)) ⟨e, ho, ?_⟩
  refine ⟨.non, _, I.lset (its' := its ++ its2) hH e (by simp) (r.append r2) ?_, rfl, q⟩
  rw [List.length_append]
  exact hz
theorem mt_extLK {K : PySem.W.Frag} (hK : X.K = K) : MtM X "list.extend" (rExtL K) := hK ▸ mt_extL
end
section
variable {K : PySem.W.Frag} {Θ : Ctx} {h : Hs} {R : D → Hs → Prop} {x y : D}
theorem vm_extL {n : Nat} {xs : List D} {zs : List P} {y : D} (hn : h[n]? = some (some (.lst xs))) (hy : SeqL y h zs) (hl : xs.length + zs.length ≤ sizeLine) (q : R dN (h.set n (some (.lst (xs ++ zs.map D.p))))) : VM K Θ (rExtL K) (.own n) [y] h R := fun F ρ H vx vs Q rl a b k => by
  cases a with
  | own a =>
    cases b with
    | cons b c =>
      cases c
      obtain ⟨p, u, e1, e2, e3, us, e4, e5⟩ := rl.own _ _ hn
      rw [a] at e1; cases e1
      subst e4
      obtain ⟨p2, ws, rfl, s2, r2⟩ := hy.v rl b
      refine ⟨_, _, us, _, rfl, rfl, e3, s2, by rw [← e5.len, ← r2.len]; exact hl, ?_⟩
      exact k _ _ _ F ρ _ (Same.refl _) (Pre.refl _) (rl.put (o' := .lst (xs ++ zs.map D.p)) hn a ⟨_, rfl, e5.append r2.data⟩) (.p .non) q
theorem call_ordD {c : Nat} (q : R (dI c) h) : VC K Θ (fun xs H Q => ∃ x, xs = [.str x] ∧ x.length = 1 ∧ Q (.int (x.cps.getD 0 0 : Nat)) H) [dS ⟨#[c]⟩] h R := fun F ρ H vs Q rl a k => by
  cases a with
  | cons a b =>
    cases b
    obtain rfl := a.str
    exact ⟨_, rfl, rfl, k _ h _ F ρ H (Same.refl _) (Pre.refl _) rl (.p (.int _)) q⟩
theorem vm_indexL {ys : List Str} {z : Str} {j : Nat} (hj : ys[j]? = some z) (hno : ∀ m, m < j → ys[m]? ≠ some z) (q : R (dI j) h) : VM K Θ (rIndex K) (dL (ys.map P.str)) [dS z] h R := fun F ρ H vx vs Q rl a b k => by
  cases a with
  | p a =>
    cases a with
    | lst a r =>
      cases b with
      | cons b e =>
        cases e
        obtain rfl := b.str
        have er : ∀ {zs : List Str} {us : List V}, RPs K F (zs.map P.str) us → us = zs.map V.str := fun {zs} => by
          induction zs with
          | nil => intro us r; cases r; rfl
          | cons z zs ih =>
            intro us r
            cases r with
            | cons r1 r2 => cases r1; rw [ih r2]; rfl
        have e := er r
        subst e
        refine ⟨_, ys.map V.str, .str z, j, .str z, rfl, rfl, rl.same.seq a, rfl, ?_, ?_, ?_, ?_, k _ h _ F ρ H (Same.refl _) (Pre.refl _) rl (.p (.int _)) q⟩
        · rw [List.all_eq_true]
          intro x hx
          obtain ⟨s, _, rfl⟩ := List.mem_map.mp hx
          rfl
        · rw [List.getElem?_map, hj]; rfl
        · show (z == z) = true
          exact beq_self_eq_true z
        · intro m z' hm hz'
          rw [List.getElem?_map] at hz'
          cases e : ys[m]? with
          | none => rw [e] at hz'; cases hz'
          | some s =>
            rw [e] at hz'; cases hz'
            show (s == z) = false
            exact beq_eq_false_iff_ne.mpr fun q => hno m hm (by rw [e, q])
end
section
variable {X : Cx} {K : PySem.W.Frag} {w : World}
theorem ix_kdictK (hK : X.K = K) (hw : X.w = w) : IxR X (rIxD K w) := by
  subst hK hw
  exact ix_kdict
theorem mt_tup_indexK (hK : X.K = K) : MtR X "tuple.index" (fun x xs H Q => ∃ p, ∃ ys : List Str, ∃ z j, x = .ref p ∧ xs = [.str z] ∧ SqT K H p (ys.map V.str) ∧ ys[j]? = some z ∧ (∀ m, m < j → ys[m]? ≠ some z) ∧ Q (.int (j : Nat)) H) := hK ▸ mt_tup_index
theorem mt_indexK (hK : X.K = K) : MtR X "list.index" (rIndex K) := hK ▸ mt_index
end
end Kb

/-! Texts read: a tuple of the top as a tuple in data, `in` a tuple, find from a place, replace behind a written text; a promise without errors out of one with errors. -/
namespace Kb
open PySem PySem.Spec PyProof.Rows L2
section
variable {P : Program} {w : World} {K : PySem.W.Frag} {T : Tbs} {mg : Str → Option Value} {base : Heap} {k : Nat} {x : Str} {ps : List Str} {W : SpcX} {W' : Spc}
end
section
variable {X : Cx}
end
section
variable {K : PySem.W.Frag} {Θ : Ctx} {env : Env'} {h : Hs} {R : D → Hs → Prop} {ta to : TE}
end
end Kb

/-! Tokens of a text: what stands at a place of it. -/
namespace Tz
open PySem PySem.Spec PyProof.Rows L2 Kb SX NumText
abbrev inS (z : Str) (c : Nat) : Bool := decide (c ∈ z.cps.toList)
abbrev run (z : Str) (u : List Nat) : List Nat := u.takeWhile (inS z)
end Tz

/-! A call without arguments; what is drawn, gathered. -/
namespace Kb
open PySem PySem.Spec PyProof.Rows L2
section
variable {X : Cx} {CX : CXT} {k : Nat} {x : Str} {ps : List Str} {sp : Sp} {E : XK} {p pos : Pos}
end
end Kb

/-! A comprehension whose items are owned; an own list repeated. -/
namespace Kb
open PySem PySem.Spec PyProof.Rows L2
section
variable {K : PySem.W.Frag} {Θ : Ctx} {env : Env'} {h : Hs} {R : D → Hs → Prop}
/-- [..]: a new list that is owned; its items may be owned, too -/
theorem ve_lcW {wi : TI} {g : TG} {tt : TT} {te : TE} {vs : List Nat} (tg : TgOk g vs)
    (q : VI K Θ wi env h fun ds C h1 => ∃ Inv : Nat → List D → Hs → Prop, ds.length < sizeLine ∧ Inv 0 [] (h1 ++ [some (.lst [])]) ∧ (∀ i acc h', Inv i acc h' → h'[h1.length]? = some (some (.lst acc)) ∧ C h') ∧
      (∀ i d acc h', ds[i]? = some d → Inv i acc h' → VG K Θ g d (wipeD env vs) h' fun env' h2 => VT K Θ tt env' h2 fun b h3 => if b = true then VE K Θ te env' h3 (fun y h4 => h4[h1.length]? = some (some (.lst acc)) ∧ Inv (i + 1) (acc ++ [y]) (h4.set h1.length (some (.lst (acc ++ [y]))))) else Inv (i + 1) acc h3) ∧
      (∀ acc h', Inv ds.length acc h' → R (.own h1.length) h')) : VE K Θ (tLc wi g tt te vs) env h R := fun F ρ σ H Q rl e k =>
  q F ρ σ H _ rl e fun ds C h1 J F1 ρ1 H1 s1 p1 r1 it q1 => by
    obtain ⟨Inv, hl, i0, hI, turn, fin⟩ := q1
    have e1 := e.mono s1 p1
    intro p hp
    refine ⟨fun i m H => m = ds.length - i ∧ i ≤ ds.length ∧ ∃ F' ρ' acc h', Same F1 F' ∧ Pre (ρ1 ++ [p]) ρ' ∧ acc.length ≤ i ∧ Inv i acc h' ∧ Rel K Θ F' ρ' h' H, ⟨ds.length, by simp, Nat.zero_le _, F1, ρ1 ++ [p], [], _, Same.refl _, Pre.refl _, Nat.le_refl _, i0, r1.push (o := .lst []) hp ⟨[], rfl, .nil⟩⟩, ?_⟩
    rintro i m H ⟨rfl, hi, F', ρ', acc, h', s, pp, hacc, iv, r⟩
    obtain ⟨hat, hC⟩ := hI i acc h' iv
    have hpl : ∀ {ρ'' : List Addr}, Pre (ρ1 ++ [p]) ρ'' → ρ''[h1.length]? = some p := fun pr => pr _ _ (by rw [← r1.len]; simp)
    have got : ∀ {F' : Hp} {ρ'' : List Addr} {H : Hp} {h' : Hs} {xs : List D}, Pre (ρ1 ++ [p]) ρ'' → h'[h1.length]? = some (some (.lst xs)) → Rel K Θ F' ρ'' h' H → ∃ us, H p = some (.lst us) ∧ RA K F' ρ'' xs us := fun pr el r => by
      obtain ⟨a, u, e1, e2, e3, us, e4, e5⟩ := r.own h1.length _ el
      rw [hpl pr] at e1; cases e1
      subst e4
      exact ⟨us, e3, e5⟩
    by_cases hlt : i < ds.length
    · refine .inr ⟨it.go i F' ρ' _ H s ((Pre.push _ _).trans pp) r hC hlt, fun H' => ∃ F2 ρ2 acc2 h2, Same F1 F2 ∧ Pre (ρ1 ++ [p]) ρ2 ∧ acc2.length ≤ i + 1 ∧ Inv (i + 1) acc2 h2 ∧ Rel K Θ F2 ρ2 h2 H', fun H' ⟨F2, ρ2, acc2, h2, s2, pp2, l2, iv2, r2⟩ => ⟨ds.length - (i + 1), by omega, rfl, hlt, F2, ρ2, acc2, h2, s2, pp2, l2, iv2, r2⟩, fun x H' hy => ?_⟩
      have hd : ds[i]? = some ds[i] := List.getElem?_eq_getElem hlt
      obtain ⟨F2, s2, r2, dx⟩ := it.yld i _ F' ρ' _ H x H' s ((Pre.push _ _).trans pp) r hC hd hy
      refine tg x σ H' _ ?_
      refine turn i _ acc h' hd iv F2 ρ' (wipe σ vs) H' x _ r2 ((e1.mono (s.trans s2) ((Pre.push _ _).trans pp)).wipes vs) dx fun env3 h3 F3 ρ3 σ3 H3 s3 p3 r3 e3 q3 => ?_
      refine q3 F3 _ σ3 H3 _ r3 e3 fun b h4 F4 ρ4 H4 s4 p4 r4 q4 => ?_
      have ss : Same F1 F4 := s.trans (s2.trans (s3.trans s4))
      cases b with
      | true =>
        rw [if_pos rfl] at q4 ⊢
        refine q4 F4 _ σ3 H4 _ r4 (e3.mono s4 p4) fun y h5 v F5 ρ5 H5 s5 p5 r5 dv q5 => ?_
        obtain ⟨at5, iv6⟩ := q5
        have pr5 : Pre (ρ1 ++ [p]) ρ5 := pp.trans (p3.trans (p4.trans p5))
        obtain ⟨us, g1, g3⟩ := got pr5 at5 r5
        refine ⟨us, g1, ?_, F5, ρ5, acc ++ [y], _, ss.trans s5, pr5, ?_, iv6, ?_⟩
        · rw [← g3.len]; omega
        · rw [List.length_append]; exact Nat.succ_le_succ hacc
        · exact r5.put (i := h1.length) (o' := .lst (acc ++ [y])) at5 (hpl pr5) ⟨us ++ [v], rfl, g3.append (.cons dv .nil)⟩
      | false =>
        rw [if_neg Bool.false_ne_true] at q4 ⊢
        exact ⟨F4, ρ4, acc, _, ss, pp.trans (p3.trans p4), Nat.le_succ_of_le hacc, q4, r4⟩
    · have ei : i = ds.length := by omega
      subst ei
      refine .inl ⟨it.stop F' ρ' _ H s ((Pre.push _ _).trans pp) r hC, ?_⟩
      exact k _ h' (.ref p) F' ρ' H (s1.trans s) (p1.trans ((Pre.push _ _).trans pp)) r (.own (hpl pp)) (fin acc h' iv)
/-- [x] * n: an own list repeated, a new one that is owned -/
theorem v2_repO {n : Nat} {xs : List D} {j : Int} (hn : h[n]? = some (some (.lst xs))) (h1 : -(2 ^ 63) ≤ j ∧ j < 2 ^ 63) (hl : xs.length * j.toNat ≤ sizeLine) (q : R (.own h.length) (h ++ [some (.lst (List.replicate j.toNat xs).flatten)])) : V2 K Θ rRep (.own n) (dI j) h R := fun F ρ H vx vy Q rl a b k => by
  obtain rfl := b.int
  cases a with
  | own a =>
    obtain ⟨p, u, e1, e2, e3, vs, e4, e5⟩ := rl.own _ _ hn
    rw [a] at e1; cases e1
    subst e4
    have rr : ∀ m : Nat, RA K F ρ (List.replicate m xs).flatten (List.replicate m vs).flatten := fun m => by
      induction m with
      | zero => exact .nil
      | succ m ih =>
        rw [List.replicate_succ, List.replicate_succ, List.flatten_cons, List.flatten_cons]
        exact e5.append ih
    refine ⟨_, j, vs, rfl, rfl, e3, h1.1, h1.2, by rw [← e5.len]; exact hl, fun p hp => ?_⟩
    exact k _ _ (.ref p) F (ρ ++ [p]) _ (Same.refl _) (Pre.push _ _) (rl.push (o := .lst (List.replicate j.toNat xs).flatten) hp ⟨_, rfl, rr _⟩) (.own (by rw [← rl.len]; simp)) q
end
end Kb

/-! Dicts with tuple keys: key in d, key not in d, list(d). -/
namespace Kb
open PySem PySem.Spec PyProof.Rows L2
section
variable {X : Cx}
end
section
variable {K : PySem.W.Frag} {Θ : Ctx} {env : Env'} {h : Hs} {R : D → Hs → Prop}
end
end Kb

/-! sorted(xs), xs tuples whose first items are tuples of three ints, all different; in, not in for plain data. -/
namespace Kb
open PySem PySem.Spec PyProof.Rows L2
open PySem.W (dataLt)
abbrev K3 := Int × Int × Int
section
variable {prog : Program} {w : World} {A : Around} {s : Shared}
end
section
variable {X : Cx}
end
section
variable {K : PySem.W.Frag} {Θ : Ctx} {env : Env'} {h : Hs} {R : D → Hs → Prop}
def k3P (c : K3) : P := .tup [.int c.1, .int c.2.1, .int c.2.2]
end
end Kb

/-! The pure world of the store laws: rows, kept capabilities, what is told of a capability, paths. -/
namespace Wd
abbrev Key := Int × Int × Int
abbrev Rts := List (Bool × Bool × Bool)
inductive Pub where
  | grant (h : Int) (r : Rts)
  | revoke (c : Option Key)
  | mark
structure Row where
  a : Int
  n : Int
  hd : List Int
  cap : Option Key
  pub : List Pub
  pt : List Kb.P
structure Ent where
  k : Key
  par : Option Key
  hol : Int
  rts : Rts
structure Wld where
  m : Int
  rows : List Row
  cut : List Int
  caps : List Ent
  kp : List (Option (List Kb.P × List Kb.P × List Kb.P))
abbrev Told := Option Key × Int × Rts
def Pub.told (cap : Option Key) : Pub → Option Told
  | .grant h r => some (cap, h, r)
  | _ => none
def rowOf (w : Wld) (a b : Int) : Option Row := w.rows.find? fun r => decide (r.a = a ∧ r.n = b)
def rowTold (r : Option Row) (p : Int) : Option Told :=
  match r with
  | none => none
  | some r => if 0 ≤ p then (match r.pub[p.toNat]? with | some u => u.told r.cap | none => none) else none
def told (w : Wld) (c : Key) : Option Told :=
  match w.caps.find? fun e => decide (e.k = c) with
  | some e => some (e.par, e.hol, e.rts)
  | none => rowTold (rowOf w c.1 c.2.1) c.2.2
def par (w : Wld) (c : Key) : Option (Option Key) := (told w c).map (·.1)
def isKept (w : Wld) (c : Key) : Bool := w.caps.any fun e => decide (e.k = c)
/-- the chain to None, if it is shorter than that -/
def path (t : Key → Option (Option Key)) : Nat → Option Key → Option (List Key)
  | 0, _ => none
  | _ + 1, none => some []
  | n + 1, some k => (t k).bind fun p => (path t n p).map (k :: ·)
section
variable {t : Key → Option (Option Key)}
end
/-- the chain of a capability -/
def pathW (w : Wld) (c : Option Key) : Option (List Key) := path (par w) 40 c
end Wd

/-! Rows of a world: numbers that follow on each other; what is found by a name. -/
namespace Wd
variable {kp : List (Option (List Kb.P × List Kb.P × List Kb.P))}
def cutA (cut : List Int) (a : Int) : Int := cut[a.toNat]?.getD 0
def CapOk (m : Int) (c : Option Key) : Prop := ∀ k, c = some k → 0 ≤ k.1 ∧ k.1 < m ∧ 1 ≤ k.2.1 ∧ 0 ≤ k.2.2
def pubSum (rows : List Row) : Nat := (rows.map fun r => r.pub.length).sum
end Wd

/-! What is kept of rows that are cut away. -/
namespace Wd
variable {kp : List (Option (List Kb.P × List Kb.P × List Kb.P))}
theorem names_inj {rows : List Row} (nd : (rows.map fun r => (r.a, r.n)).Nodup) {i j : Nat} {r r' : Row} (hi : rows[i]? = some r) (hj : rows[j]? = some r') (ha : r.a = r'.a) (hn : r.n = r'.n) : i = j := by
  obtain ⟨i1, i2⟩ := List.getElem?_eq_some_iff.mp hi
  obtain ⟨j1, j2⟩ := List.getElem?_eq_some_iff.mp hj
  have z := List.pairwise_iff_getElem.mp nd
  have e1 : (rows.map fun r => (r.a, r.n))[i]'(by simpa using i1) = (r.a, r.n) := by rw [List.getElem_map, i2]
  have e2 : (rows.map fun r => (r.a, r.n))[j]'(by simpa using j1) = (r.a, r.n) := by rw [List.getElem_map, j2, ha, hn]
  rcases Nat.lt_trichotomy i j with q | q | q
  · exact absurd (e1.trans e2.symm) (z i j (by simpa using i1) (by simpa using j1) q)
  · exact q
  · exact absurd (e2.trans e1.symm) (z j i (by simpa using j1) (by simpa using i1) q)
/-- a row that is cut away -/
def isCut (cut : List Int) (r : Row) : Bool := decide (r.n ≤ cutA cut r.a)
def EntOk (m : Int) (e : Ent) : Prop := CapOk m (some e.k) ∧ CapOk m e.par ∧ e.rts.length = 4 ∧ 0 ≤ e.hol ∧ e.hol < 6
structure KInv (m : Int) (rows : List Row) (cut : List Int) (i p : Nat) (L : List Ent) : Prop where
  nd : (L.map (·.k)).Nodup
  src : ∀ e ∈ L, ∃ (j : Nat) (r : Row) (q : Nat), rows[j]? = some r ∧ e.k = (r.a, r.n, (q : Int)) ∧ q < r.pub.length ∧ isCut cut r = true ∧ (j < i ∨ (j = i ∧ q < p)) ∧ EntOk m e
  par : ∀ (x : Nat) (e : Ent), L[x]? = some e → e.par = none ∨ ∃ (y : Nat) (e' : Ent), y < x ∧ L[y]? = some e' ∧ e.par = some e'.k
  len : L.length ≤ pubSum ((rows.take i).filter (isCut cut)) + p
namespace KInv
variable {m : Int} {rows : List Row} {cut : List Int} {i p : Nat} {L : List Ent}
theorem start : KInv m rows cut 0 0 [] := ⟨.nil, (fun e h => by cases h), (fun x e h => by simp at h), by simp⟩
theorem add (k : KInv m rows cut i p L) (nm : (rows.map fun r => (r.a, r.n)).Nodup) {r : Row} (h : rows[i]? = some r) (hc : isCut cut r = true) (hp : p < r.pub.length) {e : Ent} (ek : e.k = (r.a, r.n, (p : Int))) (eo : EntOk m e)
    (hpar : e.par = none ∨ ∃ e' ∈ L, e.par = some e'.k) : KInv m rows cut i (p + 1) (L ++ [e]) := by
  refine ⟨?_, fun x hx => ?_, fun x e' hx => ?_, by rw [List.length_append]; have := k.len; simp; omega⟩
  · rw [List.map_append, List.nodup_append]
    refine ⟨k.nd, by simp, fun a ha b hb => ?_⟩
    obtain ⟨e', he', rfl⟩ := List.mem_map.mp ha
    have hb := List.mem_singleton.mp hb
    subst hb
    obtain ⟨j, r', q, h1, h2, h3, h4, h5, h6⟩ := k.src e' he'
    intro z
    have z : (r'.a, r'.n, (q : Int)) = (r.a, r.n, (p : Int)) := by rw [← h2, ← ek]; exact z
    have z1 := congrArg Prod.fst z
    have z2 := congrArg (·.2.1) z
    have z3 := congrArg (·.2.2) z
    dsimp only at z1 z2 z3
    have := names_inj nm h1 h z1 z2
    omega
  · rcases List.mem_append.mp hx with hx | hx
    · obtain ⟨j, r', q, h1, h2, h3, h4, h5, h6⟩ := k.src x hx
      exact ⟨j, r', q, h1, h2, h3, h4, by omega, h6⟩
    · have hx := List.mem_singleton.mp hx
      subst hx
      exact ⟨i, r, p, h, ek, hp, hc, .inr ⟨rfl, by omega⟩, eo⟩
  · rcases Nat.lt_or_ge x L.length with z | z
    · rw [List.getElem?_append_left z] at hx
      rcases k.par x e' hx with h0 | ⟨y, e2, h1, h2, h3⟩
      · exact .inl h0
      · exact .inr ⟨y, e2, h1, by rw [List.getElem?_append_left (by omega)]; exact h2, h3⟩
    · have hz : x = L.length := by
        have := (List.getElem?_eq_some_iff.mp hx).1
        simp at this; omega
      subst hz
      rw [List.getElem?_append_right (Nat.le_refl _), Nat.sub_self] at hx
      cases hx
      rcases hpar with h0 | ⟨e2, h1, h2⟩
      · exact .inl h0
      · obtain ⟨y, hy, e3⟩ := List.getElem_of_mem h1
        exact .inr ⟨y, e2, hy, by rw [List.getElem?_append_left hy, List.getElem?_eq_getElem hy, e3], h2⟩
end KInv
end Wd

/-! What is fit, what is revoked. -/
namespace Wd
def inPast (a b : Int) (r : Row) : Bool := decide (0 ≤ a) && decide (a < (r.hd.length : Nat)) && decide (1 ≤ b) && decide (b ≤ r.hd[a.toNat]?.getD 0)
def heardCut (w : Wld) (r : Row) : Bool := (r.hd.zip w.cut).all fun q => decide (q.2 ≤ q.1)
abbrev Rt := Bool × Bool × Bool
def mayGive (o g : Rt) : Bool := (!g.1 || (o.1 && o.2.2)) && (!g.2.1 || (o.2.1 && o.2.2)) && (!g.2.2 || (o.2.2 && o.2.2))
def mayGrant (own given : Rts) : Bool := (own.zip given).all fun q => mayGive q.1 q.2
def fromBefore (w : Wld) (c : Option Key) (r : Row) : Bool := match c with
  | none => true
  | some k => isKept w k || inPast k.1 k.2.1 r
def actFit (rts : Rts) (cap : Option Key) : Pub → Bool
  | .grant _ g => mayGrant rts g
  | .mark => cap.isNone
  | .revoke _ => true
def fullR : Rts := [(true, true, true), (true, true, true), (true, true, true), (true, true, true)]
/-- what is told of a capability that is there -/
def infoW (w : Wld) (c : Option Key) : Option Told := match c with
  | none => some (none, 0, fullR)
  | some k => match pathW w c with
    | none => none
    | some _ => told w k
def isFit (w : Wld) (r : Row) : Bool := match infoW w r.cap with
  | none => false
  | some (_, hol, rts) => decide (hol = r.a) && heardCut w r && fromBefore w r.cap r && r.pub.all (actFit rts r.cap)
/-- the path of a capability, with None -/
def pathR (w : Wld) (c : Option Key) : List (Option Key) := match pathW w c with
  | none => []
  | some ks => ks.map some ++ [none]
def mayRevoke (w : Wld) (r : Row) (c : Option Key) : Bool := !decide (c = r.cap) && decide (r.cap ∈ pathR w c) && fromBefore w c r
def revStep (w : Wld) (r : Row) (acc : List (Option Key)) : Pub → List (Option Key)
  | .revoke c => if (!decide (c ∈ acc) && mayRevoke w r c) = true then acc ++ [c] else acc
  | _ => acc
def revokedBy (w : Wld) (r : Row) : List (Option Key) := r.pub.foldl (revStep w r) []
end Wd

/-! Verdicts taken as given: what is said, what is held, what may be read. -/
namespace Wd
/-- the name is of a row, and what is said of it -/
def said (w : Wld) (v : Int → Int → Bool) (a b : Int) : Bool := (rowOf w a b).isSome && v a b
def grantOk (w : Wld) (v : Int → Int → Bool) : Option Key → Bool
  | none => true
  | some k => isKept w k || said w v k.1 k.2.1
def hasSeal (r : Row) : Bool := r.pub.any fun u => match u with | .mark => true | _ => false
end Wd

/-! Rows whose past is whole; rows that differ in their parts alone. -/
namespace Wd
end Wd

/-! Undos, what is closed, what takes effect. -/
namespace Wd
end Wd

/-! The verdicts: decided from the top downwards. -/
namespace Wd
def rel (r s : Row) : Bool := decide (r.a = s.a ∧ r.n = s.n) || (inPast r.a r.n s || inPast s.a s.n r)
/-- how far from the top -/
def dep (w : Wld) (r : Row) : Nat := (pathR w r.cap).length
/-- no revocation of o hits r, but of what r had told it -/
def spares (w : Wld) (r o : Row) : Bool := (revokedBy w o).all fun c => !decide (c ∈ pathR w r.cap) || inPast r.a r.n o
/-- what is due, if v is what the others are -/
def due (w : Wld) (v : Int → Int → Bool) (r : Row) : Bool := isFit w r && (grantOk w v r.cap && w.rows.all fun o => !v o.a o.n || ((!hasSeal o || rel o r) && spares w r o))
end Wd

/-! The verdicts, whatever the order is in which they are decided, those nearer to the top first. -/
namespace Wd
end Wd

/-! A plain row more turns no verdict. -/
namespace Wd
section
variable {w w' : Wld} {r : Row}
end
end Wd

/-! A drawn row more behind a cut. -/
namespace Wd
def more (w : Wld) (r : Row) : Wld := { w with rows := w.rows ++ [r] }
end Wd

/-! What lies in the past of an allowed seal stays as it is, whatever comes later. -/
namespace Wd
section
variable {w w' : Wld} {r : Row}
end
section
variable {w w' : Wld} {r x : Row}
end
end Wd

/-! in, not in for plain data; the store's world as data. -/
namespace Kb
open PySem PySem.Spec PyProof.Rows L2
section
variable {X : Cx} {K : PySem.W.Frag}
theorem _root_.L2.Room.u65 {k : Nat} {A : Around} (r : Room k A) : A.units + 65 < cLine := by have := r.un; omega
theorem op_inDK (hK : X.K = K) (hu : X.A.units + 65 < cLine) : OpR X (compareOp .In) (rInD K) := hK ▸ op_inD hu
end
section
variable {K : PySem.W.Frag} {Θ : Ctx} {env : Env'} {h : Hs} {R : D → Hs → Prop}
theorem pyOfs_map : ∀ ps : List P, pyOf.pyOfs ps = ps.map pyOf
  | [] => rfl
  | p :: ps => by unfold pyOf.pyOfs; rw [pyOfs_map ps]; rfl
theorem plainPs_all : ∀ ps : List P, plainP.plainPs ps = ps.all plainP
  | [] => rfl
  | p :: ps => by unfold plainP.plainPs; rw [plainPs_all ps]; rfl
theorem seq_dp {F : Hp} {ρ : List Addr} {H : Hp} {d : D} {v : V} {ps : List P} (s : SeqL d h ps) (rl : Rel K Θ F ρ h H) (a : RD K F ρ d v) (pl : ps.all plainP = true) : Dp K H v (.list (ps.map pyOf)) := by
  obtain ⟨p, vs, rfl, h1, h2⟩ := s.v rl a
  have z := RPs.dp rl.same h2 (by rw [plainPs_all]; exact pl)
  rw [pyOfs_map] at z
  exact .lst h1 z
theorem v2_inM {x : P} {y : D} {ps : List P} (hy : SeqL y h ps) (lx : plainP x = true) (ly : ps.all plainP = true) (sx : SeqAt.shaped (pyOf x) = true) (sy : SeqAt.shaped (.list (ps.map pyOf)) = true)
    (q : R (dB (ps.any fun z => PyData.eqv (pyOf z) (pyOf x))) h) : V2 K Θ (rInD K) (.p x) y h R := fun F ρ H vx vy Q rl a b k =>
  ⟨_, _, (show PyD (.p x) h x from rfl).dp rl a lx, seq_dp hy rl b ly, sx, sy, k _ h _ F ρ H (Same.refl _) (Pre.refl _) rl (.p (.bl _)) (by rw [List.any_map]; exact q)⟩
end
/-! ### capabilities, acts, rows as data -/
def capP : Option K3 → P
  | none => .non
  | some c => k3P c
section
variable {K : PySem.W.Frag} {Θ : Ctx} {env : Env'} {h : Hs} {R : D → Hs → Prop}
end
def rtP (t : Bool × Bool × Bool) : P := .tup [.bl t.1, .bl t.2.1, .bl t.2.2]
def rtsP (r : Wd.Rts) : P := .tup (r.map rtP)
def pubP : Wd.Pub → P
  | .grant h r => .tup [.str "grant", .int h, rtsP r]
  | .revoke c => .tup [.str "revoke", capP c]
  | .mark => .tup [.str "seal"]
def rowP (r : Wd.Row) : P := .lst [.int r.a, .int r.n, .lst (r.hd.map P.int), capP r.cap, .lst (r.pub.map pubP), .lst r.pt]
end Kb

/-! Comprehensions, any, all over a list of data given by a function. -/
namespace Kb
open PySem PySem.Spec PyProof.Rows L2 Gx
section
variable {K : PySem.W.Frag} {Θ : Ctx} {env : Env'} {h : Hs} {R : D → Hs → Prop}
theorem fm_filter {α β : Type} (c : α → Bool) (g : α → β) : ∀ (xs : List α), (List.range xs.length).filterMap (fun i => (xs[i]?).bind fun x => if c x = true then some (g x) else none) = (xs.filter c).map g
  | [] => rfl
  | x :: xs => by
    rw [List.length_cons, List.range_succ_eq_map, List.filterMap_cons, List.filterMap_map]
    have ih := fm_filter c g xs
    have e : ((fun i => ((x :: xs)[i]?).bind fun x => if c x = true then some (g x) else none) ∘ Nat.succ) = fun i => (xs[i]?).bind fun x => if c x = true then some (g x) else none := by
      funext i
      simp
    rw [e, ih]
    by_cases h : c x = true
    · simp [h]
    · have h' : c x = false := by simpa using h
      simp [h']
theorem ve_lcL {wi : TI} {g' : TG} {tt : TT} {te : TE} {vs : List Nat} {α : Type} (tg : TgOk g' vs) (xs : List α) (f : α → D) (c : α → Bool) (g : α → P)
    (q : VI K Θ wi env h fun ds C h1 => ds = xs.map f ∧ xs.length < sizeLine ∧ (∀ acc, C (h1 ++ [some (.lst acc)])) ∧
      (∀ x ∈ xs, ∀ acc, VG K Θ g' (f x) (wipeD env vs) (h1 ++ [some (.lst acc)]) fun env' h' => h' = h1 ++ [some (.lst acc)] ∧ VT K Θ tt env' h' fun b h2 => h2 = h1 ++ [some (.lst acc)] ∧ b = c x ∧ (c x = true → VE K Θ te env' h2 fun y h3 => h3 = h1 ++ [some (.lst acc)] ∧ y = .p (g x))) ∧
      R (dL ((xs.filter c).map g)) h1) : VE K Θ (tLc wi g' tt te vs) env h R := by
  refine ve_lc tg fun F ρ σ H Q rl e k => q F ρ σ H Q rl e fun ds C h' J F' ρ' H' s p r it ⟨h1, h2, h3, h4, h5⟩ => k ds C h' J F' ρ' H' s p r it ?_
  subst h1
  refine ⟨fun i => (xs[i]?).bind fun x => if c x = true then some (g x) else none, by rw [List.length_map]; exact h2, h3, fun i d acc hd => ?_, ?_⟩
  · rw [List.getElem?_map] at hd
    cases e : xs[i]? with
    | none => rw [e] at hd; cases hd
    | some x =>
      rw [e] at hd; cases hd
      dsimp only
      rw [e, Option.bind_some]
      intro F ρ σ H v Q rl e' dv k
      refine h4 x (List.mem_of_getElem? e) acc F ρ σ H v Q rl e' dv fun env' h' F' ρ' σ' H' s p r ee ⟨e1, q1⟩ => k env' h' F' ρ' σ' H' s p r ee ⟨e1, q1.imp fun b h2 ⟨e2, e3, q2⟩ => ⟨by rw [e2, e1], ?_⟩⟩
      subst e3
      by_cases hc : c x = true
      · rw [if_pos hc, if_pos hc]
        exact (q2 hc).imp fun y h3 ⟨e4, e5⟩ => ⟨by rw [e4, e2], g x, e5, rfl⟩
      · rw [if_neg hc, if_neg hc]
  · rw [List.length_map, fm_filter]; exact h5
end
end Kb

/-! while by a number that falls. -/
namespace Kb
open PySem PySem.Spec PyProof.Rows L2 RZ
section
variable {K : PySem.W.Frag} {Θ : Ctx} {env : Env'} {h : Hs} {R : D → Hs → Prop}
open Classical in
/-- what is known behind a statement -/
theorem vs_mid {t1 : TS} {E : En} (I : Env' → Hs → Prop) (q : VS K Θ t1 { E with nx := I } env h) (k : ∀ env h, I env h → E.nx env h) : VS K Θ t1 E env h := q.imp k (fun _ _ z => z) (fun _ _ z => z) (fun _ _ z => z)
end
end Kb

/-! What is owned: what stays, lists of own lists. -/
namespace Kb
open PySem PySem.Spec PyProof.Rows L2
/-- h0 stands as it was, ahead of what is new -/
def Pfx (h0 h : Hs) : Prop := ∃ g, h = h0 ++ g
theorem Pfx.len {h0 h : Hs} (p : Pfx h0 h) : h0.length ≤ h.length := by
  obtain ⟨g, rfl⟩ := p
  rw [List.length_append]; omega
theorem lt_of_get {h : Hs} {n : Nat} {o : Option OO} (e : h[n]? = some o) : n < h.length := (List.getElem?_eq_some_iff.mp e).1
theorem get_push {h x : Hs} {n : Nat} {o : Option OO} (e : h[n]? = some o) : (h ++ x)[n]? = some o := by rw [List.getElem?_append_left (lt_of_get e)]; exact e
theorem get_put {h : Hs} {n m : Nat} {o x : Option OO} (e : h[n]? = some o) (ne : m ≠ n) : (h.set m x)[n]? = some o := by rw [List.getElem?_set_ne ne]; exact e
theorem get_last {h : Hs} {x : Option OO} : (h ++ [x])[h.length]? = some x := List.getElem?_concat_length
section
variable {K : PySem.W.Frag} {Θ : Ctx} {R : D → Hs → Prop}
end
theorem filter_tt {α : Type} (xs : List α) : xs.filter (fun _ => true) = xs := List.filter_eq_self.mpr fun _ _ => rfl
section
variable {K : PySem.W.Frag} {Θ : Ctx} {env : Env'} {h : Hs} {R : D → Hs → Prop}
end
/-- an own list of own lists of ints -/
structure LL (h : Hs) (o : Nat) (js : List Nat) (xss : List (List Int)) : Prop where
  out : h[o]? = some (some (.lst (js.map D.own)))
  len : js.length = xss.length
  inn : ∀ (k j : Nat) (xs : List Int), js[k]? = some j → xss[k]? = some xs → h[j]? = some (some (.lst (xs.map dI)))
  nd : (o :: js).Nodup
namespace LL
variable {h : Hs} {o : Nat} {js : List Nat} {xss : List (List Int)}
theorem push (L : LL h o js xss) (x : Hs) : LL (h ++ x) o js xss := ⟨get_push L.out, L.len, fun k j xs a b => get_push (L.inn k j xs a b), L.nd⟩
theorem put (L : LL h o js xss) {n : Nat} (x : Option OO) (hn : n ≠ o) (hj : n ∉ js) : LL (h.set n x) o js xss :=
  ⟨get_put L.out hn, L.len, fun k j xs a b => get_put (L.inn k j xs a b) fun z => hj (z ▸ List.mem_of_getElem? a), L.nd⟩
theorem inj (L : LL h o js xss) {k k' j : Nat} (e : js[k]? = some j) (e' : js[k']? = some j) : k = k' := by
  obtain ⟨h1, h2⟩ := List.getElem?_eq_some_iff.mp e
  obtain ⟨h3, h4⟩ := List.getElem?_eq_some_iff.mp e'
  have z := List.pairwise_iff_getElem.mp (List.nodup_cons.mp L.nd).2
  rcases Nat.lt_trichotomy k k' with g | g | g
  · exact absurd (h2.trans h4.symm) (z k k' h1 h3 g)
  · exact g
  · exact absurd (h4.trans h2.symm) (z k' k h3 h1 g)
theorem lt (L : LL h o js xss) : ∀ j ∈ js, j < h.length := fun j hm => by
  obtain ⟨i, hi, e⟩ := List.getElem_of_mem hm
  have e1 : js[i]? = some j := by rw [List.getElem?_eq_getElem hi, e]
  have hx : i < xss.length := by rw [← L.len]; exact hi
  exact lt_of_get (L.inn i j _ e1 (List.getElem?_eq_getElem hx))
end LL
end Kb

/-! zip(t, l), t a tuple and l a list: the machine's steps, the walk, its rule. -/
namespace Kb
open PySem PySem.Spec PyProof.Rows L2 RZ
section
variable {prog : Program} {w : World} {A : Around} {E : Value → Shared → Prop} {s : Shared}
end
section
variable {K : PySem.W.Frag} {Θ : Ctx} {env : Env'} {h : Hs} {R : D → Hs → Prop}
end
end Kb

/-! Dicts with tuple keys asked for None. -/
namespace Kb
open PySem PySem.Spec PyProof.Rows L2
section
variable {prog : Program} {w : World} {K : Type} [DecidableEq K] {knd : KeyKind prog w K} {A : Around} {E : Value → Shared → Prop} {s : Shared}
end
section
variable {X : Cx}
end
section
variable {K : PySem.W.Frag} {Θ : Ctx} {env : Env'} {h : Hs} {R : D → Hs → Prop}
end
end Kb

/-! zip(l, t), l a list and t a tuple. -/
namespace Kb
open PySem PySem.Spec PyProof.Rows L2 RZ
section
variable {prog : Program} {w : World} {A : Around} {E : Value → Shared → Prop} {s : Shared}
end
section
variable {K : PySem.W.Frag} {Θ : Ctx} {env : Env'} {h : Hs} {R : D → Hs → Prop}
end
end Kb

/-! enumerate(t), t a tuple. -/
namespace Kb
open PySem PySem.Spec PyProof.Rows L2 RZ
section
variable {prog : Program} {w : World} {A : Around} {E : Value → Shared → Prop} {s : Shared}
end
section
variable {K : PySem.W.Frag} {Θ : Ctx} {env : Env'} {h : Hs}
end
end Kb

/-! Comprehensions with two sources, given by functions. -/
namespace Kb
open PySem PySem.Spec PyProof.Rows L2 Gx
theorem tg_name2 {i j : Nat} : TgOk (gName i) [i, j] := fun x σ H Q q => ⟨by
  show ((((σ.set j none).set i none).set i x).set j none).set i none = (σ.set j none).set i none
  refine List.ext_getElem? fun k => ?_
  simp only [List.getElem?_set, List.length_set]
  by_cases e1 : i = k
  · subst e1
    simp
  · by_cases e2 : j = k
    · subst e2
      simp [e1]
    · simp [e1, e2], q⟩
section
variable {K : PySem.W.Frag} {Θ : Ctx} {env : Env'} {h : Hs} {R : D → Hs → Prop}
theorem catN_flat {α : Type} (G : α → List P) (xs : List α) : ∀ n : Nat, n ≤ xs.length → catN (fun i => match xs[i]? with | some x => G x | none => []) n = (xs.take n).flatMap G
  | 0, _ => by simp [catN]
  | n + 1, hn => by
    rw [catN, catN_flat G xs n (by omega), List.take_add_one, List.flatMap_append, List.getElem?_eq_getElem (by omega)]
    simp
theorem ve_lc2L {wi wi1 : TI} {g g1 : TG} {tt tt1 : TT} {te : TE} {vs vs1 : List Nat} {α β : Type} (tg : TgOk g vs) (tg1 : TgOk g1 vs1) (xs : List α) (f : α → D) (ys : α → List β) (f1 : β → D) (c : β → Bool) (gg : β → P)
    (q : VI K Θ wi env h fun ds C h1 => ds = xs.map f ∧ (xs.flatMap ys).length < sizeLine ∧ (∀ acc, C (h1 ++ [some (.lst acc)])) ∧
      (∀ x ∈ xs, ∀ acc, VG K Θ g (f x) (wipeD env vs) (h1 ++ [some (.lst acc)]) fun env2 h2 => h2 = h1 ++ [some (.lst acc)] ∧ VT K Θ tt env2 h2 fun b h3 => h3 = h2 ∧ b = true ∧
        VI K Θ wi1 env2 h3 fun ds1 C1 h4 => h4 = h3 ∧ ds1 = (ys x).map f1 ∧ (∀ acc, C1 (h1 ++ [some (.lst acc)])) ∧
          ∀ y ∈ ys x, ∀ acc, VG K Θ g1 (f1 y) (wipeD env2 vs1) (h1 ++ [some (.lst acc)]) fun env' h' => h' = h1 ++ [some (.lst acc)] ∧ VT K Θ tt1 env' h' fun b h2 => h2 = h1 ++ [some (.lst acc)] ∧ b = c y ∧
            (c y = true → VE K Θ te env' h2 fun z h3 => h3 = h1 ++ [some (.lst acc)] ∧ z = .p (gg y))) ∧
      R (dL (((xs.flatMap ys).filter c).map gg)) h1) : VE K Θ (tLc2 wi g tt wi1 g1 tt1 te vs vs1) env h R := by
  refine ve_lc2 tg tg1 fun F ρ σ H Q rl e k => q F ρ σ H Q rl e fun ds C h' J F' ρ' H' s p r it ⟨h1, h2, h3, h4, h5⟩ => k ds C h' J F' ρ' H' s p r it ?_
  subst h1
  have ef : catN (fun i => match xs[i]? with | some x => ((ys x).filter c).map gg | none => []) xs.length = ((xs.flatMap ys).filter c).map gg := by
    rw [catN_flat (fun x => ((ys x).filter c).map gg) xs _ (Nat.le_refl _), List.take_length, List.filter_flatMap, List.map_flatMap]
  refine ⟨fun i => match xs[i]? with | some x => ((ys x).filter c).map gg | none => [], ?_, h3, fun i d acc hd => ?_, ?_⟩
  · rw [List.length_map, ef, List.length_map]
    exact Nat.lt_of_le_of_lt (List.length_filter_le ..) h2
  · rw [List.getElem?_map] at hd
    cases e : xs[i]? with
    | none => rw [e] at hd; cases hd
    | some x =>
      rw [e] at hd; cases hd
      dsimp only
      rw [e]
      intro F ρ σ H v Q rl e' dv k
      refine h4 x (List.mem_of_getElem? e) acc F ρ σ H v Q rl e' dv fun env' h' F' ρ' σ' H' s p r ee ⟨e1, q1⟩ => k env' h' F' ρ' σ' H' s p r ee ⟨e1, q1.imp fun b h3 ⟨e2, e3, q2⟩ => ⟨e2, ?_⟩⟩
      subst e3
      rw [if_pos rfl]
      intro F ρ σ H Q rl e' k
      refine q2 F ρ σ H Q rl e' fun ds1 C1 h4 J F' ρ' H' s p r it ⟨g1, g2, g3, g4⟩ => k ds1 C1 h4 J F' ρ' H' s p r it ⟨g1, ?_⟩
      subst g2
      refine ⟨fun j => ((ys x)[j]?).bind fun y => if c y = true then some (gg y) else none, g3, fun j d1 acc hd1 => ?_, ?_⟩
      · rw [List.getElem?_map] at hd1
        cases ey : (ys x)[j]? with
        | none => rw [ey] at hd1; cases hd1
        | some y =>
          rw [ey] at hd1; cases hd1
          dsimp only
          rw [ey, Option.bind_some]
          intro F ρ σ H v Q rl e' dv k
          refine g4 y (List.mem_of_getElem? ey) acc F ρ σ H v Q rl e' dv fun env' h' F' ρ' σ' H' s p r ee ⟨e1, q1⟩ => k env' h' F' ρ' σ' H' s p r ee ⟨e1, q1.imp fun b h2 ⟨e2, e3, q2⟩ => ⟨by rw [e2, e1], ?_⟩⟩
          subst e3
          by_cases hc : c y = true
          · rw [if_pos hc, if_pos hc]
            exact (q2 hc).imp fun y h3 ⟨e4, e5⟩ => ⟨by rw [e4, e2], gg _, e5, rfl⟩
          · rw [if_neg hc, if_neg hc]
      · rw [List.length_map, fm_filter]
  · rw [List.length_map, ef]; exact h5
end
end Kb

/-! d[k], d an own dict with tuple keys. -/
namespace Kb
open PySem PySem.Spec PyProof.Rows L2 Gx
section
variable {K : PySem.W.Frag} {Θ : Ctx} {env : Env'} {h : Hs} {R : D → Hs → Prop}
end
end Kb

/-! sorted(xs), xs tuples of three ints: in order. -/
namespace Kb
open PySem PySem.Spec PyProof.Rows L2
section
variable {prog : Program} {w : World} {A : Around} {s : Shared}
end
section
variable {X : Cx}
end
section
variable {K : PySem.W.Frag} {Θ : Ctx} {env : Env'} {h : Hs} {R : D → Hs → Prop}
end
end Kb

/-! len(d), d an own dict with tuple keys. -/
namespace Kb
open PySem PySem.Spec PyProof.Rows L2 Gx
section
variable {K : PySem.W.Frag} {Θ : Ctx} {env : Env'} {h : Hs} {R : D → Hs → Prop}
end
end Kb

/-! Many own lists, one in another, frozen at once. -/
namespace Kb
open PySem PySem.Spec PyProof.Rows L2
section
variable {K : PySem.W.Frag} {Θ : Ctx} {T : Tbs}
open Classical in
end
end Kb

/-! Rows that stand there as own lists, with own parts. -/
namespace Kb
open PySem PySem.Spec PyProof.Rows L2
section
variable {h : Hs} {o : Nat} {L : List RC}
end
/-! ### a world with own kept lists -/
section
variable {h : Hs} {o i : Nat} {w : Wd.Wld}
end
end Kb

/-! A dict made by a comprehension, its keys tuples. -/
namespace Kb
open PySem PySem.Spec PyProof.Rows L2
section
variable {X : Cx} {tg iter kx vx : Expr} {ifs : List Expr} {scope : Scope} {own : List (Str × Nat)} {pos : Pos} {wi : TI} {g : TG} {tt : TT} {tk tv : TE}
end
section
variable {K : PySem.W.Frag} {Θ : Ctx} {env : Env'} {h : Hs} {R : D → Hs → Prop}
end
end Kb

/-! An own dict with tuple keys: isinstance, clear. -/
namespace Kb
open PySem PySem.Spec PyProof.Rows L2
section
variable {K : PySem.W.Frag} {Θ : Ctx} {env : Env'} {h : Hs} {R : D → Hs → Prop}
end
end Kb

/-! x or y, any values. -/
namespace Kb
open PySem PySem.Spec PyProof.Rows L2
section
variable {K : PySem.W.Frag} {Θ : Ctx} {env : Env'} {h : Hs} {R : D → Hs → Prop}
end
end Kb

/-! sorted(range(..), key=lambda x: ..): the lambda's own context, the calls, the sorting. -/
namespace Kb
open PySem PySem.Spec PyProof.Rows L2 LamX
open PySem.W (dataLe KeyedOut AllAlike Sortable)
section
variable {X : Cx} {pins : List (Addr × Obj)} {σ : L2.St} {H HZ : Hp} {s s1 : Shared}
end
end Kb

/-! sorted(range(..), key=lambda x: ..): the sorting. -/
namespace Kb
open PySem PySem.Spec PyProof.Rows L2 LamX
open PySem.W (dataLe KeyedOut AllAlike Sortable)
section
variable {X : Cx} {pins : List (Addr × Obj)} {σ : L2.St} {H : Hp} {s : Shared}
end
end Kb

/-! sorted(range(n), key=lambda x: ..), the whole expression. -/
namespace Kb
open PySem PySem.Spec PyProof.Rows L2 LamX
open PySem.W (dataLe KeyedOut AllAlike Sortable)
section
variable {prog : Program} {w : World} {A : Around} {E : Value → Shared → Prop} {s : Shared}
end
section
variable {X : Cx}
end
end Kb

/-! sorted(range(n), key=lambda x: ..), in data. -/
namespace Kb
open PySem PySem.Spec PyProof.Rows L2 LamX
open PySem.W (AllAlike Sortable)
section
variable {K : PySem.W.Frag} {Θ : Ctx} {env : Env'} {h : Hs} {R : D → Hs → Prop}
end
end Kb

/-! Own dicts with tuple keys: setdefault; get with a default, asked for a tuple or for None. -/
namespace Kb
open PySem PySem.Spec PyProof.Rows L2
section
variable {X : Cx}
end
section
variable {K : PySem.W.Frag} {Θ : Ctx} {env : Env'} {h : Hs} {R : D → Hs → Prop}
end
end Kb

/-! Sorted by one number. -/
namespace Kb
open PySem PySem.Spec PyProof.Rows L2
open PySem.W (dataLe dataLt AllAlike Sortable)
/-- the positions by their numbers -/
def ordN (n : Nat) (x : Nat → Int) : List Nat := (List.range n).mergeSort (dataLe false fun r => .int (x r))
end Kb

/-! A walk over a list that is owned, or stays. -/
namespace Kb
open PySem PySem.Spec PyProof.Rows L2
section
variable {K : PySem.W.Frag} {Θ : Ctx} {env : Env'} {h : Hs}
end
end Kb

/-! What an expression gives stays from here on. -/
namespace Kb
open PySem PySem.Spec PyProof.Rows L2
section
variable {K : PySem.W.Frag} {Θ : Ctx} {env : Env'} {h : Hs} {R : D → Hs → Prop}
end
end Kb

/-! An expression whose leavings do not count. -/
namespace Kb
open PySem PySem.Spec PyProof.Rows L2
section
variable {K : PySem.W.Frag} {Θ : Ctx} {env : Env'} {h : Hs} {R : D → Hs → Prop}
end
end Kb

/-! Rows that stand there as own lists, with own parts and own public acts. -/
namespace Kb
open PySem PySem.Spec PyProof.Rows L2
section
variable {h : Hs} {o : Nat} {L : List RQ}
end
end Kb

/-! xs[::-1]: a new list, turned round. -/
namespace Kb
open PySem PySem.Spec PyProof.Rows L2
section
variable {X : Cx} {K : PySem.W.Frag} {e : Expr} {te : TE} {st : Expr} {ts : TO} {pos p2 : Pos}
end
section
variable {K : PySem.W.Frag} {Θ : Ctx} {te : TE} {ts : TO} {env : Env'} {h : Hs} {R : D → Hs → Prop}
end
end Kb

/-! Things that are owned, by name: where each stands, what it is. -/
namespace Kb
open PySem PySem.Spec PyProof.Rows L2
section
variable {τ : Type} [DecidableEq τ]
variable {h h' : Hs} {T : List τ} {ix : τ → Nat} {ct : τ → OO}
end
/-! dicts whose keys are spots -/
end Kb

/-! A method of a tuple of the program's top. -/
namespace Kb
open PySem PySem.Spec PyProof.Rows L2
/-- a tuple of the top that has no dict -/
def KTd (K : PySem.W.Frag) (c : Addr) : Prop := ∃ o, K.lookup c = some o ∧ o.cls = .type "tuple" ∧ o.dict = none
/-- a truth asked where K is named (in the block of a comprehension) -/
theorem pt_truthK {K : PySem.W.Frag} {X : Cx} (hK : X.K = K) {a : Expr} {ta : TE} (ha : PE X a ta) (he : ∀ whole, isTrue a X.env whole = (do let v ← whole; standAt a.pos; holding [v] (truthy v))) :
    PT X a (fun σ H Q => ta σ H fun x H' => ∃ k, TruV K x H' k ∧ Q k H') := by subst hK; exact pt_truth ha he
section
variable {K : PySem.W.Frag} {Θ : Ctx} {env : Env'} {h : Hs} {R : D → Hs → Prop}
theorem ve_bmK {r : V → List V → Hp → VK → Prop} {to : TE} {t : TA}
    (q : VE K Θ to env h fun x h1 => ∃ c, x = .p (.cls c) ∧ KTd K c ∧ VA K Θ t env h1 fun xs h2 => VM K Θ r x xs h2 R) : VE K Θ (tBM K "tuple" r to t) env h R := fun F ρ σ H Q rl e k =>
  q F ρ σ H _ rl e fun x h1 vx F1 ρ1 H1 s1 p1 r1 dx q1 => by
    obtain ⟨c, rfl, kt, q1⟩ := q1
    obtain rfl := dx.cls
    exact ⟨.inr (.inl ⟨rfl, kt⟩), q1 F1 ρ1 σ H1 _ r1 (e.mono s1 p1) fun xs h2 vs F2 ρ2 H2 s2 p2 r2 dxs q2 =>
      q2 F2 ρ2 H2 _ vs Q r2 (dx.mono s2 p2) dxs fun d h' v F' ρ' H' s3 p3 r3 dv q3 => k d h' v F' ρ' H' (s1.trans (s2.trans s3)) (p1.trans (p2.trans p3)) r3 dv q3⟩
end
/-- where a text stands in a list of texts -/
theorem idxOf_no {z : Str} : ∀ {ys : List Str}, z ∈ ys → ys[ys.idxOf z]? = some z ∧ ∀ m, m < ys.idxOf z → ys[m]? ≠ some z := by
  intro ys
  induction ys with
  | nil => intro h; cases h
  | cons y ys ih =>
    intro h
    by_cases e : y = z
    · subst e
      refine ⟨by simp, fun m hm => ?_⟩
      simp at hm
    · have hz : z ∈ ys := by
        rcases List.mem_cons.mp h with q | q
        · exact absurd q.symm e
        · exact q
      obtain ⟨h1, h2⟩ := ih hz
      have ei : (y :: ys).idxOf z = ys.idxOf z + 1 := by
        rw [List.idxOf_cons, show (y == z) = false from beq_eq_false_iff_ne.mpr e]; rfl
      rw [ei]
      refine ⟨by simpa using h1, fun m hm => ?_⟩
      cases m with
      | zero => intro q; exact e (Option.some.inj q)
      | succ m => intro q; exact h2 m (by omega) (by simpa using q)
end Kb

section
open PySem PySem.Spec PyProof.Rows L2 Kb
local macro_rules | `(tactic| k_clsL) => `(tactic| first | assumption | decide | omega)
local macro_rules | `(tactic| k_subL) => `(tactic| first
      | (with_reducible refine vg_name ?_)
      | (with_reducible refine v1_U ?_)
      | (with_reducible refine ite_nrefl ?_)
      | (with_reducible refine ite_refl ?_)
      | ((with_reducible refine ite_tt ?hc ?_); (case hc => first | decide | exact rfl))
      | ((with_reducible refine ite_ff ?hc ?_); (case hc => first | decide | exact rfl)))
local macro_rules | `(tactic| k_subL) => `(tactic| ((with_reducible show Exists _); first
      | ((with_reducible refine isi2_i (T := "tuple") ?hT ?hm ?hn ?_); (case hT => exact rfl); (case hm => decide); (case hn => decide))
      | ((with_reducible refine isi2_i (T := "list") ?hT ?hm ?hn ?_); (case hT => exact rfl); (case hm => decide); (case hn => decide))
      | ((with_reducible refine isi2_i (T := "int") ?hT ?hm ?hn ?_); (case hT => exact rfl); (case hm => decide); (case hn => decide))
      | ((with_reducible refine isi2_i (T := "bool") ?hT ?hm ?hn ?_); (case hT => exact rfl); (case hm => decide); (case hn => decide))
      | ((with_reducible refine isi2_i (T := "str") ?hT ?hm ?hn ?_); (case hT => exact rfl); (case hm => decide); (case hn => decide))
      | ((with_reducible refine isi2_i (T := "NoneType") ?hT ?hm ?hn ?_); (case hT => exact rfl); (case hm => decide); (case hn => decide))
      | (with_reducible refine bool_ans ?_)
      | (with_reducible refine tru_bl ?_)
      | ((with_reducible refine tup_j ?hl ?_); (case hl => exact rfl))))
local macro_rules | `(tactic| k_subL) => `(tactic| ((with_reducible show Kb.VC _ _ _ _ _ _); first
      | ((with_reducible refine vc_isi (T := "NoneType") ?hT ?hn ?_); (case hT => first | exact rfl | exact ⟨rfl, _, by first | assumption | simp⟩); (case hn => decide))
      | (with_reducible refine vc_lenL ?_)
      | (with_reducible refine vc_lenT ?_)))
local macro_rules | `(tactic| k_subL) => `(tactic| ((with_reducible show Kb.VC _ _ _ _ _ _); first
      | (with_reducible refine vc_intI ?_)
      | (with_reducible refine vc_intB ?_)
      | (with_reducible refine vc_abs ?_)
      | (with_reducible refine vc_min2 ?_)
      | (with_reducible refine vc_max2 ?_)
      | ((with_reducible refine vc_isi (T := "tuple") ?hT ?hn ?_); (case hT => first | exact rfl | exact ⟨rfl, _, by first | assumption | simp⟩); (case hn => decide))
      | ((with_reducible refine vc_isi (T := "list") ?hT ?hn ?_); (case hT => first | exact rfl | exact ⟨rfl, _, by first | assumption | simp⟩); (case hn => decide))
      | ((with_reducible refine vc_isi (T := "int") ?hT ?hn ?_); (case hT => first | exact rfl | exact ⟨rfl, _, by first | assumption | simp⟩); (case hn => decide))
      | ((with_reducible refine vc_isi (T := "bool") ?hT ?hn ?_); (case hT => first | exact rfl | exact ⟨rfl, _, by first | assumption | simp⟩); (case hn => decide))
      | ((with_reducible refine vc_isi (T := "str") ?hT ?hn ?_); (case hT => first | exact rfl | exact ⟨rfl, _, by first | assumption | simp⟩); (case hn => decide))))
local macro_rules | `(tactic| k_subL) => `(tactic| ((with_reducible show Kb.V2 _ _ _ _ _ _ _); first
      | (with_reducible refine v2_ltS ?_)
      | ((with_reducible refine v2_divW ?hm ?_); case hm => (constructor <;> k_clsL))
      | ((with_reducible refine v2_mulU ?hm ?_); case hm => first | exact cmul_small (by k_clsL) (by k_clsL) | exact cmul_wide (by k_clsL) (by k_clsL))
      | ((with_reducible refine v2_mod ?hm ?_); case hm => k_clsL)
      | ((with_reducible refine v2_div ?hm ?_); case hm => (constructor <;> k_clsL))
      | ((with_reducible refine v2_mul ?hm ?_); case hm => first | exact cmul_small (by k_clsL) (by k_clsL) | exact cmul_wide (by k_clsL) (by k_clsL))))
local macro_rules | `(tactic| k_subL) => `(tactic| ((with_reducible show Kb.V2 _ _ _ _ _ _ _); first
      | (with_reducible refine v2_neS ?_)
      | (with_reducible refine v2_neB ?_)
      | (with_reducible refine v2_isN ?_)
      | (with_reducible refine v2_notN ?_)
      | (with_reducible refine v2_isNU ?_)
      | ((with_reducible refine v2_isBl ?hx ?_); (case hx => exact rfl))
      | (with_reducible refine v2_addVI ?_)
      | (with_reducible refine v2_addWI ?_)
      | (with_reducible refine v2_ltI ?_)
      | (with_reducible refine v2_ltB ?_)))
local macro_rules | `(tactic| k_subL) => `(tactic| ((with_reducible show Kb.V2 _ _ _ _ _ _ _); first
      | (with_reducible refine v2_addI ?_)
      | (with_reducible refine v2_sub ?_)
      | (with_reducible refine v2_lt ?_)
      | (with_reducible refine v2_le ?_)
      | (with_reducible refine v2_gt ?_)
      | (with_reducible refine v2_ge ?_)
      | (with_reducible refine v2_eqI ?_)
      | (with_reducible refine v2_eqS ?_)
      | (with_reducible refine v2_eqB ?_)
      | (with_reducible refine v2_neI ?_)))
local macro_rules | `(tactic| k_subL) => `(tactic| ((with_reducible show Kb.VT _ _ _ _ _ _); first
      | (with_reducible refine vt_test ?_)
      | (with_reducible refine vt_B ?_)
      | (with_reducible refine vt_and ?_)
      | (with_reducible refine vt_or ?_)
      | (with_reducible refine vt_not ?_)
      | (with_reducible refine vt_truth ?_)))
local macro_rules | `(tactic| k_subL) => `(tactic| ((with_reducible show Kb.VA _ _ _ _ _ _); first
      | (with_reducible refine va_cons ?_)
      | (with_reducible refine va_nil ?_)))
local macro_rules | `(tactic| k_subL) => `(tactic| ((with_reducible show Kb.VS _ _ _ _ _ _); first
      | (with_reducible refine vs_seq ?_)
      | (with_reducible refine vs_asg ?_)
      | (with_reducible refine vs_ret ?_)
      | (with_reducible refine vs_if ?_)
      | (with_reducible refine vs_next ?_)
      | (with_reducible refine vs_drop ?_)))
local macro_rules | `(tactic| k_subL) => `(tactic| ((with_reducible show Kb.VE _ _ _ _ _ _); first
      | (with_reducible refine ve_and ?_)
      | (with_reducible refine ve_or ?_)
      | (with_reducible refine ve_not ?_)
      | (with_reducible refine ve_chain ?_)
      | (with_reducible refine ve_un ?_)
      | (with_reducible refine ve_if ?_)
      | (with_reducible refine ve_tup ?_)))
local macro_rules | `(tactic| k_subL) => `(tactic| ((with_reducible show Kb.VE _ _ _ _ _ _); first
      | (with_reducible refine ve_op ?_)
      | (with_reducible refine ve_isi2 ?_)
      | (with_reducible refine ve_cb ?_)
      | (with_reducible refine ve_call ?_)
      | (with_reducible refine ve_int ?_)
      | (with_reducible refine ve_str ?_)
      | (with_reducible refine ve_bl ?_)
      | (with_reducible refine ve_non ?_)
      | (with_reducible refine ve_ty ?_)
      | (refine ve_var (by exact rfl) ?_)))
local macro_rules | `(tactic| k_places) => `(tactic| repeat k_subL)
local macro_rules | `(tactic| k_offL) => `(tactic| repeat ((fail_if_success (with_reducible refine vs_seq ?_)); k_subL))
namespace Law
open PySem PySem.Spec PyProof.Rows L2 Kb
def topS (i : Nat) : Stmt := PySem.Challenge.pw_kithbase_k66_bytes_of_codes.main.body.getD i (.Pass ⟨0, 0, 0, 0⟩)
-- the steps that are tried: k_clsL a side condition; k_subL one step; k_places steps as long as one fits
section
variable {Pg : Program} {w : World} {K : PySem.W.Frag} {Θ : Tbs} {mg : Str → Option Value} {base : Heap}
abbrev st_draw : Stmt := (topS 42)
theorem sc_draw : FnScope ["script", "k", "cell", "turn", "step"] ["script", "k"] (defScope st_draw) := ⟨rfl, rfl, rfl, by decide +kernel, rfl, by decide +kernel, by decide +kernel⟩
/-- a script -/
structure Scr (ns : List Int) : Prop where
  len : ns.length ≤ 63
  wide : ∀ n ∈ ns, n.natAbs.log2 < 2000000
def W_draw : Spc := fun ds h R => ∃ (ns : List Int) (k : Int), ds = [dL (ns.map P.int), dI k] ∧ Scr ns ∧ 0 ≤ k ∧ k < 1000000 ∧ ∀ v : Int, 0 ≤ v → v < 2147483648 → R (dI v) h
theorem ok_draw (A : DefAt K mg "_law_draw" st_draw ["script", "k"]) (m_int : mg "int" = none) (m_len : mg "len" = none) (m_range : mg "range" = none) (m_min : mg "min" = none) : HasF Pg w K mg base CX0 1 "_law_draw" ["script", "k"] (spD K Θ W_draw) := by
  have sc := sc_draw
  refine A.okD sc W_draw (fun ds h R ⟨_, _, e, _⟩ => by rw [e]; rfl) fun f cdv A outer s H E hr => ?_
  refine ⟨_, (pss_cons (ps_if (pt_not (pt_truth (pv 0) (by intro _; rfl))) (pss_one (ps_ret (pe_op op_mod (pe_op op_mulU (pv 1) pe_int) pe_int))) pss_nil)
  (pss_cons (ps_set (i := 2) sc.nd rfl (.inl rfl) (pe_callTy call_intU (by rfl) m_int (by decide +kernel) (pa_cons (pe_ix (ix_seqK (K := K) (by rfl)) (pv 0) (pe_op op_mod (pv 1) (pe_callB (call_lenK (K := K) (by rfl)) (by rfl) m_len (by decide +kernel) (pa_cons (pv 0) pa_nil))) (fun _ _ => rfl)) pa_nil)))
  (pss_cons (ps_set (i := 3) sc.nd rfl (.inl rfl) (pe_op op_fdivW (pv 1) (pe_callB (call_lenK (K := K) (by rfl)) (by rfl) m_len (by decide +kernel) (pa_cons (pv 0) pa_nil))))
  (pss_cons (ps_if (pt_cmpR op_ge (pv 2) pe_int (nomark _)) (pss_cons (ps_for PassesOwn.never rfl (pi_range1 rfl m_range (pa_cons (pe_callB (call_min2 rfl) (by rfl) m_min (by decide +kernel) (pa_cons (pv 3) (pa_cons pe_int pa_nil))) pa_nil)) (pg_name (i := 4) sc.nd rfl (.inl rfl))
  (pss_one (ps_set (i := 2) sc.nd rfl (.inl rfl) (pe_op op_fdivW (pv 2) pe_int))))
  (pss_one (ps_ret (pe_op op_mod (pv 2) pe_int)))) pss_nil)
  (pss_one (ps_ret (pe_op op_mod (pe_op op_mulU (pe_op op_mod (pe_op (op_addWK (K := K) (by rfl)) (pe_op (op_addWK (K := K) (by rfl)) (pe_op op_mulU (pv 2) pe_int) (pe_op op_mulU (pv 1) pe_int)) pe_int) pe_int) pe_int) pe_int))))))), ?_⟩
  try dsimp only [cxOf]
  rintro ds h R ⟨ns, k, rfl, ⟨hlen, hw⟩, k0, k1, q⟩
  refine vs_seq ?_
  k_places
  refine ⟨!(ns.map P.int).isEmpty, rfl, ?_⟩
  refine ite_nb (fun e0 => ?_) (fun e0 => ?_)
  · k_places
    exact q _ (by omega) (by omega)
  have l0 : 0 < ns.length := by
    cases ns with
    | nil => cases e0
    | cons a b => exact Nat.succ_pos _
  k_places
  rw [List.length_map]
  refine v2_mod (by omega) ?_
  have m1 := Int.emod_nonneg k (show (ns.length : Int) ≠ 0 by omega)
  have m2 := Int.emod_lt_of_pos k (show (0 : Int) < ns.length by omega)
  have hj : (k % (ns.length : Int)).toNat < ns.length := by omega
  have hget : (ns.map P.int)[(k % (ns.length : Int)).toNat]? = some (.int ns[(k % (ns.length : Int)).toNat]) := by rw [List.getElem?_map, List.getElem?_eq_getElem hj]; rfl
  refine v2_ixL (at_nat (k % (ns.length : Int)).toNat (by omega) hget) ?_
  have hz := hw _ (List.getElem_mem hj)
  generalize ns[(k % (ns.length : Int)).toNat] = z at hz
  k_places
  rw [List.length_map]
  refine v2_divW ⟨by omega, Nat.lt_trans (log2_small (n := (ns.length : Int).natAbs) (by omega)) (by decide)⟩ ?_
  have d1 : 0 ≤ k / (ns.length : Int) := Int.ediv_nonneg k0 (by omega)
  have d2 : k / (ns.length : Int) ≤ k := Int.ediv_le_self _ k0
  k_places
  refine ite_dec (fun _ => ?_) (fun _ => ?_)
  · refine vs_seq ?_
    refine vs_for (vi_range1 ?_)
    k_places
    refine ⟨_, rfl, by split <;> omega, by split <;> omega, ?_⟩
    refine ⟨fun i env' h' => ∃ (c : Int) (o4 : Option D), env' = [some (dL (ns.map P.int)), some (dI k), some (dI c), some (dI (k / (ns.length : Int))), o4] ∧ h' = h, ?_, ?_, ?_, ?_⟩
    · exact ⟨z, none, rfl, rfl⟩
    · exact fun _ _ _ _ => trivial
    · rintro i d env' h' hd ⟨c, o4, rfl, rfl⟩
      obtain ⟨hi, rfl⟩ := rng_get hd
      k_places
      exact ⟨_, _, rfl, rfl⟩
    · rintro env' h' ⟨c, o4, rfl, rfl⟩
      k_places
      exact q _ (by omega) (by omega)
  · k_places
    exact q _ (by omega) (by omega)
end
end Law

namespace Law
open PySem PySem.Spec PyProof.Rows L2 Kb
-- the steps that are tried: k_clsL a side condition; k_subL one step; k_places steps as long as one fits
abbrev intsO (zs : List Int) : Option OO := some (.lst (zs.map dI))
abbrev intsP (zs : List Int) : List P := zs.map P.int
theorem map_dI (ms : List Int) : (ms.map P.int).map D.p = ms.map dI := by rw [List.map_map]; rfl
theorem last1 {h : Hs} {a : Option OO} : (h ++ [a])[h.length]? = some a := by simp
theorem last1s {h : Hs} {a x : Option OO} : (h ++ [a]).set h.length x = h ++ [x] := by
  rw [List.set_append_right _ _ (Nat.le_refl _), Nat.sub_self]; rfl
section
variable {Pg : Program} {w : World} {K : PySem.W.Frag} {Θ : Tbs} {mg : Str → Option Value} {base : Heap}
abbrev st_wnum : Stmt := (topS 4)
theorem sc_wnum : FnScope ["number", "data"] ["number"] (defScope st_wnum) := ⟨rfl, rfl, rfl, by decide +kernel, rfl, by decide +kernel, by decide +kernel⟩
def W_wnum : Spc := fun ds h R => ∃ n : Nat, ds = [dI n] ∧ (wnum n).length ≤ 100000 ∧ R (dL (intsP (wnum n))) h
/-- the list is the caller's own -/
def W_wnumO : Spc := fun ds h R => ∃ n : Nat, ds = [dI n] ∧ (wnum n).length ≤ 100000 ∧ ∀ (junk : Hs) (m : Nat), h.length ≤ m → (h ++ junk)[m]? = some (intsO (wnum n)) → R (.own m) (h ++ junk)
theorem ok_wnumO (A : DefAt K mg "write_number" st_wnum ["number"]) : HasF Pg w K mg base CX0 1 "write_number" ["number"] (spD K Θ W_wnumO) := by
  have sc := sc_wnum
  refine A.okD sc W_wnumO (fun ds h R ⟨_, e, _⟩ => by rw [e]; rfl) fun f cdv A outer s H E hr => ?_
  refine ⟨_, (pss_cons (ps_set (i := 1) sc.nd rfl (.inl rfl) (pe_lst pa_nil))
  (pss_cons (ps_while PassesOwn.never (pt_cmpR op_ge (pv 0) pe_int (nomark _))
  (pss_cons (ps_expr (pe_bm PySem.F.plainAttrs_list PySem.F.slot_list_append PySem.F.type_list_append mt_append (pv 1) (pa_cons (pe_op (op_addWK (K := K) (by rfl)) (pe_op op_mod (pv 0) pe_int) pe_int) pa_nil)))
  (pss_one (ps_set (i := 0) sc.nd rfl (.inl rfl) (pe_op op_fdivW (pv 0) pe_int)))))
  (pss_one (ps_ret (pe_op (op_addWK (K := K) (by rfl)) (pv 1) (pe_lst (pa_cons (pv 0) pa_nil))))))), ?_⟩
  try dsimp only [cxOf]
  rintro ds h R ⟨n, rfl, hl, q⟩
  have sz := sizeLine_eq
  refine vs_seq ?_
  refine vs_asg ?_
  refine ve_lstO ?_
  refine va_nil ?_
  refine ⟨sz_le (by decide), ?_⟩
  refine vg_name ?_
  refine vs_cut (fun env' h' => ∃ (m : Nat) (acc : List Int), env' = [some (dI m), some (.own h.length)] ∧ h' = h ++ [intsO acc] ∧ acc ++ wnum m = wnum n ∧ m < 128) ?_ ?_
  · refine vs_while (fun env' h' => ∃ (m : Nat) (acc : List Int), env' = [some (dI m), some (.own h.length)] ∧ h' = h ++ [intsO acc] ∧ acc ++ wnum m = wnum n) (fun env' _ => match env' with | some (.p (.int m)) :: _ => m.toNat | _ => 0) ⟨n, [], rfl, rfl, rfl⟩ ?_
    rintro env' h' ⟨m, acc, rfl, rfl, e⟩
    k_places
    refine ite_dec (fun c => ?_) (fun c => ?_)
    · have ec := wnum_great (n := m) (by omega)
      have la : acc.length + (wnum m).length = (wnum n).length := by rw [← e, List.length_append]
      k_subL; k_subL
      refine ve_bm ?_
      k_places
      refine ⟨⟨rfl, _, last1⟩, ?_⟩
      k_places
      refine vm_append last1 (by rw [List.length_map]; omega) ?_
      rw [last1s]
      k_places
      refine ⟨⟨m / 128, acc ++ [((m % 128 + 128 : Nat) : Int)], ?_, ?_, ?_⟩, ?_⟩
      · rfl
      · simp [intsO]
      · rw [← e, ec, List.append_assoc]; rfl
      · show ((m : Int) / 128).toNat < ((m : Int)).toNat
        omega
    · exact ⟨m, acc, rfl, rfl, e, by omega⟩
  rintro env' h' ⟨m, acc, rfl, rfl, e, hm⟩
  have em := wnum_small hm
  k_subL
  refine ve_op ?_
  k_places
  refine ve_lst ?_
  k_places
  refine v2_addWMO (i := intsP acc) (j := [.int m]) (by show (h ++ [intsO acc])[h.length]? = _; rw [map_dI]; exact last1) rfl ?_ ?_
  · have la : acc.length + (wnum m).length = (wnum n).length := by rw [← e, List.length_append]
    rw [em] at la
    rw [List.length_map]
    show acc.length + 1 ≤ sizeLine
    simp at la
    omega
  · rw [em] at e
    have e2 : intsP acc ++ [.int m] = intsP (wnum n) := by rw [← e]; simp
    rw [e2, map_dI, List.append_assoc]
    refine q _ _ (by rw [List.length_append]; omega) ?_
    rw [← List.append_assoc]
    exact last1
theorem ok_wnum (A : DefAt K mg "write_number" st_wnum ["number"]) : HasF Pg w K mg base CX0 1 "write_number" ["number"] (spD K Θ W_wnum) :=
  (ok_wnumO A).fin fun ds h R ⟨n, e, a, q⟩ => ⟨n, e, a, fun junk m hm hx => ⟨junk, rfl, .inr (.inl ⟨m, intsP (wnum n), rfl, hm, by rw [map_dI]; exact hx, q⟩)⟩⟩
end
end Law

namespace Law
open PySem PySem.Spec PyProof.Rows L2 Kb
-- the steps that are tried: k_clsL a side condition; k_subL one step; k_places steps as long as one fits
/-- lists and tuples made tuples -/
def frzP : P → P
  | .lst xs => .tup (frzL xs)
  | .tup xs => .tup (frzL xs)
  | x => x
where frzL : List P → List P
  | [] => []
  | x :: xs => frzP x :: frzL xs
theorem frzL_map : ∀ xs : List P, frzP.frzL xs = xs.map frzP
  | [] => rfl
  | x :: xs => by unfold frzP.frzL; rw [frzL_map xs]; rfl
/-- plain data of that depth -/
inductive Deep : Nat → P → Prop
  | non {n : Nat} : Deep n .non
  | bl {n : Nat} {b : Bool} : Deep n (.bl b)
  | int {n : Nat} {i : Int} : Deep n (.int i)
  | str {n : Nat} {s : Str} : Deep n (.str s)
  | tup {n : Nat} {xs : List P} : xs.length < 1000000 → (∀ x ∈ xs, Deep n x) → Deep (n + 1) (.tup xs)
  | lst {n : Nat} {xs : List P} : xs.length < 1000000 → (∀ x ∈ xs, Deep n x) → Deep (n + 1) (.lst xs)
section
variable {Pg : Program} {w : World} {K : PySem.W.Frag} {Θ : Tbs} {mg : Str → Option Value} {base : Heap}
abbrev st_frz : Stmt := (topS 32)
theorem sc_frz : FnScope ["value", "item"] ["value"] (defScope st_frz) := ⟨rfl, rfl, rfl, by decide +kernel, rfl, by decide +kernel, by decide +kernel⟩
def W_frz : Nat → Spc
  | 0 => fun _ _ _ => False
  | n + 1 => fun ds h R => ∃ v : P, ds = [.p v] ∧ Deep n v ∧ R (.p (frzP v)) h
theorem ok_frz (A : DefAt K mg "frozen" st_frz ["value"]) (m_list : mg "list" = none) (m_tuple : mg "tuple" = none) (m_isinstance : mg "isinstance" = none) :
    ∀ n : Nat, HasF Pg w K mg base CX0 (n + 1) "frozen" ["value"] (spD K Θ (W_frz n))
  | 0 => .never A sc_frz fun _ _ _ h => h
  | n + 1 => by
    have sc := sc_frz
    have sz := sizeLine_eq
    have h_frozen := ok_frz A m_list m_tuple m_isinstance n
    refine A.okD sc (W_frz (n + 1)) (fun ds h R ⟨v, e, _⟩ => by rw [e]; rfl) fun f cdv A outer s H E hr => ?_
    refine ⟨_, (pss_cons (ps_if (pt_val (pe_callB (call_isiUK (K := K) (by rfl)) (by rfl) m_isinstance (by decide +kernel) (pa_cons (pv 0) (pa_cons (pe_tup (pa_cons (pe_bltn (v := .ty "list") rfl m_list (by decide +kernel) rfl) (pa_cons (pe_bltn (v := .ty "tuple") rfl m_tuple (by decide +kernel) rfl) pa_nil))) pa_nil)))) (pss_one (ps_ret (pe_callTy (call_tuple_ofK (K := K) (by rfl)) (by rfl) m_tuple (by decide +kernel) (pa_cons (pe_lc (own := [("item", 1)]) rfl sc.nd (pi_seqK (K := K) (by rfl) (pv 0)) (blkOk_by (N := ["value", "item"]) (sc := defScope (topS 32)) (by decide +kernel)) (fun _ _ _ _ _ => (pg_name (i := 1) sc.nd rfl (.inl rfl))) (fun _ _ _ _ _ => pts_nil) (fun _ _ _ _ _ => (h_frozen.call (hr.mono (by first | decide | omega)) rfl pass0 (pa_cons (pv 1) pa_nil)))) pa_nil)))) pss_nil)
  (pss_one (ps_ret (pv 0)))), ?_⟩
    try dsimp only [cxOf]
    rintro ds h R ⟨v, rfl, hv, q⟩
    cases hv with
    | non => k_places; exact q
    | bl => k_places; exact q
    | int => k_places; exact q
    | str => k_places; exact q
    | tup hl hx =>
      rename_i n xs
      have eq : R (.p (.tup (xs.map frzP))) h := by rw [← frzL_map]; exact q
      k_places
      refine ve_lcMap tg_name ?_
      refine vi_seqT ?_
      k_places
      refine ⟨xs, rfl, xs.map frzP, by simp, by simp; omega, fun _ => trivial, ?_, ?_⟩
      · intro i d y acc hd hy
        rw [List.getElem?_map] at hd hy
        cases e : xs[i]? with
        | none => rw [e] at hd; cases hd
        | some x =>
          rw [e] at hd hy
          cases hd; cases hy
          refine vg_name ⟨rfl, ?_⟩
          k_places
          exact ⟨x, rfl, hx x (List.mem_of_getElem? e), rfl, rfl⟩
      · k_places
        refine vc_tuple rfl ?_
        exact eq
    | lst hl hx =>
      rename_i n xs
      have eq : R (.p (.tup (xs.map frzP))) h := by rw [← frzL_map]; exact q
      k_places
      refine ve_lcMap tg_name ?_
      refine vi_seqL ?_
      k_places
      refine ⟨xs, rfl, xs.map frzP, by simp, by simp; omega, fun _ => trivial, ?_, ?_⟩
      · intro i d y acc hd hy
        rw [List.getElem?_map] at hd hy
        cases e : xs[i]? with
        | none => rw [e] at hd; cases hd
        | some x =>
          rw [e] at hd hy
          cases hd; cases hy
          refine vg_name ⟨rfl, ?_⟩
          k_places
          exact ⟨x, rfl, hx x (List.mem_of_getElem? e), rfl, rfl⟩
      · k_places
        refine vc_tuple rfl ?_
        exact eq
end
end Law

namespace Law
open PySem PySem.Spec PyProof.Rows L2 Kb
-- the steps that are tried: k_clsL a side condition; k_subL one step; k_places steps as long as one fits
structure KptC (K : PySem.W.Frag) (mg : Str → Option Value) (C : Addr) : Prop where
  cl : Cls K C
  n1 : NoAttr K C "acts"
  n2 : NoAttr K C "sums"
  n3 : NoAttr K C "texts"
  mgC : mg "Kept" = some (.ref C)
structure StoC (K : PySem.W.Frag) (mg : Str → Option Value) (C : Addr) : Prop where
  cl : Cls K C
  n1 : NoAttr K C "members"
  n2 : NoAttr K C "cut"
  n3 : NoAttr K C "capabilities"
  n4 : NoAttr K C "kept"
  n5 : NoAttr K C "changes"
  mgC : mg "Store" = some (.ref C)
def keptF (a s t : List P) : List (Str × P) := [("acts", .lst a), ("sums", .lst s), ("texts", .lst t)]
def storeF (m : Int) (i1 i2 i3 i4 : Nat) : List (Str × D) := [("members", dI m), ("cut", .own i1), ("capabilities", .own i2), ("kept", .own i3), ("changes", .own i4)]
theorem put_k1 {x : D} : putD "acts" x [] = [(("acts" : Str), x)] := by kernel_rfl
theorem put_k2 {a x : D} : putD "sums" x [(("acts" : Str), a)] = [(("acts" : Str), a), (("sums" : Str), x)] := by kernel_rfl
theorem put_k3 {a b x : D} : putD "texts" x [(("acts" : Str), a), (("sums" : Str), b)] = [(("acts" : Str), a), (("sums" : Str), b), (("texts" : Str), x)] := by kernel_rfl
theorem put_s1 {x : D} : putD "members" x [] = [(("members" : Str), x)] := by kernel_rfl
theorem put_s2 {a x : D} : putD "cut" x [(("members" : Str), a)] = [(("members" : Str), a), (("cut" : Str), x)] := by kernel_rfl
theorem put_s3 {a b x : D} : putD "capabilities" x [(("members" : Str), a), (("cut" : Str), b)] = [(("members" : Str), a), (("cut" : Str), b), (("capabilities" : Str), x)] := by kernel_rfl
theorem put_s4 {a b c x : D} : putD "kept" x [(("members" : Str), a), (("cut" : Str), b), (("capabilities" : Str), c)] = [(("members" : Str), a), (("cut" : Str), b), (("capabilities" : Str), c), (("kept" : Str), x)] := by kernel_rfl
theorem put_s5 {a b c d x : D} : putD "changes" x [(("members" : Str), a), (("cut" : Str), b), (("capabilities" : Str), c), (("kept" : Str), d)] = [(("members" : Str), a), (("cut" : Str), b), (("capabilities" : Str), c), (("kept" : Str), d), (("changes" : Str), x)] := by kernel_rfl
/-- a store: its members, what is cut away, the kept capabilities, what is kept of each space, each member's changes -/
structure StoreAt (C : Addr) (h : Hs) (n : Nat) (m : Int) (cut : List Int) (caps kept : List P) (chs : List (List P)) (I : List Nat) : Prop where
  ex : ∃ (i1 i2 i3 i4 : Nat) (js : List Nat), I = i1 :: i2 :: i3 :: i4 :: js ∧ h[n]? = some (some (.ins C (storeF m i1 i2 i3 i4))) ∧ h[i1]? = some (some (.lst (cut.map dI))) ∧ h[i2]? = some (some (.lst (caps.map D.p))) ∧ h[i3]? = some (some (.lst (kept.map D.p))) ∧
    h[i4]? = some (some (.lst (js.map D.own))) ∧ js.length = chs.length ∧ (∀ (k : Nat) (j : Nat) (cs : List P), js[k]? = some j → chs[k]? = some cs → h[j]? = some (some (.lst (cs.map D.p)))) ∧ (n :: i1 :: i2 :: i3 :: i4 :: js).Nodup
section
variable {Pg : Program} {w : World} {K : PySem.W.Frag} {Θ : Tbs} {mg : Str → Option Value} {base : Heap} {C CS CK : Addr}
abbrev st_kinit : Stmt := (inClass (topS 35) 0)
theorem sc_kinit : FnScope ["self", "acts", "sums", "texts", "pair", "cell", "characters"] ["self", "acts", "sums", "texts"] (defScope st_kinit) := ⟨rfl, rfl, rfl, by decide +kernel, rfl, by decide +kernel, by decide +kernel⟩
theorem deep_up (k : Nat) : ∀ {n : Nat} {x : P}, Deep n x → Deep (n + k) x
  | _, _, .non => .non
  | _, _, .bl => .bl
  | _, _, .int => .int
  | _, _, .str => .str
  | n + 1, _, .tup h1 h2 => by rw [Nat.add_right_comm]; exact .tup h1 fun x hx => deep_up k (h2 x hx)
  | n + 1, _, .lst h1 h2 => by rw [Nat.add_right_comm]; exact .lst h1 fun x hx => deep_up k (h2 x hx)
theorem frz_tup (xs : List P) : frzP (.tup xs) = .tup (xs.map frzP) := by show P.tup (frzP.frzL xs) = _; rw [frzL_map]
theorem frz_lst (xs : List P) : frzP (.lst xs) = .tup (xs.map frzP) := by show P.tup (frzP.frzL xs) = _; rw [frzL_map]
/-- what is kept -/
abbrev TxE := P × List P
def txtP (t : TxE) : P := .tup [t.1, .lst t.2]
def txtF (t : TxE) : P := .tup [frzP t.1, .lst (t.2.map frzP)]
structure KeptOk (as ss : List P) (ts : List TxE) : Prop where
  la : as.length < 1000000
  ls : ss.length < 1000000
  lt : ts.length < 1000000
  a : ∀ x ∈ as, Deep 5 x
  s : ∀ x ∈ ss, Deep 5 x
  t : ∀ x ∈ ts, Deep 4 x.1 ∧ x.2.length < 1000000 ∧ ∀ y ∈ x.2, Deep 3 y
  fa : ∀ x ∈ as, Flat 6 (frzP x)
  fs : ∀ x ∈ ss, Flat 6 (frzP x)
  ft : ∀ x ∈ ts, Flat 5 (frzP x.1) ∧ ∀ y ∈ x.2, Flat 4 (frzP y)
def W_kinit (C : Addr) : Spc := fun ds h R => ∃ (n : Nat) (as ss : List P) (ts : List TxE), ds = [.own n, dL as, dL ss, dL (ts.map txtP)] ∧ KeptOk as ss ts ∧ h[n]? = some (some (.ins C [])) ∧ R dN (h.set n (some (.ins C ((keptF (as.map frzP) (ss.map frzP) (ts.map txtF)).map fun q => (q.1, D.p q.2)))))
theorem ok_kinit (A : InitAt K C "Kept.__init__" st_kinit ["self", "acts", "sums", "texts"]) (T : KptC K mg C) (h_frozen : HasF Pg w K mg base CX0 9 "frozen" ["value"] (spD K Θ (W_frz 8))) : HasMk Pg w K mg base CX0 10 "Kept" C ["self", "acts", "sums", "texts"] (spD K Θ (W_kinit C)) := by
  have sc := sc_kinit
  refine A.okD T.mgC sc (W_kinit C) (fun ds h R ⟨_, _, _, _, e, _⟩ => by rw [e]; rfl) fun f cdv A outer s H E hr => ?_
  refine ⟨_, (pss_cons (ps_fld (pv 0) (pe_lc (own := [("pair", 4)]) rfl sc.nd (pi_seqK (K := K) (by rfl) (pv 1)) (blkOk_by (N := ["self", "acts", "sums", "texts", "pair", "cell", "characters"]) (sc := defScope (inClass (topS 35) 0)) (by decide +kernel)) (fun _ _ _ _ _ => (pg_name (i := 4) sc.nd rfl (.inl rfl))) (fun _ _ _ _ _ => pts_nil) (fun _ _ _ _ _ => (h_frozen.call (hr.mono (by first | decide | omega)) rfl pass0 (pa_cons (pv 4) pa_nil)))) rfl)
  (pss_cons (ps_fld (pv 0) (pe_lc (own := [("pair", 4)]) rfl sc.nd (pi_seqK (K := K) (by rfl) (pv 2)) (blkOk_by (N := ["self", "acts", "sums", "texts", "pair", "cell", "characters"]) (sc := defScope (inClass (topS 35) 0)) (by decide +kernel)) (fun _ _ _ _ _ => (pg_name (i := 4) sc.nd rfl (.inl rfl))) (fun _ _ _ _ _ => pts_nil) (fun _ _ _ _ _ => (h_frozen.call (hr.mono (by first | decide | omega)) rfl pass0 (pa_cons (pv 4) pa_nil)))) rfl)
  (pss_one (ps_fld (pv 0) (pe_lc (own := [("cell", 5), ("characters", 6)]) rfl sc.nd (pi_seqK (K := K) (by rfl) (pv 3)) (blkOk_by (N := ["self", "acts", "sums", "texts", "pair", "cell", "characters"]) (sc := defScope (inClass (topS 35) 0)) (by decide +kernel)) (fun _ _ _ _ _ => (pg_tupK (K := K) (n := 2) (by rfl) rfl (pgs_cons (pg_name (i := 5) sc.nd rfl (.inl rfl)) (pgs_cons (pg_name (i := 6) sc.nd rfl (.inl rfl)) pgs_nil)))) (fun _ _ _ _ _ => pts_nil) (fun _ _ _ _ _ => (pe_tup (pa_cons (h_frozen.call (hr.mono (by first | decide | omega)) rfl pass0 (pa_cons (pv 5) pa_nil)) (pa_cons (pe_lc (own := [("pair", 4)]) rfl sc.nd (pi_seqK (K := K) (by rfl) (pv 6)) (blkOk_by (N := ["self", "acts", "sums", "texts", "pair", "cell", "characters"]) (sc := { kind := .function, names := [(PySem.Str.ofString ".0", .local), (PySem.Str.ofString "cell", .local), (PySem.Str.ofString "characters", .local), (PySem.Str.ofString "frozen", .globalImplicit)], isGenerator := false, isCoroutine := false }) (by decide +kernel)) (fun _ _ _ _ _ => (pg_name (i := 4) sc.nd rfl (.inl rfl))) (fun _ _ _ _ _ => pts_nil) (fun _ _ _ _ _ => (h_frozen.call (hr.mono (by first | decide | omega)) rfl pass0 (pa_cons (pv 4) pa_nil)))) pa_nil))))) rfl)))), ?_⟩
  try dsimp only [cxOf]
  rintro ds h R ⟨n, as, ss, ts, rfl, ok, hn, q⟩
  have il : n < h.length := (List.getElem?_eq_some_iff.mp hn).1
  have sz := sizeLine_eq
  have la := ok.la
  have ls := ok.ls
  have lt := ok.lt
  refine vs_seq ?_
  refine vs_fld ?_
  refine ve_lcMap tg_name ?_
  refine vi_seqL ?_
  k_places
  refine ⟨as, rfl, as.map frzP, by simp, by simp; omega, fun _ => trivial, fun i d y acc hd hy => ?_, ?_⟩
  · rw [List.getElem?_map] at hd hy
    cases e : as[i]? with
    | none => rw [e] at hd; cases hd
    | some x =>
      rw [e] at hd hy
      cases hd; cases hy
      refine vg_name ⟨rfl, ?_⟩
      k_places
      exact ⟨x, rfl, deep_up 2 (ok.a x (List.mem_of_getElem? e)), rfl, rfl⟩
  k_places
  refine ⟨n, C, [], rfl, hn, T.cl, T.n1, by decide, ?_⟩
  rw [put_k1]
  refine vs_seq ?_
  refine vs_fld ?_
  refine ve_lcMap tg_name ?_
  refine vi_seqL ?_
  k_places
  refine ⟨ss, rfl, ss.map frzP, by simp, by simp; omega, fun _ => trivial, fun i d y acc hd hy => ?_, ?_⟩
  · rw [List.getElem?_map] at hd hy
    cases e : ss[i]? with
    | none => rw [e] at hd; cases hd
    | some x =>
      rw [e] at hd hy
      cases hd; cases hy
      refine vg_name ⟨rfl, ?_⟩
      k_places
      exact ⟨x, rfl, deep_up 2 (ok.s x (List.mem_of_getElem? e)), rfl, rfl⟩
  k_places
  refine ⟨n, C, _, rfl, List.getElem?_set_self il, T.cl, T.n2, (by show 1 < 1000; decide), ?_⟩
  rw [put_k2, List.set_set]
  refine vs_fld ?_
  refine ve_lcMap tg_tup2 ?_
  refine vi_seqL ?_
  k_places
  refine ⟨ts.map txtP, rfl, ts.map txtF, by simp, by simp; omega, fun _ => trivial, fun i d y acc hd hy => ?_, ?_⟩
  · rw [List.getElem?_map, List.getElem?_map] at hd
    rw [List.getElem?_map] at hy
    cases e : ts[i]? with
    | none => rw [e] at hd; cases hd
    | some x =>
      rw [e] at hd hy
      cases hd; cases hy
      obtain ⟨t1, t2, t3⟩ := ok.t x (List.mem_of_getElem? e)
      obtain ⟨x1, x2⟩ := x
      have t2 : x2.length < 1000000 := t2
      refine vg_tup rfl (vgs_cons (vg_name (vgs_cons (vg_name (vgs_nil ⟨rfl, ?_⟩)))))
      refine ve_tup ?_
      k_places
      refine ⟨x1, rfl, deep_up 3 t1, ?_⟩
      k_places
      refine ve_lcMap tg_name ?_
      refine vi_seqL ?_
      k_places
      refine ⟨x2, rfl, x2.map frzP, by simp, by simp; omega, fun _ => trivial, fun i d y acc hd hy => ?_, ?_⟩
      · rw [List.getElem?_map] at hd hy
        cases e : x2[i]? with
        | none => rw [e] at hd; cases hd
        | some x =>
          rw [e] at hd hy
          cases hd; cases hy
          refine vg_name ⟨rfl, ?_⟩
          k_places
          exact ⟨x, rfl, deep_up 4 (t3 x (List.mem_of_getElem? e)), rfl, rfl⟩
      k_places
      exact ⟨rfl, rfl⟩
  k_places
  refine ⟨n, C, _, rfl, List.getElem?_set_self il, T.cl, T.n3, (by show 2 < 1000; decide), ?_⟩
  rw [put_k3, List.set_set]
  exact q
theorem keptOk_nil : KeptOk [] [] [] := ⟨by decide, by decide, by decide, (fun x h => by cases h), (fun x h => by cases h), (fun x h => by cases h), (fun x h => by cases h), (fun x h => by cases h), (fun x h => by cases h)⟩
abbrev st_sinit : Stmt := (inClass (topS 36) 0)
theorem sc_sinit : FnScope ["self", "members", "space", "member"] ["self", "members"] (defScope st_sinit) := ⟨rfl, rfl, rfl, by decide +kernel, rfl, by decide +kernel, by decide +kernel⟩
abbrev keptE (CK : Addr) : P := .ins CK (keptF [] [] [])
def W_sinit (C CK : Addr) : Spc := fun ds h R => ∃ (n : Nat) (m : Int), ds = [.own n, dI m] ∧ h[n]? = some (some (.ins C [])) ∧ 0 ≤ m ∧ m ≤ 1000 ∧
  ∀ h' I, StoreAt C h' n m (List.replicate m.toNat 0) [] (List.replicate 4 (keptE CK)) (List.replicate m.toNat []) I → (∀ i ∈ I, h.length ≤ i) → (∀ i, i ≠ n → i < h.length → h'[i]? = h[i]?) → h.length ≤ h'.length → R dN h'
theorem ok_sinit (A : InitAt K C "Store.__init__" st_sinit ["self", "members"]) (T : StoC K mg C) (TK : KptC K mg CK) (m_range : mg "range" = none) {tk : Tok} (g_SPACES : mg "SPACES" = some (.int 4 tk))
    (c_Kept : HasMk Pg w K mg base CX0 10 "Kept" CK ["self", "acts", "sums", "texts"] (spD K Θ (W_kinit CK))) : HasMk Pg w K mg base CX0 12 "Store" C ["self", "members"] (spD K Θ (W_sinit C CK)) := by
  have sc := sc_sinit
  refine A.okD T.mgC sc (W_sinit C CK) (fun ds h R ⟨_, _, e, _⟩ => by rw [e]; rfl) fun f cdv A outer s H E hr => ?_
  refine ⟨_, (pss_cons (ps_fld (pv 0) (pv 1) rfl)
  (pss_cons (ps_fld (pv 0) (pe_op op_rep (pe_lst (pa_cons pe_int pa_nil)) (pv 1)) rfl)
  (pss_cons (ps_fld (pv 0) (pe_lst pa_nil) rfl)
  (pss_cons (ps_fld (pv 0) (pe_lc (own := [("space", 2)]) rfl sc.nd (pi_range1 rfl m_range (pa_cons (pe_glob (v := .int 4) rfl g_SPACES ⟨_, rfl⟩) pa_nil)) (blkOk_by (N := ["self", "members", "space", "member"]) (sc := defScope (inClass (topS 36) 0)) (by decide +kernel)) (fun _ _ _ _ _ => (pg_name (i := 2) sc.nd rfl (.inl rfl))) (fun _ _ _ _ _ => pts_nil) (fun _ _ _ _ _ => (c_Kept.make (hr.mono (by first | decide | omega)) rfl pass0 (pa_cons (pe_lst pa_nil) (pa_cons (pe_lst pa_nil) (pa_cons (pe_lst pa_nil) pa_nil)))))) rfl)
  (pss_one (ps_fld (pv 0) (pe_lc (own := [("member", 3)]) rfl sc.nd (pi_range1 rfl m_range (pa_cons (pv 1) pa_nil)) (blkOk_by (N := ["self", "members", "space", "member"]) (sc := defScope (inClass (topS 36) 0)) (by decide +kernel)) (fun _ _ _ _ _ => (pg_name (i := 3) sc.nd rfl (.inl rfl))) (fun _ _ _ _ _ => pts_nil) (fun _ _ _ _ _ => (pe_lst pa_nil))) rfl)))))), ?_⟩
  try dsimp only [cxOf]
  rintro ds h R ⟨n, m, rfl, hn, m0, m1, q⟩
  have il : n < h.length := (List.getElem?_eq_some_iff.mp hn).1
  have sz := sizeLine_eq
  refine vs_seq ?_
  refine vs_fld ?_
  k_places
  refine ⟨n, C, [], rfl, hn, T.cl, T.n1, by decide, ?_⟩
  rw [put_s1]
  refine vs_seq ?_
  refine vs_fld ?_
  k_places
  refine ve_lstO ?_
  k_places
  refine ⟨by decide, ?_⟩
  k_places
  refine v2_repO (xs := [dI 0]) (by simp) (by omega) (by simp; omega) ?_
  k_places
  have L1 : (h.set n (some (.ins C [(("members" : Str), dI m)]))).length = h.length := List.length_set
  generalize e1 : h.set n (some (.ins C [(("members" : Str), dI m)])) = g1 at *
  have n1 : g1[n]? = some (some (.ins C [(("members" : Str), dI m)])) := by rw [← e1]; exact List.getElem?_set_self il
  have f1 : ∀ i, i ≠ n → i < h.length → g1[i]? = h[i]? := fun i hi _ => by rw [← e1, List.getElem?_set_ne (Ne.symm hi)]
  have ilg : n < g1.length := by omega
  refine ⟨n, C, _, rfl, by rw [List.getElem?_append_left (by simp; omega), List.getElem?_append_left (by omega)]; exact n1, T.cl, T.n2, (by show 1 < 1000; decide), ?_⟩
  rw [put_s2]
  generalize e2 : (g1 ++ [some (OO.lst [dI 0])] ++ [some (OO.lst (List.replicate m.toNat [dI 0]).flatten)]).set n (some (.ins C [(("members" : Str), dI m), ("cut", .own (g1 ++ [some (OO.lst [dI 0])]).length)])) = g2
  have L2 : g2.length = h.length + 2 := by rw [← e2, List.length_set, List.length_append, List.length_append, L1]; rfl
  have c2 : (g1 ++ [some (OO.lst [dI 0])]).length = h.length + 1 := by rw [List.length_append, L1]; rfl
  have n2 : g2[n]? = some (some (.ins C [(("members" : Str), dI m), ("cut", .own (h.length + 1))])) := by
    rw [← e2, c2]; exact List.getElem?_set_self (by rw [List.length_append, List.length_append]; omega)
  have k2 : g2[h.length + 1]? = some (some (.lst ((List.replicate m.toNat (0 : Int)).map dI))) := by
    rw [← e2, List.getElem?_set_ne (by omega), ← c2]
    simp
  have f2 : ∀ i, i ≠ n → i < h.length → g2[i]? = h[i]? := fun i hi hl => by
    rw [← e2, List.getElem?_set_ne (Ne.symm hi), List.getElem?_append_left (by rw [List.length_append]; omega), List.getElem?_append_left (by omega)]
    exact f1 i hi hl
  clear e2 e1
  refine vs_seq ?_
  refine vs_fld ?_
  refine ve_lstO ?_
  k_places
  refine ⟨by decide, ?_⟩
  k_places
  refine ⟨n, C, _, rfl, by rw [List.getElem?_append_left (by omega)]; exact n2, T.cl, T.n3, (by show 2 < 1000; decide), ?_⟩
  rw [put_s3]
  generalize e3 : (g2 ++ [some (OO.lst [])]).set n (some (.ins C [(("members" : Str), dI m), ("cut", .own (h.length + 1)), ("capabilities", .own g2.length)])) = g3
  have L3 : g3.length = h.length + 3 := by rw [← e3, List.length_set, List.length_append, L2]; rfl
  have n3 : g3[n]? = some (some (.ins C [(("members" : Str), dI m), ("cut", .own (h.length + 1)), ("capabilities", .own (h.length + 2))])) := by
    rw [← e3, ← L2]; exact List.getElem?_set_self (by rw [List.length_append]; omega)
  have k3 : g3[h.length + 2]? = some (some (.lst (([] : List P).map D.p))) := by
    rw [← e3, List.getElem?_set_ne (by omega), ← L2]
    simp
  have f3 : ∀ i, i ≠ n → i < h.length + 2 → g3[i]? = g2[i]? := fun i hi hl => by
    rw [← e3, List.getElem?_set_ne (Ne.symm hi), List.getElem?_append_left (by omega)]
  clear e3
  refine vs_seq ?_
  refine vs_fld ?_
  refine ve_lcW tg_name ?_
  refine vi_range1 ?_
  k_places
  refine ⟨4, rfl, by decide, by decide, ?_⟩
  refine ⟨fun i acc h' => acc = (List.replicate i (keptE CK)).map D.p ∧ h' = g3 ++ [some (.lst acc)], by rw [rng_len]; show 4 < sizeLine; omega, ⟨rfl, rfl⟩, ?_, ?_, ?_⟩
  · rintro i acc h' ⟨rfl, rfl⟩
    exact ⟨by simp, trivial⟩
  · rintro i d acc h' hd ⟨rfl, rfl⟩
    refine vg_name (vt_yes (ite_t ?_))
    refine ve_makeF ?_
    k_places
    refine ve_lst ?_
    k_places
    refine ve_lst ?_
    k_places
    refine ve_lst ?_
    k_places
    refine ⟨_, [], [], [], rfl, keptOk_nil, List.getElem?_concat_length, rfl, keptF [] [] [], by simp, ?_⟩
    refine ⟨by simp, ?_, by simp⟩
    rw [List.replicate_succ', List.map_append]
    rfl
  rintro acc h' ⟨rfl, rfl⟩
  rw [rng_len]
  k_places
  refine ⟨n, C, _, rfl, by rw [List.getElem?_append_left (by omega)]; exact n3, T.cl, T.n4, (by show 3 < 1000; decide), ?_⟩
  rw [put_s4]
  generalize e4 : (g3 ++ [some (OO.lst ((List.replicate (4 : Int).toNat (keptE CK)).map D.p))]).set n (some (.ins C [(("members" : Str), dI m), ("cut", .own (h.length + 1)), ("capabilities", .own (h.length + 2)), ("kept", .own g3.length)])) = g4
  have L4 : g4.length = h.length + 4 := by rw [← e4, List.length_set, List.length_append, L3]; rfl
  have n4 : g4[n]? = some (some (.ins C [(("members" : Str), dI m), ("cut", .own (h.length + 1)), ("capabilities", .own (h.length + 2)), ("kept", .own (h.length + 3))])) := by
    rw [← e4, ← L3]; exact List.getElem?_set_self (by rw [List.length_append]; omega)
  have k4 : g4[h.length + 3]? = some (some (.lst ((List.replicate 4 (keptE CK)).map D.p))) := by
    rw [← e4, List.getElem?_set_ne (by omega), ← L3]
    simp
  have f4 : ∀ i, i ≠ n → i < h.length + 3 → g4[i]? = g3[i]? := fun i hi hl => by
    rw [← e4, List.getElem?_set_ne (Ne.symm hi), List.getElem?_append_left (by omega)]
  clear e4
  refine vs_fld ?_
  refine ve_lcW tg_name ?_
  refine vi_range1 ?_
  k_places
  refine ⟨m, rfl, by omega, by omega, ?_⟩
  refine ⟨fun i acc h' => acc = (List.range' (h.length + 5) i).map D.own ∧ h' = g4 ++ [some (.lst acc)] ++ List.replicate i (some (.lst [])), by rw [rng_len]; omega, ⟨rfl, by simp⟩, ?_, ?_, ?_⟩
  · rintro i acc h' ⟨rfl, rfl⟩
    exact ⟨by rw [List.getElem?_append_left (by simp)]; simp, trivial⟩
  · rintro i d acc h' hd ⟨rfl, rfl⟩
    refine vg_name (vt_yes (ite_t ?_))
    refine ve_lstO ?_
    k_places
    have la : (g4 ++ [some (OO.lst ((List.range' (h.length + 5) i).map D.own))] ++ List.replicate i (some (OO.lst []))).length = h.length + 5 + i := by
      rw [List.length_append, List.length_append, L4, List.length_replicate]; rfl
    rw [la]
    refine ⟨by decide, ?_⟩
    have e5 : (List.range' (h.length + 5) i).map D.own ++ [D.own (h.length + 5 + i)] = (List.range' (h.length + 5) (i + 1)).map D.own := by
      rw [List.range'_1_concat, List.map_append]; rfl
    rw [e5]
    refine ⟨?_, rfl, ?_⟩
    · rw [List.append_assoc, List.append_assoc, List.getElem?_append_right (Nat.le_refl _), Nat.sub_self]
      rfl
    · rw [List.append_assoc, List.append_assoc, List.set_append_right _ _ (Nat.le_refl _), Nat.sub_self, List.replicate_succ', List.append_assoc]
      rfl
  rintro acc h' ⟨rfl, rfl⟩
  rw [rng_len]
  k_places
  have lg : (g4 ++ [some (OO.lst ((List.range' (h.length + 5) m.toNat).map D.own))] ++ List.replicate m.toNat (some (OO.lst []))).length = h.length + 5 + m.toNat := by
    rw [List.length_append, List.length_append, L4, List.length_replicate]; rfl
  refine ⟨n, C, _, rfl, by rw [List.append_assoc, List.getElem?_append_left (by omega)]; exact n4, T.cl, T.n5, (by show 4 < 1000; decide), ?_⟩
  rw [put_s5]
  have lo : ∀ i, i ≠ n → i < h.length + 4 → ∀ X, ((g4 ++ [some (OO.lst ((List.range' (h.length + 5) m.toNat).map D.own))] ++ List.replicate m.toNat (some (OO.lst []))).set n X)[i]? = g4[i]? := fun i hi hl X => by
    rw [List.getElem?_set_ne (Ne.symm hi), List.append_assoc, List.getElem?_append_left (by omega)]
  refine q _ ((h.length + 1) :: (h.length + 2) :: (h.length + 3) :: (h.length + 4) :: List.range' (h.length + 5) m.toNat) ⟨h.length + 1, h.length + 2, h.length + 3, h.length + 4, List.range' (h.length + 5) m.toNat, rfl, ?_, ?_, ?_, ?_, ?_, ?_, ?_, ?_⟩ ?_ ?_ ?_
  · rw [List.getElem?_set_self (by omega), ← L4]; rfl
  · rw [lo _ (by omega) (by omega), f4 _ (by omega) (by omega), f3 _ (by omega) (by omega)]; exact k2
  · rw [lo _ (by omega) (by omega), f4 _ (by omega) (by omega)]; exact k3
  · rw [lo _ (by omega) (by omega)]; exact k4
  · rw [List.getElem?_set_ne (by omega), List.append_assoc, List.getElem?_append_right (by omega), L4, Nat.sub_self]; rfl
  · simp
  · intro k j cs hj hc
    have hk : k < m.toNat := by
      have z := (List.getElem?_eq_some_iff.mp hj).1
      simpa using z
    rw [List.getElem?_range' hk] at hj
    rw [List.getElem?_replicate, if_pos hk] at hc
    cases hj; cases hc
    rw [List.getElem?_set_ne (by omega), List.getElem?_append_right (by rw [List.length_append, L4]; simp), List.length_append, L4, List.getElem?_replicate]
    rw [if_pos (by simp; omega)]
    rfl
  · simp only [List.nodup_cons, List.mem_cons, List.mem_range'_1]
    refine ⟨by omega, by omega, by omega, by omega, by omega, List.nodup_range'⟩
  · intro i hi
    simp only [List.mem_cons, List.mem_range'_1] at hi
    omega
  · intro i hi hl
    rw [lo i hi (by omega), f4 i hi (by omega), f3 i hi (by omega)]
    exact f2 i hi hl
  · rw [List.length_set, lg]; omega
end
end Law

namespace Law
open PySem PySem.Spec PyProof.Rows L2 Kb
-- the steps that are tried: k_clsL a side condition; k_subL one step; k_places steps as long as one fits
/-- how many changes of a member count -/
def cntOf (cut : List Int) (chs : List (List P)) (k : Nat) : Int := (cut[k]?.getD 0) + ((chs[k]?.getD []).length : Nat)
def hasOf (cut : List Int) (chs : List (List P)) (a b : Int) : Bool := decide (0 ≤ a) && decide (a < (cut.length : Nat)) && decide (1 ≤ b) && decide (b ≤ cntOf cut chs a.toNat)
def findOf (cut : List Int) (chs : List (List P)) (a b : Int) : P :=
  if hasOf cut chs a b = true then (if b ≤ cut[a.toNat]?.getD 0 then .non else (chs[a.toNat]?.getD [])[(b - cut[a.toNat]?.getD 0 - 1).toNat]?.getD .non) else .non
/-- a store whose parts fit -/
structure StOk (m : Int) (cut : List Int) (chs : List (List P)) : Prop where
  m0 : 0 ≤ m
  cl : cut.length = m.toNat
  chl : chs.length = m.toNat
  pos : ∀ c ∈ cut, 0 ≤ c ∧ c < 2 ^ 60
  len : ∀ cs ∈ chs, cs.length < 1000000
section
variable {Pg : Program} {w : World} {K : PySem.W.Frag} {Θ : Tbs} {mg : Str → Option Value} {base : Heap} {C CS CK : Addr}
theorem StoreAt.members {h : Hs} {n : Nat} {m : Int} {cut : List Int} {caps kept : List P} {chs : List (List P)} {I : List Nat} (S : StoreAt C h n m cut caps kept chs I) : FldD "members" (.own n) h C (dI m) := by
  obtain ⟨i1, i2, i3, i4, js, _, h1, _⟩ := S.ex
  exact ⟨_, h1, by kernel_rfl⟩
theorem StoreAt.cut_ {h : Hs} {n : Nat} {m : Int} {cut : List Int} {caps kept : List P} {chs : List (List P)} {I : List Nat} (S : StoreAt C h n m cut caps kept chs I) : ∃ i, FldD "cut" (.own n) h C (.own i) ∧ h[i]? = some (some (.lst (cut.map dI))) := by
  obtain ⟨i1, i2, i3, i4, js, _, h1, h2, _⟩ := S.ex
  exact ⟨i1, ⟨_, h1, by kernel_rfl⟩, h2⟩
theorem StoreAt.changes_ {h : Hs} {n : Nat} {m : Int} {cut : List Int} {caps kept : List P} {chs : List (List P)} {I : List Nat} (S : StoreAt C h n m cut caps kept chs I) :
    ∃ (i : Nat) (js : List Nat), FldD "changes" (.own n) h C (.own i) ∧ h[i]? = some (some (.lst (js.map D.own))) ∧ js.length = chs.length ∧ ∀ (k : Nat) (cs : List P), chs[k]? = some cs → ∃ j, (js.map D.own)[k]? = some (.own j) ∧ h[j]? = some (some (.lst (cs.map D.p))) := by
  obtain ⟨i1, i2, i3, i4, js, _, h1, _, _, _, h5, h6, h7, _⟩ := S.ex
  refine ⟨i4, js, ⟨_, h1, by kernel_rfl⟩, h5, h6, fun k cs hc => ?_⟩
  have hk := (List.getElem?_eq_some_iff.mp hc).1
  rw [← h6] at hk
  exact ⟨js[k], by rw [List.getElem?_map, List.getElem?_eq_getElem hk]; rfl, h7 k _ cs (List.getElem?_eq_getElem hk) hc⟩
theorem StoreAt.ins {h : Hs} {n : Nat} {m : Int} {cut : List Int} {caps kept : List P} {chs : List (List P)} {I : List Nat} {x : Str} (S : StoreAt C h n m cut caps kept chs I) (e : ∀ m i1 i2 i3 i4, (storeF m i1 i2 i3 i4).lookup x = none) : InsD C x (.own n) h := by
  obtain ⟨i1, i2, i3, i4, js, _, h1, _⟩ := S.ex
  exact ⟨_, h1, e _ _ _ _ _⟩
theorem no_count {m : Int} {i1 i2 i3 i4 : Nat} : (storeF m i1 i2 i3 i4).lookup ("count" : Str) = none := by kernel_rfl
theorem no_has {m : Int} {i1 i2 i3 i4 : Nat} : (storeF m i1 i2 i3 i4).lookup ("has" : Str) = none := by kernel_rfl
theorem no_find {m : Int} {i1 i2 i3 i4 : Nat} : (storeF m i1 i2 i3 i4).lookup ("find" : Str) = none := by kernel_rfl
theorem no_add {m : Int} {i1 i2 i3 i4 : Nat} : (storeF m i1 i2 i3 i4).lookup ("add" : Str) = none := by kernel_rfl
abbrev st_scount : Stmt := (inClass (topS 36) 1)
theorem sc_scount : FnScope ["self", "member"] ["self", "member"] (defScope st_scount) := ⟨rfl, rfl, rfl, by decide +kernel, rfl, by decide +kernel, by decide +kernel⟩
def W_scount (C : Addr) : Spc := fun ds h R => ∃ (n : Nat) (m : Int) (cut : List Int) (caps kept : List P) (chs : List (List P)) (I : List Nat) (k : Int), ds = [.own n, dI k] ∧ StoreAt C h n m cut caps kept chs I ∧ StOk m cut chs ∧ 0 ≤ k ∧ k < m ∧ R (dI (cntOf cut chs k.toNat)) h
theorem ok_scount (A : MethAt K C "count" "Store.count" st_scount ["self", "member"]) (T : StoC K mg C) (m_len : mg "len" = none) : HasM Pg w K mg base CX0 1 C "count" ["self", "member"] (spD K Θ (W_scount C)) := by
  have sc := sc_scount
  refine A.okD T.cl sc (W_scount C) (fun ds h R ⟨_, _, _, _, _, _, _, _, e, _⟩ => by rw [e]; rfl) fun f cdv A outer s H E hr => ?_
  refine ⟨_, (pss_one (ps_ret (pe_op (op_addWK (K := K) (by rfl)) (pe_ix (ix_seqK (K := K) (by rfl)) (pe_fldK (K := K) (by rfl) (pv 0) rfl) (pv 1) (fun _ _ => rfl)) (pe_callB (call_lenK (K := K) (by rfl)) (by rfl) m_len (by decide +kernel) (pa_cons (pe_ix (ix_seqK (K := K) (by rfl)) (pe_fldK (K := K) (by rfl) (pv 0) rfl) (pv 1) (fun _ _ => rfl)) pa_nil))))), ?_⟩
  try dsimp only [cxOf]
  rintro ds h R ⟨n, m, cut, caps, kept, chs, I, k, rfl, S, ok, k0, k1, q⟩
  have hk : k.toNat < cut.length := by rw [ok.cl]; omega
  have hk2 : k.toNat < chs.length := by rw [ok.chl]; omega
  have q2 : R (dI (cut[k.toNat] + (chs[k.toNat].length : Nat))) h := by
    have e : cntOf cut chs k.toNat = cut[k.toNat] + (chs[k.toNat].length : Nat) := by
      unfold cntOf
      rw [List.getElem?_eq_getElem hk, List.getElem?_eq_getElem hk2]
      rfl
    rw [← e]
    exact q
  obtain ⟨i1, F1, g1⟩ := S.cut_
  obtain ⟨i4, js, F4, g4, jl, jh⟩ := S.changes_
  obtain ⟨j, hj, gj⟩ := jh k.toNat _ (List.getElem?_eq_getElem hk2)
  k_places
  refine ve_fld ?_
  k_places
  refine ⟨C, _, T.cl, T.n2, F1, ?_⟩
  k_places
  refine v2_ixO g1 (at_nat k.toNat (by omega) (by rw [List.getElem?_map, List.getElem?_eq_getElem hk]; rfl)) ?_
  k_places
  refine ve_fld ?_
  k_places
  refine ⟨C, _, T.cl, T.n5, F4, ?_⟩
  k_places
  refine v2_ixO g4 (at_nat k.toNat (by omega) hj) ?_
  k_places
  refine vc_lenO gj ?_
  k_places
  rw [List.length_map]
  exact q2
abbrev st_shas : Stmt := (inClass (topS 36) 4)
theorem sc_shas : FnScope ["self", "name", "author", "number"] ["self", "name"] (defScope st_shas) := ⟨rfl, rfl, rfl, by decide +kernel, rfl, by decide +kernel, by decide +kernel⟩
def W_shas (C : Addr) : Spc := fun ds h R => ∃ (n : Nat) (m : Int) (cut : List Int) (caps kept : List P) (chs : List (List P)) (I : List Nat) (a b : Int), ds = [.own n, dT [.int a, .int b]] ∧ StoreAt C h n m cut caps kept chs I ∧ StOk m cut chs ∧ R (dB (hasOf cut chs a b)) h
theorem ok_shas (A : MethAt K C "has" "Store.has" st_shas ["self", "name"]) (T : StoC K mg C) (h_Store_count : HasM Pg w K mg base CX0 1 C "count" ["self", "member"] (spD K Θ (W_scount C))) : HasM Pg w K mg base CX0 2 C "has" ["self", "name"] (spD K Θ (W_shas C)) := by
  have sc := sc_shas
  refine A.okD T.cl sc (W_shas C) (fun ds h R ⟨_, _, _, _, _, _, _, _, _, e, _⟩ => by rw [e]; rfl) fun f cdv A outer s H E hr => ?_
  refine ⟨_, (pss_cons (ps_asg (pv 1) (pg_tupK (K := K) (n := 2) (by rfl) rfl (pgs_cons (pg_name (i := 2) sc.nd rfl (.inl rfl)) (pgs_cons (pg_name (i := 3) sc.nd rfl (.inl rfl)) pgs_nil))))
  (pss_one (ps_ret (pe_and (pe_chain op_le op_lt pe_int (pv 2) (pe_fldK (K := K) (by rfl) (pv 0) rfl)) (pe_one (pe_chain op_le op_le pe_int (pv 3) (h_Store_count.meth (hr.mono (by first | decide | omega)) pass0 (pv 0) (pa_cons (pv 2) pa_nil)))))))), ?_⟩
  try dsimp only [cxOf]
  rintro ds h R ⟨n, m, cut, caps, kept, chs, I, a, b, rfl, S, ok, q⟩
  have ml : ((cut.length : Nat) : Int) = m := by rw [ok.cl]; have := ok.m0; omega
  unfold hasOf at q
  rw [ml] at q
  refine vs_seq ?_
  refine vs_asg ?_
  k_places
  refine vg_tup rfl (vgs_cons (vg_name (vgs_cons (vg_name (vgs_nil ?_)))))
  k_places
  refine ite_dec (fun e0 => ?_) (fun e0 => ?_)
  · rw [decide_eq_true e0, Bool.true_and] at q
    k_places
    refine ve_fld ?_
    k_places
    refine ⟨C, _, T.cl, T.n1, S.members, ?_⟩
    k_places
    refine ite_dec (fun e1 => ?_) (fun e1 => ?_)
    · rw [decide_eq_true e1, Bool.true_and] at q
      k_places
      refine ite_dec (fun e2 => ?_) (fun e2 => ?_)
      · rw [decide_eq_true e2, Bool.true_and] at q
        k_places
        refine ve_meth ?_
        k_places
        refine ⟨S.ins fun _ _ _ _ _ => no_count, ?_⟩
        k_places
        refine ⟨n, m, cut, caps, kept, chs, I, a, rfl, S, ok, e0, e1, ?_⟩
        k_places
        exact q
      · rw [decide_eq_false e2, Bool.false_and] at q
        exact q
    · rw [decide_eq_false e1, Bool.false_and, Bool.false_and] at q
      exact q
  · rw [decide_eq_false e0, Bool.false_and, Bool.false_and, Bool.false_and] at q
    k_places
    exact q
end
end Law

namespace Law
open PySem PySem.Spec PyProof.Rows L2 Kb
-- the steps that are tried: k_clsL a side condition; k_subL one step; k_places steps as long as one fits
section
variable {Pg : Program} {w : World} {K : PySem.W.Frag} {Θ : Tbs} {mg : Str → Option Value} {base : Heap} {C CS CK CC : Addr}
theorem nodup_inj {xs : List Nat} (nd : xs.Nodup) {i j : Nat} (hi : i < xs.length) (hj : j < xs.length) (e : xs[i] = xs[j]) : i = j := by
  have z := List.pairwise_iff_getElem.mp nd
  rcases Nat.lt_trichotomy i j with c | c | c
  · exact absurd e (z i j hi hj c)
  · exact c
  · exact absurd e.symm (z j i hj hi c)
theorem hasOf_iff {cut : List Int} {chs : List (List P)} {a b : Int} (h : hasOf cut chs a b = true) : 0 ≤ a ∧ a < (cut.length : Nat) ∧ 1 ≤ b ∧ b ≤ cntOf cut chs a.toNat := by
  unfold hasOf at h
  simp only [Bool.and_eq_true, decide_eq_true_eq] at h
  exact ⟨h.1.1.1, h.1.1.2, h.1.2, h.2⟩
abbrev st_sfind : Stmt := (inClass (topS 36) 3)
theorem sc_sfind : FnScope ["self", "name", "author", "number"] ["self", "name"] (defScope st_sfind) := ⟨rfl, rfl, rfl, by decide +kernel, rfl, by decide +kernel, by decide +kernel⟩
def W_sfind (C : Addr) : Spc := fun ds h R => ∃ (n : Nat) (m : Int) (cut : List Int) (caps kept : List P) (chs : List (List P)) (I : List Nat) (a b : Int), ds = [.own n, dT [.int a, .int b]] ∧ StoreAt C h n m cut caps kept chs I ∧ StOk m cut chs ∧ R (.p (findOf cut chs a b)) h
theorem ok_sfind (A : MethAt K C "find" "Store.find" st_sfind ["self", "name"]) (T : StoC K mg C) (h_Store_has : HasM Pg w K mg base CX0 2 C "has" ["self", "name"] (spD K Θ (W_shas C))) : HasM Pg w K mg base CX0 3 C "find" ["self", "name"] (spD K Θ (W_sfind C)) := by
  have sc := sc_sfind
  refine A.okD T.cl sc (W_sfind C) (fun ds h R ⟨_, _, _, _, _, _, _, _, _, e, _⟩ => by rw [e]; rfl) fun f cdv A outer s H E hr => ?_
  refine ⟨_, (pss_cons (ps_asg (pv 1) (pg_tupK (K := K) (n := 2) (by rfl) rfl (pgs_cons (pg_name (i := 2) sc.nd rfl (.inl rfl)) (pgs_cons (pg_name (i := 3) sc.nd rfl (.inl rfl)) pgs_nil))))
  (pss_cons (ps_if (PW.pt (pw_or (pt_not (pt_val (h_Store_has.meth (hr.mono (by first | decide | omega)) pass0 (pv 0) (pa_cons (pv 1) pa_nil)))) (pw_or1 (pt_cmpR op_le (pv 3) (pe_ix (ix_seqK (K := K) (by rfl)) (pe_fldK (K := K) (by rfl) (pv 0) rfl) (pv 2) (fun _ _ => rfl)) (nomark _))))) (pss_one (ps_ret pe_non)) pss_nil)
  (pss_one (ps_ret (pe_ix (ix_seqK (K := K) (by rfl)) (pe_ix (ix_seqK (K := K) (by rfl)) (pe_fldK (K := K) (by rfl) (pv 0) rfl) (pv 2) (fun _ _ => rfl)) (pe_op op_sub (pe_op op_sub (pv 3) (pe_ix (ix_seqK (K := K) (by rfl)) (pe_fldK (K := K) (by rfl) (pv 0) rfl) (pv 2) (fun _ _ => rfl))) pe_int) (fun _ _ => rfl)))))), ?_⟩
  try dsimp only [cxOf]
  rintro ds h R ⟨n, m, cut, caps, kept, chs, I, a, b, rfl, S, ok, q⟩
  have ml : ((cut.length : Nat) : Int) = m := by rw [ok.cl]; have := ok.m0; omega
  refine vs_seq ?_
  refine vs_asg ?_
  k_places
  refine vg_tup rfl (vgs_cons (vg_name (vgs_cons (vg_name (vgs_nil ?_)))))
  k_places
  refine ve_meth ?_
  k_places
  refine ⟨S.ins fun _ _ _ _ _ => no_has, ?_⟩
  k_places
  refine ⟨n, m, cut, caps, kept, chs, I, a, b, rfl, S, ok, ?_⟩
  k_places
  unfold findOf at q
  refine ite_nb (fun e => ?_) (fun e => ?_)
  · rw [e, if_neg (by decide)] at q
    k_places
    exact q
  · obtain ⟨a0, a1, b0, b1⟩ := hasOf_iff e
    rw [e, if_pos rfl] at q
    have ha : a.toNat < cut.length := by omega
    have ha2 : a.toNat < chs.length := by rw [ok.chl, ← ok.cl]; exact ha
    unfold cntOf at b1
    rw [List.getElem?_eq_getElem ha, List.getElem?_eq_getElem ha2] at b1
    rw [List.getElem?_eq_getElem ha, List.getElem?_eq_getElem ha2] at q
    simp only [Option.getD_some] at q b1
    obtain ⟨i1, F1, g1⟩ := S.cut_
    obtain ⟨i4, js, F4, g4, jl, jh⟩ := S.changes_
    obtain ⟨j, hj, gj⟩ := jh a.toNat _ (List.getElem?_eq_getElem ha2)
    have hc : (cut.map dI)[a.toNat]? = some (dI cut[a.toNat]) := by rw [List.getElem?_map, List.getElem?_eq_getElem ha]; rfl
    k_places
    refine ve_fld ?_
    k_places
    refine ⟨C, _, T.cl, T.n2, F1, ?_⟩
    k_places
    refine v2_ixO g1 (at_nat a.toNat (by omega) hc) ?_
    k_places
    refine ite_dec (fun e2 => ?_) (fun e2 => ?_)
    · rw [if_pos e2] at q
      k_places
      exact q
    · rw [if_neg e2] at q
      have hb : (b - cut[a.toNat] - 1).toNat < chs[a.toNat].length := by omega
      rw [List.getElem?_eq_getElem hb] at q
      k_places
      refine ve_fld ?_
      k_places
      refine ⟨C, _, T.cl, T.n5, F4, ?_⟩
      k_places
      refine v2_ixO g4 (at_nat a.toNat (by omega) hj) ?_
      k_places
      refine ve_fld ?_
      k_places
      refine ⟨C, _, T.cl, T.n2, F1, ?_⟩
      k_places
      refine v2_ixO g1 (at_nat a.toNat (by omega) hc) ?_
      k_places
      refine v2_ixO gj (at_nat (b - cut[a.toNat] - 1).toNat (by omega) (by rw [List.getElem?_map, List.getElem?_eq_getElem hb]; rfl)) ?_
      exact q
abbrev st_sadd : Stmt := (inClass (topS 36) 6)
theorem sc_sadd : FnScope ["self", "change"] ["self", "change"] (defScope st_sadd) := ⟨rfl, rfl, rfl, by decide +kernel, rfl, by decide +kernel, by decide +kernel⟩
/-- the class Change: what is read of it -/
structure ChgC (K : PySem.W.Frag) (mg : Str → Option Value) (C : Addr) : Prop where
  cl : Cls K C
  n1 : NoAttr K C "author"
  n2 : NoAttr K C "number"
  n3 : NoAttr K C "heard"
  n4 : NoAttr K C "capability"
  n5 : NoAttr K C "publics"
  n6 : NoAttr K C "parts"
  mgC : mg "Change" = some (.ref C)
def chgF (a b : Int) (hd cp pb pt : P) : List (Str × P) := [("author", .int a), ("number", .int b), ("heard", hd), ("capability", cp), ("publics", pb), ("parts", pt)]
def W_sadd (C CC : Addr) : Spc := fun ds h R => ∃ (n : Nat) (m : Int) (cut : List Int) (caps kept : List P) (chs : List (List P)) (I : List Nat) (a b : Int) (hd cp pb pt : P), ds = [.own n, .p (.ins CC (chgF a b hd cp pb pt))] ∧ StoreAt C h n m cut caps kept chs I ∧ StOk m cut chs ∧ 0 ≤ a ∧ a < m ∧
  ∀ h', StoreAt C h' n m cut caps kept (chs.set a.toNat ((chs[a.toNat]?.getD []) ++ [.ins CC (chgF a b hd cp pb pt)])) I → (∀ i, i ∉ I → h'[i]? = h[i]?) → h'.length = h.length → R dN h'
theorem ok_sadd (A : MethAt K C "add" "Store.add" st_sadd ["self", "change"]) (T : StoC K mg C) (TC : ChgC K mg CC) : HasM Pg w K mg base CX0 1 C "add" ["self", "change"] (spD K Θ (W_sadd C CC)) := by
  have sc := sc_sadd
  refine A.okD T.cl sc (W_sadd C CC) (fun ds h R ⟨_, _, _, _, _, _, _, _, _, _, _, _, _, e, _⟩ => by rw [e]; rfl) fun f cdv A outer s H E hr => ?_
  refine ⟨_, (pss_one (ps_expr (pe_bm PySem.F.plainAttrs_list PySem.F.slot_list_append PySem.F.type_list_append mt_append (pe_ix (ix_seqK (K := K) (by rfl)) (pe_fldK (K := K) (by rfl) (pv 0) rfl) (pe_fldK (K := K) (by rfl) (pv 1) rfl) (fun _ _ => rfl)) (pa_cons (pv 1) pa_nil)))), ?_⟩
  try dsimp only [cxOf]
  rintro ds h R ⟨n, m, cut, caps, kept, chs, I, a, b, hd, cp, pb, pt, rfl, S, ok, a0, a1, q⟩
  have ha2 : a.toNat < chs.length := by rw [ok.chl]; omega
  obtain ⟨i1, i2, i3, i4, js, rfl, h1, h2, h3, h4, h5, h6, h7, nd⟩ := S.ex
  have hj : a.toNat < js.length := by rw [h6]; exact ha2
  have gj := h7 a.toNat _ _ (List.getElem?_eq_getElem hj) (List.getElem?_eq_getElem ha2)
  have l0 := ok.len _ (List.getElem_mem ha2)
  have sz := sizeLine_eq
  refine vs_drop ?_
  refine ve_bm ?_
  k_places
  refine ve_fld ?_
  k_places
  refine ⟨C, .own i4, T.cl, T.n5, ⟨_, h1, by kernel_rfl⟩, ?_⟩
  k_places
  refine ve_fld ?_
  k_places
  refine ⟨CC, dI a, TC.cl, TC.n1, ⟨rfl, by kernel_rfl⟩, ?_⟩
  k_places
  refine v2_ixO h5 (at_nat a.toNat (by omega) (by rw [List.getElem?_map, List.getElem?_eq_getElem hj]; rfl)) ?_
  refine ⟨⟨rfl, _, gj⟩, ?_⟩
  k_places
  refine vm_append gj (by rw [List.length_map]; omega) ?_
  have ne : ∀ i, i ≠ js[a.toNat] → ∀ X, (h.set js[a.toNat] X)[i]? = h[i]? := fun i hi X => List.getElem?_set_ne (Ne.symm hi)
  have mem := List.getElem_mem hj
  simp only [List.nodup_cons, List.mem_cons, not_or] at nd
  obtain ⟨⟨x1, x2, x3, x4, x5⟩, ⟨y1, y2, y3, y4⟩, ⟨z1, z2, z3⟩, ⟨u1, u2⟩, u3, u4⟩ := nd
  have off : ∀ {i : Nat}, i ∉ js → i ≠ js[a.toNat] := fun hi e => hi (by rw [e]; exact mem)
  refine q _ ⟨i1, i2, i3, i4, js, rfl, ?_, ?_, ?_, ?_, ?_, ?_, ?_, ?_⟩ ?_ List.length_set
  · rw [ne _ (off x5)]; exact h1
  · rw [ne _ (off y4)]; exact h2
  · rw [ne _ (off z3)]; exact h3
  · rw [ne _ (off u2)]; exact h4
  · rw [ne _ (off u3)]; exact h5
  · rw [List.length_set]; exact h6
  · intro k j cs hkj hcs
    by_cases e : k = a.toNat
    · subst e
      rw [List.getElem?_eq_getElem hj] at hkj
      cases hkj
      rw [List.getElem?_set_self ha2] at hcs
      cases hcs
      rw [List.getElem?_set_self (List.getElem?_eq_some_iff.mp gj).1, List.getElem?_eq_getElem ha2]
      simp
    · rw [List.getElem?_set_ne (Ne.symm e)] at hcs
      have nj : j ≠ js[a.toNat] := fun z => by
        have hk := (List.getElem?_eq_some_iff.mp hkj).1
        rw [List.getElem?_eq_getElem hk] at hkj
        have z2 : js[k] = js[a.toNat] := (Option.some.inj hkj).trans z
        exact e (nodup_inj u4 hk hj z2)
      rw [ne _ nj]
      exact h7 k j cs hkj hcs
  · simp only [List.nodup_cons, List.mem_cons, not_or]
    exact ⟨⟨x1, x2, x3, x4, x5⟩, ⟨y1, y2, y3, y4⟩, ⟨z1, z2, z3⟩, ⟨u1, u2⟩, u3, u4⟩
  · intro i hi
    exact ne _ (fun e => hi (by rw [e]; simp only [List.mem_cons]; exact .inr (.inr (.inr (.inr mem))))) _
end
end Law

namespace Law
open PySem PySem.Spec PyProof.Rows L2 Kb
-- the steps that are tried: k_clsL a side condition; k_subL one step; k_places steps as long as one fits
theorem put_c1 {x : D} : putD "author" x [] = [(("author" : Str), x)] := by kernel_rfl
theorem put_c2 {a x : D} : putD "number" x [(("author" : Str), a)] = [(("author" : Str), a), (("number" : Str), x)] := by kernel_rfl
theorem put_c3 {a b x : D} : putD "heard" x [(("author" : Str), a), (("number" : Str), b)] = [(("author" : Str), a), (("number" : Str), b), (("heard" : Str), x)] := by kernel_rfl
theorem put_c4 {a b c x : D} : putD "capability" x [(("author" : Str), a), (("number" : Str), b), (("heard" : Str), c)] = [(("author" : Str), a), (("number" : Str), b), (("heard" : Str), c), (("capability" : Str), x)] := by kernel_rfl
theorem put_c5 {a b c d x : D} : putD "publics" x [(("author" : Str), a), (("number" : Str), b), (("heard" : Str), c), (("capability" : Str), d)] = [(("author" : Str), a), (("number" : Str), b), (("heard" : Str), c), (("capability" : Str), d), (("publics" : Str), x)] := by kernel_rfl
theorem put_c6 {a b c d e x : D} : putD "parts" x [(("author" : Str), a), (("number" : Str), b), (("heard" : Str), c), (("capability" : Str), d), (("publics" : Str), e)] = [(("author" : Str), a), (("number" : Str), b), (("heard" : Str), c), (("capability" : Str), d), (("publics" : Str), e), (("parts" : Str), x)] := by kernel_rfl
section
variable {Pg : Program} {w : World} {K : PySem.W.Frag} {Θ : Tbs} {mg : Str → Option Value} {base : Heap} {C CS CK CC : Addr}
abbrev st_cinit : Stmt := (inClass (topS 31) 0)
theorem sc_cinit : FnScope ["self", "author", "number", "heard", "capability", "publics", "parts"] ["self", "author", "number", "heard", "capability", "publics", "parts"] (defScope st_cinit) := ⟨rfl, rfl, rfl, by decide +kernel, rfl, by decide +kernel, by decide +kernel⟩
def W_cinit (C : Addr) : Spc := fun ds h R => ∃ (n : Nat) (a b : Int) (hd cp pb pt : P), ds = [.own n, dI a, dI b, .p hd, .p cp, .p pb, .p pt] ∧ h[n]? = some (some (.ins C [])) ∧ Deep 7 hd ∧ Deep 7 pb ∧ Deep 7 pt ∧
  R dN (h.set n (some (.ins C ((chgF a b (frzP hd) cp (frzP pb) (frzP pt)).map fun q => (q.1, D.p q.2)))))
theorem ok_cinit (A : InitAt K C "Change.__init__" st_cinit ["self", "author", "number", "heard", "capability", "publics", "parts"]) (T : ChgC K mg C) (h_frozen : HasF Pg w K mg base CX0 9 "frozen" ["value"] (spD K Θ (W_frz 8))) : HasMk Pg w K mg base CX0 10 "Change" C ["self", "author", "number", "heard", "capability", "publics", "parts"] (spD K Θ (W_cinit C)) := by
  have sc := sc_cinit
  refine A.okD T.mgC sc (W_cinit C) (fun ds h R ⟨_, _, _, _, _, _, _, e, _⟩ => by rw [e]; rfl) fun f cdv A outer s H E hr => ?_
  refine ⟨_, (pss_cons (ps_fld (pv 0) (pv 1) rfl)
  (pss_cons (ps_fld (pv 0) (pv 2) rfl)
  (pss_cons (ps_fld (pv 0) (h_frozen.call (hr.mono (by first | decide | omega)) rfl pass0 (pa_cons (pv 3) pa_nil)) rfl)
  (pss_cons (ps_fld (pv 0) (pv 4) rfl)
  (pss_cons (ps_fld (pv 0) (h_frozen.call (hr.mono (by first | decide | omega)) rfl pass0 (pa_cons (pv 5) pa_nil)) rfl)
  (pss_one (ps_fld (pv 0) (h_frozen.call (hr.mono (by first | decide | omega)) rfl pass0 (pa_cons (pv 6) pa_nil)) rfl))))))), ?_⟩
  try dsimp only [cxOf]
  rintro ds h R ⟨n, a, b, hd, cp, pb, pt, rfl, hn, d1, d2, d3, q⟩
  have il : n < h.length := (List.getElem?_eq_some_iff.mp hn).1
  refine vs_seq ?_
  refine vs_fld ?_
  k_places
  refine ⟨n, C, [], rfl, hn, T.cl, T.n1, by decide, ?_⟩
  rw [put_c1]
  refine vs_seq ?_
  refine vs_fld ?_
  k_places
  refine ⟨n, C, _, rfl, List.getElem?_set_self il, T.cl, T.n2, (by show 1 < 1000; decide), ?_⟩
  rw [put_c2, List.set_set]
  refine vs_seq ?_
  refine vs_fld ?_
  k_places
  refine ⟨hd, rfl, d1, ?_⟩
  k_places
  refine ⟨n, C, _, rfl, List.getElem?_set_self il, T.cl, T.n3, (by show 2 < 1000; decide), ?_⟩
  rw [put_c3, List.set_set]
  refine vs_seq ?_
  refine vs_fld ?_
  k_places
  refine ⟨n, C, _, rfl, List.getElem?_set_self il, T.cl, T.n4, (by show 3 < 1000; decide), ?_⟩
  rw [put_c4, List.set_set]
  refine vs_seq ?_
  refine vs_fld ?_
  k_places
  refine ⟨pb, rfl, d2, ?_⟩
  k_places
  refine ⟨n, C, _, rfl, List.getElem?_set_self il, T.cl, T.n5, (by show 4 < 1000; decide), ?_⟩
  rw [put_c5, List.set_set]
  refine vs_fld ?_
  k_places
  refine ⟨pt, rfl, d3, ?_⟩
  k_places
  refine ⟨n, C, _, rfl, List.getElem?_set_self il, T.cl, T.n6, (by show 5 < 1000; decide), ?_⟩
  rw [put_c6, List.set_set]
  exact q
end
end Law

namespace Law
open PySem PySem.Spec PyProof.Rows L2 Kb
-- the steps that are tried: k_clsL a side condition; k_subL one step; k_places steps as long as one fits
section
variable {Pg : Program} {w : World} {K : PySem.W.Frag} {Θ : Tbs} {mg : Str → Option Value} {base : Heap} {C CS CK CC : Addr}
end
end Law

namespace Law
open PySem PySem.Spec PyProof.Rows L2 Kb
-- the steps that are tried: k_clsL a side condition; k_subL one step; k_places steps as long as one fits
local macro_rules | `(tactic| k_subL) => `(tactic| first | (with_reducible refine ve_lst ?_) | (with_reducible refine ve_cls ?_))
/-- how things are written -/
def wbool (b : Bool) : List Int := [if b then 1 else 0]
def wint (i : Int) : List Int := [if i < 0 then 1 else 0] ++ wnum i.natAbs
def wchr (c : Nat) : List Int := wnum c
def wstr (z : Str) : List Int := wnum z.length ++ z.cps.toList.flatMap wchr
def wN : P → List Int
  | .int i => wnum i.toNat
  | _ => []
def wNs : P → List Int
  | .tup xs => xs.flatMap wN
  | _ => []
def wopt (w : P → List Int) : P → List Int
  | .non => [0]
  | p => [1] ++ w p
def wlst (w : P → List Int) : P → List Int
  | .tup xs => wnum xs.length ++ xs.flatMap w
  | .lst xs => wnum xs.length ++ xs.flatMap w
  | _ => []
def wval : P → List Int
  | .non => [0]
  | .bl b => [1] ++ wbool b
  | .int i => [2] ++ wint i
  | .str z => [3] ++ wstr z
  | _ => []
def okN : P → Prop
  | .int i => 0 ≤ i ∧ i < 128 ^ 60
  | _ => False
def okNs (p : P) : Prop := ∃ xs, p = .tup xs ∧ (∀ x ∈ xs, okN x) ∧ xs.length ≤ 4
def okI (i : Int) : Prop := i.natAbs < 128 ^ 60
structure okZ (z : Str) : Prop where
  len : z.length ≤ 5000
  cps : ∀ c ∈ z.cps.toList, c < 2 ^ 40
def okV : P → Prop
  | .non => True
  | .bl _ => True
  | .int i => okI i
  | .str z => okZ z
  | _ => False
theorem wnum_60 {n : Nat} (h : n < 128 ^ 60) : (wnum n).length ≤ 60 := wnum_len 59 n h
theorem wnum_6 {n : Nat} (h : n < 2 ^ 40) : (wnum n).length ≤ 6 := wnum_len 5 n (Nat.lt_of_lt_of_le h (by decide))
theorem okN_len {p : P} (h : okN p) : (wN p).length ≤ 60 := by
  cases p with
  | int i =>
    have h' : 0 ≤ i ∧ i < 128 ^ 60 := h
    refine wnum_60 ?_
    have e : ((i.toNat : Nat) : Int) = i := by omega
    have z : ((i.toNat : Nat) : Int) < ((128 ^ 60 : Nat) : Int) := by rw [e]; exact_mod_cast h'.2
    exact Int.ofNat_lt.mp z
  | _ => exact h.elim
theorem flat_le {α : Type} {w : α → List Int} {m : Nat} : ∀ {xs : List α}, (∀ x ∈ xs, (w x).length ≤ m) → (xs.flatMap w).length ≤ m * xs.length
  | [], _ => Nat.le_refl _
  | x :: xs, h => by
    have ih := flat_le (w := w) (m := m) (xs := xs) fun y hy => h y (List.mem_cons_of_mem _ hy)
    have h0 := h x (List.mem_cons_self ..)
    rw [List.flatMap_cons, List.length_append, List.length_cons, Nat.mul_succ]
    omega
theorem flat_snoc {α : Type} {w : α → List Int} {xs : List α} {i : Nat} {x : α} (h : xs[i]? = some x) : (xs.take (i + 1)).flatMap w = (xs.take i).flatMap w ++ w x := by
  rw [List.take_add_one, h, Option.toList_some, List.flatMap_append]
  simp
theorem flat_take {α : Type} {w : α → List Int} (xs : List α) (i : Nat) : ((xs.take i).flatMap w).length ≤ (xs.flatMap w).length := by
  conv => rhs; rw [← List.take_append_drop i xs]
  rw [List.flatMap_append, List.length_append]
  omega
theorem okNs_len {p : P} (h : okNs p) : (wNs p).length ≤ 240 := by
  obtain ⟨xs, rfl, hx, hl⟩ := h
  have := flat_le (w := wN) (m := 60) (xs := xs) fun x hx' => okN_len (hx x hx')
  show (xs.flatMap wN).length ≤ 240
  omega
theorem wstr_len {z : Str} (h : okZ z) : (wstr z).length ≤ 30060 := by
  have h1 := flat_le (w := wchr) (m := 6) (xs := z.cps.toList) fun c hc => wnum_6 (h.cps c hc)
  have h2 : z.cps.toList.length = z.length := Array.length_toList
  have h3 := wnum_6 (n := z.length) (by have := h.len; omega)
  have h4 := h.len
  unfold wstr
  rw [List.length_append]
  omega
theorem wint_len {i : Int} (h : okI i) : (wint i).length ≤ 61 := by
  have := wnum_60 h
  unfold wint
  rw [List.length_append]
  simp
  omega
section
variable {Pg : Program} {w : World} {K : PySem.W.Frag} {Θ : Tbs} {mg : Str → Option Value} {base : Heap}
def W_wr (wr : P → List Int) (ok : P → Prop) : Spc := fun ds h R => ∃ v : P, ds = [.p v] ∧ ok v ∧ R (dL (intsP (wr v))) h
abbrev st_wint : Stmt := (topS 5)
theorem sc_wint : FnScope ["number"] ["number"] (defScope st_wint) := ⟨rfl, rfl, rfl, by decide +kernel, rfl, by decide +kernel, by decide +kernel⟩
def W_wint : Spc := fun ds h R => ∃ i : Int, ds = [dI i] ∧ okI i ∧ R (dL (intsP (wint i))) h
theorem ok_wint (A : DefAt K mg "write_integer" st_wint ["number"]) (m_abs : mg "abs" = none) (h_write_number : HasF Pg w K mg base CX0 1 "write_number" ["number"] (spD K Θ W_wnum)) : HasF Pg w K mg base CX0 2 "write_integer" ["number"] (spD K Θ W_wint) := by
  have sc := sc_wint
  refine A.okD sc W_wint (fun ds h R ⟨_, e, _⟩ => by rw [e]; rfl) fun f cdv A outer s H E hr => ?_
  refine ⟨_, (pss_one (ps_ret (pe_op (op_addWK (K := K) (by rfl)) (pe_lst (pa_cons (pe_ifExp (pt_cmpR op_lt (pv 0) pe_int (nomark _)) pe_int pe_int) pa_nil)) (h_write_number.call (hr.mono (by first | decide | omega)) rfl pass0 (pa_cons (pe_callB call_abs (by rfl) m_abs (by decide +kernel) (pa_cons (pv 0) pa_nil)) pa_nil))))), ?_⟩
  try dsimp only [cxOf]
  rintro ds h R ⟨i, rfl, hi, q⟩
  have sz := sizeLine_eq
  have hl := wint_len hi
  have ea : (if i < 0 then -i else i) = (i.natAbs : Int) := by split <;> omega
  have h60 := wnum_60 hi
  k_places
  refine ite_dec (fun c => ?_) (fun c => ?_)
  · have ew : [P.int 1] ++ intsP (wnum i.natAbs) = intsP (wint i) := by unfold wint; rw [if_pos c]; rfl
    k_places
    rw [ea]
    refine ⟨i.natAbs, rfl, by omega, ?_⟩
    refine v2_addWM (i := [.int 1]) rfl rfl (by rw [List.length_map]; show 1 + _ ≤ _; omega) ?_
    rw [ew]; exact q
  · have ew : [P.int 0] ++ intsP (wnum i.natAbs) = intsP (wint i) := by unfold wint; rw [if_neg c]; rfl
    k_places
    rw [ea]
    refine ⟨i.natAbs, rfl, by omega, ?_⟩
    refine v2_addWM (i := [.int 0]) rfl rfl (by rw [List.length_map]; show 1 + _ ≤ _; omega) ?_
    rw [ew]; exact q
abbrev st_wbool : Stmt := (topS 13)
theorem sc_wbool : FnScope ["value"] ["value"] (defScope st_wbool) := ⟨rfl, rfl, rfl, by decide +kernel, rfl, by decide +kernel, by decide +kernel⟩
def W_wbool : Spc := fun ds h R => ∃ b : Bool, ds = [dB b] ∧ R (dL (intsP (wbool b))) h
theorem ok_wbool (A : DefAt K mg "write_boolean" st_wbool ["value"]) : HasF Pg w K mg base CX0 1 "write_boolean" ["value"] (spD K Θ W_wbool) := by
  have sc := sc_wbool
  refine A.okD sc W_wbool (fun ds h R ⟨_, e, _⟩ => by rw [e]; rfl) fun f cdv A outer s H E hr => ?_
  refine ⟨_, (pss_one (ps_ret (pe_lst (pa_cons (pe_ifExp (pt_truth (pv 0) (by intro _; rfl)) pe_int pe_int) pa_nil)))), ?_⟩
  try dsimp only [cxOf]
  rintro ds h R ⟨b, rfl, q⟩
  k_places
  cases b with
  | true =>
    refine ite_tt rfl ?_
    k_places
    exact q
  | false =>
    refine ite_ff rfl ?_
    k_places
    exact q
abbrev st_wchr : Stmt := (topS 17)
theorem sc_wchr : FnScope ["character"] ["character"] (defScope st_wchr) := ⟨rfl, rfl, rfl, by decide +kernel, rfl, by decide +kernel, by decide +kernel⟩
def W_wchr : Spc := fun ds h R => ∃ c : Nat, ds = [dS ⟨#[c]⟩] ∧ c < 2 ^ 40 ∧ R (dL (intsP (wchr c))) h
theorem ok_wchr (A : DefAt K mg "_write_character" st_wchr ["character"]) (m_ord : mg "ord" = none) (h_write_number : HasF Pg w K mg base CX0 1 "write_number" ["number"] (spD K Θ W_wnum)) : HasF Pg w K mg base CX0 2 "_write_character" ["character"] (spD K Θ W_wchr) := by
  have sc := sc_wchr
  refine A.okD sc W_wchr (fun ds h R ⟨_, e, _⟩ => by rw [e]; rfl) fun f cdv A outer s H E hr => ?_
  refine ⟨_, (pss_one (ps_ret (h_write_number.call (hr.mono (by first | decide | omega)) rfl pass0 (pa_cons (pe_callB call_ord (by rfl) m_ord (by decide +kernel) (pa_cons (pv 0) pa_nil)) pa_nil)))), ?_⟩
  try dsimp only [cxOf]
  rintro ds h R ⟨c, rfl, hc, q⟩
  have := wnum_6 hc
  k_places
  refine call_ordD ?_
  k_places
  exact ⟨c, rfl, by omega, q⟩
abbrev st_wlst : Stmt := (topS 14)
theorem sc_wlst : FnScope ["things", "write", "data", "thing"] ["things", "write"] (defScope st_wlst) := ⟨rfl, rfl, rfl, by decide +kernel, rfl, by decide +kernel, by decide +kernel⟩
/-- a text by a def of characters -/
def W_wlstS (f : Addr) : Spc := fun ds h R => ∃ z : Str, ds = [dS z, .p (.cls f)] ∧ okZ z ∧ R (dL (intsP (wstr z))) h
theorem ok_wlstS (A : DefAt K mg "write_list" st_wlst ["things", "write"]) {f_w : Addr} (hV_write : FnAt Pg w K mg base CX0 2 f_w ["character"] (spD K Θ W_wchr)) (m_len : mg "len" = none)
    (h_wnumO : HasF Pg w K mg base CX0 1 "write_number" ["number"] (spD K Θ W_wnumO)) : HasF Pg w K mg base CX0 3 "write_list" ["things", "write"] (spD K Θ (W_wlstS f_w)) := by
  have sc := sc_wlst
  refine A.okD sc (W_wlstS f_w) (fun ds h R ⟨_, e, _⟩ => by rw [e]; rfl) fun f cdv A outer s H E hr => ?_
  refine ⟨_, (pss_cons (ps_set (i := 2) sc.nd rfl (.inl rfl) (h_wnumO.call (hr.mono (by first | decide | omega)) rfl pass0 (pa_cons (pe_callB (call_lenK (K := K) (by rfl)) (by rfl) m_len (by decide +kernel) (pa_cons (pv 0) pa_nil)) pa_nil)))
  (pss_cons (ps_for PassesOwn.never rfl (pi_str (pv 0)) (pg_name (i := 3) sc.nd rfl (.inl rfl))
  (pss_one (ps_expr (pe_bm PySem.F.plainAttrs_list PySem.F.slot_list_extend PySem.F.type_list_extend (mt_extLK (K := K) (by rfl)) (pv 2) (pa_cons (hV_write.callV (i := 1) (hr.mono (by first | decide | omega)) pass0 rfl (pa_cons (pv 3) pa_nil)) pa_nil)))))
  (pss_one (ps_ret (pv 2))))), ?_⟩
  try dsimp only [cxOf]
  rintro ds h R ⟨z, rfl, hz, q⟩
  have sz := sizeLine_eq
  have h2 : z.cps.toList.length = z.length := Array.length_toList
  have h3 := wnum_6 (n := z.length) (by have := hz.len; omega)
  have h4 := hz.len
  have h5 := wstr_len hz
  refine vs_fin ?_
  refine vs_seq ?_
  k_places
  refine vc_len (n := z.length) ⟨by omega, rfl⟩ ?_
  k_places
  refine ⟨z.length, rfl, by omega, fun junk n hn hx => ?_⟩
  refine vg_name ?_
  refine vs_cut (fun env' h' => ∃ (junk : Hs) (o3 : Option D), env' = [some (dS z), some (.p (.cls f_w)), some (.own n), o3] ∧ h' = h ++ junk ∧ h'[n]? = some (intsO (wstr z))) ?_ ?_
  · refine vs_for (vi_str ?_)
    k_places
    refine ⟨z, rfl, ?_⟩
    refine ⟨fun i env' h' => ∃ (junk : Hs) (o3 : Option D), env' = [some (dS z), some (.p (.cls f_w)), some (.own n), o3] ∧ h' = h ++ junk ∧ h'[n]? = some (intsO (wnum z.length ++ (z.cps.toList.take i).flatMap wchr)), ?_, ?_, ?_, ?_⟩
    · exact ⟨junk, none, rfl, rfl, by rw [List.take_zero, List.flatMap_nil, List.append_nil]; exact hx⟩
    · exact fun _ _ _ _ => trivial
    · rintro i d env' h' hd ⟨junk, o3, rfl, rfl, hx⟩
      unfold chP at hd
      rw [List.getElem?_map, List.getElem?_map] at hd
      cases e : z.cps.toList[i]? with
      | none => rw [e] at hd; cases hd
      | some c =>
        rw [e] at hd; cases hd
        have hc := hz.cps c (List.mem_of_getElem? e)
        have ef := flat_snoc (w := wchr) e
        have lf := flat_take (w := wchr) z.cps.toList (i + 1)
        have lw : (wstr z).length = (wnum z.length).length + (z.cps.toList.flatMap wchr).length := by unfold wstr; rw [List.length_append]
        have nl : n < (h ++ junk).length := (List.getElem?_eq_some_iff.mp hx).1
        refine vg_name ?_
        refine vs_drop ?_
        refine ve_bm ?_
        k_places
        refine ⟨⟨rfl, _, hx⟩, ?_⟩
        refine va_cons ?_
        refine ve_callV rfl ?_
        k_places
        refine ⟨c, rfl, hc, ?_⟩
        k_places
        rw [ef] at lf
        rw [List.length_append] at lf
        refine vm_extL (zs := intsP (wchr c)) hx rfl (by rw [List.length_map, List.length_map, List.length_append]; omega) ?_
        refine ⟨junk.set (n - h.length) (intsO (wnum z.length ++ (z.cps.toList.take (i + 1)).flatMap wchr)), _, rfl, ?_, ?_⟩
        · rw [List.set_append_right _ _ hn, ef, map_dI]; simp [intsO]
        · rw [List.getElem?_set_self nl, ef, map_dI]; simp [intsO]
    · rintro env' h' ⟨junk, o3, rfl, rfl, hx⟩
      have e : ((chP z).map D.p).length = z.cps.toList.length := by unfold chP; simp
      rw [e, List.take_length] at hx
      exact ⟨junk, o3, rfl, rfl, hx⟩
  rintro env' h' ⟨junk, o3, rfl, rfl, hx⟩
  k_places
  exact ⟨junk, rfl, .inr (.inl ⟨n, intsP (wstr z), rfl, hn, by rw [map_dI]; exact hx, q⟩)⟩
/-- a tuple, or a list, by a def of its items -/
def W_wlstT (f : Addr) (w : P → List Int) (ok : P → Prop) : Spc := fun ds h R => ∃ (x : D) (xs : List P), ds = [x, .p (.cls f)] ∧ SeqP x h xs ∧ (∀ y ∈ xs, ok y ∧ (w y).length ≤ 100000) ∧ xs.length ≤ 10000 ∧ (xs.flatMap w).length ≤ 4000000 ∧ R (dL (intsP (wnum xs.length ++ xs.flatMap w))) h
theorem wl_step {K : PySem.W.Frag} {Θ : Tbs} {f_w : Addr} {ws : P → List Int} {ok : P → Prop} {E : En} {x y : D} {n : Nat} {h : Hs} {bs : List Int} (hx : h[n]? = some (intsO bs)) (hy : ∃ v, y = .p v ∧ ok v) (hl : ∀ v, y = .p v → bs.length + (ws v).length ≤ sizeLine)
    (q : ∀ v, y = .p v → E.nx [some x, some (.p (.cls f_w)), some (.own n), some y] (h.set n (intsO (bs ++ ws v)))) :
    VS K (Ctx.plain Θ) (tDrop (tBM K "list" (rExtL K) (tVar 2) (tCons (ItX.tCallV 1 f_w (spD K Θ (W_wr ws ok)) E0 (tCons (tVar 3) tNil)) tNil))) E [some x, some (.p (.cls f_w)), some (.own n), some y] h := by
  obtain ⟨v, rfl, hv⟩ := hy
  refine vs_drop ?_
  refine ve_bm ?_
  refine ve_var rfl ?_
  refine ⟨⟨rfl, _, hx⟩, ?_⟩
  refine va_cons ?_
  refine ve_callV rfl ?_
  refine va_cons ?_
  refine ve_var rfl ?_
  refine va_nil ?_
  refine ⟨v, rfl, hv, ?_⟩
  refine va_nil ?_
  refine vm_extL (zs := intsP (ws v)) hx rfl (by rw [List.length_map, List.length_map]; exact hl v rfl) ?_
  have e : bs.map dI ++ (intsP (ws v)).map D.p = (bs ++ ws v).map dI := by rw [map_dI, List.map_append]
  rw [e]
  exact q v rfl
theorem ok_wlstT {f_w : Addr} {ws : P → List Int} {ok : P → Prop} {ps : List Str} {k : Nat} (A : DefAt K mg "write_list" st_wlst ["things", "write"]) (hV_write : FnAt Pg w K mg base CX0 k f_w ps (spD K Θ (W_wr ws ok))) (m_len : mg "len" = none)
    (h_wnumO : HasF Pg w K mg base CX0 1 "write_number" ["number"] (spD K Θ W_wnumO)) (hk : 1 ≤ k) : HasF Pg w K mg base CX0 (k + 1) "write_list" ["things", "write"] (spD K Θ (W_wlstT f_w ws ok)) := by
  have sc := sc_wlst
  refine A.okD sc (W_wlstT f_w ws ok) (fun ds h R ⟨_, _, e, _⟩ => by rw [e]; rfl) fun f cdv A outer s H E hr => ?_
  refine ⟨_, (pss_cons (ps_set (i := 2) sc.nd rfl (.inl rfl) (h_wnumO.call (hr.mono (by first | decide | omega)) rfl pass0 (pa_cons (pe_callB (call_lenK (K := K) (by rfl)) (by rfl) m_len (by decide +kernel) (pa_cons (pv 0) pa_nil)) pa_nil)))
  (pss_cons (ps_for PassesOwn.never rfl (pi_seqK (K := K) (by rfl) (pv 0)) (pg_name (i := 3) sc.nd rfl (.inl rfl))
  (pss_one (ps_expr (pe_bm PySem.F.plainAttrs_list PySem.F.slot_list_extend PySem.F.type_list_extend (mt_extLK (K := K) (by rfl)) (pv 2) (pa_cons (hV_write.callV (i := 1) (hr.mono (by first | decide | omega)) pass0 rfl (pa_cons (pv 3) pa_nil)) pa_nil)))))
  (pss_one (ps_ret (pv 2))))), ?_⟩
  try dsimp only [cxOf]
  rintro ds h R ⟨x, xs, rfl, hs, hok, xl, fl, q⟩
  have sz := sizeLine_eq
  have hr1 : ∀ {T : D → Hs → Prop}, T (dI xs.length) h → VC K (Ctx.plain Θ) (fun xs H Q => ∃ x n, xs = [x] ∧ LenV K x H n ∧ Q (.int n) H) [x] h T := fun t => by
    refine vc_len (n := xs.length) ?_ t
    cases x with
    | p x =>
      cases x with
      | lst ys => cases hs; rfl
      | tup ys => cases hs; rfl
      | _ => exact hs.elim
    | own m => exact ⟨_, hs, (List.length_map ..).symm⟩
  have h3 := wnum_6 (n := xs.length) (by omega)
  refine vs_fin ?_
  refine vs_seq ?_
  k_places
  refine hr1 ?_
  k_places
  refine ⟨xs.length, rfl, by omega, fun junk n hn hx => ?_⟩
  refine vg_name ?_
  refine vs_seq ?_
  cases x with
  | p x =>
    cases x with
    | lst ys =>
      cases hs
      refine vs_for (vi_seqL ?_)
      k_places
      refine ⟨_, rfl, ?_⟩
      refine ⟨fun i env' h' => ∃ (junk : Hs) (o3 : Option D), env' = [some (dL xs), some (.p (.cls f_w)), some (.own n), o3] ∧ h' = h ++ junk ∧ h'[n]? = some (intsO (wnum xs.length ++ (xs.take i).flatMap ws)), ?_, ?_, ?_, ?_⟩
      · exact ⟨junk, none, rfl, rfl, by rw [List.take_zero, List.flatMap_nil, List.append_nil]; exact hx⟩
      · exact fun _ _ _ _ => trivial
      · rintro i d env' h' hd ⟨junk, o3, rfl, rfl, hx⟩
        rw [List.getElem?_map] at hd
        cases e : xs[i]? with
        | none => rw [e] at hd; cases hd
        | some y =>
          rw [e] at hd; cases hd
          obtain ⟨oy, ly⟩ := hok y (List.mem_of_getElem? e)
          have ef := flat_snoc (w := ws) e
          have lf := flat_take (w := ws) xs (i + 1)
          have nl : n < (h ++ junk).length := (List.getElem?_eq_some_iff.mp hx).1
          rw [ef, List.length_append] at lf
          refine vg_name ?_
          refine wl_step (x := (dL xs)) hx ⟨y, rfl, oy⟩ (fun v ev => ?_) fun v ev => ?_
          · cases ev
            rw [List.length_append]; omega
          · cases ev
            refine ⟨junk.set (n - h.length) (intsO (wnum xs.length ++ (xs.take (i + 1)).flatMap ws)), _, rfl, ?_, ?_⟩
            · rw [List.set_append_right _ _ hn, ef, List.append_assoc]
            · rw [List.getElem?_set_self nl, ef, List.append_assoc]
      · rintro env' h' ⟨junk, o3, rfl, rfl, hx⟩
        rw [List.length_map, List.take_length] at hx
        k_places
        exact ⟨junk, rfl, .inr (.inl ⟨n, intsP (wnum xs.length ++ xs.flatMap ws), rfl, hn, by rw [map_dI]; exact hx, q⟩)⟩
  
    | tup ys =>
      cases hs
      refine vs_for (vi_seqT ?_)
      k_places
      refine ⟨_, rfl, ?_⟩
      refine ⟨fun i env' h' => ∃ (junk : Hs) (o3 : Option D), env' = [some (dT xs), some (.p (.cls f_w)), some (.own n), o3] ∧ h' = h ++ junk ∧ h'[n]? = some (intsO (wnum xs.length ++ (xs.take i).flatMap ws)), ?_, ?_, ?_, ?_⟩
      · exact ⟨junk, none, rfl, rfl, by rw [List.take_zero, List.flatMap_nil, List.append_nil]; exact hx⟩
      · exact fun _ _ _ _ => trivial
      · rintro i d env' h' hd ⟨junk, o3, rfl, rfl, hx⟩
        rw [List.getElem?_map] at hd
        cases e : xs[i]? with
        | none => rw [e] at hd; cases hd
        | some y =>
          rw [e] at hd; cases hd
          obtain ⟨oy, ly⟩ := hok y (List.mem_of_getElem? e)
          have ef := flat_snoc (w := ws) e
          have lf := flat_take (w := ws) xs (i + 1)
          have nl : n < (h ++ junk).length := (List.getElem?_eq_some_iff.mp hx).1
          rw [ef, List.length_append] at lf
          refine vg_name ?_
          refine wl_step (x := (dT xs)) hx ⟨y, rfl, oy⟩ (fun v ev => ?_) fun v ev => ?_
          · cases ev
            rw [List.length_append]; omega
          · cases ev
            refine ⟨junk.set (n - h.length) (intsO (wnum xs.length ++ (xs.take (i + 1)).flatMap ws)), _, rfl, ?_, ?_⟩
            · rw [List.set_append_right _ _ hn, ef, List.append_assoc]
            · rw [List.getElem?_set_self nl, ef, List.append_assoc]
      · rintro env' h' ⟨junk, o3, rfl, rfl, hx⟩
        rw [List.length_map, List.take_length] at hx
        k_places
        exact ⟨junk, rfl, .inr (.inl ⟨n, intsP (wnum xs.length ++ xs.flatMap ws), rfl, hn, by rw [map_dI]; exact hx, q⟩)⟩
  
    | _ => exact hs.elim
  | own m =>
    have hm : m < h.length := (List.getElem?_eq_some_iff.mp hs).1
    refine vs_for (vi_seqO ?_)
    k_places
    refine ⟨m, xs.map D.p, rfl, by rw [List.getElem?_append_left hm]; exact hs, ?_⟩
    refine ⟨fun i env' h' => ∃ (junk : Hs) (o3 : Option D), env' = [some (.own m), some (.p (.cls f_w)), some (.own n), o3] ∧ h' = h ++ junk ∧ h'[n]? = some (intsO (wnum xs.length ++ (xs.take i).flatMap ws)), ?_, ?_, ?_, ?_⟩
    · exact ⟨junk, none, rfl, rfl, by rw [List.take_zero, List.flatMap_nil, List.append_nil]; exact hx⟩
    · rintro i env' h' ⟨junk, o3, rfl, rfl, _⟩
      rw [List.getElem?_append_left hm]; exact hs
    · rintro i d env' h' hd ⟨junk, o3, rfl, rfl, hx⟩
      rw [List.getElem?_map] at hd
      cases e : xs[i]? with
      | none => rw [e] at hd; cases hd
      | some y =>
        rw [e] at hd; cases hd
        obtain ⟨oy, ly⟩ := hok y (List.mem_of_getElem? e)
        have ef := flat_snoc (w := ws) e
        have lf := flat_take (w := ws) xs (i + 1)
        have nl : n < (h ++ junk).length := (List.getElem?_eq_some_iff.mp hx).1
        rw [ef, List.length_append] at lf
        refine vg_name ?_
        refine wl_step (x := (.own m)) hx ⟨y, rfl, oy⟩ (fun v ev => ?_) fun v ev => ?_
        · cases ev
          rw [List.length_append]; omega
        · cases ev
          refine ⟨junk.set (n - h.length) (intsO (wnum xs.length ++ (xs.take (i + 1)).flatMap ws)), _, rfl, ?_, ?_⟩
          · rw [List.set_append_right _ _ hn, ef, List.append_assoc]
          · rw [List.getElem?_set_self nl, ef, List.append_assoc]
    · rintro env' h' ⟨junk, o3, rfl, rfl, hx⟩
      rw [List.length_map, List.take_length] at hx
      k_places
      exact ⟨junk, rfl, .inr (.inl ⟨n, intsP (wnum xs.length ++ xs.flatMap ws), rfl, hn, by rw [map_dI]; exact hx, q⟩)⟩
abbrev st_wstr : Stmt := (topS 6)
theorem sc_wstr : FnScope ["text"] ["text"] (defScope st_wstr) := ⟨rfl, rfl, rfl, by decide +kernel, rfl, by decide +kernel, by decide +kernel⟩
def W_wstr : Spc := fun ds h R => ∃ z : Str, ds = [dS z] ∧ okZ z ∧ R (dL (intsP (wstr z))) h
theorem ok_wstr (A : DefAt K mg "write_string" st_wstr ["text"]) {f__write_character : Addr} (gf__write_character : mg "_write_character" = some (.ref f__write_character)) (h_write_list : HasF Pg w K mg base CX0 3 "write_list" ["things", "write"] (spD K Θ (W_wlstS f__write_character))) : HasF Pg w K mg base CX0 4 "write_string" ["text"] (spD K Θ W_wstr) := by
  have sc := sc_wstr
  refine A.okD sc W_wstr (fun ds h R ⟨_, e, _⟩ => by rw [e]; rfl) fun f cdv A outer s H E hr => ?_
  refine ⟨_, (pss_one (ps_ret (h_write_list.call (hr.mono (by first | decide | omega)) rfl pass0 (pa_cons (pv 0) (pa_cons (pe_glob (v := .ref f__write_character) rfl gf__write_character rfl) pa_nil))))), ?_⟩
  try dsimp only [cxOf]
  rintro ds h R ⟨z, rfl, hz, q⟩
  k_places
  exact ⟨z, rfl, hz, q⟩
abbrev st_wval : Stmt := (topS 7)
theorem sc_wval : FnScope ["value"] ["value"] (defScope st_wval) := ⟨rfl, rfl, rfl, by decide +kernel, rfl, by decide +kernel, by decide +kernel⟩
theorem wval_len {v : P} (h : okV v) : (wval v).length ≤ 30061 := by
  cases v with
  | non => show 1 ≤ _; omega
  | bl b => show 2 ≤ _; omega
  | int i =>
    have := wint_len (i := i) h
    show (wint i).length + 1 ≤ _; omega
  | str z =>
    have := wstr_len (z := z) h
    show (wstr z).length + 1 ≤ _; omega
  | _ => exact h.elim
theorem ok_wval (A : DefAt K mg "write_value" st_wval ["value"]) (m_int : mg "int" = none) (m_bool : mg "bool" = none) (m_isinstance : mg "isinstance" = none)
    (h_write_integer : HasF Pg w K mg base CX0 2 "write_integer" ["number"] (spD K Θ W_wint)) (h_write_boolean : HasF Pg w K mg base CX0 1 "write_boolean" ["value"] (spD K Θ W_wbool)) (h_write_string : HasF Pg w K mg base CX0 4 "write_string" ["text"] (spD K Θ W_wstr)) :
    HasF Pg w K mg base CX0 5 "write_value" ["value"] (spD K Θ (W_wr wval okV)) := by
  have sc := sc_wval
  refine A.okD sc (W_wr wval okV) (fun ds h R ⟨_, e, _⟩ => by rw [e]; rfl) fun f cdv A outer s H E hr => ?_
  refine ⟨_, (pss_cons (ps_if (pt_cmpR op_isU (pv 0) pe_non (nomark _)) (pss_one (ps_ret (pe_lst (pa_cons pe_int pa_nil)))) pss_nil)
  (pss_cons (ps_if (pt_val (pe_callB (call_isiUK (K := K) (by rfl)) (by rfl) m_isinstance (by decide +kernel) (pa_cons (pv 0) (pa_cons (pe_bltn (v := .ty "bool") rfl m_bool (by decide +kernel) rfl) pa_nil)))) (pss_one (ps_ret (pe_op (op_addWK (K := K) (by rfl)) (pe_lst (pa_cons pe_int pa_nil)) (h_write_boolean.call (hr.mono (by first | decide | omega)) rfl pass0 (pa_cons (pv 0) pa_nil))))) pss_nil)
  (pss_cons (ps_if (pt_val (pe_callB (call_isiUK (K := K) (by rfl)) (by rfl) m_isinstance (by decide +kernel) (pa_cons (pv 0) (pa_cons (pe_bltn (v := .ty "int") rfl m_int (by decide +kernel) rfl) pa_nil)))) (pss_one (ps_ret (pe_op (op_addWK (K := K) (by rfl)) (pe_lst (pa_cons pe_int pa_nil)) (h_write_integer.call (hr.mono (by first | decide | omega)) rfl pass0 (pa_cons (pv 0) pa_nil))))) pss_nil)
  (pss_one (ps_ret (pe_op (op_addWK (K := K) (by rfl)) (pe_lst (pa_cons pe_int pa_nil)) (h_write_string.call (hr.mono (by first | decide | omega)) rfl pass0 (pa_cons (pv 0) pa_nil)))))))), ?_⟩
  try dsimp only [cxOf]
  rintro ds h R ⟨v, rfl, hv, q⟩
  have sz := sizeLine_eq
  cases v with
  | non =>
    k_places
    exact q
  | bl b =>
    k_places
    refine ⟨b, rfl, ?_⟩
    refine v2_addWM (i := [.int 1]) rfl rfl (by rw [List.length_map]; show 1 + 1 ≤ _; omega) ?_
    exact q
  | int i =>
    have hl := wint_len (i := i) hv
    k_places
    refine ⟨i, rfl, hv, ?_⟩
    refine v2_addWM (i := [.int 2]) rfl rfl (by rw [List.length_map]; show 1 + _ ≤ _; omega) ?_
    exact q
  | str z =>
    have hl := wstr_len (z := z) hv
    k_places
    refine ⟨z, rfl, hv, ?_⟩
    refine v2_addWM (i := [.int 3]) rfl rfl (by rw [List.length_map]; show 1 + _ ≤ _; omega) ?_
    exact q
  | _ => exact hv.elim
end
end Law

namespace Law
open PySem PySem.Spec PyProof.Rows L2 Kb
-- the steps that are tried: k_clsL a side condition; k_subL one step; k_places steps as long as one fits
local macro_rules | `(tactic| k_subL) => `(tactic| first | (with_reducible refine ve_lst ?_) | (with_reducible refine ve_cls ?_))
/-! codes: numbers, options, lists of numbers, what a column holds, rights, public acts -/
def okO (ok : P → Prop) (v : P) : Prop := v = .non ∨ (ok v ∧ v ≠ .non)
theorem okNs_ne {v : P} (h : okNs v) : v ≠ .non := by
  obtain ⟨xs, rfl, _⟩ := h
  exact fun z => by cases z
section
variable {Pg : Program} {w : World} {K : PySem.W.Frag} {Θ : Tbs} {mg : Str → Option Value} {base : Heap}
abbrev st_wnums : Stmt := (topS 16)
theorem sc_wnums : FnScope ["numbers", "data", "number"] ["numbers"] (defScope st_wnums) := ⟨rfl, rfl, rfl, by decide +kernel, rfl, by decide +kernel, by decide +kernel⟩
theorem ok_wnums (A : DefAt K mg "write_numbers" st_wnums ["numbers"]) (h_write_number : HasF Pg w K mg base CX0 1 "write_number" ["number"] (spD K Θ W_wnum)) : HasF Pg w K mg base CX0 2 "write_numbers" ["numbers"] (spD K Θ (W_wr wNs okNs)) := by
  have sc := sc_wnums
  refine A.okD sc (W_wr wNs okNs) (fun ds h R ⟨_, e, _⟩ => by rw [e]; rfl) fun f cdv A outer s H E hr => ?_
  refine ⟨_, (pss_cons (ps_set (i := 1) sc.nd rfl (.inl rfl) (pe_lst pa_nil))
  (pss_cons (ps_for PassesOwn.never rfl (pi_seqK (K := K) (by rfl) (pv 0)) (pg_name (i := 2) sc.nd rfl (.inl rfl))
  (pss_one (ps_expr (pe_bm PySem.F.plainAttrs_list PySem.F.slot_list_extend PySem.F.type_list_extend (mt_extLK (K := K) (by rfl)) (pv 1) (pa_cons (h_write_number.call (hr.mono (by first | decide | omega)) rfl pass0 (pa_cons (pv 2) pa_nil)) pa_nil)))))
  (pss_one (ps_ret (pv 1))))), ?_⟩
  try dsimp only [cxOf]
  rintro ds h R ⟨v, rfl, hv, q⟩
  have sz := sizeLine_eq
  have hlv := okNs_len hv
  obtain ⟨xs, rfl, hx, xl⟩ := hv
  refine vs_fin ?_
  refine vs_seq ?_
  refine vs_asg ?_
  refine ve_lstO ?_
  k_places
  refine ⟨by simp, ?_⟩
  refine vg_name ?_
  refine vs_seq ?_
  refine vs_for (vi_seqT ?_)
  k_places
  refine ⟨xs, rfl, fun i env' h' => ∃ (o2 : Option D), h' = h ++ [intsO ((xs.take i).flatMap wN)] ∧ env' = [some (dT xs), some (.own h.length), o2], ⟨none, by simp, rfl⟩, fun _ _ _ _ => trivial, ?_, ?_⟩
  · rintro i d env' h' hd ⟨o2, rfl, rfl⟩
    rw [List.getElem?_map] at hd
    cases e : xs[i]? with
    | none => rw [e] at hd; cases hd
    | some y =>
      rw [e] at hd; cases hd
      have oy := hx y (List.mem_of_getElem? e)
      have ly := okN_len oy
      have ef := flat_snoc (w := wN) e
      have lf := flat_take (w := wN) xs (i + 1)
      have hlv : (xs.flatMap wN).length ≤ 240 := hlv
      rw [ef, List.length_append] at lf
      cases y with
      | int n =>
        have on : 0 ≤ n ∧ n < 128 ^ 60 := oy
        refine vg_name ?_
        refine vs_drop ?_
        refine ve_bm ?_
        k_places
        refine ⟨⟨rfl, _, get_last⟩, ?_⟩
        k_places
        refine ⟨n.toNat, by rw [Int.toNat_of_nonneg on.1], by have : (wnum n.toNat).length ≤ 60 := ly; omega, ?_⟩
        k_places
        refine vm_extL (zs := intsP (wnum n.toNat)) get_last rfl (by rw [List.length_map, List.length_map]; have : (wnum n.toNat).length ≤ 60 := ly; omega) ?_
        refine ⟨_, ?_, rfl⟩
        rw [List.set_append_right _ _ (Nat.le_refl _), Nat.sub_self, ef, map_dI, ← List.map_append]
        rfl
      | _ => exact oy.elim
  · rintro env' h' ⟨o2, rfl, rfl⟩
    rw [List.length_map, List.take_length]
    k_places
    refine fin_own ?_ q
    show some (OO.lst _) = some (OO.lst _)
    rw [map_dI]; rfl
abbrev st_wopt : Stmt := (topS 15)
theorem sc_wopt : FnScope ["thing", "write"] ["thing", "write"] (defScope st_wopt) := ⟨rfl, rfl, rfl, by decide +kernel, rfl, by decide +kernel, by decide +kernel⟩
def W_wopt (f : Addr) (ws : P → List Int) (ok : P → Prop) : Spc := fun ds h R => ∃ v : P, ds = [.p v, .p (.cls f)] ∧ okO ok v ∧ (ws v).length ≤ 4000000 ∧ R (dL (intsP (wopt ws v))) h
theorem ok_wopt {f_w : Addr} {ws : P → List Int} {ok : P → Prop} {ps : List Str} {k : Nat} (A : DefAt K mg "write_optional" st_wopt ["thing", "write"]) (hV_write : FnAt Pg w K mg base CX0 k f_w ps (spD K Θ (W_wr ws ok))) : HasF Pg w K mg base CX0 (k + 1) "write_optional" ["thing", "write"] (spD K Θ (W_wopt f_w ws ok)) := by
  have sc := sc_wopt
  refine A.okD sc (W_wopt f_w ws ok) (fun ds h R ⟨_, e, _⟩ => by rw [e]; rfl) fun f cdv A outer s H E hr => ?_
  refine ⟨_, (pss_one (ps_ret (pe_ifExp (pt_cmpR op_isU (pv 0) pe_non (nomark _)) (pe_lst (pa_cons pe_int pa_nil)) (pe_op (op_addWK (K := K) (by rfl)) (pe_lst (pa_cons pe_int pa_nil)) (hV_write.callV (i := 1) (hr.mono (by first | decide | omega)) pass0 rfl (pa_cons (pv 0) pa_nil)))))), ?_⟩
  try dsimp only [cxOf]
  rintro ds h R ⟨v, rfl, hv, hl, q⟩
  have sz := sizeLine_eq
  rcases hv with rfl | ⟨ov, nv⟩
  · k_places
    exact q
  · have ew : wopt ws v = [1] ++ ws v := by
      unfold wopt
      split
      · exact absurd rfl nv
      · rfl
    rw [ew] at q
    have en : isNonD (D.p v) = false := by cases v <;> first | rfl | exact absurd rfl nv
    k_places
    refine ite_ff en ?_
    k_places
    refine ve_callV rfl ?_
    k_places
    refine ⟨v, rfl, ov, ?_⟩
    refine v2_addWM (i := [.int 1]) rfl rfl (by rw [List.length_map]; show 1 + _ ≤ _; omega) ?_
    exact q
theorem wopt_len {ws : P → List Int} {ok : P → Prop} {v : P} {n : Nat} (h : okO ok v) (hl : ∀ u, ok u → (ws u).length ≤ n) : (wopt ws v).length ≤ n + 1 := by
  rcases h with rfl | ⟨h, ne⟩
  · show 1 ≤ _; omega
  · have := hl v h
    have ew : wopt ws v = [1] ++ ws v := by
      unfold wopt
      split
      · exact absurd rfl ne
      · rfl
    rw [ew, List.length_append]
    simp
    omega
abbrev st_woptn : Stmt := (topS 18)
theorem sc_woptn : FnScope ["numbers"] ["numbers"] (defScope st_woptn) := ⟨rfl, rfl, rfl, by decide +kernel, rfl, by decide +kernel, by decide +kernel⟩
theorem opt_len {v : P} (h : okO okNs v) : (wNs v).length ≤ 4000000 := by
  rcases h with rfl | ⟨h, _⟩
  · show 0 ≤ _; omega
  · have := okNs_len h; omega
theorem ok_woptn (A : DefAt K mg "_write_optional_numbers" st_woptn ["numbers"]) {f_write_numbers : Addr} (gf_write_numbers : mg "write_numbers" = some (.ref f_write_numbers)) (h_write_optional : HasF Pg w K mg base CX0 3 "write_optional" ["thing", "write"] (spD K Θ (W_wopt f_write_numbers wNs okNs))) :
    HasF Pg w K mg base CX0 4 "_write_optional_numbers" ["numbers"] (spD K Θ (W_wr (wopt wNs) (okO okNs))) := by
  have sc := sc_woptn
  refine A.okD sc (W_wr (wopt wNs) (okO okNs)) (fun ds h R ⟨_, e, _⟩ => by rw [e]; rfl) fun f cdv A outer s H E hr => ?_
  refine ⟨_, (pss_one (ps_ret (h_write_optional.call (hr.mono (by first | decide | omega)) rfl pass0 (pa_cons (pv 0) (pa_cons (pe_glob (v := .ref f_write_numbers) rfl gf_write_numbers rfl) pa_nil))))), ?_⟩
  try dsimp only [cxOf]
  rintro ds h R ⟨v, rfl, hv, q⟩
  k_places
  exact ⟨v, rfl, hv, opt_len hv, q⟩
abbrev st_wcapn : Stmt := (topS 19)
theorem sc_wcapn : FnScope ["capability"] ["capability"] (defScope st_wcapn) := ⟨rfl, rfl, rfl, by decide +kernel, rfl, by decide +kernel, by decide +kernel⟩
theorem ok_wcapn (A : DefAt K mg "_write_capability_name" st_wcapn ["capability"]) {f_write_numbers : Addr} (gf_write_numbers : mg "write_numbers" = some (.ref f_write_numbers)) (h_write_optional : HasF Pg w K mg base CX0 3 "write_optional" ["thing", "write"] (spD K Θ (W_wopt f_write_numbers wNs okNs))) :
    HasF Pg w K mg base CX0 4 "_write_capability_name" ["capability"] (spD K Θ (W_wr (wopt wNs) (okO okNs))) := by
  have sc := sc_wcapn
  refine A.okD sc (W_wr (wopt wNs) (okO okNs)) (fun ds h R ⟨_, e, _⟩ => by rw [e]; rfl) fun f cdv A outer s H E hr => ?_
  refine ⟨_, (pss_one (ps_ret (h_write_optional.call (hr.mono (by first | decide | omega)) rfl pass0 (pa_cons (pv 0) (pa_cons (pe_glob (v := .ref f_write_numbers) rfl gf_write_numbers rfl) pa_nil))))), ?_⟩
  try dsimp only [cxOf]
  rintro ds h R ⟨v, rfl, hv, q⟩
  k_places
  exact ⟨v, rfl, hv, opt_len hv, q⟩
abbrev st_wspots : Stmt := (topS 20)
theorem sc_wspots : FnScope ["spots"] ["spots"] (defScope st_wspots) := ⟨rfl, rfl, rfl, by decide +kernel, rfl, by decide +kernel, by decide +kernel⟩
def okSp (p : P) : Prop := ∃ xs, p = .tup xs ∧ (∀ x ∈ xs, okNs x) ∧ xs.length ≤ 1000
theorem okSp_len {p : P} (h : okSp p) : (wlst wNs p).length ≤ 240006 := by
  obtain ⟨xs, rfl, hx, hl⟩ := h
  have h1 := flat_le (w := wNs) (m := 240) (xs := xs) fun x hx' => okNs_len (hx x hx')
  have h2 := wnum_6 (n := xs.length) (by omega)
  show (wnum xs.length ++ xs.flatMap wNs).length ≤ _
  rw [List.length_append]
  omega
theorem ok_wspots (A : DefAt K mg "_write_spots" st_wspots ["spots"]) {f_write_numbers : Addr} (gf_write_numbers : mg "write_numbers" = some (.ref f_write_numbers)) (h_write_list : HasF Pg w K mg base CX0 3 "write_list" ["things", "write"] (spD K Θ (W_wlstT f_write_numbers wNs okNs))) :
    HasF Pg w K mg base CX0 4 "_write_spots" ["spots"] (spD K Θ (W_wr (wlst wNs) okSp)) := by
  have sc := sc_wspots
  refine A.okD sc (W_wr (wlst wNs) okSp) (fun ds h R ⟨_, e, _⟩ => by rw [e]; rfl) fun f cdv A outer s H E hr => ?_
  refine ⟨_, (pss_one (ps_ret (h_write_list.call (hr.mono (by first | decide | omega)) rfl pass0 (pa_cons (pv 0) (pa_cons (pe_glob (v := .ref f_write_numbers) rfl gf_write_numbers rfl) pa_nil))))), ?_⟩
  try dsimp only [cxOf]
  rintro ds h R ⟨v, rfl, hv, q⟩
  obtain ⟨xs, rfl, hx, hl⟩ := hv
  have h1 := flat_le (w := wNs) (m := 240) (xs := xs) fun x hx' => okNs_len (hx x hx')
  k_places
  exact ⟨_, xs, rfl, rfl, fun y hy => ⟨hx y hy, by have := okNs_len (hx y hy); omega⟩, by omega, by omega, q⟩
abbrev st_wholds : Stmt := (topS 21)
theorem sc_wholds : FnScope ["holds"] ["holds"] (defScope st_wholds) := ⟨rfl, rfl, rfl, by decide +kernel, rfl, by decide +kernel, by decide +kernel⟩
def holdWs : List Str := ["integer", "text", "boolean", "counter", "letters"]
def whld : P → List Int
  | .str z => [(holdWs.idxOf z : Nat)]
  | .tup [_, p] => [5] ++ wNs p
  | _ => []
def okHd (p : P) : Prop := (∃ z ∈ holdWs, p = .str z) ∨ ∃ x c, p = .tup [.str x, c] ∧ okNs c
theorem okHd_len {p : P} (h : okHd p) : (whld p).length ≤ 241 := by
  rcases h with ⟨z, _, rfl⟩ | ⟨x, c, rfl, hc⟩
  · show 1 ≤ _; omega
  · have := okNs_len hc
    show (wNs c).length + 1 ≤ _
    omega
theorem ok_wholds (A : DefAt K mg "_write_holds" st_wholds ["holds"]) (m_tuple : mg "tuple" = none) (m_len : mg "len" = none) (m_isinstance : mg "isinstance" = none) {c_HOLDS : Addr} (g_HOLDS : mg "HOLDS" = some (.ref c_HOLDS)) (kt : KTup K c_HOLDS (holdWs.map V.str)) (kd : KTd K c_HOLDS) (h_write_numbers : HasF Pg w K mg base CX0 2 "write_numbers" ["numbers"] (spD K Θ (W_wr wNs okNs))) :
    HasF Pg w K mg base CX0 4 "_write_holds" ["holds"] (spD K Θ (W_wr whld okHd)) := by
  have sc := sc_wholds
  refine A.okD sc (W_wr whld okHd) (fun ds h R ⟨_, e, _⟩ => by rw [e]; rfl) fun f cdv A outer s H E hr => ?_
  refine ⟨_, (pss_cons (ps_if (pt_val (pe_callB (call_isiUK (K := K) (by rfl)) (by rfl) m_isinstance (by decide +kernel) (pa_cons (pv 0) (pa_cons (pe_bltn (v := .ty "tuple") rfl m_tuple (by decide +kernel) rfl) pa_nil)))) (pss_one (ps_ret (pe_op (op_addWK (K := K) (by rfl)) (pe_lst (pa_cons (pe_callB (call_lenK (K := K) (by rfl)) (by rfl) m_len (by decide +kernel) (pa_cons (pe_glob (v := .ref c_HOLDS) rfl g_HOLDS rfl) pa_nil)) pa_nil)) (h_write_numbers.call (hr.mono (by first | decide | omega)) rfl pass0 (pa_cons (pe_ix (ix_seqK (K := K) (by rfl)) (pv 0) pe_int (fun _ _ => rfl)) pa_nil))))) pss_nil)
  (pss_one (ps_ret (pe_lst (pa_cons (pe_bm PySem.F.plainAttrs_tuple PySem.F.slot_tuple_index PySem.F.type_tuple_index (mt_tup_indexK (K := K) (by rfl)) (pe_glob (v := .ref c_HOLDS) rfl g_HOLDS rfl) (pa_cons (pv 0) pa_nil)) pa_nil))))), ?_⟩
  try dsimp only [cxOf]
  rintro ds h R ⟨v, rfl, hv, q⟩
  have sz := sizeLine_eq
  rcases hv with ⟨z, hz, rfl⟩ | ⟨x, c, rfl, hc⟩
  · k_places
    refine ve_bmK ?_
    k_places
    refine ⟨c_HOLDS, rfl, kd, ?_⟩
    k_places
    obtain ⟨i1, i2⟩ := idxOf_no hz
    refine vm_indexK kt i1 i2 ?_
    k_places
    exact q
  · have hl := okNs_len hc
    k_places
    refine vc_lenK kt ?_
    k_places
    refine v2_ixT (xs := [.str x, c]) (at_nat 1 (by omega) rfl) ?_
    k_places
    refine ⟨c, rfl, hc, ?_⟩
    refine v2_addWM (i := [.int 5]) rfl rfl (by rw [List.length_map]; show 1 + _ ≤ _; omega) ?_
    exact q
end
end Law

namespace Law
open PySem PySem.Spec PyProof.Rows L2 Kb
-- the steps that are tried: k_clsL a side condition; k_subL one step; k_places steps as long as one fits
local macro_rules | `(tactic| k_subL) => `(tactic| first | (with_reducible refine ve_lst ?_) | (with_reducible refine ve_cls ?_))
/-! codes: rights, public acts -/
def bI (b : Bool) : Int := if b then 1 else 0
def wbl : P → List Int
  | .bl b => [bI b]
  | _ => []
def wrts : P → List Int
  | .tup xs => xs.flatMap fun t => match t with | .tup ys => ys.flatMap wbl | _ => []
  | _ => []
def okRt (p : P) : Prop := ∃ r : Wd.Rts, p = rtsP r ∧ r.length ≤ 4
def rtB (t : Bool × Bool × Bool) : List Bool := [t.1, t.2.1, t.2.2]
theorem wrts_eq (r : Wd.Rts) : wrts (rtsP r) = (r.flatMap rtB).map bI := by
  unfold wrts rtsP
  dsimp only
  rw [List.flatMap_map, List.map_flatMap]
  rfl
theorem okRt_len {p : P} (h : okRt p) : (wrts p).length ≤ 12 := by
  obtain ⟨r, rfl, hl⟩ := h
  rw [wrts_eq, List.length_map]
  have : ∀ r : Wd.Rts, (r.flatMap rtB).length = 3 * r.length := by
    intro r
    induction r with
    | nil => rfl
    | cons t r ih => rw [List.flatMap_cons, List.length_append, ih, List.length_cons]; show 3 + _ = _; omega
  rw [this]; omega
def wpub : P → List Int
  | .tup [.str k, p, r] => if k = Str.ofString "grant" then [0] ++ wN p ++ wrts r else []
  | .tup [.str k, p] => if k = Str.ofString "revoke" then [1] ++ wopt wNs p else []
  | _ => [2]
/-- a public act as the law draws it -/
def okPb (p : P) : Prop := (∃ (i : Int) (r : P), p = .tup [.str "grant", .int i, r] ∧ okN (.int i) ∧ okRt r) ∨ (∃ c : P, p = .tup [.str "revoke", c] ∧ okO okNs c) ∨ p = .tup [.str "seal"]
theorem okPb_len {p : P} (h : okPb p) : (wpub p).length ≤ 242 := by
  rcases h with ⟨i, r, rfl, hi, hr⟩ | ⟨c, rfl, hc⟩ | rfl
  · have h1 := okN_len hi
    have h2 := okRt_len hr
    show ([0] ++ wN (.int i) ++ wrts r).length ≤ _
    rw [List.length_append, List.length_append]
    simp
    omega
  · have h1 := wopt_len (ws := wNs) (n := 240) hc fun u hu => okNs_len hu
    show ([1] ++ wopt wNs c).length ≤ _
    rw [List.length_append]
    simp
    omega
  · show 1 ≤ _; omega
section
variable {Pg : Program} {w : World} {K : PySem.W.Frag} {Θ : Tbs} {mg : Str → Option Value} {base : Heap}
abbrev st_wrts : Stmt := (topS 22)
theorem sc_wrts : FnScope ["rights", "triple", "right"] ["rights"] (defScope st_wrts) := ⟨rfl, rfl, rfl, by decide +kernel, rfl, by decide +kernel, by decide +kernel⟩
theorem ok_wrts (A : DefAt K mg "_write_rights" st_wrts ["rights"]) : HasF Pg w K mg base CX0 1 "_write_rights" ["rights"] (spD K Θ (W_wr wrts okRt)) := by
  have sc := sc_wrts
  refine A.okD sc (W_wr wrts okRt) (fun ds h R ⟨_, e, _⟩ => by rw [e]; rfl) fun f cdv A outer s H E hr => ?_
  refine ⟨_, (pss_one (ps_ret (pe_lc2 (own := [("triple", 1), ("right", 2)]) (vs1 := [2]) rfl sc.nd (pi_seqK (K := K) (by rfl) (pv 0)) (blkOk_by (N := ["rights", "triple", "right"]) (sc := defScope (topS 22)) (by decide +kernel)) (by decide) (fun _ _ _ _ _ => (pg_name (i := 1) sc.nd rfl (.inl rfl))) (fun _ _ _ _ _ => pts_nil) (fun _ _ _ _ _ => (pi_seqK (K := K) (by rfl) (pv 1))) (fun _ _ _ _ _ => (pg_name (i := 2) sc.nd rfl (.inl rfl))) (fun _ _ _ _ _ => pts_nil) (fun _ _ _ _ _ => (pe_ifExp (pt_truthK (K := K) (by rfl) (pv 2) (by intro _; rfl)) pe_int pe_int))))), ?_⟩
  try dsimp only [cxOf]
  rintro ds h R ⟨v, rfl, hv, q⟩
  have sz := sizeLine_eq
  have hl := okRt_len hv
  obtain ⟨r, rfl, rl⟩ := hv
  rw [wrts_eq] at hl q
  rw [List.length_map] at hl
  k_places
  refine ve_lc2L tg_name2 tg_name r (fun t => .p (rtP t)) rtB (fun b => dB b) (fun _ => true) (fun b => .int (bI b)) ?_
  refine vi_seqT ?_
  k_places
  refine ⟨r.map rtP, rfl, by rw [List.map_map]; rfl, by omega, fun _ => trivial, fun t ht acc => ?_, ?_⟩
  · refine vg_name ⟨rfl, vt_yes ⟨rfl, rfl, ?_⟩⟩
    refine vi_seqT ?_
    k_places
    refine ⟨[.bl t.1, .bl t.2.1, .bl t.2.2], rfl, rfl, rfl, fun _ => trivial, fun b hb acc => ?_⟩
    refine vg_name ⟨rfl, vt_yes ⟨rfl, rfl, fun _ => ?_⟩⟩
    cases b with
    | true => k_places; exact ⟨rfl, rfl⟩
    | false => k_places; exact ⟨rfl, rfl⟩
  · rw [filter_tt]
    have e : (r.flatMap rtB).map (fun b => P.int (bI b)) = intsP ((r.flatMap rtB).map bI) := by
      show _ = ((r.flatMap rtB).map bI).map P.int
      rw [List.map_map]; rfl
    rw [e]
    exact q
abbrev st_wpub : Stmt := (topS 23)
theorem sc_wpub : FnScope ["act"] ["act"] (defScope st_wpub) := ⟨rfl, rfl, rfl, by decide +kernel, rfl, by decide +kernel, by decide +kernel⟩
theorem ok_wpub (A : DefAt K mg "_write_public" st_wpub ["act"]) (h_write_number : HasF Pg w K mg base CX0 1 "write_number" ["number"] (spD K Θ W_wnum)) (h__write_rights : HasF Pg w K mg base CX0 1 "_write_rights" ["rights"] (spD K Θ (W_wr wrts okRt)))
    (h__write_capability_name : HasF Pg w K mg base CX0 4 "_write_capability_name" ["capability"] (spD K Θ (W_wr (wopt wNs) (okO okNs)))) : HasF Pg w K mg base CX0 5 "_write_public" ["act"] (spD K Θ (W_wr wpub okPb)) := by
  have sc := sc_wpub
  refine A.okD sc (W_wr wpub okPb) (fun ds h R ⟨_, e, _⟩ => by rw [e]; rfl) fun f cdv A outer s H E hr => ?_
  refine ⟨_, (pss_cons (ps_if (pt_cmpR (op_eqUK (K := K) (by rfl) hr.units) (pe_ix (ix_seqK (K := K) (by rfl)) (pv 0) pe_int (fun _ _ => rfl)) pe_str (nomark _)) (pss_one (ps_ret (pe_op (op_addWK (K := K) (by rfl)) (pe_op (op_addWK (K := K) (by rfl)) (pe_lst (pa_cons pe_int pa_nil)) (h_write_number.call (hr.mono (by first | decide | omega)) rfl pass0 (pa_cons (pe_ix (ix_seqK (K := K) (by rfl)) (pv 0) pe_int (fun _ _ => rfl)) pa_nil))) (h__write_rights.call (hr.mono (by first | decide | omega)) rfl pass0 (pa_cons (pe_ix (ix_seqK (K := K) (by rfl)) (pv 0) pe_int (fun _ _ => rfl)) pa_nil))))) pss_nil)
  (pss_one (ps_ret (pe_ifExp (pt_cmpR (op_eqUK (K := K) (by rfl) hr.units) (pe_ix (ix_seqK (K := K) (by rfl)) (pv 0) pe_int (fun _ _ => rfl)) pe_str (nomark _)) (pe_op (op_addWK (K := K) (by rfl)) (pe_lst (pa_cons pe_int pa_nil)) (h__write_capability_name.call (hr.mono (by first | decide | omega)) rfl pass0 (pa_cons (pe_ix (ix_seqK (K := K) (by rfl)) (pv 0) pe_int (fun _ _ => rfl)) pa_nil))) (pe_lst (pa_cons pe_int pa_nil)))))), ?_⟩
  try dsimp only [cxOf]
  rintro ds h R ⟨v, rfl, hv, q⟩
  have sz := sizeLine_eq
  rcases hv with ⟨i, r, rfl, hi, hr⟩ | ⟨c, rfl, hc⟩ | rfl
  · have h1 := okN_len hi
    have h2 := okRt_len hr
    have on : 0 ≤ i ∧ i < 128 ^ 60 := hi
    have q : R (dL (intsP ([0] ++ wnum i.toNat ++ wrts r))) h := q
    have h1 : (wnum i.toNat).length ≤ 60 := h1
    k_places
    refine v2_ixT (xs := [.str "grant", .int i, r]) (at_nat 0 (by omega) rfl) ?_
    k_places
    refine v2_ixT (xs := [.str "grant", .int i, r]) (at_nat 1 (by omega) rfl) ?_
    k_places
    refine ⟨i.toNat, by rw [Int.toNat_of_nonneg on.1], by omega, ?_⟩
    refine v2_addWM (i := [.int 0]) rfl rfl (by rw [List.length_map]; show 1 + _ ≤ _; omega) ?_
    k_places
    refine v2_ixT (xs := [.str "grant", .int i, r]) (at_nat 2 (by omega) rfl) ?_
    k_places
    refine ⟨r, rfl, hr, ?_⟩
    refine v2_addWM (i := [P.int 0] ++ intsP (wnum i.toNat)) (j := intsP (wrts r)) rfl rfl (by rw [List.length_append, List.length_map, List.length_map]; show 1 + _ + _ ≤ _; omega) ?_
    have e : [P.int 0] ++ intsP (wnum i.toNat) ++ intsP (wrts r) = intsP ([0] ++ wnum i.toNat ++ wrts r) := by simp only [intsP, List.map_append]; rfl
    rw [e]
    exact q
  · have h1 := wopt_len (ws := wNs) (n := 240) hc fun u hu => okNs_len hu
    have q : R (dL (intsP ([1] ++ wopt wNs c))) h := q
    k_places
    refine v2_ixT (xs := [.str "revoke", c]) (at_nat 0 (by omega) rfl) ?_
    k_places
    refine v2_ixT (xs := [.str "revoke", c]) (at_nat 0 (by omega) rfl) ?_
    k_places
    refine v2_ixT (xs := [.str "revoke", c]) (at_nat 1 (by omega) rfl) ?_
    k_places
    refine ⟨c, rfl, hc, ?_⟩
    refine v2_addWM (i := [.int 1]) rfl rfl (by rw [List.length_map]; show 1 + _ ≤ _; omega) ?_
    exact q
  · k_places
    refine v2_ixT (xs := [.str "seal"]) (at_nat 0 (by omega) rfl) ?_
    k_places
    refine v2_ixT (xs := [.str "seal"]) (at_nat 0 (by omega) rfl) ?_
    k_places
    exact q
end
end Law

namespace Law
open PySem PySem.Spec PyProof.Rows L2 Kb
-- the steps that are tried: k_clsL a side condition; k_subL one step; k_places steps as long as one fits
local macro_rules | `(tactic| k_subL) => `(tactic| first | (with_reducible refine ve_lst ?_) | (with_reducible refine ve_cls ?_))
/-! codes: acts -/
def actsT : List (Str × List Str) := [("table", ["string"]), ("column", ["spot", "string", "holds"]), ("unique", ["spot", "spots"]), ("row", ["spot"]), ("drop", ["spot"]), ("put", ["spot", "spot", "value"]), ("refer", ["spot", "spot", "optional spot"]), ("add", ["spot", "spot", "integer"]), ("insert", ["spot", "spot", "optional mark", "string"]), ("remove", ["mark"]), ("undo", ["name"])]
abbrev actWs : List Str := actsT.map fun q => q.1
inductive Fm where
  | str | spot | spots | holds | value | int | opt
deriving DecidableEq
def fmT : List (Str × Fm) := [("string", .str), ("spot", .spot), ("spots", .spots), ("holds", .holds), ("value", .value), ("integer", .int), ("optional spot", .opt), ("optional mark", .opt), ("mark", .spot), ("name", .spot)]
def fmOf (z : Str) : Option Fm := (fmT.find? fun q => decide (q.1 = z)).map fun q => q.2
def wF : Fm → P → List Int
  | .str, .str z => wstr z
  | .spot, p => wNs p
  | .spots, p => wlst wNs p
  | .holds, p => whld p
  | .value, p => wval p
  | .int, .int i => wint i
  | .opt, p => wopt wNs p
  | _, _ => []
def okF : Fm → P → Prop
  | .str, p => ∃ z, p = .str z ∧ okZ z
  | .spot, p => okNs p
  | .spots, p => okSp p
  | .holds, p => okHd p
  | .value, p => okV p
  | .int, p => ∃ i, p = .int i ∧ okI i
  | .opt, p => okO okNs p
theorem okF_len {f : Fm} {p : P} (h : okF f p) : (wF f p).length ≤ 240006 := by
  cases f with
  | str => obtain ⟨z, rfl, hz⟩ := h; have := wstr_len hz; show (wstr z).length ≤ _; omega
  | spot => have := okNs_len (p := p) h; show (wNs p).length ≤ _; omega
  | spots => exact okSp_len h
  | holds => have := okHd_len (p := p) h; show (whld p).length ≤ _; omega
  | value => have := wval_len (v := p) h; show (wval p).length ≤ _; omega
  | int => obtain ⟨i, rfl, hi⟩ := h; have := wint_len hi; show (wint i).length ≤ _; omega
  | opt => have := wopt_len (ws := wNs) (n := 240) (v := p) h fun u hu => okNs_len hu; show (wopt wNs p).length ≤ _; omega
/-- an act: the number of its kind, its fields by their forms -/
def fieldsB : List Fm → List P → List Int
  | f :: fs, p :: ps => wF f p ++ fieldsB fs ps
  | _, _ => []
inductive okFs : List Fm → List P → Prop
  | nil : okFs [] []
  | cons {f : Fm} {p : P} {fs : List Fm} {ps : List P} : okF f p → okFs fs ps → okFs (f :: fs) (p :: ps)
structure ActB (j : Nat) (k : Str) (zs : List Str) (fs : List Fm) (ps : List P) : Prop where
  at_ : actsT[j]? = some (k, zs)
  fm : zs.map fmOf = fs.map some
  ok : okFs fs ps
def okAct (p : P) : Prop := ∃ j k zs fs ps, p = .tup (.str k :: ps) ∧ ActB j k zs fs ps
def wact : P → List Int
  | .tup (.str k :: ps) => match actsT.find? fun q => decide (q.1 = k) with
    | some q => wnum (actWs.idxOf k) ++ fieldsB (q.2.filterMap fmOf) ps
    | none => []
  | _ => []
theorem actsT_idx : ∀ (j : Nat) (q : Str × List Str), actsT[j]? = some q → actWs.idxOf q.1 = j ∧ actsT.find? (fun y => decide (y.1 = q.1)) = some q ∧ q.2.length ≤ 4 := by
  intro j q h
  have hj : j < 11 := (List.getElem?_eq_some_iff.mp h).1
  match j, hj with
  | 0, _ => cases h; exact ⟨by decide +kernel, by decide +kernel, by decide⟩
  | 1, _ => cases h; exact ⟨by decide +kernel, by decide +kernel, by decide⟩
  | 2, _ => cases h; exact ⟨by decide +kernel, by decide +kernel, by decide⟩
  | 3, _ => cases h; exact ⟨by decide +kernel, by decide +kernel, by decide⟩
  | 4, _ => cases h; exact ⟨by decide +kernel, by decide +kernel, by decide⟩
  | 5, _ => cases h; exact ⟨by decide +kernel, by decide +kernel, by decide⟩
  | 6, _ => cases h; exact ⟨by decide +kernel, by decide +kernel, by decide⟩
  | 7, _ => cases h; exact ⟨by decide +kernel, by decide +kernel, by decide⟩
  | 8, _ => cases h; exact ⟨by decide +kernel, by decide +kernel, by decide⟩
  | 9, _ => cases h; exact ⟨by decide +kernel, by decide +kernel, by decide⟩
  | 10, _ => cases h; exact ⟨by decide +kernel, by decide +kernel, by decide⟩
theorem fm_filter {zs : List Str} {fs : List Fm} (h : zs.map fmOf = fs.map some) : zs.filterMap fmOf = fs := by
  induction zs generalizing fs with
  | nil => cases fs with
    | nil => rfl
    | cons f fs => cases h
  | cons z zs ih => cases fs with
    | nil => cases h
    | cons f fs =>
      simp only [List.map_cons, List.cons.injEq] at h
      rw [List.filterMap_cons_some h.1, ih h.2]
theorem wact_eq {j : Nat} {k : Str} {zs : List Str} {fs : List Fm} {ps : List P} (h : ActB j k zs fs ps) : wact (.tup (.str k :: ps)) = wnum j ++ fieldsB fs ps := by
  obtain ⟨h1, h2, _⟩ := actsT_idx j _ h.at_
  show (match actsT.find? fun q => decide (q.1 = k) with
    | some q => wnum (actWs.idxOf k) ++ fieldsB (q.2.filterMap fmOf) ps
    | none => []) = _
  rw [show actsT.find? (fun q => decide (q.1 = k)) = some (k, zs) from h2]
  dsimp only
  rw [show actWs.idxOf k = j from h1, fm_filter h.fm]
theorem okFs_len {fs : List Fm} {ps : List P} (h : okFs fs ps) : fs.length = ps.length := by
  induction h with
  | nil => rfl
  | cons _ _ ih => rw [List.length_cons, List.length_cons, ih]
theorem okFs_get {i : Nat} {f : Fm} {p : P} : ∀ {fs : List Fm} {ps : List P}, okFs fs ps → fs[i]? = some f → ps[i]? = some p → okF f p
  | _, _, .nil, h, _ => by cases h
  | _, _, .cons h r, h1, h2 => by
    cases i with
    | zero => cases h1; cases h2; exact h
    | succ i => exact okFs_get (i := i) r (by simpa using h1) (by simpa using h2)
theorem fieldsB_snoc {i : Nat} {f : Fm} {p : P} : ∀ {fs : List Fm} {ps : List P}, fs[i]? = some f → ps[i]? = some p → fieldsB (fs.take (i + 1)) (ps.take (i + 1)) = fieldsB (fs.take i) (ps.take i) ++ wF f p
  | [], _, h, _ => by cases h
  | _ :: _, [], _, h => by cases h
  | a :: fs, b :: ps, h1, h2 => by
    cases i with
    | zero => cases h1; cases h2; simp [fieldsB]
    | succ i =>
      have := fieldsB_snoc (i := i) (f := f) (p := p) (fs := fs) (ps := ps) (by simpa using h1) (by simpa using h2)
      rw [List.take_succ_cons, List.take_succ_cons, List.take_succ_cons, List.take_succ_cons]
      show wF a b ++ fieldsB _ _ = (wF a b ++ fieldsB _ _) ++ _
      rw [this, List.append_assoc]
theorem fieldsB_len : ∀ {fs : List Fm} {ps : List P}, okFs fs ps → ∀ i, (fieldsB (fs.take i) (ps.take i)).length ≤ 240006 * i
  | _, _, .nil, i => by rw [List.take_nil, List.take_nil]; show 0 ≤ _; omega
  | _, _, .cons (f := f) (p := p) (fs := fs) (ps := ps) h r, i => by
    cases i with
    | zero => show 0 ≤ _; omega
    | succ i =>
      have h1 := okF_len h
      have h2 := fieldsB_len r i
      rw [List.take_succ_cons, List.take_succ_cons]
      show (wF f p ++ fieldsB _ _).length ≤ _
      rw [List.length_append]
      omega
theorem wact_len {p : P} (h : okAct p) : (wact p).length ≤ 960030 := by
  obtain ⟨j, k, zs, fs, ps, rfl, a⟩ := h
  rw [wact_eq a, List.length_append]
  have h1 := fieldsB_len a.ok 4
  obtain ⟨_, _, h2⟩ := actsT_idx j _ a.at_
  have h2 : zs.length ≤ 4 := h2
  have hf : fs.length = zs.length := by have := congrArg List.length a.fm; simpa using this.symm
  have hp := okFs_len a.ok
  rw [List.take_of_length_le (by omega), List.take_of_length_le (by omega)] at h1
  have hj : j < 11 := (List.getElem?_eq_some_iff.mp a.at_).1
  have h3 := wnum_6 (n := j) (by omega)
  omega
end Law

namespace Law
open PySem PySem.Spec PyProof.Rows L2 Kb
-- the steps that are tried: k_clsL a side condition; k_subL one step; k_places steps as long as one fits
local macro_rules | `(tactic| k_subL) => `(tactic| first | (with_reducible refine ve_cls ?_))
/-! codes: write_act -/
/-- what the top holds of the forms of acts -/
structure TopA (K : PySem.W.Frag) (w : World) (cA cF : Addr) (pa fa : Nat → Addr) (ff : Fm → Addr) : Prop where
  outer : KTup K cA ((List.range 11).map fun j => V.ref (pa j))
  pair : ∀ j q, actsT[j]? = some q → KTup K (pa j) [V.str q.1, V.ref (fa j)]
  forms : ∀ j q, actsT[j]? = some q → KTup K (fa j) (q.2.map V.str)
  flds : ∀ z f, fmOf z = some f → KDct K w cF z (.ref (ff f))
theorem cks_refs : ∀ as : List Addr, CKs (as.map fun a => D.p (.cls a)) (as.map V.ref)
  | [] => .nil
  | a :: as => .cons (.ref a) (cks_refs as)
section
variable {Pg : Program} {w : World} {K : PySem.W.Frag} {Θ : Tbs} {mg : Str → Option Value} {base : Heap} {cA cF : Addr} {pa fa : Nat → Addr} {ff : Fm → Addr}
abbrev st_wact : Stmt := (topS 8)
theorem sc_wact : FnScope ["act", "number", "data", "form", "field", "write_field", "word", "forms"] ["act"] (defScope st_wact) := ⟨rfl, rfl, rfl, by decide +kernel, rfl, by decide +kernel, by decide +kernel⟩
theorem ok_wact (A : DefAt K mg "write_act" st_wact ["act"]) (TA : TopA K w cA cF pa fa ff) (g_ACTS : mg "ACTS" = some (.ref cA)) (g_FIELDS : mg "FIELDS" = some (.ref cF)) (m_zip : mg "zip" = none) (h_wnumO : HasF Pg w K mg base CX0 1 "write_number" ["number"] (spD K Θ W_wnumO))
    (hV_str : FnAt Pg w K mg base CX0 5 (ff .str) ["text"] (spD K Θ W_wstr)) (hV_spot : FnAt Pg w K mg base CX0 5 (ff .spot) ["numbers"] (spD K Θ (W_wr wNs okNs))) (hV_spots : FnAt Pg w K mg base CX0 5 (ff .spots) ["spots"] (spD K Θ (W_wr (wlst wNs) okSp)))
    (hV_holds : FnAt Pg w K mg base CX0 5 (ff .holds) ["holds"] (spD K Θ (W_wr whld okHd))) (hV_value : FnAt Pg w K mg base CX0 5 (ff .value) ["value"] (spD K Θ (W_wr wval okV))) (hV_int : FnAt Pg w K mg base CX0 5 (ff .int) ["number"] (spD K Θ W_wint))
    (hV_opt : FnAt Pg w K mg base CX0 5 (ff .opt) ["numbers"] (spD K Θ (W_wr (wopt wNs) (okO okNs)))) : HasF Pg w K mg base CX0 6 "write_act" ["act"] (spD K Θ (W_wr wact okAct)) := by
  have sc := sc_wact
  refine A.okD sc (W_wr wact okAct) (fun ds h R ⟨_, e, _⟩ => by rw [e]; rfl) fun f cdv A outer s H E hr => ?_
  refine ⟨_, (pss_cons (ps_set (i := 1) sc.nd rfl (.inl rfl) (pe_bm PySem.F.plainAttrs_list PySem.F.slot_list_index PySem.F.type_list_index (mt_indexK (K := K) (by rfl)) (pe_lc (own := [("word", 6), ("forms", 7)]) rfl sc.nd (pi_seqK (K := K) (by rfl) (pe_glob (v := .ref cA) rfl g_ACTS rfl)) (blkOk_by (N := ["act", "number", "data", "form", "field", "write_field", "word", "forms"]) (sc := defScope (topS 8)) (by decide +kernel)) (fun _ _ _ _ _ => (pg_tupK (K := K) (n := 2) (by rfl) rfl (pgs_cons (pg_name (i := 6) sc.nd rfl (.inl rfl)) (pgs_cons (pg_name (i := 7) sc.nd rfl (.inl rfl)) pgs_nil)))) (fun _ _ _ _ _ => pts_nil) (fun _ _ _ _ _ => (pv 6))) (pa_cons (pe_ix (ix_seqK (K := K) (by rfl)) (pv 0) pe_int (fun _ _ => rfl)) pa_nil)))
  (pss_cons (ps_set (i := 2) sc.nd rfl (.inl rfl) (h_wnumO.call (hr.mono (by first | decide | omega)) rfl pass0 (pa_cons (pv 1) pa_nil)))
  (pss_cons (ps_for PassesOwn.never rfl (pi_zipK (K := K) (by rfl) (by rfl) m_zip (pa_cons (pe_ix (ix_seqK (K := K) (by rfl)) (pe_ix (ix_seqK (K := K) (by rfl)) (pe_glob (v := .ref cA) rfl g_ACTS rfl) (pv 1) (fun _ _ => rfl)) pe_int (fun _ _ => rfl)) (pa_cons (pe_slice (sl_tupAK (K := K) (by rfl)) (pv 0) (po_some pe_int) po_none) pa_nil))) (pg_tupK (K := K) (n := 2) (by rfl) rfl (pgs_cons (pg_name (i := 3) sc.nd rfl (.inl rfl)) (pgs_cons (pg_name (i := 4) sc.nd rfl (.inl rfl)) pgs_nil)))
  (pss_cons (ps_set (i := 5) sc.nd rfl (.inl rfl) (pe_ix (ix_kdictK (K := K) (w := w) (by rfl) (by rfl)) (pe_glob (v := .ref cF) rfl g_FIELDS rfl) (pv 3) (fun _ _ => rfl)))
  (pss_one (ps_expr (pe_bm PySem.F.plainAttrs_list PySem.F.slot_list_extend PySem.F.type_list_extend (mt_extLK (K := K) (by rfl)) (pv 2) (pa_cons (pe_orE (hV_str.callV (i := 5) (hr.mono (by first | decide | omega)) pass0 rfl (pa_cons (pv 4) pa_nil)) (pe_orE (hV_spot.callV (i := 5) (hr.mono (by first | decide | omega)) pass0 rfl (pa_cons (pv 4) pa_nil)) (pe_orE (hV_spots.callV (i := 5) (hr.mono (by first | decide | omega)) pass0 rfl (pa_cons (pv 4) pa_nil)) (pe_orE (hV_holds.callV (i := 5) (hr.mono (by first | decide | omega)) pass0 rfl (pa_cons (pv 4) pa_nil)) (pe_orE (hV_value.callV (i := 5) (hr.mono (by first | decide | omega)) pass0 rfl (pa_cons (pv 4) pa_nil)) (pe_orE (hV_int.callV (i := 5) (hr.mono (by first | decide | omega)) pass0 rfl (pa_cons (pv 4) pa_nil)) (hV_opt.callV (i := 5) (hr.mono (by first | decide | omega)) pass0 rfl (pa_cons (pv 4) pa_nil)))))))) pa_nil))))))
  (pss_one (ps_ret (pv 2)))))), ?_⟩
  try dsimp only [cxOf]
  rintro ds h R ⟨v, rfl, hv, q⟩
  have sz := sizeLine_eq
  have hlv := wact_len hv
  obtain ⟨j, k, zs, fs, ps, rfl, a⟩ := hv
  obtain ⟨i1, i2, i3⟩ := actsT_idx j _ a.at_
  have i3 : zs.length ≤ 4 := i3
  have lf : fs.length = zs.length := by have := congrArg List.length a.fm; simpa using this.symm
  have lp := okFs_len a.ok
  have hj : j < 11 := (List.getElem?_eq_some_iff.mp a.at_).1
  have wj := wnum_6 (n := j) (by omega)
  rw [wact_eq a] at q hlv
  have ekey : ∀ (j : Nat) (q : Str × List Str), actsT[j]? = some q → actWs[j]? = some q.1 := fun j q h => by show (actsT.map fun q => q.1)[j]? = _; rw [List.getElem?_map, h]; rfl
  refine vs_fin ?_
  refine vs_seq ?_
  refine vs_asg ?_
  refine ve_bm ?_
  refine ve_lcL tg_tup2 (List.range 11) (fun j => .p (.cls (pa j))) (fun _ => true) (fun j => .str ((actWs[j]?).getD "")) ?_
  refine vi_seqK ?_
  k_places
  refine ⟨cA, (List.range 11).map fun j => .p (.cls (pa j)), _, rfl, TA.outer, ?_, ?_⟩
  · have := cks_refs ((List.range 11).map pa)
    rw [List.map_map, List.map_map] at this
    exact this
  refine ⟨rfl, by simp; omega, fun _ => trivial, fun j' hj' acc => ?_, ?_⟩
  · have hj' : j' < actsT.length := List.mem_range.mp hj'
    have ej := List.getElem?_eq_getElem hj'
    refine vg_tupK (TA.pair j' _ ej) (.cons (.str _) (.cons (.ref _) .nil)) rfl (vgs_cons (vg_name (vgs_cons (vg_name (vgs_nil ⟨rfl, vt_yes ⟨rfl, rfl, fun _ => ?_⟩⟩)))))
    k_places
    refine ⟨rfl, ?_⟩
    rw [ekey j' _ ej]; rfl
  rw [filter_tt]
  have ew : (List.range 11).map (fun j => P.str ((actWs[j]?).getD "")) = actWs.map P.str := by rfl
  rw [ew]
  k_places
  refine ⟨rfl, ?_⟩
  k_places
  refine v2_ixT (xs := .str k :: ps) (at_nat 0 (by omega) rfl) ?_
  k_places
  refine vm_indexL (ys := actWs) (j := j) (ekey j _ a.at_) (fun m hm e => ?_) ?_
  · have hm' : m < 11 := by omega
    have e2 := List.getElem?_eq_getElem (l := actsT) (i := m) hm'
    have e3 := ekey m _ e2
    rw [e] at e3
    have e4 := (actsT_idx m _ e2).1
    rw [← Option.some.inj e3] at e4
    have i1 : actWs.idxOf k = j := i1
    omega
  k_places
  refine ⟨j, rfl, by omega, fun junk n hn hx => ?_⟩
  k_places
  have ckA : CKs ((List.range 11).map fun j => D.p (.cls (pa j))) ((List.range 11).map fun j => V.ref (pa j)) := by
    have := cks_refs ((List.range 11).map pa)
    rw [List.map_map, List.map_map] at this
    exact this
  have eA : ((List.range 11).map fun j => D.p (.cls (pa j)))[j]? = some (.p (.cls (pa j))) := by rw [List.getElem?_map, List.getElem?_range hj]; rfl
  refine vs_for (vi_zipK ?_)
  k_places
  refine v2_ixK TA.outer ckA eA ?_
  k_places
  refine v2_ixK (i := 1) (TA.pair j _ a.at_) (.cons (.str _) (.cons (.ref _) .nil)) rfl ?_
  k_places
  have ec : cutP (P.str k :: ps) (some 1) none = ps := by
    unfold cutP
    rw [show (some (1 : Int)) = some ((1 : Nat) : Int) from rfl, HT.sIx_nat, HT.sIx_none, List.length_cons, show min 1 (ps.length + 1) = 1 by omega]
    simp
  refine ve_slT ?_
  k_places
  refine vo_some ?_
  k_places
  refine ⟨1, rfl, ?_⟩
  refine vo_none ?_
  refine ⟨_, rfl, ?_⟩
  rw [ec]
  k_places
  refine ⟨fa j, zs, ps, rfl, TA.forms j _ a.at_, ?_⟩
  refine ⟨fun i env' h' => ∃ (junk : Hs) (o3 o4 o5 : Option D), env' = [some (dT (.str k :: ps)), some (dI j), some (.own n), o3, o4, o5, none, none] ∧ h' = h ++ junk ∧ h'[n]? = some (intsO (wnum j ++ fieldsB (fs.take i) (ps.take i))), ?_, ?_, ?_, ?_⟩
  · exact ⟨junk, none, none, none, rfl, rfl, by rw [List.take_zero, List.take_zero, show fieldsB [] [] = [] from rfl, List.append_nil]; exact hx⟩
  · exact fun _ _ _ _ => trivial
  · rintro i d env' h' hd ⟨junk, o3, o4, o5, rfl, rfl, hx⟩
    unfold zipP at hd
    rw [List.getElem?_map] at hd
    cases e : ((zs.map P.str).zip ps)[i]? with
    | none => rw [e] at hd; cases hd
    | some y =>
      rw [e] at hd; cases hd
      obtain ⟨y1, p⟩ := y
      obtain ⟨g1, g2⟩ := Kb.zip_get e
      rw [List.getElem?_map] at g1
      cases ez : zs[i]? with
      | none => rw [ez] at g1; cases g1
      | some z =>
        rw [ez] at g1; cases g1
        have hfm : (zs.map fmOf)[i]? = (fs.map some)[i]? := by rw [a.fm]
        rw [List.getElem?_map, List.getElem?_map, ez] at hfm
        cases ef : fs[i]? with
        | none => rw [ef] at hfm; cases hfm
        | some f =>
          rw [ef] at hfm
          have hz : fmOf z = some f := Option.some.inj hfm
          have g2 : ps[i]? = some p := g2
          have of := okFs_get a.ok ef g2
          have es := fieldsB_snoc ef g2
          have ll := fieldsB_len a.ok i
          have l2 := okF_len of
          have hi4 : i < 4 := by have := (List.getElem?_eq_some_iff.mp ez).1; omega
          have nl : n < (h ++ junk).length := (List.getElem?_eq_some_iff.mp hx).1
          refine vg_tup rfl (vgs_cons (vg_name (vgs_cons (vg_name (vgs_nil ?_)))))
          refine vs_seq ?_
          refine vs_asg ?_
          k_places
          refine v2_ixDK (TA.flds z f hz) ?_
          k_places
          refine ve_bm ?_
          k_places
          refine ⟨⟨rfl, _, hx⟩, ?_⟩
          refine va_cons ?_
          have hw : (wnum j ++ fieldsB (fs.take i) (ps.take i)).length + (wF f p).length ≤ sizeLine := by rw [List.length_append]; omega
          have ex : ∀ bs : List Int, bs = wF f p → ((h ++ junk).set n (some (.lst ((wnum j ++ fieldsB (fs.take i) (ps.take i)).map dI ++ (intsP bs).map D.p)))) = h ++ junk.set (n - h.length) (intsO (wnum j ++ fieldsB (fs.take (i + 1)) (ps.take (i + 1)))) := by
            rintro bs rfl
            rw [List.set_append_right _ _ hn, es, map_dI]; simp [intsO]
          have ey : (h ++ junk.set (n - h.length) (intsO (wnum j ++ fieldsB (fs.take (i + 1)) (ps.take (i + 1)))))[n]? = some (intsO (wnum j ++ fieldsB (fs.take (i + 1)) (ps.take (i + 1)))) := by
            rw [← ex _ rfl]
            rw [List.getElem?_set_self nl, es, map_dI]; simp [intsO]
          cases f with
          | str =>
            obtain ⟨z', rfl, oz⟩ := of
            refine ve_or1 (ve_callV rfl ?_)
            k_places
            refine ⟨_, rfl, oz, ?_⟩
            k_places
            refine vm_extL (zs := intsP (wF .str (.str z'))) hx rfl (by rw [List.length_map, List.length_map]; exact hw) ?_
            refine ⟨_, _, _, _, rfl, ex _ rfl, ?_⟩
            rw [ex _ rfl]
            exact ey
          | spot =>
            refine ve_or2 (ve_or1 (ve_callV rfl ?_))
            k_places
            refine ⟨_, rfl, of, ?_⟩
            k_places
            refine vm_extL (zs := intsP (wF .spot p)) hx rfl (by rw [List.length_map, List.length_map]; exact hw) ?_
            refine ⟨_, _, _, _, rfl, ex _ rfl, ?_⟩
            rw [ex _ rfl]
            exact ey
          | spots =>
            refine ve_or2 (ve_or2 (ve_or1 (ve_callV rfl ?_)))
            k_places
            refine ⟨_, rfl, of, ?_⟩
            k_places
            refine vm_extL (zs := intsP (wF .spots p)) hx rfl (by rw [List.length_map, List.length_map]; exact hw) ?_
            refine ⟨_, _, _, _, rfl, ex _ rfl, ?_⟩
            rw [ex _ rfl]
            exact ey
          | holds =>
            refine ve_or2 (ve_or2 (ve_or2 (ve_or1 (ve_callV rfl ?_))))
            k_places
            refine ⟨_, rfl, of, ?_⟩
            k_places
            refine vm_extL (zs := intsP (wF .holds p)) hx rfl (by rw [List.length_map, List.length_map]; exact hw) ?_
            refine ⟨_, _, _, _, rfl, ex _ rfl, ?_⟩
            rw [ex _ rfl]
            exact ey
          | value =>
            refine ve_or2 (ve_or2 (ve_or2 (ve_or2 (ve_or1 (ve_callV rfl ?_)))))
            k_places
            refine ⟨_, rfl, of, ?_⟩
            k_places
            refine vm_extL (zs := intsP (wF .value p)) hx rfl (by rw [List.length_map, List.length_map]; exact hw) ?_
            refine ⟨_, _, _, _, rfl, ex _ rfl, ?_⟩
            rw [ex _ rfl]
            exact ey
          | int =>
            obtain ⟨z', rfl, oz⟩ := of
            refine ve_or2 (ve_or2 (ve_or2 (ve_or2 (ve_or2 (ve_or1 (ve_callV rfl ?_))))))
            k_places
            refine ⟨_, rfl, oz, ?_⟩
            k_places
            refine vm_extL (zs := intsP (wF .int (.int z'))) hx rfl (by rw [List.length_map, List.length_map]; exact hw) ?_
            refine ⟨_, _, _, _, rfl, ex _ rfl, ?_⟩
            rw [ex _ rfl]
            exact ey
          | opt =>
            refine ve_or2 (ve_or2 (ve_or2 (ve_or2 (ve_or2 (ve_or2 (ve_callV rfl ?_))))))
            k_places
            refine ⟨_, rfl, of, ?_⟩
            k_places
            refine vm_extL (zs := intsP (wF .opt p)) hx rfl (by rw [List.length_map, List.length_map]; exact hw) ?_
            refine ⟨_, _, _, _, rfl, ex _ rfl, ?_⟩
            rw [ex _ rfl]
            exact ey
  · rintro env' h' ⟨junk, o3, o4, o5, rfl, rfl, hx⟩
    have el : (zipP (zs.map P.str) ps).length = fs.length := by
      unfold zipP
      rw [List.length_map, List.length_zip, List.length_map]
      omega
    rw [el, List.take_length, lp, List.take_length] at hx
    dsimp only
    k_places
    exact ⟨junk, rfl, .inr (.inl ⟨n, intsP (wnum j ++ fieldsB fs ps), rfl, hn, by rw [map_dI]; exact hx, q⟩)⟩
end
end Law

namespace Law
open PySem PySem.Spec PyProof.Rows L2 Kb
-- the steps that are tried: k_clsL a side condition; k_subL one step; k_places steps as long as one fits
local macro_rules | `(tactic| k_subL) => `(tactic| first | (with_reducible refine ve_lst ?_) | (with_reducible refine ve_cls ?_))
/-! codes: parts of a change, what is kept -/
/-- a list of things whose bytes are few -/
def okL (ws : P → List Int) (ok : P → Prop) (m l : Nat) (p : P) : Prop := ∃ xs, p = .tup xs ∧ (∀ x ∈ xs, ok x ∧ (ws x).length ≤ m) ∧ xs.length ≤ l
theorem okL_len {ws : P → List Int} {ok : P → Prop} {m l : Nat} {p : P} (h : okL ws ok m l p) (hl : l ≤ 10000) : (wlst ws p).length ≤ m * l + 6 := by
  obtain ⟨xs, rfl, hx, hl'⟩ := h
  have h1 := flat_le (w := ws) (m := m) (xs := xs) fun x hx' => (hx x hx').2
  have h2 := wnum_6 (n := xs.length) (by omega)
  have h3 : m * xs.length ≤ m * l := Nat.mul_le_mul_left m hl'
  show (wnum xs.length ++ xs.flatMap ws).length ≤ _
  rw [List.length_append]
  omega
/-- parts: acts of no more than 3000 bytes -/
def okPr (p : P) : Prop := okL wact okAct 3000 100 p
def wpr : P → List Int := wlst wact
/-- a pair of a name and an act -/
def wkact : P → List Int
  | .tup [s, a] => wNs s ++ wact a
  | _ => []
def okKa (p : P) : Prop := ∃ s a, p = .tup [s, a] ∧ okNs s ∧ okAct a
def wksum : P → List Int
  | .tup [.tup [r, c], .int i] => wNs r ++ wNs c ++ wint i
  | _ => []
def okKs (p : P) : Prop := ∃ r c i, p = .tup [.tup [r, c], .int i] ∧ okNs r ∧ okNs c ∧ okI i
def wkchr : P → List Int
  | .tup [m, .str z] => wNs m ++ wnum (z.cps.getD 0 0)
  | _ => []
def okKc (p : P) : Prop := ∃ m c, p = .tup [m, .str ⟨#[c]⟩] ∧ okNs m ∧ c < 2 ^ 40
section
variable {Pg : Program} {w : World} {K : PySem.W.Frag} {Θ : Tbs} {mg : Str → Option Value} {base : Heap}
abbrev st_wprt : Stmt := (topS 24)
theorem sc_wprt : FnScope ["acts"] ["acts"] (defScope st_wprt) := ⟨rfl, rfl, rfl, by decide +kernel, rfl, by decide +kernel, by decide +kernel⟩
theorem ok_wprt (A : DefAt K mg "_write_part" st_wprt ["acts"]) {f_write_act : Addr} (gf_write_act : mg "write_act" = some (.ref f_write_act)) (h_write_list : HasF Pg w K mg base CX0 7 "write_list" ["things", "write"] (spD K Θ (W_wlstT f_write_act wact okAct))) :
    HasF Pg w K mg base CX0 8 "_write_part" ["acts"] (spD K Θ (W_wr wpr okPr)) := by
  have sc := sc_wprt
  refine A.okD sc (W_wr wpr okPr) (fun ds h R ⟨_, e, _⟩ => by rw [e]; rfl) fun f cdv A outer s H E hr => ?_
  refine ⟨_, (pss_one (ps_ret (h_write_list.call (hr.mono (by first | decide | omega)) rfl pass0 (pa_cons (pv 0) (pa_cons (pe_glob (v := .ref f_write_act) rfl gf_write_act rfl) pa_nil))))), ?_⟩
  try dsimp only [cxOf]
  rintro ds h R ⟨v, rfl, hv, q⟩
  have h1 := okL_len hv (by omega)
  obtain ⟨xs, rfl, hx, hl⟩ := hv
  have h2 : (wpr (.tup xs)).length = (wnum xs.length).length + (xs.flatMap wact).length := by show (wnum xs.length ++ xs.flatMap wact).length = _; rw [List.length_append]
  have h1 : (wpr (.tup xs)).length ≤ 3000 * 100 + 6 := h1
  k_places
  exact ⟨_, xs, rfl, rfl, fun y hy => ⟨(hx y hy).1, by have := (hx y hy).2; omega⟩, by omega, by omega, q⟩
abbrev st_wkact : Stmt := (topS 25)
theorem sc_wkact : FnScope ["pair"] ["pair"] (defScope st_wkact) := ⟨rfl, rfl, rfl, by decide +kernel, rfl, by decide +kernel, by decide +kernel⟩
theorem ok_wkact (A : DefAt K mg "_write_kept_act" st_wkact ["pair"]) (h_write_numbers : HasF Pg w K mg base CX0 2 "write_numbers" ["numbers"] (spD K Θ (W_wr wNs okNs))) (h_write_act : HasF Pg w K mg base CX0 6 "write_act" ["act"] (spD K Θ (W_wr wact okAct))) :
    HasF Pg w K mg base CX0 7 "_write_kept_act" ["pair"] (spD K Θ (W_wr wkact okKa)) := by
  have sc := sc_wkact
  refine A.okD sc (W_wr wkact okKa) (fun ds h R ⟨_, e, _⟩ => by rw [e]; rfl) fun f cdv A outer s H E hr => ?_
  refine ⟨_, (pss_one (ps_ret (pe_op (op_addWK (K := K) (by rfl)) (h_write_numbers.call (hr.mono (by first | decide | omega)) rfl pass0 (pa_cons (pe_ix (ix_seqK (K := K) (by rfl)) (pv 0) pe_int (fun _ _ => rfl)) pa_nil)) (h_write_act.call (hr.mono (by first | decide | omega)) rfl pass0 (pa_cons (pe_ix (ix_seqK (K := K) (by rfl)) (pv 0) pe_int (fun _ _ => rfl)) pa_nil))))), ?_⟩
  try dsimp only [cxOf]
  rintro ds h R ⟨v, rfl, hv, q⟩
  have sz := sizeLine_eq
  obtain ⟨s, a, rfl, hs, ha⟩ := hv
  have h1 := okNs_len hs
  have h2 := wact_len ha
  k_places
  refine v2_ixT (xs := [s, a]) (at_nat 0 (by omega) rfl) ?_
  k_places
  refine ⟨s, rfl, hs, ?_⟩
  k_places
  refine v2_ixT (xs := [s, a]) (at_nat 1 (by omega) rfl) ?_
  k_places
  refine ⟨a, rfl, ha, ?_⟩
  refine v2_addWM (i := intsP (wNs s)) (j := intsP (wact a)) rfl rfl (by rw [List.length_map, List.length_map]; omega) ?_
  have e : intsP (wNs s) ++ intsP (wact a) = intsP (wkact (.tup [s, a])) := by simp only [intsP, ← List.map_append]; rfl
  rw [e]
  exact q
abbrev st_wksum : Stmt := (topS 26)
theorem sc_wksum : FnScope ["pair", "row", "column", "total"] ["pair"] (defScope st_wksum) := ⟨rfl, rfl, rfl, by decide +kernel, rfl, by decide +kernel, by decide +kernel⟩
theorem ok_wksum (A : DefAt K mg "_write_kept_sum" st_wksum ["pair"]) (h_write_numbers : HasF Pg w K mg base CX0 2 "write_numbers" ["numbers"] (spD K Θ (W_wr wNs okNs))) (h_write_integer : HasF Pg w K mg base CX0 2 "write_integer" ["number"] (spD K Θ W_wint)) :
    HasF Pg w K mg base CX0 3 "_write_kept_sum" ["pair"] (spD K Θ (W_wr wksum okKs)) := by
  have sc := sc_wksum
  refine A.okD sc (W_wr wksum okKs) (fun ds h R ⟨_, e, _⟩ => by rw [e]; rfl) fun f cdv A outer s H E hr => ?_
  refine ⟨_, (pss_cons (ps_asg (pv 0) (pg_tupK (K := K) (n := 2) (by rfl) rfl (pgs_cons (pg_tupK (K := K) (n := 2) (by rfl) rfl (pgs_cons (pg_name (i := 1) sc.nd rfl (.inl rfl)) (pgs_cons (pg_name (i := 2) sc.nd rfl (.inl rfl)) pgs_nil))) (pgs_cons (pg_name (i := 3) sc.nd rfl (.inl rfl)) pgs_nil))))
  (pss_one (ps_ret (pe_op (op_addWK (K := K) (by rfl)) (pe_op (op_addWK (K := K) (by rfl)) (h_write_numbers.call (hr.mono (by first | decide | omega)) rfl pass0 (pa_cons (pv 1) pa_nil)) (h_write_numbers.call (hr.mono (by first | decide | omega)) rfl pass0 (pa_cons (pv 2) pa_nil))) (h_write_integer.call (hr.mono (by first | decide | omega)) rfl pass0 (pa_cons (pv 3) pa_nil)))))), ?_⟩
  try dsimp only [cxOf]
  rintro ds h R ⟨v, rfl, hv, q⟩
  have sz := sizeLine_eq
  obtain ⟨r, c, i, rfl, hr', hc, hi⟩ := hv
  have h1 := okNs_len hr'
  have h2 := okNs_len hc
  have h3 := wint_len hi
  k_places
  refine vg_tup (ds := [.tup [r, c], .int i]) rfl ?_
  refine vgs_cons ?_
  refine vg_tup (ds := [r, c]) rfl ?_
  refine vgs_cons (vg_name (vgs_cons (vg_name (vgs_nil ?_))))
  refine vgs_cons (vg_name (vgs_nil ?_))
  dsimp only
  k_places
  refine ⟨r, rfl, hr', ?_⟩
  k_places
  refine ⟨c, rfl, hc, ?_⟩
  refine v2_addWM (i := intsP (wNs r)) (j := intsP (wNs c)) rfl rfl (by rw [List.length_map, List.length_map]; omega) ?_
  k_places
  refine ⟨i, rfl, hi, ?_⟩
  refine v2_addWM (i := intsP (wNs r) ++ intsP (wNs c)) (j := intsP (wint i)) rfl rfl (by rw [List.length_append, List.length_map, List.length_map, List.length_map]; omega) ?_
  have e : intsP (wNs r) ++ intsP (wNs c) ++ intsP (wint i) = intsP (wksum (.tup [.tup [r, c], .int i])) := by simp only [intsP, ← List.map_append]; rfl
  rw [e]
  exact q
abbrev st_wkchr : Stmt := (topS 28)
theorem sc_wkchr : FnScope ["pair"] ["pair"] (defScope st_wkchr) := ⟨rfl, rfl, rfl, by decide +kernel, rfl, by decide +kernel, by decide +kernel⟩
theorem okKc_len {p : P} (h : okKc p) : (wkchr p).length ≤ 246 := by
  obtain ⟨m, c, rfl, hm, hc⟩ := h
  have h1 := okNs_len hm
  have h2 := wnum_6 (n := c) (by omega)
  show (wNs m ++ wnum c).length ≤ _
  rw [List.length_append]; omega
theorem ok_wkchr (A : DefAt K mg "_write_kept_character" st_wkchr ["pair"]) (h_write_numbers : HasF Pg w K mg base CX0 2 "write_numbers" ["numbers"] (spD K Θ (W_wr wNs okNs))) (h__write_character : HasF Pg w K mg base CX0 2 "_write_character" ["character"] (spD K Θ W_wchr)) :
    HasF Pg w K mg base CX0 3 "_write_kept_character" ["pair"] (spD K Θ (W_wr wkchr okKc)) := by
  have sc := sc_wkchr
  refine A.okD sc (W_wr wkchr okKc) (fun ds h R ⟨_, e, _⟩ => by rw [e]; rfl) fun f cdv A outer s H E hr => ?_
  refine ⟨_, (pss_one (ps_ret (pe_op (op_addWK (K := K) (by rfl)) (h_write_numbers.call (hr.mono (by first | decide | omega)) rfl pass0 (pa_cons (pe_ix (ix_seqK (K := K) (by rfl)) (pv 0) pe_int (fun _ _ => rfl)) pa_nil)) (h__write_character.call (hr.mono (by first | decide | omega)) rfl pass0 (pa_cons (pe_ix (ix_seqK (K := K) (by rfl)) (pv 0) pe_int (fun _ _ => rfl)) pa_nil))))), ?_⟩
  try dsimp only [cxOf]
  rintro ds h R ⟨v, rfl, hv, q⟩
  have sz := sizeLine_eq
  have hl := okKc_len hv
  obtain ⟨m, c, rfl, hm, hc⟩ := hv
  have h1 := okNs_len hm
  have h2 := wnum_6 (n := c) (by omega)
  k_places
  refine v2_ixT (xs := [m, .str ⟨#[c]⟩]) (at_nat 0 (by omega) rfl) ?_
  k_places
  refine ⟨m, rfl, hm, ?_⟩
  k_places
  refine v2_ixT (xs := [m, .str ⟨#[c]⟩]) (at_nat 1 (by omega) rfl) ?_
  k_places
  refine ⟨c, rfl, hc, ?_⟩
  refine v2_addWM (i := intsP (wNs m)) (j := intsP (wchr c)) rfl rfl (by rw [List.length_map, List.length_map]; show _ + (wnum c).length ≤ _; omega) ?_
  have e : intsP (wNs m) ++ intsP (wchr c) = intsP (wkchr (.tup [m, .str ⟨#[c]⟩])) := by simp only [intsP, ← List.map_append]; rfl
  rw [e]
  exact q
/-- what is kept of the characters of a cell: they stand in a list -/
def wktxt : P → List Int
  | .tup [.tup [r, c], .lst cs] => wNs r ++ wNs c ++ (wnum cs.length ++ cs.flatMap wkchr)
  | _ => []
def okKt (p : P) : Prop := ∃ r c cs, p = .tup [.tup [r, c], .lst cs] ∧ okNs r ∧ okNs c ∧ (∀ x ∈ cs, okKc x) ∧ cs.length ≤ 100
theorem okKt_len {p : P} (h : okKt p) : (wktxt p).length ≤ 30000 := by
  obtain ⟨r, c, cs, rfl, hr, hc, hx, hl⟩ := h
  have h1 := okNs_len hr
  have h2 := okNs_len hc
  have h3 := flat_le (w := wkchr) (m := 246) (xs := cs) fun x hx' => okKc_len (hx x hx')
  have h4 := wnum_6 (n := cs.length) (by omega)
  show (wNs r ++ wNs c ++ (wnum cs.length ++ cs.flatMap wkchr)).length ≤ _
  rw [List.length_append, List.length_append, List.length_append]
  omega
abbrev st_wktxt : Stmt := (topS 27)
theorem sc_wktxt : FnScope ["pair", "row", "column", "characters"] ["pair"] (defScope st_wktxt) := ⟨rfl, rfl, rfl, by decide +kernel, rfl, by decide +kernel, by decide +kernel⟩
theorem ok_wktxt (A : DefAt K mg "_write_kept_text" st_wktxt ["pair"]) {f__write_kept_character : Addr} (gf__write_kept_character : mg "_write_kept_character" = some (.ref f__write_kept_character)) (h_write_numbers : HasF Pg w K mg base CX0 2 "write_numbers" ["numbers"] (spD K Θ (W_wr wNs okNs))) (h_write_list : HasF Pg w K mg base CX0 4 "write_list" ["things", "write"] (spD K Θ (W_wlstT f__write_kept_character wkchr okKc))) :
    HasF Pg w K mg base CX0 5 "_write_kept_text" ["pair"] (spD K Θ (W_wr wktxt okKt)) := by
  have sc := sc_wktxt
  refine A.okD sc (W_wr wktxt okKt) (fun ds h R ⟨_, e, _⟩ => by rw [e]; rfl) fun f cdv A outer s H E hr => ?_
  refine ⟨_, (pss_cons (ps_asg (pv 0) (pg_tupK (K := K) (n := 2) (by rfl) rfl (pgs_cons (pg_tupK (K := K) (n := 2) (by rfl) rfl (pgs_cons (pg_name (i := 1) sc.nd rfl (.inl rfl)) (pgs_cons (pg_name (i := 2) sc.nd rfl (.inl rfl)) pgs_nil))) (pgs_cons (pg_name (i := 3) sc.nd rfl (.inl rfl)) pgs_nil))))
  (pss_one (ps_ret (pe_op (op_addWK (K := K) (by rfl)) (pe_op (op_addWK (K := K) (by rfl)) (h_write_numbers.call (hr.mono (by first | decide | omega)) rfl pass0 (pa_cons (pv 1) pa_nil)) (h_write_numbers.call (hr.mono (by first | decide | omega)) rfl pass0 (pa_cons (pv 2) pa_nil))) (h_write_list.call (hr.mono (by first | decide | omega)) rfl pass0 (pa_cons (pv 3) (pa_cons (pe_glob (v := .ref f__write_kept_character) rfl gf__write_kept_character rfl) pa_nil))))))), ?_⟩
  try dsimp only [cxOf]
  rintro ds h R ⟨v, rfl, hv, q⟩
  have sz := sizeLine_eq
  obtain ⟨r, c, cs, rfl, hr', hc, hx, hl⟩ := hv
  have h1 := okNs_len hr'
  have h2 := okNs_len hc
  have h3 := flat_le (w := wkchr) (m := 246) (xs := cs) fun x hx' => okKc_len (hx x hx')
  have h4 := wnum_6 (n := cs.length) (by omega)
  k_places
  refine vg_tup (ds := [.tup [r, c], .lst cs]) rfl ?_
  refine vgs_cons ?_
  refine vg_tup (ds := [r, c]) rfl ?_
  refine vgs_cons (vg_name (vgs_cons (vg_name (vgs_nil ?_))))
  refine vgs_cons (vg_name (vgs_nil ?_))
  dsimp only
  k_places
  refine ⟨r, rfl, hr', ?_⟩
  k_places
  refine ⟨c, rfl, hc, ?_⟩
  refine v2_addWM (i := intsP (wNs r)) (j := intsP (wNs c)) rfl rfl (by rw [List.length_map, List.length_map]; omega) ?_
  k_places
  refine ⟨_, cs, rfl, rfl, fun y hy => ⟨hx y hy, by have := okKc_len (hx y hy); omega⟩, by omega, by omega, ?_⟩
  refine v2_addWM (i := intsP (wNs r) ++ intsP (wNs c)) (j := intsP (wnum cs.length ++ cs.flatMap wkchr)) rfl rfl (by rw [List.length_append, List.length_map, List.length_map, List.length_map, List.length_append]; omega) ?_
  have e : intsP (wNs r) ++ intsP (wNs c) ++ intsP (wnum cs.length ++ cs.flatMap wkchr) = intsP (wktxt (.tup [.tup [r, c], .lst cs])) := by simp only [intsP, ← List.map_append]; rfl
  rw [e]
  exact q
end
end Law

namespace Law
open PySem PySem.Spec PyProof.Rows L2 Kb
-- the steps that are tried: k_clsL a side condition; k_subL one step; k_places steps as long as one fits
local macro_rules | `(tactic| k_subL) => `(tactic| first | (with_reducible refine ve_lst ?_) | (with_reducible refine ve_cls ?_))
/-! codes: what is kept of a space, of a capability -/
/-- the bytes of a list as such -/
def wls (ws : P → List Int) (xs : List P) : List Int := wnum xs.length ++ xs.flatMap ws
def okLs (ws : P → List Int) (ok : P → Prop) (m l : Nat) (xs : List P) : Prop := (∀ x ∈ xs, ok x ∧ (ws x).length ≤ m) ∧ xs.length ≤ l
theorem okLs_len {ws : P → List Int} {ok : P → Prop} {m l : Nat} {xs : List P} (h : okLs ws ok m l xs) (hl : l ≤ 10000) : (wls ws xs).length ≤ m * l + 6 ∧ (xs.flatMap ws).length ≤ m * l := by
  obtain ⟨hx, hl'⟩ := h
  have h1 := flat_le (w := ws) (m := m) (xs := xs) fun x hx' => (hx x hx').2
  have h2 := wnum_6 (n := xs.length) (by omega)
  have h3 : m * xs.length ≤ m * l := Nat.mul_le_mul_left m hl'
  refine ⟨?_, by omega⟩
  show (wnum xs.length ++ xs.flatMap ws).length ≤ _
  rw [List.length_append]
  omega
def wkpt : P → List Int
  | .ins _ [(_, .lst as), (_, .lst ss), (_, .lst ts)] => wls wkact as ++ wls wksum ss ++ wls wktxt ts
  | _ => []
def okKp (C : Addr) (p : P) : Prop := ∃ as ss ts, p = .ins C (keptF as ss ts) ∧ okLs wkact okKa 4000 20 as ∧ okLs wksum okKs 1000 20 ss ∧ okLs wktxt okKt 30000 20 ts
theorem wkpt_eq (C : Addr) (as ss ts : List P) : wkpt (.ins C (keptF as ss ts)) = wls wkact as ++ wls wksum ss ++ wls wktxt ts := rfl
theorem okKp_len {C : Addr} {p : P} (h : okKp C p) : (wkpt p).length ≤ 800000 := by
  obtain ⟨as, ss, ts, rfl, h1, h2, h3⟩ := h
  have l1 := (okLs_len h1 (by omega)).1
  have l2 := (okLs_len h2 (by omega)).1
  have l3 := (okLs_len h3 (by omega)).1
  rw [wkpt_eq, List.length_append, List.length_append]
  omega
/-- what is kept of a capability -/
def wcapE : P → List Int
  | .tup [c, p, .int i, r] => wNs c ++ wopt wNs p ++ wN (.int i) ++ wrts r
  | _ => []
def okCe (x : P) : Prop := ∃ c p i r, x = .tup [c, p, .int i, r] ∧ okNs c ∧ okO okNs p ∧ okN (.int i) ∧ okRt r
section
variable {Pg : Program} {w : World} {K : PySem.W.Frag} {Θ : Tbs} {mg : Str → Option Value} {base : Heap} {CK : Addr}
abbrev st_wkpt : Stmt := (topS 10)
theorem sc_wkpt : FnScope ["kept", "data"] ["kept"] (defScope st_wkpt) := ⟨rfl, rfl, rfl, by decide +kernel, rfl, by decide +kernel, by decide +kernel⟩
theorem ok_wkpt (A : DefAt K mg "write_kept" st_wkpt ["kept"]) (T : KptC K mg CK) {f__write_kept_act f__write_kept_sum f__write_kept_text : Addr} (gf__write_kept_act : mg "_write_kept_act" = some (.ref f__write_kept_act)) (gf__write_kept_sum : mg "_write_kept_sum" = some (.ref f__write_kept_sum)) (gf__write_kept_text : mg "_write_kept_text" = some (.ref f__write_kept_text))
    (h_wlA : HasF Pg w K mg base CX0 8 "write_list" ["things", "write"] (spD K Θ (W_wlstT f__write_kept_act wkact okKa))) (h_wlS : HasF Pg w K mg base CX0 4 "write_list" ["things", "write"] (spD K Θ (W_wlstT f__write_kept_sum wksum okKs))) (h_wlT : HasF Pg w K mg base CX0 6 "write_list" ["things", "write"] (spD K Θ (W_wlstT f__write_kept_text wktxt okKt))) :
    HasF Pg w K mg base CX0 9 "write_kept" ["kept"] (spD K Θ (W_wr wkpt (okKp CK))) := by
  have sc := sc_wkpt
  refine A.okD sc (W_wr wkpt (okKp CK)) (fun ds h R ⟨_, e, _⟩ => by rw [e]; rfl) fun f cdv A outer s H E hr => ?_
  refine ⟨_, (pss_cons (ps_set (i := 1) sc.nd rfl (.inl rfl) (pe_op (op_addWK (K := K) (by rfl)) (h_wlA.call (hr.mono (by first | decide | omega)) rfl pass0 (pa_cons (pe_fldK (K := K) (by rfl) (pv 0) rfl) (pa_cons (pe_glob (v := .ref f__write_kept_act) rfl gf__write_kept_act rfl) pa_nil))) (h_wlS.call (hr.mono (by first | decide | omega)) rfl pass0 (pa_cons (pe_fldK (K := K) (by rfl) (pv 0) rfl) (pa_cons (pe_glob (v := .ref f__write_kept_sum) rfl gf__write_kept_sum rfl) pa_nil)))))
  (pss_one (ps_ret (pe_op (op_addWK (K := K) (by rfl)) (pv 1) (h_wlT.call (hr.mono (by first | decide | omega)) rfl pass0 (pa_cons (pe_fldK (K := K) (by rfl) (pv 0) rfl) (pa_cons (pe_glob (v := .ref f__write_kept_text) rfl gf__write_kept_text rfl) pa_nil))))))), ?_⟩
  try dsimp only [cxOf]
  rintro ds h R ⟨v, rfl, hv, q⟩
  have sz := sizeLine_eq
  obtain ⟨as, ss, ts, rfl, h1, h2, h3⟩ := hv
  have l1 := okLs_len h1 (by omega)
  have l2 := okLs_len h2 (by omega)
  have l3 := okLs_len h3 (by omega)
  rw [wkpt_eq] at q
  k_places
  refine ve_fld ?_
  k_places
  refine ⟨CK, dL as, T.cl, T.n1, ⟨rfl, by kernel_rfl⟩, ?_⟩
  k_places
  refine ⟨_, as, rfl, rfl, fun y hy => ⟨(h1.1 y hy).1, by have := (h1.1 y hy).2; omega⟩, by have := h1.2; omega, by omega, ?_⟩
  k_places
  refine ve_fld ?_
  k_places
  refine ⟨CK, dL ss, T.cl, T.n2, ⟨rfl, by kernel_rfl⟩, ?_⟩
  k_places
  refine ⟨_, ss, rfl, rfl, fun y hy => ⟨(h2.1 y hy).1, by have := (h2.1 y hy).2; omega⟩, by have := h2.2; omega, by omega, ?_⟩
  refine v2_addWM (i := intsP (wls wkact as)) (j := intsP (wls wksum ss)) rfl rfl (by rw [List.length_map, List.length_map]; omega) ?_
  k_places
  refine ve_fld ?_
  k_places
  refine ⟨CK, dL ts, T.cl, T.n3, ⟨rfl, by kernel_rfl⟩, ?_⟩
  k_places
  refine ⟨_, ts, rfl, rfl, fun y hy => ⟨(h3.1 y hy).1, by have := (h3.1 y hy).2; omega⟩, by have := h3.2; omega, by omega, ?_⟩
  refine v2_addWM (i := intsP (wls wkact as) ++ intsP (wls wksum ss)) (j := intsP (wls wktxt ts)) rfl rfl (by rw [List.length_append, List.length_map, List.length_map, List.length_map]; omega) ?_
  have e : intsP (wls wkact as) ++ intsP (wls wksum ss) ++ intsP (wls wktxt ts) = intsP (wls wkact as ++ wls wksum ss ++ wls wktxt ts) := by simp only [intsP, ← List.map_append]
  rw [e]
  exact q
abbrev st_wcapE : Stmt := (topS 11)
theorem sc_wcapE : FnScope ["entry", "capability", "parent", "holder", "rights"] ["entry"] (defScope st_wcapE) := ⟨rfl, rfl, rfl, by decide +kernel, rfl, by decide +kernel, by decide +kernel⟩
theorem ok_wcapE (A : DefAt K mg "write_capability" st_wcapE ["entry"]) (h_write_number : HasF Pg w K mg base CX0 1 "write_number" ["number"] (spD K Θ W_wnum)) (h_write_numbers : HasF Pg w K mg base CX0 2 "write_numbers" ["numbers"] (spD K Θ (W_wr wNs okNs)))
    (h__write_capability_name : HasF Pg w K mg base CX0 4 "_write_capability_name" ["capability"] (spD K Θ (W_wr (wopt wNs) (okO okNs)))) (h__write_rights : HasF Pg w K mg base CX0 1 "_write_rights" ["rights"] (spD K Θ (W_wr wrts okRt))) :
    HasF Pg w K mg base CX0 5 "write_capability" ["entry"] (spD K Θ (W_wr wcapE okCe)) := by
  have sc := sc_wcapE
  refine A.okD sc (W_wr wcapE okCe) (fun ds h R ⟨_, e, _⟩ => by rw [e]; rfl) fun f cdv A outer s H E hr => ?_
  refine ⟨_, (pss_cons (ps_asg (pv 0) (pg_tupK (K := K) (n := 4) (by rfl) rfl (pgs_cons (pg_name (i := 1) sc.nd rfl (.inl rfl)) (pgs_cons (pg_name (i := 2) sc.nd rfl (.inl rfl)) (pgs_cons (pg_name (i := 3) sc.nd rfl (.inl rfl)) (pgs_cons (pg_name (i := 4) sc.nd rfl (.inl rfl)) pgs_nil))))))
  (pss_one (ps_ret (pe_op (op_addWK (K := K) (by rfl)) (pe_op (op_addWK (K := K) (by rfl)) (pe_op (op_addWK (K := K) (by rfl)) (h_write_numbers.call (hr.mono (by first | decide | omega)) rfl pass0 (pa_cons (pv 1) pa_nil)) (h__write_capability_name.call (hr.mono (by first | decide | omega)) rfl pass0 (pa_cons (pv 2) pa_nil))) (h_write_number.call (hr.mono (by first | decide | omega)) rfl pass0 (pa_cons (pv 3) pa_nil))) (h__write_rights.call (hr.mono (by first | decide | omega)) rfl pass0 (pa_cons (pv 4) pa_nil)))))), ?_⟩
  try dsimp only [cxOf]
  rintro ds h R ⟨v, rfl, hv, q⟩
  have sz := sizeLine_eq
  obtain ⟨c, p, i, r, rfl, hc, hp, hi, hr'⟩ := hv
  have h1 := okNs_len hc
  have h2 := wopt_len (ws := wNs) (n := 240) hp fun u hu => okNs_len hu
  have h3 : (wnum i.toNat).length ≤ 60 := okN_len hi
  have h4 := okRt_len hr'
  have on : 0 ≤ i ∧ i < 128 ^ 60 := hi
  k_places
  refine vg_tup (ds := [c, p, .int i, r]) rfl ?_
  refine vgs_cons (vg_name (vgs_cons (vg_name (vgs_cons (vg_name (vgs_cons (vg_name (vgs_nil ?_))))))))
  k_places
  refine ⟨c, rfl, hc, ?_⟩
  k_places
  refine ⟨p, rfl, hp, ?_⟩
  refine v2_addWM (i := intsP (wNs c)) (j := intsP (wopt wNs p)) rfl rfl (by rw [List.length_map, List.length_map]; omega) ?_
  k_places
  refine ⟨i.toNat, by rw [Int.toNat_of_nonneg on.1], by omega, ?_⟩
  refine v2_addWM (i := intsP (wNs c) ++ intsP (wopt wNs p)) (j := intsP (wnum i.toNat)) rfl rfl (by rw [List.length_append, List.length_map, List.length_map, List.length_map]; omega) ?_
  k_places
  refine ⟨r, rfl, hr', ?_⟩
  refine v2_addWM (i := intsP (wNs c) ++ intsP (wopt wNs p) ++ intsP (wnum i.toNat)) (j := intsP (wrts r)) rfl rfl (by rw [List.length_append, List.length_append, List.length_map, List.length_map, List.length_map, List.length_map]; omega) ?_
  have e : intsP (wNs c) ++ intsP (wopt wNs p) ++ intsP (wnum i.toNat) ++ intsP (wrts r) = intsP (wcapE (.tup [c, p, .int i, r])) := by simp only [intsP, ← List.map_append]; rfl
  rw [e]
  exact q
end
end Law

namespace Law
open PySem PySem.Spec PyProof.Rows L2 Kb
-- the steps that are tried: k_clsL a side condition; k_subL one step; k_places steps as long as one fits
local macro_rules | `(tactic| k_subL) => `(tactic| first | (with_reducible refine ve_lst ?_) | (with_reducible refine ve_cls ?_))
/-! codes: a change -/
def wchg : P → List Int
  | .ins _ [(_, .int a), (_, .int b), (_, .tup hs), (_, cp), (_, .tup ps), (_, .tup ts)] => wN (.int a) ++ wN (.int b) ++ wls wN hs ++ (wopt wNs cp ++ wls wpub ps) ++ ts.flatMap (wopt wpr)
  | _ => []
theorem okNs2 {a b : Int} (ha : okN (.int a)) (hb : okN (.int b)) : okNs (.tup [.int a, .int b]) := by
  refine ⟨_, rfl, fun x hx => ?_, by show 2 ≤ 4; omega⟩
  rcases List.mem_cons.mp hx with rfl | hx
  · exact ha
  rcases List.mem_cons.mp hx with rfl | hx
  · exact hb
  cases hx
structure ChgB (a b : Int) (hs : List P) (cp : P) (ps ts : List P) : Prop where
  a : okN (.int a)
  b : okN (.int b)
  h : ∀ x ∈ hs, okN x
  hl : hs.length ≤ 20
  c : okO okNs cp
  p : ∀ x ∈ ps, okPb x
  pl : ps.length ≤ 20
  t : ∀ x ∈ ts, okO okPr x
  tl : ts.length ≤ 4
def okChg (C : Addr) (p : P) : Prop := ∃ a b hs cp ps ts, p = .ins C (chgF a b (.tup hs) cp (.tup ps) (.tup ts)) ∧ ChgB a b hs cp ps ts
theorem wchg_eq (C : Addr) (a b : Int) (hs : List P) (cp : P) (ps ts : List P) : wchg (.ins C (chgF a b (.tup hs) cp (.tup ps) (.tup ts))) = wN (.int a) ++ wN (.int b) ++ wls wN hs ++ (wopt wNs cp ++ wls wpub ps) ++ ts.flatMap (wopt wpr) := rfl
theorem okPr_len {p : P} (h : okPr p) : (wpr p).length ≤ 300006 := by
  have := okL_len h (by omega)
  exact this
theorem okOPr_len {p : P} (h : okO okPr p) : (wopt wpr p).length ≤ 300007 := wopt_len h fun u hu => okPr_len hu
theorem oPr_len {p : P} (h : okO okPr p) : (wpr p).length ≤ 4000000 := by
  rcases h with rfl | ⟨h, _⟩
  · show 0 ≤ _; omega
  · have := okPr_len h; omega
structure ChgL (a b : Int) (hs : List P) (cp : P) (ps ts : List P) : Prop where
  a : (wN (.int a)).length ≤ 60
  b : (wN (.int b)).length ≤ 60
  h : (wls wN hs).length ≤ 1206 ∧ (hs.flatMap wN).length ≤ 1200
  c : (wopt wNs cp).length ≤ 241
  p : (wls wpub ps).length ≤ 4846 ∧ (ps.flatMap wpub).length ≤ 4840
  t : (ts.flatMap (wopt wpr)).length ≤ 1200028
theorem ChgB.len {a b : Int} {hs : List P} {cp : P} {ps ts : List P} (B : ChgB a b hs cp ps ts) : ChgL a b hs cp ps ts where
  a := okN_len B.a
  b := okN_len B.b
  h := by have := okLs_len (ws := wN) (ok := okN) (m := 60) (l := 20) (xs := hs) ⟨fun x hx => ⟨B.h x hx, okN_len (B.h x hx)⟩, B.hl⟩ (by omega); exact this
  c := wopt_len B.c fun u hu => okNs_len hu
  p := by have := okLs_len (ws := wpub) (ok := okPb) (m := 242) (l := 20) (xs := ps) ⟨fun x hx => ⟨B.p x hx, okPb_len (B.p x hx)⟩, B.pl⟩ (by omega); exact this
  t := by
    have h1 := flat_le (w := wopt wpr) (m := 300007) (xs := ts) fun x hx => okOPr_len (B.t x hx)
    have := B.tl
    omega
theorem okChg_len {C : Addr} {p : P} (h : okChg C p) : (wchg p).length ≤ 1300000 := by
  obtain ⟨a, b, hs, cp, ps, ts, rfl, B⟩ := h
  have L := B.len
  have l1 := L.a
  have l2 := L.b
  have l3 := L.h
  have l4 := L.c
  have l5 := L.p
  have l6 := L.t
  rw [wchg_eq]
  repeat rw [List.length_append]
  omega
section
variable {Pg : Program} {w : World} {K : PySem.W.Frag} {Θ : Tbs} {mg : Str → Option Value} {base : Heap} {CC : Addr}
abbrev st_wchg : Stmt := (topS 9)
theorem sc_wchg : FnScope ["change", "data", "part"] ["change"] (defScope st_wchg) := ⟨rfl, rfl, rfl, by decide +kernel, rfl, by decide +kernel, by decide +kernel⟩
theorem ok_wchg (A : DefAt K mg "write_change" st_wchg ["change"]) (T : ChgC K mg CC) {f_write_number f__write_public f__write_part : Addr} (gf_write_number : mg "write_number" = some (.ref f_write_number)) (gf__write_public : mg "_write_public" = some (.ref f__write_public)) (gf__write_part : mg "_write_part" = some (.ref f__write_part))
    (h_write_numbers : HasF Pg w K mg base CX0 2 "write_numbers" ["numbers"] (spD K Θ (W_wr wNs okNs))) (h__write_capability_name : HasF Pg w K mg base CX0 4 "_write_capability_name" ["capability"] (spD K Θ (W_wr (wopt wNs) (okO okNs))))
    (h_wlN : HasF Pg w K mg base CX0 2 "write_list" ["things", "write"] (spD K Θ (W_wlstT f_write_number wN okN))) (h_wlP : HasF Pg w K mg base CX0 6 "write_list" ["things", "write"] (spD K Θ (W_wlstT f__write_public wpub okPb)))
    (h_write_optional : HasF Pg w K mg base CX0 9 "write_optional" ["thing", "write"] (spD K Θ (W_wopt f__write_part wpr okPr))) :
    HasF Pg w K mg base CX0 10 "write_change" ["change"] (spD K Θ (W_wr wchg (okChg CC))) := by
  have sc := sc_wchg
  refine A.okD sc (W_wr wchg (okChg CC)) (fun ds h R ⟨_, e, _⟩ => by rw [e]; rfl) fun f cdv A outer s H E hr => ?_
  refine ⟨_, (pss_cons (ps_set (i := 1) sc.nd rfl (.inl rfl) (pe_op (op_addWK (K := K) (by rfl)) (h_write_numbers.call (hr.mono (by first | decide | omega)) rfl pass0 (pa_cons (pe_tup (pa_cons (pe_fldK (K := K) (by rfl) (pv 0) rfl) (pa_cons (pe_fldK (K := K) (by rfl) (pv 0) rfl) pa_nil))) pa_nil)) (h_wlN.call (hr.mono (by first | decide | omega)) rfl pass0 (pa_cons (pe_fldK (K := K) (by rfl) (pv 0) rfl) (pa_cons (pe_glob (v := .ref f_write_number) rfl gf_write_number rfl) pa_nil)))))
  (pss_cons (ps_expr (pe_bm PySem.F.plainAttrs_list PySem.F.slot_list_extend PySem.F.type_list_extend (mt_extLK (K := K) (by rfl)) (pv 1) (pa_cons (pe_op (op_addWK (K := K) (by rfl)) (h__write_capability_name.call (hr.mono (by first | decide | omega)) rfl pass0 (pa_cons (pe_fldK (K := K) (by rfl) (pv 0) rfl) pa_nil)) (h_wlP.call (hr.mono (by first | decide | omega)) rfl pass0 (pa_cons (pe_fldK (K := K) (by rfl) (pv 0) rfl) (pa_cons (pe_glob (v := .ref f__write_public) rfl gf__write_public rfl) pa_nil)))) pa_nil)))
  (pss_cons (ps_for PassesOwn.never rfl (pi_seqK (K := K) (by rfl) (pe_fldK (K := K) (by rfl) (pv 0) rfl)) (pg_name (i := 2) sc.nd rfl (.inl rfl))
  (pss_one (ps_expr (pe_bm PySem.F.plainAttrs_list PySem.F.slot_list_extend PySem.F.type_list_extend (mt_extLK (K := K) (by rfl)) (pv 1) (pa_cons (h_write_optional.call (hr.mono (by first | decide | omega)) rfl pass0 (pa_cons (pv 2) (pa_cons (pe_glob (v := .ref f__write_part) rfl gf__write_part rfl) pa_nil))) pa_nil)))))
  (pss_one (ps_ret (pv 1)))))), ?_⟩
  try dsimp only [cxOf]
  rintro ds h R ⟨v, rfl, hv, q⟩
  have sz := sizeLine_eq
  have hlv := okChg_len hv
  obtain ⟨a, b, hs, cp, ps, ts, rfl, B⟩ := hv
  have L := B.len
  have l1 := L.a
  have l2 := L.b
  have l3 := L.h
  have l4 := L.c
  have l5 := L.p
  have l6 := L.t
  rw [wchg_eq] at q hlv
  refine vs_fin ?_
  refine vs_seq ?_
  refine vs_asg ?_
  k_places
  refine ve_fld ?_
  k_places
  refine ⟨CC, dI a, T.cl, T.n1, ⟨rfl, by kernel_rfl⟩, ?_⟩
  k_places
  refine ve_fld ?_
  k_places
  refine ⟨CC, dI b, T.cl, T.n2, ⟨rfl, by kernel_rfl⟩, ?_⟩
  k_places
  refine ⟨.tup [.int a, .int b], rfl, okNs2 B.a B.b, ?_⟩
  k_places
  refine ve_fld ?_
  k_places
  refine ⟨CC, dT hs, T.cl, T.n3, ⟨rfl, by kernel_rfl⟩, ?_⟩
  k_places
  refine ⟨_, hs, rfl, rfl, fun y hy => ⟨B.h y hy, by have := okN_len (B.h y hy); omega⟩, by have := B.hl; omega, by omega, ?_⟩
  have e1 : wNs (.tup [.int a, .int b]) = wN (.int a) ++ wN (.int b) := by show _ ++ (_ ++ []) = _; rw [List.append_nil]
  rw [e1]
  refine v2_addWMO (i := intsP (wN (.int a) ++ wN (.int b))) (j := intsP (wls wN hs)) rfl rfl (by rw [List.length_map, List.length_map, List.length_append]; omega) ?_
  have e2 : (intsP (wN (.int a) ++ wN (.int b)) ++ intsP (wls wN hs)).map D.p = (wN (.int a) ++ wN (.int b) ++ wls wN hs).map dI := by rw [← map_dI]; simp only [intsP, List.map_append]
  rw [e2]
  refine vg_name ?_
  refine vs_seq ?_
  refine vs_drop ?_
  refine ve_bm ?_
  k_places
  refine ⟨⟨rfl, _, get_last⟩, ?_⟩
  k_places
  refine ve_fld ?_
  k_places
  refine ⟨CC, .p cp, T.cl, T.n4, ⟨rfl, by kernel_rfl⟩, ?_⟩
  k_places
  refine ⟨cp, rfl, B.c, ?_⟩
  k_places
  refine ve_fld ?_
  k_places
  refine ⟨CC, dT ps, T.cl, T.n5, ⟨rfl, by kernel_rfl⟩, ?_⟩
  k_places
  refine ⟨_, ps, rfl, rfl, fun y hy => ⟨B.p y hy, by have := okPb_len (B.p y hy); omega⟩, by have := B.pl; omega, by omega, ?_⟩
  refine v2_addWM (i := intsP (wopt wNs cp)) (j := intsP (wls wpub ps)) rfl rfl (by rw [List.length_map, List.length_map]; omega) ?_
  k_places
  generalize hb : wN (.int a) ++ wN (.int b) ++ wls wN hs ++ (wopt wNs cp ++ wls wpub ps) = bs at q hlv
  have lb : bs.length ≤ 7000 := by rw [← hb]; repeat rw [List.length_append]
                                   omega
  refine vm_extL (zs := intsP (wopt wNs cp) ++ intsP (wls wpub ps)) get_last rfl (by rw [List.length_append, List.length_map, List.length_map, List.length_map, List.length_append, List.length_append]; omega) ?_
  have e3 : (h ++ [some (OO.lst ((wN (.int a) ++ wN (.int b) ++ wls wN hs).map dI))]).set h.length (some (.lst ((wN (.int a) ++ wN (.int b) ++ wls wN hs).map dI ++ (intsP (wopt wNs cp) ++ intsP (wls wpub ps)).map D.p))) = h ++ [some (.lst (bs.map dI))] := by
    rw [List.set_append_right _ _ (Nat.le_refl _), Nat.sub_self, ← hb, ← map_dI, ← map_dI]
    simp only [intsP, List.map_append, List.set_cons_zero]
  rw [e3]
  refine vs_seq ?_
  refine vs_for (vi_seqT ?_)
  k_places
  refine ve_fld ?_
  k_places
  refine ⟨CC, dT ts, T.cl, T.n6, ⟨rfl, by kernel_rfl⟩, ?_⟩
  refine ⟨_, rfl, ?_⟩
  refine ⟨fun i env' h' => ∃ o2, env' = [some (.p (.ins CC (chgF a b (.tup hs) cp (.tup ps) (.tup ts)))), some (.own h.length), o2] ∧ h' = h ++ [some (.lst ((bs ++ (ts.take i).flatMap (wopt wpr)).map dI))], ?_, ?_, ?_, ?_⟩
  · exact ⟨none, rfl, by rw [List.take_zero, List.flatMap_nil, List.append_nil]⟩
  · exact fun _ _ _ _ => trivial
  · rintro i d env' h' hd ⟨o2, rfl, rfl⟩
    rw [List.getElem?_map] at hd
    cases e : ts[i]? with
    | none => rw [e] at hd; cases hd
    | some y =>
      rw [e] at hd; cases hd
      have oy := B.t y (List.mem_of_getElem? e)
      have ly := okOPr_len oy
      have ef := flat_snoc (w := wopt wpr) e
      have lf := flat_take (w := wopt wpr) ts i
      refine vg_name ?_
      refine vs_drop ?_
      refine ve_bm ?_
      k_places
      refine ⟨⟨rfl, _, get_last⟩, ?_⟩
      k_places
      refine ⟨y, rfl, oy, oPr_len oy, ?_⟩
      k_places
      rw [List.length_append] at hlv
      refine vm_extL (zs := intsP (wopt wpr y)) get_last rfl (by rw [List.length_map, List.length_map, List.length_append]; omega) ?_
      refine ⟨_, rfl, ?_⟩
      rw [List.set_append_right _ _ (Nat.le_refl _), Nat.sub_self, ef, map_dI, ← List.map_append, List.append_assoc]
      rfl
  · rintro env' h' ⟨o2, rfl, rfl⟩
    rw [List.length_map, List.take_length]
    k_places
    refine fin_own ?_ q
    show some (OO.lst _) = some (OO.lst _)
    rw [map_dI]
end
end Law

namespace Law
open PySem PySem.Spec PyProof.Rows L2 Kb
-- the steps that are tried: k_clsL a side condition; k_subL one step; k_places steps as long as one fits
local macro_rules | `(tactic| k_subL) => `(tactic| first | (with_reducible refine ve_lst ?_) | (with_reducible refine ve_cls ?_))
/-! codes: a store -/
def wsto (cut : List Int) (caps kept : List P) (chs : List (List P)) : List Int := wls wN (cut.map P.int) ++ wls wcapE caps ++ kept.flatMap (wopt wkpt) ++ chs.flatMap (wls wchg)
structure StoB (CK CC : Addr) (cut : List Int) (caps kept : List P) (chs : List (List P)) : Prop where
  u : ∀ x ∈ cut, okN (.int x)
  ul : cut.length ≤ 20
  c : okLs wcapE okCe 1000 20 caps
  k : ∀ x ∈ kept, okO (okKp CK) x
  kl : kept.length ≤ 4
  s : ∀ cs ∈ chs, okLs wchg (okChg CC) 100000 4 cs
  sl : chs.length ≤ 4
theorem okOKp_len {CK : Addr} {p : P} (h : okO (okKp CK) p) : (wopt wkpt p).length ≤ 800001 := wopt_len h fun u hu => okKp_len hu
theorem oKp_len {CK : Addr} {p : P} (h : okO (okKp CK) p) : (wkpt p).length ≤ 4000000 := by
  rcases h with rfl | ⟨h, _⟩
  · show 0 ≤ _; omega
  · have := okKp_len h; omega
structure StoL (cut : List Int) (caps kept : List P) (chs : List (List P)) : Prop where
  u : (wls wN (cut.map P.int)).length ≤ 1206 ∧ ((cut.map P.int).flatMap wN).length ≤ 1200
  c : (wls wcapE caps).length ≤ 20006 ∧ (caps.flatMap wcapE).length ≤ 20000
  k : (kept.flatMap (wopt wkpt)).length ≤ 3200004
  s : (chs.flatMap (wls wchg)).length ≤ 1600024
theorem StoB.len {CK CC : Addr} {cut : List Int} {caps kept : List P} {chs : List (List P)} (B : StoB CK CC cut caps kept chs) : StoL cut caps kept chs where
  u := by
    have := okLs_len (ws := wN) (ok := okN) (m := 60) (l := 20) (xs := cut.map P.int) ⟨fun x hx => by
      obtain ⟨i, hi, rfl⟩ := List.mem_map.mp hx
      exact ⟨B.u i hi, okN_len (B.u i hi)⟩, by rw [List.length_map]; exact B.ul⟩ (by omega)
    exact this
  c := okLs_len B.c (by omega)
  k := by
    have h1 := flat_le (w := wopt wkpt) (m := 800001) (xs := kept) fun x hx => okOKp_len (B.k x hx)
    have := B.kl
    omega
  s := by
    have h1 := flat_le (w := wls wchg) (m := 400006) (xs := chs) fun x hx => (okLs_len (B.s x hx) (by omega)).1
    have := B.sl
    omega
theorem wsto_len {CK CC : Addr} {cut : List Int} {caps kept : List P} {chs : List (List P)} (B : StoB CK CC cut caps kept chs) : (wsto cut caps kept chs).length ≤ 4900000 := by
  have L := B.len
  have l1 := L.u
  have l2 := L.c
  have l3 := L.k
  have l4 := L.s
  unfold wsto
  rw [List.length_append, List.length_append, List.length_append]
  omega
section
variable {Pg : Program} {w : World} {K : PySem.W.Frag} {Θ : Tbs} {mg : Str → Option Value} {base : Heap} {C CK CC : Addr}
def W_wsto (C CK CC : Addr) : Spc := fun ds h R => ∃ (n : Nat) (m : Int) (cut : List Int) (caps kept : List P) (chs : List (List P)) (I : List Nat), ds = [.own n] ∧ StoreAt C h n m cut caps kept chs I ∧ StoB CK CC cut caps kept chs ∧ R (dL (intsP (wsto cut caps kept chs))) h
abbrev st_wsto : Stmt := (topS 12)
theorem sc_wsto : FnScope ["store", "data", "kept", "changes"] ["store"] (defScope st_wsto) := ⟨rfl, rfl, rfl, by decide +kernel, rfl, by decide +kernel, by decide +kernel⟩
theorem ok_wsto (A : DefAt K mg "write_store" st_wsto ["store"]) (T : StoC K mg C) {f_write_number f_write_capability f_write_kept f_write_change : Addr} (gf_write_number : mg "write_number" = some (.ref f_write_number)) (gf_write_capability : mg "write_capability" = some (.ref f_write_capability)) (gf_write_kept : mg "write_kept" = some (.ref f_write_kept)) (gf_write_change : mg "write_change" = some (.ref f_write_change))
    (h_wlN : HasF Pg w K mg base CX0 2 "write_list" ["things", "write"] (spD K Θ (W_wlstT f_write_number wN okN))) (h_wlC : HasF Pg w K mg base CX0 6 "write_list" ["things", "write"] (spD K Θ (W_wlstT f_write_capability wcapE okCe))) (h_wlG : HasF Pg w K mg base CX0 11 "write_list" ["things", "write"] (spD K Θ (W_wlstT f_write_change wchg (okChg CC))))
    (h_write_optional : HasF Pg w K mg base CX0 10 "write_optional" ["thing", "write"] (spD K Θ (W_wopt f_write_kept wkpt (okKp CK)))) :
    HasF Pg w K mg base CX0 12 "write_store" ["store"] (spD K Θ (W_wsto C CK CC)) := by
  have sc := sc_wsto
  refine A.okD sc (W_wsto C CK CC) (fun ds h R ⟨_, _, _, _, _, _, _, e, _⟩ => by rw [e]; rfl) fun f cdv A outer s H E hr => ?_
  refine ⟨_, (pss_cons (ps_set (i := 1) sc.nd rfl (.inl rfl) (pe_op (op_addWK (K := K) (by rfl)) (h_wlN.call (hr.mono (by first | decide | omega)) rfl pass0 (pa_cons (pe_fldK (K := K) (by rfl) (pv 0) rfl) (pa_cons (pe_glob (v := .ref f_write_number) rfl gf_write_number rfl) pa_nil))) (h_wlC.call (hr.mono (by first | decide | omega)) rfl pass0 (pa_cons (pe_fldK (K := K) (by rfl) (pv 0) rfl) (pa_cons (pe_glob (v := .ref f_write_capability) rfl gf_write_capability rfl) pa_nil)))))
  (pss_cons (ps_for PassesOwn.never rfl (pi_seqK (K := K) (by rfl) (pe_fldK (K := K) (by rfl) (pv 0) rfl)) (pg_name (i := 2) sc.nd rfl (.inl rfl))
  (pss_one (ps_expr (pe_bm PySem.F.plainAttrs_list PySem.F.slot_list_extend PySem.F.type_list_extend (mt_extLK (K := K) (by rfl)) (pv 1) (pa_cons (h_write_optional.call (hr.mono (by first | decide | omega)) rfl pass0 (pa_cons (pv 2) (pa_cons (pe_glob (v := .ref f_write_kept) rfl gf_write_kept rfl) pa_nil))) pa_nil)))))
  (pss_cons (ps_for PassesOwn.never rfl (pi_seqK (K := K) (by rfl) (pe_fldK (K := K) (by rfl) (pv 0) rfl)) (pg_name (i := 3) sc.nd rfl (.inl rfl))
  (pss_one (ps_expr (pe_bm PySem.F.plainAttrs_list PySem.F.slot_list_extend PySem.F.type_list_extend (mt_extLK (K := K) (by rfl)) (pv 1) (pa_cons (h_wlG.call (hr.mono (by first | decide | omega)) rfl pass0 (pa_cons (pv 3) (pa_cons (pe_glob (v := .ref f_write_change) rfl gf_write_change rfl) pa_nil))) pa_nil)))))
  (pss_one (ps_ret (pv 1)))))), ?_⟩
  try dsimp only [cxOf]
  rintro ds h R ⟨n, m, cut, caps, ks, css, I, rfl, S, B, q⟩
  have sz := sizeLine_eq
  have L := B.len
  have l1 := L.u
  have l2 := L.c
  have l3 := L.k
  have l4 := L.s
  have hlv := wsto_len B
  obtain ⟨i1, i2, i3, i4, js, rfl, h1, h2, h3, h4, h5, h6, h7, nd⟩ := S.ex
  have b3 : i3 < h.length := (List.getElem?_eq_some_iff.mp h4).1
  have b4 : i4 < h.length := (List.getElem?_eq_some_iff.mp h5).1
  refine vs_fin ?_
  refine vs_seq ?_
  refine vs_asg ?_
  k_places
  refine ve_fld ?_
  k_places
  refine ⟨C, .own i1, T.cl, T.n2, ⟨_, h1, by kernel_rfl⟩, ?_⟩
  k_places
  refine ⟨_, cut.map P.int, rfl, by show _ = _; rw [List.map_map]; exact h2, fun y hy => ?_, by rw [List.length_map]; have := B.ul; omega, by omega, ?_⟩
  · obtain ⟨i, hi, rfl⟩ := List.mem_map.mp hy
    exact ⟨B.u i hi, by have := okN_len (B.u i hi); omega⟩
  k_places
  refine ve_fld ?_
  k_places
  refine ⟨C, .own i2, T.cl, T.n3, ⟨_, h1, by kernel_rfl⟩, ?_⟩
  k_places
  refine ⟨_, caps, rfl, h3, fun y hy => ⟨(B.c.1 y hy).1, by have := (B.c.1 y hy).2; omega⟩, by have := B.c.2; omega, by omega, ?_⟩
  refine v2_addWMO (i := intsP (wls wN (cut.map P.int))) (j := intsP (wls wcapE caps)) rfl rfl (by rw [List.length_map, List.length_map]; omega) ?_
  have e2 : (intsP (wls wN (cut.map P.int)) ++ intsP (wls wcapE caps)).map D.p = (wls wN (cut.map P.int) ++ wls wcapE caps).map dI := by rw [← map_dI]; simp only [intsP, List.map_append]
  rw [e2]
  refine vg_name ?_
  generalize hb : wls wN (cut.map P.int) ++ wls wcapE caps = bs
  have lb : bs.length ≤ 22000 := by rw [← hb, List.length_append]; omega
  have ew : wsto cut caps ks css = bs ++ ks.flatMap (wopt wkpt) ++ css.flatMap (wls wchg) := by rw [← hb]; rfl
  rw [ew] at q
  refine vs_seq ?_
  refine vs_for (vi_seqO ?_)
  k_places
  refine ve_fld ?_
  k_places
  refine ⟨C, .own i3, T.cl, T.n4, ⟨_, (List.getElem?_append_left (List.getElem?_eq_some_iff.mp h1).1).trans h1, by kernel_rfl⟩, ?_⟩
  refine ⟨i3, _, rfl, (List.getElem?_append_left b3).trans h4, ?_⟩
  refine ⟨fun i env' h' => ∃ o2 : Option D, env' = [some (.own n), some (.own h.length), o2, none] ∧ h' = h ++ [some (.lst ((bs ++ (ks.take i).flatMap (wopt wkpt)).map dI))], ?_, ?_, ?_, ?_⟩
  · exact ⟨none, rfl, by rw [List.take_zero, List.flatMap_nil, List.append_nil]⟩
  · rintro i env' h' ⟨o2, rfl, rfl⟩
    rw [List.getElem?_append_left b3]; exact h4
  · rintro i d env' h' hd ⟨o2, rfl, rfl⟩
    rw [List.getElem?_map] at hd
    cases e : ks[i]? with
    | none => rw [e] at hd; cases hd
    | some y =>
      rw [e] at hd; cases hd
      have oy := B.k y (List.mem_of_getElem? e)
      have ly := okOKp_len oy
      have ef := flat_snoc (w := wopt wkpt) e
      have lf := flat_take (w := wopt wkpt) ks i
      refine vg_name ?_
      refine vs_drop ?_
      refine ve_bm ?_
      k_places
      refine ⟨⟨rfl, _, get_last⟩, ?_⟩
      k_places
      refine ⟨y, rfl, oy, oKp_len oy, ?_⟩
      k_places
      refine vm_extL (zs := intsP (wopt wkpt y)) get_last rfl (by rw [List.length_map, List.length_map, List.length_append]; omega) ?_
      refine ⟨_, rfl, ?_⟩
      rw [List.set_append_right _ _ (Nat.le_refl _), Nat.sub_self, ef, map_dI, ← List.map_append, List.append_assoc]
      rfl
  · rintro env' h' ⟨o2, rfl, rfl⟩
    rw [List.length_map, List.take_length]
    generalize hb2 : bs ++ ks.flatMap (wopt wkpt) = b2 at q ⊢
    have lb2 : b2.length ≤ 3222004 := by rw [← hb2, List.length_append]; omega
    refine vs_seq ?_
    refine vs_for (vi_seqO ?_)
    k_places
    refine ve_fld ?_
    k_places
    refine ⟨C, .own i4, T.cl, T.n5, ⟨_, (List.getElem?_append_left (List.getElem?_eq_some_iff.mp h1).1).trans h1, by kernel_rfl⟩, ?_⟩
    refine ⟨i4, _, rfl, (List.getElem?_append_left b4).trans h5, ?_⟩
    refine ⟨fun i env' h' => ∃ o3 : Option D, env' = [some (.own n), some (.own h.length), o2, o3] ∧ h' = h ++ [some (.lst ((b2 ++ (css.take i).flatMap (wls wchg)).map dI))], ?_, ?_, ?_, ?_⟩
    · exact ⟨none, rfl, by rw [List.take_zero, List.flatMap_nil, List.append_nil]⟩
    · rintro i env' h' ⟨o3, rfl, rfl⟩
      rw [List.getElem?_append_left b4]; exact h5
    · rintro i d env' h' hd ⟨o3, rfl, rfl⟩
      rw [List.getElem?_map] at hd
      cases e : js[i]? with
      | none => rw [e] at hd; cases hd
      | some j =>
        rw [e] at hd; cases hd
        have hi : i < css.length := by have := (List.getElem?_eq_some_iff.mp e).1; omega
        have e2 := List.getElem?_eq_getElem hi
        generalize css[i] = cs at e2
        have gj := h7 i j cs e e2
        have bj : j < h.length := (List.getElem?_eq_some_iff.mp gj).1
        have oy := B.s cs (List.mem_of_getElem? e2)
        have ly := okLs_len oy (by omega)
        have ef := flat_snoc (w := wls wchg) e2
        have lf := flat_take (w := wls wchg) css i
        refine vg_name ?_
        refine vs_drop ?_
        refine ve_bm ?_
        k_places
        refine ⟨⟨rfl, _, get_last⟩, ?_⟩
        k_places
        refine ⟨_, cs, rfl, (List.getElem?_append_left bj).trans gj, fun y hy => oy.1 y hy, by have := oy.2; omega, by omega, ?_⟩
        k_places
        refine vm_extL (zs := intsP (wls wchg cs)) get_last rfl (by rw [List.length_map, List.length_map, List.length_append]; omega) ?_
        refine ⟨_, rfl, ?_⟩
        rw [List.set_append_right _ _ (Nat.le_refl _), Nat.sub_self, ef, map_dI, ← List.map_append, List.append_assoc]
        rfl
    · rintro env' h' ⟨o3, rfl, rfl⟩
      rw [List.length_map, h6, List.take_length]
      k_places
      refine fin_own ?_ q
      show some (OO.lst _) = some (OO.lst _)
      rw [map_dI]
end
end Law

namespace Law
open PySem PySem.Spec PyProof.Rows L2 Kb
-- the steps that are tried: k_clsL a side condition; k_subL one step; k_places steps as long as one fits
local macro_rules | `(tactic| k_subL) => `(tactic| first | (with_reducible refine ve_lst ?_) | (with_reducible refine ve_cls ?_))
/-! packets: asking -/
def nmP : P → P
  | .ins _ ((_, a) :: (_, b) :: _) => .tup [a, b]
  | _ => .non
def prP (k : Nat) : P → P
  | .ins _ [_, _, _, _, _, (_, .tup ts)] => ts.getD k .non
  | _ => .non
def isNn : P → Bool
  | .non => true
  | _ => false
/-- the names of the changes whose part of a space is not known -/
def unkP (chs : List (List P)) (k : Nat) : List P := ((chs.flatMap id).filter fun c => isNn (prP k c)).map nmP
section
variable {Pg : Program} {w : World} {K : PySem.W.Frag} {Θ : Tbs} {mg : Str → Option Value} {base : Heap} {C CK CC : Addr}
theorem StoreAt.app {h : Hs} {n : Nat} {m : Int} {cut : List Int} {caps kept : List P} {chs : List (List P)} {I : List Nat} (S : StoreAt C h n m cut caps kept chs I) (x : Hs) : StoreAt C (h ++ x) n m cut caps kept chs I := by
  obtain ⟨i1, i2, i3, i4, js, e, h1, h2, h3, h4, h5, h6, h7, nd⟩ := S.ex
  have g : ∀ {i : Nat} {o : Option OO}, h[i]? = some o → (h ++ x)[i]? = some o := fun e => (List.getElem?_append_left (List.getElem?_eq_some_iff.mp e).1).trans e
  exact ⟨i1, i2, i3, i4, js, e, g h1, g h2, g h3, g h4, g h5, h6, fun k j cs a b => g (h7 k j cs a b), nd⟩
abbrev st_cnm : Stmt := (inClass (topS 31) 1)
theorem sc_cnm : FnScope ["self"] ["self"] (defScope st_cnm) := ⟨rfl, rfl, rfl, by decide +kernel, rfl, by decide +kernel, by decide +kernel⟩
def W_cnm (CC : Addr) : Spc := fun ds h R => ∃ (a b : Int) (hd cp pb pt : P), ds = [.p (.ins CC (chgF a b hd cp pb pt))] ∧ R (dT [.int a, .int b]) h
theorem ok_cnm (A : MethAt K CC "name" "Change.name" st_cnm ["self"]) (TC : ChgC K mg CC) : HasM Pg w K mg base CX0 1 CC "name" ["self"] (spD K Θ (W_cnm CC)) := by
  have sc := sc_cnm
  refine A.okD TC.cl sc (W_cnm CC) (fun ds h R ⟨_, _, _, _, _, _, e, _⟩ => by rw [e]; rfl) fun f cdv A outer s H E hr => ?_
  refine ⟨_, (pss_one (ps_ret (pe_tup (pa_cons (pe_fldK (K := K) (by rfl) (pv 0) rfl) (pa_cons (pe_fldK (K := K) (by rfl) (pv 0) rfl) pa_nil))))), ?_⟩
  try dsimp only [cxOf]
  rintro ds h R ⟨a, b, hd, cp, pb, pt, rfl, q⟩
  k_places
  refine ve_fld ?_
  k_places
  refine ⟨CC, dI a, TC.cl, TC.n1, ⟨rfl, by kernel_rfl⟩, ?_⟩
  k_places
  refine ve_fld ?_
  k_places
  refine ⟨CC, dI b, TC.cl, TC.n2, ⟨rfl, by kernel_rfl⟩, ?_⟩
  k_places
  exact q
abbrev st_scnts : Stmt := (inClass (topS 36) 2)
theorem sc_scnts : FnScope ["self", "member"] ["self"] (defScope st_scnts) := ⟨rfl, rfl, rfl, by decide +kernel, rfl, by decide +kernel, by decide +kernel⟩
def cntsOf (m : Int) (cut : List Int) (chs : List (List P)) : List Int := (List.range m.toNat).map fun k => cntOf cut chs k
def W_scnts (C : Addr) : Spc := fun ds h R => ∃ (n : Nat) (m : Int) (cut : List Int) (caps kept : List P) (chs : List (List P)) (I : List Nat), ds = [.own n] ∧ StoreAt C h n m cut caps kept chs I ∧ StOk m cut chs ∧ 0 ≤ m ∧ m ≤ 1000 ∧ R (dL ((cntsOf m cut chs).map P.int)) h
theorem ok_scnts (A : MethAt K C "counts" "Store.counts" st_scnts ["self"]) (T : StoC K mg C) (m_range : mg "range" = none) (h_Store_count : HasM Pg w K mg base CX0 1 C "count" ["self", "member"] (spD K Θ (W_scount C))) : HasM Pg w K mg base CX0 2 C "counts" ["self"] (spD K Θ (W_scnts C)) := by
  have sc := sc_scnts
  refine A.okD T.cl sc (W_scnts C) (fun ds h R ⟨_, _, _, _, _, _, _, e, _⟩ => by rw [e]; rfl) fun f cdv A outer s H E hr => ?_
  refine ⟨_, (pss_one (ps_ret (pe_lc (own := [("member", 1)]) rfl sc.nd (pi_range1 rfl m_range (pa_cons (pe_fldK (K := K) (by rfl) (pv 0) rfl) pa_nil)) (blkOk_by (N := ["self", "member"]) (sc := defScope (inClass (topS 36) 2)) (by decide +kernel)) (fun _ _ _ _ _ => (pg_name (i := 1) sc.nd rfl (.inl rfl))) (fun _ _ _ _ _ => pts_nil) (fun _ _ _ _ _ => (h_Store_count.meth (hr.mono (by first | decide | omega)) pass0 (pv 0) (pa_cons (pv 1) pa_nil)))))), ?_⟩
  try dsimp only [cxOf]
  rintro ds h R ⟨n, m, cut, caps, kept, chs, I, rfl, S, ok, m0, m1, q⟩
  have sz := sizeLine_eq
  obtain ⟨i1, i2, i3, i4, js, rfl, h1, h2, h3, h4, h5, h6, h7, nd⟩ := S.ex
  k_places
  refine ve_lcL tg_name (List.range m.toNat) (fun k => dI k) (fun _ => true) (fun k => .int (cntOf cut chs k)) ?_
  refine vi_range1 ?_
  k_places
  refine ve_fld ?_
  k_places
  refine ⟨C, dI m, T.cl, T.n1, ⟨_, h1, by kernel_rfl⟩, ?_⟩
  k_places
  refine ⟨m, rfl, by omega, by omega, ?_, by rw [List.length_range]; omega, fun _ => trivial, fun k hk acc => ?_, ?_⟩
  · unfold rng
    exact List.map_congr_left fun k _ => by rw [Int.zero_add]
  · have hk := List.mem_range.mp hk
    refine vg_name ⟨rfl, vt_yes ⟨rfl, rfl, fun _ => ?_⟩⟩
    refine ve_meth ?_
    k_places
    have SA := S.app [some (.lst acc)]
    refine ⟨SA.ins fun _ _ _ _ _ => no_count, ?_⟩
    k_places
    exact ⟨n, m, cut, caps, kept, chs, _, (k : Int), rfl, SA, ok, by omega, by omega, rfl, by rw [Int.toNat_natCast]⟩
  · rw [filter_tt]
    have e : (List.range m.toNat).map (fun k => P.int (cntOf cut chs k)) = (cntsOf m cut chs).map P.int := by unfold cntsOf; rw [List.map_map]; rfl
    rw [e]
    exact q
abbrev st_unk : Stmt := (topS 40)
theorem sc_unk : FnScope ["store", "space", "line", "change"] ["store", "space"] (defScope st_unk) := ⟨rfl, rfl, rfl, by decide +kernel, rfl, by decide +kernel, by decide +kernel⟩
def ChsOk (CC : Addr) (chs : List (List P)) : Prop := chs.length ≤ 1000 ∧ ∀ cs ∈ chs, cs.length ≤ 1000 ∧ ∀ c ∈ cs, okChg CC c ∧ ∃ (a b : Int) (hd cp pb t1 t2 t3 t4 : P), c = .ins CC (chgF a b hd cp pb (.tup [t1, t2, t3, t4]))
def W_unk (C CC : Addr) : Spc := fun ds h R => ∃ (n : Nat) (m : Int) (cut : List Int) (caps kept : List P) (chs : List (List P)) (I : List Nat) (k : Nat), ds = [.own n, dI k] ∧ StoreAt C h n m cut caps kept chs I ∧ ChsOk CC chs ∧ k < 4 ∧ R (dL (unkP chs k)) h
theorem ok_unk (A : DefAt K mg "_unknown_names" st_unk ["store", "space"]) (T : StoC K mg C) (TC : ChgC K mg CC) (h_Change_name : HasM Pg w K mg base CX0 1 CC "name" ["self"] (spD K Θ (W_cnm CC))) : HasF Pg w K mg base CX0 2 "_unknown_names" ["store", "space"] (spD K Θ (W_unk C CC)) := by
  have sc := sc_unk
  refine A.okD sc (W_unk C CC) (fun ds h R ⟨_, _, _, _, _, _, _, _, e, _⟩ => by rw [e]; rfl) fun f cdv A outer s H E hr => ?_
  refine ⟨_, (pss_one (ps_ret (pe_lc2 (own := [("line", 2), ("change", 3)]) (vs1 := [3]) rfl sc.nd (pi_seqK (K := K) (by rfl) (pe_fldK (K := K) (by rfl) (pv 0) rfl)) (blkOk_by (N := ["store", "space", "line", "change"]) (sc := defScope (topS 40)) (by decide +kernel)) (by decide) (fun _ _ _ _ _ => (pg_name (i := 2) sc.nd rfl (.inl rfl))) (fun _ _ _ _ _ => pts_nil) (fun _ _ _ _ _ => (pi_seqK (K := K) (by rfl) (pv 2))) (fun _ _ _ _ _ => (pg_name (i := 3) sc.nd rfl (.inl rfl))) (fun _ _ _ _ _ => (pts_one (pt_cmpR op_isU (pe_ix (ix_seqK (K := K) (by rfl)) (pe_fldK (K := K) (by rfl) (pv 3) rfl) (pv 1) (fun _ _ => rfl)) pe_non (nomark _)))) (fun _ _ _ _ _ => (h_Change_name.meth0 (hr.mono (by first | decide | omega)) pass0 (pv 3)))))), ?_⟩
  try dsimp only [cxOf]
  rintro ds h R ⟨n, m, cut, caps, kept, chs, I, k, rfl, S, ok, hk, q⟩
  have sz := sizeLine_eq
  obtain ⟨i1, i2, i3, i4, js, rfl, h1, h2, h3, h4, h5, h6, h7, nd⟩ := S.ex
  have g : ∀ {i : Nat} {o : Option OO} (x : Hs), h[i]? = some o → (h ++ x)[i]? = some o := fun x e => (List.getElem?_append_left (List.getElem?_eq_some_iff.mp e).1).trans e
  have ezip : ∀ (js : List Nat) (css : List (List P)), js.length = css.length → (js.zip css).map (fun q => D.own q.1) = js.map D.own ∧ (js.zip css).flatMap (fun q => q.2) = css.flatMap id := by
    intro js
    induction js with
    | nil => intro css e; cases css with
      | nil => exact ⟨rfl, rfl⟩
      | cons => cases e
    | cons j js ih => intro css e; cases css with
      | nil => cases e
      | cons c css =>
        have := ih css (by simpa using e)
        exact ⟨by rw [List.zip_cons_cons, List.map_cons, this.1]; rfl, by rw [List.zip_cons_cons, List.flatMap_cons, this.2]; rfl⟩
  have elen : ∀ css : List (List P), (∀ cs ∈ css, cs.length ≤ 1000) → (css.flatMap id).length ≤ 1000 * css.length := by
    intro css
    induction css with
    | nil => intro _; exact Nat.le_refl _
    | cons c css ih =>
      intro hx
      have h1 := ih fun y hy => hx y (List.mem_cons_of_mem _ hy)
      have h0 := hx c (List.mem_cons_self ..)
      rw [List.flatMap_cons, List.length_append, List.length_cons, Nat.mul_succ]
      show c.length + _ ≤ _
      omega
  obtain ⟨z1, z2⟩ := ezip js chs h6
  have z3 := elen chs fun cs hc => (ok.2 cs hc).1
  have z4 := ok.1
  k_places
  refine ve_lc2L tg_name2 tg_name (js.zip chs) (fun q => D.own q.1) (fun q => q.2) (fun c => .p c) (fun c => isNn (prP k c)) nmP ?_
  refine vi_seqO ?_
  k_places
  refine ve_fld ?_
  k_places
  refine ⟨C, .own i4, T.cl, T.n5, ⟨_, h1, by kernel_rfl⟩, ?_⟩
  refine ⟨i4, _, rfl, h5, z1.symm, by rw [z2]; omega, fun acc => g _ h5, fun x hx acc => ?_, ?_⟩
  · obtain ⟨j, cs⟩ := x
    obtain ⟨a, ha, ea⟩ := List.mem_iff_getElem.mp hx
    have e0 := List.getElem?_eq_getElem ha
    rw [ea] at e0
    obtain ⟨ej, ec⟩ := Kb.zip_get e0
    have gj := h7 a j cs ej ec
    have oc := ok.2 cs (List.mem_of_getElem? ec)
    refine vg_name ⟨rfl, vt_yes ⟨rfl, rfl, ?_⟩⟩
    refine vi_seqO ?_
    k_places
    refine ⟨j, _, rfl, g _ gj, rfl, rfl, fun acc => g _ gj, fun y hy acc => ?_⟩
    obtain ⟨oy, a', b', hd, cp, pb, t1, t2, t3, t4, rfl⟩ := oc.2 y hy
    refine vg_name ⟨rfl, ?_⟩
    k_places
    refine ve_fld ?_
    k_places
    refine ⟨CC, dT [t1, t2, t3, t4], TC.cl, TC.n6, ⟨rfl, by kernel_rfl⟩, ?_⟩
    have et : [t1, t2, t3, t4][k]? = some ([t1, t2, t3, t4].getD k .non) := by
      rw [List.getD_eq_getElem?_getD, List.getElem?_eq_getElem (by show k < 4; exact hk)]; rfl
    have ep : prP k (.ins CC (chgF a' b' hd cp pb (.tup [t1, t2, t3, t4]))) = [t1, t2, t3, t4].getD k .non := rfl
    rw [ep]
    generalize [t1, t2, t3, t4].getD k .non = t at et
    k_places
    refine v2_ixT (xs := [t1, t2, t3, t4]) (at_nat k rfl et) ?_
    k_places
    refine ⟨rfl, by cases t <;> rfl, fun _ => ?_⟩
    refine ve_meth ?_
    k_places
    refine ⟨⟨rfl, by kernel_rfl⟩, ?_⟩
    k_places
    exact ⟨a', b', hd, cp, pb, _, rfl, rfl, rfl⟩
  · rw [z2]
    exact q
/-- the packet that asks -/
def wask (mem : Int) (m : Int) (cut : List Int) (kept : List P) (chs : List (List P)) : List Int :=
  wN (.int 1) ++ wN (.int mem) ++ wls wN (cut.map P.int) ++ wls wN ((cntsOf m cut chs).map P.int) ++ kept.map (fun x => if isNn x then 0 else 1) ++ (List.range 4).flatMap fun k => wls wNs (unkP chs k)
abbrev st_ask : Stmt := (topS 39)
theorem sc_ask : FnScope ["store", "member", "data", "kept", "space"] ["store", "member"] (defScope st_ask) := ⟨rfl, rfl, rfl, by decide +kernel, rfl, by decide +kernel, by decide +kernel⟩
structure AskB (CC : Addr) (mem m : Int) (cut : List Int) (kept : List P) (chs : List (List P)) : Prop where
  a : okN (.int mem)
  m0 : 0 ≤ m
  ml : m ≤ 20
  st : StOk m cut chs
  u : ∀ x ∈ cut, okN (.int x)
  ct : ∀ x ∈ cntsOf m cut chs, okN (.int x)
  k : kept.length ≤ 4
  s : ChsOk CC chs
  sl : ∀ cs ∈ chs, cs.length ≤ 20
def W_ask (C CC : Addr) : Spc := fun ds h R => ∃ (n : Nat) (m : Int) (cut : List Int) (caps kept : List P) (chs : List (List P)) (I : List Nat) (mem : Int), ds = [.own n, dI mem] ∧ StoreAt C h n m cut caps kept chs I ∧ AskB CC mem m cut kept chs ∧ R (dL (intsP (wask mem m cut kept chs))) h
theorem no_counts {m : Int} {i1 i2 i3 i4 : Nat} : (storeF m i1 i2 i3 i4).lookup ("counts" : Str) = none := by kernel_rfl
theorem unk_ok {CC : Addr} {chs : List (List P)} (h : ChsOk CC chs) (hl : ∀ cs ∈ chs, cs.length ≤ 20) (cl : chs.length ≤ 20) (k : Nat) : okLs wNs okNs 240 400 (unkP chs k) := by
  have elen : ∀ css : List (List P), (∀ cs ∈ css, cs.length ≤ 20) → (css.flatMap id).length ≤ 20 * css.length := by
    intro css
    induction css with
    | nil => intro _; exact Nat.le_refl _
    | cons c css ih =>
      intro hx
      have h1 := ih fun y hy => hx y (List.mem_cons_of_mem _ hy)
      have h0 := hx c (List.mem_cons_self ..)
      rw [List.flatMap_cons, List.length_append, List.length_cons, Nat.mul_succ]
      show c.length + _ ≤ _
      omega
  refine ⟨fun x hx => ?_, ?_⟩
  · unfold unkP at hx
    obtain ⟨c, hc, rfl⟩ := List.mem_map.mp hx
    have hc := (List.mem_filter.mp hc).1
    obtain ⟨cs, h1, h2⟩ := List.mem_flatMap.mp hc
    obtain ⟨⟨a, b, hs, cp, ps, ts, rfl, B⟩, _⟩ := (h.2 cs h1).2 c h2
    have := okNs2 B.a B.b
    exact ⟨this, okNs_len this⟩
  · unfold unkP
    rw [List.length_map]
    have := List.length_filter_le (fun c => isNn (prP k c)) (chs.flatMap id)
    have := elen chs hl
    omega
theorem ok_ask (A : DefAt K mg "asking" st_ask ["store", "member"]) (T : StoC K mg C) (m_range : mg "range" = none) {f_write_number f_write_numbers : Addr} (gf_write_number : mg "write_number" = some (.ref f_write_number)) (gf_write_numbers : mg "write_numbers" = some (.ref f_write_numbers)) {tk tk2 : Tok} (g_ASKS : mg "ASKS" = some (.int 1 tk2)) (g_SPACES : mg "SPACES" = some (.int 4 tk))
    (h_write_numbers : HasF Pg w K mg base CX0 2 "write_numbers" ["numbers"] (spD K Θ (W_wr wNs okNs))) (h_wlN : HasF Pg w K mg base CX0 2 "write_list" ["things", "write"] (spD K Θ (W_wlstT f_write_number wN okN))) (h_wlM : HasF Pg w K mg base CX0 3 "write_list" ["things", "write"] (spD K Θ (W_wlstT f_write_numbers wNs okNs)))
    (h_write_boolean : HasF Pg w K mg base CX0 1 "write_boolean" ["value"] (spD K Θ W_wbool)) (h__unknown_names : HasF Pg w K mg base CX0 2 "_unknown_names" ["store", "space"] (spD K Θ (W_unk C CC))) (h_Store_counts : HasM Pg w K mg base CX0 2 C "counts" ["self"] (spD K Θ (W_scnts C))) :
    HasF Pg w K mg base CX0 4 "asking" ["store", "member"] (spD K Θ (W_ask C CC)) := by
  have sc := sc_ask
  refine A.okD sc (W_ask C CC) (fun ds h R ⟨_, _, _, _, _, _, _, _, e, _⟩ => by rw [e]; rfl) fun f cdv A outer s H E hr => ?_
  refine ⟨_, (pss_cons (ps_set (i := 2) sc.nd rfl (.inl rfl) (pe_op (op_addWK (K := K) (by rfl)) (h_write_numbers.call (hr.mono (by first | decide | omega)) rfl pass0 (pa_cons (pe_tup (pa_cons (pe_glob (v := .int 1) rfl g_ASKS ⟨_, rfl⟩) (pa_cons (pv 1) pa_nil))) pa_nil)) (h_wlN.call (hr.mono (by first | decide | omega)) rfl pass0 (pa_cons (pe_fldK (K := K) (by rfl) (pv 0) rfl) (pa_cons (pe_glob (v := .ref f_write_number) rfl gf_write_number rfl) pa_nil)))))
  (pss_cons (ps_expr (pe_bm PySem.F.plainAttrs_list PySem.F.slot_list_extend PySem.F.type_list_extend (mt_extLK (K := K) (by rfl)) (pv 2) (pa_cons (h_wlN.call (hr.mono (by first | decide | omega)) rfl pass0 (pa_cons (h_Store_counts.meth0 (hr.mono (by first | decide | omega)) pass0 (pv 0)) (pa_cons (pe_glob (v := .ref f_write_number) rfl gf_write_number rfl) pa_nil))) pa_nil)))
  (pss_cons (ps_for PassesOwn.never rfl (pi_seqK (K := K) (by rfl) (pe_fldK (K := K) (by rfl) (pv 0) rfl)) (pg_name (i := 3) sc.nd rfl (.inl rfl))
  (pss_one (ps_expr (pe_bm PySem.F.plainAttrs_list PySem.F.slot_list_extend PySem.F.type_list_extend (mt_extLK (K := K) (by rfl)) (pv 2) (pa_cons (h_write_boolean.call (hr.mono (by first | decide | omega)) rfl pass0 (pa_cons (pe_cmpR op_notN (pv 3) pe_non (nomark _)) pa_nil)) pa_nil)))))
  (pss_cons (ps_for PassesOwn.never rfl (pi_range1 rfl m_range (pa_cons (pe_glob (v := .int 4) rfl g_SPACES ⟨_, rfl⟩) pa_nil)) (pg_name (i := 4) sc.nd rfl (.inl rfl))
  (pss_one (ps_expr (pe_bm PySem.F.plainAttrs_list PySem.F.slot_list_extend PySem.F.type_list_extend (mt_extLK (K := K) (by rfl)) (pv 2) (pa_cons (h_wlM.call (hr.mono (by first | decide | omega)) rfl pass0 (pa_cons (h__unknown_names.call (hr.mono (by first | decide | omega)) rfl pass0 (pa_cons (pv 0) (pa_cons (pv 4) pa_nil))) (pa_cons (pe_glob (v := .ref f_write_numbers) rfl gf_write_numbers rfl) pa_nil))) pa_nil)))))
  (pss_one (ps_ret (pv 2))))))), ?_⟩
  try dsimp only [cxOf]
  rintro ds h R ⟨n, m, cut, caps, ks, css, I, mem, rfl, S, B, q⟩
  have sz := sizeLine_eq
  have S0 := S
  obtain ⟨i1, i2, i3, i4, js, eI, h1, h2, h3, h4, h5, h6, h7, nd⟩ := S.ex
  have b3 : i3 < h.length := (List.getElem?_eq_some_iff.mp h4).1
  have cl : css.length ≤ 20 := by have := B.st.chl; have := B.ml; omega
  have ul : cut.length ≤ 20 := by have := B.st.cl; have := B.ml; omega
  have l1 := okN_len B.a
  have l2 := okLs_len (ws := wN) (ok := okN) (m := 60) (l := 20) (xs := cut.map P.int) ⟨fun x hx => by
      obtain ⟨i, hi, rfl⟩ := List.mem_map.mp hx
      exact ⟨B.u i hi, okN_len (B.u i hi)⟩, by rw [List.length_map]; exact ul⟩ (by omega)
  have l3 := okLs_len (ws := wN) (ok := okN) (m := 60) (l := 20) (xs := (cntsOf m cut css).map P.int) ⟨fun x hx => by
      obtain ⟨i, hi, rfl⟩ := List.mem_map.mp hx
      exact ⟨B.ct i hi, okN_len (B.ct i hi)⟩, by rw [List.length_map]; unfold cntsOf; rw [List.length_map, List.length_range]; have := B.ml; omega⟩ (by omega)
  refine vs_fin ?_
  refine vs_seq ?_
  refine vs_asg ?_
  k_places
  refine ⟨.tup [.int 1, .int mem], rfl, okNs2 (show okN (.int 1) from ⟨by omega, by decide +kernel⟩) B.a, ?_⟩
  k_places
  refine ve_fld ?_
  k_places
  refine ⟨C, .own i1, T.cl, T.n2, ⟨_, h1, by kernel_rfl⟩, ?_⟩
  k_places
  refine ⟨_, cut.map P.int, rfl, by show _ = _; rw [List.map_map]; exact h2, fun y hy => ?_, by rw [List.length_map]; omega, by omega, ?_⟩
  · obtain ⟨i, hi, rfl⟩ := List.mem_map.mp hy
    exact ⟨B.u i hi, by have := okN_len (B.u i hi); omega⟩
  have e1 : wNs (.tup [.int 1, .int mem]) = wN (.int 1) ++ wN (.int mem) := by show _ ++ (_ ++ []) = _; rw [List.append_nil]
  have l0 : (wN (.int 1)).length ≤ 60 := okN_len (show okN (.int 1) from ⟨by omega, by decide +kernel⟩)
  rw [e1]
  refine v2_addWMO (i := intsP (wN (.int 1) ++ wN (.int mem))) (j := intsP (wls wN (cut.map P.int))) rfl rfl (by rw [List.length_map, List.length_map, List.length_append]; omega) ?_
  have e2 : (intsP (wN (.int 1) ++ wN (.int mem)) ++ intsP (wls wN (cut.map P.int))).map D.p = (wN (.int 1) ++ wN (.int mem) ++ wls wN (cut.map P.int)).map dI := by rw [← map_dI]; simp only [intsP, List.map_append]
  rw [e2]
  refine vg_name ?_
  generalize hb : wN (.int 1) ++ wN (.int mem) ++ wls wN (cut.map P.int) = bs
  have lb : bs.length ≤ 1500 := by rw [← hb, List.length_append, List.length_append]; omega
  have ew : wask mem m cut ks css = bs ++ wls wN ((cntsOf m cut css).map P.int) ++ ks.map (fun x => if isNn x then 0 else 1) ++ (List.range 4).flatMap fun k => wls wNs (unkP css k) := by rw [← hb]; rfl
  rw [ew] at q
  refine vs_seq ?_
  refine vs_drop ?_
  refine ve_bm ?_
  k_places
  refine ⟨⟨rfl, _, get_last⟩, ?_⟩
  have SA := S0.app [some (.lst (bs.map dI))]
  k_places
  refine ve_meth ?_
  k_places
  refine ⟨SA.ins fun _ _ _ _ _ => no_counts, ?_⟩
  k_places
  refine ⟨n, m, cut, caps, ks, css, I, rfl, SA, B.st, B.m0, by have := B.ml; omega, ?_⟩
  k_places
  refine ⟨_, (cntsOf m cut css).map P.int, rfl, rfl, fun y hy => ?_, by rw [List.length_map]; unfold cntsOf; rw [List.length_map, List.length_range]; have := B.ml; omega, by omega, ?_⟩
  · obtain ⟨i, hi, rfl⟩ := List.mem_map.mp hy
    exact ⟨B.ct i hi, by have := okN_len (B.ct i hi); omega⟩
  k_places
  refine vm_extL (zs := intsP (wls wN ((cntsOf m cut css).map P.int))) get_last rfl (by rw [List.length_map, List.length_map]; omega) ?_
  generalize hb2 : bs ++ wls wN ((cntsOf m cut css).map P.int) = b2 at q
  have lb2 : b2.length ≤ 2800 := by rw [← hb2, List.length_append]; omega
  have e3 : (h ++ [some (OO.lst (bs.map dI))]).set h.length (some (.lst (bs.map dI ++ (intsP (wls wN ((cntsOf m cut css).map P.int))).map D.p))) = h ++ [some (.lst (b2.map dI))] := by
    rw [List.set_append_right _ _ (Nat.le_refl _), Nat.sub_self, ← hb2, map_dI, ← List.map_append]; rfl
  rw [e3]
  refine vs_seq ?_
  refine vs_for (vi_seqO ?_)
  k_places
  refine ve_fld ?_
  k_places
  refine ⟨C, .own i3, T.cl, T.n4, ⟨_, (List.getElem?_append_left (List.getElem?_eq_some_iff.mp h1).1).trans h1, by kernel_rfl⟩, ?_⟩
  refine ⟨i3, _, rfl, (List.getElem?_append_left b3).trans h4, ?_⟩
  refine ⟨fun i env' h' => ∃ o3 : Option D, env' = [some (.own n), some (dI mem), some (.own h.length), o3, none] ∧ h' = h ++ [some (.lst ((b2 ++ (ks.take i).map (fun x => if isNn x then 0 else 1)).map dI))], ?_, ?_, ?_, ?_⟩
  · exact ⟨none, rfl, by rw [List.take_zero, List.map_nil, List.append_nil]⟩
  · rintro i env' h' ⟨o2, rfl, rfl⟩
    rw [List.getElem?_append_left b3]; exact h4
  · rintro i d env' h' hd ⟨o3, rfl, rfl⟩
    rw [List.getElem?_map] at hd
    cases e : ks[i]? with
    | none => rw [e] at hd; cases hd
    | some y =>
      rw [e] at hd; cases hd
      have hi := (List.getElem?_eq_some_iff.mp e).1
      have kl := B.k
      have ef : (ks.take (i + 1)).map (fun x => if isNn x then (0 : Int) else 1) = (ks.take i).map (fun x => if isNn x then 0 else 1) ++ [if isNn y then 0 else 1] := by
        rw [List.take_add_one, e, Option.toList_some, List.map_append]; rfl
      refine vg_name ?_
      refine vs_drop ?_
      refine ve_bm ?_
      k_places
      refine ⟨⟨rfl, _, get_last⟩, ?_⟩
      k_places
      have ey : wbool (!isNonD (D.p y)) = [if isNn y then 0 else 1] := by cases y <;> rfl
      refine ⟨_, rfl, ?_⟩
      rw [ey]
      k_places
      refine vm_extL (zs := intsP [if isNn y then 0 else 1]) get_last rfl (by rw [List.length_map, List.length_map, List.length_append, List.length_map, List.length_take]; show _ + 1 ≤ _; omega) ?_
      refine ⟨_, rfl, ?_⟩
      rw [List.set_append_right _ _ (Nat.le_refl _), Nat.sub_self, ef, map_dI, ← List.map_append, List.append_assoc]
      rfl
  · rintro env' h' ⟨o3, rfl, rfl⟩
    rw [List.length_map, List.take_length]
    generalize hb3 : b2 ++ ks.map (fun x => if isNn x then (0 : Int) else 1) = b3' at q ⊢
    have lb3 : b3'.length ≤ 2804 := by rw [← hb3, List.length_append, List.length_map]; have := B.k; omega
    refine vs_seq ?_
    refine vs_for (vi_range1 ?_)
    k_places
    refine ⟨4, rfl, by omega, by omega, ?_⟩
    refine ⟨fun i env' h' => ∃ o4 : Option D, env' = [some (.own n), some (dI mem), some (.own h.length), o3, o4] ∧ h' = h ++ [some (.lst ((b3' ++ ((List.range 4).take i).flatMap (fun k => wls wNs (unkP css k))).map dI))], ?_, ?_, ?_, ?_⟩
    · exact ⟨none, rfl, by rw [List.take_zero, List.flatMap_nil, List.append_nil]⟩
    · exact fun _ _ _ _ => trivial
    · rintro i d env' h' hd ⟨o4, rfl, rfl⟩
      obtain ⟨hi, rfl⟩ := rng_get hd
      have hi : i < 4 := hi
      have e : (List.range 4)[i]? = some i := List.getElem?_range hi
      have ef := flat_snoc (w := fun k => wls wNs (unkP css k)) e
      have ok1 := unk_ok B.s B.sl cl i
      have ok2 := okLs_len ok1 (by omega)
      have l6 := flat_le (w := fun k => wls wNs (unkP css k)) (m := 96006) (xs := (List.range 4).take i) fun k _ => (okLs_len (unk_ok B.s B.sl cl k) (by omega)).1
      have l7 : ((List.range 4).take i).length ≤ 4 := by rw [List.length_take, List.length_range]; omega
      have SB := S0.app [some (.lst ((b3' ++ ((List.range 4).take i).flatMap (fun k => wls wNs (unkP css k))).map dI))]
      refine vg_name ?_
      refine vs_drop ?_
      refine ve_bm ?_
      k_places
      refine ⟨⟨rfl, _, get_last⟩, ?_⟩
      k_places
      refine ⟨n, m, cut, caps, ks, css, I, i, by rw [Int.zero_add], SB, B.s, hi, ?_⟩
      k_places
      refine ⟨_, _, rfl, rfl, fun y hy => ⟨(ok1.1 y hy).1, by have := (ok1.1 y hy).2; omega⟩, by have := ok1.2; omega, by omega, ?_⟩
      k_places
      refine vm_extL (zs := intsP (wls wNs (unkP css i))) get_last rfl (by rw [List.length_map, List.length_map, List.length_append]; omega) ?_
      refine ⟨_, rfl, ?_⟩
      rw [List.set_append_right _ _ (Nat.le_refl _), Nat.sub_self, ef, map_dI, ← List.map_append, List.append_assoc]
      rfl
    · rintro env' h' ⟨o4, rfl, rfl⟩
      rw [rng_len]
      k_places
      refine fin_own ?_ q
      show some (OO.lst _) = some (OO.lst _)
      rw [map_dI]
      rfl
end
end Law

namespace Law
open PySem PySem.Spec PyProof.Rows L2 Kb
-- the steps that are tried: k_clsL a side condition; k_subL one step; k_places steps as long as one fits
local macro_rules | `(tactic| k_subL) => `(tactic| first | (with_reducible refine ve_lst ?_) | (with_reducible refine ve_cls ?_))
section
variable {Pg : Program} {w : World} {K : PySem.W.Frag} {Θ : Tbs} {mg : Str → Option Value} {base : Heap} {C CK CC : Addr}
abbrev st_lnum : Stmt := (topS 48)
theorem sc_lnum : FnScope ["number", "data"] ["number"] (defScope st_lnum) := ⟨rfl, rfl, rfl, by decide +kernel, rfl, by decide +kernel, by decide +kernel⟩
def W_lnum : Spc := fun ds h R => ∃ n : Nat, ds = [dI n] ∧ (wnum n).length ≤ 60 ∧ R (dL (intsP (wnum n))) h
theorem ok_lnum (A : DefAt K mg "_law_number" st_lnum ["number"]) (m_len : mg "len" = none) : HasF Pg w K mg base CX0 1 "_law_number" ["number"] (spD K Θ W_lnum) := by
  have sc := sc_lnum
  refine A.okD sc W_lnum (fun ds h R ⟨_, e, _⟩ => by rw [e]; rfl) fun f cdv A outer s H E hr => ?_
  refine ⟨_, (pss_cons (ps_set (i := 1) sc.nd rfl (.inl rfl) (pe_lst pa_nil))
  (pss_cons (ps_while PassesOwn.never (PW.pt (pw_and (pt_cmpR op_ge (pv 0) pe_int (nomark _)) (pw_and1 (pt_cmpR op_lt (pe_callB (call_lenK (K := K) (by rfl)) (by rfl) m_len (by decide +kernel) (pa_cons (pv 1) pa_nil)) pe_int (nomark _)))))
  (pss_cons (ps_expr (pe_bm PySem.F.plainAttrs_list PySem.F.slot_list_append PySem.F.type_list_append mt_append (pv 1) (pa_cons (pe_op (op_addWK (K := K) (by rfl)) (pe_op op_mod (pv 0) pe_int) pe_int) pa_nil)))
  (pss_one (ps_set (i := 0) sc.nd rfl (.inl rfl) (pe_op op_fdivW (pv 0) pe_int)))))
  (pss_one (ps_ret (pe_op (op_addWK (K := K) (by rfl)) (pv 1) (pe_lst (pa_cons (pv 0) pa_nil))))))), ?_⟩
  try dsimp only [cxOf]
  rintro ds h R ⟨n, rfl, hl, q⟩
  have sz := sizeLine_eq
  refine vs_fin ?_
  refine vs_seq ?_
  refine vs_asg ?_
  refine ve_lstO ?_
  refine va_nil ?_
  refine ⟨sz_le (by decide), ?_⟩
  refine vg_name ?_
  refine vs_cut (fun env' h' => ∃ (m : Nat) (acc : List Int), env' = [some (dI m), some (.own h.length)] ∧ h' = h ++ [intsO acc] ∧ acc ++ wnum m = wnum n ∧ m < 128) ?_ ?_
  · refine vs_while (fun env' h' => ∃ (m : Nat) (acc : List Int), env' = [some (dI m), some (.own h.length)] ∧ h' = h ++ [intsO acc] ∧ acc ++ wnum m = wnum n) (fun env' _ => match env' with | some (.p (.int m)) :: _ => m.toNat | _ => 0) ⟨n, [], rfl, rfl, rfl⟩ ?_
    rintro env' h' ⟨m, acc, rfl, rfl, e⟩
    have la : acc.length + (wnum m).length = (wnum n).length := by rw [← e, List.length_append]
    k_places
    refine ite_dec (fun c => ?_) (fun c => ?_)
    · have ec := wnum_great (n := m) (by omega)
      have l2 : 1 ≤ (wnum (m / 128)).length := by
        obtain ⟨hs, l, e, _⟩ := wnum_form (m / 128)
        rw [e, List.length_append]; show 1 ≤ _ + 1; omega
      have l3 : (wnum m).length = 1 + (wnum (m / 128)).length := by rw [ec, List.length_cons]; omega
      k_places
      refine vc_len (n := acc.length) ⟨_, last1, by rw [List.length_map]⟩ ?_
      k_places
      refine ite_dec (fun c2 => ?_) (fun c2 => ?_)
      · k_subL; k_subL
        refine ve_bm ?_
        k_places
        refine ⟨⟨rfl, _, last1⟩, ?_⟩
        k_places
        refine vm_append last1 (by rw [List.length_map]; omega) ?_
        rw [last1s]
        k_places
        refine ⟨⟨m / 128, acc ++ [((m % 128 + 128 : Nat) : Int)], ?_, ?_, ?_⟩, ?_⟩
        · rfl
        · simp [intsO]
        · rw [← e, ec, List.append_assoc]; rfl
        · show ((m : Int) / 128).toNat < ((m : Int)).toNat
          omega
      · exact absurd (show (acc.length : Int) < 60 by omega) c2
    · exact ⟨m, acc, rfl, rfl, e, by omega⟩
  rintro env' h' ⟨m, acc, rfl, rfl, e, hm⟩
  have em := wnum_small hm
  k_places
  refine v2_addWM (i := intsP acc) (j := [.int m]) (by show (h ++ [intsO acc])[h.length]? = _; rw [map_dI]; exact last1) rfl ?_ ?_
  · have la : acc.length + (wnum m).length = (wnum n).length := by rw [← e, List.length_append]
    rw [em] at la
    rw [List.length_map]
    show acc.length + 1 ≤ sizeLine
    simp at la
    omega
  · rw [em] at e
    have e2 : intsP acc ++ [.int m] = intsP (wnum n) := by rw [← e]; simp
    rw [e2]
    exact ⟨_, rfl, .inl ⟨_, rfl, q⟩⟩
abbrev st_lnums : Stmt := (topS 49)
theorem sc_lnums : FnScope ["numbers", "data", "number"] ["numbers"] (defScope st_lnums) := ⟨rfl, rfl, rfl, by decide +kernel, rfl, by decide +kernel, by decide +kernel⟩
def seqOf : P → Option (List P)
  | .tup xs => some xs
  | .lst xs => some xs
  | _ => none
def W_lnums : Spc := fun ds h R => ∃ (x : P) (xs : List P), ds = [.p x] ∧ seqOf x = some xs ∧ (∀ y ∈ xs, okN y) ∧ xs.length ≤ 5000 ∧ R (dL (intsP (xs.flatMap wN))) h
theorem ok_lnums (A : DefAt K mg "_law_numbers" st_lnums ["numbers"]) (h__law_number : HasF Pg w K mg base CX0 1 "_law_number" ["number"] (spD K Θ W_lnum)) : HasF Pg w K mg base CX0 2 "_law_numbers" ["numbers"] (spD K Θ W_lnums) := by
  have sc := sc_lnums
  refine A.okD sc W_lnums (fun ds h R ⟨_, _, e, _⟩ => by rw [e]; rfl) fun f cdv A outer s H E hr => ?_
  refine ⟨_, (pss_cons (ps_set (i := 1) sc.nd rfl (.inl rfl) (pe_lst pa_nil))
  (pss_cons (ps_for PassesOwn.never rfl (pi_seqK (K := K) (by rfl) (pv 0)) (pg_name (i := 2) sc.nd rfl (.inl rfl))
  (pss_one (ps_set (i := 1) sc.nd rfl (.inl rfl) (pe_op (op_addWK (K := K) (by rfl)) (pv 1) (h__law_number.call (hr.mono (by first | decide | omega)) rfl pass0 (pa_cons (pv 2) pa_nil))))))
  (pss_one (ps_ret (pv 1))))), ?_⟩
  try dsimp only [cxOf]
  rintro ds h R ⟨x, xs, rfl, hs, hx, hl, q⟩
  have sz := sizeLine_eq
  have vi : ∀ {env : Env'} {T : List D → (Hs → Prop) → Hs → Prop}, env[0]? = some (some (.p x)) → T (xs.map D.p) (fun _ => True) h → VI K (Ctx.plain Θ) (iSeq K (tVar 0)) env h T := fun e t => by
    cases x with
    | tup ys => cases hs; exact vi_seqT (ve_var e ⟨_, rfl, t⟩)
    | lst ys => cases hs; exact vi_seqL (ve_var e ⟨_, rfl, t⟩)
    | _ => cases hs
  k_places
  refine vs_for (vi rfl ?_)
  refine ⟨fun i env' h' => ∃ o2 : Option D, env' = [some (.p x), some (dL (intsP ((xs.take i).flatMap wN))), o2] ∧ h' = h, ?_, ?_, ?_, ?_⟩
  · exact ⟨none, rfl, rfl⟩
  · exact fun _ _ _ _ => trivial
  · rintro i d env' h' hd ⟨o2, rfl, rfl⟩
    rw [List.getElem?_map] at hd
    cases e : xs[i]? with
    | none => rw [e] at hd; cases hd
    | some y =>
      rw [e] at hd; cases hd
      have oy := hx y (List.mem_of_getElem? e)
      have ly := okN_len oy
      have ef := flat_snoc (w := wN) e
      have lf := flat_le (w := wN) (m := 60) (xs := xs.take i) fun z hz => okN_len (hx z (List.mem_of_mem_take hz))
      have lt : (xs.take i).length ≤ xs.length := by rw [List.length_take]; omega
      cases y with
      | int n =>
        have on : 0 ≤ n ∧ n < 128 ^ 60 := oy
        k_places
        refine ⟨n.toNat, by rw [Int.toNat_of_nonneg on.1], ly, ?_⟩
        refine v2_addWM (i := intsP ((xs.take i).flatMap wN)) (j := intsP (wnum n.toNat)) rfl rfl (by rw [List.length_map, List.length_map]; have : (wnum n.toNat).length ≤ 60 := ly; omega) ?_
        k_places
        refine ⟨some (.p (.int n)), ?_, rfl⟩
        rw [ef]
        simp only [intsP, List.map_append]
        rfl
      | _ => exact oy.elim
  · rintro env' h' ⟨o2, rfl, rfl⟩
    rw [List.length_map, List.take_length]
    k_places
    exact q
abbrev st_lsgn : Stmt := (topS 50)
theorem sc_lsgn : FnScope ["number"] ["number"] (defScope st_lsgn) := ⟨rfl, rfl, rfl, by decide +kernel, rfl, by decide +kernel, by decide +kernel⟩
theorem ok_lsgn (A : DefAt K mg "_law_signed" st_lsgn ["number"]) (m_abs : mg "abs" = none) (m_int : mg "int" = none) (h__law_number : HasF Pg w K mg base CX0 1 "_law_number" ["number"] (spD K Θ W_lnum)) : HasF Pg w K mg base CX0 2 "_law_signed" ["number"] (spD K Θ W_wint) := by
  have sc := sc_lsgn
  refine A.okD sc W_wint (fun ds h R ⟨_, e, _⟩ => by rw [e]; rfl) fun f cdv A outer s H E hr => ?_
  refine ⟨_, (pss_one (ps_ret (pe_op (op_addWK (K := K) (by rfl)) (pe_lst (pa_cons (pe_callTy call_intU (by rfl) m_int (by decide +kernel) (pa_cons (pe_cmpR op_lt (pv 0) pe_int (nomark _)) pa_nil)) pa_nil)) (h__law_number.call (hr.mono (by first | decide | omega)) rfl pass0 (pa_cons (pe_callB call_abs (by rfl) m_abs (by decide +kernel) (pa_cons (pv 0) pa_nil)) pa_nil))))), ?_⟩
  try dsimp only [cxOf]
  rintro ds h R ⟨i, rfl, hi, q⟩
  have sz := sizeLine_eq
  k_places
  have e0 : (if i < 0 then -i else i) = (i.natAbs : Int) := by split <;> omega
  rw [e0]
  have ln := wnum_60 hi
  refine ⟨i.natAbs, rfl, ln, ?_⟩
  refine v2_addWM (i := [.int (if decide (i < 0) = true then 1 else 0)]) (j := intsP (wnum i.natAbs)) rfl rfl (by rw [List.length_map]; show 1 + _ ≤ _; omega) ?_
  have e1 : [P.int (if decide (i < 0) = true then 1 else 0)] ++ intsP (wnum i.natAbs) = intsP (wint i) := by
    unfold wint
    simp only [intsP, List.map_append, List.map_cons, List.map_nil, decide_eq_true_eq]
  rw [e1]
  exact q
abbrev st_lopt : Stmt := (topS 52)
theorem sc_lopt : FnScope ["numbers"] ["numbers"] (defScope st_lopt) := ⟨rfl, rfl, rfl, by decide +kernel, rfl, by decide +kernel, by decide +kernel⟩
theorem ok_lopt (A : DefAt K mg "_law_optional" st_lopt ["numbers"]) (h__law_numbers : HasF Pg w K mg base CX0 2 "_law_numbers" ["numbers"] (spD K Θ W_lnums)) : HasF Pg w K mg base CX0 3 "_law_optional" ["numbers"] (spD K Θ (W_wr (wopt wNs) (okO okNs))) := by
  have sc := sc_lopt
  refine A.okD sc (W_wr (wopt wNs) (okO okNs)) (fun ds h R ⟨_, e, _⟩ => by rw [e]; rfl) fun f cdv A outer s H E hr => ?_
  refine ⟨_, (pss_cons (ps_if (pt_cmpR op_isU (pv 0) pe_non (nomark _)) (pss_one (ps_ret (pe_lst (pa_cons pe_int pa_nil)))) pss_nil)
  (pss_one (ps_ret (pe_op (op_addWK (K := K) (by rfl)) (pe_lst (pa_cons pe_int pa_nil)) (h__law_numbers.call (hr.mono (by first | decide | omega)) rfl pass0 (pa_cons (pv 0) pa_nil)))))), ?_⟩
  try dsimp only [cxOf]
  rintro ds h R ⟨v, rfl, hv, q⟩
  have sz := sizeLine_eq
  rcases hv with rfl | ⟨hv, nv⟩
  · k_places
    exact q
  · have hl := okNs_len hv
    obtain ⟨xs, rfl, hx, xl⟩ := hv
    have hl : (xs.flatMap wN).length ≤ 240 := hl
    have q : R (dL (intsP ([1] ++ xs.flatMap wN))) h := q
    k_places
    refine ⟨_, xs, rfl, rfl, hx, by omega, ?_⟩
    refine v2_addWM (i := [.int 1]) (j := intsP (xs.flatMap wN)) rfl rfl (by rw [List.length_map]; show 1 + _ ≤ _; omega) ?_
    exact q
abbrev st_lstr : Stmt := (topS 51)
theorem sc_lstr : FnScope ["text", "char"] ["text"] (defScope st_lstr) := ⟨rfl, rfl, rfl, by decide +kernel, rfl, by decide +kernel, by decide +kernel⟩
theorem ok_lstr (A : DefAt K mg "_law_string" st_lstr ["text"]) (m_len : mg "len" = none) (m_ord : mg "ord" = none) (h__law_number : HasF Pg w K mg base CX0 1 "_law_number" ["number"] (spD K Θ W_lnum)) (h__law_numbers : HasF Pg w K mg base CX0 2 "_law_numbers" ["numbers"] (spD K Θ W_lnums)) : HasF Pg w K mg base CX0 3 "_law_string" ["text"] (spD K Θ W_wstr) := by
  have sc := sc_lstr
  refine A.okD sc W_wstr (fun ds h R ⟨_, e, _⟩ => by rw [e]; rfl) fun f cdv A outer s H E hr => ?_
  refine ⟨_, (pss_one (ps_ret (pe_op (op_addWK (K := K) (by rfl)) (h__law_number.call (hr.mono (by first | decide | omega)) rfl pass0 (pa_cons (pe_callB (call_lenK (K := K) (by rfl)) (by rfl) m_len (by decide +kernel) (pa_cons (pv 0) pa_nil)) pa_nil)) (h__law_numbers.call (hr.mono (by first | decide | omega)) rfl pass0 (pa_cons (pe_lc (own := [("char", 1)]) rfl sc.nd (pi_str (pv 0)) (blkOk_by (N := ["text", "char"]) (sc := defScope (topS 51)) (by decide +kernel)) (fun _ _ _ _ _ => (pg_name (i := 1) sc.nd rfl (.inl rfl))) (fun _ _ _ _ _ => pts_nil) (fun _ _ _ _ _ => (pe_callB call_ord (by rfl) m_ord (by decide +kernel) (pa_cons (pv 1) pa_nil)))) pa_nil))))), ?_⟩
  try dsimp only [cxOf]
  rintro ds h R ⟨z, rfl, hz, q⟩
  have sz := sizeLine_eq
  have hlz := hz.len
  have hl := wstr_len hz
  have l6 := wnum_6 (n := z.length) (by omega)
  k_places
  refine vc_len (n := z.length) ⟨by omega, rfl⟩ ?_
  k_places
  refine ⟨z.length, rfl, by omega, ?_⟩
  k_places
  refine ve_lcL tg_name z.cps.toList (fun c => .p (.str ⟨#[c]⟩)) (fun _ => true) (fun c => .int (c : Nat)) ?_
  refine vi_str ?_
  k_places
  have lz : z.cps.toList.length = z.length := Array.length_toList
  refine ⟨z, rfl, by unfold chP; rw [List.map_map]; rfl, by omega, fun _ => trivial, fun c hc acc => ?_, ?_⟩
  · refine vg_name ⟨rfl, vt_yes ⟨rfl, rfl, fun _ => ?_⟩⟩
    k_places
    refine call_ordD ⟨rfl, rfl⟩
  · rw [filter_tt]
    k_places
    have ew : (z.cps.toList.map fun c => P.int (c : Nat)).flatMap wN = z.cps.toList.flatMap wchr := by
      rw [List.flatMap_map]; rfl
    have lw : (wnum z.length).length + (z.cps.toList.flatMap wchr).length = (wstr z).length := by unfold wstr; rw [List.length_append]
    refine ⟨.lst (z.cps.toList.map fun c => P.int (c : Nat)), _, rfl, rfl, fun y hy => ?_, by rw [List.length_map]; omega, ?_⟩
    · obtain ⟨c, hc, rfl⟩ := List.mem_map.mp hy
      have := hz.cps c hc
      exact ⟨Int.natCast_nonneg _, by omega⟩
    · rw [ew]
      refine v2_addWM (i := intsP (wnum z.length)) (j := intsP (z.cps.toList.flatMap wchr)) rfl rfl (by rw [List.length_map, List.length_map]; omega) ?_
      have e : intsP (wnum z.length) ++ intsP (z.cps.toList.flatMap wchr) = intsP (wstr z) := by unfold wstr; simp only [intsP, List.map_append]
      rw [e]
      exact q
abbrev st_lbyt : Stmt := (topS 53)
theorem sc_lbyt : FnScope ["value"] ["value"] (defScope st_lbyt) := ⟨rfl, rfl, rfl, by decide +kernel, rfl, by decide +kernel, by decide +kernel⟩
theorem ok_lbyt (A : DefAt K mg "_law_bytes_of" st_lbyt ["value"]) (m_isinstance : mg "isinstance" = none) (m_int : mg "int" = none) (m_bool : mg "bool" = none) (h__law_signed : HasF Pg w K mg base CX0 2 "_law_signed" ["number"] (spD K Θ W_wint)) (h__law_string : HasF Pg w K mg base CX0 3 "_law_string" ["text"] (spD K Θ W_wstr)) : HasF Pg w K mg base CX0 4 "_law_bytes_of" ["value"] (spD K Θ (W_wr wval okV)) := by
  have sc := sc_lbyt
  refine A.okD sc (W_wr wval okV) (fun ds h R ⟨_, e, _⟩ => by rw [e]; rfl) fun f cdv A outer s H E hr => ?_
  refine ⟨_, (pss_cons (ps_if (pt_cmpR op_isU (pv 0) pe_non (nomark _)) (pss_one (ps_ret (pe_lst (pa_cons pe_int pa_nil)))) pss_nil)
  (pss_cons (ps_if (pt_val (pe_callB (call_isiUK (K := K) (by rfl)) (by rfl) m_isinstance (by decide +kernel) (pa_cons (pv 0) (pa_cons (pe_bltn (v := .ty "bool") rfl m_bool (by decide +kernel) rfl) pa_nil)))) (pss_one (ps_ret (pe_lst (pa_cons pe_int (pa_cons (pe_callTy call_intU (by rfl) m_int (by decide +kernel) (pa_cons (pv 0) pa_nil)) pa_nil))))) pss_nil)
  (pss_cons (ps_if (pt_val (pe_callB (call_isiUK (K := K) (by rfl)) (by rfl) m_isinstance (by decide +kernel) (pa_cons (pv 0) (pa_cons (pe_bltn (v := .ty "int") rfl m_int (by decide +kernel) rfl) pa_nil)))) (pss_one (ps_ret (pe_op (op_addWK (K := K) (by rfl)) (pe_lst (pa_cons pe_int pa_nil)) (h__law_signed.call (hr.mono (by first | decide | omega)) rfl pass0 (pa_cons (pv 0) pa_nil))))) pss_nil)
  (pss_one (ps_ret (pe_op (op_addWK (K := K) (by rfl)) (pe_lst (pa_cons pe_int pa_nil)) (h__law_string.call (hr.mono (by first | decide | omega)) rfl pass0 (pa_cons (pv 0) pa_nil)))))))), ?_⟩
  try dsimp only [cxOf]
  rintro ds h R ⟨v, rfl, hv, q⟩
  have sz := sizeLine_eq
  cases v with
  | non =>
    k_places
    exact q
  | bl b =>
    k_places
    exact q
  | int i =>
    have hl := wint_len (i := i) hv
    k_places
    refine ⟨i, rfl, hv, ?_⟩
    refine v2_addWM (i := [.int 2]) rfl rfl (by rw [List.length_map]; show 1 + _ ≤ _; omega) ?_
    exact q
  | str z =>
    have hl := wstr_len (z := z) hv
    k_places
    refine ⟨z, rfl, hv, ?_⟩
    refine v2_addWM (i := [.int 3]) rfl rfl (by rw [List.length_map]; show 1 + _ ≤ _; omega) ?_
    exact q
  | _ => exact hv.elim
abbrev st_lhld : Stmt := (topS 54)
theorem sc_lhld : FnScope ["holds", "words"] ["holds"] (defScope st_lhld) := ⟨rfl, rfl, rfl, by decide +kernel, rfl, by decide +kernel, by decide +kernel⟩
def okHdF (p : P) : Prop := okHd p ∧ Flat 2 p
theorem ok_lhld (A : DefAt K mg "_law_holds" st_lhld ["holds"]) (h__law_numbers : HasF Pg w K mg base CX0 2 "_law_numbers" ["numbers"] (spD K Θ W_lnums)) : HasF Pg w K mg base CX0 3 "_law_holds" ["holds"] (spD K Θ (W_wr whld okHdF)) := by
  have sc := sc_lhld
  refine A.okD sc (W_wr whld okHdF) (fun ds h R ⟨_, e, _⟩ => by rw [e]; rfl) fun f cdv A outer s H E hr => ?_
  refine ⟨_, (pss_cons (ps_set (i := 1) sc.nd rfl (.inl rfl) (pe_lst (pa_cons pe_str (pa_cons pe_str (pa_cons pe_str (pa_cons pe_str (pa_cons pe_str pa_nil)))))))
  (pss_cons (ps_if (pt_cmpR (op_inDK (K := K) (by rfl) hr.u65) (pv 0) (pv 1) (by rfl)) (pss_one (ps_ret (pe_lst (pa_cons (pe_bm PySem.F.plainAttrs_list PySem.F.slot_list_index PySem.F.type_list_index mt_index (pv 1) (pa_cons (pv 0) pa_nil)) pa_nil)))) pss_nil)
  (pss_one (ps_ret (pe_op (op_addWK (K := K) (by rfl)) (pe_lst (pa_cons pe_int pa_nil)) (h__law_numbers.call (hr.mono (by first | decide | omega)) rfl pass0 (pa_cons (pe_ix (ix_seqK (K := K) (by rfl)) (pv 0) pe_int (fun _ _ => rfl)) pa_nil))))))), ?_⟩
  try dsimp only [cxOf]
  rintro ds h R ⟨v, rfl, ⟨hv, hf⟩, q⟩
  have sz := sizeLine_eq
  have ly : ((holdWs.map P.str).all plainP) = true := by decide +kernel
  have sy : SeqAt.shaped (.list ((holdWs.map P.str).map pyOf)) = true := by decide +kernel
  rcases hv with ⟨z, hz, rfl⟩ | ⟨x, c, rfl, hc⟩
  · k_places
    have z1 : ∀ z ∈ holdWs, SeqAt.shaped (pyOf (.str z)) = true := by decide +kernel
    have z2 : ∀ z ∈ holdWs, ((holdWs.map P.str).any fun y => PyData.eqv (pyOf y) (pyOf (.str z))) = true := by decide +kernel
    refine v2_inM (ps := holdWs.map P.str) rfl rfl ly (z1 z hz) sy ?_
    rw [z2 z hz]
    k_places
    refine ve_bm ?_
    k_places
    refine ⟨rfl, ?_⟩
    k_places
    obtain ⟨g1, g2⟩ := idxOf_no hz
    refine vm_indexL (ys := holdWs) g1 g2 ?_
    k_places
    exact q
  · have hl := okNs_len hc
    obtain ⟨xs, rfl, hx, xl⟩ := hc
    have ea : ((holdWs.map P.str).any fun y => PyData.eqv (pyOf y) (pyOf (.tup [.str x, .tup xs]))) = false := by
      rw [List.any_map, List.any_eq_false]
      intro y hy
      exact fun e => by cases e
    have hl : (xs.flatMap wN).length ≤ 240 := hl
    have q : R (dL (intsP ([5] ++ xs.flatMap wN))) h := q
    k_places
    refine v2_inM (ps := holdWs.map P.str) rfl hf.pl ly (hf.shaped (by omega)) sy ?_
    rw [ea]
    k_places
    refine v2_ixT (xs := [.str x, .tup xs]) (at_nat 1 rfl rfl) ?_
    k_places
    refine ⟨_, xs, rfl, rfl, hx, by omega, ?_⟩
    refine v2_addWM (i := [.int 5]) (j := intsP (xs.flatMap wN)) rfl rfl (by rw [List.length_map]; show 1 + _ ≤ _; omega) ?_
    exact q
end
end Law

namespace Law
open PySem PySem.Spec PyProof.Rows L2 Kb
-- the steps that are tried: k_clsL a side condition; k_subL one step; k_places steps as long as one fits
local macro_rules | `(tactic| k_subL) => `(tactic| first | (with_reducible refine ve_lst ?_) | (with_reducible refine ve_cls ?_))
section
variable {Pg : Program} {w : World} {K : PySem.W.Frag} {Θ : Tbs} {mg : Str → Option Value} {base : Heap} {C CK CC : Addr}
abbrev st_lrtb : Stmt := (topS 56)
theorem sc_lrtb : FnScope ["rights", "data", "three", "each"] ["rights"] (defScope st_lrtb) := ⟨rfl, rfl, rfl, by decide +kernel, rfl, by decide +kernel, by decide +kernel⟩
theorem ok_lrtb (A : DefAt K mg "_law_rights_bytes" st_lrtb ["rights"]) (m_int : mg "int" = none) : HasF Pg w K mg base CX0 1 "_law_rights_bytes" ["rights"] (spD K Θ (W_wr wrts okRt)) := by
  have sc := sc_lrtb
  refine A.okD sc (W_wr wrts okRt) (fun ds h R ⟨_, e, _⟩ => by rw [e]; rfl) fun f cdv A outer s H E hr => ?_
  refine ⟨_, (pss_cons (ps_set (i := 1) sc.nd rfl (.inl rfl) (pe_lst pa_nil))
  (pss_cons (ps_for PassesOwn.never rfl (pi_seqK (K := K) (by rfl) (pv 0)) (pg_name (i := 2) sc.nd rfl (.inl rfl))
  (pss_one (ps_set (i := 1) sc.nd rfl (.inl rfl) (pe_op (op_addWK (K := K) (by rfl)) (pv 1) (pe_lc (own := [("each", 3)]) rfl sc.nd (pi_seqK (K := K) (by rfl) (pv 2)) (blkOk_by (N := ["rights", "data", "three", "each"]) (sc := defScope (topS 56)) (by decide +kernel)) (fun _ _ _ _ _ => (pg_name (i := 3) sc.nd rfl (.inl rfl))) (fun _ _ _ _ _ => pts_nil) (fun _ _ _ _ _ => (pe_callTy call_intU (by rfl) m_int (by decide +kernel) (pa_cons (pv 3) pa_nil))))))))
  (pss_one (ps_ret (pv 1))))), ?_⟩
  try dsimp only [cxOf]
  rintro ds h R ⟨v, rfl, hv, q⟩
  have sz := sizeLine_eq
  obtain ⟨r, rfl, rl⟩ := hv
  rw [wrts_eq] at q
  k_places
  refine vs_for (vi_seqT ?_)
  k_places
  refine ⟨r.map rtP, rfl, ?_⟩
  refine ⟨fun i env' h' => ∃ o2 : Option D, env' = [some (.p (rtsP r)), some (dL (intsP (((r.take i).flatMap rtB).map bI))), o2, none] ∧ h' = h, ?_, ?_, ?_, ?_⟩
  · exact ⟨none, rfl, rfl⟩
  · exact fun _ _ _ _ => trivial
  · rintro i d env' h' hd ⟨o2, rfl, rfl⟩
    rw [List.getElem?_map, List.getElem?_map] at hd
    cases e : r[i]? with
    | none => rw [e] at hd; cases hd
    | some y =>
      rw [e] at hd; cases hd
      k_places
      have ef : (r.take (i + 1)).flatMap rtB = (r.take i).flatMap rtB ++ rtB y := by
        rw [List.take_add_one, e, Option.toList_some, List.flatMap_append]; simp
      have hi := (List.getElem?_eq_some_iff.mp e).1
      have elen : ∀ r : Wd.Rts, (r.flatMap rtB).length = 3 * r.length := by
        intro r
        induction r with
        | nil => rfl
        | cons t r ih => rw [List.flatMap_cons, List.length_append, ih, List.length_cons]; show 3 + _ = _; omega
      have l1 := elen (r.take i)
      rw [List.length_take] at l1
      refine ve_lcL tg_name (rtB y) (fun b => dB b) (fun _ => true) (fun b => .int (bI b)) ?_
      refine vi_seqT ?_
      k_places
      refine ⟨[.bl y.1, .bl y.2.1, .bl y.2.2], rfl, rfl, by show 3 < _; omega, fun _ => trivial, fun b hb acc => ?_, ?_⟩
      · refine vg_name ⟨rfl, vt_yes ⟨rfl, rfl, fun _ => ?_⟩⟩
        k_places
        exact ⟨rfl, by cases b <;> rfl⟩
      · rw [filter_tt]
        have e2 : (rtB y).map (fun b => P.int (bI b)) = intsP ((rtB y).map bI) := by show _ = ((rtB y).map bI).map P.int; rw [List.map_map]; rfl
        rw [e2]
        refine v2_addWM (i := intsP (((r.take i).flatMap rtB).map bI)) (j := intsP ((rtB y).map bI)) rfl rfl (by rw [List.length_map, List.length_map, List.length_map, List.length_map]; show _ + 3 ≤ _; omega) ?_
        k_places
        refine ⟨some (.p (rtP y)), ?_, rfl⟩
        rw [ef]
        simp only [intsP, List.map_append]
        rfl
  · rintro env' h' ⟨o2, rfl, rfl⟩
    rw [List.length_map, List.length_map, List.take_length]
    k_places
    exact q
abbrev st_lspt : Stmt := (topS 43)
theorem sc_lspt : FnScope ["number"] ["number"] (defScope st_lspt) := ⟨rfl, rfl, rfl, by decide +kernel, rfl, by decide +kernel, by decide +kernel⟩
def spt (n : Int) : P := .tup [.int (n % 6), .int (1 + n / 6 % 300), .int (n / 1800 % 200)]
def W_lspt : Spc := fun ds h R => ∃ n : Int, ds = [dI n] ∧ 0 ≤ n ∧ n < 2 ^ 60 ∧ R (.p (spt n)) h
theorem ok_lspt (A : DefAt K mg "_law_spot" st_lspt ["number"]) : HasF Pg w K mg base CX0 1 "_law_spot" ["number"] (spD K Θ W_lspt) := by
  have sc := sc_lspt
  refine A.okD sc W_lspt (fun ds h R ⟨_, e, _⟩ => by rw [e]; rfl) fun f cdv A outer s H E hr => ?_
  refine ⟨_, (pss_one (ps_ret (pe_tup (pa_cons (pe_op op_mod (pv 0) pe_int) (pa_cons (pe_op (op_addWK (K := K) (by rfl)) pe_int (pe_op op_mod (pe_op op_fdivW (pv 0) pe_int) pe_int)) (pa_cons (pe_op op_mod (pe_op op_fdivW (pv 0) pe_int) pe_int) pa_nil)))))), ?_⟩
  try dsimp only [cxOf]
  rintro ds h R ⟨n, rfl, n0, n1, q⟩
  k_places
  exact q
theorem spt_ok {n : Int} (h : 0 ≤ n) : okNs (spt n) := by
  refine ⟨_, rfl, fun x hx => ?_, by show 3 ≤ 4; omega⟩
  have b : (1000 : Int) < 128 ^ 60 := by decide +kernel
  rcases List.mem_cons.mp hx with rfl | hx
  · exact ⟨by omega, by omega⟩
  rcases List.mem_cons.mp hx with rfl | hx
  · exact ⟨by omega, by omega⟩
  rcases List.mem_cons.mp hx with rfl | hx
  · exact ⟨by omega, by omega⟩
  cases hx
abbrev st_lrts : Stmt := (topS 47)
theorem sc_lrts : FnScope ["number", "rights", "space", "bits"] ["number"] (defScope st_lrts) := ⟨rfl, rfl, rfl, by decide +kernel, rfl, by decide +kernel, by decide +kernel⟩
def rt3 (b : Int) : Bool × Bool × Bool := (decide (b % 2 = 1), decide (b / 2 % 2 = 1), decide (b / 4 % 2 = 1))
def sh4 : List Int := [1, 8, 64, 512]
def rtsN (n : Int) : Wd.Rts := (List.range 4).map fun s => rt3 (n / sh4.getD s 1)
def W_lrts : Spc := fun ds h R => ∃ n : Int, ds = [dI n] ∧ 0 ≤ n ∧ n < 2 ^ 60 ∧ R (.p (rtsP (rtsN n))) h
theorem ok_lrts (A : DefAt K mg "_law_rights" st_lrts ["number"]) (m_range : mg "range" = none) (m_tuple : mg "tuple" = none) : HasF Pg w K mg base CX0 1 "_law_rights" ["number"] (spD K Θ W_lrts) := by
  have sc := sc_lrts
  refine A.okD sc W_lrts (fun ds h R ⟨_, e, _⟩ => by rw [e]; rfl) fun f cdv A outer s H E hr => ?_
  refine ⟨_, (pss_cons (ps_set (i := 1) sc.nd rfl (.inl rfl) (pe_lst pa_nil))
  (pss_cons (ps_for PassesOwn.never rfl (pi_range1 rfl m_range (pa_cons pe_int pa_nil)) (pg_name (i := 2) sc.nd rfl (.inl rfl))
  (pss_cons (ps_set (i := 3) sc.nd rfl (.inl rfl) (pe_op op_fdivW (pv 0) (pe_ix (ix_seqK (K := K) (by rfl)) (pe_lst (pa_cons pe_int (pa_cons pe_int (pa_cons pe_int (pa_cons pe_int pa_nil))))) (pv 2) (fun _ _ => rfl))))
  (pss_one (ps_expr (pe_bm PySem.F.plainAttrs_list PySem.F.slot_list_append PySem.F.type_list_append mt_append (pv 1) (pa_cons (pe_tup (pa_cons (pe_cmpR (op_eqUK (K := K) (by rfl) hr.units) (pe_op op_mod (pv 3) pe_int) pe_int (nomark _)) (pa_cons (pe_cmpR (op_eqUK (K := K) (by rfl) hr.units) (pe_op op_mod (pe_op op_fdivW (pv 3) pe_int) pe_int) pe_int (nomark _)) (pa_cons (pe_cmpR (op_eqUK (K := K) (by rfl) hr.units) (pe_op op_mod (pe_op op_fdivW (pv 3) pe_int) pe_int) pe_int (nomark _)) pa_nil)))) pa_nil))))))
  (pss_one (ps_ret (pe_callTy (call_tuple_ofK (K := K) (by rfl)) (by rfl) m_tuple (by decide +kernel) (pa_cons (pv 1) pa_nil)))))), ?_⟩
  try dsimp only [cxOf]
  rintro ds h R ⟨n, rfl, n0, n1, q⟩
  have sz := sizeLine_eq
  refine vs_fin ?_
  refine vs_seq ?_
  refine vs_asg ?_
  refine ve_lstO ?_
  refine va_nil ?_
  refine ⟨sz_le (by decide), ?_⟩
  refine vg_name ?_
  refine vs_seq ?_
  refine vs_for (vi_range1 ?_)
  k_places
  refine ⟨4, rfl, by omega, by omega, ?_⟩
  refine ⟨fun i env' h' => ∃ o2 o3 : Option D, env' = [some (dI n), some (.own h.length), o2, o3] ∧ h' = h ++ [some (.lst (((rtsN n).take i).map fun t => .p (rtP t)))], ?_, ?_, ?_, ?_⟩
  · exact ⟨none, none, rfl, rfl⟩
  · exact fun _ _ _ _ => trivial
  · rintro i d env' h' hd ⟨o2, o3, rfl, rfl⟩
    obtain ⟨hi, rfl⟩ := rng_get hd
    have hi : i < 4 := hi
    have e4 : (rtsN n)[i]? = some (rt3 (n / sh4.getD i 1)) := by unfold rtsN; rw [List.getElem?_map, List.getElem?_range hi]; rfl
    have l4 : (rtsN n).length = 4 := by unfold rtsN; rw [List.length_map, List.length_range]
    have es : ((rtsN n).take (i + 1)).map (fun t => D.p (rtP t)) = ((rtsN n).take i).map (fun t => D.p (rtP t)) ++ [.p (rtP (rt3 (n / sh4.getD i 1)))] := by
      rw [List.take_add_one, e4, Option.toList_some, List.map_append]; rfl
    have lt : (((rtsN n).take i).map fun t => D.p (rtP t)).length ≤ 4 := by rw [List.length_map, List.length_take]; omega
    generalize ((rtsN n).take i).map (fun t => D.p (rtP t)) = acc at es lt ⊢
    refine vg_name ?_
    k_places
    rw [Int.zero_add]
    have hs : [P.int 1, P.int 8, P.int 64, P.int 512][i]? = some (.int (sh4.getD i 1)) := by
      have : i = 0 ∨ i = 1 ∨ i = 2 ∨ i = 3 := by omega
      rcases this with rfl | rfl | rfl | rfl <;> rfl
    have hp : 0 < sh4.getD i 1 ∧ sh4.getD i 1 < 1000 := by
      have : i = 0 ∨ i = 1 ∨ i = 2 ∨ i = 3 := by omega
      rcases this with rfl | rfl | rfl | rfl <;> decide
    refine v2_ixL (at_nat i rfl hs) ?_
    generalize sh4.getD i 1 = c at hp es ⊢
    obtain ⟨hp, hp2⟩ := hp
    have hb : 0 ≤ n / c := Int.ediv_nonneg n0 (by omega)
    have hb2 : n / c < 2 ^ 60 := Int.lt_of_le_of_lt (Int.ediv_le_self c n0) n1
    have hl9 : c.natAbs.log2 < 9000 := by
      have h1 : c.natAbs < 2 ^ 10 := by have : (2 : Nat) ^ 10 = 1024 := rfl; omega
      have h2 : c.natAbs.log2 < 10 := (Nat.log2_lt (by omega)).mpr h1
      omega
    refine v2_divW ⟨hp, hl9⟩ ?_
    k_places
    refine ve_bm ?_
    k_places
    refine ⟨⟨rfl, _, get_last⟩, ?_⟩
    k_places
    refine vm_append get_last (by omega) ?_
    refine ⟨_, _, rfl, ?_⟩
    rw [List.set_append_right _ _ (Nat.le_refl _), Nat.sub_self, es]
    rfl
  · rintro env' h' ⟨o2, o3, rfl, rfl⟩
    rw [rng_len]
    have l4 : (rtsN n).length = 4 := by unfold rtsN; rw [List.length_map, List.length_range]
    have et : (rtsN n).take (Int.toNat 4) = rtsN n := List.take_of_length_le (by rw [l4]; decide)
    rw [et]
    k_places
    refine vc_tuple (ps := (rtsN n).map rtP) (by show (h ++ [_])[h.length]? = _; rw [get_last, List.map_map]; rfl) ?_
    exact fin_p _ q
end
end Law

namespace Law
open PySem PySem.Spec PyProof.Rows L2 Kb
-- the steps that are tried: k_clsL a side condition; k_subL one step; k_places steps as long as one fits
local macro_rules | `(tactic| k_subL) => `(tactic| first | (with_reducible refine ve_lst ?_) | (with_reducible refine ve_cls ?_))
theorem actB_at {j : Nat} {k : Str} {zs : List Str} {fs : List Fm} {ps : List P} (a : ActB j k zs fs ps) {k' : Str} {zs' : List Str} (e : actsT[j]? = some (k', zs')) : k = k' ∧ fs = zs'.filterMap fmOf ∧ okFs fs ps := by
  have h := a.at_
  rw [e] at h
  cases h
  exact ⟨rfl, (fm_filter a.fm).symm, a.ok⟩
theorem okFs3 {a b c : Fm} {ps : List P} (o : okFs [a, b, c] ps) : ∃ x1 x2 x3, ps = [x1, x2, x3] ∧ okF a x1 ∧ okF b x2 ∧ okF c x3 := by
  cases o with
  | cons h1 o =>
    cases o with
    | cons h2 o =>
      cases o with
      | cons h3 o =>
        cases o
        exact ⟨_, _, _, rfl, h1, h2, h3⟩
theorem okFs4 {a b c d : Fm} {ps : List P} (o : okFs [a, b, c, d] ps) : ∃ x1 x2 x3 x4, ps = [x1, x2, x3, x4] ∧ okF a x1 ∧ okF b x2 ∧ okF c x3 ∧ okF d x4 := by
  cases o with
  | cons h0 o =>
    obtain ⟨x1, x2, x3, rfl, h1, h2, h3⟩ := okFs3 o
    exact ⟨_, _, _, _, rfl, h0, h1, h2, h3⟩
section
variable {Pg : Program} {w : World} {K : PySem.W.Frag} {Θ : Tbs} {mg : Str → Option Value} {base : Heap} {C CK CC : Addr}
abbrev st_lact : Stmt := (topS 55)
theorem sc_lact : FnScope ["act", "words", "data", "column"] ["act"] (defScope st_lact) := ⟨rfl, rfl, rfl, by decide +kernel, rfl, by decide +kernel, by decide +kernel⟩
/-- what a column holds is flat -/
def okActF (p : P) : Prop := okAct p ∧ ∀ s z hd, p = .tup [.str "column", s, z, hd] → Flat 2 hd
theorem ok_lact (A : DefAt K mg "_law_act_bytes" st_lact ["act"]) (m_len : mg "len" = none) (h__law_number : HasF Pg w K mg base CX0 1 "_law_number" ["number"] (spD K Θ W_lnum)) (h__law_numbers : HasF Pg w K mg base CX0 2 "_law_numbers" ["numbers"] (spD K Θ W_lnums)) (h__law_signed : HasF Pg w K mg base CX0 2 "_law_signed" ["number"] (spD K Θ W_wint)) (h__law_string : HasF Pg w K mg base CX0 3 "_law_string" ["text"] (spD K Θ W_wstr))
    (h__law_optional : HasF Pg w K mg base CX0 3 "_law_optional" ["numbers"] (spD K Θ (W_wr (wopt wNs) (okO okNs)))) (h__law_bytes_of : HasF Pg w K mg base CX0 4 "_law_bytes_of" ["value"] (spD K Θ (W_wr wval okV))) (h__law_holds : HasF Pg w K mg base CX0 3 "_law_holds" ["holds"] (spD K Θ (W_wr whld okHdF))) :
    HasF Pg w K mg base CX0 5 "_law_act_bytes" ["act"] (spD K Θ (W_wr wact okActF)) := by
  have sc := sc_lact
  refine A.okD sc (W_wr wact okActF) (fun ds h R ⟨_, e, _⟩ => by rw [e]; rfl) fun f cdv A outer s H E hr => ?_
  refine ⟨_, (pss_cons (ps_set (i := 1) sc.nd rfl (.inl rfl) (pe_lst (pa_cons pe_str (pa_cons pe_str (pa_cons pe_str (pa_cons pe_str (pa_cons pe_str (pa_cons pe_str (pa_cons pe_str (pa_cons pe_str (pa_cons pe_str (pa_cons pe_str (pa_cons pe_str pa_nil)))))))))))))
  (pss_cons (ps_set (i := 2) sc.nd rfl (.inl rfl) (pe_lst (pa_cons (pe_bm PySem.F.plainAttrs_list PySem.F.slot_list_index PySem.F.type_list_index mt_index (pv 1) (pa_cons (pe_ix (ix_seqK (K := K) (by rfl)) (pv 0) pe_int (fun _ _ => rfl)) pa_nil)) pa_nil)))
  (pss_cons (ps_if (pt_cmpR (op_eqUK (K := K) (by rfl) hr.units) (pe_ix (ix_seqK (K := K) (by rfl)) (pv 0) pe_int (fun _ _ => rfl)) pe_str (nomark _)) (pss_one (ps_ret (pe_op (op_addWK (K := K) (by rfl)) (pv 2) (h__law_string.call (hr.mono (by first | decide | omega)) rfl pass0 (pa_cons (pe_ix (ix_seqK (K := K) (by rfl)) (pv 0) pe_int (fun _ _ => rfl)) pa_nil))))) pss_nil)
  (pss_cons (ps_set (i := 2) sc.nd rfl (.inl rfl) (pe_op (op_addWK (K := K) (by rfl)) (pv 2) (h__law_numbers.call (hr.mono (by first | decide | omega)) rfl pass0 (pa_cons (pe_ix (ix_seqK (K := K) (by rfl)) (pv 0) pe_int (fun _ _ => rfl)) pa_nil))))
  (pss_cons (ps_if (pt_cmpR (op_eqUK (K := K) (by rfl) hr.units) (pe_ix (ix_seqK (K := K) (by rfl)) (pv 0) pe_int (fun _ _ => rfl)) pe_str (nomark _)) (pss_one (ps_ret (pe_op (op_addWK (K := K) (by rfl)) (pe_op (op_addWK (K := K) (by rfl)) (pv 2) (h__law_string.call (hr.mono (by first | decide | omega)) rfl pass0 (pa_cons (pe_ix (ix_seqK (K := K) (by rfl)) (pv 0) pe_int (fun _ _ => rfl)) pa_nil))) (h__law_holds.call (hr.mono (by first | decide | omega)) rfl pass0 (pa_cons (pe_ix (ix_seqK (K := K) (by rfl)) (pv 0) pe_int (fun _ _ => rfl)) pa_nil))))) pss_nil)
  (pss_cons (ps_if (pt_cmpR (op_eqUK (K := K) (by rfl) hr.units) (pe_ix (ix_seqK (K := K) (by rfl)) (pv 0) pe_int (fun _ _ => rfl)) pe_str (nomark _)) (pss_cons (ps_set (i := 2) sc.nd rfl (.inl rfl) (pe_op (op_addWK (K := K) (by rfl)) (pv 2) (h__law_number.call (hr.mono (by first | decide | omega)) rfl pass0 (pa_cons (pe_callB (call_lenK (K := K) (by rfl)) (by rfl) m_len (by decide +kernel) (pa_cons (pe_ix (ix_seqK (K := K) (by rfl)) (pv 0) pe_int (fun _ _ => rfl)) pa_nil)) pa_nil))))
  (pss_cons (ps_for PassesOwn.never rfl (pi_seqK (K := K) (by rfl) (pe_ix (ix_seqK (K := K) (by rfl)) (pv 0) pe_int (fun _ _ => rfl))) (pg_name (i := 3) sc.nd rfl (.inl rfl))
  (pss_one (ps_set (i := 2) sc.nd rfl (.inl rfl) (pe_op (op_addWK (K := K) (by rfl)) (pv 2) (h__law_numbers.call (hr.mono (by first | decide | omega)) rfl pass0 (pa_cons (pv 3) pa_nil))))))
  (pss_one (ps_ret (pv 2))))) pss_nil)
  (pss_cons (ps_if (pt_cmpR (op_inUK (K := K) (by rfl)) (pe_ix (ix_seqK (K := K) (by rfl)) (pv 0) pe_int (fun _ _ => rfl)) (pe_lst (pa_cons pe_str (pa_cons pe_str (pa_cons pe_str (pa_cons pe_str pa_nil))))) (by rfl)) (pss_one (ps_ret (pv 2))) pss_nil)
  (pss_cons (ps_set (i := 2) sc.nd rfl (.inl rfl) (pe_op (op_addWK (K := K) (by rfl)) (pv 2) (h__law_numbers.call (hr.mono (by first | decide | omega)) rfl pass0 (pa_cons (pe_ix (ix_seqK (K := K) (by rfl)) (pv 0) pe_int (fun _ _ => rfl)) pa_nil))))
  (pss_cons (ps_if (pt_cmpR (op_eqUK (K := K) (by rfl) hr.units) (pe_ix (ix_seqK (K := K) (by rfl)) (pv 0) pe_int (fun _ _ => rfl)) pe_str (nomark _)) (pss_one (ps_ret (pe_op (op_addWK (K := K) (by rfl)) (pv 2) (h__law_bytes_of.call (hr.mono (by first | decide | omega)) rfl pass0 (pa_cons (pe_ix (ix_seqK (K := K) (by rfl)) (pv 0) pe_int (fun _ _ => rfl)) pa_nil))))) pss_nil)
  (pss_cons (ps_if (pt_cmpR (op_eqUK (K := K) (by rfl) hr.units) (pe_ix (ix_seqK (K := K) (by rfl)) (pv 0) pe_int (fun _ _ => rfl)) pe_str (nomark _)) (pss_one (ps_ret (pe_op (op_addWK (K := K) (by rfl)) (pv 2) (h__law_optional.call (hr.mono (by first | decide | omega)) rfl pass0 (pa_cons (pe_ix (ix_seqK (K := K) (by rfl)) (pv 0) pe_int (fun _ _ => rfl)) pa_nil))))) pss_nil)
  (pss_cons (ps_if (pt_cmpR (op_eqUK (K := K) (by rfl) hr.units) (pe_ix (ix_seqK (K := K) (by rfl)) (pv 0) pe_int (fun _ _ => rfl)) pe_str (nomark _)) (pss_one (ps_ret (pe_op (op_addWK (K := K) (by rfl)) (pv 2) (h__law_signed.call (hr.mono (by first | decide | omega)) rfl pass0 (pa_cons (pe_ix (ix_seqK (K := K) (by rfl)) (pv 0) pe_int (fun _ _ => rfl)) pa_nil))))) pss_nil)
  (pss_one (ps_ret (pe_op (op_addWK (K := K) (by rfl)) (pe_op (op_addWK (K := K) (by rfl)) (pv 2) (h__law_optional.call (hr.mono (by first | decide | omega)) rfl pass0 (pa_cons (pe_ix (ix_seqK (K := K) (by rfl)) (pv 0) pe_int (fun _ _ => rfl)) pa_nil))) (h__law_string.call (hr.mono (by first | decide | omega)) rfl pass0 (pa_cons (pe_ix (ix_seqK (K := K) (by rfl)) (pv 0) pe_int (fun _ _ => rfl)) pa_nil)))))))))))))))), ?_⟩
  try dsimp only [cxOf]
  rintro ds h R ⟨v, rfl, ⟨hv, hF⟩, q⟩
  have sz := sizeLine_eq
  have hlv := wact_len hv
  obtain ⟨j, k, zs, fs, ps, rfl, a⟩ := hv
  have hj : j < 11 := (List.getElem?_eq_some_iff.mp a.at_).1
  rw [wact_eq a] at q hlv
  have ekey : ∀ (j : Nat) (q : Str × List Str), actsT[j]? = some q → actWs[j]? = some q.1 := fun j q h => by show (actsT.map fun q => q.1)[j]? = _; rw [List.getElem?_map, h]; rfl
  obtain ⟨i1, i2, i3⟩ := actsT_idx j _ a.at_
  have ew : wnum j = [(j : Int)] := wnum_small (by omega)
  rw [ew] at q hlv
  k_places
  refine ve_bm ?_
  k_places
  refine ⟨rfl, ?_⟩
  k_places
  refine v2_ixT (xs := .str k :: ps) (at_nat 0 rfl rfl) ?_
  k_places
  refine vm_indexL (ys := actWs) (j := j) (ekey j _ a.at_) (fun m hm e => ?_) ?_
  · have hm' : m < 11 := by omega
    have e2 := List.getElem?_eq_getElem (l := actsT) (i := m) hm'
    have e3 := ekey m _ e2
    rw [e] at e3
    have e4 := (actsT_idx m _ e2).1
    rw [← Option.some.inj e3] at e4
    have i1 : actWs.idxOf k = j := i1
    omega
  k_places
  refine v2_ixT (xs := .str k :: ps) (at_nat 0 rfl rfl) ?_
  k_places
  have hc : j = 0 ∨ j = 1 ∨ j = 2 ∨ j = 3 ∨ j = 4 ∨ j = 5 ∨ j = 6 ∨ j = 7 ∨ j = 8 ∨ j = 9 ∨ j = 10 := by omega
  rcases hc with rfl | rfl | rfl | rfl | rfl | rfl | rfl | rfl | rfl | rfl | rfl
  · obtain ⟨rfl, e, o⟩ := actB_at a (k' := "table") (zs' := ["string"]) rfl
    obtain rfl : fs = [.str] := e.trans (by decide +kernel)
    cases o with
    | cons h1 o =>
      cases o
      obtain ⟨z, rfl, hz⟩ := h1
      have lz := wstr_len hz
      refine ite_tt (by decide +kernel) ?_
      k_places
      refine v2_ixT (xs := [.str "table", .str z]) (at_nat 1 rfl rfl) ?_
      k_places
      refine ⟨z, rfl, hz, ?_⟩
      refine v2_addWM (i := [.int 0]) (j := intsP (wstr z)) rfl rfl (by rw [List.length_map]; show 1 + _ ≤ _; omega) ?_
      have eb : [P.int 0] ++ intsP (wstr z) = intsP ([((0 : Nat) : Int)] ++ fieldsB [.str] [.str z]) := by simp [fieldsB, wF, intsP]
      rw [eb]
      exact q
  · obtain ⟨rfl, e, o⟩ := actB_at a (k' := "column") (zs' := ["spot", "string", "holds"]) rfl
    obtain rfl : fs = [.spot, .str, .holds] := e.trans (by decide +kernel)
    cases o with
    | cons h1 o =>
      cases o with
      | cons h2 o =>
        cases o with
        | cons h3 o =>
          cases o
          rename_i s _ hd
          obtain ⟨z, rfl, hz⟩ := h2
          have lz := wstr_len hz
          have l1 := okNs_len (p := s) h1
          have l3 := okHd_len (p := hd) h3
          have h3 : okHdF hd := ⟨h3, hF s (.str z) hd rfl⟩
          obtain ⟨xs, rfl, hx, xl⟩ := h1
          have l1 : (xs.flatMap wN).length ≤ 240 := l1
          refine ite_ff (by decide +kernel) ?_
          k_places
          refine v2_ixT (xs := [.str "column", .tup xs, .str z, hd]) (at_nat 1 rfl rfl) ?_
          k_places
          refine ⟨_, xs, rfl, rfl, hx, by omega, ?_⟩
          refine v2_addWM (i := [.int 1]) (j := intsP (xs.flatMap wN)) rfl rfl (by rw [List.length_map]; show 1 + _ ≤ _; omega) ?_
          k_places
          refine v2_ixT (xs := [.str "column", .tup xs, .str z, hd]) (at_nat 0 rfl rfl) ?_
          k_places
          refine v2_ixT (xs := [.str "column", .tup xs, .str z, hd]) (at_nat 2 rfl rfl) ?_
          k_places
          refine ⟨z, rfl, hz, ?_⟩
          refine v2_addWM (i := [P.int 1] ++ intsP (xs.flatMap wN)) (j := intsP (wstr z)) rfl rfl (by rw [List.length_append, List.length_map, List.length_map]; show 1 + _ + _ ≤ _; omega) ?_
          k_places
          refine v2_ixT (xs := [.str "column", .tup xs, .str z, hd]) (at_nat 3 rfl rfl) ?_
          k_places
          refine ⟨hd, rfl, h3, ?_⟩
          refine v2_addWM (i := [P.int 1] ++ intsP (xs.flatMap wN) ++ intsP (wstr z)) (j := intsP (whld hd)) rfl rfl (by rw [List.length_append, List.length_append, List.length_map, List.length_map, List.length_map]; show 1 + _ + _ + _ ≤ _; omega) ?_
          have eb : [P.int 1] ++ intsP (xs.flatMap wN) ++ intsP (wstr z) ++ intsP (whld hd) = intsP ([((1 : Nat) : Int)] ++ fieldsB [.spot, .str, .holds] [.tup xs, .str z, hd]) := by simp [fieldsB, wF, intsP, wNs]
          rw [eb]
          exact q
  -- MORE
  · obtain ⟨rfl, e, o⟩ := actB_at a (k' := "unique") (zs' := ["spot", "spots"]) rfl
    obtain rfl : fs = [.spot, .spots] := e.trans (by decide +kernel)
    cases o with
    | cons h1 o =>
      cases o with
      | cons h2 o =>
        cases o
        have l_xs := okNs_len h1
        have l_y := okSp_len h2
        obtain ⟨xs, rfl, hx_xs, xl_xs⟩ := h1
        obtain ⟨ys, rfl, hy, yl⟩ := h2
        have l_xs : (xs.flatMap wN).length ≤ 240 := l_xs
        have ly : (ys.flatMap wNs).length ≤ 240000 := by
          have := flat_le (w := wNs) (m := 240) (xs := ys) fun x hx' => okNs_len (hy x hx')
          omega
        have l6 := wnum_6 (n := ys.length) (by omega)
        refine ite_ff (by decide +kernel) ?_
        k_places
        refine v2_ixT (xs := [.str "unique", .tup xs, .tup ys]) (at_nat 1 rfl rfl) ?_
        k_places
        refine ⟨_, xs, rfl, rfl, hx_xs, by omega, ?_⟩
        refine v2_addWM (i := [P.int 2]) (j := intsP (xs.flatMap wN)) rfl rfl (by rw [List.length_map]; show 1 + _ ≤ _; omega) ?_
        k_places
        refine v2_ixT (xs := [.str "unique", .tup xs, .tup ys]) (at_nat 0 rfl rfl) ?_
        k_places
        refine v2_ixT (xs := [.str "unique", .tup xs, .tup ys]) (at_nat 0 rfl rfl) ?_
        k_places
        refine v2_ixT (xs := [.str "unique", .tup xs, .tup ys]) (at_nat 2 rfl rfl) ?_
        k_places
        refine ⟨ys.length, rfl, by omega, ?_⟩
        refine v2_addWM (i := [P.int 2] ++ intsP (xs.flatMap wN)) (j := intsP (wnum ys.length)) rfl rfl (by rw [List.length_append, List.length_map, List.length_map]; show 1 + _ + _ ≤ _; omega) ?_
        k_places
        have eb : [P.int 2] ++ intsP (xs.flatMap wN) ++ intsP (wnum ys.length) = intsP ([2] ++ xs.flatMap wN ++ wnum ys.length) := by simp [intsP]
        rw [eb]
        generalize hb : ([2] ++ xs.flatMap wN ++ wnum ys.length : List Int) = bs
        have lb : bs.length ≤ 247 := by rw [← hb, List.length_append, List.length_append]; show 1 + _ + _ ≤ _; omega
        refine vs_for (vi_seqT ?_)
        k_places
        refine v2_ixT (xs := [.str "unique", .tup xs, .tup ys]) (at_nat 2 rfl rfl) ?_
        refine ⟨ys, rfl, ?_⟩
        refine ⟨fun i env' h' => ∃ o3 : Option D, env' = [some (.p (.tup [.str "unique", .tup xs, .tup ys])), some (dL (actWs.map P.str)), some (dL (intsP (bs ++ (ys.take i).flatMap wNs))), o3] ∧ h' = h, ?_, ?_, ?_, ?_⟩
        · exact ⟨none, by rw [List.take_zero, List.flatMap_nil, List.append_nil]; rfl, rfl⟩
        · exact fun _ _ _ _ => trivial
        · rintro i d env' h' hd ⟨o3, rfl, rfl⟩
          rw [List.getElem?_map] at hd
          cases e : ys[i]? with
          | none => rw [e] at hd; cases hd
          | some y =>
            rw [e] at hd; cases hd
            have oy := hy y (List.mem_of_getElem? e)
            have ly2 := okNs_len oy
            have ef := flat_snoc (w := wNs) e
            have lf := flat_take (w := wNs) ys i
            obtain ⟨zs', rfl, hz, zl⟩ := oy
            have ly2 : (zs'.flatMap wN).length ≤ 240 := ly2
            k_places
            refine ⟨_, zs', rfl, rfl, hz, by omega, ?_⟩
            refine v2_addWM (i := intsP (bs ++ (ys.take i).flatMap wNs)) (j := intsP (zs'.flatMap wN)) rfl rfl (by rw [List.length_map, List.length_map, List.length_append]; omega) ?_
            k_places
            refine ⟨some (.p (.tup zs')), ?_, rfl⟩
            rw [ef]
            simp only [intsP, List.map_append, List.append_assoc]
            rfl
        · rintro env' h' ⟨o3, rfl, rfl⟩
          rw [List.length_map, List.take_length]
          k_places
          have e9 : bs ++ ys.flatMap wNs = [((2 : Nat) : Int)] ++ fieldsB [.spot, .spots] [.tup xs, .tup ys] := by
            rw [← hb]; simp [fieldsB, wF, wNs, wlst]
          rw [e9]
          exact q
  · obtain ⟨rfl, e, o⟩ := actB_at a (k' := "row") (zs' := ["spot"]) rfl
    obtain rfl : fs = [.spot] := e.trans (by decide +kernel)
    cases o with
    | cons h1 o =>
      cases o
      have l_xs := okNs_len h1
      obtain ⟨xs, rfl, hx_xs, xl_xs⟩ := h1
      have l_xs : (xs.flatMap wN).length ≤ 240 := l_xs
      refine ite_ff (by decide +kernel) ?_
      k_places
      refine v2_ixT (xs := [.str "row", .tup xs]) (at_nat 1 rfl rfl) ?_
      k_places
      refine ⟨_, xs, rfl, rfl, hx_xs, by omega, ?_⟩
      refine v2_addWM (i := [.int 3]) (j := intsP (xs.flatMap wN)) rfl rfl (by rw [List.length_map]; show 1 + _ ≤ _; omega) ?_
      k_places
      refine v2_ixT (xs := [.str "row", .tup xs]) (at_nat 0 rfl rfl) ?_
      k_places
      refine v2_ixT (xs := [.str "row", .tup xs]) (at_nat 0 rfl rfl) ?_
      k_places
      refine v2_ixT (xs := [.str "row", .tup xs]) (at_nat 0 rfl rfl) ?_
      k_places
      refine v2_inS (ns := ["row", "drop", "remove", "undo"]) ?_
      refine ⟨_, rfl, ?_⟩
      refine ite_tt (by decide +kernel) ?_
      k_places
      have eb : [P.int 3] ++ intsP (xs.flatMap wN) = intsP ([((3 : Nat) : Int)] ++ fieldsB [.spot] [.tup xs]) := by simp [fieldsB, wF, intsP, wNs]
      rw [eb]
      exact q
  · obtain ⟨rfl, e, o⟩ := actB_at a (k' := "drop") (zs' := ["spot"]) rfl
    obtain rfl : fs = [.spot] := e.trans (by decide +kernel)
    cases o with
    | cons h1 o =>
      cases o
      have l_xs := okNs_len h1
      obtain ⟨xs, rfl, hx_xs, xl_xs⟩ := h1
      have l_xs : (xs.flatMap wN).length ≤ 240 := l_xs
      refine ite_ff (by decide +kernel) ?_
      k_places
      refine v2_ixT (xs := [.str "drop", .tup xs]) (at_nat 1 rfl rfl) ?_
      k_places
      refine ⟨_, xs, rfl, rfl, hx_xs, by omega, ?_⟩
      refine v2_addWM (i := [.int 4]) (j := intsP (xs.flatMap wN)) rfl rfl (by rw [List.length_map]; show 1 + _ ≤ _; omega) ?_
      k_places
      refine v2_ixT (xs := [.str "drop", .tup xs]) (at_nat 0 rfl rfl) ?_
      k_places
      refine v2_ixT (xs := [.str "drop", .tup xs]) (at_nat 0 rfl rfl) ?_
      k_places
      refine v2_ixT (xs := [.str "drop", .tup xs]) (at_nat 0 rfl rfl) ?_
      k_places
      refine v2_inS (ns := ["row", "drop", "remove", "undo"]) ?_
      refine ⟨_, rfl, ?_⟩
      refine ite_tt (by decide +kernel) ?_
      k_places
      have eb : [P.int 4] ++ intsP (xs.flatMap wN) = intsP ([((4 : Nat) : Int)] ++ fieldsB [.spot] [.tup xs]) := by simp [fieldsB, wF, intsP, wNs]
      rw [eb]
      exact q
  · obtain ⟨rfl, e, o⟩ := actB_at a (k' := "put") (zs' := ["spot", "spot", "value"]) rfl
    obtain rfl : fs = [.spot, .spot, .value] := e.trans (by decide +kernel)
    obtain ⟨x1, x2, v, rfl, h1, h2, h3⟩ := okFs3 o
    · have l_xs := okNs_len (p := x1) h1
      have l_ys := okNs_len (p := x2) h2
      obtain ⟨xs, rfl, hx_xs, xl_xs⟩ := h1
      obtain ⟨ys, rfl, hx_ys, xl_ys⟩ := h2
      have l_xs : (xs.flatMap wN).length ≤ 240 := l_xs
      have l_ys : (ys.flatMap wN).length ≤ 240 := l_ys
      have l3 := wval_len (v := v) h3
      refine ite_ff (by decide +kernel) ?_
      k_places
      refine v2_ixT (xs := [.str "put", .tup xs, .tup ys, v]) (at_nat 1 rfl rfl) ?_
      k_places
      refine ⟨_, xs, rfl, rfl, hx_xs, by omega, ?_⟩
      refine v2_addWM (i := [P.int 5]) (j := intsP (xs.flatMap wN)) rfl rfl (by rw [List.length_map]; show 1 + _ ≤ _; omega) ?_
      k_places
      refine v2_ixT (xs := [.str "put", .tup xs, .tup ys, v]) (at_nat 0 rfl rfl) ?_
      k_places
      refine v2_ixT (xs := [.str "put", .tup xs, .tup ys, v]) (at_nat 0 rfl rfl) ?_
      k_places
      refine v2_ixT (xs := [.str "put", .tup xs, .tup ys, v]) (at_nat 0 rfl rfl) ?_
      k_places
      refine v2_inS (ns := ["row", "drop", "remove", "undo"]) ?_
      refine ⟨_, rfl, ?_⟩
      refine ite_ff (by decide +kernel) ?_
      k_places
      refine v2_ixT (xs := [.str "put", .tup xs, .tup ys, v]) (at_nat 2 rfl rfl) ?_
      k_places
      refine ⟨_, ys, rfl, rfl, hx_ys, by omega, ?_⟩
      refine v2_addWM (i := [P.int 5] ++ intsP (xs.flatMap wN)) (j := intsP (ys.flatMap wN)) rfl rfl (by rw [List.length_append, List.length_map, List.length_map]; show 1 + _ + _ ≤ _; omega) ?_
      k_places
      refine v2_ixT (xs := [.str "put", .tup xs, .tup ys, v]) (at_nat 0 rfl rfl) ?_
      k_places
      refine v2_ixT (xs := [.str "put", .tup xs, .tup ys, v]) (at_nat 3 rfl rfl) ?_
      k_places
      refine ⟨v, rfl, h3, ?_⟩
      refine v2_addWM (i := [P.int 5] ++ intsP (xs.flatMap wN) ++ intsP (ys.flatMap wN)) (j := intsP (wval v)) rfl rfl (by rw [List.length_append, List.length_append, List.length_map, List.length_map, List.length_map]; show 1 + _ + _ + _ ≤ _; omega) ?_
      have eb : [P.int 5] ++ intsP (xs.flatMap wN) ++ intsP (ys.flatMap wN) ++ intsP (wval v) = intsP ([((5 : Nat) : Int)] ++ fieldsB [.spot, .spot, .value] [.tup xs, .tup ys, v]) := by simp [fieldsB, wF, intsP, wNs]
      rw [eb]
      exact q
  · obtain ⟨rfl, e, o⟩ := actB_at a (k' := "refer") (zs' := ["spot", "spot", "optional spot"]) rfl
    obtain rfl : fs = [.spot, .spot, .opt] := e.trans (by decide +kernel)
    obtain ⟨x1, x2, v, rfl, h1, h2, h3⟩ := okFs3 o
    · have l_xs := okNs_len (p := x1) h1
      have l_ys := okNs_len (p := x2) h2
      obtain ⟨xs, rfl, hx_xs, xl_xs⟩ := h1
      obtain ⟨ys, rfl, hx_ys, xl_ys⟩ := h2
      have l_xs : (xs.flatMap wN).length ≤ 240 := l_xs
      have l_ys : (ys.flatMap wN).length ≤ 240 := l_ys
      have l3 := wopt_len (ws := wNs) (n := 240) (v := v) h3 fun u hu => okNs_len hu
      refine ite_ff (by decide +kernel) ?_
      k_places
      refine v2_ixT (xs := [.str "refer", .tup xs, .tup ys, v]) (at_nat 1 rfl rfl) ?_
      k_places
      refine ⟨_, xs, rfl, rfl, hx_xs, by omega, ?_⟩
      refine v2_addWM (i := [P.int 6]) (j := intsP (xs.flatMap wN)) rfl rfl (by rw [List.length_map]; show 1 + _ ≤ _; omega) ?_
      k_places
      refine v2_ixT (xs := [.str "refer", .tup xs, .tup ys, v]) (at_nat 0 rfl rfl) ?_
      k_places
      refine v2_ixT (xs := [.str "refer", .tup xs, .tup ys, v]) (at_nat 0 rfl rfl) ?_
      k_places
      refine v2_ixT (xs := [.str "refer", .tup xs, .tup ys, v]) (at_nat 0 rfl rfl) ?_
      k_places
      refine v2_inS (ns := ["row", "drop", "remove", "undo"]) ?_
      refine ⟨_, rfl, ?_⟩
      refine ite_ff (by decide +kernel) ?_
      k_places
      refine v2_ixT (xs := [.str "refer", .tup xs, .tup ys, v]) (at_nat 2 rfl rfl) ?_
      k_places
      refine ⟨_, ys, rfl, rfl, hx_ys, by omega, ?_⟩
      refine v2_addWM (i := [P.int 6] ++ intsP (xs.flatMap wN)) (j := intsP (ys.flatMap wN)) rfl rfl (by rw [List.length_append, List.length_map, List.length_map]; show 1 + _ + _ ≤ _; omega) ?_
      k_places
      refine v2_ixT (xs := [.str "refer", .tup xs, .tup ys, v]) (at_nat 0 rfl rfl) ?_
      k_places
      refine v2_ixT (xs := [.str "refer", .tup xs, .tup ys, v]) (at_nat 0 rfl rfl) ?_
      k_places
      refine v2_ixT (xs := [.str "refer", .tup xs, .tup ys, v]) (at_nat 3 rfl rfl) ?_
      k_places
      refine ⟨v, rfl, h3, ?_⟩
      refine v2_addWM (i := [P.int 6] ++ intsP (xs.flatMap wN) ++ intsP (ys.flatMap wN)) (j := intsP (wopt wNs v)) rfl rfl (by rw [List.length_append, List.length_append, List.length_map, List.length_map, List.length_map]; show 1 + _ + _ + _ ≤ _; omega) ?_
      have eb : [P.int 6] ++ intsP (xs.flatMap wN) ++ intsP (ys.flatMap wN) ++ intsP (wopt wNs v) = intsP ([((6 : Nat) : Int)] ++ fieldsB [.spot, .spot, .opt] [.tup xs, .tup ys, v]) := by simp [fieldsB, wF, intsP, wNs]
      rw [eb]
      exact q
  · obtain ⟨rfl, e, o⟩ := actB_at a (k' := "add") (zs' := ["spot", "spot", "integer"]) rfl
    obtain rfl : fs = [.spot, .spot, .int] := e.trans (by decide +kernel)
    obtain ⟨x1, x2, v, rfl, h1, h2, h3⟩ := okFs3 o
    · have l_xs := okNs_len (p := x1) h1
      have l_ys := okNs_len (p := x2) h2
      obtain ⟨xs, rfl, hx_xs, xl_xs⟩ := h1
      obtain ⟨ys, rfl, hx_ys, xl_ys⟩ := h2
      have l_xs : (xs.flatMap wN).length ≤ 240 := l_xs
      have l_ys : (ys.flatMap wN).length ≤ 240 := l_ys
      obtain ⟨i, rfl, hi⟩ := h3
      have l3 := wint_len hi
      refine ite_ff (by decide +kernel) ?_
      k_places
      refine v2_ixT (xs := [.str "add", .tup xs, .tup ys, .int i]) (at_nat 1 rfl rfl) ?_
      k_places
      refine ⟨_, xs, rfl, rfl, hx_xs, by omega, ?_⟩
      refine v2_addWM (i := [P.int 7]) (j := intsP (xs.flatMap wN)) rfl rfl (by rw [List.length_map]; show 1 + _ ≤ _; omega) ?_
      k_places
      refine v2_ixT (xs := [.str "add", .tup xs, .tup ys, .int i]) (at_nat 0 rfl rfl) ?_
      k_places
      refine v2_ixT (xs := [.str "add", .tup xs, .tup ys, .int i]) (at_nat 0 rfl rfl) ?_
      k_places
      refine v2_ixT (xs := [.str "add", .tup xs, .tup ys, .int i]) (at_nat 0 rfl rfl) ?_
      k_places
      refine v2_inS (ns := ["row", "drop", "remove", "undo"]) ?_
      refine ⟨_, rfl, ?_⟩
      refine ite_ff (by decide +kernel) ?_
      k_places
      refine v2_ixT (xs := [.str "add", .tup xs, .tup ys, .int i]) (at_nat 2 rfl rfl) ?_
      k_places
      refine ⟨_, ys, rfl, rfl, hx_ys, by omega, ?_⟩
      refine v2_addWM (i := [P.int 7] ++ intsP (xs.flatMap wN)) (j := intsP (ys.flatMap wN)) rfl rfl (by rw [List.length_append, List.length_map, List.length_map]; show 1 + _ + _ ≤ _; omega) ?_
      k_places
      refine v2_ixT (xs := [.str "add", .tup xs, .tup ys, .int i]) (at_nat 0 rfl rfl) ?_
      k_places
      refine v2_ixT (xs := [.str "add", .tup xs, .tup ys, .int i]) (at_nat 0 rfl rfl) ?_
      k_places
      refine v2_ixT (xs := [.str "add", .tup xs, .tup ys, .int i]) (at_nat 0 rfl rfl) ?_
      k_places
      refine v2_ixT (xs := [.str "add", .tup xs, .tup ys, .int i]) (at_nat 3 rfl rfl) ?_
      k_places
      refine ⟨i, rfl, hi, ?_⟩
      refine v2_addWM (i := [P.int 7] ++ intsP (xs.flatMap wN) ++ intsP (ys.flatMap wN)) (j := intsP (wint i)) rfl rfl (by rw [List.length_append, List.length_append, List.length_map, List.length_map, List.length_map]; show 1 + _ + _ + _ ≤ _; omega) ?_
      have eb : [P.int 7] ++ intsP (xs.flatMap wN) ++ intsP (ys.flatMap wN) ++ intsP (wint i) = intsP ([((7 : Nat) : Int)] ++ fieldsB [.spot, .spot, .int] [.tup xs, .tup ys, .int i]) := by simp [fieldsB, wF, intsP, wNs]
      rw [eb]
      exact q
  · obtain ⟨rfl, e, o⟩ := actB_at a (k' := "insert") (zs' := ["spot", "spot", "optional mark", "string"]) rfl
    obtain rfl : fs = [.spot, .spot, .opt, .str] := e.trans (by decide +kernel)
    obtain ⟨x1, x2, v, x4, rfl, h1, h2, h3, h4⟩ := okFs4 o
    · have l_xs := okNs_len (p := x1) h1
      have l_ys := okNs_len (p := x2) h2
      obtain ⟨xs, rfl, hx_xs, xl_xs⟩ := h1
      obtain ⟨ys, rfl, hx_ys, xl_ys⟩ := h2
      have l_xs : (xs.flatMap wN).length ≤ 240 := l_xs
      have l_ys : (ys.flatMap wN).length ≤ 240 := l_ys
      have l3 := wopt_len (ws := wNs) (n := 240) (v := v) h3 fun u hu => okNs_len hu
      obtain ⟨z, rfl, hz⟩ := h4
      have lz := wstr_len hz
      refine ite_ff (by decide +kernel) ?_
      k_places
      refine v2_ixT (xs := [.str "insert", .tup xs, .tup ys, v, .str z]) (at_nat 1 rfl rfl) ?_
      k_places
      refine ⟨_, xs, rfl, rfl, hx_xs, by omega, ?_⟩
      refine v2_addWM (i := [P.int 8]) (j := intsP (xs.flatMap wN)) rfl rfl (by rw [List.length_map]; show 1 + _ ≤ _; omega) ?_
      k_places
      refine v2_ixT (xs := [.str "insert", .tup xs, .tup ys, v, .str z]) (at_nat 0 rfl rfl) ?_
      k_places
      refine v2_ixT (xs := [.str "insert", .tup xs, .tup ys, v, .str z]) (at_nat 0 rfl rfl) ?_
      k_places
      refine v2_ixT (xs := [.str "insert", .tup xs, .tup ys, v, .str z]) (at_nat 0 rfl rfl) ?_
      k_places
      refine v2_inS (ns := ["row", "drop", "remove", "undo"]) ?_
      refine ⟨_, rfl, ?_⟩
      refine ite_ff (by decide +kernel) ?_
      k_places
      refine v2_ixT (xs := [.str "insert", .tup xs, .tup ys, v, .str z]) (at_nat 2 rfl rfl) ?_
      k_places
      refine ⟨_, ys, rfl, rfl, hx_ys, by omega, ?_⟩
      refine v2_addWM (i := [P.int 8] ++ intsP (xs.flatMap wN)) (j := intsP (ys.flatMap wN)) rfl rfl (by rw [List.length_append, List.length_map, List.length_map]; show 1 + _ + _ ≤ _; omega) ?_
      k_places
      refine v2_ixT (xs := [.str "insert", .tup xs, .tup ys, v, .str z]) (at_nat 0 rfl rfl) ?_
      k_places
      refine v2_ixT (xs := [.str "insert", .tup xs, .tup ys, v, .str z]) (at_nat 0 rfl rfl) ?_
      k_places
      refine v2_ixT (xs := [.str "insert", .tup xs, .tup ys, v, .str z]) (at_nat 0 rfl rfl) ?_
      k_places
      refine v2_ixT (xs := [.str "insert", .tup xs, .tup ys, v, .str z]) (at_nat 3 rfl rfl) ?_
      k_places
      refine ⟨v, rfl, h3, ?_⟩
      refine v2_addWM (i := [P.int 8] ++ intsP (xs.flatMap wN) ++ intsP (ys.flatMap wN)) (j := intsP (wopt wNs v)) rfl rfl (by rw [List.length_append, List.length_append, List.length_map, List.length_map, List.length_map]; show 1 + _ + _ + _ ≤ _; omega) ?_
      k_places
      refine v2_ixT (xs := [.str "insert", .tup xs, .tup ys, v, .str z]) (at_nat 4 rfl rfl) ?_
      k_places
      refine ⟨z, rfl, hz, ?_⟩
      refine v2_addWM (i := [P.int 8] ++ intsP (xs.flatMap wN) ++ intsP (ys.flatMap wN) ++ intsP (wopt wNs v)) (j := intsP (wstr z)) rfl rfl (by rw [List.length_append, List.length_append, List.length_append, List.length_map, List.length_map, List.length_map, List.length_map]; show 1 + _ + _ + _ + _ ≤ _; omega) ?_
      have eb : [P.int 8] ++ intsP (xs.flatMap wN) ++ intsP (ys.flatMap wN) ++ intsP (wopt wNs v) ++ intsP (wstr z) = intsP ([((8 : Nat) : Int)] ++ fieldsB [.spot, .spot, .opt, .str] [.tup xs, .tup ys, v, .str z]) := by simp [fieldsB, wF, intsP, wNs]
      rw [eb]
      exact q
  · obtain ⟨rfl, e, o⟩ := actB_at a (k' := "remove") (zs' := ["mark"]) rfl
    obtain rfl : fs = [.spot] := e.trans (by decide +kernel)
    cases o with
    | cons h1 o =>
      cases o
      have l_xs := okNs_len h1
      obtain ⟨xs, rfl, hx_xs, xl_xs⟩ := h1
      have l_xs : (xs.flatMap wN).length ≤ 240 := l_xs
      refine ite_ff (by decide +kernel) ?_
      k_places
      refine v2_ixT (xs := [.str "remove", .tup xs]) (at_nat 1 rfl rfl) ?_
      k_places
      refine ⟨_, xs, rfl, rfl, hx_xs, by omega, ?_⟩
      refine v2_addWM (i := [.int 9]) (j := intsP (xs.flatMap wN)) rfl rfl (by rw [List.length_map]; show 1 + _ ≤ _; omega) ?_
      k_places
      refine v2_ixT (xs := [.str "remove", .tup xs]) (at_nat 0 rfl rfl) ?_
      k_places
      refine v2_ixT (xs := [.str "remove", .tup xs]) (at_nat 0 rfl rfl) ?_
      k_places
      refine v2_ixT (xs := [.str "remove", .tup xs]) (at_nat 0 rfl rfl) ?_
      k_places
      refine v2_inS (ns := ["row", "drop", "remove", "undo"]) ?_
      refine ⟨_, rfl, ?_⟩
      refine ite_tt (by decide +kernel) ?_
      k_places
      have eb : [P.int 9] ++ intsP (xs.flatMap wN) = intsP ([((9 : Nat) : Int)] ++ fieldsB [.spot] [.tup xs]) := by simp [fieldsB, wF, intsP, wNs]
      rw [eb]
      exact q
  · obtain ⟨rfl, e, o⟩ := actB_at a (k' := "undo") (zs' := ["name"]) rfl
    obtain rfl : fs = [.spot] := e.trans (by decide +kernel)
    cases o with
    | cons h1 o =>
      cases o
      have l_xs := okNs_len h1
      obtain ⟨xs, rfl, hx_xs, xl_xs⟩ := h1
      have l_xs : (xs.flatMap wN).length ≤ 240 := l_xs
      refine ite_ff (by decide +kernel) ?_
      k_places
      refine v2_ixT (xs := [.str "undo", .tup xs]) (at_nat 1 rfl rfl) ?_
      k_places
      refine ⟨_, xs, rfl, rfl, hx_xs, by omega, ?_⟩
      refine v2_addWM (i := [.int 10]) (j := intsP (xs.flatMap wN)) rfl rfl (by rw [List.length_map]; show 1 + _ ≤ _; omega) ?_
      k_places
      refine v2_ixT (xs := [.str "undo", .tup xs]) (at_nat 0 rfl rfl) ?_
      k_places
      refine v2_ixT (xs := [.str "undo", .tup xs]) (at_nat 0 rfl rfl) ?_
      k_places
      refine v2_ixT (xs := [.str "undo", .tup xs]) (at_nat 0 rfl rfl) ?_
      k_places
      refine v2_inS (ns := ["row", "drop", "remove", "undo"]) ?_
      refine ⟨_, rfl, ?_⟩
      refine ite_tt (by decide +kernel) ?_
      k_places
      have eb : [P.int 10] ++ intsP (xs.flatMap wN) = intsP ([((10 : Nat) : Int)] ++ fieldsB [.spot] [.tup xs]) := by simp [fieldsB, wF, intsP, wNs]
      rw [eb]
      exact q
end
end Law

namespace Law
open PySem PySem.Spec PyProof.Rows L2 Kb
-- the steps that are tried: k_clsL a side condition; k_subL one step; k_places steps as long as one fits
local macro_rules | `(tactic| k_subL) => `(tactic| first | (with_reducible refine ve_lst ?_) | (with_reducible refine ve_cls ?_))
theorem intsP_app (a b : List Int) : intsP a ++ intsP b = intsP (a ++ b) := by simp only [intsP, List.map_append]
theorem intsP_len (a : List Int) : (intsP a).length = a.length := List.length_map ..
/-- the acts of a part are flat where a column stands -/
def PartF (p : P) : Prop := ∀ ys, p = .tup ys → ∀ y ∈ ys, okActF y
def ChgFl (ts : List P) : Prop := ∀ t ∈ ts, PartF t
def okChgF (C : Addr) (p : P) : Prop := ∃ a b hs cp ps ts, p = .ins C (chgF a b (.tup hs) cp (.tup ps) (.tup ts)) ∧ ChgB a b hs cp ps ts ∧ ChgFl ts
section
variable {Pg : Program} {w : World} {K : PySem.W.Frag} {Θ : Tbs} {mg : Str → Option Value} {base : Heap} {C CK CC : Addr}
abbrev st_lchg : Stmt := (topS 57)
theorem sc_lchg : FnScope ["change", "data", "act", "part"] ["change"] (defScope st_lchg) := ⟨rfl, rfl, rfl, by decide +kernel, rfl, by decide +kernel, by decide +kernel⟩
/-- one public act's bytes are added -/
theorem ok_lchg (A : DefAt K mg "_law_change_bytes" st_lchg ["change"]) (T : ChgC K mg CC) (m_len : mg "len" = none) (h__law_number : HasF Pg w K mg base CX0 1 "_law_number" ["number"] (spD K Θ W_lnum)) (h__law_numbers : HasF Pg w K mg base CX0 2 "_law_numbers" ["numbers"] (spD K Θ W_lnums))
    (h__law_optional : HasF Pg w K mg base CX0 3 "_law_optional" ["numbers"] (spD K Θ (W_wr (wopt wNs) (okO okNs)))) (h__law_rights_bytes : HasF Pg w K mg base CX0 1 "_law_rights_bytes" ["rights"] (spD K Θ (W_wr wrts okRt))) (h__law_act_bytes : HasF Pg w K mg base CX0 5 "_law_act_bytes" ["act"] (spD K Θ (W_wr wact okActF))) :
    HasF Pg w K mg base CX0 6 "_law_change_bytes" ["change"] (spD K Θ (W_wr wchg (okChgF CC))) := by
  have sc := sc_lchg
  refine A.okD sc (W_wr wchg (okChgF CC)) (fun ds h R ⟨_, e, _⟩ => by rw [e]; rfl) fun f cdv A outer s H E hr => ?_
  refine ⟨_, (pss_cons (ps_set (i := 1) sc.nd rfl (.inl rfl) (pe_op (op_addWK (K := K) (by rfl)) (h__law_numbers.call (hr.mono (by first | decide | omega)) rfl pass0 (pa_cons (pe_lst (pa_cons (pe_fldK (K := K) (by rfl) (pv 0) rfl) (pa_cons (pe_fldK (K := K) (by rfl) (pv 0) rfl) (pa_cons (pe_callB (call_lenK (K := K) (by rfl)) (by rfl) m_len (by decide +kernel) (pa_cons (pe_fldK (K := K) (by rfl) (pv 0) rfl) pa_nil)) pa_nil)))) pa_nil)) (h__law_numbers.call (hr.mono (by first | decide | omega)) rfl pass0 (pa_cons (pe_fldK (K := K) (by rfl) (pv 0) rfl) pa_nil))))
  (pss_cons (ps_set (i := 1) sc.nd rfl (.inl rfl) (pe_op (op_addWK (K := K) (by rfl)) (pe_op (op_addWK (K := K) (by rfl)) (pv 1) (h__law_optional.call (hr.mono (by first | decide | omega)) rfl pass0 (pa_cons (pe_fldK (K := K) (by rfl) (pv 0) rfl) pa_nil))) (h__law_number.call (hr.mono (by first | decide | omega)) rfl pass0 (pa_cons (pe_callB (call_lenK (K := K) (by rfl)) (by rfl) m_len (by decide +kernel) (pa_cons (pe_fldK (K := K) (by rfl) (pv 0) rfl) pa_nil)) pa_nil))))
  (pss_cons (ps_for PassesOwn.never rfl (pi_seqK (K := K) (by rfl) (pe_fldK (K := K) (by rfl) (pv 0) rfl)) (pg_name (i := 2) sc.nd rfl (.inl rfl))
  (pss_one (ps_if (pt_cmpR (op_eqUK (K := K) (by rfl) hr.units) (pe_ix (ix_seqK (K := K) (by rfl)) (pv 2) pe_int (fun _ _ => rfl)) pe_str (nomark _)) (pss_one (ps_set (i := 1) sc.nd rfl (.inl rfl) (pe_op (op_addWK (K := K) (by rfl)) (pe_op (op_addWK (K := K) (by rfl)) (pe_op (op_addWK (K := K) (by rfl)) (pv 1) (pe_lst (pa_cons pe_int pa_nil))) (h__law_number.call (hr.mono (by first | decide | omega)) rfl pass0 (pa_cons (pe_ix (ix_seqK (K := K) (by rfl)) (pv 2) pe_int (fun _ _ => rfl)) pa_nil))) (h__law_rights_bytes.call (hr.mono (by first | decide | omega)) rfl pass0 (pa_cons (pe_ix (ix_seqK (K := K) (by rfl)) (pv 2) pe_int (fun _ _ => rfl)) pa_nil))))) (pss_one (ps_if (pt_cmpR (op_eqUK (K := K) (by rfl) hr.units) (pe_ix (ix_seqK (K := K) (by rfl)) (pv 2) pe_int (fun _ _ => rfl)) pe_str (nomark _)) (pss_one (ps_set (i := 1) sc.nd rfl (.inl rfl) (pe_op (op_addWK (K := K) (by rfl)) (pe_op (op_addWK (K := K) (by rfl)) (pv 1) (pe_lst (pa_cons pe_int pa_nil))) (h__law_optional.call (hr.mono (by first | decide | omega)) rfl pass0 (pa_cons (pe_ix (ix_seqK (K := K) (by rfl)) (pv 2) pe_int (fun _ _ => rfl)) pa_nil))))) (pss_one (ps_set (i := 1) sc.nd rfl (.inl rfl) (pe_op (op_addWK (K := K) (by rfl)) (pv 1) (pe_lst (pa_cons pe_int pa_nil))))))))))
  (pss_cons (ps_for PassesOwn.never rfl (pi_seqK (K := K) (by rfl) (pe_fldK (K := K) (by rfl) (pv 0) rfl)) (pg_name (i := 3) sc.nd rfl (.inl rfl))
  (pss_one (ps_if (pt_cmpR op_isU (pv 3) pe_non (nomark _)) (pss_one (ps_set (i := 1) sc.nd rfl (.inl rfl) (pe_op (op_addWK (K := K) (by rfl)) (pv 1) (pe_lst (pa_cons pe_int pa_nil))))) (pss_cons (ps_set (i := 1) sc.nd rfl (.inl rfl) (pe_op (op_addWK (K := K) (by rfl)) (pe_op (op_addWK (K := K) (by rfl)) (pv 1) (pe_lst (pa_cons pe_int pa_nil))) (h__law_number.call (hr.mono (by first | decide | omega)) rfl pass0 (pa_cons (pe_callB (call_lenK (K := K) (by rfl)) (by rfl) m_len (by decide +kernel) (pa_cons (pv 3) pa_nil)) pa_nil))))
  (pss_one (ps_for PassesOwn.never rfl (pi_seqK (K := K) (by rfl) (pv 3)) (pg_name (i := 2) sc.nd rfl (.inl rfl))
  (pss_one (ps_set (i := 1) sc.nd rfl (.inl rfl) (pe_op (op_addWK (K := K) (by rfl)) (pv 1) (h__law_act_bytes.call (hr.mono (by first | decide | omega)) rfl pass0 (pa_cons (pv 2) pa_nil)))))))))))
  (pss_one (ps_ret (pv 1))))))), ?_⟩
  try dsimp only [cxOf]
  rintro ds h R ⟨v, rfl, ⟨a, b, hs, cp, ps, ts, rfl, B, FB⟩, q⟩
  have sz := sizeLine_eq
  have L := B.len
  have l1 := L.a
  have l2 := L.b
  have l3 := L.h
  have l4 := L.c
  have l5 := L.p
  have l6 := L.t
  have hl := B.hl
  have pl := B.pl
  rw [wchg_eq] at q
  refine vs_fin ?_
  k_subL
  k_places
  refine ve_fld ?_
  k_places
  refine ⟨CC, dI a, T.cl, T.n1, ⟨rfl, by kernel_rfl⟩, ?_⟩
  k_places
  refine ve_fld ?_
  k_places
  refine ⟨CC, dI b, T.cl, T.n2, ⟨rfl, by kernel_rfl⟩, ?_⟩
  k_places
  refine ve_fld ?_
  k_places
  refine ⟨CC, dT hs, T.cl, T.n3, ⟨rfl, by kernel_rfl⟩, ?_⟩
  k_places
  refine ⟨_, [.int a, .int b, .int hs.length], rfl, rfl, ?_, by show 3 ≤ 5000; omega, ?_⟩
  · intro y hy
    rcases List.mem_cons.mp hy with rfl | hy
    · exact B.a
    rcases List.mem_cons.mp hy with rfl | hy
    · exact B.b
    rcases List.mem_cons.mp hy with rfl | hy
    · exact ⟨Int.natCast_nonneg _, Int.lt_of_le_of_lt (show (hs.length : Int) ≤ 20 by omega) (by decide +kernel)⟩
    cases hy
  k_places
  refine ve_fld ?_
  k_places
  refine ⟨CC, dT hs, T.cl, T.n3, ⟨rfl, by kernel_rfl⟩, ?_⟩
  k_places
  refine ⟨_, hs, rfl, rfl, B.h, by omega, ?_⟩
  have lnh : (wnum hs.length).length ≤ 6 := wnum_6 (by omega)
  have lnp : (wnum ps.length).length ≤ 6 := wnum_6 (by omega)
  have eh : [P.int a, P.int b, P.int hs.length].flatMap wN = wN (.int a) ++ wN (.int b) ++ wnum hs.length := by simp [wN]
  rw [eh]
  refine v2_addWM (i := intsP (wN (.int a) ++ wN (.int b) ++ wnum hs.length)) (j := intsP (hs.flatMap wN)) rfl rfl (by rw [intsP_len, intsP_len, List.length_append, List.length_append]; omega) ?_
  rw [intsP_app]
  generalize hb1 : wN (.int a) ++ wN (.int b) ++ wnum hs.length ++ hs.flatMap wN = b1
  have lb1 : b1.length ≤ 2000 := by rw [← hb1, List.length_append, List.length_append, List.length_append]; omega
  k_places
  refine ve_fld ?_
  k_places
  refine ⟨CC, .p cp, T.cl, T.n4, ⟨rfl, by kernel_rfl⟩, ?_⟩
  k_places
  refine ⟨cp, rfl, B.c, ?_⟩
  refine v2_addWM (i := intsP b1) (j := intsP (wopt wNs cp)) rfl rfl (by rw [intsP_len, intsP_len]; omega) ?_
  rw [intsP_app]
  k_places
  refine ve_fld ?_
  k_places
  refine ⟨CC, dT ps, T.cl, T.n5, ⟨rfl, by kernel_rfl⟩, ?_⟩
  k_places
  refine ⟨ps.length, rfl, by omega, ?_⟩
  refine v2_addWM (i := intsP (b1 ++ wopt wNs cp)) (j := intsP (wnum ps.length)) rfl rfl (by rw [intsP_len, intsP_len, List.length_append]; omega) ?_
  rw [intsP_app]
  generalize hb2 : b1 ++ wopt wNs cp ++ wnum ps.length = b2
  have lb2 : b2.length ≤ 3000 := by rw [← hb2, List.length_append, List.length_append]; omega
  have eq2 : wN (.int a) ++ wN (.int b) ++ wls wN hs ++ (wopt wNs cp ++ wls wpub ps) = b2 ++ ps.flatMap wpub := by
    rw [← hb2, ← hb1]; simp only [wls, List.append_assoc]
  rw [eq2] at q
  refine vg_name ?_
  refine vs_cut (fun env' h' => ∃ o2 o3, env' = [some (.p (.ins CC (chgF a b (.tup hs) cp (.tup ps) (.tup ts)))), some (dL (intsP (b2 ++ ps.flatMap wpub))), o2, o3] ∧ h' = h) ?_ ?_
  · refine vs_for (vi_seqT ?_)
    k_places
    refine ve_fld ?_
    k_places
    refine ⟨CC, dT ps, T.cl, T.n5, ⟨rfl, by kernel_rfl⟩, ?_⟩
    refine ⟨ps, rfl, ?_⟩
    refine ⟨fun i env' h' => ∃ o2 o3, env' = [some (.p (.ins CC (chgF a b (.tup hs) cp (.tup ps) (.tup ts)))), some (dL (intsP (b2 ++ (ps.take i).flatMap wpub))), o2, o3] ∧ h' = h, ?_, ?_, ?_, ?_⟩
    · exact ⟨_, _, by rw [List.take_zero, List.flatMap_nil, List.append_nil]; rfl, rfl⟩
    · exact fun _ _ _ _ => trivial
    · rintro i d env' h' hd ⟨o2, o3, rfl, rfl⟩
      rw [List.getElem?_map] at hd
      cases e : ps[i]? with
      | none => rw [e] at hd; cases hd
      | some y =>
        rw [e] at hd; cases hd
        have oy := B.p y (List.mem_of_getElem? e)
        have ly := okPb_len oy
        have ef := flat_snoc (w := wpub) e
        have lf := flat_take (w := wpub) ps i
        generalize hc : b2 ++ (ps.take i).flatMap wpub = c2
        have lc : c2.length ≤ 8000 := by rw [← hc, List.length_append]; omega
        have fin : ∀ {bs : List Int}, bs = c2 ++ wpub y → bs = b2 ++ (ps.take (i + 1)).flatMap wpub := by
          rintro bs rfl
          rw [ef, ← List.append_assoc, hc]
        rcases oy with ⟨m, r, rfl, hm, hr'⟩ | ⟨c, rfl, hc'⟩ | rfl
        · have l7 := okN_len hm
          have l8 := okRt_len hr'
          have l9 : (wnum m.toNat).length ≤ 60 := l7
          k_places
          refine v2_ixT (xs := [.str "grant", .int m, r]) (at_nat 0 rfl rfl) ?_
          k_places
          refine v2_addWM (i := intsP c2) (j := [.int 0]) rfl rfl (by rw [intsP_len]; show _ + 1 ≤ _; omega) ?_
          k_places
          refine v2_ixT (xs := [.str "grant", .int m, r]) (at_nat 1 rfl rfl) ?_
          k_places
          refine ⟨m.toNat, by rw [Int.toNat_of_nonneg hm.1], l9, ?_⟩
          refine v2_addWM (i := intsP c2 ++ [P.int 0]) (j := intsP (wnum m.toNat)) rfl rfl (by rw [List.length_append, intsP_len, intsP_len]; show _ + 1 + _ ≤ _; omega) ?_
          k_places
          refine v2_ixT (xs := [.str "grant", .int m, r]) (at_nat 2 rfl rfl) ?_
          k_places
          refine ⟨r, rfl, hr', ?_⟩
          refine v2_addWM (i := intsP c2 ++ [P.int 0] ++ intsP (wnum m.toNat)) (j := intsP (wrts r)) rfl rfl (by rw [List.length_append, List.length_append, intsP_len, intsP_len, intsP_len]; show _ + 1 + _ + _ ≤ _; omega) ?_
          k_places
          refine ⟨some (.p (.tup [.str "grant", .int m, r])), o3, ?_, rfl⟩
          have e9 := fin (bs := c2 ++ [0] ++ wnum m.toNat ++ wrts r) (by show _ = c2 ++ (if Str.ofString "grant" = Str.ofString "grant" then [0] ++ wN (.int m) ++ wrts r else []); rw [if_pos rfl]; simp only [List.append_assoc]; rfl)
          rw [← e9]
          simp only [intsP, List.map_append, List.map_cons, List.map_nil]
          all_goals rfl
        · have l7 := wopt_len (ws := wNs) (n := 240) hc' fun u hu => okNs_len hu
          k_places
          refine v2_ixT (xs := [.str "revoke", c]) (at_nat 0 rfl rfl) ?_
          k_places
          refine v2_ixT (xs := [.str "revoke", c]) (at_nat 0 rfl rfl) ?_
          k_places
          refine v2_addWM (i := intsP c2) (j := [.int 1]) rfl rfl (by rw [intsP_len]; show _ + 1 ≤ _; omega) ?_
          k_places
          refine v2_ixT (xs := [.str "revoke", c]) (at_nat 1 rfl rfl) ?_
          k_places
          refine ⟨c, rfl, hc', ?_⟩
          refine v2_addWM (i := intsP c2 ++ [P.int 1]) (j := intsP (wopt wNs c)) rfl rfl (by rw [List.length_append, intsP_len, intsP_len]; show _ + 1 + _ ≤ _; omega) ?_
          k_places
          refine ⟨some (.p (.tup [.str "revoke", c])), o3, ?_, rfl⟩
          have e9 := fin (bs := c2 ++ [1] ++ wopt wNs c) (by show _ = c2 ++ (if Str.ofString "revoke" = Str.ofString "revoke" then [1] ++ wopt wNs c else []); rw [if_pos rfl]; simp only [List.append_assoc])
          rw [← e9]
          simp only [intsP, List.map_append, List.map_cons, List.map_nil]
          all_goals rfl
        · k_places
          refine v2_ixT (xs := [.str "seal"]) (at_nat 0 rfl rfl) ?_
          k_places
          refine v2_ixT (xs := [.str "seal"]) (at_nat 0 rfl rfl) ?_
          k_places
          refine v2_addWM (i := intsP c2) (j := [.int 2]) rfl rfl (by rw [intsP_len]; show _ + 1 ≤ _; omega) ?_
          k_places
          refine ⟨some (.p (.tup [.str "seal"])), o3, ?_, rfl⟩
          have e9 := fin (bs := c2 ++ [2]) rfl
          rw [← e9]
          simp only [intsP, List.map_append, List.map_cons, List.map_nil]
          all_goals rfl
    · rintro env' h' ⟨o2, o3, rfl, rfl⟩
      rw [List.length_map, List.take_length]
      exact ⟨o2, o3, rfl, rfl⟩
  rintro env' h9 ⟨o2, o3, rfl, rfl⟩
  generalize hb3 : b2 ++ ps.flatMap wpub = b3 at q ⊢
  have lb3 : b3.length ≤ 8000 := by rw [← hb3, List.length_append]; omega
  refine vs_cut (fun env' h' => ∃ o2 o3, env' = [some (.p (.ins CC (chgF a b (.tup hs) cp (.tup ps) (.tup ts)))), some (dL (intsP (b3 ++ ts.flatMap (wopt wpr)))), o2, o3] ∧ h' = h9) ?_ ?_
  · refine vs_for (vi_seqT ?_)
    k_places
    refine ve_fld ?_
    k_places
    refine ⟨CC, dT ts, T.cl, T.n6, ⟨rfl, by kernel_rfl⟩, ?_⟩
    refine ⟨ts, rfl, ?_⟩
    refine ⟨fun i env' h' => ∃ o2 o3, env' = [some (.p (.ins CC (chgF a b (.tup hs) cp (.tup ps) (.tup ts)))), some (dL (intsP (b3 ++ (ts.take i).flatMap (wopt wpr)))), o2, o3] ∧ h' = h9, ?_, ?_, ?_, ?_⟩
    · exact ⟨_, _, by rw [List.take_zero, List.flatMap_nil, List.append_nil], rfl⟩
    · exact fun _ _ _ _ => trivial
    · rintro i d env' h8 hd ⟨o2, o3, rfl, rfl⟩
      rw [List.getElem?_map] at hd
      cases e : ts[i]? with
      | none => rw [e] at hd; cases hd
      | some y =>
        rw [e] at hd; cases hd
        have oy := B.t y (List.mem_of_getElem? e)
        have fy := FB y (List.mem_of_getElem? e)
        have ly := okOPr_len oy
        have ef := flat_snoc (w := wopt wpr) e
        have lf := flat_take (w := wopt wpr) ts i
        generalize hc : b3 ++ (ts.take i).flatMap (wopt wpr) = c2
        have lc : c2.length ≤ 1300000 := by rw [← hc, List.length_append]; omega
        have fin : ∀ {bs : List Int}, bs = c2 ++ wopt wpr y → bs = b3 ++ (ts.take (i + 1)).flatMap (wopt wpr) := by
          rintro bs rfl
          rw [ef, ← List.append_assoc, hc]
        rcases oy with rfl | ⟨⟨xs, rfl, hx, xl⟩, _⟩
        · k_places
          refine v2_addWM (i := intsP c2) (j := [.int 0]) rfl rfl (by rw [intsP_len]; show _ + 1 ≤ _; omega) ?_
          k_places
          refine ⟨o2, some dN, ?_, rfl⟩
          have e9 := fin (bs := c2 ++ [0]) rfl
          rw [← e9]
          simp only [intsP, List.map_append, List.map_cons, List.map_nil]
          all_goals rfl
        · have l7 : (wnum xs.length).length ≤ 6 := wnum_6 (by omega)
          have l8 := flat_le (w := wact) (m := 3000) (xs := xs) fun x hx' => (hx x hx').2
          k_places
          refine v2_addWM (i := intsP c2) (j := [.int 1]) rfl rfl (by rw [intsP_len]; show _ + 1 ≤ _; omega) ?_
          k_places
          refine ⟨xs.length, rfl, by omega, ?_⟩
          refine v2_addWM (i := intsP c2 ++ [P.int 1]) (j := intsP (wnum xs.length)) rfl rfl (by rw [List.length_append, intsP_len, intsP_len]; show _ + 1 + _ ≤ _; omega) ?_
          have e6 : intsP c2 ++ [P.int 1] ++ intsP (wnum xs.length) = intsP (c2 ++ [1] ++ wnum xs.length) := by simp only [intsP, List.map_append, List.map_cons, List.map_nil]
          rw [e6]
          generalize hg : c2 ++ [1] ++ wnum xs.length = c3
          have lg : c3.length ≤ 1300010 := by rw [← hg, List.length_append, List.length_append]; show _ + 1 + _ ≤ _; omega
          refine vg_name ?_
          refine vs_for (vi_seqT ?_)
          k_places
          refine ⟨xs, rfl, ?_⟩
          refine ⟨fun j env' h' => ∃ o2, env' = [some (.p (.ins CC (chgF a b (.tup hs) cp (.tup ps) (.tup ts)))), some (dL (intsP (c3 ++ (xs.take j).flatMap wact))), o2, some (.p (.tup xs))] ∧ h' = h8, ?_, ?_, ?_, ?_⟩
          · exact ⟨o2, by rw [List.take_zero, List.flatMap_nil, List.append_nil]; rfl, rfl⟩
          · exact fun _ _ _ _ => trivial
          · rintro j d env' h' hd ⟨o2, rfl, rfl⟩
            rw [List.getElem?_map] at hd
            cases e2 : xs[j]? with
            | none => rw [e2] at hd; cases hd
            | some z =>
              rw [e2] at hd; cases hd
              have oz := hx z (List.mem_of_getElem? e2)
              have ef2 := flat_snoc (w := wact) e2
              have lf2 := flat_take (w := wact) xs j
              have l9 := oz.2
              k_places
              refine ⟨z, rfl, fy xs rfl z (List.mem_of_getElem? e2), ?_⟩
              refine v2_addWM (i := intsP (c3 ++ (xs.take j).flatMap wact)) (j := intsP (wact z)) rfl rfl (by rw [intsP_len, intsP_len, List.length_append]; omega) ?_
              rw [intsP_app, List.append_assoc, ← ef2]
              k_places
              exact ⟨_, rfl, rfl⟩
          · rintro env' h' ⟨o2, rfl, rfl⟩
            rw [List.length_map, List.take_length]
            refine ⟨o2, some (.p (.tup xs)), ?_, rfl⟩
            have e9 := fin (bs := c3 ++ xs.flatMap wact) (by rw [← hg]; show _ = c2 ++ ([1] ++ (wnum xs.length ++ xs.flatMap wact)); simp only [List.append_assoc])
            rw [e9]
    · rintro env' h' ⟨o2, o3, rfl, rfl⟩
      rw [List.length_map, List.take_length]
      exact ⟨o2, o3, rfl, rfl⟩
  rintro env' h' ⟨o2, o3, rfl, rfl⟩
  k_places
  exact fin_p0 q
end
end Law

namespace Law
open PySem PySem.Spec PyProof.Rows L2 Kb TL
-- the steps that are tried: k_clsL a side condition; k_subL one step; k_places steps as long as one fits
local macro_rules | `(tactic| k_subL) => `(tactic| first | (with_reducible refine ve_lst ?_) | (with_reducible refine ve_cls ?_))
/-! what the law draws: texts, values, acts -/
def SC (w : List Nat) : Str := ⟨w.toArray⟩
theorem joinN : ∀ ps : List (List Nat), joinL [] ps = ps.flatten
  | [] => rfl
  | [p] => by simp [joinL]
  | p :: q :: r => by rw [joinL, joinN (q :: r)]; simp
theorem join_SC (w : List Nat) : Txt.join (Str.ofString "") (w.map fun c => SC [c]) = SC w := by
  rw [join_eq]
  have e := tl_join (Str.ofString "") (w.map fun c => SC [c])
  have e0 : tl (Str.ofString "") = [] := by decide +kernel
  rw [e0, joinN, List.map_map] at e
  have e2 : (tl ∘ fun c => SC [c]) = fun c => [c] := by funext l; rfl
  have e3 : ∀ w : List Nat, (w.map fun c => [c]).flatten = w := by
    intro w
    induction w with
    | nil => rfl
    | cons c w ih => rw [List.map_cons, List.flatten_cons, ih]; rfl
  rw [e2, e3] at e
  exact ext_tl e
def lets95 : Str := " !\"#$&'()*+,-./0123456789:;<=>?@ABCDEFGHIJKLMNOPQRSTUVWXYZ[\\]^_`abcdefghijklmnopqrstuvwxyz{|}~\n"
theorem lets_len : lets95.cps.toList.length = 95 ∧ lets95.length ≤ sizeLine := by decide +kernel
theorem lets_ok : ∀ c ∈ lets95.cps.toList, c < 2 ^ 40 := by decide +kernel
def letN (i : Int) : Nat := lets95.cps.toList.getD (i % 95).toNat 0
theorem letN_at (i : Int) : atI lets95.cps.toList (i % 95) = some (letN i) := by
  have i0 := Int.emod_nonneg i (show (95 : Int) ≠ 0 by decide)
  have i1 := Int.emod_lt_of_pos i (show (0 : Int) < 95 by decide)
  have hi : (i % 95).toNat < lets95.cps.toList.length := by rw [lets_len.1]; omega
  refine at_nat (i % 95).toNat (by omega) ?_
  unfold letN
  rw [List.getD_eq_getElem?_getD, List.getElem?_eq_getElem hi]; rfl
theorem letN_ok (i : Int) : letN i < 2 ^ 40 := by
  have i0 := Int.emod_nonneg i (show (95 : Int) ≠ 0 by decide)
  have i1 := Int.emod_lt_of_pos i (show (0 : Int) < 95 by decide)
  have hi : (i % 95).toNat < lets95.cps.toList.length := by rw [lets_len.1]; omega
  unfold letN
  rw [List.getD_eq_getElem?_getD, List.getElem?_eq_getElem hi]
  exact lets_ok _ (List.getElem_mem hi)
def txtL (n : Int) : List Nat := (List.range (n / 7 % 9).toNat).map fun (k : Nat) => letN (n + 31 * (k : Int))
def txtN (n : Int) : Str := SC (txtL n)
theorem txtL_len (n : Int) : (txtL n).length ≤ 8 := by
  unfold txtL
  rw [List.length_map, List.length_range]; omega
theorem txtN_ok (n : Int) : okZ (txtN n) := by
  refine ⟨?_, fun c hc => ?_⟩
  · have := txtL_len n
    show (txtL n).toArray.size ≤ _
    rw [List.size_toArray]; omega
  · have hc : c ∈ txtL n := by simpa [txtN, SC] using hc
    obtain ⟨k, _, rfl⟩ := List.mem_map.mp hc
    exact letN_ok _
section
variable {Pg : Program} {w : World} {K : PySem.W.Frag} {Θ : Tbs} {mg : Str → Option Value} {base : Heap} {C CK CC : Addr}
abbrev st_ltxt : Stmt := (topS 44)
theorem sc_ltxt : FnScope ["number", "letters", "k"] ["number"] (defScope st_ltxt) := ⟨rfl, rfl, rfl, by decide +kernel, rfl, by decide +kernel, by decide +kernel⟩
def W_ltxt : Spc := fun ds h R => ∃ n : Int, ds = [dI n] ∧ 0 ≤ n ∧ n < 2 ^ 60 ∧ R (dS (txtN n)) h
theorem ok_ltxt (A : DefAt K mg "_law_text" st_ltxt ["number"]) (m_range : mg "range" = none) : HasF Pg w K mg base CX0 1 "_law_text" ["number"] (spD K Θ W_ltxt) := by
  have sc := sc_ltxt
  refine A.okD sc W_ltxt (fun ds h R ⟨_, e, _⟩ => by rw [e]; rfl) fun f cdv A outer s H E hr => ?_
  refine ⟨_, (pss_cons (ps_set (i := 1) sc.nd rfl (.inr rfl) pe_str)
  (pss_one (ps_ret (pe_bm PySem.F.plainAttrs_str PySem.F.slot_str_join PySem.F.type_str_join (mt_joinK (K := K) (by rfl)) pe_str (pa_cons (pe_lc (own := [("k", 2)]) rfl sc.nd (pi_range1 rfl m_range (pa_cons (pe_op op_mod (pe_op op_fdivW (pv 0) pe_int) pe_int) pa_nil)) (blkOk_by (N := ["number", "letters", "k"]) (sc := defScope (topS 44)) (by decide +kernel)) (fun _ _ _ _ _ => (pg_name (i := 2) sc.nd rfl (.inl rfl))) (fun _ _ _ _ _ => pts_nil) (fun _ _ _ _ _ => (pe_ix (ix_seqK (K := K) (by rfl)) (pv 1) (pe_op op_mod (pe_op (op_addWK (K := K) (by rfl)) (pv 0) (pe_op op_mulU pe_int (pv 2))) pe_int) (fun _ _ => rfl)))) pa_nil))))), ?_⟩
  try dsimp only [cxOf]
  rintro ds h R ⟨n, rfl, n0, n1, q⟩
  have sz := sizeLine_eq
  k_places
  refine ve_bm ?_
  k_places
  refine ⟨rfl, va_cons ?_⟩
  refine ve_lcL tg_name (List.range (n / 7 % 9).toNat) (fun (k : Nat) => dI k) (fun _ => true) (fun (k : Nat) => .str (SC [letN (n + 31 * (k : Int))])) ?_
  refine vi_range1 ?_
  k_places
  refine ⟨n / 7 % 9, rfl, by omega, by omega, ?_, by rw [List.length_range]; omega, fun _ => trivial, fun k hk acc => ?_, ?_⟩
  · unfold rng
    exact List.map_congr_left fun k _ => by rw [Int.zero_add]
  · have hk := List.mem_range.mp hk
    refine vg_name ⟨rfl, vt_yes ⟨rfl, rfl, fun _ => ?_⟩⟩
    k_places
    refine v2_ixS lets_len.2 (letN_at _) ?_
    exact ⟨rfl, rfl⟩
  · rw [filter_tt]
    k_places
    have el : (List.range (n / 7 % 9).toNat).map (fun (k : Nat) => P.str (SC [letN (n + 31 * (k : Int))])) = ((txtL n).map fun c => SC [c]).map P.str := by
      unfold txtL; rw [List.map_map, List.map_map]; rfl
    rw [el]
    refine vm_join ?_ ?_
    · have l0 : (Str.ofString "").length = 0 := by decide +kernel
      have l1 : (((txtL n).map fun c => SC [c]).map (·.length)).sum = (txtL n).length := by
        rw [List.map_map]
        have e1 : ((fun s : Str => s.length) ∘ fun c : Nat => SC [c]) = fun _ => 1 := rfl
        rw [e1]
        have : ∀ l : List Nat, (l.map fun _ => 1).sum = l.length := by
          intro l
          induction l with
          | nil => rfl
          | cons a l ih => rw [List.map_cons, List.sum_cons, ih, List.length_cons]; omega
        exact this _
      have := txtL_len n
      rw [l0, l1, Nat.mul_zero]; omega
    rw [join_SC]
    exact q
abbrev st_lvl : Stmt := (topS 45)
theorem sc_lvl : FnScope ["number", "choices"] ["number"] (defScope st_lvl) := ⟨rfl, rfl, rfl, by decide +kernel, rfl, by decide +kernel, by decide +kernel⟩
def valL (n : Int) : List P := [.non, .bl true, .bl false, .int n, .int (-n), .str (txtN n), .int 0]
def valN (n : Int) : P := (valL n).getD (n % 7).toNat .non
theorem getD_mem {α : Type} {xs : List α} {i : Nat} {d : α} (h : i < xs.length) : xs.getD i d ∈ xs := by
  rw [List.getD_eq_getElem?_getD, List.getElem?_eq_getElem h]; exact List.getElem_mem h
theorem getD_at {α : Type} {xs : List α} {i : Nat} {d : α} (h : i < xs.length) : xs[i]? = some (xs.getD i d) := by
  rw [List.getD_eq_getElem?_getD, List.getElem?_eq_getElem h]; rfl
theorem okI_of {n : Int} (h : n.natAbs < 2 ^ 60) : okI n := Nat.lt_trans h (by decide +kernel)
theorem valN_ok {n : Int} (n1 : n.natAbs < 2 ^ 60) : okV (valN n) := by
  have : ∀ x ∈ valL n, okV x := by
    intro x hx
    rcases List.mem_cons.mp hx with rfl | hx
    · exact trivial
    rcases List.mem_cons.mp hx with rfl | hx
    · exact trivial
    rcases List.mem_cons.mp hx with rfl | hx
    · exact trivial
    rcases List.mem_cons.mp hx with rfl | hx
    · exact okI_of n1
    rcases List.mem_cons.mp hx with rfl | hx
    · exact okI_of (by omega)
    rcases List.mem_cons.mp hx with rfl | hx
    · exact txtN_ok n
    rcases List.mem_cons.mp hx with rfl | hx
    · exact okI_of (by decide)
    cases hx
  exact this _ (getD_mem (by show _ < 7; omega))
def W_lvl : Spc := fun ds h R => ∃ n : Int, ds = [dI n] ∧ 0 ≤ n ∧ n < 2 ^ 60 ∧ R (.p (valN n)) h
theorem ok_lvl (A : DefAt K mg "_law_value" st_lvl ["number"]) (h__law_text : HasF Pg w K mg base CX0 1 "_law_text" ["number"] (spD K Θ W_ltxt)) : HasF Pg w K mg base CX0 2 "_law_value" ["number"] (spD K Θ W_lvl) := by
  have sc := sc_lvl
  refine A.okD sc W_lvl (fun ds h R ⟨_, e, _⟩ => by rw [e]; rfl) fun f cdv A outer s H E hr => ?_
  refine ⟨_, (pss_cons (ps_set (i := 1) sc.nd rfl (.inl rfl) (pe_lst (pa_cons pe_non (pa_cons pe_bl (pa_cons pe_bl (pa_cons (pv 0) (pa_cons (pe_un un_neg (pv 0)) (pa_cons (h__law_text.call (hr.mono (by first | decide | omega)) rfl pass0 (pa_cons (pv 0) pa_nil)) (pa_cons pe_int pa_nil)))))))))
  (pss_one (ps_ret (pe_ix (ix_seqK (K := K) (by rfl)) (pv 1) (pe_op op_mod (pv 0) pe_int) (fun _ _ => rfl))))), ?_⟩
  try dsimp only [cxOf]
  rintro ds h R ⟨n, rfl, n0, n1, q⟩
  have sz := sizeLine_eq
  k_places
  refine ⟨n, rfl, n0, n1, ?_⟩
  k_places
  refine v2_ixL (xs := valL n) (at_nat (n % 7).toNat (by omega) (getD_at (d := .non) (by show _ < 7; omega))) ?_
  exact q
end
end Law

namespace Law
open PySem PySem.Spec PyProof.Rows L2 Kb
-- the steps that are tried: k_clsL a side condition; k_subL one step; k_places steps as long as one fits
local macro_rules | `(tactic| k_subL) => `(tactic| first | (with_reducible refine ve_cls ?_))
/-! what the law draws: acts -/
def numS (i : Int) : Str := toString i
def tenB (z : Str) : Bool := decide (z.length ≤ 50) && z.cps.toList.all fun c => decide (c < 2 ^ 40)
theorem tenB_ok {z : Str} (h : tenB z = true) : okZ z ∧ z.length ≤ 50 := by
  unfold tenB at h
  rw [Bool.and_eq_true, List.all_eq_true] at h
  have h1 := of_decide_eq_true h.1
  exact ⟨⟨by omega, fun c hc => of_decide_eq_true (h.2 c hc)⟩, h1⟩
theorem tabS_all : (List.range 1000).all (fun i => tenB (("t" : Str) ++ numS (i : Int))) = true := by decide +kernel
theorem colS_all : (List.range 77).all (fun i => tenB (("c_" : Str) ++ numS (i : Int))) = true := by decide +kernel
theorem tabS_ok (n : Int) : okZ (("t" : Str) ++ numS (n % 1000)) ∧ (("t" : Str) ++ numS (n % 1000)).length ≤ 50 := by
  have h := List.all_eq_true.mp tabS_all (n % 1000).toNat (List.mem_range.mpr (by omega))
  rw [Int.toNat_of_nonneg (by omega)] at h
  exact tenB_ok h
theorem colS_ok (n : Int) : okZ (("c_" : Str) ++ numS (n % 77)) ∧ (("c_" : Str) ++ numS (n % 77)).length ≤ 50 := by
  have h := List.all_eq_true.mp colS_all (n % 77).toNat (List.mem_range.mpr (by omega))
  rw [Int.toNat_of_nonneg (by omega)] at h
  exact tenB_ok h
def markN (n : Int) : P := if n % 3 > 0 then .tup [.int (n % 6), .int (1 + n / 4), .int (n / 9 % 7), .int (n / 5 % 200)] else .non
def holdL (n : Int) : List P := [.str "integer", .str "text", .str "boolean", .str "counter", .str "letters", .tup [.str "refer", spt (n * 5 + 3)]]
def holdN (n : Int) : P := (holdL n).getD (n % 6).toNat .non
def tgtN (n : Int) : P := if n % 2 = 0 then spt (n + 77) else .non
def spotsN (n : Int) : List P := (List.range (n % 4).toNat).map fun (k : Nat) => spt (n + (k : Int))
def actL (n : Int) : List P := [.tup [.str "table", .str (("t" : Str) ++ numS (n % 1000))],
  .tup [.str "column", spt n, .str (("c_" : Str) ++ numS (n % 77)), holdN n],
  .tup [.str "unique", spt n, .tup (spotsN n)],
  .tup [.str "row", spt n], .tup [.str "drop", spt n], .tup [.str "put", spt n, spt (n * 5 + 3), valN (n / 2)],
  .tup [.str "refer", spt n, spt (n * 5 + 3), tgtN n], .tup [.str "add", spt n, spt (n * 5 + 3), .int (n - 5000)],
  .tup [.str "insert", spt n, spt (n * 5 + 3), markN n, .str (txtN n)], .tup [.str "remove", .tup [.int 1, .int 2, .int 3, .int n]],
  .tup [.str "undo", .tup [.int (n % 6), .int (1 + n)]]]
def actN (k n : Int) : P := (actL n).getD (k % 11).toNat .non
theorem strA_le {a b : Str} (h : (a ++ b).length ≤ 50) : a.length + b.length ≤ sizeLine := by
  have e : (a ++ b).length = a.length + b.length := by show (a.cps ++ b.cps).size = _; rw [Array.size_append]; rfl
  rw [sizeLine_eq]; omega
theorem sz_lt {n : Nat} (h : n < 100000) : n < sizeLine := Nat.lt_of_lt_of_le h (by decide)
section
variable {Pg : Program} {w : World} {K : PySem.W.Frag} {Θ : Tbs} {mg : Str → Option Value} {base : Heap} {C CK CC : Addr}
abbrev st_lac : Stmt := (topS 46)
theorem sc_lac : FnScope ["kind", "number", "spot", "other", "mark", "holds", "acts", "target", "k"] ["kind", "number"] (defScope st_lac) := ⟨rfl, rfl, rfl, by decide +kernel, rfl, by decide +kernel, by decide +kernel⟩
def W_lac : Spc := fun ds h R => ∃ k n : Int, ds = [dI k, dI n] ∧ 0 ≤ k ∧ k < 2 ^ 60 ∧ 0 ≤ n ∧ n < 2 ^ 40 ∧ R (.p (actN k n)) h
theorem ok_lac (A : DefAt K mg "_law_act" st_lac ["kind", "number"]) (m_range : mg "range" = none) (m_tuple : mg "tuple" = none) (m_str : mg "str" = none) (h__law_spot : HasF Pg w K mg base CX0 1 "_law_spot" ["number"] (spD K Θ W_lspt)) (h__law_text : HasF Pg w K mg base CX0 1 "_law_text" ["number"] (spD K Θ W_ltxt)) (h__law_value : HasF Pg w K mg base CX0 2 "_law_value" ["number"] (spD K Θ W_lvl)) :
    HasF Pg w K mg base CX0 3 "_law_act" ["kind", "number"] (spD K Θ W_lac) := by
  have sc := sc_lac
  refine A.okD sc W_lac (fun ds h R ⟨_, _, e, _⟩ => by rw [e]; rfl) fun f cdv A outer s H E hr => ?_
  refine ⟨_, (pss_cons (ps_set (i := 2) sc.nd rfl (.inl rfl) (h__law_spot.call (hr.mono (by first | decide | omega)) rfl pass0 (pa_cons (pv 1) pa_nil)))
  (pss_cons (ps_set (i := 3) sc.nd rfl (.inl rfl) (h__law_spot.call (hr.mono (by first | decide | omega)) rfl pass0 (pa_cons (pe_op (op_addWK (K := K) (by rfl)) (pe_op op_mulU (pv 1) pe_int) pe_int) pa_nil)))
  (pss_cons (ps_set (i := 4) sc.nd rfl (.inl rfl) pe_non)
  (pss_cons (ps_if (pt_cmpR op_gt (pe_op op_mod (pv 1) pe_int) pe_int (nomark _)) (pss_one (ps_set (i := 4) sc.nd rfl (.inl rfl) (pe_tup (pa_cons (pe_op op_mod (pv 1) pe_int) (pa_cons (pe_op (op_addWK (K := K) (by rfl)) pe_int (pe_op op_fdivW (pv 1) pe_int)) (pa_cons (pe_op op_mod (pe_op op_fdivW (pv 1) pe_int) pe_int) (pa_cons (pe_op op_mod (pe_op op_fdivW (pv 1) pe_int) pe_int) pa_nil))))))) pss_nil)
  (pss_cons (ps_set (i := 5) sc.nd rfl (.inl rfl) (pe_ix (ix_seqK (K := K) (by rfl)) (pe_lst (pa_cons pe_str (pa_cons pe_str (pa_cons pe_str (pa_cons pe_str (pa_cons pe_str (pa_cons (pe_tup (pa_cons pe_str (pa_cons (pv 3) pa_nil))) pa_nil))))))) (pe_op op_mod (pv 1) pe_int) (fun _ _ => rfl)))
  (pss_cons (ps_set (i := 6) sc.nd rfl (.inl rfl) (pe_lst (pa_cons (pe_tup (pa_cons pe_str (pa_cons (pe_op (op_addWK (K := K) (by rfl)) pe_str (pe_callTy call_str_int (by rfl) m_str (by decide +kernel) (pa_cons (pe_op op_mod (pv 1) pe_int) pa_nil))) pa_nil))) (pa_cons (pe_tup (pa_cons pe_str (pa_cons (pv 2) (pa_cons (pe_op (op_addWK (K := K) (by rfl)) pe_str (pe_callTy call_str_int (by rfl) m_str (by decide +kernel) (pa_cons (pe_op op_mod (pv 1) pe_int) pa_nil))) (pa_cons (pv 5) pa_nil))))) pa_nil))))
  (pss_cons (ps_expr (pe_bm PySem.F.plainAttrs_list PySem.F.slot_list_append PySem.F.type_list_append mt_append (pv 6) (pa_cons (pe_tup (pa_cons pe_str (pa_cons (pv 2) (pa_cons (pe_callTy (call_tuple_ofK (K := K) (by rfl)) (by rfl) m_tuple (by decide +kernel) (pa_cons (pe_lc (own := [("k", 8)]) rfl sc.nd (pi_range1 rfl m_range (pa_cons (pe_op op_mod (pv 1) pe_int) pa_nil)) (blkOk_by (N := ["kind", "number", "spot", "other", "mark", "holds", "acts", "target", "k"]) (sc := defScope (topS 46)) (by decide +kernel)) (fun _ _ _ _ _ => (pg_name (i := 8) sc.nd rfl (.inl rfl))) (fun _ _ _ _ _ => pts_nil) (fun _ _ _ _ _ => (h__law_spot.call (hr.mono (by first | decide | omega)) rfl pass0 (pa_cons (pe_op (op_addWK (K := K) (by rfl)) (pv 1) (pv 8)) pa_nil)))) pa_nil)) pa_nil)))) pa_nil)))
  (pss_cons (ps_set (i := 6) sc.nd rfl (.inl rfl) (pe_op (op_addWK (K := K) (by rfl)) (pv 6) (pe_lst (pa_cons (pe_tup (pa_cons pe_str (pa_cons (pv 2) pa_nil))) (pa_cons (pe_tup (pa_cons pe_str (pa_cons (pv 2) pa_nil))) (pa_cons (pe_tup (pa_cons pe_str (pa_cons (pv 2) (pa_cons (pv 3) (pa_cons (h__law_value.call (hr.mono (by first | decide | omega)) rfl pass0 (pa_cons (pe_op op_fdivW (pv 1) pe_int) pa_nil)) pa_nil))))) pa_nil))))))
  (pss_cons (ps_set (i := 7) sc.nd rfl (.inl rfl) pe_non)
  (pss_cons (ps_if (pt_cmpR (op_eqUK (K := K) (by rfl) hr.units) (pe_op op_mod (pv 1) pe_int) pe_int (nomark _)) (pss_one (ps_set (i := 7) sc.nd rfl (.inl rfl) (h__law_spot.call (hr.mono (by first | decide | omega)) rfl pass0 (pa_cons (pe_op (op_addWK (K := K) (by rfl)) (pv 1) pe_int) pa_nil)))) pss_nil)
  (pss_cons (ps_set (i := 6) sc.nd rfl (.inl rfl) (pe_op (op_addWK (K := K) (by rfl)) (pv 6) (pe_lst (pa_cons (pe_tup (pa_cons pe_str (pa_cons (pv 2) (pa_cons (pv 3) (pa_cons (pv 7) pa_nil))))) (pa_cons (pe_tup (pa_cons pe_str (pa_cons (pv 2) (pa_cons (pv 3) (pa_cons (pe_op op_sub (pv 1) pe_int) pa_nil))))) pa_nil)))))
  (pss_cons (ps_set (i := 6) sc.nd rfl (.inl rfl) (pe_op (op_addWK (K := K) (by rfl)) (pv 6) (pe_lst (pa_cons (pe_tup (pa_cons pe_str (pa_cons (pv 2) (pa_cons (pv 3) (pa_cons (pv 4) (pa_cons (h__law_text.call (hr.mono (by first | decide | omega)) rfl pass0 (pa_cons (pv 1) pa_nil)) pa_nil)))))) (pa_cons (pe_tup (pa_cons pe_str (pa_cons (pe_tup (pa_cons pe_int (pa_cons pe_int (pa_cons pe_int (pa_cons (pv 1) pa_nil))))) pa_nil))) pa_nil)))))
  (pss_cons (ps_expr (pe_bm PySem.F.plainAttrs_list PySem.F.slot_list_append PySem.F.type_list_append mt_append (pv 6) (pa_cons (pe_tup (pa_cons pe_str (pa_cons (pe_tup (pa_cons (pe_op op_mod (pv 1) pe_int) (pa_cons (pe_op (op_addWK (K := K) (by rfl)) pe_int (pv 1)) pa_nil))) pa_nil))) pa_nil)))
  (pss_one (ps_ret (pe_ix (ix_seqK (K := K) (by rfl)) (pv 6) (pe_op op_mod (pv 0) pe_int) (fun _ _ => rfl))))))))))))))))), ?_⟩
  try dsimp only [cxOf]
  rintro ds h R ⟨k, n, rfl, k0, k1, n0, n1, q⟩
  have sz := sizeLine_eq
  refine vs_fin ?_
  k_places
  refine ⟨n, rfl, n0, by omega, ?_⟩
  k_places
  refine ⟨n * 5 + 3, rfl, by omega, by omega, ?_⟩
  k_offL
  refine vs_seq ?_
  k_offL
  refine vs_seq ?_
  refine vs_mid (fun env' h' => env' = [some (dI k), some (dI n), some (.p (spt n)), some (.p (spt (n * 5 + 3))), some (.p (markN n)), none, none, none, none] ∧ h' = h) ?_ ?_
  · k_places
    refine ite_dec (fun c => ?_) (fun c => ?_)
    · k_places
      refine ⟨?_, rfl⟩
      unfold markN
      rw [if_pos c]
      rfl
    · k_places
      refine ⟨?_, rfl⟩
      unfold markN
      rw [if_neg c]
      rfl
  rintro env' h2 ⟨rfl, rfl⟩
  show VS _ _ _ _ _ _
  refine vs_seq ?_
  refine vs_asg ?_
  refine ve_op ?_
  refine ve_lst ?_
  k_places
  refine v2_ixL (xs := holdL n) (at_nat (n % 6).toNat (by omega) (getD_at (d := .non) (by show _ < 6; omega))) ?_
  have eh : (holdL n).getD (n % 6).toNat .non = holdN n := rfl
  rw [eh]
  refine vg_name ?_
  refine vs_seq ?_
  refine vs_asg ?_
  refine ve_lstO ?_
  k_places
  refine vc_str (Nat.lt_trans (log2_small (n := (n % 1000).natAbs) (by omega)) (by decide)) ?_
  refine v2_addWS (strA_le (tabS_ok n).2) ?_
  k_places
  refine vc_str (Nat.lt_trans (log2_small (n := (n % 77).natAbs) (by omega)) (by decide)) ?_
  refine v2_addWS (strA_le (colS_ok n).2) ?_
  k_places
  refine ⟨sz_le (by show 2 ≤ _; omega), ?_⟩
  refine vg_name ?_
  refine vs_seq ?_
  refine vs_drop ?_
  refine ve_bm ?_
  k_places
  refine ⟨⟨rfl, _, get_last⟩, ?_⟩
  k_places
  refine ve_lcL tg_name (List.range (n % 4).toNat) (fun (k : Nat) => dI k) (fun _ => true) (fun (k : Nat) => spt (n + (k : Int))) ?_
  refine vi_range1 ?_
  k_places
  refine ⟨n % 4, rfl, by omega, by omega, ?_, by rw [List.length_range]; omega, fun _ => trivial, fun j hj acc => ?_, ?_⟩
  · unfold rng
    exact List.map_congr_left fun k _ => by rw [Int.zero_add]
  · have hj := List.mem_range.mp hj
    refine vg_name ⟨rfl, vt_yes ⟨rfl, rfl, fun _ => ?_⟩⟩
    k_places
    exact ⟨n + j, rfl, by omega, by omega, rfl, rfl⟩
  · rw [filter_tt]
    k_subL
    refine vc_tuple (ps := spotsN n) rfl ?_
    k_places
    refine vm_append get_last (sz_lt (by show 2 < _; omega)) ?_
    rw [List.set_append_right _ _ (Nat.le_refl _), Nat.sub_self]
    show VS _ _ _ _ _ (h2 ++ [some (OO.lst (((actL n).take 3).map D.p))])
    refine vs_seq ?_
    refine vs_asg ?_
    refine ve_op ?_
    k_subL
    refine ve_lst ?_
    k_places
    refine ⟨n / 2, rfl, by omega, by omega, ?_⟩
    k_places
    refine v2_addWM (i := (actL n).take 3) (j := [.tup [.str "row", spt n], .tup [.str "drop", spt n], .tup [.str "put", spt n, spt (n * 5 + 3), valN (n / 2)]]) get_last rfl (sz_le (by show 3 + 3 ≤ _; omega)) ?_
    have e6 : (actL n).take 3 ++ [.tup [.str "row", spt n], .tup [.str "drop", spt n], .tup [.str "put", spt n, spt (n * 5 + 3), valN (n / 2)]] = (actL n).take 6 := rfl
    rw [e6]
    refine vg_name ?_
    refine vs_seq ?_
    k_offL
    refine vs_seq ?_
    refine vs_mid (fun env' h' => env' = [some (dI k), some (dI n), some (.p (spt n)), some (.p (spt (n * 5 + 3))), some (.p (markN n)), some (.p (holdN n)), some (dL ((actL n).take 6)), some (.p (tgtN n)), none] ∧ h' = (h2 ++ [some (OO.lst (((actL n).take 3).map D.p))])) ?_ ?_
    · k_places
      refine ite_dec (fun c => ?_) (fun c => ?_)
      · k_places
        refine ⟨n + 77, rfl, by omega, by omega, ?_⟩
        k_places
        refine ⟨?_, rfl⟩
        unfold tgtN
        rw [if_pos c]
        rfl
      · k_places
        refine ⟨?_, rfl⟩
        unfold tgtN
        rw [if_neg c]
        rfl
    rintro env' h3 ⟨rfl, e3⟩
    show VS _ _ _ _ _ _
    refine vs_seq ?_
    refine vs_asg ?_
    refine ve_op ?_
    k_subL
    refine ve_lst ?_
    k_places
    refine v2_addWM (i := (actL n).take 6) (j := [.tup [.str "refer", spt n, spt (n * 5 + 3), tgtN n], .tup [.str "add", spt n, spt (n * 5 + 3), .int (n - 5000)]]) rfl rfl (sz_le (by show 6 + 2 ≤ _; omega)) ?_
    have e8 : (actL n).take 6 ++ [.tup [.str "refer", spt n, spt (n * 5 + 3), tgtN n], .tup [.str "add", spt n, spt (n * 5 + 3), .int (n - 5000)]] = (actL n).take 8 := rfl
    rw [e8]
    refine vg_name ?_
    refine vs_seq ?_
    refine vs_asg ?_
    refine ve_op ?_
    k_subL
    refine ve_lst ?_
    k_places
    refine ⟨n, rfl, n0, by omega, ?_⟩
    k_places
    refine v2_addWMO (i := (actL n).take 8) (j := [.tup [.str "insert", spt n, spt (n * 5 + 3), markN n, .str (txtN n)], .tup [.str "remove", .tup [.int 1, .int 2, .int 3, .int n]]]) rfl rfl (sz_le (by show 8 + 2 ≤ _; omega)) ?_
    have e10 : (actL n).take 8 ++ [.tup [.str "insert", spt n, spt (n * 5 + 3), markN n, .str (txtN n)], .tup [.str "remove", .tup [.int 1, .int 2, .int 3, .int n]]] = (actL n).take 10 := rfl
    rw [e10]
    refine vg_name ?_
    refine vs_seq ?_
    refine vs_drop ?_
    refine ve_bm ?_
    k_places
    refine ⟨⟨rfl, _, get_last⟩, ?_⟩
    k_places
    refine vm_append get_last (sz_lt (by show 10 < _; omega)) ?_
    rw [List.set_append_right _ _ (Nat.le_refl _), Nat.sub_self]
    show VS _ _ _ _ _ (h3 ++ [some (OO.lst ((actL n).map D.p))])
    k_places
    refine v2_ixO (xs := (actL n).map D.p) (d := .p (actN k n)) get_last (at_nat (k % 11).toNat (by omega) ?_) ?_
    · rw [List.getElem?_map, getD_at (d := .non) (by show _ < 11; omega)]; rfl
    · rw [e3, List.append_assoc]
      exact fin_p _ q
end
end Law

namespace Law
open PySem PySem.Spec PyProof.Rows L2 Kb
/-! what is drawn keeps the bounds -/
theorem wstr_few {z : Str} (h : okZ z) (hl : z.length ≤ 50) : (wstr z).length ≤ 306 := by
  have h1 := wnum_6 (n := z.length) (by omega)
  have h2 := flat_le (w := wchr) (m := 6) (xs := z.cps.toList) fun c hc => wnum_6 (h.cps c hc)
  have h3 : z.cps.toList.length = z.length := Array.length_toList
  unfold wstr
  rw [List.length_append]
  omega
theorem act_mk {j : Nat} {k : Str} {zs : List Str} {fs : List Fm} {ps : List P} (a : ActB j k zs fs ps) (hl : (fieldsB fs ps).length ≤ 2990) (hf : ∀ s z hd, P.tup (.str k :: ps) = .tup [.str "column", s, z, hd] → Flat 2 hd) : okActF (.tup (.str k :: ps)) ∧ (wact (.tup (.str k :: ps))).length ≤ 3000 := by
  refine ⟨⟨⟨j, k, zs, fs, ps, rfl, a⟩, hf⟩, ?_⟩
  rw [wact_eq a, List.length_append]
  have hj : j < 11 := (List.getElem?_eq_some_iff.mp a.at_).1
  have := wnum_6 (n := j) (by omega)
  omega
theorem noCol {k : Str} {ps : List P} (h : k ≠ "column") : ∀ s z hd, P.tup (.str k :: ps) = .tup [.str "column", s, z, hd] → Flat 2 hd := by
  intro s z hd e
  cases e
  exact absurd rfl h
theorem spt_flat (n : Int) : Flat 1 (spt n) := .tup fun x hx => by
  rcases List.mem_cons.mp hx with rfl | hx
  · exact .int _
  rcases List.mem_cons.mp hx with rfl | hx
  · exact .int _
  rcases List.mem_cons.mp hx with rfl | hx
  · exact .int _
  cases hx
theorem holdN_ok {n : Int} (h : 0 ≤ n) : okHd (holdN n) ∧ Flat 2 (holdN n) := by
  have fs : ∀ z ∈ holdWs, Flat 2 (.str z) := by
    have h1 : ∀ z ∈ holdWs, PyData.canLay0 (pyOf (.str z)) = true ∧ PyData.depth (pyOf (.str z)) ≤ 1 := by decide +kernel
    intro z hz
    exact ⟨(h1 z hz).1, Nat.le_trans (h1 z hz).2 (by omega), rfl⟩
  have : ∀ x ∈ holdL n, okHd x ∧ Flat 2 x := by
    intro x hx
    rcases List.mem_cons.mp hx with rfl | hx
    · exact ⟨.inl ⟨_, .head _, rfl⟩, fs _ (.head _)⟩
    rcases List.mem_cons.mp hx with rfl | hx
    · exact ⟨.inl ⟨_, .tail _ (.head _), rfl⟩, fs _ (.tail _ (.head _))⟩
    rcases List.mem_cons.mp hx with rfl | hx
    · exact ⟨.inl ⟨_, .tail _ (.tail _ (.head _)), rfl⟩, fs _ (.tail _ (.tail _ (.head _)))⟩
    rcases List.mem_cons.mp hx with rfl | hx
    · exact ⟨.inl ⟨_, .tail _ (.tail _ (.tail _ (.head _))), rfl⟩, fs _ (.tail _ (.tail _ (.tail _ (.head _))))⟩
    rcases List.mem_cons.mp hx with rfl | hx
    · exact ⟨.inl ⟨_, .tail _ (.tail _ (.tail _ (.tail _ (.head _)))), rfl⟩, fs _ (.tail _ (.tail _ (.tail _ (.tail _ (.head _)))))⟩
    rcases List.mem_cons.mp hx with rfl | hx
    · refine ⟨.inr ⟨_, _, rfl, spt_ok (by omega)⟩, .tup fun y hy => ?_⟩
      rcases List.mem_cons.mp hy with rfl | hy
      · exact ⟨by decide +kernel, by decide +kernel, rfl⟩
      rcases List.mem_cons.mp hy with rfl | hy
      · exact spt_flat _
      cases hy
    cases hx
  exact this _ (getD_mem (by show _ < 6; omega))
theorem n60 {n : Int} (h : n < 2 ^ 60) : n < 128 ^ 60 := Int.lt_trans h (by decide +kernel)
theorem tup4_ok {a b c d : Int} (ha : 0 ≤ a ∧ a < 2 ^ 60) (hb : 0 ≤ b ∧ b < 2 ^ 60) (hc : 0 ≤ c ∧ c < 2 ^ 60) (hd : 0 ≤ d ∧ d < 2 ^ 60) : okNs (.tup [.int a, .int b, .int c, .int d]) := by
  refine ⟨_, rfl, fun x hx => ?_, by show 4 ≤ 4; omega⟩
  rcases List.mem_cons.mp hx with rfl | hx
  · exact ⟨ha.1, n60 ha.2⟩
  rcases List.mem_cons.mp hx with rfl | hx
  · exact ⟨hb.1, n60 hb.2⟩
  rcases List.mem_cons.mp hx with rfl | hx
  · exact ⟨hc.1, n60 hc.2⟩
  rcases List.mem_cons.mp hx with rfl | hx
  · exact ⟨hd.1, n60 hd.2⟩
  cases hx
theorem okO_ns {p : P} (h : okNs p) : okO okNs p := .inr ⟨h, okNs_ne h⟩
theorem markN_ok {n : Int} (h : 0 ≤ n) (h1 : n < 2 ^ 40) : okO okNs (markN n) := by
  unfold markN
  split
  · exact okO_ns (tup4_ok (by omega) (by omega) (by omega) (by omega))
  · exact .inl rfl
theorem tgtN_ok {n : Int} (h : 0 ≤ n) : okO okNs (tgtN n) := by
  unfold tgtN
  split
  · exact okO_ns (spt_ok (by omega))
  · exact .inl rfl
theorem spotsN_ok {n : Int} (h : 0 ≤ n) : okSp (.tup (spotsN n)) ∧ (wlst wNs (.tup (spotsN n))).length ≤ 1000 := by
  have hl : (spotsN n).length ≤ 3 := by unfold spotsN; rw [List.length_map, List.length_range]; omega
  have ho : ∀ x ∈ spotsN n, okNs x := fun x hx => by
    obtain ⟨k, _, rfl⟩ := List.mem_map.mp hx
    exact spt_ok (by omega)
  refine ⟨⟨_, rfl, ho, by omega⟩, ?_⟩
  have h1 := flat_le (w := wNs) (m := 240) (xs := spotsN n) fun x hx => okNs_len (ho x hx)
  have h2 := wnum_6 (n := (spotsN n).length) (by omega)
  show (wnum _ ++ _).length ≤ _
  rw [List.length_append]
  omega
theorem txtN_len (n : Int) : (txtN n).length ≤ 50 := by
  have := txtL_len n
  show (txtL n).toArray.size ≤ _
  rw [List.size_toArray]; omega
theorem valN_len {n : Int} (n1 : n.natAbs < 2 ^ 60) : (wval (valN n)).length ≤ 310 := by
  have : ∀ x ∈ valL n, (wval x).length ≤ 310 := by
    intro x hx
    have li : ∀ i : Int, i.natAbs < 2 ^ 60 → (wval (.int i)).length ≤ 310 := fun i hi => by
      have := wint_len (okI_of hi)
      show ([2] ++ wint i).length ≤ _
      rw [List.length_append]; show 1 + _ ≤ _; omega
    rcases List.mem_cons.mp hx with rfl | hx
    · show 1 ≤ _; omega
    rcases List.mem_cons.mp hx with rfl | hx
    · show 2 ≤ _; omega
    rcases List.mem_cons.mp hx with rfl | hx
    · show 2 ≤ _; omega
    rcases List.mem_cons.mp hx with rfl | hx
    · exact li _ n1
    rcases List.mem_cons.mp hx with rfl | hx
    · exact li _ (by omega)
    rcases List.mem_cons.mp hx with rfl | hx
    · have := wstr_few (txtN_ok n) (txtN_len n)
      show ([3] ++ wstr (txtN n)).length ≤ _
      rw [List.length_append]; show 1 + _ ≤ _; omega
    rcases List.mem_cons.mp hx with rfl | hx
    · exact li _ (by decide)
    cases hx
  exact this _ (getD_mem (by show _ < 7; omega))
theorem f1 {a : Fm} {x : P} (h : okF a x) : okFs [a] [x] := .cons h .nil
theorem f2 {a b : Fm} {x y : P} (h : okF a x) (h2 : okF b y) : okFs [a, b] [x, y] := .cons h (f1 h2)
theorem f3 {a b c : Fm} {x y z : P} (h : okF a x) (h2 : okF b y) (h3 : okF c z) : okFs [a, b, c] [x, y, z] := .cons h (f2 h2 h3)
theorem f4 {a b c d : Fm} {x y z u : P} (h : okF a x) (h2 : okF b y) (h3 : okF c z) (h4 : okF d u) : okFs [a, b, c, d] [x, y, z, u] := .cons h (f3 h2 h3 h4)
theorem b1 {a : Fm} {x : P} : (fieldsB [a] [x]).length = (wF a x).length := by simp [fieldsB]
theorem b2 {a b : Fm} {x y : P} : (fieldsB [a, b] [x, y]).length = (wF a x).length + (wF b y).length := by simp [fieldsB]
theorem b3 {a b c : Fm} {x y z : P} : (fieldsB [a, b, c] [x, y, z]).length = (wF a x).length + (wF b y).length + (wF c z).length := by simp [fieldsB]; omega
theorem b4 {a b c d : Fm} {x y z u : P} : (fieldsB [a, b, c, d] [x, y, z, u]).length = (wF a x).length + (wF b y).length + (wF c z).length + (wF d u).length := by simp [fieldsB]; omega
theorem actL_ok {n : Int} (n0 : 0 ≤ n) (n1 : n < 2 ^ 40) : ∀ x ∈ actL n, okActF x ∧ (wact x).length ≤ 3000 := by
  have s1 : okNs (spt n) := spt_ok n0
  have s2 : okNs (spt (n * 5 + 3)) := spt_ok (by omega)
  have l1 : (wF .spot (spt n)).length ≤ 240 := okNs_len s1
  have l2 : (wF .spot (spt (n * 5 + 3))).length ≤ 240 := okNs_len s2
  have lo : ∀ p, okO okNs p → (wF .opt p).length ≤ 241 := fun p hp => wopt_len (ws := wNs) (n := 240) (v := p) hp fun u hu => okNs_len hu
  have lz : ∀ z : Str, okZ z → z.length ≤ 50 → (wF .str (.str z)).length ≤ 306 := fun z h1 h2 => wstr_few h1 h2
  intro x hx
  rcases List.mem_cons.mp hx with rfl | hx
  · have t := tabS_ok n
    have := lz _ t.1 t.2
    exact act_mk (j := 0) (zs := ["string"]) (fs := [.str]) ⟨rfl, by decide +kernel, f1 ⟨_, rfl, t.1⟩⟩ (by rw [b1]; omega) (noCol (by decide +kernel))
  rcases List.mem_cons.mp hx with rfl | hx
  · have t := colS_ok n
    have h3 := holdN_ok n0
    have l4 : (wF .holds (holdN n)).length ≤ 241 := okHd_len h3.1
    have := lz _ t.1 t.2
    exact act_mk (j := 1) (zs := ["spot", "string", "holds"]) (fs := [.spot, .str, .holds]) ⟨rfl, by decide +kernel, f3 s1 ⟨_, rfl, t.1⟩ h3.1⟩ (by rw [b3]; omega) fun s z hd e => by cases e; exact h3.2
  rcases List.mem_cons.mp hx with rfl | hx
  · have t := spotsN_ok n0
    have l4 : (wF .spots (.tup (spotsN n))).length ≤ 1000 := t.2
    exact act_mk (j := 2) (zs := ["spot", "spots"]) (fs := [.spot, .spots]) ⟨rfl, by decide +kernel, f2 s1 t.1⟩ (by rw [b2]; omega) (noCol (by decide +kernel))
  rcases List.mem_cons.mp hx with rfl | hx
  · exact act_mk (j := 3) (zs := ["spot"]) (fs := [.spot]) ⟨rfl, by decide +kernel, f1 s1⟩ (by rw [b1]; omega) (noCol (by decide +kernel))
  rcases List.mem_cons.mp hx with rfl | hx
  · exact act_mk (j := 4) (zs := ["spot"]) (fs := [.spot]) ⟨rfl, by decide +kernel, f1 s1⟩ (by rw [b1]; omega) (noCol (by decide +kernel))
  rcases List.mem_cons.mp hx with rfl | hx
  · have l4 : (wF .value (valN (n / 2))).length ≤ 310 := valN_len (by omega)
    exact act_mk (j := 5) (zs := ["spot", "spot", "value"]) (fs := [.spot, .spot, .value]) ⟨rfl, by decide +kernel, f3 s1 s2 (valN_ok (by omega))⟩ (by rw [b3]; omega) (noCol (by decide +kernel))
  rcases List.mem_cons.mp hx with rfl | hx
  · have t := tgtN_ok n0
    have l4 := lo _ t
    exact act_mk (j := 6) (zs := ["spot", "spot", "optional spot"]) (fs := [.spot, .spot, .opt]) ⟨rfl, by decide +kernel, f3 s1 s2 t⟩ (by rw [b3]; omega) (noCol (by decide +kernel))
  rcases List.mem_cons.mp hx with rfl | hx
  · have hi : okI (n - 5000) := okI_of (by omega)
    have l4 : (wF .int (.int (n - 5000))).length ≤ 61 := wint_len hi
    exact act_mk (j := 7) (zs := ["spot", "spot", "integer"]) (fs := [.spot, .spot, .int]) ⟨rfl, by decide +kernel, f3 s1 s2 ⟨_, rfl, hi⟩⟩ (by rw [b3]; omega) (noCol (by decide +kernel))
  rcases List.mem_cons.mp hx with rfl | hx
  · have t := markN_ok n0 n1
    have l4 := lo _ t
    have l5 := lz _ (txtN_ok n) (txtN_len n)
    exact act_mk (j := 8) (zs := ["spot", "spot", "optional mark", "string"]) (fs := [.spot, .spot, .opt, .str]) ⟨rfl, by decide +kernel, f4 s1 s2 t ⟨_, rfl, txtN_ok n⟩⟩ (by rw [b4]; omega) (noCol (by decide +kernel))
  rcases List.mem_cons.mp hx with rfl | hx
  · have t : okNs (.tup [.int 1, .int 2, .int 3, .int n]) := tup4_ok (by omega) (by omega) (by omega) (by omega)
    have l4 : (wF .spot (.tup [.int 1, .int 2, .int 3, .int n])).length ≤ 240 := okNs_len t
    exact act_mk (j := 9) (zs := ["mark"]) (fs := [.spot]) ⟨rfl, by decide +kernel, f1 t⟩ (by rw [b1]; omega) (noCol (by decide +kernel))
  rcases List.mem_cons.mp hx with rfl | hx
  · have t : okNs (.tup [.int (n % 6), .int (1 + n)]) := okNs2 ⟨by omega, n60 (by omega)⟩ ⟨by omega, n60 (by omega)⟩
    have l4 : (wF .spot (.tup [.int (n % 6), .int (1 + n)])).length ≤ 240 := okNs_len t
    exact act_mk (j := 10) (zs := ["name"]) (fs := [.spot]) ⟨rfl, by decide +kernel, f1 t⟩ (by rw [b1]; omega) (noCol (by decide +kernel))
  cases hx
theorem actN_ok {k n : Int} (n0 : 0 ≤ n) (n1 : n < 2 ^ 40) : okActF (actN k n) ∧ (wact (actN k n)).length ≤ 3000 := actL_ok n0 n1 _ (getD_mem (by show _ < 11; omega))
end Law

namespace Law
open PySem PySem.Spec PyProof.Rows L2 Kb
-- the steps that are tried: k_clsL a side condition; k_subL one step; k_places steps as long as one fits
local macro_rules | `(tactic| k_subL) => `(tactic| first | (with_reducible refine ve_cls ?_))
/-! what the law draws: changes -/
/-- tuples all the way, of that depth -/
structure Frz (n : Nat) (x : P) : Prop where
  f : frzP x = x
  d : Deep n x
  l : Flat n x
theorem Frz.int {n : Nat} {i : Int} : Frz n (.int i) := ⟨rfl, .int, .int i⟩
theorem Frz.non {n : Nat} : Frz n .non := ⟨rfl, .non, .non⟩
theorem Frz.bl {n : Nat} {b : Bool} : Frz n (.bl b) := ⟨rfl, .bl, .bl b⟩
theorem Frz.str {n : Nat} {s : Str} (h : PyData.canLay0 (.str s) = true := by decide +kernel) : Frz n (.str s) := ⟨rfl, .str, ⟨h, Nat.zero_le _, rfl⟩⟩
theorem lets_sok : ∀ c ∈ lets95.cps.toList, c < 0x110000 := by decide +kernel
theorem txtN_sok (n : Int) : PyData.canLay0 (.str (txtN n)) = true := by
  have h : ∀ c ∈ txtL n, c < 0x110000 := fun c hc => by
    obtain ⟨k, _, rfl⟩ := List.mem_map.mp hc
    have i0 := Int.emod_nonneg (n + 31 * (k : Int)) (show (95 : Int) ≠ 0 by decide)
    have i1 := Int.emod_lt_of_pos (n + 31 * (k : Int)) (show (0 : Int) < 95 by decide)
    have hi : ((n + 31 * (k : Int)) % 95).toNat < lets95.cps.toList.length := by rw [lets_len.1]; omega
    show lets95.cps.toList.getD _ 0 < _
    rw [List.getD_eq_getElem?_getD, List.getElem?_eq_getElem hi]
    exact lets_sok _ (List.getElem_mem hi)
  show (txtN n).cps.all (fun c => decide (c < 0x110000)) = true
  rw [Array.all_eq_true']
  intro c hc
  have hc : c ∈ txtL n := by simpa [txtN, SC] using hc
  exact decide_eq_true (h c hc)
theorem tabS_sall : (List.range 1000).all (fun i => PyData.canLay0 (.str (("t" : Str) ++ numS (i : Int)))) = true := by decide +kernel
theorem colS_sall : (List.range 77).all (fun i => PyData.canLay0 (.str (("c_" : Str) ++ numS (i : Int)))) = true := by decide +kernel
theorem tabS_sok (n : Int) : PyData.canLay0 (.str (("t" : Str) ++ numS (n % 1000))) = true := by
  have h := List.all_eq_true.mp tabS_sall (n % 1000).toNat (List.mem_range.mpr (by omega))
  rwa [Int.toNat_of_nonneg (by omega)] at h
theorem colS_sok (n : Int) : PyData.canLay0 (.str (("c_" : Str) ++ numS (n % 77))) = true := by
  have h := List.all_eq_true.mp colS_sall (n % 77).toNat (List.mem_range.mpr (by omega))
  rwa [Int.toNat_of_nonneg (by omega)] at h
theorem Frz.tup {n : Nat} {xs : List P} (hl : xs.length < 1000000) (h : ∀ x ∈ xs, Frz n x) : Frz (n + 1) (.tup xs) := by
  refine ⟨?_, .tup hl fun x hx => (h x hx).2, .tup fun x hx => (h x hx).3⟩
  rw [frz_tup]
  have e : ∀ ys : List P, (∀ x ∈ ys, Frz n x) → ys.map frzP = ys := by
    intro ys
    induction ys with
    | nil => intro _; rfl
    | cons y ys ih => intro hy; rw [List.map_cons, (hy y (List.mem_cons_self ..)).1, ih fun z hz => hy z (List.mem_cons_of_mem _ hz)]
  rw [e xs h]
theorem frz_id {m : Nat} : ∀ {ys : List P}, (∀ x ∈ ys, Frz m x) → ys.map frzP = ys := by
  intro ys
  induction ys with
  | nil => intro _; rfl
  | cons y ys ih => intro hy; rw [List.map_cons, (hy y (List.mem_cons_self ..)).1, ih fun z hz => hy z (List.mem_cons_of_mem _ hz)]
theorem frz_of {m : Nat} {ys : List P} (h : ∀ x ∈ ys, Frz m x) : frzP (.lst ys) = .tup ys := by rw [frz_lst, frz_id h]
theorem deep_of {m : Nat} {ys : List P} (hl : ys.length < 1000000) (h : ∀ x ∈ ys, Frz m x) : Deep (m + 1) (.lst ys) := .lst hl fun x hx => (h x hx).2
theorem all1 {Q : P → Prop} {a : P} (h : Q a) : ∀ x ∈ [a], Q x := fun x hx => by
  rcases List.mem_cons.mp hx with rfl | hx
  · exact h
  · cases hx
theorem allC {Q : P → Prop} {a : P} {xs : List P} (h : Q a) (r : ∀ x ∈ xs, Q x) : ∀ x ∈ a :: xs, Q x := fun x hx => by
  rcases List.mem_cons.mp hx with rfl | hx
  · exact h
  · exact r x hx
theorem allN {Q : P → Prop} : ∀ x ∈ ([] : List P), Q x := fun x hx => by cases hx
theorem spt_frz {n : Nat} (i : Int) : Frz (n + 1) (spt i) := .tup (by show 3 < 1000000; omega) (allC .int (allC .int (allC .int allN)))
theorem valN_frz {m : Nat} (n : Int) : Frz m (valN n) := by
  have : ∀ x ∈ valL n, Frz m x := allC .non (allC .bl (allC .bl (allC .int (allC .int (allC (.str (txtN_sok n)) (allC .int allN))))))
  exact this _ (getD_mem (by show _ < 7; omega))
theorem holdN_frz {m : Nat} (n : Int) : Frz (m + 2) (holdN n) := by
  have : ∀ x ∈ holdL n, Frz (m + 2) x := allC .str (allC .str (allC .str (allC .str (allC .str (allC (.tup (by show 2 < 1000000; omega) (allC .str (allC (spt_frz _) allN))) allN)))))
  exact this _ (getD_mem (by show _ < 6; omega))
theorem actN_frz (k n : Int) : Frz 4 (actN k n) := by
  have s1 : Frz 3 (spt n) := spt_frz n
  have s2 : Frz 3 (spt (n * 5 + 3)) := spt_frz _
  have mk : Frz 3 (markN n) := by
    unfold markN
    split
    · exact .tup (by show 4 < 1000000; omega) (allC .int (allC .int (allC .int (allC .int allN))))
    · exact .non
  have tg : Frz 3 (tgtN n) := by
    unfold tgtN
    split
    · exact spt_frz _
    · exact .non
  have sp : Frz 3 (.tup (spotsN n)) := by
    refine .tup ?_ fun x hx => ?_
    · unfold spotsN; rw [List.length_map, List.length_range]; omega
    · obtain ⟨k, _, rfl⟩ := List.mem_map.mp hx
      exact spt_frz _
  have t1 : ∀ {a b : P}, Frz 3 a → Frz 3 b → Frz 4 (.tup [a, b]) := fun h1 h2 => .tup (by show 2 < 1000000; omega) (allC h1 (allC h2 allN))
  have t2 : ∀ {a b c : P}, Frz 3 a → Frz 3 b → Frz 3 c → Frz 4 (.tup [a, b, c]) := fun h1 h2 h3 => .tup (by show 3 < 1000000; omega) (allC h1 (allC h2 (allC h3 allN)))
  have t3 : ∀ {a b c d : P}, Frz 3 a → Frz 3 b → Frz 3 c → Frz 3 d → Frz 4 (.tup [a, b, c, d]) := fun h1 h2 h3 h4 => .tup (by show 4 < 1000000; omega) (allC h1 (allC h2 (allC h3 (allC h4 allN))))
  have t4 : ∀ {a b c d e : P}, Frz 3 a → Frz 3 b → Frz 3 c → Frz 3 d → Frz 3 e → Frz 4 (.tup [a, b, c, d, e]) := fun h1 h2 h3 h4 h5 => .tup (by show 5 < 1000000; omega) (allC h1 (allC h2 (allC h3 (allC h4 (allC h5 allN)))))
  have : ∀ x ∈ actL n, Frz 4 x := allC (t1 .str (.str (tabS_sok n))) (allC (t3 .str s1 (.str (colS_sok n)) (holdN_frz n)) (allC (t2 .str s1 sp) (allC (t1 .str s1) (allC (t1 .str s1) (allC (t3 .str s1 s2 (valN_frz _)) (allC (t3 .str s1 s2 tg) (allC (t3 .str s1 s2 .int) (allC (t4 .str s1 s2 mk (.str (txtN_sok n)))
    (allC (t1 .str (.tup (by show 4 < 1000000; omega) (allC .int (allC .int (allC .int (allC .int allN)))))) (allC (t1 .str (.tup (by show 2 < 1000000; omega) (allC .int (allC .int allN)))) allN))))))))))
  exact this _ (getD_mem (by show _ < 11; omega))
theorem rts_frz {m : Nat} (r : Wd.Rts) (h : r.length ≤ 4) : Frz (m + 2) (rtsP r) := by
  refine .tup (by rw [List.length_map]; omega) fun x hx => ?_
  obtain ⟨t, _, rfl⟩ := List.mem_map.mp hx
  exact .tup (by show 3 < 1000000; omega) (allC .bl (allC .bl (allC .bl allN)))
theorem rtsN_len (n : Int) : (rtsN n).length = 4 := by unfold rtsN; rw [List.length_map, List.length_range]
def heardN (n : Int) : List P := (List.range (1 + n % 5).toNat).map fun (k : Nat) => .int (n / ((k : Int) + 1) % 500)
def pubL (n : Int) : List P := [.tup [.str "grant", .int (n % 6), rtsP (rtsN n)], .tup [.str "revoke", .non], .tup [.str "revoke", spt n], .tup [.str "seal"]]
def pubsN (n : Int) : List P := cutP (pubL n) none (some (n / 5 % 5))
def partsN (n : Int) : List P := [.non, .tup [], .tup [actN n n], .tup [actN (n + 1) (n / 3), actN (n + 5) n]]
def capN (n : Int) : P := if n % 3 = 1 then spt (n / 3) else .non
def chgN (CC : Addr) (n : Int) : P := .ins CC (chgF (n % (1 + n % 5)) (1 + n % 1000) (.tup (heardN n)) (capN n) (.tup (pubsN n)) (.tup (partsN n)))
theorem heardN_len (n : Int) : (heardN n).length = (1 + n % 5).toNat := by unfold heardN; rw [List.length_map, List.length_range]
theorem heardN_ok {n : Int} : ∀ x ∈ heardN n, ∃ i, x = .int i ∧ 0 ≤ i ∧ i < 500 := fun x hx => by
  obtain ⟨k, _, rfl⟩ := List.mem_map.mp hx
  exact ⟨_, rfl, by omega, by omega⟩
theorem cut_mem {α : Type} {xs : List α} {lo hi : Option Int} {x : α} (h : x ∈ cutP xs lo hi) : x ∈ xs := List.mem_of_mem_drop (List.mem_of_mem_take h)
theorem pubL_ok {n : Int} (n0 : 0 ≤ n) : ∀ x ∈ pubL n, okPb x ∧ Frz 4 x := by
  refine allC ⟨.inl ⟨_, _, rfl, ⟨by omega, n60 (by omega)⟩, ⟨_, rfl, by rw [rtsN_len]; omega⟩⟩, .tup (by show 3 < 1000000; omega) (allC .str (allC .int (allC (rts_frz _ (by rw [rtsN_len]; omega)) allN)))⟩ ?_
  refine allC ⟨.inr (.inl ⟨_, rfl, .inl rfl⟩), .tup (by show 2 < 1000000; omega) (allC .str (allC .non allN))⟩ ?_
  refine allC ⟨.inr (.inl ⟨_, rfl, okO_ns (spt_ok n0)⟩), .tup (by show 2 < 1000000; omega) (allC .str (allC (spt_frz _) allN))⟩ ?_
  exact allC ⟨.inr (.inr rfl), .tup (by show 1 < 1000000; omega) (allC .str allN)⟩ allN
theorem partsN_ok {n : Int} (n0 : 0 ≤ n) (n1 : n < 2 ^ 40) : ∀ x ∈ partsN n, okO okPr x ∧ PartF x ∧ Frz 5 x := by
  have a1 := actN_ok (k := n) n0 n1
  have a2 := actN_ok (k := n + 1) (n := n / 3) (by omega) (by omega)
  have a3 := actN_ok (k := n + 5) n0 n1
  have ne : ∀ ys : List P, P.tup ys ≠ .non := fun ys e => by cases e
  have mk : ∀ ys : List P, ys.length ≤ 2 → (∀ y ∈ ys, (okActF y ∧ (wact y).length ≤ 3000) ∧ Frz 4 y) → okO okPr (.tup ys) ∧ PartF (.tup ys) ∧ Frz 5 (.tup ys) := fun ys hl hy => by
    refine ⟨.inr ⟨⟨ys, rfl, fun x hx => ⟨(hy x hx).1.1.1, (hy x hx).1.2⟩, by omega⟩, ne _⟩, fun zs e y hz => ?_, .tup (by omega) fun x hx => (hy x hx).2⟩
    cases e
    exact (hy y hz).1.1
  refine allC ⟨.inl rfl, fun ys e => (by cases e), .non⟩ ?_
  refine allC (mk [] (by show 0 ≤ 2; omega) allN) ?_
  refine allC (mk _ (by show 1 ≤ 2; omega) (allC ⟨a1, actN_frz _ _⟩ allN)) ?_
  exact allC (mk _ (by show 2 ≤ 2; omega) (allC ⟨a2, actN_frz _ _⟩ (allC ⟨a3, actN_frz _ _⟩ allN))) allN
theorem capN_ok {n : Int} (n0 : 0 ≤ n) : okO okNs (capN n) := by
  unfold capN
  split
  · exact okO_ns (spt_ok (by omega))
  · exact .inl rfl
theorem chgN_ok (CC : Addr) {n : Int} (n0 : 0 ≤ n) (n1 : n < 2 ^ 40) : okChgF CC (chgN CC n) := by
  have hm := Int.emod_nonneg n (show 1 + n % 5 ≠ 0 by omega)
  have hm2 := Int.emod_lt_of_pos n (show 0 < 1 + n % 5 by omega)
  refine ⟨_, _, _, _, _, _, rfl, ⟨⟨hm, n60 (by omega)⟩, ⟨by omega, n60 (by omega)⟩, fun x hx => ?_, by rw [heardN_len]; omega, capN_ok n0, fun x hx => (pubL_ok n0 x (cut_mem hx)).1, ?_, fun x hx => (partsN_ok n0 n1 x hx).1, by show 4 ≤ 4; omega⟩, fun x hx => (partsN_ok n0 n1 x hx).2.1⟩
  · obtain ⟨i, rfl, h1, h2⟩ := heardN_ok x hx
    exact ⟨h1, n60 (by omega)⟩
  · have := cut_len (pubL n) none (some (n / 5 % 5))
    have e : (pubL n).length = 4 := rfl
    unfold pubsN
    omega
section
variable {Pg : Program} {w : World} {K : PySem.W.Frag} {Θ : Tbs} {mg : Str → Option Value} {base : Heap} {C CK CC : Addr}
abbrev st_lch : Stmt := (topS 58)
theorem sc_lch : FnScope ["number", "heard", "publics", "parts", "capability", "k"] ["number"] (defScope st_lch) := ⟨rfl, rfl, rfl, by decide +kernel, rfl, by decide +kernel, by decide +kernel⟩
def W_lch (CC : Addr) : Spc := fun ds h R => ∃ n : Int, ds = [dI n] ∧ 0 ≤ n ∧ n < 2 ^ 30 ∧ R (.p (chgN CC n)) h
theorem ok_lch (A : DefAt K mg "_law_change" st_lch ["number"]) (m_range : mg "range" = none) (m_len : mg "len" = none) (c_Change : HasMk Pg w K mg base CX0 10 "Change" CC ["self", "author", "number", "heard", "capability", "publics", "parts"] (spD K Θ (W_cinit CC))) (mg_Change : mg "Change" = some (.ref CC)) (h__law_spot : HasF Pg w K mg base CX0 1 "_law_spot" ["number"] (spD K Θ W_lspt)) (h__law_rights : HasF Pg w K mg base CX0 1 "_law_rights" ["number"] (spD K Θ W_lrts)) (h__law_act : HasF Pg w K mg base CX0 3 "_law_act" ["kind", "number"] (spD K Θ W_lac)) :
    HasF Pg w K mg base CX0 12 "_law_change" ["number"] (spD K Θ (W_lch CC)) := by
  have sc := sc_lch
  refine A.okD sc (W_lch CC) (fun ds h R ⟨_, e, _⟩ => by rw [e]; rfl) fun f cdv A outer s H E hr => ?_
  refine ⟨_, (pss_cons (ps_setLc (i := 1) (own := [("k", 5)]) rfl sc.nd rfl rfl (sw_true rfl rfl rfl (by decide +kernel)) (pi_range1 rfl m_range (pa_cons (pe_op (op_addWK (K := K) (by rfl)) pe_int (pe_op op_mod (pv 0) pe_int)) pa_nil)) (blkOk_by (N := ["number", "heard", "publics", "parts", "capability", "k"]) (sc := defScope (topS 58)) (by decide +kernel)) (fun _ _ _ _ _ => (pg_name (i := 5) sc.nd rfl (.inl rfl))) (fun _ _ _ _ _ => pts_nil) (fun _ _ _ _ _ => (pe_op op_mod (pe_op op_fdivW (pv 0) (pe_op (op_addWK (K := K) (by rfl)) (pv 5) pe_int)) pe_int)))
  (pss_cons (ps_set (i := 2) sc.nd rfl (.inl rfl) (pe_lst (pa_cons (pe_tup (pa_cons pe_str (pa_cons (pe_op op_mod (pv 0) pe_int) (pa_cons (h__law_rights.call (hr.mono (by first | decide | omega)) rfl pass0 (pa_cons (pv 0) pa_nil)) pa_nil)))) (pa_cons (pe_tup (pa_cons pe_str (pa_cons pe_non pa_nil))) (pa_cons (pe_tup (pa_cons pe_str (pa_cons (h__law_spot.call (hr.mono (by first | decide | omega)) rfl pass0 (pa_cons (pv 0) pa_nil)) pa_nil))) (pa_cons (pe_tup (pa_cons pe_str pa_nil)) pa_nil))))))
  (pss_cons (ps_set (i := 3) sc.nd rfl (.inl rfl) (pe_lst (pa_cons pe_non (pa_cons (pe_tup pa_nil) (pa_cons (pe_tup (pa_cons (h__law_act.call (hr.mono (by first | decide | omega)) rfl pass0 (pa_cons (pv 0) (pa_cons (pv 0) pa_nil))) pa_nil)) (pa_cons (pe_tup (pa_cons (h__law_act.call (hr.mono (by first | decide | omega)) rfl pass0 (pa_cons (pe_op (op_addWK (K := K) (by rfl)) (pv 0) pe_int) (pa_cons (pe_op op_fdivW (pv 0) pe_int) pa_nil))) (pa_cons (h__law_act.call (hr.mono (by first | decide | omega)) rfl pass0 (pa_cons (pe_op (op_addWK (K := K) (by rfl)) (pv 0) pe_int) (pa_cons (pv 0) pa_nil))) pa_nil))) pa_nil))))))
  (pss_cons (ps_set (i := 4) sc.nd rfl (.inl rfl) pe_non)
  (pss_cons (ps_if (pt_cmpR (op_eqUK (K := K) (by rfl) hr.units) (pe_op op_mod (pv 0) pe_int) pe_int (nomark _)) (pss_one (ps_set (i := 4) sc.nd rfl (.inl rfl) (h__law_spot.call (hr.mono (by first | decide | omega)) rfl pass0 (pa_cons (pe_op op_fdivW (pv 0) pe_int) pa_nil)))) pss_nil)
  (pss_one (ps_ret (c_Change.make (hr.mono (by first | decide | omega)) rfl pass0 (pa_cons (pe_op op_mod (pv 0) (pe_callB (call_lenK (K := K) (by rfl)) (by rfl) m_len (by decide +kernel) (pa_cons (pv 1) pa_nil))) (pa_cons (pe_op (op_addWK (K := K) (by rfl)) pe_int (pe_op op_mod (pv 0) pe_int)) (pa_cons (pv 1) (pa_cons (pv 4) (pa_cons (pe_slice (sl_listK (K := K) (by rfl)) (pv 2) po_none (po_some (pe_op op_mod (pe_op op_fdivW (pv 0) pe_int) pe_int))) (pa_cons (pv 3) pa_nil)))))))))))))), ?_⟩
  try dsimp only [cxOf]
  rintro ds h R ⟨n, rfl, n0, n1, q⟩
  have sz := sizeLine_eq
  refine vs_seq ?_
  refine vs_asg ?_
  refine ve_lcL tg_name (List.range (1 + n % 5).toNat) (fun (k : Nat) => dI k) (fun _ => true) (fun (k : Nat) => .int (n / ((k : Int) + 1) % 500)) ?_
  refine vi_range1 ?_
  k_places
  refine ⟨1 + n % 5, rfl, by omega, by omega, ?_, by rw [List.length_range]; omega, fun _ => trivial, fun j hj acc => ?_, ?_⟩
  · unfold rng
    exact List.map_congr_left fun k _ => by rw [Int.zero_add]
  · have hj := List.mem_range.mp hj
    refine vg_name ⟨rfl, vt_yes ⟨rfl, rfl, fun _ => ?_⟩⟩
    k_places
    refine v2_divW ⟨by omega, Nat.lt_trans (log2_small (n := ((j : Int) + 1).natAbs) (by omega)) (by decide)⟩ ?_
    k_places
    exact ⟨rfl, rfl⟩
  rw [filter_tt]
  have eh : (List.range (1 + n % 5).toNat).map (fun (k : Nat) => P.int (n / ((k : Int) + 1) % 500)) = heardN n := rfl
  rw [eh]
  refine vg_name ?_
  refine vs_seq ?_
  refine vs_asg ?_
  refine ve_lst ?_
  k_places
  refine ⟨n, rfl, n0, by omega, ?_⟩
  k_places
  refine ⟨n, rfl, n0, by omega, ?_⟩
  k_places
  refine ve_lst ?_
  k_places
  refine ⟨n, n, rfl, n0, by omega, n0, by omega, ?_⟩
  k_places
  refine ⟨n + 1, n / 3, rfl, by omega, by omega, by omega, by omega, ?_⟩
  k_places
  refine ⟨n + 5, n, rfl, by omega, by omega, n0, by omega, ?_⟩
  k_offL
  refine vs_seq ?_
  k_offL
  refine vs_seq ?_
  refine vs_mid (fun env' h' => (∃ o6, env' = [some (dI n), some (dL (heardN n)), some (dL (pubL n)), some (dL (partsN n)), some (.p (capN n)), o6]) ∧ h' = h) ?_ ?_
  · k_places
    refine ite_dec (fun c => ?_) (fun c => ?_)
    · k_places
      refine ⟨n / 3, rfl, by omega, by omega, ?_⟩
      k_places
      refine ⟨⟨none, ?_⟩, rfl⟩
      unfold capN
      rw [if_pos c]
      rfl
    · k_places
      refine ⟨⟨none, ?_⟩, rfl⟩
      unfold capN
      rw [if_neg c]
      rfl
  rintro env' h3 ⟨⟨o6, rfl⟩, rfl⟩
  show VS _ _ _ _ _ _
  k_places
  refine ve_makeF ?_
  k_places
  have hm := heardN_len n
  refine v2_mod (by rw [hm]; omega) ?_
  k_places
  refine ve_slL ?_
  k_places
  refine vo_none ?_
  refine vo_some ?_
  k_places
  refine ⟨n / 5 % 5, rfl, pubL n, rfl, ?_⟩
  k_places
  have f1 : ∀ x ∈ heardN n, Frz 5 x := fun x hx => by
    obtain ⟨i, rfl, _⟩ := heardN_ok x hx
    exact .int
  have f2 : ∀ x ∈ pubsN n, Frz 4 x := fun x hx => (pubL_ok n0 x (cut_mem hx)).2
  have f3 : ∀ x ∈ partsN n, Frz 5 x := fun x hx => (partsN_ok n0 (by omega) x hx).2.2
  have pl : (pubsN n).length ≤ 4 := cut_len (pubL n) none (some (n / 5 % 5))
  have e1 : ((heardN n).length : Int) = 1 + n % 5 := by rw [hm]; omega
  refine ⟨h3.length, n % ((heardN n).length : Int), 1 + n % 1000, .lst (heardN n), capN n, .lst (pubsN n), .lst (partsN n), rfl, get_last, deep_up 1 (deep_of (by rw [hm]; omega) f1), deep_up 2 (deep_of (by omega) f2), deep_up 1 (deep_of (by show 4 < _; omega) f3), rfl, chgF (n % (1 + n % 5)) (1 + n % 1000) (.tup (heardN n)) (capN n) (.tup (pubsN n)) (.tup (partsN n)), ?_, q⟩
  rw [List.set_append_right _ _ (Nat.le_refl _), Nat.sub_self, frz_of f1, frz_of f2, frz_of f3, e1]
  rfl
end
end Law

namespace Law
open PySem PySem.Spec PyProof.Rows L2 Kb
-- the steps that are tried: k_clsL a side condition; k_subL one step; k_places steps as long as one fits
local macro_rules | `(tactic| k_subL) => `(tactic| first | (with_reducible refine ve_cls ?_))
/-! what the law draws: kept capabilities, what is kept of a space -/
def parN (n : Int) : P := if n % 2 = 0 then spt (n + 9) else .non
def entN (n : Int) : P := .tup [spt n, parN n, .int (n % 6), rtsP (rtsN (n / 3))]
theorem parN_ok {n : Int} (n0 : 0 ≤ n) : okO okNs (parN n) := by
  unfold parN
  split
  · exact okO_ns (spt_ok (by omega))
  · exact .inl rfl
theorem rtsN_ok (n : Int) : okRt (rtsP (rtsN n)) := ⟨_, rfl, by rw [rtsN_len]; omega⟩
theorem entN_ok {n : Int} (n0 : 0 ≤ n) : okCe (entN n) := ⟨_, _, _, _, rfl, spt_ok n0, parN_ok n0, ⟨by omega, n60 (by omega)⟩, rtsN_ok _⟩
section
variable {Pg : Program} {w : World} {K : PySem.W.Frag} {Θ : Tbs} {mg : Str → Option Value} {base : Heap} {C CK CC : Addr}
abbrev st_len : Stmt := (topS 59)
theorem sc_len : FnScope ["number", "parent", "entry", "data"] ["number"] (defScope st_len) := ⟨rfl, rfl, rfl, by decide +kernel, rfl, by decide +kernel, by decide +kernel⟩
def W_len : Spc := fun ds h R => ∃ n : Int, ds = [dI n] ∧ 0 ≤ n ∧ n < 2 ^ 30 ∧ R (.p (.tup [entN n, .lst (intsP (wcapE (entN n)))])) h
theorem ok_len (A : DefAt K mg "_law_entry" st_len ["number"]) (h__law_spot : HasF Pg w K mg base CX0 1 "_law_spot" ["number"] (spD K Θ W_lspt)) (h__law_rights : HasF Pg w K mg base CX0 1 "_law_rights" ["number"] (spD K Θ W_lrts)) (h__law_numbers : HasF Pg w K mg base CX0 2 "_law_numbers" ["numbers"] (spD K Θ W_lnums)) (h__law_optional : HasF Pg w K mg base CX0 3 "_law_optional" ["numbers"] (spD K Θ (W_wr (wopt wNs) (okO okNs)))) (h__law_rights_bytes : HasF Pg w K mg base CX0 1 "_law_rights_bytes" ["rights"] (spD K Θ (W_wr wrts okRt))) :
    HasF Pg w K mg base CX0 4 "_law_entry" ["number"] (spD K Θ W_len) := by
  have sc := sc_len
  refine A.okD sc W_len (fun ds h R ⟨_, e, _⟩ => by rw [e]; rfl) fun f cdv A outer s H E hr => ?_
  refine ⟨_, (pss_cons (ps_set (i := 1) sc.nd rfl (.inl rfl) pe_non)
  (pss_cons (ps_if (pt_cmpR (op_eqUK (K := K) (by rfl) hr.units) (pe_op op_mod (pv 0) pe_int) pe_int (nomark _)) (pss_one (ps_set (i := 1) sc.nd rfl (.inl rfl) (h__law_spot.call (hr.mono (by first | decide | omega)) rfl pass0 (pa_cons (pe_op (op_addWK (K := K) (by rfl)) (pv 0) pe_int) pa_nil)))) pss_nil)
  (pss_cons (ps_set (i := 2) sc.nd rfl (.inl rfl) (pe_tup (pa_cons (h__law_spot.call (hr.mono (by first | decide | omega)) rfl pass0 (pa_cons (pv 0) pa_nil)) (pa_cons (pv 1) (pa_cons (pe_op op_mod (pv 0) pe_int) (pa_cons (h__law_rights.call (hr.mono (by first | decide | omega)) rfl pass0 (pa_cons (pe_op op_fdivW (pv 0) pe_int) pa_nil)) pa_nil))))))
  (pss_cons (ps_set (i := 3) sc.nd rfl (.inl rfl) (pe_op (op_addWK (K := K) (by rfl)) (pe_op (op_addWK (K := K) (by rfl)) (pe_op (op_addWK (K := K) (by rfl)) (h__law_numbers.call (hr.mono (by first | decide | omega)) rfl pass0 (pa_cons (pe_ix (ix_seqK (K := K) (by rfl)) (pv 2) pe_int (fun _ _ => rfl)) pa_nil)) (h__law_optional.call (hr.mono (by first | decide | omega)) rfl pass0 (pa_cons (pv 1) pa_nil))) (pe_lst (pa_cons (pe_op op_mod (pv 0) pe_int) pa_nil))) (h__law_rights_bytes.call (hr.mono (by first | decide | omega)) rfl pass0 (pa_cons (pe_ix (ix_seqK (K := K) (by rfl)) (pv 2) pe_int (fun _ _ => rfl)) pa_nil))))
  (pss_one (ps_ret (pe_tup (pa_cons (pv 2) (pa_cons (pv 3) pa_nil))))))))), ?_⟩
  try dsimp only [cxOf]
  rintro ds h R ⟨n, rfl, n0, n1, q⟩
  have sz := sizeLine_eq
  k_offL
  refine vs_seq ?_
  k_offL
  refine vs_seq ?_
  refine vs_mid (fun env' h' => env' = [some (dI n), some (.p (parN n)), none, none] ∧ h' = h) ?_ ?_
  · k_places
    refine ite_dec (fun c => ?_) (fun c => ?_)
    · k_places
      refine ⟨n + 9, rfl, by omega, by omega, ?_⟩
      k_places
      refine ⟨?_, rfl⟩
      unfold parN
      rw [if_pos c]
      rfl
    · k_places
      refine ⟨?_, rfl⟩
      unfold parN
      rw [if_neg c]
      rfl
  rintro env' h3 ⟨rfl, rfl⟩
  show VS _ _ _ _ _ _
  refine vs_seq ?_
  k_places
  refine ⟨n, rfl, n0, by omega, ?_⟩
  k_places
  refine ⟨n / 3, rfl, by omega, by omega, ?_⟩
  k_offL
  have s1 : okNs (spt n) := spt_ok n0
  have ls := okNs_len s1
  have lp := wopt_len (ws := wNs) (n := 240) (parN_ok n0) fun u hu => okNs_len hu
  have lr := okRt_len (rtsN_ok (n / 3))
  obtain ⟨xs, ex, hx, xl⟩ := s1
  k_places
  refine v2_ixT (xs := [spt n, parN n, .int (n % 6), rtsP (rtsN (n / 3))]) (at_nat 0 rfl rfl) ?_
  k_places
  refine ⟨spt n, xs, rfl, by rw [ex]; rfl, hx, by omega, ?_⟩
  k_places
  refine ⟨parN n, rfl, parN_ok n0, ?_⟩
  have exs : xs.flatMap wN = wNs (spt n) := by rw [ex]; rfl
  rw [exs]
  refine v2_addWM (i := intsP (wNs (spt n))) (j := intsP (wopt wNs (parN n))) rfl rfl (by rw [intsP_len, intsP_len]; omega) ?_
  refine ve_lst ?_
  k_places
  refine v2_addWM (i := intsP (wNs (spt n)) ++ intsP (wopt wNs (parN n))) (j := [.int (n % 6)]) rfl rfl (by rw [List.length_append, intsP_len, intsP_len]; show _ + _ + 1 ≤ _; omega) ?_
  k_places
  refine v2_ixT (xs := [spt n, parN n, .int (n % 6), rtsP (rtsN (n / 3))]) (at_nat 3 rfl rfl) ?_
  k_places
  refine ⟨_, rfl, rtsN_ok (n / 3), ?_⟩
  refine v2_addWM (i := intsP (wNs (spt n)) ++ intsP (wopt wNs (parN n)) ++ [P.int (n % 6)]) (j := intsP (wrts (rtsP (rtsN (n / 3))))) rfl rfl (by rw [List.length_append, List.length_append, intsP_len, intsP_len, intsP_len]; show _ + _ + 1 + _ ≤ _; omega) ?_
  have e6 : wN (.int (n % 6)) = [n % 6] := by
    show wnum (n % 6).toNat = _
    rw [wnum_small (by omega), Int.toNat_of_nonneg (by omega)]
  have e9 : intsP (wNs (spt n)) ++ intsP (wopt wNs (parN n)) ++ [P.int (n % 6)] ++ intsP (wrts (rtsP (rtsN (n / 3)))) = intsP (wcapE (entN n)) := by
    show _ = intsP (wNs (spt n) ++ wopt wNs (parN n) ++ wN (.int (n % 6)) ++ wrts (rtsP (rtsN (n / 3))))
    rw [e6]
    simp only [intsP, List.map_append, List.map_cons, List.map_nil]
  rw [e9]
  k_places
  exact q
end
end Law

namespace Law
open PySem PySem.Spec PyProof.Rows L2 Kb
-- the steps that are tried: k_clsL a side condition; k_subL one step; k_places steps as long as one fits
local macro_rules | `(tactic| k_subL) => `(tactic| first | (with_reducible refine ve_cls ?_) | (with_reducible refine ve_lst ?_))
def marksL (n : Int) : List P := [.tup [.tup [.int 1, .int 2, .int 3, .int 4], .str "q"], .tup [.tup [.int 0, .int 300, .int 1, .int (n % 200)], .str "\n"]]
def marksN (n : Int) : List P := cutP (marksL n) none (some (n % 3))
def kactN (n : Int) : P := .tup [spt n, actN n (n + 4)]
def ksumN (n : Int) : P := .tup [.tup [spt n, spt (n + 1)], .int (-n)]
def ktxtN (n : Int) : P := .tup [.tup [spt (n + 1), spt n], .lst (marksN n)]
def keptN (CK : Addr) (n : Int) : P := .ins CK (keptF [kactN n] [ksumN n] [ktxtN n])
theorem marksL_ok {n : Int} (n0 : 0 ≤ n) : ∀ x ∈ marksL n, okKc x ∧ Frz 3 x := by
  refine allC ⟨⟨_, 113, by rw [show (Str.ofString "q") = ⟨#[113]⟩ by decide +kernel], tup4_ok (by omega) (by omega) (by omega) (by omega), by decide⟩, ?_⟩ (allC ⟨⟨_, 10, by rw [show (Str.ofString "\n") = ⟨#[10]⟩ by decide +kernel], tup4_ok (by omega) (by omega) (by omega) (by omega), by decide⟩, ?_⟩ allN)
  · exact .tup (by show 2 < 1000000; omega) (allC (.tup (by show 4 < 1000000; omega) (allC .int (allC .int (allC .int (allC .int allN))))) (allC .str allN))
  · exact .tup (by show 2 < 1000000; omega) (allC (.tup (by show 4 < 1000000; omega) (allC .int (allC .int (allC .int (allC .int allN))))) (allC .str allN))
theorem marksN_len (n : Int) : (marksN n).length ≤ 2 := cut_len (marksL n) none (some (n % 3))
theorem marksN_ok {n : Int} (n0 : 0 ≤ n) : ∀ x ∈ marksN n, okKc x ∧ Frz 3 x := fun x hx => marksL_ok n0 x (cut_mem hx)
theorem keptN_ok (CK : Addr) {n : Int} (n0 : 0 ≤ n) (n1 : n < 2 ^ 30) : okKp CK (keptN CK n) := by
  have a1 := actN_ok (k := n) (n := n + 4) (by omega) (by omega)
  have s1 := spt_ok n0
  have s2 := spt_ok (n := n + 1) (by omega)
  have l1 := okNs_len s1
  have l2 := okNs_len s2
  have hi : okI (-n) := okI_of (by omega)
  have li := wint_len hi
  have ok3 : okKt (ktxtN n) := ⟨_, _, _, rfl, s2, s1, fun x hx => (marksN_ok n0 x hx).1, by have := marksN_len n; omega⟩
  refine ⟨_, _, _, rfl, ⟨all1 ⟨⟨_, _, rfl, s1, a1.1.1⟩, ?_⟩, by show 1 ≤ 20; omega⟩, ⟨all1 ⟨⟨_, _, _, rfl, s1, s2, hi⟩, ?_⟩, by show 1 ≤ 20; omega⟩, ⟨all1 ⟨ok3, okKt_len ok3⟩, by show 1 ≤ 20; omega⟩⟩
  · show (wNs (spt n) ++ wact _).length ≤ _
    rw [List.length_append]
    have := a1.2
    omega
  · show (wNs (spt n) ++ wNs (spt (n + 1)) ++ wint (-n)).length ≤ _
    rw [List.length_append, List.length_append]
    omega
theorem Frz.up {n : Nat} {x : P} (k : Nat) (h : Frz n x) : Frz (n + k) x := ⟨h.f, deep_up k h.d, ⟨h.l.lay, Nat.le_trans h.l.dep (by omega), h.l.pl⟩⟩
theorem kactN_frz (n : Int) : Frz 5 (kactN n) := .tup (by show 2 < 1000000; omega) (allC (spt_frz _) (allC (actN_frz _ _) allN))
theorem ksumN_frz (n : Int) : Frz 5 (ksumN n) := .tup (by show 2 < 1000000; omega) (allC (.tup (by show 2 < 1000000; omega) (allC (spt_frz _) (allC (spt_frz _) allN))) (allC .int allN))
theorem kcel_frz (n : Int) : Frz 4 (.tup [spt (n + 1), spt n]) := .tup (by show 2 < 1000000; omega) (allC (spt_frz _) (allC (spt_frz _) allN))
theorem keptN_kept {n : Int} (n0 : 0 ≤ n) : KeptOk [kactN n] [ksumN n] [(.tup [spt (n + 1), spt n], marksN n)] where
  la := by show 1 < 1000000; omega
  ls := by show 1 < 1000000; omega
  lt := by show 1 < 1000000; omega
  a := all1 (kactN_frz n).d
  s := all1 (ksumN_frz n).d
  t := fun x hx => by
    rcases List.mem_cons.mp hx with rfl | hx
    · exact ⟨(kcel_frz n).d, by have := marksN_len n; show (marksN n).length < _; omega, fun y hy => (marksN_ok n0 y hy).2.d⟩
    · cases hx
  fa := all1 (by rw [(kactN_frz n).f]; exact ((kactN_frz n).up 1).l)
  fs := all1 (by rw [(ksumN_frz n).f]; exact ((ksumN_frz n).up 1).l)
  ft := fun x hx => by
    rcases List.mem_cons.mp hx with rfl | hx
    · exact ⟨by rw [(kcel_frz n).f]; exact ((kcel_frz n).up 1).l, fun y hy => by rw [(marksN_ok n0 y hy).2.f]; exact ((marksN_ok n0 y hy).2.up 1).l⟩
    · cases hx
section
variable {Pg : Program} {w : World} {K : PySem.W.Frag} {Θ : Tbs} {mg : Str → Option Value} {base : Heap} {C CK CC : Addr}
abbrev st_lkp : Stmt := (topS 60)
theorem sc_lkp : FnScope ["number", "spot", "other", "act", "marks", "kept", "data", "mark", "char"] ["number"] (defScope st_lkp) := ⟨rfl, rfl, rfl, by decide +kernel, rfl, by decide +kernel, by decide +kernel⟩
def W_lkp (CK : Addr) : Spc := fun ds h R => ∃ n : Int, ds = [dI n] ∧ 0 ≤ n ∧ n < 2 ^ 30 ∧ R (.p (.tup [keptN CK n, .lst (intsP (wkpt (keptN CK n)))])) h
theorem ok_lkp (A : DefAt K mg "_law_kept" st_lkp ["number"]) (m_len : mg "len" = none) (m_ord : mg "ord" = none) (c_Kept : HasMk Pg w K mg base CX0 10 "Kept" CK ["self", "acts", "sums", "texts"] (spD K Θ (W_kinit CK))) (mg_Kept : mg "Kept" = some (.ref CK)) (h__law_spot : HasF Pg w K mg base CX0 1 "_law_spot" ["number"] (spD K Θ W_lspt)) (h__law_act : HasF Pg w K mg base CX0 3 "_law_act" ["kind", "number"] (spD K Θ W_lac))
    (h__law_number : HasF Pg w K mg base CX0 1 "_law_number" ["number"] (spD K Θ W_lnum)) (h__law_numbers : HasF Pg w K mg base CX0 2 "_law_numbers" ["numbers"] (spD K Θ W_lnums)) (h__law_signed : HasF Pg w K mg base CX0 2 "_law_signed" ["number"] (spD K Θ W_wint)) (h__law_act_bytes : HasF Pg w K mg base CX0 5 "_law_act_bytes" ["act"] (spD K Θ (W_wr wact okActF))) :
    HasF Pg w K mg base CX0 12 "_law_kept" ["number"] (spD K Θ (W_lkp CK)) := by
  have sc := sc_lkp
  refine A.okD sc (W_lkp CK) (fun ds h R ⟨_, e, _⟩ => by rw [e]; rfl) fun f cdv A outer s H E hr => ?_
  refine ⟨_, (pss_cons (ps_set (i := 1) sc.nd rfl (.inl rfl) (h__law_spot.call (hr.mono (by first | decide | omega)) rfl pass0 (pa_cons (pv 0) pa_nil)))
  (pss_cons (ps_set (i := 2) sc.nd rfl (.inl rfl) (h__law_spot.call (hr.mono (by first | decide | omega)) rfl pass0 (pa_cons (pe_op (op_addWK (K := K) (by rfl)) (pv 0) pe_int) pa_nil)))
  (pss_cons (ps_set (i := 3) sc.nd rfl (.inl rfl) (h__law_act.call (hr.mono (by first | decide | omega)) rfl pass0 (pa_cons (pv 0) (pa_cons (pe_op (op_addWK (K := K) (by rfl)) (pv 0) pe_int) pa_nil))))
  (pss_cons (ps_set (i := 4) sc.nd rfl (.inl rfl) (pe_slice (sl_listK (K := K) (by rfl)) (pe_lst (pa_cons (pe_tup (pa_cons (pe_tup (pa_cons pe_int (pa_cons pe_int (pa_cons pe_int (pa_cons pe_int pa_nil))))) (pa_cons pe_str pa_nil))) (pa_cons (pe_tup (pa_cons (pe_tup (pa_cons pe_int (pa_cons pe_int (pa_cons pe_int (pa_cons (pe_op op_mod (pv 0) pe_int) pa_nil))))) (pa_cons pe_str pa_nil))) pa_nil))) po_none (po_some (pe_op op_mod (pv 0) pe_int))))
  (pss_cons (ps_set (i := 5) sc.nd rfl (.inl rfl) (c_Kept.make (hr.mono (by first | decide | omega)) rfl pass0 (pa_cons (pe_lst (pa_cons (pe_tup (pa_cons (pv 1) (pa_cons (pv 3) pa_nil))) pa_nil)) (pa_cons (pe_lst (pa_cons (pe_tup (pa_cons (pe_tup (pa_cons (pv 1) (pa_cons (pv 2) pa_nil))) (pa_cons (pe_un un_neg (pv 0)) pa_nil))) pa_nil)) (pa_cons (pe_lst (pa_cons (pe_tup (pa_cons (pe_tup (pa_cons (pv 2) (pa_cons (pv 1) pa_nil))) (pa_cons (pv 4) pa_nil))) pa_nil)) pa_nil)))))
  (pss_cons (ps_set (i := 6) sc.nd rfl (.inl rfl) (pe_op (op_addWK (K := K) (by rfl)) (pe_op (op_addWK (K := K) (by rfl)) (pe_lst (pa_cons pe_int pa_nil)) (h__law_numbers.call (hr.mono (by first | decide | omega)) rfl pass0 (pa_cons (pv 1) pa_nil))) (h__law_act_bytes.call (hr.mono (by first | decide | omega)) rfl pass0 (pa_cons (pv 3) pa_nil))))
  (pss_cons (ps_set (i := 6) sc.nd rfl (.inl rfl) (pe_op (op_addWK (K := K) (by rfl)) (pe_op (op_addWK (K := K) (by rfl)) (pe_op (op_addWK (K := K) (by rfl)) (pe_op (op_addWK (K := K) (by rfl)) (pv 6) (pe_lst (pa_cons pe_int pa_nil))) (h__law_numbers.call (hr.mono (by first | decide | omega)) rfl pass0 (pa_cons (pv 1) pa_nil))) (h__law_numbers.call (hr.mono (by first | decide | omega)) rfl pass0 (pa_cons (pv 2) pa_nil))) (h__law_signed.call (hr.mono (by first | decide | omega)) rfl pass0 (pa_cons (pe_un un_neg (pv 0)) pa_nil))))
  (pss_cons (ps_set (i := 6) sc.nd rfl (.inl rfl) (pe_op (op_addWK (K := K) (by rfl)) (pe_op (op_addWK (K := K) (by rfl)) (pe_op (op_addWK (K := K) (by rfl)) (pe_op (op_addWK (K := K) (by rfl)) (pv 6) (pe_lst (pa_cons pe_int pa_nil))) (h__law_numbers.call (hr.mono (by first | decide | omega)) rfl pass0 (pa_cons (pv 2) pa_nil))) (h__law_numbers.call (hr.mono (by first | decide | omega)) rfl pass0 (pa_cons (pv 1) pa_nil))) (pe_lst (pa_cons (pe_callB (call_lenK (K := K) (by rfl)) (by rfl) m_len (by decide +kernel) (pa_cons (pv 4) pa_nil)) pa_nil))))
  (pss_cons (ps_for PassesOwn.never rfl (pi_seqK (K := K) (by rfl) (pv 4)) (pg_tupK (K := K) (n := 2) (by rfl) rfl (pgs_cons (pg_name (i := 7) sc.nd rfl (.inl rfl)) (pgs_cons (pg_name (i := 8) sc.nd rfl (.inl rfl)) pgs_nil)))
  (pss_one (ps_set (i := 6) sc.nd rfl (.inl rfl) (pe_op (op_addWK (K := K) (by rfl)) (pe_op (op_addWK (K := K) (by rfl)) (pv 6) (h__law_numbers.call (hr.mono (by first | decide | omega)) rfl pass0 (pa_cons (pv 7) pa_nil))) (h__law_number.call (hr.mono (by first | decide | omega)) rfl pass0 (pa_cons (pe_callB call_ord (by rfl) m_ord (by decide +kernel) (pa_cons (pv 8) pa_nil)) pa_nil))))))
  (pss_one (ps_ret (pe_tup (pa_cons (pv 5) (pa_cons (pv 6) pa_nil)))))))))))))), ?_⟩
  try dsimp only [cxOf]
  rintro ds h R ⟨n, rfl, n0, n1, q⟩
  have sz := sizeLine_eq
  have s1 : okNs (spt n) := spt_ok n0
  have s2 : okNs (spt (n + 1)) := spt_ok (by omega)
  have ls1 := okNs_len s1
  have ls2 := okNs_len s2
  obtain ⟨xs, ex, hx, xl⟩ := s1
  obtain ⟨ys, ey, hy, yl⟩ := s2
  have exs : xs.flatMap wN = wNs (spt n) := by rw [ex]; rfl
  have eys : ys.flatMap wN = wNs (spt (n + 1)) := by rw [ey]; rfl
  have a1 := actN_ok (k := n) (n := n + 4) (by omega) (by omega)
  have la := a1.2
  have hi : okI (-n) := okI_of (by omega)
  have li := wint_len hi
  have ml := marksN_len n
  have mo := marksN_ok n0
  k_places
  refine ⟨n, rfl, n0, by omega, ?_⟩
  k_places
  refine ⟨n + 1, rfl, by omega, by omega, ?_⟩
  k_places
  refine ⟨n, n + 4, rfl, n0, by omega, by omega, by omega, ?_⟩
  k_offL
  refine vs_seq ?_
  refine vs_asg ?_
  refine ve_slL ?_
  k_places
  refine vo_none ?_
  refine vo_some ?_
  k_places
  refine ⟨n % 3, rfl, marksL n, rfl, ?_⟩
  have emk : cutP (marksL n) none (some (n % 3)) = marksN n := rfl
  rw [emk]
  refine vg_name ?_
  refine vs_seq ?_
  refine vs_asg ?_
  refine ve_makeF ?_
  k_places
  refine ⟨h.length, [kactN n], [ksumN n], [(.tup [spt (n + 1), spt n], marksN n)], rfl, keptN_kept n0, get_last, rfl, keptF [kactN n] [ksumN n] [ktxtN n], ?_, ?_⟩
  · have e3 : [((P.tup [spt (n + 1), spt n], marksN n) : TxE)].map txtF = [ktxtN n] := by
      show [P.tup [frzP (.tup [spt (n + 1), spt n]), .lst ((marksN n).map frzP)]] = _
      rw [(kcel_frz n).f, frz_id fun y hy => (mo y hy).2]
      rfl
    rw [List.set_append_right _ _ (Nat.le_refl _), Nat.sub_self, e3, frz_id (all1 (kactN_frz n)), frz_id (all1 (ksumN_frz n))]
    rfl
  have ekp : P.ins CK (keptF [kactN n] [ksumN n] [ktxtN n]) = keptN CK n := rfl
  rw [ekp]
  refine vg_name ?_
  refine vs_seq ?_
  k_places
  refine ⟨spt n, xs, rfl, by rw [ex]; rfl, hx, by omega, ?_⟩
  rw [exs]
  refine v2_addWM (i := [P.int 1]) (j := intsP (wNs (spt n))) rfl rfl (by rw [intsP_len]; show 1 + _ ≤ _; omega) ?_
  k_places
  refine ⟨_, rfl, a1.1, ?_⟩
  refine v2_addWM (i := [P.int 1] ++ intsP (wNs (spt n))) (j := intsP (wact (actN n (n + 4)))) rfl rfl (by rw [List.length_append, intsP_len, intsP_len]; show 1 + _ + _ ≤ _; omega) ?_
  have e1 : [P.int 1] ++ intsP (wNs (spt n)) ++ intsP (wact (actN n (n + 4))) = intsP (wls wkact [kactN n]) := by
    show _ = intsP (wnum 1 ++ ((wNs (spt n) ++ wact (actN n (n + 4))) ++ []))
    rw [wnum_small (by omega)]
    simp only [intsP, List.map_append, List.map_cons, List.map_nil, List.append_nil, List.append_assoc]
    rfl
  rw [e1]
  generalize hb1 : wls wkact [kactN n] = b1
  have lb1 : b1.length ≤ 4000 := by
    rw [← hb1]
    show (wnum 1 ++ ((wNs (spt n) ++ wact (actN n (n + 4))) ++ [])).length ≤ _
    rw [wnum_small (by omega), List.append_nil, List.length_append, List.length_append]
    show 1 + _ ≤ _
    omega
  k_places
  refine v2_addWM (i := intsP b1) (j := [P.int 1]) rfl rfl (by rw [intsP_len]; show _ + 1 ≤ _; omega) ?_
  k_places
  refine ⟨spt n, xs, rfl, by rw [ex]; rfl, hx, by omega, ?_⟩
  rw [exs]
  refine v2_addWM (i := intsP b1 ++ [P.int 1]) (j := intsP (wNs (spt n))) rfl rfl (by rw [List.length_append, intsP_len, intsP_len]; show _ + 1 + _ ≤ _; omega) ?_
  k_places
  refine ⟨spt (n + 1), ys, rfl, by rw [ey]; rfl, hy, by omega, ?_⟩
  rw [eys]
  refine v2_addWM (i := intsP b1 ++ [P.int 1] ++ intsP (wNs (spt n))) (j := intsP (wNs (spt (n + 1)))) rfl rfl (by rw [List.length_append, List.length_append, intsP_len, intsP_len, intsP_len]; show _ + 1 + _ + _ ≤ _; omega) ?_
  k_places
  refine ⟨-n, rfl, hi, ?_⟩
  refine v2_addWM (i := intsP b1 ++ [P.int 1] ++ intsP (wNs (spt n)) ++ intsP (wNs (spt (n + 1)))) (j := intsP (wint (-n))) rfl rfl (by rw [List.length_append, List.length_append, List.length_append, intsP_len, intsP_len, intsP_len, intsP_len]; show _ + 1 + _ + _ + _ ≤ _; omega) ?_
  have e2 : intsP b1 ++ [P.int 1] ++ intsP (wNs (spt n)) ++ intsP (wNs (spt (n + 1))) ++ intsP (wint (-n)) = intsP (b1 ++ wls wksum [ksumN n]) := by
    show _ = intsP (b1 ++ (wnum 1 ++ ((wNs (spt n) ++ wNs (spt (n + 1)) ++ wint (-n)) ++ [])))
    rw [wnum_small (by omega)]
    simp only [intsP, List.map_append, List.map_cons, List.map_nil, List.append_nil, List.append_assoc]
    rfl
  rw [e2]
  generalize hb2 : b1 ++ wls wksum [ksumN n] = b2
  have lb2 : b2.length ≤ 5000 := by
    rw [← hb2, List.length_append]
    show _ + (wnum 1 ++ ((wNs (spt n) ++ wNs (spt (n + 1)) ++ wint (-n)) ++ [])).length ≤ _
    rw [wnum_small (by omega), List.append_nil, List.length_append, List.length_append, List.length_append]
    show _ + (1 + _) ≤ _
    omega
  k_places
  refine v2_addWM (i := intsP b2) (j := [P.int 1]) rfl rfl (by rw [intsP_len]; show _ + 1 ≤ _; omega) ?_
  k_places
  refine ⟨spt (n + 1), ys, rfl, by rw [ey]; rfl, hy, by omega, ?_⟩
  rw [eys]
  refine v2_addWM (i := intsP b2 ++ [P.int 1]) (j := intsP (wNs (spt (n + 1)))) rfl rfl (by rw [List.length_append, intsP_len, intsP_len]; show _ + 1 + _ ≤ _; omega) ?_
  k_places
  refine ⟨spt n, xs, rfl, by rw [ex]; rfl, hx, by omega, ?_⟩
  rw [exs]
  refine v2_addWM (i := intsP b2 ++ [P.int 1] ++ intsP (wNs (spt (n + 1)))) (j := intsP (wNs (spt n))) rfl rfl (by rw [List.length_append, List.length_append, intsP_len, intsP_len, intsP_len]; show _ + 1 + _ + _ ≤ _; omega) ?_
  k_places
  refine v2_addWM (i := intsP b2 ++ [P.int 1] ++ intsP (wNs (spt (n + 1))) ++ intsP (wNs (spt n))) (j := [P.int (marksN n).length]) rfl rfl (by rw [List.length_append, List.length_append, List.length_append, intsP_len, intsP_len, intsP_len]; show _ + 1 + _ + _ + 1 ≤ _; omega) ?_
  have e3 : intsP b2 ++ [P.int 1] ++ intsP (wNs (spt (n + 1))) ++ intsP (wNs (spt n)) ++ [P.int (marksN n).length] = intsP (b2 ++ [1] ++ wNs (spt (n + 1)) ++ wNs (spt n) ++ wnum (marksN n).length) := by
    rw [wnum_small (n := (marksN n).length) (by omega)]
    simp only [intsP, List.map_append, List.map_cons, List.map_nil]
  rw [e3]
  generalize hb3 : b2 ++ [1] ++ wNs (spt (n + 1)) ++ wNs (spt n) ++ wnum (marksN n).length = b3
  have lb3 : b3.length ≤ 6000 := by
    rw [← hb3, wnum_small (n := (marksN n).length) (by omega), List.length_append, List.length_append, List.length_append, List.length_append]
    show _ + 1 + _ + _ + 1 ≤ _
    omega
  have l8 := flat_le (w := wkchr) (m := 246) (xs := marksN n) fun x hx' => okKc_len (mo x hx').1
  refine vg_name ?_
  refine vs_seq ?_
  refine vs_for (vi_seqL ?_)
  k_places
  refine ⟨marksN n, rfl, ?_⟩
  refine ⟨fun i env' h' => ∃ o7 o8 : Option D, env' = [some (dI n), some (.p (spt n)), some (.p (spt (n + 1))), some (.p (actN n (n + 4))), some (dL (marksN n)), some (.p (keptN CK n)), some (dL (intsP (b3 ++ ((marksN n).take i).flatMap wkchr))), o7, o8] ∧ h' = h, ?_, ?_, ?_, ?_⟩
  · exact ⟨none, none, by rw [List.take_zero, List.flatMap_nil, List.append_nil]; rfl, rfl⟩
  · exact fun _ _ _ _ => trivial
  · rintro i d env' h8 hd ⟨o7, o8, rfl, rfl⟩
    rw [List.getElem?_map] at hd
    cases e : (marksN n)[i]? with
    | none => rw [e] at hd; cases hd
    | some y =>
      rw [e] at hd; cases hd
      have oy := (mo y (List.mem_of_getElem? e)).1
      have ef := flat_snoc (w := wkchr) e
      have lf := flat_take (w := wkchr) (marksN n) i
      have ly := okKc_len oy
      obtain ⟨m, c, rfl, hm, hc⟩ := oy
      have lm := okNs_len hm
      have lc := wnum_6 hc
      obtain ⟨zs, rfl, hz, zl⟩ := hm
      have lm : (zs.flatMap wN).length ≤ 240 := lm
      generalize hg : b3 ++ ((marksN n).take i).flatMap wkchr = c2
      have l2 : c2.length ≤ 7000 := by rw [← hg, List.length_append]; omega
      refine vg_tup rfl (vgs_cons (vg_name (vgs_cons (vg_name (vgs_nil ?_)))))
      k_places
      refine ⟨_, zs, rfl, rfl, hz, by omega, ?_⟩
      refine v2_addWM (i := intsP c2) (j := intsP (zs.flatMap wN)) rfl rfl (by rw [intsP_len, intsP_len]; omega) ?_
      k_places
      refine call_ordD ?_
      k_places
      refine ⟨c, rfl, by omega, ?_⟩
      refine v2_addWM (i := intsP c2 ++ intsP (zs.flatMap wN)) (j := intsP (wnum c)) rfl rfl (by rw [List.length_append, intsP_len, intsP_len, intsP_len]; omega) ?_
      k_places
      refine ⟨some (.p (.tup zs)), some (dS ⟨#[c]⟩), ?_, rfl⟩
      have e5 : intsP c2 ++ intsP (zs.flatMap wN) ++ intsP (wnum c) = intsP (b3 ++ ((marksN n).take (i + 1)).flatMap wkchr) := by
        rw [ef, ← List.append_assoc, hg]
        show _ = intsP (c2 ++ (zs.flatMap wN ++ wnum c))
        simp only [intsP, List.map_append, List.append_assoc]
      rw [e5]
      rfl
  · rintro env' h8 ⟨o7, o8, rfl, rfl⟩
    rw [List.length_map, List.take_length]
    k_places
    have e6 : intsP (b3 ++ (marksN n).flatMap wkchr) = intsP (wkpt (keptN CK n)) := by
      show _ = intsP (wls wkact [kactN n] ++ wls wksum [ksumN n] ++ (wnum 1 ++ ((wNs (spt (n + 1)) ++ wNs (spt n) ++ (wnum (marksN n).length ++ (marksN n).flatMap wkchr)) ++ [])))
      rw [hb1, hb2, ← hb3, wnum_small (n := 1) (by omega), List.append_nil]
      simp only [List.append_assoc]
      rfl
    rw [e6]
    exact q
end
end Law

namespace Law
open PySem PySem.Spec PyProof.Rows L2 Kb
/-! small stores -/
theorem pfx_of {h h' : Hs} (e : ∀ i, i < h.length → h'[i]? = h[i]?) (l : h.length ≤ h'.length) : Pfx h h' := by
  refine ⟨h'.drop h.length, List.ext_getElem? fun k => ?_⟩
  by_cases hk : k < h.length
  · rw [e k hk, List.getElem?_append_left hk]
  · rw [List.getElem?_append_right (by omega), List.getElem?_drop]
    congr 1
    omega
def wnumS (n : Nat) : List Int := if n < 128 then [(n : Int)] else wnum n
theorem wnumS_eq : wnum = wnumS := by
  funext n
  unfold wnumS
  split
  · exact wnum_small (by assumption)
  · rfl
def wNS : P → List Int
  | .int i => wnumS i.toNat
  | _ => []
theorem wN_S : wN = wNS := by
  funext p
  cases p <;> first | rfl | exact congrFun wnumS_eq _
def wNsS : P → List Int
  | .tup xs => xs.flatMap wNS
  | _ => []
theorem wNs_S : wNs = wNsS := by
  funext p
  cases p <;> first | rfl | exact congrArg (fun f => List.flatMap f _) wN_S
def ordH (k : Nat) (b : Int) : P := .tup [.int k, .int b]
def ordT : P := .tup [.non, .tup [], .tup [], .tup []]
def ordC (CC : Addr) (a n : Int) (hd : P) : P := .ins CC (chgF a n hd .non (.tup []) ordT)
def ordS (CC : Addr) (m : Nat) (b : Int) : List (List P) := [(List.range m).map fun (k : Nat) => ordC CC 0 ((k : Int) + 1) (ordH k b), [ordC CC 1 1 (ordH 0 0)]]
def ordN (m : Nat) : List Int := (List.range m).flatMap fun (k : Nat) => [0, (k : Int) + 1]
def kept4 (CK : Addr) : List P := List.replicate 4 (keptE CK)
theorem ord_ask {CC CK : Addr} {m : Nat} {b : Int} (h1 : 1 ≤ m) (h2 : m ≤ 3) : wask 1 2 [0, 0] (kept4 CK) (ordS CC m b) = [1, 1, 2, 0, 0, 2, (m : Int), 1, 1, 1, 1, 1, (((ordN m ++ [1, 1]).length : Nat) : Int) / 2] ++ (ordN m ++ [1, 1]) ++ [0, 0, 0] := by
  have hc : m = 1 ∨ m = 2 ∨ m = 3 := by omega
  unfold wask
  rcases hc with rfl | rfl | rfl
  · simp only [wls, wN_S, wNs_S, wnumS_eq]; kernel_rfl
  · simp only [wls, wN_S, wNs_S, wnumS_eq]; kernel_rfl
  · simp only [wls, wN_S, wNs_S, wnumS_eq]; kernel_rfl
end Law

namespace Law
open PySem PySem.Spec PyProof.Rows L2 Kb
-- the steps that are tried: k_clsL a side condition; k_subL one step; k_places steps as long as one fits
local macro_rules | `(tactic| k_subL) => `(tactic| first | (with_reducible refine ve_cls ?_) | (with_reducible refine ve_lst ?_))
theorem ordT_frz : Frz 5 ordT := .tup (by show 4 < 1000000; omega) (allC .non (allC (.tup (by show 0 < 1000000; omega) allN) (allC (.tup (by show 0 < 1000000; omega) allN) (allC (.tup (by show 0 < 1000000; omega) allN) allN))))
theorem ordH_frz (a b : Int) : Frz 5 (.tup [.int a, .int b]) := .tup (by show 2 < 1000000; omega) (allC .int (allC .int allN))
theorem nil_frz : Frz 5 (.tup []) := .tup (by show 0 < 1000000; omega) allN
theorem part_nil : okPr (.tup []) := ⟨[], rfl, allN, by show 0 ≤ 100; omega⟩
theorem tupNe {ys : List P} : P.tup ys ≠ .non := fun e => by cases e
theorem ordC_ok {CC : Addr} {a n x y : Int} (ha : 0 ≤ a ∧ a < 1000) (hn : 0 ≤ n ∧ n < 1000) (hx : 0 ≤ x ∧ x < 1000) (hy : 0 ≤ y ∧ y < 1000) : okChg CC (ordC CC a n (.tup [.int x, .int y])) := by
  refine ⟨a, n, [.int x, .int y], .non, [], [.non, .tup [], .tup [], .tup []], rfl, ⟨ha.1, n60 (by omega)⟩, ⟨hn.1, n60 (by omega)⟩, allC ⟨hx.1, n60 (by omega)⟩ (allC ⟨hy.1, n60 (by omega)⟩ allN), by show 2 ≤ 20; omega, .inl rfl, allN, by show 0 ≤ 20; omega, ?_, by show 4 ≤ 4; omega⟩
  exact allC (.inl rfl) (allC (.inr ⟨part_nil, tupNe⟩) (allC (.inr ⟨part_nil, tupNe⟩) (allC (.inr ⟨part_nil, tupNe⟩) allN)))
theorem ordS_all {CC : Addr} {m : Nat} {b : Int} {Q : List P → Prop} (h1 : Q ((List.range m).map fun (k : Nat) => ordC CC 0 ((k : Int) + 1) (ordH k b))) (h2 : Q [ordC CC 1 1 (ordH 0 0)]) : ∀ cs ∈ ordS CC m b, Q cs := fun cs hc => by
  rcases List.mem_cons.mp hc with rfl | hc
  · exact h1
  rcases List.mem_cons.mp hc with rfl | hc
  · exact h2
  cases hc
theorem ordS_st {CC : Addr} {m : Nat} {b : Int} (h2 : m ≤ 3) : StOk 2 [0, 0] (ordS CC m b) := by
  refine ⟨by omega, rfl, rfl, fun c hc => ?_, ordS_all (by rw [List.length_map, List.length_range]; omega) (by show 1 < 1000000; omega)⟩
  rcases List.mem_cons.mp hc with rfl | hc
  · decide
  rcases List.mem_cons.mp hc with rfl | hc
  · decide
  cases hc
theorem ordS_ask {CC CK : Addr} {m : Nat} {b : Int} (h1 : 1 ≤ m) (h2 : m ≤ 3) (hb : 0 ≤ b ∧ b < 1000) : AskB CC 1 2 [0, 0] (kept4 CK) (ordS CC m b) := by
  have z : okN (.int 0) := ⟨by omega, by decide +kernel⟩
  refine ⟨⟨by omega, by decide +kernel⟩, by omega, by omega, ordS_st h2, ?_, ?_, by show 4 ≤ 4; omega, ⟨by show 2 ≤ 1000; omega, ordS_all ⟨by rw [List.length_map, List.length_range]; omega, fun c hc => ?_⟩ ⟨by show 1 ≤ 1000; omega, fun c hc => ?_⟩⟩, ordS_all (by rw [List.length_map, List.length_range]; omega) (by show 1 ≤ 20; omega)⟩
  · intro x hx
    rcases List.mem_cons.mp hx with rfl | hx
    · exact z
    rcases List.mem_cons.mp hx with rfl | hx
    · exact z
    cases hx
  · have e : cntsOf 2 [0, 0] (ordS CC m b) = [(m : Int), 1] := by
      have hc : m = 1 ∨ m = 2 ∨ m = 3 := by omega
      rcases hc with rfl | rfl | rfl <;> kernel_rfl
    rw [e]
    intro x hx
    rcases List.mem_cons.mp hx with rfl | hx
    · exact ⟨by omega, n60 (by omega)⟩
    rcases List.mem_cons.mp hx with rfl | hx
    · exact ⟨by omega, by decide +kernel⟩
    cases hx
  · obtain ⟨k, hk, rfl⟩ := List.mem_map.mp hc
    have hk := List.mem_range.mp hk
    exact ⟨ordC_ok (by omega) (by omega) (by omega) hb, _, _, _, _, _, _, _, _, _, rfl⟩
  · rcases List.mem_cons.mp hc with rfl | hc
    · exact ⟨ordC_ok (by omega) (by omega) (by omega) (by omega), _, _, _, _, _, _, _, _, _, rfl⟩
    cases hc
section
variable {Pg : Program} {w : World} {K : PySem.W.Frag} {Θ : Tbs} {mg : Str → Option Value} {base : Heap} {C CK CC : Addr}
abbrev st_lor : Stmt := (topS 61)
theorem sc_lor : FnScope ["number", "store", "k", "names", "due"] ["number"] (defScope st_lor) := ⟨rfl, rfl, rfl, by decide +kernel, rfl, by decide +kernel, by decide +kernel⟩
def W_lor : Spc := fun ds h R => ∃ n : Int, ds = [dI n] ∧ 0 ≤ n ∧ n < 2 ^ 30 ∧ R (dB true) h
theorem ok_lor (A : DefAt K mg "_law_order" st_lor ["number"]) (T : StoC K mg C) (TC : ChgC K mg CC) (m_range : mg "range" = none) (m_len : mg "len" = none)
    (c_Store : HasMk Pg w K mg base CX0 12 "Store" C ["self", "members"] (spD K Θ (W_sinit C CK))) (mg_Store : mg "Store" = some (.ref C)) (c_Change : HasMk Pg w K mg base CX0 10 "Change" CC ["self", "author", "number", "heard", "capability", "publics", "parts"] (spD K Θ (W_cinit CC))) (mg_Change : mg "Change" = some (.ref CC))
    (h_Store_add : HasM Pg w K mg base CX0 1 C "add" ["self", "change"] (spD K Θ (W_sadd C CC))) (h_asking : HasF Pg w K mg base CX0 4 "asking" ["store", "member"] (spD K Θ (W_ask C CC))) :
    HasF Pg w K mg base CX0 14 "_law_order" ["number"] (spD K Θ W_lor) := by
  have sc := sc_lor
  refine A.okD sc W_lor (fun ds h R ⟨_, e, _⟩ => by rw [e]; rfl) fun f cdv A outer s H E hr => ?_
  refine ⟨_, (pss_cons (ps_set (i := 1) sc.nd rfl (.inl rfl) (c_Store.make (hr.mono (by first | decide | omega)) rfl pass0 (pa_cons pe_int pa_nil)))
  (pss_cons (ps_expr (h_Store_add.meth (hr.mono (by first | decide | omega)) pass0 (pv 1) (pa_cons (c_Change.make (hr.mono (by first | decide | omega)) rfl pass0 (pa_cons pe_int (pa_cons pe_int (pa_cons (pe_tup (pa_cons pe_int (pa_cons pe_int pa_nil))) (pa_cons pe_non (pa_cons (pe_tup pa_nil) (pa_cons (pe_tup (pa_cons pe_non (pa_cons (pe_tup pa_nil) (pa_cons (pe_tup pa_nil) (pa_cons (pe_tup pa_nil) pa_nil))))) pa_nil))))))) pa_nil)))
  (pss_cons (ps_for PassesOwn.never rfl (pi_range1 rfl m_range (pa_cons (pe_op (op_addWK (K := K) (by rfl)) pe_int (pe_op op_mod (pv 0) pe_int)) pa_nil)) (pg_name (i := 2) sc.nd rfl (.inl rfl))
  (pss_one (ps_expr (h_Store_add.meth (hr.mono (by first | decide | omega)) pass0 (pv 1) (pa_cons (c_Change.make (hr.mono (by first | decide | omega)) rfl pass0 (pa_cons pe_int (pa_cons (pe_op (op_addWK (K := K) (by rfl)) (pv 2) pe_int) (pa_cons (pe_tup (pa_cons (pv 2) (pa_cons (pe_op op_mod (pe_op op_fdivW (pv 0) pe_int) pe_int) pa_nil))) (pa_cons pe_non (pa_cons (pe_tup pa_nil) (pa_cons (pe_tup (pa_cons pe_non (pa_cons (pe_tup pa_nil) (pa_cons (pe_tup pa_nil) (pa_cons (pe_tup pa_nil) pa_nil))))) pa_nil))))))) pa_nil)))))
  (pss_cons (ps_set (i := 3) sc.nd rfl (.inl rfl) (pe_lst pa_nil))
  (pss_cons (ps_for PassesOwn.never rfl (pi_range1 rfl m_range (pa_cons (pe_op (op_addWK (K := K) (by rfl)) pe_int (pe_op op_mod (pv 0) pe_int)) pa_nil)) (pg_name (i := 2) sc.nd rfl (.inl rfl))
  (pss_one (ps_set (i := 3) sc.nd rfl (.inl rfl) (pe_op (op_addWK (K := K) (by rfl)) (pv 3) (pe_lst (pa_cons pe_int (pa_cons (pe_op (op_addWK (K := K) (by rfl)) (pv 2) pe_int) pa_nil)))))))
  (pss_cons (ps_set (i := 3) sc.nd rfl (.inl rfl) (pe_op (op_addWK (K := K) (by rfl)) (pv 3) (pe_lst (pa_cons pe_int (pa_cons pe_int pa_nil)))))
  (pss_cons (ps_set (i := 4) sc.nd rfl (.inl rfl) (pe_op (op_addWK (K := K) (by rfl)) (pe_op (op_addWK (K := K) (by rfl)) (pe_lst (pa_cons pe_int (pa_cons pe_int (pa_cons pe_int (pa_cons pe_int (pa_cons pe_int (pa_cons pe_int (pa_cons (pe_op (op_addWK (K := K) (by rfl)) pe_int (pe_op op_mod (pv 0) pe_int)) (pa_cons pe_int (pa_cons pe_int (pa_cons pe_int (pa_cons pe_int (pa_cons pe_int (pa_cons (pe_op op_fdivW (pe_callB (call_lenK (K := K) (by rfl)) (by rfl) m_len (by decide +kernel) (pa_cons (pv 3) pa_nil)) pe_int) pa_nil)))))))))))))) (pv 3)) (pe_lst (pa_cons pe_int (pa_cons pe_int (pa_cons pe_int pa_nil))))))
  (pss_one (ps_ret (pe_cmpR (op_eqUK (K := K) (by rfl) hr.units) (h_asking.call (hr.mono (by first | decide | omega)) rfl pass0 (pa_cons (pv 1) (pa_cons pe_int pa_nil))) (pv 4) (nomark _))))))))))), ?_⟩
  try dsimp only [cxOf]
  rintro ds h R ⟨n, rfl, n0, n1, q⟩
  have sz := sizeLine_eq
  refine vs_fin ?_
  refine vs_seq ?_
  refine vs_asg ?_
  refine ve_makeO ?_
  k_places
  refine ⟨h.length, 2, rfl, get_last, by omega, by omega, fun h1 I S hI old hl => ⟨rfl, ?_⟩⟩
  rw [List.length_append, List.length_singleton] at hI old hl
  have pf : Pfx h h1 := pfx_of (fun i hi => by rw [old i (by omega) (by omega), List.getElem?_append_left hi]) (by omega)
  clear old hl
  refine vg_name ?_
  refine vs_seq ?_
  refine vs_drop ?_
  refine ve_meth ?_
  k_places
  refine ⟨S.ins fun _ _ _ _ _ => no_add, ?_⟩
  k_places
  refine ve_makeF ?_
  k_places
  refine ⟨h1.length, 1, 1, .tup [.int 0, .int 0], .non, .tup [], ordT, rfl, get_last, deep_up 2 (ordH_frz 0 0).d, deep_up 2 nil_frz.d, deep_up 2 ordT_frz.d, rfl, chgF 1 1 (.tup [.int 0, .int 0]) .non (.tup []) ordT, ?_, ?_⟩
  · rw [List.set_append_right _ _ (Nat.le_refl _), Nat.sub_self, (ordH_frz 0 0).f, nil_frz.f, ordT_frz.f]; rfl
  k_places
  refine ⟨h.length, 2, [0, 0], [], kept4 CK, [[], []], I, 1, 1, .tup [.int 0, .int 0], .non, .tup [], ordT, rfl, S, ⟨by omega, rfl, rfl, ?_, ?_⟩, by omega, by omega, fun h2 S2 old l2 => ?_⟩
  · intro c hc
    rcases List.mem_cons.mp hc with rfl | hc
    · decide
    rcases List.mem_cons.mp hc with rfl | hc
    · decide
    cases hc
  · intro cs hc
    rcases List.mem_cons.mp hc with rfl | hc
    · show 0 < 1000000; omega
    rcases List.mem_cons.mp hc with rfl | hc
    · show 0 < 1000000; omega
    cases hc
  have pf2 : Pfx h h2 := pfx_of (fun k hk => by rw [old k (fun z => by have := hI k z; omega)]; obtain ⟨g, rfl⟩ := pf; exact List.getElem?_append_left hk) (by have := pf.len; omega)
  clear S pf old l2
  have b0 : 0 ≤ n / 3 % 2 ∧ n / 3 % 2 < 1000 := by omega
  refine vs_seq ?_
  refine vs_for (vi_range1 ?_)
  k_places
  refine ⟨1 + n % 3, rfl, by omega, by omega, ?_⟩
  refine ⟨fun i env' h' => ∃ o2, env' = [some (dI n), some (.own h.length), o2, none, none] ∧ StoreAt C h' h.length 2 [0, 0] [] (kept4 CK) (ordS CC i (n / 3 % 2)) I ∧ Pfx h h', ?_, ?_, ?_, ?_⟩
  · exact ⟨none, rfl, S2, pf2⟩
  · exact fun _ _ _ _ => trivial
  · clear S2 pf2
    rintro i d env' h3 hd ⟨o2, rfl, S, pf⟩
    obtain ⟨hi, rfl⟩ := rng_get hd
    have hi : i < (1 + n % 3).toNat := hi
    refine vg_name ?_
    refine vs_drop ?_
    refine ve_meth ?_
    k_places
    refine ⟨S.ins fun _ _ _ _ _ => no_add, ?_⟩
    k_places
    refine ve_makeF ?_
    k_places
    refine ⟨h3.length, 0, 0 + (i : Int) + 1, .tup [.int (0 + (i : Int)), .int (n / 3 % 2)], .non, .tup [], ordT, rfl, get_last, deep_up 2 (ordH_frz _ _).d, deep_up 2 nil_frz.d, deep_up 2 ordT_frz.d, rfl, chgF 0 (0 + (i : Int) + 1) (.tup [.int (0 + (i : Int)), .int (n / 3 % 2)]) .non (.tup []) ordT, ?_, ?_⟩
    · rw [List.set_append_right _ _ (Nat.le_refl _), Nat.sub_self, (ordH_frz _ _).f, nil_frz.f, ordT_frz.f]; rfl
    k_places
    refine ⟨h.length, 2, [0, 0], [], kept4 CK, ordS CC i (n / 3 % 2), I, 0, _, _, _, _, _, rfl, S, ordS_st (by omega), by omega, by omega, fun h4 S4 old l4 => ?_⟩
    refine ⟨_, rfl, ?_, pfx_of (fun k hk => by rw [old k (fun z => by have := hI k z; omega)]; obtain ⟨g, rfl⟩ := pf; exact List.getElem?_append_left hk) (by have := pf.len; omega)⟩
    have e : (ordS CC i (n / 3 % 2)).set (0 : Int).toNat (((ordS CC i (n / 3 % 2))[(0 : Int).toNat]?.getD []) ++ [.ins CC (chgF 0 (0 + (i : Int) + 1) (.tup [.int (0 + (i : Int)), .int (n / 3 % 2)]) .non (.tup []) ordT)]) = ordS CC (i + 1) (n / 3 % 2) := by
      unfold ordS
      rw [List.range_succ, List.map_append, Int.zero_add]
      rfl
    rw [← e]
    exact S4
  clear S2 pf2
  rintro env' h3 ⟨o2, rfl, S, pf⟩
  rw [rng_len] at S
  show VS _ _ _ _ _ _
  refine vs_seq ?_
  k_offL
  refine vs_seq ?_
  refine vs_for (vi_range1 ?_)
  k_places
  refine ⟨1 + n % 3, rfl, by omega, by omega, ?_⟩
  refine ⟨fun i env' h' => ∃ o2, env' = [some (dI n), some (.own h.length), o2, some (dL (intsP (ordN i))), none] ∧ h' = h3, ?_, ?_, ?_, ?_⟩
  · exact ⟨_, rfl, rfl⟩
  · exact fun _ _ _ _ => trivial
  · rintro i d env' h5 hd ⟨o2, rfl, rfl⟩
    obtain ⟨hi, rfl⟩ := rng_get hd
    have hi : i < (1 + n % 3).toNat := hi
    have ln : ∀ m, (ordN m).length = 2 * m := by
      intro m
      induction m with
      | zero => rfl
      | succ m ih => unfold ordN at *; rw [List.range_succ, List.flatMap_append, List.length_append, ih]; show _ + 2 = _; omega
    k_places
    refine v2_addWM (i := intsP (ordN i)) (j := [P.int 0, P.int (0 + (i : Int) + 1)]) rfl rfl (by rw [intsP_len, ln]; show _ + 2 ≤ _; omega) ?_
    have e : intsP (ordN i) ++ [P.int 0, P.int (0 + (i : Int) + 1)] = intsP (ordN (i + 1)) := by
      unfold ordN
      rw [List.range_succ, List.flatMap_append, Int.zero_add]
      simp [intsP]
    rw [e]
    k_places
    exact ⟨_, rfl, rfl⟩
  rintro env' h5 ⟨o2, rfl, rfl⟩
  rw [rng_len]
  obtain ⟨m, hm, m1, m3⟩ : ∃ m : Nat, (1 + n % 3).toNat = m ∧ 1 ≤ m ∧ m ≤ 3 := ⟨_, rfl, by omega, by omega⟩
  rw [hm] at S ⊢
  have em : 1 + n % 3 = (m : Int) := by omega
  have lo : (ordN m).length ≤ 100 := by
    have hc : m = 1 ∨ m = 2 ∨ m = 3 := by omega
    rcases hc with rfl | rfl | rfl <;> decide
  k_places
  refine v2_addWM (i := intsP (ordN m)) (j := [P.int 1, P.int 1]) rfl rfl (by rw [intsP_len]; show _ + 2 ≤ _; omega) ?_
  have e1 : intsP (ordN m) ++ [P.int 1, P.int 1] = intsP (ordN m ++ [1, 1]) := by simp [intsP]
  rw [e1]
  k_places
  have e2 : ([P.int 1, P.int 1, P.int 2, P.int 0, P.int 0, P.int 2, P.int (1 + n % 3), P.int 1, P.int 1, P.int 1, P.int 1, P.int 1, P.int (((intsP (ordN m ++ [1, 1])).length : Nat) / 2)] : List P) = intsP [1, 1, 2, 0, 0, 2, (m : Int), 1, 1, 1, 1, 1, (((ordN m ++ [1, 1]).length : Nat) : Int) / 2] := by
    rw [em, intsP_len]; rfl
  rw [e2]
  have eo := ord_ask (CC := CC) (CK := CK) (b := n / 3 % 2) m1 m3
  generalize hdh : ([1, 1, 2, 0, 0, 2, (m : Int), 1, 1, 1, 1, 1, (((ordN m ++ [1, 1]).length : Nat) : Int) / 2] : List Int) = dh at eo ⊢
  have ldh : dh.length = 13 := by rw [← hdh]; rfl
  refine v2_addWM (i := intsP dh) (j := intsP (ordN m ++ [1, 1])) rfl rfl (by rw [intsP_len, intsP_len, List.length_append]; show _ + (_ + 2) ≤ _; omega) ?_
  rw [intsP_app]
  k_places
  refine v2_addWM (i := intsP (dh ++ (ordN m ++ [1, 1]))) (j := intsP [0, 0, 0]) rfl rfl (by rw [intsP_len, intsP_len, List.length_append, List.length_append]; show _ + (_ + 2) + 3 ≤ _; omega) ?_
  rw [intsP_app, ← eo]
  k_places
  refine ⟨h.length, 2, [0, 0], [], kept4 CK, _, I, 1, rfl, S, ordS_ask m1 m3 b0, ?_⟩
  k_places
  refine v2_eqInts (x := dL _) (y := dL _) (ns := wask 1 2 [0, 0] (kept4 CK) (ordS CC m (n / 3 % 2))) (ms := wask 1 2 [0, 0] (kept4 CK) (ordS CC m (n / 3 % 2))) rfl rfl ?_
  rw [decide_eq_true rfl]
  obtain ⟨g, rfl⟩ := pf
  exact fin_p _ q
end
end Law

namespace Law
open PySem PySem.Spec PyProof.Rows L2 Kb
-- the steps that are tried: k_clsL a side condition; k_subL one step; k_places steps as long as one fits
local macro_rules | `(tactic| k_subL) => `(tactic| first | (with_reducible refine ve_cls ?_) | (with_reducible refine ve_lst ?_))
def rowA (k : Int) : P := .tup [.str "row", .tup [.int 0, .int 1, .int k]]
def rowN (n : Int) : List P := (List.range (n % 4).toNat).map fun (k : Nat) => rowA k
def rowP (n : Int) : P := .tup (rowN n)
def stT (n : Int) (k : Nat) : List P := if k = 1 then [.non, rowP n, .non, .tup []] else [rowP n, .tup [], .tup [], .tup []]
def stC (CC : Addr) (n : Int) (k : Nat) : P := .ins CC (chgF 0 ((k : Int) + 1) (ordH k 0) .non (.tup []) (.tup (stT n k)))
def stS (CC : Addr) (n : Int) (m : Nat) : List (List P) := [(List.range m).map fun (k : Nat) => stC CC n k, []]
theorem rowA_ok (k : Int) (h : 0 ≤ k ∧ k < 1000) : (okActF (rowA k) ∧ (wact (rowA k)).length ≤ 3000) ∧ Frz 4 (rowA k) := by
  have s : okNs (.tup [.int 0, .int 1, .int k]) := by
    refine ⟨_, rfl, allC ⟨by omega, by decide +kernel⟩ (allC ⟨by omega, by decide +kernel⟩ (allC ⟨h.1, n60 (by omega)⟩ allN)), by show 3 ≤ 4; omega⟩
  have l4 : (wF .spot (.tup [.int 0, .int 1, .int k])).length ≤ 240 := okNs_len s
  exact ⟨act_mk (j := 3) (zs := ["spot"]) (fs := [.spot]) ⟨rfl, by decide +kernel, f1 s⟩ (by rw [b1]; omega) (noCol (by decide +kernel)), .tup (by show 2 < 1000000; omega) (allC .str (allC (.tup (by show 3 < 1000000; omega) (allC .int (allC .int (allC .int allN)))) allN))⟩
theorem rowN_ok (n : Int) : ∀ x ∈ rowN n, (okActF x ∧ (wact x).length ≤ 3000) ∧ Frz 4 x := fun x hx => by
  obtain ⟨k, hk, rfl⟩ := List.mem_map.mp hx
  have hk := List.mem_range.mp hk
  exact rowA_ok _ (by omega)
theorem rowN_len (n : Int) : (rowN n).length ≤ 3 := by unfold rowN; rw [List.length_map, List.length_range]; omega
structure PtB (x : P) : Prop where
  o : okO okPr x
  f : PartF x
  z : Frz 5 x
  l : (wopt wpr x).length ≤ 9100
theorem PtB.non : PtB .non := ⟨.inl rfl, fun ys e => (by cases e), .non, by show 1 ≤ 9100; omega⟩
theorem PtB.tup {ys : List P} (hl : ys.length ≤ 3) (h : ∀ y ∈ ys, (okActF y ∧ (wact y).length ≤ 3000) ∧ Frz 4 y) : PtB (.tup ys) := by
  refine ⟨.inr ⟨⟨ys, rfl, fun x hx => ⟨(h x hx).1.1.1, (h x hx).1.2⟩, by omega⟩, tupNe⟩, fun zs e y hz => ?_, .tup (by omega) fun x hx => (h x hx).2, ?_⟩
  · cases e
    exact (h y hz).1.1
  · have h1 := flat_le (w := wact) (m := 3000) (xs := ys) fun x hx => (h x hx).1.2
    have h2 := wnum_6 (n := ys.length) (by omega)
    show ([1] ++ (wnum ys.length ++ ys.flatMap wact)).length ≤ _
    rw [List.length_append, List.length_append]
    show 1 + _ ≤ _
    omega
theorem stT_ok (n : Int) (k : Nat) : ∀ x ∈ stT n k, PtB x := by
  have r : PtB (rowP n) := .tup (rowN_len n) (rowN_ok n)
  have e : PtB (.tup []) := .tup (by show 0 ≤ 3; omega) allN
  unfold stT
  split
  · exact allC .non (allC r (allC .non (allC e allN)))
  · exact allC r (allC e (allC e (allC e allN)))
theorem stT_len (n : Int) (k : Nat) : (stT n k).length = 4 := by unfold stT; split <;> rfl
theorem stC_ok (CC : Addr) (n : Int) {k : Nat} (hk : k < 1000) : okChgF CC (stC CC n k) ∧ (wchg (stC CC n k)).length ≤ 100000 := by
  refine ⟨⟨0, (k : Int) + 1, [.int k, .int 0], .non, [], stT n k, rfl, ⟨⟨by omega, by decide +kernel⟩, ⟨by omega, n60 (by omega)⟩, allC ⟨by omega, n60 (by omega)⟩ (allC ⟨by omega, by decide +kernel⟩ allN), by show 2 ≤ 20; omega, .inl rfl, allN, by show 0 ≤ 20; omega, fun x hx => (stT_ok n k x hx).o, by rw [stT_len]; omega⟩, fun x hx => (stT_ok n k x hx).f⟩, ?_⟩
  have l1 := flat_le (w := wopt wpr) (m := 9100) (xs := stT n k) fun x hx => (stT_ok n k x hx).l
  rw [stT_len] at l1
  have l2 := okN_len (p := .int ((k : Int) + 1)) ⟨by omega, n60 (by omega)⟩
  have l3 := okN_len (p := .int (k : Int)) ⟨by omega, n60 (by omega)⟩
  have l4 := okN_len (p := .int 0) ⟨by omega, by decide +kernel⟩
  have e : wchg (stC CC n k) = wN (.int 0) ++ wN (.int ((k : Int) + 1)) ++ wls wN [.int k, .int 0] ++ (wopt wNs .non ++ wls wpub []) ++ (stT n k).flatMap (wopt wpr) := wchg_eq CC 0 _ _ _ _ _
  have l5 : (wls wN [.int (k : Int), .int 0]).length ≤ 126 := by
    show (wnum 2 ++ (wN (.int (k : Int)) ++ (wN (.int 0) ++ []))).length ≤ _
    rw [wnum_small (by omega), List.length_append, List.length_append, List.length_append]
    show 1 + (_ + (_ + 0)) ≤ _
    omega
  have l6 : (wopt wNs .non ++ wls wpub []).length ≤ 2 := by
    show ([0] ++ (wnum 0 ++ [])).length ≤ _
    rw [wnum_small (by omega)]
    decide
  rw [e, List.length_append, List.length_append, List.length_append, List.length_append]
  omega
theorem stS_all {CC : Addr} {n : Int} {m : Nat} {Q : List P → Prop} (h1 : Q ((List.range m).map fun (k : Nat) => stC CC n k)) (h2 : Q []) : ∀ cs ∈ stS CC n m, Q cs := fun cs hc => by
  rcases List.mem_cons.mp hc with rfl | hc
  · exact h1
  rcases List.mem_cons.mp hc with rfl | hc
  · exact h2
  cases hc
theorem zero2 {Q : Int → Prop} (h : Q 0) : ∀ x ∈ ([0, 0] : List Int), Q x := fun x hx => by
  rcases List.mem_cons.mp hx with rfl | hx
  · exact h
  rcases List.mem_cons.mp hx with rfl | hx
  · exact h
  cases hx
theorem stS_st {CC : Addr} {n : Int} {m : Nat} (h2 : m ≤ 3) : StOk 2 [0, 0] (stS CC n m) :=
  ⟨by omega, rfl, rfl, zero2 (by decide), stS_all (by rw [List.length_map, List.length_range]; omega) (by show 0 < 1000000; omega)⟩
theorem stS_ask {CC CK : Addr} {n a : Int} {m : Nat} (h2 : m ≤ 2) (ha : 0 ≤ a ∧ a < 1000) : AskB CC a 2 [0, 0] (kept4 CK) (stS CC n m) := by
  have z : okN (.int 0) := ⟨by omega, by decide +kernel⟩
  refine ⟨⟨ha.1, n60 (by omega)⟩, by omega, by omega, stS_st (by omega), zero2 z, ?_, by show 4 ≤ 4; omega, ⟨by show 2 ≤ 1000; omega, stS_all ⟨by rw [List.length_map, List.length_range]; omega, fun c hc => ?_⟩ ⟨by show 0 ≤ 1000; omega, allN⟩⟩, stS_all (by rw [List.length_map, List.length_range]; omega) (by show 0 ≤ 20; omega)⟩
  · have e : cntsOf 2 [0, 0] (stS CC n m) = [(m : Int), 0] := by
      have hc : m = 0 ∨ m = 1 ∨ m = 2 := by omega
      rcases hc with rfl | rfl | rfl <;> kernel_rfl
    rw [e]
    intro x hx
    rcases List.mem_cons.mp hx with rfl | hx
    · exact ⟨by omega, n60 (by omega)⟩
    rcases List.mem_cons.mp hx with rfl | hx
    · exact z
    cases hx
  · obtain ⟨k, hk, rfl⟩ := List.mem_map.mp hc
    have hk := List.mem_range.mp hk
    obtain ⟨⟨a, b, hs, cp, ps, ts, e, B, _⟩, _⟩ := stC_ok CC n (k := k) (by omega)
    refine ⟨⟨a, b, hs, cp, ps, ts, e, B⟩, ?_⟩
    unfold stC stT
    split
    · exact ⟨_, _, _, _, _, _, _, _, _, rfl⟩
    · exact ⟨_, _, _, _, _, _, _, _, _, rfl⟩
theorem stS_sto {CC CK : Addr} {n : Int} {m : Nat} (h2 : m ≤ 2) : StoB CK CC [0, 0] [] (kept4 CK) (stS CC n m) := by
  have z : okN (.int 0) := ⟨by omega, by decide +kernel⟩
  refine ⟨zero2 z, by show 2 ≤ 20; omega, ⟨allN, by show 0 ≤ 20; omega⟩, fun x hx => ?_, by show 4 ≤ 4; omega, stS_all ⟨fun c hc => ?_, by rw [List.length_map, List.length_range]; omega⟩ ⟨allN, by show 0 ≤ 4; omega⟩, by show 2 ≤ 4; omega⟩
  · obtain ⟨_, rfl⟩ := List.mem_replicate.mp hx
    exact .inr ⟨⟨[], [], [], rfl, ⟨allN, by show 0 ≤ 20; omega⟩, ⟨allN, by show 0 ≤ 20; omega⟩, ⟨allN, by show 0 ≤ 20; omega⟩⟩, fun e => by cases e⟩
  · obtain ⟨k, hk, rfl⟩ := List.mem_map.mp hc
    have hk := List.mem_range.mp hk
    obtain ⟨⟨a, b, hs, cp, ps, ts, e, B, _⟩, l⟩ := stC_ok CC n (k := k) (by omega)
    exact ⟨⟨a, b, hs, cp, ps, ts, e, B⟩, l⟩
def missN (m : Nat) : List Int := if m = 2 then [0, 2] else []
theorem sts_ask {CC CK : Addr} {m : Nat} {a n : Int} (h2 : m ≤ 2) (ha : a = 0 ∨ a = 1) : wask a 2 [0, 0] (kept4 CK) (stS CC n m) = [1, a, 2, 0, 0, 2, (m : Int), 0, 1, 1, 1, 1] ++ [((missN m).length : Int) / 2] ++ missN m ++ [0] ++ [((missN m).length : Int) / 2] ++ missN m ++ [0] := by
  have hc : m = 0 ∨ m = 1 ∨ m = 2 := by omega
  unfold wask
  rcases hc with rfl | rfl | rfl <;> rcases ha with rfl | rfl <;> (simp only [wls, wN_S, wNs_S, wnumS_eq]; kernel_rfl)
theorem sts_find {CC : Addr} {m k : Nat} {n : Int} (h2 : m ≤ 2) (hk : k < m) : findOf [0, 0] (stS CC n m) 0 ((k : Int) + 1) = stC CC n k := by
  have hc : (m = 1 ∧ k = 0) ∨ (m = 2 ∧ k = 0) ∨ (m = 2 ∧ k = 1) := by omega
  rcases hc with ⟨rfl, rfl⟩ | ⟨rfl, rfl⟩ | ⟨rfl, rfl⟩ <;> kernel_rfl
theorem sts_sto {CC CK : Addr} {m : Nat} {n : Int} (h2 : m ≤ 2) : wsto [0, 0] [] (kept4 CK) (stS CC n m) = [2, 0, 0, 0] ++ [1, 0, 0, 0] ++ [1, 0, 0, 0] ++ [1, 0, 0, 0] ++ [1, 0, 0, 0] ++ [(m : Int)] ++ (List.range m).flatMap (fun k => wchg (stC CC n k)) ++ [0] := by
  have hk : wopt wkpt (keptE CK) = [1, 0, 0, 0] := by
    show [1] ++ wkpt (keptE CK) = _
    rw [wkpt_eq]
    simp only [wls, wnumS_eq]
    kernel_rfl
  have h1 : wls wN (([0, 0] : List Int).map P.int) = [2, 0, 0] := by simp only [wls, wN_S, wnumS_eq]; kernel_rfl
  have h3 : wls wcapE [] = [0] := by simp only [wls, wnumS_eq]; kernel_rfl
  have h5 : wls wchg [] = [0] := by simp only [wls, wnumS_eq]; kernel_rfl
  have h4 : wls wchg ((List.range m).map fun (k : Nat) => stC CC n k) = [(m : Int)] ++ (List.range m).flatMap (fun k => wchg (stC CC n k)) := by
    unfold wls
    rw [List.length_map, List.length_range, wnum_small (by omega), List.flatMap_map]
  unfold wsto
  rw [h1, h3]
  have h6 : (kept4 CK).flatMap (wopt wkpt) = [1, 0, 0, 0] ++ ([1, 0, 0, 0] ++ ([1, 0, 0, 0] ++ ([1, 0, 0, 0] ++ []))) := by
    show wopt wkpt (keptE CK) ++ (wopt wkpt (keptE CK) ++ (wopt wkpt (keptE CK) ++ (wopt wkpt (keptE CK) ++ []))) = _
    rw [hk]
  have h7 : (stS CC n m).flatMap (wls wchg) = ([(m : Int)] ++ (List.range m).flatMap (fun k => wchg (stC CC n k))) ++ ([0] ++ []) := by
    show wls wchg _ ++ (wls wchg [] ++ []) = _
    rw [h4, h5]
  rw [h6, h7]
  simp
end Law

namespace Law
open PySem PySem.Spec PyProof.Rows L2 Kb
-- the steps that are tried: k_clsL a side condition; k_subL one step; k_places steps as long as one fits
local macro_rules | `(tactic| k_subL) => `(tactic| first | (with_reducible refine ve_cls ?_) | (with_reducible refine ve_lst ?_))
section
variable {Pg : Program} {w : World} {K : PySem.W.Frag} {Θ : Tbs} {mg : Str → Option Value} {base : Heap} {C CK CC : Addr}
abbrev st_lst : Stmt := (topS 62)
theorem sc_lst : FnScope ["number", "store", "k", "row", "parts", "empty", "data", "missing", "count", "asked"] ["number"] (defScope st_lst) := ⟨rfl, rfl, rfl, by decide +kernel, rfl, by decide +kernel, by decide +kernel⟩
theorem ok_lst (A : DefAt K mg "_law_store" st_lst ["number"]) (T : StoC K mg C) (TC : ChgC K mg CC) (m_range : mg "range" = none) (m_len : mg "len" = none) (m_tuple : mg "tuple" = none)
    (c_Store : HasMk Pg w K mg base CX0 12 "Store" C ["self", "members"] (spD K Θ (W_sinit C CK))) (mg_Store : mg "Store" = some (.ref C)) (c_Change : HasMk Pg w K mg base CX0 10 "Change" CC ["self", "author", "number", "heard", "capability", "publics", "parts"] (spD K Θ (W_cinit CC))) (mg_Change : mg "Change" = some (.ref CC))
    (h_Store_add : HasM Pg w K mg base CX0 1 C "add" ["self", "change"] (spD K Θ (W_sadd C CC))) (h_Store_find : HasM Pg w K mg base CX0 3 C "find" ["self", "name"] (spD K Θ (W_sfind C))) (h_asking : HasF Pg w K mg base CX0 4 "asking" ["store", "member"] (spD K Θ (W_ask C CC))) (h_write_store : HasF Pg w K mg base CX0 12 "write_store" ["store"] (spD K Θ (W_wsto C CK CC)))
    (h__law_change_bytes : HasF Pg w K mg base CX0 6 "_law_change_bytes" ["change"] (spD K Θ (W_wr wchg (okChgF CC)))) (h__law_order : HasF Pg w K mg base CX0 14 "_law_order" ["number"] (spD K Θ W_lor)) :
    HasF Pg w K mg base CX0 15 "_law_store" ["number"] (spD K Θ W_lor) := by
  have sc := sc_lst
  refine A.okD sc W_lor (fun ds h R ⟨_, e, _⟩ => by rw [e]; rfl) fun f cdv A outer s H E hr => ?_
  refine ⟨_, (pss_cons (ps_set (i := 1) sc.nd rfl (.inl rfl) (c_Store.make (hr.mono (by first | decide | omega)) rfl pass0 (pa_cons pe_int pa_nil)))
  (pss_cons (ps_set (i := 3) sc.nd rfl (.inl rfl) (pe_callTy (call_tuple_ofK (K := K) (by rfl)) (by rfl) m_tuple (by decide +kernel) (pa_cons (pe_lc (own := [("k", 2)]) rfl sc.nd (pi_range1 rfl m_range (pa_cons (pe_op op_mod (pv 0) pe_int) pa_nil)) (blkOk_by (N := ["number", "store", "k", "row", "parts", "empty", "data", "missing", "count", "asked"]) (sc := defScope (topS 62)) (by decide +kernel)) (fun _ _ _ _ _ => (pg_name (i := 2) sc.nd rfl (.inl rfl))) (fun _ _ _ _ _ => pts_nil) (fun _ _ _ _ _ => (pe_tup (pa_cons pe_str (pa_cons (pe_tup (pa_cons pe_int (pa_cons pe_int (pa_cons (pv 2) pa_nil)))) pa_nil))))) pa_nil)))
  (pss_cons (ps_set (i := 4) sc.nd rfl (.inl rfl) (pe_lst (pa_cons (pe_tup (pa_cons (pv 3) (pa_cons (pe_tup pa_nil) (pa_cons (pe_tup pa_nil) (pa_cons (pe_tup pa_nil) pa_nil))))) (pa_cons (pe_tup (pa_cons pe_non (pa_cons (pv 3) (pa_cons pe_non (pa_cons (pe_tup pa_nil) pa_nil))))) pa_nil))))
  (pss_cons (ps_for PassesOwn.never rfl (pi_range1 rfl m_range (pa_cons (pe_op op_mod (pe_op op_fdivW (pv 0) pe_int) pe_int) pa_nil)) (pg_name (i := 2) sc.nd rfl (.inl rfl))
  (pss_one (ps_expr (h_Store_add.meth (hr.mono (by first | decide | omega)) pass0 (pv 1) (pa_cons (c_Change.make (hr.mono (by first | decide | omega)) rfl pass0 (pa_cons pe_int (pa_cons (pe_op (op_addWK (K := K) (by rfl)) (pv 2) pe_int) (pa_cons (pe_tup (pa_cons (pv 2) (pa_cons pe_int pa_nil))) (pa_cons pe_non (pa_cons (pe_tup pa_nil) (pa_cons (pe_ix (ix_seqK (K := K) (by rfl)) (pv 4) (pe_op op_mod (pv 2) pe_int) (fun _ _ => rfl)) pa_nil))))))) pa_nil)))))
  (pss_cons (ps_set (i := 5) sc.nd rfl (.inl rfl) (pe_lst (pa_cons pe_int (pa_cons pe_int (pa_cons pe_int (pa_cons pe_int pa_nil))))))
  (pss_cons (ps_set (i := 6) sc.nd rfl (.inl rfl) (pe_op (op_addWK (K := K) (by rfl)) (pe_op (op_addWK (K := K) (by rfl)) (pe_op (op_addWK (K := K) (by rfl)) (pe_op (op_addWK (K := K) (by rfl)) (pe_op (op_addWK (K := K) (by rfl)) (pe_lst (pa_cons pe_int (pa_cons pe_int (pa_cons pe_int (pa_cons pe_int pa_nil))))) (pv 5)) (pv 5)) (pv 5)) (pv 5)) (pe_lst (pa_cons (pe_op op_mod (pe_op op_fdivW (pv 0) pe_int) pe_int) pa_nil))))
  (pss_cons (ps_set (i := 7) sc.nd rfl (.inl rfl) (pe_lst pa_nil))
  (pss_cons (ps_for PassesOwn.never rfl (pi_range1 rfl m_range (pa_cons (pe_op op_mod (pe_op op_fdivW (pv 0) pe_int) pe_int) pa_nil)) (pg_name (i := 2) sc.nd rfl (.inl rfl))
  (pss_cons (ps_set (i := 6) sc.nd rfl (.inl rfl) (pe_op (op_addWK (K := K) (by rfl)) (pv 6) (h__law_change_bytes.call (hr.mono (by first | decide | omega)) rfl pass0 (pa_cons (h_Store_find.meth (hr.mono (by first | decide | omega)) pass0 (pv 1) (pa_cons (pe_tup (pa_cons pe_int (pa_cons (pe_op (op_addWK (K := K) (by rfl)) (pv 2) pe_int) pa_nil))) pa_nil)) pa_nil))))
  (pss_one (ps_if (pt_cmpR (op_eqUK (K := K) (by rfl) hr.units) (pv 2) pe_int (nomark _)) (pss_one (ps_set (i := 7) sc.nd rfl (.inl rfl) (pe_lst (pa_cons pe_int (pa_cons pe_int pa_nil))))) pss_nil))))
  (pss_cons (ps_set (i := 6) sc.nd rfl (.inl rfl) (pe_op (op_addWK (K := K) (by rfl)) (pv 6) (pe_lst (pa_cons pe_int pa_nil))))
  (pss_cons (ps_set (i := 8) sc.nd rfl (.inl rfl) (pe_op op_fdivW (pe_callB (call_lenK (K := K) (by rfl)) (by rfl) m_len (by decide +kernel) (pa_cons (pv 7) pa_nil)) pe_int))
  (pss_cons (ps_set (i := 9) sc.nd rfl (.inl rfl) (pe_lst (pa_cons pe_int (pa_cons (pe_op op_mod (pv 0) pe_int) (pa_cons pe_int (pa_cons pe_int (pa_cons pe_int (pa_cons pe_int (pa_cons (pe_op op_mod (pe_op op_fdivW (pv 0) pe_int) pe_int) (pa_cons pe_int (pa_cons pe_int (pa_cons pe_int (pa_cons pe_int (pa_cons pe_int pa_nil))))))))))))))
  (pss_cons (ps_set (i := 9) sc.nd rfl (.inl rfl) (pe_op (op_addWK (K := K) (by rfl)) (pe_op (op_addWK (K := K) (by rfl)) (pe_op (op_addWK (K := K) (by rfl)) (pe_op (op_addWK (K := K) (by rfl)) (pe_op (op_addWK (K := K) (by rfl)) (pe_op (op_addWK (K := K) (by rfl)) (pv 9) (pe_lst (pa_cons (pv 8) pa_nil))) (pv 7)) (pe_lst (pa_cons pe_int pa_nil))) (pe_lst (pa_cons (pv 8) pa_nil))) (pv 7)) (pe_lst (pa_cons pe_int pa_nil))))
  (pss_one (ps_ret (pe_and (pe_cmpR (op_eqUK (K := K) (by rfl) hr.units) (h_write_store.call (hr.mono (by first | decide | omega)) rfl pass0 (pa_cons (pv 1) pa_nil)) (pv 6) (nomark _)) (pe_and (pe_cmpR (op_eqUK (K := K) (by rfl) hr.units) (h_asking.call (hr.mono (by first | decide | omega)) rfl pass0 (pa_cons (pv 1) (pa_cons (pe_op op_mod (pv 0) pe_int) pa_nil))) (pv 9) (nomark _)) (pe_one (h__law_order.call (hr.mono (by first | decide | omega)) rfl pass0 (pa_cons (pv 0) pa_nil))))))))))))))))))), ?_⟩
  try dsimp only [cxOf]
  rintro ds h R ⟨n, rfl, n0, n1, q⟩
  have sz := sizeLine_eq
  refine vs_fin ?_
  refine vs_seq ?_
  refine vs_asg ?_
  refine ve_makeO ?_
  k_places
  refine ⟨h.length, 2, rfl, get_last, by omega, by omega, fun h1 I S hI old hl => ⟨rfl, ?_⟩⟩
  rw [List.length_append, List.length_singleton] at hI old hl
  have pf : Pfx h h1 := pfx_of (fun i hi => by rw [old i (by omega) (by omega), List.getElem?_append_left hi]) (by omega)
  clear old hl
  refine vg_name ?_
  refine vs_seq ?_
  refine vs_asg ?_
  k_places
  refine ve_lcL tg_name (List.range (n % 4).toNat) (fun (k : Nat) => dI k) (fun _ => true) (fun (k : Nat) => rowA k) ?_
  refine vi_range1 ?_
  k_places
  refine ⟨n % 4, rfl, by omega, by omega, ?_, by rw [List.length_range]; omega, fun _ => trivial, fun j hj acc => ?_, ?_⟩
  · unfold rng
    exact List.map_congr_left fun k _ => by rw [Int.zero_add]
  · have hj := List.mem_range.mp hj
    refine vg_name ⟨rfl, vt_yes ⟨rfl, rfl, fun _ => ?_⟩⟩
    k_places
    exact ⟨rfl, rfl⟩
  rw [filter_tt]
  k_subL
  refine vc_tuple (ps := rowN n) rfl ?_
  refine vg_name ?_
  have er : dT (rowN n) = .p (rowP n) := rfl
  rw [er]
  show VS _ _ _ _ _ _
  refine vs_seq ?_
  k_offL
  obtain ⟨m, hm, m2⟩ : ∃ m : Nat, (n / 4 % 3).toNat = m ∧ m ≤ 2 := ⟨_, rfl, by omega⟩
  have em : n / 4 % 3 = (m : Int) := by omega
  refine vs_seq ?_
  refine vs_for (vi_range1 ?_)
  k_places
  refine ⟨n / 4 % 3, rfl, by omega, by omega, ?_⟩
  refine ⟨fun i env' h' => ∃ o2, env' = [some (dI n), some (.own h.length), o2, some (.p (rowP n)), some (dL [.tup [rowP n, .tup [], .tup [], .tup []], .tup [.non, rowP n, .non, .tup []]]), none, none, none, none, none] ∧ StoreAt C h' h.length 2 [0, 0] [] (kept4 CK) (stS CC n i) I ∧ Pfx h h', ?_, ?_, ?_, ?_⟩
  · exact ⟨_, rfl, S, pf⟩
  · exact fun _ _ _ _ => trivial
  · clear S pf
    rintro i d env' h3 hd ⟨o2, rfl, S, pf⟩
    obtain ⟨hi, rfl⟩ := rng_get hd
    have hi : i < (n / 4 % 3).toNat := hi
    have hi2 : i < 2 := by omega
    have fz : Frz 6 (.tup (stT n i)) := .tup (by rw [stT_len]; omega) fun x hx => (stT_ok n i x hx).z
    refine vg_name ?_
    refine vs_drop ?_
    refine ve_meth ?_
    k_places
    refine ⟨S.ins fun _ _ _ _ _ => no_add, ?_⟩
    k_places
    refine ve_makeF ?_
    k_places
    have eg : [P.tup [rowP n, .tup [], .tup [], .tup []], P.tup [.non, rowP n, .non, .tup []]][i]? = some (.tup (stT n i)) := by
      have hc : i = 0 ∨ i = 1 := by omega
      rcases hc with rfl | rfl <;> rfl
    refine v2_ixL (at_nat i (by omega) eg) ?_
    k_places
    refine ⟨h3.length, 0, 0 + (i : Int) + 1, .tup [.int (0 + (i : Int)), .int 0], .non, .tup [], .tup (stT n i), rfl, get_last, deep_up 2 (ordH_frz _ _).d, deep_up 2 nil_frz.d, deep_up 1 fz.d, rfl, chgF 0 (0 + (i : Int) + 1) (.tup [.int (0 + (i : Int)), .int 0]) .non (.tup []) (.tup (stT n i)), ?_, ?_⟩
    · rw [List.set_append_right _ _ (Nat.le_refl _), Nat.sub_self, (ordH_frz _ _).f, nil_frz.f, fz.f]; rfl
    k_places
    refine ⟨h.length, 2, [0, 0], [], kept4 CK, stS CC n i, I, 0, _, _, _, _, _, rfl, S, stS_st (by omega), by omega, by omega, fun h4 S4 old l4 => ?_⟩
    refine ⟨_, rfl, ?_, pfx_of (fun k hk => by rw [old k (fun z => by have := hI k z; omega)]; obtain ⟨g, rfl⟩ := pf; exact List.getElem?_append_left hk) (by have := pf.len; omega)⟩
    have e : (stS CC n i).set (0 : Int).toNat (((stS CC n i)[(0 : Int).toNat]?.getD []) ++ [.ins CC (chgF 0 (0 + (i : Int) + 1) (.tup [.int (0 + (i : Int)), .int 0]) .non (.tup []) (.tup (stT n i)))]) = stS CC n (i + 1) := by
      unfold stS
      rw [List.range_succ, List.map_append, Int.zero_add]
      rfl
    rw [← e]
    exact S4
  clear S pf
  rintro env' h3 ⟨o2, rfl, S, pf⟩
  rw [rng_len, hm] at S
  show VS _ _ _ _ _ _
  refine vs_seq ?_
  k_offL
  show VS _ _ _ _ _ _
  refine vs_seq ?_
  k_places
  refine v2_addWM (i := intsP [2, 0, 0, 0]) (j := intsP [1, 0, 0, 0]) rfl rfl (sz_le (by show 8 ≤ _; omega)) ?_
  rw [intsP_app]
  k_places
  refine v2_addWM (i := intsP ([2, 0, 0, 0] ++ [1, 0, 0, 0])) (j := intsP [1, 0, 0, 0]) rfl rfl (sz_le (by show 12 ≤ _; omega)) ?_
  rw [intsP_app]
  k_places
  refine v2_addWM (i := intsP ([2, 0, 0, 0] ++ [1, 0, 0, 0] ++ [1, 0, 0, 0])) (j := intsP [1, 0, 0, 0]) rfl rfl (sz_le (by show 16 ≤ _; omega)) ?_
  rw [intsP_app]
  k_places
  refine v2_addWM (i := intsP ([2, 0, 0, 0] ++ [1, 0, 0, 0] ++ [1, 0, 0, 0] ++ [1, 0, 0, 0])) (j := intsP [1, 0, 0, 0]) rfl rfl (sz_le (by show 20 ≤ _; omega)) ?_
  rw [intsP_app]
  k_places
  refine v2_addWM (i := intsP ([2, 0, 0, 0] ++ [1, 0, 0, 0] ++ [1, 0, 0, 0] ++ [1, 0, 0, 0] ++ [1, 0, 0, 0])) (j := intsP [n / 4 % 3]) rfl rfl (sz_le (by show 21 ≤ _; omega)) ?_
  rw [intsP_app, em]
  have es := sts_sto (CK := CK) (CC := CC) (n := n) m2
  generalize hd1 : ([2, 0, 0, 0] ++ [1, 0, 0, 0] ++ [1, 0, 0, 0] ++ [1, 0, 0, 0] ++ [1, 0, 0, 0] ++ [(m : Int)] : List Int) = d1 at es ⊢
  have ld1 : d1.length = 21 := by rw [← hd1]; rfl
  refine vg_name ?_
  refine vs_seq ?_
  k_offL
  refine vs_seq ?_
  refine vs_for (vi_range1 ?_)
  k_places
  refine ⟨n / 4 % 3, rfl, by omega, by omega, ?_⟩
  have lw : ∀ i, i ≤ 2 → ((List.range i).flatMap fun k => wchg (stC CC n k)).length ≤ 200000 := fun i hi => by
    have := flat_le (w := fun k => wchg (stC CC n k)) (m := 100000) (xs := List.range i) fun k hk => (stC_ok CC n (by have := List.mem_range.mp hk; omega)).2
    rw [List.length_range] at this
    omega
  refine ⟨fun i env' h' => ∃ o2, env' = [some (dI n), some (.own h.length), o2, some (.p (rowP n)), some (dL [.tup [rowP n, .tup [], .tup [], .tup []], .tup [.non, rowP n, .non, .tup []]]), some (dL (intsP [1, 0, 0, 0])), some (dL (intsP (d1 ++ (List.range i).flatMap fun k => wchg (stC CC n k)))), some (dL (intsP (missN i))), none, none] ∧ h' = h3, ?_, ?_, ?_, ?_⟩
  · exact ⟨o2, by rw [List.range_zero, List.flatMap_nil, List.append_nil]; rfl, rfl⟩
  · exact fun _ _ _ _ => trivial
  · rintro i d env' h5 hd ⟨o5, rfl, rfl⟩
    obtain ⟨hi, rfl⟩ := rng_get hd
    have hi : i < (n / 4 % 3).toNat := hi
    have lwi := lw i (by omega)
    have lc := (stC_ok CC n (k := i) (by omega)).2
    refine vg_name ?_
    refine vs_seq ?_
    k_places
    refine ve_meth ?_
    k_places
    refine ⟨S.ins fun _ _ _ _ _ => no_find, ?_⟩
    k_places
    refine ⟨h.length, 2, [0, 0], [], kept4 CK, stS CC n m, I, 0, 0 + (i : Int) + 1, rfl, S, stS_st (by omega), ?_⟩
    rw [Int.zero_add, sts_find m2 (by omega)]
    k_places
    refine ⟨stC CC n i, rfl, (stC_ok CC n (by omega)).1, ?_⟩
    refine v2_addWM (i := intsP (d1 ++ (List.range i).flatMap fun k => wchg (stC CC n k))) (j := intsP (wchg (stC CC n i))) rfl rfl (by rw [intsP_len, intsP_len, List.length_append]; omega) ?_
    have e : intsP (d1 ++ (List.range i).flatMap fun k => wchg (stC CC n k)) ++ intsP (wchg (stC CC n i)) = intsP (d1 ++ (List.range (i + 1)).flatMap fun k => wchg (stC CC n k)) := by
      rw [intsP_app, List.range_succ, List.flatMap_append, List.append_assoc]; simp
    rw [e]
    k_places
    refine ite_dec (fun c => ?_) (fun c => ?_)
    · have hi1 : i = 1 := by omega
      subst hi1
      k_places
      exact ⟨_, rfl, rfl⟩
    · have hi1 : i = 0 := by omega
      subst hi1
      k_places
      exact ⟨_, rfl, rfl⟩
  rintro env' h5 ⟨o5, rfl, rfl⟩
  rw [rng_len, hm]
  have lwm := lw m m2
  generalize hbs : ((List.range m).flatMap fun k => wchg (stC CC n k)) = bs at es lwm ⊢
  show VS _ _ _ _ _ _
  refine vs_seq ?_
  k_places
  refine v2_addWM (i := intsP (d1 ++ bs)) (j := intsP [0]) rfl rfl (by rw [intsP_len, intsP_len, List.length_append]; show _ + _ + 1 ≤ _; omega) ?_
  rw [intsP_app, ← es]
  k_places
  have ea := sts_ask (CC := CC) (CK := CK) (n := n) (a := n % 2) m2 (by omega)
  rw [em]
  have e0 : ([P.int 1, P.int (n % 2), P.int 2, P.int 0, P.int 0, P.int 2, P.int (m : Int), P.int 0, P.int 1, P.int 1, P.int 1, P.int 1] : List P) = intsP [1, n % 2, 2, 0, 0, 2, (m : Int), 0, 1, 1, 1, 1] := rfl
  rw [e0, intsP_len]
  have e7 : ([P.int (((missN m).length : Nat) / 2)] : List P) = intsP [((missN m).length : Int) / 2] := rfl
  rw [e7]
  have lm : (missN m).length ≤ 2 := by unfold missN; split <;> decide
  generalize hd2 : ([1, n % 2, 2, 0, 0, 2, (m : Int), 0, 1, 1, 1, 1] : List Int) = d2 at ea ⊢
  generalize hc2 : ((missN m).length : Int) / 2 = cc at ea ⊢
  have ld2 : d2.length = 12 := by rw [← hd2]; rfl
  refine v2_addWM (i := intsP d2) (j := intsP [cc]) rfl rfl (by rw [intsP_len, intsP_len]; show _ + 1 ≤ _; omega) ?_
  rw [intsP_app]
  k_places
  refine v2_addWM (i := intsP (d2 ++ [cc])) (j := intsP (missN m)) rfl rfl (by rw [intsP_len, intsP_len, List.length_append]; show _ + 1 + _ ≤ _; omega) ?_
  rw [intsP_app]
  k_places
  refine v2_addWM (i := intsP (d2 ++ [cc] ++ missN m)) (j := intsP [0]) rfl rfl (by rw [intsP_len, intsP_len, List.length_append, List.length_append]; show _ + 1 + _ + 1 ≤ _; omega) ?_
  rw [intsP_app]
  k_places
  refine v2_addWM (i := intsP (d2 ++ [cc] ++ missN m ++ [0])) (j := intsP [cc]) rfl rfl (by rw [intsP_len, intsP_len, List.length_append, List.length_append, List.length_append]; show _ + 1 + _ + 1 + 1 ≤ _; omega) ?_
  rw [intsP_app]
  k_places
  refine v2_addWM (i := intsP (d2 ++ [cc] ++ missN m ++ [0] ++ [cc])) (j := intsP (missN m)) rfl rfl (by rw [intsP_len, intsP_len, List.length_append, List.length_append, List.length_append, List.length_append]; show _ + 1 + _ + 1 + 1 + _ ≤ _; omega) ?_
  rw [intsP_app]
  k_places
  refine v2_addWM (i := intsP (d2 ++ [cc] ++ missN m ++ [0] ++ [cc] ++ missN m)) (j := intsP [0]) rfl rfl (by rw [intsP_len, intsP_len, List.length_append, List.length_append, List.length_append, List.length_append, List.length_append]; show _ + 1 + _ + 1 + 1 + _ + 1 ≤ _; omega) ?_
  rw [intsP_app, ← ea]
  k_places
  refine ⟨h.length, 2, [0, 0], [], kept4 CK, _, I, rfl, S, stS_sto m2, ?_⟩
  k_places
  refine v2_eqInts (x := dL _) (y := dL _) (ns := wsto [0, 0] [] (kept4 CK) (stS CC n m)) (ms := wsto [0, 0] [] (kept4 CK) (stS CC n m)) rfl rfl ?_
  rw [decide_eq_true rfl]
  k_places
  refine ⟨h.length, 2, [0, 0], [], kept4 CK, _, I, n % 2, rfl, S, stS_ask m2 (by omega), ?_⟩
  k_places
  refine v2_eqInts (x := dL _) (y := dL _) (ns := wask (n % 2) 2 [0, 0] (kept4 CK) (stS CC n m)) (ms := wask (n % 2) 2 [0, 0] (kept4 CK) (stS CC n m)) rfl rfl ?_
  rw [decide_eq_true rfl]
  k_places
  refine ⟨n, rfl, n0, n1, ?_⟩
  obtain ⟨g, rfl⟩ := pf
  exact fin_p _ q
end
end Law

namespace Law
open PySem PySem.Spec PyProof.Rows L2 Kb
-- the steps that are tried: k_clsL a side condition; k_subL one step; k_places steps as long as one fits
local macro_rules | `(tactic| k_subL) => `(tactic| first | (with_reducible refine ve_cls ?_) | (with_reducible refine ve_lst ?_))
theorem rep_mem {x : Str} {n : Int} {c : Nat} (h : c ∈ (repS x n).cps.toList) : c ∈ x.cps.toList := by
  rw [repS_cps] at h
  obtain ⟨l, hl, hc⟩ := List.mem_flatten.mp h
  obtain ⟨_, rfl⟩ := List.mem_replicate.mp hl
  exact hc
theorem tail_ok : ∀ c ∈ ("ab~ " : Str).cps.toList, c < 2 ^ 40 := by decide +kernel
theorem app_cps (a b : Str) : (a ++ b).cps.toList = a.cps.toList ++ b.cps.toList := by show (a.cps ++ b.cps).toList = _; rw [Array.toList_append]
section
variable {Pg : Program} {w : World} {K : PySem.W.Frag} {Θ : Tbs} {mg : Str → Option Value} {base : Heap} {C CK CC : Addr}
abbrev st_law : Stmt := (topS 63)
theorem sc_law : FnScope ["script", "k", "number", "text", "big", "kind", "act", "change", "entry", "bytes_of_entry", "kept", "bytes_of_kept"] ["script"] (defScope st_law) := ⟨rfl, rfl, rfl, by decide +kernel, rfl, by decide +kernel, by decide +kernel⟩
def W_law : Spc := fun ds h R => ∃ ns : List Int, ds = [dL (ns.map P.int)] ∧ Scr ns ∧ ∀ h', R (dB true) h'
theorem ok_law {f : Addr} {fd : FuncData} (F : Fun K "law" "law" st_law f fd) (m_len : mg "len" = none) (m_range : mg "range" = none) (m_min : mg "min" = none)
    (h__law_draw : HasF Pg w K mg base CX0 1 "_law_draw" ["script", "k"] (spD K Θ W_draw)) (h__law_text : HasF Pg w K mg base CX0 1 "_law_text" ["number"] (spD K Θ W_ltxt)) (h__law_value : HasF Pg w K mg base CX0 2 "_law_value" ["number"] (spD K Θ W_lvl)) (h__law_act : HasF Pg w K mg base CX0 3 "_law_act" ["kind", "number"] (spD K Θ W_lac))
    (h_write_number : HasF Pg w K mg base CX0 1 "write_number" ["number"] (spD K Θ W_wnum)) (h__law_number : HasF Pg w K mg base CX0 1 "_law_number" ["number"] (spD K Θ W_lnum)) (h_write_integer : HasF Pg w K mg base CX0 2 "write_integer" ["number"] (spD K Θ W_wint)) (h__law_signed : HasF Pg w K mg base CX0 2 "_law_signed" ["number"] (spD K Θ W_wint))
    (h_write_string : HasF Pg w K mg base CX0 4 "write_string" ["text"] (spD K Θ W_wstr)) (h__law_string : HasF Pg w K mg base CX0 3 "_law_string" ["text"] (spD K Θ W_wstr)) (h_write_value : HasF Pg w K mg base CX0 5 "write_value" ["value"] (spD K Θ (W_wr wval okV))) (h__law_bytes_of : HasF Pg w K mg base CX0 4 "_law_bytes_of" ["value"] (spD K Θ (W_wr wval okV)))
    (h_write_act : HasF Pg w K mg base CX0 6 "write_act" ["act"] (spD K Θ (W_wr wact okAct))) (h__law_act_bytes : HasF Pg w K mg base CX0 5 "_law_act_bytes" ["act"] (spD K Θ (W_wr wact okActF)))
    (h__law_change : HasF Pg w K mg base CX0 12 "_law_change" ["number"] (spD K Θ (W_lch CC))) (h__law_entry : HasF Pg w K mg base CX0 4 "_law_entry" ["number"] (spD K Θ W_len)) (h__law_kept : HasF Pg w K mg base CX0 12 "_law_kept" ["number"] (spD K Θ (W_lkp CK)))
    (h_write_change : HasF Pg w K mg base CX0 10 "write_change" ["change"] (spD K Θ (W_wr wchg (okChg CC)))) (h__law_change_bytes : HasF Pg w K mg base CX0 6 "_law_change_bytes" ["change"] (spD K Θ (W_wr wchg (okChgF CC)))) (h_write_capability : HasF Pg w K mg base CX0 5 "write_capability" ["entry"] (spD K Θ (W_wr wcapE okCe)))
    (h_write_kept : HasF Pg w K mg base CX0 9 "write_kept" ["kept"] (spD K Θ (W_wr wkpt (okKp CK)))) (h__law_store : HasF Pg w K mg base CX0 15 "_law_store" ["number"] (spD K Θ W_lor)) :
    FnOk Pg w K mg base CX0 16 f fd ["script"] (spD K Θ W_law) := by
  have sc := sc_law
  refine fnD F sc W_law (fun ds h R ⟨_, e, _⟩ => by rw [e]; rfl) fun cdv A outer s H E hr => ?_
  refine ⟨_, (pss_cons (ps_for PassesOwn.never rfl (pi_range1 rfl m_range (pa_cons (pe_op (op_addWK (K := K) (by rfl)) pe_int (pe_callB (call_min2 rfl) (by rfl) m_min (by decide +kernel) (pa_cons pe_int (pa_cons (pe_callB (call_lenK (K := K) (by rfl)) (by rfl) m_len (by decide +kernel) (pa_cons (pv 0) pa_nil)) pa_nil)))) pa_nil)) (pg_name (i := 1) sc.nd rfl (.inl rfl))
  (pss_cons (ps_set (i := 2) sc.nd rfl (.inl rfl) (pe_op op_mod (h__law_draw.call (hr.mono (by first | decide | omega)) rfl pass0 (pa_cons (pv 0) (pa_cons (pv 1) pa_nil))) pe_int))
  (pss_cons (ps_set (i := 3) sc.nd rfl (.inl rfl) (h__law_text.call (hr.mono (by first | decide | omega)) rfl pass0 (pa_cons (pv 2) pa_nil)))
  (pss_cons (ps_if (pt_cmpR (op_eqUK (K := K) (by rfl) hr.units) (pe_op op_mod (pv 2) pe_int) pe_int (nomark _)) (pss_one (ps_set (i := 3) sc.nd rfl (.inl rfl) (pe_op op_mulU (pe_op (op_addWK (K := K) (by rfl)) (pv 3) pe_str) (pe_op op_mod (pv 2) pe_int)))) pss_nil)
  (pss_cons (ps_set (i := 3) sc.nd rfl (.inl rfl) (pe_slice sl_str (pv 3) po_none (po_some pe_int)))
  (pss_cons (ps_set (i := 4) sc.nd rfl (.inl rfl) (pe_op op_pow (pv 2) pe_int))
  (pss_cons (ps_if (PW.pt (pw_or (pt_cmpR (op_neUK (K := K) (by rfl) hr.units) (h_write_number.call (hr.mono (by first | decide | omega)) rfl pass0 (pa_cons (pv 4) pa_nil)) (h__law_number.call (hr.mono (by first | decide | omega)) rfl pass0 (pa_cons (pv 4) pa_nil)) (nomark _)) (pw_or1 (pt_cmpR (op_neUK (K := K) (by rfl) hr.units) (h_write_integer.call (hr.mono (by first | decide | omega)) rfl pass0 (pa_cons (pe_un un_neg (pv 2)) pa_nil)) (h__law_signed.call (hr.mono (by first | decide | omega)) rfl pass0 (pa_cons (pe_un un_neg (pv 2)) pa_nil)) (nomark _))))) (pss_one (ps_ret pe_bl)) pss_nil)
  (pss_cons (ps_if (PW.pt (pw_or (pt_cmpR (op_neUK (K := K) (by rfl) hr.units) (h_write_string.call (hr.mono (by first | decide | omega)) rfl pass0 (pa_cons (pv 3) pa_nil)) (h__law_string.call (hr.mono (by first | decide | omega)) rfl pass0 (pa_cons (pv 3) pa_nil)) (nomark _)) (pw_or1 (pt_cmpR (op_neUK (K := K) (by rfl) hr.units) (h_write_value.call (hr.mono (by first | decide | omega)) rfl pass0 (pa_cons (h__law_value.call (hr.mono (by first | decide | omega)) rfl pass0 (pa_cons (pv 2) pa_nil)) pa_nil)) (h__law_bytes_of.call (hr.mono (by first | decide | omega)) rfl pass0 (pa_cons (h__law_value.call (hr.mono (by first | decide | omega)) rfl pass0 (pa_cons (pv 2) pa_nil)) pa_nil)) (nomark _))))) (pss_one (ps_ret pe_bl)) pss_nil)
  (pss_cons (ps_for PassesOwn.never rfl (pi_range1 rfl m_range (pa_cons pe_int pa_nil)) (pg_name (i := 5) sc.nd rfl (.inl rfl))
  (pss_cons (ps_set (i := 6) sc.nd rfl (.inl rfl) (h__law_act.call (hr.mono (by first | decide | omega)) rfl pass0 (pa_cons (pv 5) (pa_cons (pv 2) pa_nil))))
  (pss_one (ps_if (pt_cmpR (op_neUK (K := K) (by rfl) hr.units) (h_write_act.call (hr.mono (by first | decide | omega)) rfl pass0 (pa_cons (pv 6) pa_nil)) (h__law_act_bytes.call (hr.mono (by first | decide | omega)) rfl pass0 (pa_cons (pv 6) pa_nil)) (nomark _)) (pss_one (ps_ret pe_bl)) pss_nil))))
  (pss_cons (ps_set (i := 7) sc.nd rfl (.inl rfl) (h__law_change.call (hr.mono (by first | decide | omega)) rfl pass0 (pa_cons (pv 2) pa_nil)))
  (pss_cons (ps_asg (h__law_entry.call (hr.mono (by first | decide | omega)) rfl pass0 (pa_cons (pv 2) pa_nil)) (pg_tupK (K := K) (n := 2) (by rfl) rfl (pgs_cons (pg_name (i := 8) sc.nd rfl (.inl rfl)) (pgs_cons (pg_name (i := 9) sc.nd rfl (.inl rfl)) pgs_nil))))
  (pss_cons (ps_asg (h__law_kept.call (hr.mono (by first | decide | omega)) rfl pass0 (pa_cons (pv 2) pa_nil)) (pg_tupK (K := K) (n := 2) (by rfl) rfl (pgs_cons (pg_name (i := 10) sc.nd rfl (.inl rfl)) (pgs_cons (pg_name (i := 11) sc.nd rfl (.inl rfl)) pgs_nil))))
  (pss_cons (ps_if (PW.pt (pw_or (pt_cmpR (op_neUK (K := K) (by rfl) hr.units) (h_write_change.call (hr.mono (by first | decide | omega)) rfl pass0 (pa_cons (pv 7) pa_nil)) (h__law_change_bytes.call (hr.mono (by first | decide | omega)) rfl pass0 (pa_cons (pv 7) pa_nil)) (nomark _)) (pw_or1 (pt_cmpR (op_neUK (K := K) (by rfl) hr.units) (h_write_capability.call (hr.mono (by first | decide | omega)) rfl pass0 (pa_cons (pv 8) pa_nil)) (pv 9) (nomark _))))) (pss_one (ps_ret pe_bl)) pss_nil)
  (pss_one (ps_if (PW.pt (pw_or (pt_cmpR (op_neUK (K := K) (by rfl) hr.units) (h_write_kept.call (hr.mono (by first | decide | omega)) rfl pass0 (pa_cons (pv 10) pa_nil)) (pv 11) (nomark _)) (pw_or1 (pt_not (pt_val (h__law_store.call (hr.mono (by first | decide | omega)) rfl pass0 (pa_cons (pv 2) pa_nil))))))) (pss_one (ps_ret pe_bl)) pss_nil)))))))))))))))
  (pss_one (ps_ret pe_bl))), ?_⟩
  try dsimp only [cxOf]
  rintro ds h R ⟨ns, rfl, hs, q⟩
  have sz := sizeLine_eq
  have hlen := hs.len
  refine vs_seq ?_
  refine vs_for (vi_range1 ?_)
  k_places
  refine ⟨_, rfl, by rw [List.length_map]; split <;> omega, by rw [List.length_map]; split <;> omega, ?_⟩
  refine ⟨fun i env' h' => ∃ o1 o2 o3 o4 o5 o6 o7 o8 o9 o10 o11 : Option D, env' = [some (dL (ns.map P.int)), o1, o2, o3, o4, o5, o6, o7, o8, o9, o10, o11] ∧ h' = h, ?_, ?_, ?_, ?_⟩
  · exact ⟨_, _, _, _, _, _, _, _, _, _, _, rfl, rfl⟩
  · exact fun _ _ _ _ => trivial
  · rintro i d env' h1 hd ⟨o1, o2, o3, o4, o5, o6, o7, o8, o9, o10, o11, rfl, rfl⟩
    obtain ⟨hi, rfl⟩ := rng_get hd
    have hi : i < (1 + if ((ns.map P.int).length : Int) < 4 then ((ns.map P.int).length : Int) else 4).toNat := hi
    rw [List.length_map] at hi
    have hi5 : i < 5 := by split at hi <;> omega
    refine vg_name ?_
    refine vs_seq ?_
    k_places
    refine ⟨ns, 0 + (i : Int), rfl, hs, by omega, by omega, fun v v0 v1 => ?_⟩
    k_places
    obtain ⟨n, hn, n0, n1⟩ : ∃ n : Int, v % 1000003 = n ∧ 0 ≤ n ∧ n < 1000003 := ⟨_, rfl, Int.emod_nonneg _ (by decide), Int.emod_lt_of_pos _ (by decide)⟩
    rw [hn]
    clear hn v0 v1
    refine ⟨n, rfl, n0, by omega, ?_⟩
    k_offL
    refine vs_seq ?_
    refine vs_mid (fun env' h' => (∃ z, okZ z ∧ env' = [some (dL (ns.map P.int)), some (dI (0 + (i : Int))), some (dI n), some (dS z), o4, o5, o6, o7, o8, o9, o10, o11]) ∧ h' = h1) ?_ ?_
    · k_places
      refine ite_dec (fun c => ?_) (fun c => ?_)
      · k_places
        have lz := txtL_len n
        have l1 : (txtN n ++ ("ab~ " : Str)).cps.toList.length ≤ 12 := by
          rw [app_cps, List.length_append]
          have e1 : (txtN n).cps.toList.length ≤ 8 := by show (txtL n).toArray.toList.length ≤ 8; simpa using lz
          have e2 : ("ab~ " : Str).cps.toList.length = 4 := by decide +kernel
          omega
        have l2 : (txtN n ++ ("ab~ " : Str)).length ≤ 12 := by
          show (txtN n ++ ("ab~ " : Str)).cps.size ≤ 12
          rw [← Array.length_toList]; exact l1
        refine v2_addWS (by rw [Str.length_append] at l2; omega) ?_
        k_places
        have l3 : (txtN n ++ ("ab~ " : Str)).length * (n % 101).toNat ≤ 12 * 100 := Nat.mul_le_mul l2 (by omega)
        refine v2_mulS (by omega) (by omega) (by omega) ?_
        k_places
        refine ⟨⟨_, ⟨?_, fun c hc => ?_⟩, rfl⟩, rfl⟩
        · rw [repS_len, Nat.mul_comm]; omega
        · have hc := rep_mem hc
          rw [app_cps] at hc
          rcases List.mem_append.mp hc with hc | hc
          · exact (txtN_ok n).cps c hc
          · exact tail_ok c hc
      · k_places
        exact ⟨⟨_, txtN_ok n, rfl⟩, rfl⟩
    rintro env' h2 ⟨⟨z, hz, rfl⟩, rfl⟩
    show VS _ _ _ _ _ _
    refine vs_seq ?_
    refine vs_asg ?_
    refine ve_slS ?_
    k_places
    refine vo_none ?_
    refine vo_some ?_
    k_places
    have hzl := hz.len
    refine ⟨2000, rfl, z, rfl, by omega, ?_⟩
    have hz2 : okZ (cutS z none (some 2000)) := by
      refine ⟨by have := cutS_le z none (some 2000); omega, fun c hc => ?_⟩
      have e : (cutS z none (some 2000)).cps.toList = cutP z.cps.toList none (some 2000) := by
        show (List.toArray _).toList = _
        rfl
      rw [e] at hc
      exact hz.cps c (cut_mem hc)
    generalize cutS z none (some 2000) = y at hz2
    k_places
    refine v2_pow ⟨by omega, by omega, by omega⟩ ?_
    have eb : n ^ (6 : Int).toNat = ((n.toNat ^ 6 : Nat) : Int) := by
      obtain ⟨k, rfl⟩ := Int.eq_ofNat_of_zero_le n0
      show (k : Int) ^ 6 = ((k ^ 6 : Nat) : Int)
      rw [Int.natCast_pow]
    rw [eb]
    have lb : (wnum (n.toNat ^ 6)).length ≤ 60 := wnum_60 (Nat.lt_of_le_of_lt (Nat.pow_le_pow_left (show n.toNat ≤ 2 ^ 20 by omega) 6) (by decide +kernel))
    generalize n.toNat ^ 6 = big at lb
    have hi2 : okI (-n) := okI_of (by omega)
    k_places
    refine ⟨big, rfl, by omega, ?_⟩
    k_places
    refine ⟨big, rfl, lb, ?_⟩
    k_places
    refine v2_neInts (x := dL _) (y := dL _) (ns := wnum big) (ms := wnum big) rfl rfl ?_
    rw [decide_eq_true rfl]
    k_places
    refine ⟨-n, rfl, hi2, ?_⟩
    k_places
    refine ⟨-n, rfl, hi2, ?_⟩
    k_places
    refine v2_neInts (x := dL _) (y := dL _) (ns := wint (-n)) (ms := wint (-n)) rfl rfl ?_
    rw [decide_eq_true rfl]
    k_places
    refine ⟨y, rfl, hz2, ?_⟩
    k_places
    refine ⟨y, rfl, hz2, ?_⟩
    k_places
    refine v2_neInts (x := dL _) (y := dL _) (ns := wstr y) (ms := wstr y) rfl rfl ?_
    rw [decide_eq_true rfl]
    k_places
    refine ⟨n, rfl, n0, by omega, ?_⟩
    k_places
    refine ⟨valN n, rfl, valN_ok (by omega), ?_⟩
    k_places
    refine ⟨n, rfl, n0, by omega, ?_⟩
    k_places
    refine ⟨valN n, rfl, valN_ok (by omega), ?_⟩
    k_places
    refine v2_neInts (x := dL _) (y := dL _) (ns := wval (valN n)) (ms := wval (valN n)) rfl rfl ?_
    rw [decide_eq_true rfl]
    k_offL
    show VS _ _ _ _ _ _
    refine vs_seq ?_
    refine vs_for (vi_range1 ?_)
    k_places
    refine ⟨11, rfl, by omega, by omega, ?_⟩
    refine ⟨fun j env' h' => ∃ o5 o6 : Option D, env' = [some (dL (ns.map P.int)), some (dI (0 + (i : Int))), some (dI n), some (dS y), some (dI big), o5, o6, o7, o8, o9, o10, o11] ∧ h' = h2, ?_, ?_, ?_, ?_⟩
    · exact ⟨_, _, rfl, rfl⟩
    · exact fun _ _ _ _ => trivial
    · rintro j d env' h3 hd ⟨o5, o6, rfl, rfl⟩
      obtain ⟨hj, rfl⟩ := rng_get hd
      have hj : j < 11 := hj
      have a1 := actN_ok (k := 0 + (j : Int)) n0 (by omega)
      k_places
      refine ⟨0 + (j : Int), n, rfl, by omega, by omega, n0, by omega, ?_⟩
      k_places
      refine ⟨_, rfl, a1.1.1, ?_⟩
      k_places
      refine ⟨_, rfl, a1.1, ?_⟩
      k_places
      refine v2_neInts (x := dL _) (y := dL _) (ns := wact (actN (0 + (j : Int)) n)) (ms := wact (actN (0 + (j : Int)) n)) rfl rfl ?_
      rw [decide_eq_true rfl]
      k_places
      exact ⟨_, _, rfl, rfl⟩
    rintro env' h3 ⟨o5, o6, rfl, rfl⟩
    have hc := chgN_ok CC n0 (by omega)
    have hc1 : okChg CC (chgN CC n) := by
      obtain ⟨a, b, hs, cp, ps, ts, e, B, _⟩ := hc
      exact ⟨a, b, hs, cp, ps, ts, e, B⟩
    show VS _ _ _ _ _ _
    refine vs_seq ?_
    k_places
    refine ⟨n, rfl, n0, by omega, ?_⟩
    k_places
    refine ⟨n, rfl, n0, by omega, ?_⟩
    refine vg_tup rfl (vgs_cons (vg_name (vgs_cons (vg_name (vgs_nil ?_)))))
    k_places
    refine ⟨n, rfl, n0, by omega, ?_⟩
    refine vg_tup rfl (vgs_cons (vg_name (vgs_cons (vg_name (vgs_nil ?_)))))
    k_places
    refine ⟨_, rfl, hc1, ?_⟩
    k_places
    refine ⟨_, rfl, hc, ?_⟩
    k_places
    refine v2_neInts (x := dL _) (y := dL _) (ns := wchg (chgN CC n)) (ms := wchg (chgN CC n)) rfl rfl ?_
    rw [decide_eq_true rfl]
    k_places
    refine ⟨_, rfl, entN_ok n0, ?_⟩
    k_places
    refine v2_neInts (x := dL _) (y := dL _) (ns := wcapE (entN n)) (ms := wcapE (entN n)) rfl rfl ?_
    rw [decide_eq_true rfl]
    k_places
    refine ⟨_, rfl, keptN_ok CK n0 (by omega), ?_⟩
    k_places
    refine v2_neInts (x := dL _) (y := dL _) (ns := wkpt (keptN CK n)) (ms := wkpt (keptN CK n)) rfl rfl ?_
    rw [decide_eq_true rfl]
    k_places
    refine ⟨n, rfl, n0, by omega, ?_⟩
    k_places
    exact ⟨_, _, _, _, _, _, _, _, _, _, _, rfl, rfl⟩
  · rintro env' h1 ⟨o1, o2, o3, o4, o5, o6, o7, o8, o9, o10, o11, rfl, rfl⟩
    k_places
    exact q _
end
end Law

namespace Law
open PySem PySem.Spec PyProof.Rows L2 Kb
/-! what the program's top holds -/
def strsV : List Value → Option (List Str)
  | [] => some []
  | .str s _ :: r => (strsV r).map (s :: ·)
  | _ => none
theorem strsV_vals : ∀ {us : List Value} {ss : List Str}, strsV us = some ss → Vals (ss.map V.str) us
  | [], ss, h => by cases h; exact .nil
  | u :: us, ss, h => by
    cases u with
    | str s t =>
      simp only [strsV] at h
      cases e : strsV us with
      | none => rw [e] at h; cases h
      | some r =>
        rw [e] at h
        cases h
        exact .cons ⟨t, rfl⟩ (strsV_vals e)
    | _ => cases h
def tupV (K : PySem.W.Frag) (a : Addr) : Option (List Value) := match K.lookup a with
  | some ⟨.type c, none, .seq its _, _⟩ => if c = "tuple" ∧ its.size ≤ 1000 then some its.toList else none
  | _ => none
theorem tupV_of {K : PySem.W.Frag} {a : Addr} {l : List Value} (h : tupV K a = some l) : ∃ (o : Obj) (its : Array Value) (n : Nat), K.lookup a = some o ∧ o.cls = .type "tuple" ∧ o.dict = none ∧ o.data = .seq its n ∧ its.size ≤ sizeLine ∧ its.toList = l := by
  unfold tupV at h
  split at h
  · rename_i c its n sl e
    split at h
    · rename_i hc
      cases h
      exact ⟨_, its, n, e, by rw [hc.1], rfl, rfl, Nat.le_trans hc.2 (by rw [sizeLine_eq]; omega), rfl⟩
    · cases h
  · cases h
theorem tupV_tup {K : PySem.W.Frag} {a : Addr} {l : List Value} {vs : List V} (h : tupV K a = some l) (v : Vals vs l) : KTup K a vs := by
  obtain ⟨o, its, n, h1, h2, _, h3, h4, rfl⟩ := tupV_of h
  exact ⟨o, its, n, h1, h2, h3, h4, v⟩
theorem tupV_td {K : PySem.W.Frag} {a : Addr} {l : List Value} (h : tupV K a = some l) : KTd K a := by
  obtain ⟨o, its, n, h1, h2, h3, _⟩ := tupV_of h
  exact ⟨o, h1, h2, h3⟩
/-- texts of a tuple of the top -/
def strsK (K : PySem.W.Frag) (a : Addr) : Option (List Str) := (tupV K a).bind strsV
theorem strsK_of {K : PySem.W.Frag} {a : Addr} {ss : List Str} (h : strsK K a = some ss) : KTup K a (ss.map V.str) ∧ KTd K a := by
  unfold strsK at h
  cases e : tupV K a with
  | none => rw [e] at h; cases h
  | some l => rw [e] at h; exact ⟨tupV_tup e (strsV_vals h), tupV_td e⟩
def refV : Value → Addr
  | .ref a => a
  | _ => 0
def pairV (K : PySem.W.Frag) (a : Addr) : Option (Str × Addr) := match tupV K a with
  | some [.str k _, .ref f] => some (k, f)
  | _ => none
theorem pairV_of {K : PySem.W.Frag} {a : Addr} {q : Str × Addr} (h : pairV K a = some q) : KTup K a [V.str q.1, V.ref q.2] := by
  unfold pairV at h
  split at h
  · rename_i k t f e
    cases h
    exact tupV_tup e (.cons ⟨t, rfl⟩ (.cons rfl .nil))
  · cases h
def rdAct (K : PySem.W.Frag) : Value → Option (Str × List Str)
  | .ref p => (pairV K p).bind fun q => (strsK K q.2).map fun ss => (q.1, ss)
  | _ => none
def rdActs (K : PySem.W.Frag) : List Value → Option (List (Str × List Str))
  | [] => some []
  | v :: vs => (rdAct K v).bind fun q => (rdActs K vs).map (q :: ·)
theorem rdAct_of {K : PySem.W.Frag} {v : Value} {q : Str × List Str} (h : rdAct K v = some q) : ∃ f, v = .ref (refV v) ∧ pairV K (refV v) = some (q.1, f) ∧ strsK K f = some q.2 := by
  cases v with
  | ref p =>
    simp only [rdAct] at h
    cases e : pairV K p with
    | none => rw [e] at h; cases h
    | some r =>
      rw [e] at h
      simp only [Option.bind_some] at h
      cases e2 : strsK K r.2 with
      | none => rw [e2] at h; cases h
      | some ss =>
        rw [e2] at h
        cases h
        exact ⟨r.2, rfl, e, e2⟩
  | _ => cases h
theorem rdActs_get {K : PySem.W.Frag} : ∀ {vs : List Value} {qs : List (Str × List Str)}, rdActs K vs = some qs → vs.length = qs.length ∧ ∀ (j : Nat) (q : Str × List Str), qs[j]? = some q → ∃ v, vs[j]? = some v ∧ rdAct K v = some q
  | [], qs, h => by cases h; exact ⟨rfl, fun j q e => by simp at e⟩
  | v :: vs, qs, h => by
    simp only [rdActs] at h
    cases e : rdAct K v with
    | none => rw [e] at h; cases h
    | some r =>
      rw [e] at h
      simp only [Option.bind_some] at h
      cases e2 : rdActs K vs with
      | none => rw [e2] at h; cases h
      | some rs =>
        rw [e2] at h
        cases h
        obtain ⟨h1, h2⟩ := rdActs_get e2
        refine ⟨by rw [List.length_cons, List.length_cons, h1], fun j q hj => ?_⟩
        cases j with
        | zero => cases hj; exact ⟨v, rfl, e⟩
        | succ j => obtain ⟨v', a, b⟩ := h2 j q (by simpa using hj); exact ⟨v', by simpa using a, b⟩
def actsK (K : PySem.W.Frag) (a : Addr) : Option (List (Str × List Str)) := (tupV K a).bind (rdActs K)
theorem vals_refs : ∀ {vs : List Value} (as : Nat → Addr), (∀ (j : Nat) (v : Value), vs[j]? = some v → v = .ref (as j)) → Vals ((List.range vs.length).map fun j => V.ref (as j)) vs
  | [], _, _ => .nil
  | v :: vs, as, h => by
    rw [List.length_cons, List.range_succ_eq_map, List.map_cons, List.map_map]
    exact .cons (h 0 v rfl) (vals_refs (fun j => as (j + 1)) fun j u e => h (j + 1) u (by simpa using e))
theorem topA_of {K : PySem.W.Frag} {w : World} {cA cF : Addr} {ff : Fm → Addr} (h : actsK K cA = some actsT) (hf : ∀ z f, fmOf z = some f → KDct K w cF z (.ref (ff f))) : ∃ pa fa, TopA K w cA cF pa fa ff := by
  unfold actsK at h
  cases e : tupV K cA with
  | none => rw [e] at h; cases h
  | some l =>
    rw [e] at h
    have h : rdActs K l = some actsT := h
    obtain ⟨hl, hg⟩ := rdActs_get h
    refine ⟨fun j => refV (l[j]?.getD .none), fun j => ((pairV K (refV (l[j]?.getD .none))).map (·.2)).getD 0, ?_, ?_, ?_, hf⟩
    · have hl : l.length = 11 := hl
      rw [← hl]
      refine tupV_tup e (vals_refs _ fun j v hv => ?_)
      have hj : j < 11 := by rw [← hl]; exact (List.getElem?_eq_some_iff.mp hv).1
      have hq := List.getElem?_eq_getElem (l := actsT) (i := j) hj
      obtain ⟨v', h1, h2⟩ := hg j _ hq
      rw [hv] at h1; cases h1
      obtain ⟨f, h3, _⟩ := rdAct_of h2
      show v = .ref (refV (l[j]?.getD .none))
      rw [hv]
      exact h3
    · intro j q hq
      obtain ⟨v, h1, h2⟩ := hg j q hq
      obtain ⟨f, h3, h4, h5⟩ := rdAct_of h2
      show KTup K (refV (l[j]?.getD .none)) [V.str q.1, V.ref (((pairV K (refV (l[j]?.getD .none))).map (·.2)).getD 0)]
      rw [h1]
      show KTup K (refV v) [V.str q.1, V.ref (((pairV K (refV v)).map (·.2)).getD 0)]
      rw [h4]
      exact pairV_of h4
    · intro j q hq
      obtain ⟨v, h1, h2⟩ := hg j q hq
      obtain ⟨f, h3, h4, h5⟩ := rdAct_of h2
      show KTup K (((pairV K (refV (l[j]?.getD .none))).map (·.2)).getD 0) (q.2.map V.str)
      rw [h1]
      show KTup K (((pairV K (refV v)).map (·.2)).getD 0) (q.2.map V.str)
      rw [h4]
      exact (strsK_of h5).1
/-- the defs that write the fields -/
def ffOf (a b c d e f g : Addr) : Fm → Addr
  | .str => a
  | .spot => b
  | .spots => c
  | .holds => d
  | .value => e
  | .int => f
  | .opt => g
theorem fields_of {K : PySem.W.Frag} {w : World} {cF a b c d e f g : Addr} (h : He.dicW K cF = some (He.keysIn w.params ["string", "spot", "spots", "holds", "value", "integer", "optional spot", "optional mark", "mark", "name"]))
    (h1 : PySem.W.nsIn K cF "string" = some (some (.ref a))) (h2 : PySem.W.nsIn K cF "spot" = some (some (.ref b))) (h3 : PySem.W.nsIn K cF "spots" = some (some (.ref c))) (h4 : PySem.W.nsIn K cF "holds" = some (some (.ref d))) (h5 : PySem.W.nsIn K cF "value" = some (some (.ref e)))
    (h6 : PySem.W.nsIn K cF "integer" = some (some (.ref f))) (h7 : PySem.W.nsIn K cF "optional spot" = some (some (.ref g))) (h8 : PySem.W.nsIn K cF "optional mark" = some (some (.ref g))) (h9 : PySem.W.nsIn K cF "mark" = some (some (.ref b))) (h10 : PySem.W.nsIn K cF "name" = some (some (.ref b))) :
    ∀ z x, fmOf z = some x → KDct K w cF z (.ref (ffOf a b c d e f g x)) := by
  intro z x hx
  obtain ⟨es, n, kd⟩ := He.dicW_ok h
  have mk : ∀ {z : Str} {r : Addr}, PySem.W.nsIn K cF z = some (some (.ref r)) → KDct K w cF z (.ref r) := fun q => ⟨es, n, _, kd.at_, kd.lit, q, rfl⟩
  unfold fmOf at hx
  cases q : fmT.find? (fun q => decide (q.1 = z)) with
  | none => rw [q] at hx; cases hx
  | some p =>
    rw [q] at hx
    cases hx
    have hz : p.1 = z := of_decide_eq_true (List.find?_some (p := fun q : Str × Fm => decide (q.1 = z)) q)
    have hm := List.mem_of_find?_eq_some q
    subst hz
    simp only [fmT, List.mem_cons, List.mem_nil_iff, or_false] at hm
    rcases hm with rfl | rfl | rfl | rfl | rfl | rfl | rfl | rfl | rfl | rfl
    · exact mk h1
    · exact mk h2
    · exact mk h3
    · exact mk h4
    · exact mk h5
    · exact mk h6
    · exact mk h7
    · exact mk h8
    · exact mk h9
    · exact mk h10
section
variable {Pg : Program} {w : World} {K : PySem.W.Frag} {Θ : Tbs} {mg : Str → Option Value} {base : Heap}
theorem ok_wnumV (h_write_number : HasF Pg w K mg base CX0 1 "write_number" ["number"] (spD K Θ W_wnum)) : HasF Pg w K mg base CX0 1 "write_number" ["number"] (spD K Θ (W_wr wN okN)) :=
  h_write_number.weak fun ds h R ⟨v, e, hv, q⟩ => by
    cases v with
    | int i =>
      have hl := okN_len (p := .int i) hv
      have h0 : 0 ≤ i := hv.1
      exact ⟨i.toNat, by rw [e, Int.toNat_of_nonneg h0], by show (wN (.int i)).length ≤ _; omega, q⟩
    | _ => exact hv.elim
end
end Law

namespace Law
open PySem PySem.Spec PyProof.Rows L2 Kb
theorem law_all {l : PySem.W.OpenLaw} {w : World} {K : PySem.W.Frag} {h : Heap} {mg : Str → Option Value} {fa fl CC CK C : Addr} (X : K.In h) (G : h.Ns mainGlobals mg) (hfa : mg "law" = some (.ref fa))
    {od an : Option Addr} {sl : Array (Option Value)} {oc kV dc pm cd ct : Value}
    (aCC : PySem.W.nsIn K mainGlobals "Change" = some (some (.ref CC)))
    (pgCC : PySem.W.plainGet K CC Str.empty = true)
    (hdCC : PySem.W.hasDictIn K CC = true)
    (poCC : PySem.W.plainOver K CC = true)
    (saCC : PySem.W.findIn K (.ref CC) "__setattr__" = some (some (.builtin "object.__setattr__")))
    (nCC1 : PySem.W.findIn K (.ref CC) "author" = some none)
    (nCC2 : PySem.W.findIn K (.ref CC) "number" = some none)
    (nCC3 : PySem.W.findIn K (.ref CC) "heard" = some none)
    (nCC4 : PySem.W.findIn K (.ref CC) "capability" = some none)
    (nCC5 : PySem.W.findIn K (.ref CC) "publics" = some none)
    (nCC6 : PySem.W.findIn K (.ref CC) "parts" = some none)
    (aCK : PySem.W.nsIn K mainGlobals "Kept" = some (some (.ref CK)))
    (pgCK : PySem.W.plainGet K CK Str.empty = true)
    (hdCK : PySem.W.hasDictIn K CK = true)
    (poCK : PySem.W.plainOver K CK = true)
    (saCK : PySem.W.findIn K (.ref CK) "__setattr__" = some (some (.builtin "object.__setattr__")))
    (nCK1 : PySem.W.findIn K (.ref CK) "acts" = some none)
    (nCK2 : PySem.W.findIn K (.ref CK) "sums" = some none)
    (nCK3 : PySem.W.findIn K (.ref CK) "texts" = some none)
    (aC : PySem.W.nsIn K mainGlobals "Store" = some (some (.ref C)))
    (pgC : PySem.W.plainGet K C Str.empty = true)
    (hdC : PySem.W.hasDictIn K C = true)
    (poC : PySem.W.plainOver K C = true)
    (saC : PySem.W.findIn K (.ref C) "__setattr__" = some (some (.builtin "object.__setattr__")))
    (nC1 : PySem.W.findIn K (.ref C) "members" = some none)
    (nC2 : PySem.W.findIn K (.ref C) "cut" = some none)
    (nC3 : PySem.W.findIn K (.ref C) "capabilities" = some none)
    (nC4 : PySem.W.findIn K (.ref C) "kept" = some none)
    (nC5 : PySem.W.findIn K (.ref C) "changes" = some none)
    (z_len : PySem.W.nsIn K mainGlobals "len" = some none)
    (z_range : PySem.W.nsIn K mainGlobals "range" = some none)
    (z_min : PySem.W.nsIn K mainGlobals "min" = some none)
    (d__law_draw : DefAt K mg "_law_draw" st_draw ["script", "k"])
    (z_int : PySem.W.nsIn K mainGlobals "int" = some none)
    (d__law_text : DefAt K mg "_law_text" st_ltxt ["number"])
    (d__law_value : DefAt K mg "_law_value" st_lvl ["number"])
    (d__law_act : DefAt K mg "_law_act" st_lac ["kind", "number"])
    (z_tuple : PySem.W.nsIn K mainGlobals "tuple" = some none)
    (z_str : PySem.W.nsIn K mainGlobals "str" = some none)
    (d__law_spot : DefAt K mg "_law_spot" st_lspt ["number"])
    (d_write_number : DefAt K mg "write_number" st_wnum ["number"])
    (d__law_number : DefAt K mg "_law_number" st_lnum ["number"])
    (d_write_integer : DefAt K mg "write_integer" st_wint ["number"])
    (z_abs : PySem.W.nsIn K mainGlobals "abs" = some none)
    (d__law_signed : DefAt K mg "_law_signed" st_lsgn ["number"])
    (d_write_string : DefAt K mg "write_string" st_wstr ["text"])
    {r__write_character : Addr}
    (q__write_character : PySem.W.nsIn K mainGlobals "_write_character" = some (some (.ref r__write_character)))
    (d_write_list : DefAt K mg "write_list" st_wlst ["things", "write"])
    (d__write_character : DefAt K mg "_write_character" st_wchr ["character"])
    (z_ord : PySem.W.nsIn K mainGlobals "ord" = some none)
    (d__law_string : DefAt K mg "_law_string" st_lstr ["text"])
    (d__law_numbers : DefAt K mg "_law_numbers" st_lnums ["numbers"])
    (d_write_value : DefAt K mg "write_value" st_wval ["value"])
    (z_bool : PySem.W.nsIn K mainGlobals "bool" = some none)
    (z_isinstance : PySem.W.nsIn K mainGlobals "isinstance" = some none)
    (d_write_boolean : DefAt K mg "write_boolean" st_wbool ["value"])
    (d__law_bytes_of : DefAt K mg "_law_bytes_of" st_lbyt ["value"])
    (d_write_act : DefAt K mg "write_act" st_wact ["act"])
    {r_ACTS : Addr}
    (q_ACTS : PySem.W.nsIn K mainGlobals "ACTS" = some (some (.ref r_ACTS)))
    {r_FIELDS : Addr}
    (q_FIELDS : PySem.W.nsIn K mainGlobals "FIELDS" = some (some (.ref r_FIELDS)))
    {r_write_string : Addr}
    (q_write_string : PySem.W.nsIn K mainGlobals "write_string" = some (some (.ref r_write_string)))
    {r_write_numbers : Addr}
    (q_write_numbers : PySem.W.nsIn K mainGlobals "write_numbers" = some (some (.ref r_write_numbers)))
    {r__write_spots : Addr}
    (q__write_spots : PySem.W.nsIn K mainGlobals "_write_spots" = some (some (.ref r__write_spots)))
    {r__write_holds : Addr}
    (q__write_holds : PySem.W.nsIn K mainGlobals "_write_holds" = some (some (.ref r__write_holds)))
    {r_write_value : Addr}
    (q_write_value : PySem.W.nsIn K mainGlobals "write_value" = some (some (.ref r_write_value)))
    {r_write_integer : Addr}
    (q_write_integer : PySem.W.nsIn K mainGlobals "write_integer" = some (some (.ref r_write_integer)))
    {r__write_optional_numbers : Addr}
    (q__write_optional_numbers : PySem.W.nsIn K mainGlobals "_write_optional_numbers" = some (some (.ref r__write_optional_numbers)))
    (tA : actsK K r_ACTS = some actsT)
    (dF : He.dicW K r_FIELDS = some (He.keysIn w.params ["string", "spot", "spots", "holds", "value", "integer", "optional spot", "optional mark", "mark", "name"]))
    (dF0 : PySem.W.nsIn K r_FIELDS "string" = some (some (.ref r_write_string)))
    (dF1 : PySem.W.nsIn K r_FIELDS "spot" = some (some (.ref r_write_numbers)))
    (dF2 : PySem.W.nsIn K r_FIELDS "spots" = some (some (.ref r__write_spots)))
    (dF3 : PySem.W.nsIn K r_FIELDS "holds" = some (some (.ref r__write_holds)))
    (dF4 : PySem.W.nsIn K r_FIELDS "value" = some (some (.ref r_write_value)))
    (dF5 : PySem.W.nsIn K r_FIELDS "integer" = some (some (.ref r_write_integer)))
    (dF6 : PySem.W.nsIn K r_FIELDS "optional spot" = some (some (.ref r__write_optional_numbers)))
    (dF7 : PySem.W.nsIn K r_FIELDS "optional mark" = some (some (.ref r__write_optional_numbers)))
    (dF8 : PySem.W.nsIn K r_FIELDS "mark" = some (some (.ref r_write_numbers)))
    (dF9 : PySem.W.nsIn K r_FIELDS "name" = some (some (.ref r_write_numbers)))
    (z_zip : PySem.W.nsIn K mainGlobals "zip" = some none)
    (d_write_numbers : DefAt K mg "write_numbers" st_wnums ["numbers"])
    (d__write_spots : DefAt K mg "_write_spots" st_wspots ["spots"])
    (d__write_holds : DefAt K mg "_write_holds" st_wholds ["holds"])
    {r_HOLDS : Addr}
    (q_HOLDS : PySem.W.nsIn K mainGlobals "HOLDS" = some (some (.ref r_HOLDS)))
    (sK_HOLDS : strsK K r_HOLDS = some holdWs)
    (d__write_optional_numbers : DefAt K mg "_write_optional_numbers" st_woptn ["numbers"])
    (d_write_optional : DefAt K mg "write_optional" st_wopt ["thing", "write"])
    (d__law_act_bytes : DefAt K mg "_law_act_bytes" st_lact ["act"])
    (d__law_optional : DefAt K mg "_law_optional" st_lopt ["numbers"])
    (d__law_holds : DefAt K mg "_law_holds" st_lhld ["holds"])
    (d__law_change : DefAt K mg "_law_change" st_lch ["number"])
    (d_Change___init__ : InitAt K CC "Change.__init__" st_cinit ["self", "author", "number", "heard", "capability", "publics", "parts"])
    (d_frozen : DefAt K mg "frozen" st_frz ["value"])
    (z_list : PySem.W.nsIn K mainGlobals "list" = some none)
    (d__law_rights : DefAt K mg "_law_rights" st_lrts ["number"])
    (d__law_entry : DefAt K mg "_law_entry" st_len ["number"])
    (d__law_rights_bytes : DefAt K mg "_law_rights_bytes" st_lrtb ["rights"])
    (d__law_kept : DefAt K mg "_law_kept" st_lkp ["number"])
    (d_Kept___init__ : InitAt K CK "Kept.__init__" st_kinit ["self", "acts", "sums", "texts"])
    (d_write_change : DefAt K mg "write_change" st_wchg ["change"])
    {r_write_number : Addr}
    (q_write_number : PySem.W.nsIn K mainGlobals "write_number" = some (some (.ref r_write_number)))
    {r__write_public : Addr}
    (q__write_public : PySem.W.nsIn K mainGlobals "_write_public" = some (some (.ref r__write_public)))
    {r__write_part : Addr}
    (q__write_part : PySem.W.nsIn K mainGlobals "_write_part" = some (some (.ref r__write_part)))
    (d__write_capability_name : DefAt K mg "_write_capability_name" st_wcapn ["capability"])
    (d__write_public : DefAt K mg "_write_public" st_wpub ["act"])
    (d__write_rights : DefAt K mg "_write_rights" st_wrts ["rights"])
    (d__write_part : DefAt K mg "_write_part" st_wprt ["acts"])
    {r_write_act : Addr}
    (q_write_act : PySem.W.nsIn K mainGlobals "write_act" = some (some (.ref r_write_act)))
    (d__law_change_bytes : DefAt K mg "_law_change_bytes" st_lchg ["change"])
    (d_write_capability : DefAt K mg "write_capability" st_wcapE ["entry"])
    (d_write_kept : DefAt K mg "write_kept" st_wkpt ["kept"])
    {r__write_kept_act : Addr}
    (q__write_kept_act : PySem.W.nsIn K mainGlobals "_write_kept_act" = some (some (.ref r__write_kept_act)))
    {r__write_kept_sum : Addr}
    (q__write_kept_sum : PySem.W.nsIn K mainGlobals "_write_kept_sum" = some (some (.ref r__write_kept_sum)))
    {r__write_kept_text : Addr}
    (q__write_kept_text : PySem.W.nsIn K mainGlobals "_write_kept_text" = some (some (.ref r__write_kept_text)))
    (d__write_kept_act : DefAt K mg "_write_kept_act" st_wkact ["pair"])
    (d__write_kept_sum : DefAt K mg "_write_kept_sum" st_wksum ["pair"])
    (d__write_kept_text : DefAt K mg "_write_kept_text" st_wktxt ["pair"])
    {r__write_kept_character : Addr}
    (q__write_kept_character : PySem.W.nsIn K mainGlobals "_write_kept_character" = some (some (.ref r__write_kept_character)))
    (d__write_kept_character : DefAt K mg "_write_kept_character" st_wkchr ["pair"])
    (d__law_store : DefAt K mg "_law_store" st_lst ["number"])
    (d_Store___init__ : InitAt K C "Store.__init__" st_sinit ["self", "members"])
    {tk_SPACES : Tok}
    (q_SPACES : PySem.W.nsIn K mainGlobals "SPACES" = some (some (.int 4 tk_SPACES)))
    (d_Store_add : MethAt K C "add" "Store.add" st_sadd ["self", "change"])
    (d_Store_find : MethAt K C "find" "Store.find" st_sfind ["self", "name"])
    (d_Store_has : MethAt K C "has" "Store.has" st_shas ["self", "name"])
    (d_Store_count : MethAt K C "count" "Store.count" st_scount ["self", "member"])
    (d_asking : DefAt K mg "asking" st_ask ["store", "member"])
    {tk_ASKS : Tok}
    (q_ASKS : PySem.W.nsIn K mainGlobals "ASKS" = some (some (.int 1 tk_ASKS)))
    (d__unknown_names : DefAt K mg "_unknown_names" st_unk ["store", "space"])
    (d_Change_name : MethAt K CC "name" "Change.name" st_cnm ["self"])
    (d_Store_counts : MethAt K C "counts" "Store.counts" st_scnts ["self"])
    (d_write_store : DefAt K mg "write_store" st_wsto ["store"])
    {r_write_capability : Addr}
    (q_write_capability : PySem.W.nsIn K mainGlobals "write_capability" = some (some (.ref r_write_capability)))
    {r_write_kept : Addr}
    (q_write_kept : PySem.W.nsIn K mainGlobals "write_kept" = some (some (.ref r_write_kept)))
    {r_write_change : Addr}
    (q_write_change : PySem.W.nsIn K mainGlobals "write_change" = some (some (.ref r_write_change)))
    (d__law_order : DefAt K mg "_law_order" st_lor ["number"])
    (al : PySem.W.nsIn K mainGlobals "law" = some (some (.ref fl)))
    (ll : K.lookup fl = some ⟨oc, od, .func (PySem.W.fnOf "law" "law" (defArgs st_law) (defBody st_law) (defScope st_law) .none kV dc pm an cd ct), sl⟩)
    (cl : PySem.W.codeIn K cd "law" = true)
    (kl : PySem.W.keepIn K (.ref fl) = true) :
    ∃ fd : FuncData, (∀ (s : Shared) (v : Value), BindsTo s fd ⟨[v], []⟩ [("script", v)]) ∧ ∀ base : Heap, K.In base → base.Ns mainGlobals mg → FnOk l.prog w K mg base CX0 16 fa fd ["script"] (spD K (Tbs.of []) W_law) := by
  have e := hfa.symm.trans (PySem.W.mg_of X G al)
  cases e
  have F := fun_mk (st := st_law) ll cl kl
  have m : ∀ {x : Str}, PySem.W.nsIn K mainGlobals x = some none → mg x = none := fun z => PySem.W.mg_none_of X G z
  have TCC : ChgC K mg CC := ⟨⟨pgCC, hdCC, poCC, saCC⟩, nCC1, nCC2, nCC3, nCC4, nCC5, nCC6, PySem.W.mg_of X G aCC⟩
  have TCK : KptC K mg CK := ⟨⟨pgCK, hdCK, poCK, saCK⟩, nCK1, nCK2, nCK3, PySem.W.mg_of X G aCK⟩
  have TC : StoC K mg C := ⟨⟨pgC, hdC, poC, saC⟩, nC1, nC2, nC3, nC4, nC5, PySem.W.mg_of X G aC⟩
  refine ⟨PySem.W.fnOf "law" "law" (defArgs st_law) (defBody st_law) (defScope st_law) .none kV dc pm an cd ct, fun s v => .of_eq rfl, fun base _ _ => ?_⟩
  obtain ⟨pa, fa2, TA⟩ := topA_of (w := w) (ff := ffOf r_write_string r_write_numbers r__write_spots r__write_holds r_write_value r_write_integer r__write_optional_numbers) tA (fields_of dF dF0 dF1 dF2 dF3 dF4 dF5 dF6 dF7 dF8 dF9)
  have h_ok_draw := ok_draw (Pg := l.prog) (w := w) (base := base) (Θ := Tbs.of [])  d__law_draw (m z_int) (m z_len) (m z_range) (m z_min)
  have h_ok_ltxt := ok_ltxt (Pg := l.prog) (w := w) (base := base) (Θ := Tbs.of [])  d__law_text (m z_range)
  have h_ok_lvl := ok_lvl (Pg := l.prog) (w := w) (base := base) (Θ := Tbs.of [])  d__law_value h_ok_ltxt
  have h_ok_lspt := ok_lspt (Pg := l.prog) (w := w) (base := base) (Θ := Tbs.of [])  d__law_spot
  have h_ok_lac := ok_lac (Pg := l.prog) (w := w) (base := base) (Θ := Tbs.of [])  d__law_act (m z_range) (m z_tuple) (m z_str) h_ok_lspt h_ok_ltxt h_ok_lvl
  have h_ok_wnum := ok_wnum (Pg := l.prog) (w := w) (base := base) (Θ := Tbs.of [])  d_write_number
  have h_ok_lnum := ok_lnum (Pg := l.prog) (w := w) (base := base) (Θ := Tbs.of [])  d__law_number (m z_len)
  have h_ok_wint := ok_wint (Pg := l.prog) (w := w) (base := base) (Θ := Tbs.of [])  d_write_integer (m z_abs) h_ok_wnum
  have h_ok_lsgn := ok_lsgn (Pg := l.prog) (w := w) (base := base) (Θ := Tbs.of [])  d__law_signed (m z_abs) (m z_int) h_ok_lnum
  have h_ok_wchr := ok_wchr (Pg := l.prog) (w := w) (base := base) (Θ := Tbs.of [])  d__write_character (m z_ord) h_ok_wnum
  have h_ok_wnumO := ok_wnumO (Pg := l.prog) (w := w) (base := base) (Θ := Tbs.of [])  d_write_number
  have h_ok_wlstS_f__write_character := ok_wlstS (Pg := l.prog) (w := w) (base := base) (Θ := Tbs.of [])  d_write_list (h_ok_wchr.at_ (PySem.W.mg_of X G q__write_character) |>.mono (by decide)) (m z_len) h_ok_wnumO
  have h_ok_wstr := ok_wstr (Pg := l.prog) (w := w) (base := base) (Θ := Tbs.of [])  d_write_string (PySem.W.mg_of X G q__write_character) h_ok_wlstS_f__write_character
  have h_ok_lnums := ok_lnums (Pg := l.prog) (w := w) (base := base) (Θ := Tbs.of [])  d__law_numbers h_ok_lnum
  have h_ok_lstr := ok_lstr (Pg := l.prog) (w := w) (base := base) (Θ := Tbs.of [])  d__law_string (m z_len) (m z_ord) h_ok_lnum h_ok_lnums
  have h_ok_wbool := ok_wbool (Pg := l.prog) (w := w) (base := base) (Θ := Tbs.of [])  d_write_boolean
  have h_ok_wval := ok_wval (Pg := l.prog) (w := w) (base := base) (Θ := Tbs.of [])  d_write_value (m z_int) (m z_bool) (m z_isinstance) h_ok_wint h_ok_wbool h_ok_wstr
  have h_ok_lbyt := ok_lbyt (Pg := l.prog) (w := w) (base := base) (Θ := Tbs.of [])  d__law_bytes_of (m z_isinstance) (m z_int) (m z_bool) h_ok_lsgn h_ok_lstr
  have h_ok_wnums := ok_wnums (Pg := l.prog) (w := w) (base := base) (Θ := Tbs.of [])  d_write_numbers h_ok_wnum
  have h_ok_wlstT_f_write_numbers_wNs_okNs := ok_wlstT (Pg := l.prog) (w := w) (base := base) (Θ := Tbs.of [])  d_write_list (h_ok_wnums.at_ (PySem.W.mg_of X G q_write_numbers)) (m z_len) h_ok_wnumO (by decide)
  have h_ok_wspots := ok_wspots (Pg := l.prog) (w := w) (base := base) (Θ := Tbs.of [])  d__write_spots (PySem.W.mg_of X G q_write_numbers) h_ok_wlstT_f_write_numbers_wNs_okNs
  have h_ok_wholds := ok_wholds (Pg := l.prog) (w := w) (base := base) (Θ := Tbs.of [])  d__write_holds (m z_tuple) (m z_len) (m z_isinstance) (PySem.W.mg_of X G q_HOLDS) (strsK_of sK_HOLDS).1 (strsK_of sK_HOLDS).2 h_ok_wnums
  have h_ok_wopt_f_write_numbers_wNs_okNs := ok_wopt (Pg := l.prog) (w := w) (base := base) (Θ := Tbs.of [])  d_write_optional (h_ok_wnums.at_ (PySem.W.mg_of X G q_write_numbers))
  have h_ok_woptn := ok_woptn (Pg := l.prog) (w := w) (base := base) (Θ := Tbs.of [])  d__write_optional_numbers (PySem.W.mg_of X G q_write_numbers) h_ok_wopt_f_write_numbers_wNs_okNs
  have h_ok_wact := ok_wact (Pg := l.prog) (w := w) (base := base) (Θ := Tbs.of [])  d_write_act TA (PySem.W.mg_of X G q_ACTS) (PySem.W.mg_of X G q_FIELDS) (m z_zip) h_ok_wnumO (h_ok_wstr.at_ (PySem.W.mg_of X G q_write_string) |>.mono (by decide)) (h_ok_wnums.at_ (PySem.W.mg_of X G q_write_numbers) |>.mono (by decide)) (h_ok_wspots.at_ (PySem.W.mg_of X G q__write_spots) |>.mono (by decide)) (h_ok_wholds.at_ (PySem.W.mg_of X G q__write_holds) |>.mono (by decide)) (h_ok_wval.at_ (PySem.W.mg_of X G q_write_value) |>.mono (by decide)) (h_ok_wint.at_ (PySem.W.mg_of X G q_write_integer) |>.mono (by decide)) (h_ok_woptn.at_ (PySem.W.mg_of X G q__write_optional_numbers) |>.mono (by decide))
  have h_ok_lopt := ok_lopt (Pg := l.prog) (w := w) (base := base) (Θ := Tbs.of [])  d__law_optional h_ok_lnums
  have h_ok_lhld := ok_lhld (Pg := l.prog) (w := w) (base := base) (Θ := Tbs.of [])  d__law_holds h_ok_lnums
  have h_ok_lact := ok_lact (Pg := l.prog) (w := w) (base := base) (Θ := Tbs.of [])  d__law_act_bytes (m z_len) h_ok_lnum h_ok_lnums h_ok_lsgn h_ok_lstr h_ok_lopt h_ok_lbyt h_ok_lhld
  have h_ok_frz_8 := ok_frz (Pg := l.prog) (w := w) (base := base) (Θ := Tbs.of [])  d_frozen (m z_list) (m z_tuple) (m z_isinstance) 8
  have h_ok_cinit_CC := ok_cinit (Pg := l.prog) (w := w) (base := base) (Θ := Tbs.of []) (C := CC) d_Change___init__ TCC h_ok_frz_8
  have h_ok_lrts := ok_lrts (Pg := l.prog) (w := w) (base := base) (Θ := Tbs.of [])  d__law_rights (m z_range) (m z_tuple)
  have h_ok_lch := ok_lch (Pg := l.prog) (w := w) (base := base) (Θ := Tbs.of []) (CC := CC) d__law_change (m z_range) (m z_len) h_ok_cinit_CC (PySem.W.mg_of X G aCC) h_ok_lspt h_ok_lrts h_ok_lac
  have h_ok_lrtb := ok_lrtb (Pg := l.prog) (w := w) (base := base) (Θ := Tbs.of [])  d__law_rights_bytes (m z_int)
  have h_ok_len := ok_len (Pg := l.prog) (w := w) (base := base) (Θ := Tbs.of [])  d__law_entry h_ok_lspt h_ok_lrts h_ok_lnums h_ok_lopt h_ok_lrtb
  have h_ok_kinit_CK := ok_kinit (Pg := l.prog) (w := w) (base := base) (Θ := Tbs.of []) (C := CK) d_Kept___init__ TCK h_ok_frz_8
  have h_ok_lkp := ok_lkp (Pg := l.prog) (w := w) (base := base) (Θ := Tbs.of []) (CK := CK) d__law_kept (m z_len) (m z_ord) h_ok_kinit_CK (PySem.W.mg_of X G aCK) h_ok_lspt h_ok_lac h_ok_lnum h_ok_lnums h_ok_lsgn h_ok_lact
  have h_ok_wcapn := ok_wcapn (Pg := l.prog) (w := w) (base := base) (Θ := Tbs.of [])  d__write_capability_name (PySem.W.mg_of X G q_write_numbers) h_ok_wopt_f_write_numbers_wNs_okNs
  have h_ok_wnumV := ok_wnumV (Pg := l.prog) (w := w) (base := base) (Θ := Tbs.of [])  h_ok_wnum
  have h_ok_wlstT_f_write_number_wN_okN := ok_wlstT (Pg := l.prog) (w := w) (base := base) (Θ := Tbs.of [])  d_write_list (h_ok_wnumV.at_ (PySem.W.mg_of X G q_write_number)) (m z_len) h_ok_wnumO (by decide)
  have h_ok_wrts := ok_wrts (Pg := l.prog) (w := w) (base := base) (Θ := Tbs.of [])  d__write_rights
  have h_ok_wpub := ok_wpub (Pg := l.prog) (w := w) (base := base) (Θ := Tbs.of [])  d__write_public h_ok_wnum h_ok_wrts h_ok_wcapn
  have h_ok_wlstT_f__write_public_wpub_okPb := ok_wlstT (Pg := l.prog) (w := w) (base := base) (Θ := Tbs.of [])  d_write_list (h_ok_wpub.at_ (PySem.W.mg_of X G q__write_public)) (m z_len) h_ok_wnumO (by decide)
  have h_ok_wlstT_f_write_act_wact_okAct := ok_wlstT (Pg := l.prog) (w := w) (base := base) (Θ := Tbs.of [])  d_write_list (h_ok_wact.at_ (PySem.W.mg_of X G q_write_act)) (m z_len) h_ok_wnumO (by decide)
  have h_ok_wprt := ok_wprt (Pg := l.prog) (w := w) (base := base) (Θ := Tbs.of [])  d__write_part (PySem.W.mg_of X G q_write_act) h_ok_wlstT_f_write_act_wact_okAct
  have h_ok_wopt_f__write_part_wpr_okPr := ok_wopt (Pg := l.prog) (w := w) (base := base) (Θ := Tbs.of [])  d_write_optional (h_ok_wprt.at_ (PySem.W.mg_of X G q__write_part))
  have h_ok_wchg := ok_wchg (Pg := l.prog) (w := w) (base := base) (Θ := Tbs.of [])  d_write_change TCC (PySem.W.mg_of X G q_write_number) (PySem.W.mg_of X G q__write_public) (PySem.W.mg_of X G q__write_part) h_ok_wnums h_ok_wcapn h_ok_wlstT_f_write_number_wN_okN h_ok_wlstT_f__write_public_wpub_okPb h_ok_wopt_f__write_part_wpr_okPr
  have h_ok_lchg := ok_lchg (Pg := l.prog) (w := w) (base := base) (Θ := Tbs.of [])  d__law_change_bytes TCC (m z_len) h_ok_lnum h_ok_lnums h_ok_lopt h_ok_lrtb h_ok_lact
  have h_ok_wcapE := ok_wcapE (Pg := l.prog) (w := w) (base := base) (Θ := Tbs.of [])  d_write_capability h_ok_wnum h_ok_wnums h_ok_wcapn h_ok_wrts
  have h_ok_wkact := ok_wkact (Pg := l.prog) (w := w) (base := base) (Θ := Tbs.of [])  d__write_kept_act h_ok_wnums h_ok_wact
  have h_ok_wlstT_f__write_kept_act_wkact_okKa := ok_wlstT (Pg := l.prog) (w := w) (base := base) (Θ := Tbs.of [])  d_write_list (h_ok_wkact.at_ (PySem.W.mg_of X G q__write_kept_act)) (m z_len) h_ok_wnumO (by decide)
  have h_ok_wksum := ok_wksum (Pg := l.prog) (w := w) (base := base) (Θ := Tbs.of [])  d__write_kept_sum h_ok_wnums h_ok_wint
  have h_ok_wlstT_f__write_kept_sum_wksum_okKs := ok_wlstT (Pg := l.prog) (w := w) (base := base) (Θ := Tbs.of [])  d_write_list (h_ok_wksum.at_ (PySem.W.mg_of X G q__write_kept_sum)) (m z_len) h_ok_wnumO (by decide)
  have h_ok_wkchr := ok_wkchr (Pg := l.prog) (w := w) (base := base) (Θ := Tbs.of [])  d__write_kept_character h_ok_wnums h_ok_wchr
  have h_ok_wlstT_f__write_kept_character_wkchr_okKc := ok_wlstT (Pg := l.prog) (w := w) (base := base) (Θ := Tbs.of [])  d_write_list (h_ok_wkchr.at_ (PySem.W.mg_of X G q__write_kept_character)) (m z_len) h_ok_wnumO (by decide)
  have h_ok_wktxt := ok_wktxt (Pg := l.prog) (w := w) (base := base) (Θ := Tbs.of [])  d__write_kept_text (PySem.W.mg_of X G q__write_kept_character) h_ok_wnums h_ok_wlstT_f__write_kept_character_wkchr_okKc
  have h_ok_wlstT_f__write_kept_text_wktxt_okKt := ok_wlstT (Pg := l.prog) (w := w) (base := base) (Θ := Tbs.of [])  d_write_list (h_ok_wktxt.at_ (PySem.W.mg_of X G q__write_kept_text)) (m z_len) h_ok_wnumO (by decide)
  have h_ok_wkpt := ok_wkpt (Pg := l.prog) (w := w) (base := base) (Θ := Tbs.of [])  d_write_kept TCK (PySem.W.mg_of X G q__write_kept_act) (PySem.W.mg_of X G q__write_kept_sum) (PySem.W.mg_of X G q__write_kept_text) h_ok_wlstT_f__write_kept_act_wkact_okKa h_ok_wlstT_f__write_kept_sum_wksum_okKs h_ok_wlstT_f__write_kept_text_wktxt_okKt
  have h_ok_sinit := ok_sinit (Pg := l.prog) (w := w) (base := base) (Θ := Tbs.of []) (C := C) (CK := CK) d_Store___init__ TC TCK (m z_range) (PySem.W.mg_of X G q_SPACES) h_ok_kinit_CK
  have h_ok_sadd := ok_sadd (Pg := l.prog) (w := w) (base := base) (Θ := Tbs.of []) (C := C) (CC := CC) d_Store_add TC TCC
  have h_ok_scount := ok_scount (Pg := l.prog) (w := w) (base := base) (Θ := Tbs.of []) (C := C) d_Store_count TC (m z_len)
  have h_ok_shas := ok_shas (Pg := l.prog) (w := w) (base := base) (Θ := Tbs.of []) (C := C) d_Store_has TC h_ok_scount
  have h_ok_sfind := ok_sfind (Pg := l.prog) (w := w) (base := base) (Θ := Tbs.of []) (C := C) d_Store_find TC h_ok_shas
  have h_ok_cnm := ok_cnm (Pg := l.prog) (w := w) (base := base) (Θ := Tbs.of []) (CC := CC) d_Change_name TCC
  have h_ok_unk := ok_unk (Pg := l.prog) (w := w) (base := base) (Θ := Tbs.of []) (C := C) (CC := CC) d__unknown_names TC TCC h_ok_cnm
  have h_ok_scnts := ok_scnts (Pg := l.prog) (w := w) (base := base) (Θ := Tbs.of []) (C := C) d_Store_counts TC (m z_range) h_ok_scount
  have h_ok_ask := ok_ask (Pg := l.prog) (w := w) (base := base) (Θ := Tbs.of []) (C := C) (CC := CC) d_asking TC (m z_range) (PySem.W.mg_of X G q_write_number) (PySem.W.mg_of X G q_write_numbers) (PySem.W.mg_of X G q_ASKS) (PySem.W.mg_of X G q_SPACES) h_ok_wnums h_ok_wlstT_f_write_number_wN_okN h_ok_wlstT_f_write_numbers_wNs_okNs h_ok_wbool h_ok_unk h_ok_scnts
  have h_ok_wlstT_f_write_capability_wcapE_okCe := ok_wlstT (Pg := l.prog) (w := w) (base := base) (Θ := Tbs.of [])  d_write_list (h_ok_wcapE.at_ (PySem.W.mg_of X G q_write_capability)) (m z_len) h_ok_wnumO (by decide)
  have h_ok_wlstT_f_write_change_wchg_okChg_CC := ok_wlstT (Pg := l.prog) (w := w) (base := base) (Θ := Tbs.of [])  d_write_list (h_ok_wchg.at_ (PySem.W.mg_of X G q_write_change)) (m z_len) h_ok_wnumO (by decide)
  have h_ok_wopt_f_write_kept_wkpt_okKp_CK := ok_wopt (Pg := l.prog) (w := w) (base := base) (Θ := Tbs.of [])  d_write_optional (h_ok_wkpt.at_ (PySem.W.mg_of X G q_write_kept))
  have h_ok_wsto := ok_wsto (Pg := l.prog) (w := w) (base := base) (Θ := Tbs.of []) (C := C) (CK := CK) (CC := CC) d_write_store TC (PySem.W.mg_of X G q_write_number) (PySem.W.mg_of X G q_write_capability) (PySem.W.mg_of X G q_write_kept) (PySem.W.mg_of X G q_write_change) h_ok_wlstT_f_write_number_wN_okN h_ok_wlstT_f_write_capability_wcapE_okCe h_ok_wlstT_f_write_change_wchg_okChg_CC h_ok_wopt_f_write_kept_wkpt_okKp_CK
  have h_ok_lor := ok_lor (Pg := l.prog) (w := w) (base := base) (Θ := Tbs.of [])  d__law_order TC TCC (m z_range) (m z_len) h_ok_sinit (PySem.W.mg_of X G aC) h_ok_cinit_CC (PySem.W.mg_of X G aCC) h_ok_sadd h_ok_ask
  have h_ok_lst := ok_lst (Pg := l.prog) (w := w) (base := base) (Θ := Tbs.of [])  d__law_store TC TCC (m z_range) (m z_len) (m z_tuple) h_ok_sinit (PySem.W.mg_of X G aC) h_ok_cinit_CC (PySem.W.mg_of X G aCC) h_ok_sadd h_ok_sfind h_ok_ask h_ok_wsto h_ok_lchg h_ok_lor
  exact ok_law F (m z_len) (m z_range) (m z_min) h_ok_draw h_ok_ltxt h_ok_lvl h_ok_lac h_ok_wnum h_ok_lnum h_ok_wint h_ok_lsgn h_ok_wstr h_ok_lstr h_ok_wval h_ok_lbyt h_ok_wact h_ok_lact h_ok_lch h_ok_len h_ok_lkp h_ok_wchg h_ok_lchg h_ok_wcapE h_ok_wkpt h_ok_lst
end Law

end
open PySem PySem.W PyProof.Rows
set_option maxRecDepth 100000 in
set_option maxHeartbeats 0 in
theorem PySem.Challenge.cw_kithbase_k66_bytes_of_codes_holds : PySem.Challenge.rw_kithbase_k66_bytes_of_codes.Holds := by
  w_on; o_law; k_head; (case hw => w_witness2)
  k_fill
  refine Kb.walkD (l := PySem.Challenge.rw_kithbase_k66_bytes_of_codes) (k := 16) (W := Law.W_law) rfl rfl ⟨rfl, by decide, by decide⟩ (fun w h Y => PySem.W.kIn_of Y) (fun ns hl hb => ⟨ns, rfl, ⟨hl, hb⟩, fun _ => rfl⟩) ?F
  case F =>
    intro w mg fa h KX G hmg
    refine' Law.law_all KX G hmg ?aCC ?pgCC ?hdCC ?poCC ?saCC ?nCC1 ?nCC2 ?nCC3 ?nCC4 ?nCC5 ?nCC6 ?aCK ?pgCK ?hdCK ?poCK ?saCK ?nCK1 ?nCK2 ?nCK3 ?aC ?pgC ?hdC ?poC ?saC ?nC1 ?nC2 ?nC3 ?nC4 ?nC5 ?z_len ?z_range ?z_min ?d__law_draw ?z_int ?d__law_text ?d__law_value ?d__law_act ?z_tuple ?z_str ?d__law_spot ?d_write_number ?d__law_number ?d_write_integer ?z_abs ?d__law_signed ?d_write_string ?q__write_character ?d_write_list ?d__write_character ?z_ord ?d__law_string ?d__law_numbers ?d_write_value ?z_bool ?z_isinstance ?d_write_boolean ?d__law_bytes_of ?d_write_act ?q_ACTS ?q_FIELDS ?q_write_string ?q_write_numbers ?q__write_spots ?q__write_holds ?q_write_value ?q_write_integer ?q__write_optional_numbers ?tA ?dF ?dF0 ?dF1 ?dF2 ?dF3 ?dF4 ?dF5 ?dF6 ?dF7 ?dF8 ?dF9 ?z_zip ?d_write_numbers ?d__write_spots ?d__write_holds ?q_HOLDS ?sK_HOLDS ?d__write_optional_numbers ?d_write_optional ?d__law_act_bytes ?d__law_optional ?d__law_holds ?d__law_change ?d_Change___init__ ?d_frozen ?z_list ?d__law_rights ?d__law_entry ?d__law_rights_bytes ?d__law_kept ?d_Kept___init__ ?d_write_change ?q_write_number ?q__write_public ?q__write_part ?d__write_capability_name ?d__write_public ?d__write_rights ?d__write_part ?q_write_act ?d__law_change_bytes ?d_write_capability ?d_write_kept ?q__write_kept_act ?q__write_kept_sum ?q__write_kept_text ?d__write_kept_act ?d__write_kept_sum ?d__write_kept_text ?q__write_kept_character ?d__write_kept_character ?d__law_store ?d_Store___init__ ?q_SPACES ?d_Store_add ?d_Store_find ?d_Store_has ?d_Store_count ?d_asking ?q_ASKS ?d__unknown_names ?d_Change_name ?d_Store_counts ?d_write_store ?q_write_capability ?q_write_kept ?q_write_change ?d__law_order ?al ?ll ?cl ?kl
    (case aCC => k_is)
    (case pgCC => k_is)
    (case hdCC => k_is)
    (case poCC => k_is)
    (case saCC => k_is)
    (case nCC1 => k_is)
    (case nCC2 => k_is)
    (case nCC3 => k_is)
    (case nCC4 => k_is)
    (case nCC5 => k_is)
    (case nCC6 => k_is)
    (case aCK => k_is)
    (case pgCK => k_is)
    (case hdCK => k_is)
    (case poCK => k_is)
    (case saCK => k_is)
    (case nCK1 => k_is)
    (case nCK2 => k_is)
    (case nCK3 => k_is)
    (case aC => k_is)
    (case pgC => k_is)
    (case hdC => k_is)
    (case poC => k_is)
    (case saC => k_is)
    (case nC1 => k_is)
    (case nC2 => k_is)
    (case nC3 => k_is)
    (case nC4 => k_is)
    (case nC5 => k_is)
    (case z_len => k_is)
    (case z_range => k_is)
    (case z_min => k_is)
    (case d__law_draw => (refine' Kb.defAt_mk KX G ?b ?a ?l ?c ?k; (case b => exact fun _ _ _ _ _ _ us hl => match us, hl with | [_, _], _ => rfl); (case a => k_is); (case l => k_is); (case c => k_is); (case k => k_is)))
    (case z_int => k_is)
    (case d__law_text => (refine' Kb.defAt_mk KX G ?b ?a ?l ?c ?k; (case b => exact fun _ _ _ _ _ _ us hl => match us, hl with | [_], _ => rfl); (case a => k_is); (case l => k_is); (case c => k_is); (case k => k_is)))
    (case d__law_value => (refine' Kb.defAt_mk KX G ?b ?a ?l ?c ?k; (case b => exact fun _ _ _ _ _ _ us hl => match us, hl with | [_], _ => rfl); (case a => k_is); (case l => k_is); (case c => k_is); (case k => k_is)))
    (case d__law_act => (refine' Kb.defAt_mk KX G ?b ?a ?l ?c ?k; (case b => exact fun _ _ _ _ _ _ us hl => match us, hl with | [_, _], _ => rfl); (case a => k_is); (case l => k_is); (case c => k_is); (case k => k_is)))
    (case z_tuple => k_is)
    (case z_str => k_is)
    (case d__law_spot => (refine' Kb.defAt_mk KX G ?b ?a ?l ?c ?k; (case b => exact fun _ _ _ _ _ _ us hl => match us, hl with | [_], _ => rfl); (case a => k_is); (case l => k_is); (case c => k_is); (case k => k_is)))
    (case d_write_number => (refine' Kb.defAt_mk KX G ?b ?a ?l ?c ?k; (case b => exact fun _ _ _ _ _ _ us hl => match us, hl with | [_], _ => rfl); (case a => k_is); (case l => k_is); (case c => k_is); (case k => k_is)))
    (case d__law_number => (refine' Kb.defAt_mk KX G ?b ?a ?l ?c ?k; (case b => exact fun _ _ _ _ _ _ us hl => match us, hl with | [_], _ => rfl); (case a => k_is); (case l => k_is); (case c => k_is); (case k => k_is)))
    (case d_write_integer => (refine' Kb.defAt_mk KX G ?b ?a ?l ?c ?k; (case b => exact fun _ _ _ _ _ _ us hl => match us, hl with | [_], _ => rfl); (case a => k_is); (case l => k_is); (case c => k_is); (case k => k_is)))
    (case z_abs => k_is)
    (case d__law_signed => (refine' Kb.defAt_mk KX G ?b ?a ?l ?c ?k; (case b => exact fun _ _ _ _ _ _ us hl => match us, hl with | [_], _ => rfl); (case a => k_is); (case l => k_is); (case c => k_is); (case k => k_is)))
    (case d_write_string => (refine' Kb.defAt_mk KX G ?b ?a ?l ?c ?k; (case b => exact fun _ _ _ _ _ _ us hl => match us, hl with | [_], _ => rfl); (case a => k_is); (case l => k_is); (case c => k_is); (case k => k_is)))
    (case q__write_character => k_is)
    (case d_write_list => (refine' Kb.defAt_mk KX G ?b ?a ?l ?c ?k; (case b => exact fun _ _ _ _ _ _ us hl => match us, hl with | [_, _], _ => rfl); (case a => k_is); (case l => k_is); (case c => k_is); (case k => k_is)))
    (case d__write_character => (refine' Kb.defAt_mk KX G ?b ?a ?l ?c ?k; (case b => exact fun _ _ _ _ _ _ us hl => match us, hl with | [_], _ => rfl); (case a => k_is); (case l => k_is); (case c => k_is); (case k => k_is)))
    (case z_ord => k_is)
    (case d__law_string => (refine' Kb.defAt_mk KX G ?b ?a ?l ?c ?k; (case b => exact fun _ _ _ _ _ _ us hl => match us, hl with | [_], _ => rfl); (case a => k_is); (case l => k_is); (case c => k_is); (case k => k_is)))
    (case d__law_numbers => (refine' Kb.defAt_mk KX G ?b ?a ?l ?c ?k; (case b => exact fun _ _ _ _ _ _ us hl => match us, hl with | [_], _ => rfl); (case a => k_is); (case l => k_is); (case c => k_is); (case k => k_is)))
    (case d_write_value => (refine' Kb.defAt_mk KX G ?b ?a ?l ?c ?k; (case b => exact fun _ _ _ _ _ _ us hl => match us, hl with | [_], _ => rfl); (case a => k_is); (case l => k_is); (case c => k_is); (case k => k_is)))
    (case z_bool => k_is)
    (case z_isinstance => k_is)
    (case d_write_boolean => (refine' Kb.defAt_mk KX G ?b ?a ?l ?c ?k; (case b => exact fun _ _ _ _ _ _ us hl => match us, hl with | [_], _ => rfl); (case a => k_is); (case l => k_is); (case c => k_is); (case k => k_is)))
    (case d__law_bytes_of => (refine' Kb.defAt_mk KX G ?b ?a ?l ?c ?k; (case b => exact fun _ _ _ _ _ _ us hl => match us, hl with | [_], _ => rfl); (case a => k_is); (case l => k_is); (case c => k_is); (case k => k_is)))
    (case d_write_act => (refine' Kb.defAt_mk KX G ?b ?a ?l ?c ?k; (case b => exact fun _ _ _ _ _ _ us hl => match us, hl with | [_], _ => rfl); (case a => k_is); (case l => k_is); (case c => k_is); (case k => k_is)))
    (case q_ACTS => k_is)
    (case q_FIELDS => k_is)
    (case q_write_string => k_is)
    (case q_write_numbers => k_is)
    (case q__write_spots => k_is)
    (case q__write_holds => k_is)
    (case q_write_value => k_is)
    (case q_write_integer => k_is)
    (case q__write_optional_numbers => k_is)
    (case tA => kernel_rfl)
    (case dF => kernel_rfl)
    (case dF0 => k_is)
    (case dF1 => k_is)
    (case dF2 => k_is)
    (case dF3 => k_is)
    (case dF4 => k_is)
    (case dF5 => k_is)
    (case dF6 => k_is)
    (case dF7 => k_is)
    (case dF8 => k_is)
    (case dF9 => k_is)
    (case z_zip => k_is)
    (case d_write_numbers => (refine' Kb.defAt_mk KX G ?b ?a ?l ?c ?k; (case b => exact fun _ _ _ _ _ _ us hl => match us, hl with | [_], _ => rfl); (case a => k_is); (case l => k_is); (case c => k_is); (case k => k_is)))
    (case d__write_spots => (refine' Kb.defAt_mk KX G ?b ?a ?l ?c ?k; (case b => exact fun _ _ _ _ _ _ us hl => match us, hl with | [_], _ => rfl); (case a => k_is); (case l => k_is); (case c => k_is); (case k => k_is)))
    (case d__write_holds => (refine' Kb.defAt_mk KX G ?b ?a ?l ?c ?k; (case b => exact fun _ _ _ _ _ _ us hl => match us, hl with | [_], _ => rfl); (case a => k_is); (case l => k_is); (case c => k_is); (case k => k_is)))
    (case q_HOLDS => k_is)
    (case sK_HOLDS => kernel_rfl)
    (case d__write_optional_numbers => (refine' Kb.defAt_mk KX G ?b ?a ?l ?c ?k; (case b => exact fun _ _ _ _ _ _ us hl => match us, hl with | [_], _ => rfl); (case a => k_is); (case l => k_is); (case c => k_is); (case k => k_is)))
    (case d_write_optional => (refine' Kb.defAt_mk KX G ?b ?a ?l ?c ?k; (case b => exact fun _ _ _ _ _ _ us hl => match us, hl with | [_, _], _ => rfl); (case a => k_is); (case l => k_is); (case c => k_is); (case k => k_is)))
    (case d__law_act_bytes => (refine' Kb.defAt_mk KX G ?b ?a ?l ?c ?k; (case b => exact fun _ _ _ _ _ _ us hl => match us, hl with | [_], _ => rfl); (case a => k_is); (case l => k_is); (case c => k_is); (case k => k_is)))
    (case d__law_optional => (refine' Kb.defAt_mk KX G ?b ?a ?l ?c ?k; (case b => exact fun _ _ _ _ _ _ us hl => match us, hl with | [_], _ => rfl); (case a => k_is); (case l => k_is); (case c => k_is); (case k => k_is)))
    (case d__law_holds => (refine' Kb.defAt_mk KX G ?b ?a ?l ?c ?k; (case b => exact fun _ _ _ _ _ _ us hl => match us, hl with | [_], _ => rfl); (case a => k_is); (case l => k_is); (case c => k_is); (case k => k_is)))
    (case d__law_change => (refine' Kb.defAt_mk KX G ?b ?a ?l ?c ?k; (case b => exact fun _ _ _ _ _ _ us hl => match us, hl with | [_], _ => rfl); (case a => k_is); (case l => k_is); (case c => k_is); (case k => k_is)))
    (case d_Change___init__ => (refine' Kb.initAt_mk ?b ?a ?i ?l ?c ?k ?mk ?kc; (case b => exact fun _ _ _ _ _ _ us hl => match us, hl with | [_, _, _, _, _, _, _], _ => rfl); (case a => k_is); (case i => k_is); (case l => k_is); (case c => k_is); (case k => k_is); (case mk => k_is); (case kc => k_is)))
    (case d_frozen => (refine' Kb.defAt_mk KX G ?b ?a ?l ?c ?k; (case b => exact fun _ _ _ _ _ _ us hl => match us, hl with | [_], _ => rfl); (case a => k_is); (case l => k_is); (case c => k_is); (case k => k_is)))
    (case z_list => k_is)
    (case d__law_rights => (refine' Kb.defAt_mk KX G ?b ?a ?l ?c ?k; (case b => exact fun _ _ _ _ _ _ us hl => match us, hl with | [_], _ => rfl); (case a => k_is); (case l => k_is); (case c => k_is); (case k => k_is)))
    (case d__law_entry => (refine' Kb.defAt_mk KX G ?b ?a ?l ?c ?k; (case b => exact fun _ _ _ _ _ _ us hl => match us, hl with | [_], _ => rfl); (case a => k_is); (case l => k_is); (case c => k_is); (case k => k_is)))
    (case d__law_rights_bytes => (refine' Kb.defAt_mk KX G ?b ?a ?l ?c ?k; (case b => exact fun _ _ _ _ _ _ us hl => match us, hl with | [_], _ => rfl); (case a => k_is); (case l => k_is); (case c => k_is); (case k => k_is)))
    (case d__law_kept => (refine' Kb.defAt_mk KX G ?b ?a ?l ?c ?k; (case b => exact fun _ _ _ _ _ _ us hl => match us, hl with | [_], _ => rfl); (case a => k_is); (case l => k_is); (case c => k_is); (case k => k_is)))
    (case d_Kept___init__ => (refine' Kb.initAt_mk ?b ?a ?i ?l ?c ?k ?mk ?kc; (case b => exact fun _ _ _ _ _ _ us hl => match us, hl with | [_, _, _, _], _ => rfl); (case a => k_is); (case i => k_is); (case l => k_is); (case c => k_is); (case k => k_is); (case mk => k_is); (case kc => k_is)))
    (case d_write_change => (refine' Kb.defAt_mk KX G ?b ?a ?l ?c ?k; (case b => exact fun _ _ _ _ _ _ us hl => match us, hl with | [_], _ => rfl); (case a => k_is); (case l => k_is); (case c => k_is); (case k => k_is)))
    (case q_write_number => k_is)
    (case q__write_public => k_is)
    (case q__write_part => k_is)
    (case d__write_capability_name => (refine' Kb.defAt_mk KX G ?b ?a ?l ?c ?k; (case b => exact fun _ _ _ _ _ _ us hl => match us, hl with | [_], _ => rfl); (case a => k_is); (case l => k_is); (case c => k_is); (case k => k_is)))
    (case d__write_public => (refine' Kb.defAt_mk KX G ?b ?a ?l ?c ?k; (case b => exact fun _ _ _ _ _ _ us hl => match us, hl with | [_], _ => rfl); (case a => k_is); (case l => k_is); (case c => k_is); (case k => k_is)))
    (case d__write_rights => (refine' Kb.defAt_mk KX G ?b ?a ?l ?c ?k; (case b => exact fun _ _ _ _ _ _ us hl => match us, hl with | [_], _ => rfl); (case a => k_is); (case l => k_is); (case c => k_is); (case k => k_is)))
    (case d__write_part => (refine' Kb.defAt_mk KX G ?b ?a ?l ?c ?k; (case b => exact fun _ _ _ _ _ _ us hl => match us, hl with | [_], _ => rfl); (case a => k_is); (case l => k_is); (case c => k_is); (case k => k_is)))
    (case q_write_act => k_is)
    (case d__law_change_bytes => (refine' Kb.defAt_mk KX G ?b ?a ?l ?c ?k; (case b => exact fun _ _ _ _ _ _ us hl => match us, hl with | [_], _ => rfl); (case a => k_is); (case l => k_is); (case c => k_is); (case k => k_is)))
    (case d_write_capability => (refine' Kb.defAt_mk KX G ?b ?a ?l ?c ?k; (case b => exact fun _ _ _ _ _ _ us hl => match us, hl with | [_], _ => rfl); (case a => k_is); (case l => k_is); (case c => k_is); (case k => k_is)))
    (case d_write_kept => (refine' Kb.defAt_mk KX G ?b ?a ?l ?c ?k; (case b => exact fun _ _ _ _ _ _ us hl => match us, hl with | [_], _ => rfl); (case a => k_is); (case l => k_is); (case c => k_is); (case k => k_is)))
    (case q__write_kept_act => k_is)
    (case q__write_kept_sum => k_is)
    (case q__write_kept_text => k_is)
    (case d__write_kept_act => (refine' Kb.defAt_mk KX G ?b ?a ?l ?c ?k; (case b => exact fun _ _ _ _ _ _ us hl => match us, hl with | [_], _ => rfl); (case a => k_is); (case l => k_is); (case c => k_is); (case k => k_is)))
    (case d__write_kept_sum => (refine' Kb.defAt_mk KX G ?b ?a ?l ?c ?k; (case b => exact fun _ _ _ _ _ _ us hl => match us, hl with | [_], _ => rfl); (case a => k_is); (case l => k_is); (case c => k_is); (case k => k_is)))
    (case d__write_kept_text => (refine' Kb.defAt_mk KX G ?b ?a ?l ?c ?k; (case b => exact fun _ _ _ _ _ _ us hl => match us, hl with | [_], _ => rfl); (case a => k_is); (case l => k_is); (case c => k_is); (case k => k_is)))
    (case q__write_kept_character => k_is)
    (case d__write_kept_character => (refine' Kb.defAt_mk KX G ?b ?a ?l ?c ?k; (case b => exact fun _ _ _ _ _ _ us hl => match us, hl with | [_], _ => rfl); (case a => k_is); (case l => k_is); (case c => k_is); (case k => k_is)))
    (case d__law_store => (refine' Kb.defAt_mk KX G ?b ?a ?l ?c ?k; (case b => exact fun _ _ _ _ _ _ us hl => match us, hl with | [_], _ => rfl); (case a => k_is); (case l => k_is); (case c => k_is); (case k => k_is)))
    (case d_Store___init__ => (refine' Kb.initAt_mk ?b ?a ?i ?l ?c ?k ?mk ?kc; (case b => exact fun _ _ _ _ _ _ us hl => match us, hl with | [_, _], _ => rfl); (case a => k_is); (case i => k_is); (case l => k_is); (case c => k_is); (case k => k_is); (case mk => k_is); (case kc => k_is)))
    (case q_SPACES => k_is)
    (case d_Store_add => (refine' Kb.methAt_mk ?b ?a ?i ?l ?c ?k; (case b => exact fun _ _ _ _ _ _ us hl => match us, hl with | [_, _], _ => rfl); (case a => k_is); (case i => k_is); (case l => k_is); (case c => k_is); (case k => k_is)))
    (case d_Store_find => (refine' Kb.methAt_mk ?b ?a ?i ?l ?c ?k; (case b => exact fun _ _ _ _ _ _ us hl => match us, hl with | [_, _], _ => rfl); (case a => k_is); (case i => k_is); (case l => k_is); (case c => k_is); (case k => k_is)))
    (case d_Store_has => (refine' Kb.methAt_mk ?b ?a ?i ?l ?c ?k; (case b => exact fun _ _ _ _ _ _ us hl => match us, hl with | [_, _], _ => rfl); (case a => k_is); (case i => k_is); (case l => k_is); (case c => k_is); (case k => k_is)))
    (case d_Store_count => (refine' Kb.methAt_mk ?b ?a ?i ?l ?c ?k; (case b => exact fun _ _ _ _ _ _ us hl => match us, hl with | [_, _], _ => rfl); (case a => k_is); (case i => k_is); (case l => k_is); (case c => k_is); (case k => k_is)))
    (case d_asking => (refine' Kb.defAt_mk KX G ?b ?a ?l ?c ?k; (case b => exact fun _ _ _ _ _ _ us hl => match us, hl with | [_, _], _ => rfl); (case a => k_is); (case l => k_is); (case c => k_is); (case k => k_is)))
    (case q_ASKS => k_is)
    (case d__unknown_names => (refine' Kb.defAt_mk KX G ?b ?a ?l ?c ?k; (case b => exact fun _ _ _ _ _ _ us hl => match us, hl with | [_, _], _ => rfl); (case a => k_is); (case l => k_is); (case c => k_is); (case k => k_is)))
    (case d_Change_name => (refine' Kb.methAt_mk ?b ?a ?i ?l ?c ?k; (case b => exact fun _ _ _ _ _ _ us hl => match us, hl with | [_], _ => rfl); (case a => k_is); (case i => k_is); (case l => k_is); (case c => k_is); (case k => k_is)))
    (case d_Store_counts => (refine' Kb.methAt_mk ?b ?a ?i ?l ?c ?k; (case b => exact fun _ _ _ _ _ _ us hl => match us, hl with | [_], _ => rfl); (case a => k_is); (case i => k_is); (case l => k_is); (case c => k_is); (case k => k_is)))
    (case d_write_store => (refine' Kb.defAt_mk KX G ?b ?a ?l ?c ?k; (case b => exact fun _ _ _ _ _ _ us hl => match us, hl with | [_], _ => rfl); (case a => k_is); (case l => k_is); (case c => k_is); (case k => k_is)))
    (case q_write_capability => k_is)
    (case q_write_kept => k_is)
    (case q_write_change => k_is)
    (case d__law_order => (refine' Kb.defAt_mk KX G ?b ?a ?l ?c ?k; (case b => exact fun _ _ _ _ _ _ us hl => match us, hl with | [_], _ => rfl); (case a => k_is); (case l => k_is); (case c => k_is); (case k => k_is)))
    (case al => k_is)
    (case ll => k_is)
    (case cl => k_is)
    (case kl => k_is)

