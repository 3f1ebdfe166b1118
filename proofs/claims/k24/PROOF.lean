import PyProof.Rows.All
import Wide.All
import OpenK.AllK
import Wide.FinOn
import HandS.ForMost
import HandS.ForExc
import HandS.Wide
import HandS.IsInst
import HandS.EndBits
import HandS.SortKw
import HandS.Flow
import HandS.AnyAll
import HandS.Lambda
import KE.KDictKeyed
import KE.KeyNested
import KE.SortKeyed
import KE.SortData
import HandS.EndTab
import HandS.GenOver
import HandS.Comp
import KE.KNest
import HandS.Zip
import HandS.Style
import HandS.Text
import KE.DataCmp
import HandS.TupAny
import HandS.More
import HandS.RaiseMore
import HandS.ExcIs
import HandS.TryOnly
import HandS.FStr
import HandS.Iter
import HandS.ExcInit
import HandS.ExcField
import KE.KExcIs
import PyProof.DelItemList
import HandS.IterVal
import HandS.Strs
import HandS.ReplaceList
import HandS.StrMore
import HandS.Conv
import HandS.SortOrd
import HandS.Deep
import HandS.Zip0
import PyProof.DictFindH
import KE.GoesMore
import PyProof.Draws
import PyProof.EnumMake
import HandS.TupLen
import HandS.DictComp
import PyProof.DictMoreH
import KE.KDictWalk
import KE.KDictCopyH
import PySem.Challenge.RW_kithbase_k24_operators_bind
set_option Elab.async false
set_option linter.all false
set_option maxRecDepth 100000
set_option maxHeartbeats 4000000
namespace Kb
open PySem PySem.Spec PyProof.Rows L2
/-! defs of the text: where they stand, what they promise -/
/-- a def of the top: found by its name, with so many plain parameters -/
structure DefAt (K : PySem.W.Frag) (mg : Str → Option Value) (x : Str) (st : Stmt) (ps : List Str) : Prop where
  ex : ∃ f fd, Fun K x x st f fd ∧ mg x = some (.ref f) ∧ Binds K fd ps []
/-- a def of the top that keeps a promise -/
structure HasF (P : Program) (w : World) (K : PySem.W.Frag) (mg : Str → Option Value) (base : Heap) (CX : CXT) (k : Nat) (x : Str) (ps : List Str) (sp : Sp) : Prop where
  ex : ∃ f fd, FnOk P w K mg base CX k f fd ps sp ∧ mg x = some (.ref f) ∧ PySem.W.keepIn K (.ref f) = true ∧ Binds K fd ps []
section
variable {P : Program} {w : World} {K : PySem.W.Frag} {mg : Str → Option Value} {base : Heap} {x : Str} {st : Stmt} {N ps : List Str} {k : Nat} {sp : Sp}
theorem DefAt.ok (A : DefAt K mg x st ps) (S : FnScope N ps (defScope st)) (len : ∀ vs H Q E, sp vs H Q E → vs.length = ps.length)
    (hbody : ∀ (f : Addr) (cdv : Value) (A : Around) (outer : List Env) (s : Shared) (H : Hp) (vs : List V) (Q : VK) (E : XK), Room k (A.deeper (envOfC x (defScope st) s.heap.objs.size f cdv)) → sp vs H Q E →
      ∃ t, PSs (cxOf CX0 P w K mg base N x (defScope st) f cdv A outer s H E).nox (defBody st) t ∧ t { nx := fun _ H' => Q .non H', rt := Q } (start N vs) H) : HasF P w K mg base CX0 (k + 1) x ps sp := by
  obtain ⟨f, fd, F, hm, hb⟩ := A.ex
  exact ⟨f, fd, F.ok S len (fun cdv A outer s H vs Q E hr h => hbody f cdv A outer s H vs Q E hr h), hm, F.kp, hb⟩
end
section
variable {X : Cx} {CX : CXT} {k : Nat} {x : Str} {ps : List Str} {sp : Sp} {E : XK} {p pos : Pos} {e : Expr} {es : List Expr} {t : TA}
theorem HasF.call (h : HasF X.prog X.w X.K X.mg X.base CX k x ps sp) (hr : Room k X.A) (hg : Gl X x) (hx : Passes CX X E)
    (ha : PA X (e :: es) t) (hdb : (x == ("__debug__" : Str)) = false := by decide) (he : starEach (e :: es) X.env = (false, eval e X.env) :: starEach es X.env := by rfl) (hpl : (backTo pos (starEach es X.env)).any (·.1) = false := by rfl) :
    PE X (.Call (.Name x p) (e :: es) [] pos) (tCall sp [] E t) := by
  obtain ⟨f, fd, F, hm, hk, hb⟩ := h.ex
  exact pe_call F hr hg hm hk hb .nil hx ha hdb he hpl
end
/-! universal operators -/
def CMulX (i j : Int) : Prop := i.natAbs.log2 + j.natAbs.log2 < 100000000
theorem CMulX.ok {i j : Int} (h : CMulX i j) : IntMulOk i j := by
  have bit : ∀ x : Int, Builtin.Int.intBits x ≤ x.natAbs.log2 + 1 := fun x => by
    unfold Builtin.Int.intBits
    split <;> omega
  have g1 := bit i
  have g2 := bit j
  have g3 : i.natAbs.log2 + j.natAbs.log2 < 100000000 := h
  have big : bitsLine = 134217728 := by decide
  intro c
  obtain ⟨_, c2⟩ := Bool.and_eq_true_iff.mp c
  unfold Builtin.Int.intTooBig at c2
  have c3 := of_decide_eq_true c2
  rw [big] at c3
  omega
section
variable {X : Cx}
theorem op_mulX : OpR X (binaryOp .Mult) (rI CMulX fun i j => .int (i * j)) := opI fun _ _ _ _ _ _ _ hc q => mul_int q hc.ok
end
end Kb

/-! A logic over plain data: values D (tuples, lists, instances that no longer change stand inline; what a def still changes is owned, by number). -/
namespace Kb
open PySem PySem.Spec PyProof.Rows L2
/-- data that stay as they are -/
inductive P where
  | non | bl (b : Bool) | int (i : Int) | str (s : Str) | tup (xs : List P) | ktp (xs : List P) | lst (xs : List P) | ins (C : Addr) (fs : List (Str × P)) | ty (n : String) | cls (C : Addr)
/-- a datum, or what is owned, by its number -/
inductive D where
  | p (x : P) | own (i : Nat)
abbrev dN : D := .p .non
abbrev dB (b : Bool) : D := .p (.bl b)
abbrev dI (i : Int) : D := .p (.int i)
abbrev dS (s : Str) : D := .p (.str s)
abbrev dT (xs : List P) : D := .p (.tup xs)
abbrev dL (xs : List P) : D := .p (.lst xs)
/-- what is owned -/
inductive OO where
  | lst (xs : List D) | ins (C : Addr) (fs : List (Str × D)) | dK (kvs : List (Key × D)) | dT (kvs : List (List Key × D)) | dN (pw : Program × World) (kvs : List (P × D)) | dL (pw : Program × World) (od : Obj) (gs : List ((NestedKey × Addr) × V)) (kvs : List (P × D))
abbrev Hs := List (Option OO)
abbrev Env' := List (Option D)
/-- a tuple that stands there -/
def SqU (_ : PySem.W.Frag) (F : Hp) (a : Addr) (vs : List V) : Prop := F a = some (.tup vs)
theorem SqU.of {K : PySem.W.Frag} {F : Hp} {a : Addr} {vs : List V} (h : F a = some (.tup vs)) : SqU K F a vs := h
section
variable (K : PySem.W.Frag)
mutual
inductive RP (F : Hp) : P → V → Prop
  | non : RP F .non .non
  | bl (b : Bool) : RP F (.bl b) (.bl b)
  | int (i : Int) : RP F (.int i) (.int i)
  | str (s : Str) : RP F (.str s) (.str s)
  | tup {a : Addr} {xs : List P} {vs : List V} : SqU K F a vs → RPs F xs vs → RP F (.tup xs) (.ref a)
  | ktp {a : Addr} {xs : List P} {vs : List V} : (∀ H, SqT K H a vs) → RPs F xs vs → RP F (.ktp xs) (.ref a)
  | lst {a : Addr} {xs : List P} {vs : List V} : SqL K F a vs → RPs F xs vs → RP F (.lst xs) (.ref a)
  | ins {a C dx : Addr} {fs : List (Str × P)} {gs : List (Str × V)} : F a = some (.ins C dx gs) → RPf F fs gs → RP F (.ins C fs) (.ref a)
  | ty (n : String) : RP F (.ty n) (.ty n)
  | cls (C : Addr) : RP F (.cls C) (.ref C)
inductive RPs (F : Hp) : List P → List V → Prop
  | nil : RPs F [] []
  | cons {d : P} {v : V} {ds : List P} {vs : List V} : RP F d v → RPs F ds vs → RPs F (d :: ds) (v :: vs)
inductive RPf (F : Hp) : List (Str × P) → List (Str × V) → Prop
  | nil : RPf F [] []
  | cons {f : Str} {d : P} {v : V} {ds : List (Str × P)} {vs : List (Str × V)} : RP F d v → RPf F ds vs → RPf F ((f, d) :: ds) ((f, v) :: vs)
end
inductive RD (F : Hp) (ρ : List Addr) : D → V → Prop
  | p {x : P} {v : V} : RP K F x v → RD F ρ (.p x) v
  | own {a : Addr} {i : Nat} : ρ[i]? = some a → RD F ρ (.own i) (.ref a)
inductive RA (F : Hp) (ρ : List Addr) : List D → List V → Prop
  | nil : RA F ρ [] []
  | cons {d : D} {v : V} {ds : List D} {vs : List V} : RD K F ρ d v → RA F ρ ds vs → RA F ρ (d :: ds) (v :: vs)
inductive RK {κ : Type} (F : Hp) (ρ : List Addr) : List (κ × D) → List (κ × V) → Prop
  | nil : RK F ρ [] []
  | cons {f : κ} {d : D} {v : V} {ds : List (κ × D)} {vs : List (κ × V)} : RD K F ρ d v → RK F ρ ds vs → RK F ρ ((f, d) :: ds) ((f, v) :: vs)
inductive RF (F : Hp) (ρ : List Addr) : List (Str × D) → List (Str × V) → Prop
  | nil : RF F ρ [] []
  | cons {f : Str} {d : D} {v : V} {ds : List (Str × D)} {vs : List (Str × V)} : RD K F ρ d v → RF F ρ ds vs → RF F ρ ((f, d) :: ds) ((f, v) :: vs)
end
/-- a key of a dict: data of tuples, numbers, truths, texts and None -/
def nkP : P → Option NestedKey
  | .non => some .none
  | .bl b => some (.num (if b then 1 else 0))
  | .int i => some (.num i)
  | .str s => some (.text s)
  | .tup xs => (nkPs xs).map .tup
  | _ => none
where nkPs : List P → Option (List NestedKey)
  | [] => some []
  | x :: xs => (nkP x).bind fun k => (nkPs xs).map (k :: ·)
/-- a dict whose keys are nested tuples, by what is true of its one object: its keys, where their tuples stand, its values -/
def NdPhi (pw : Program × World) (a : Addr) (gs : List ((NestedKey × Addr) × V)) : Heap → Prop := fun h =>
  gs.length ≤ sizeLine ∧ (a == sysModules) = false ∧ ∃ xs : List (NestedKey × Addr × Value), Paired (fun (g : (NestedKey × Addr) × V) (x : NestedKey × Addr × Value) => g.1.1 = x.1 ∧ g.1.2 = x.2.1 ∧ RelV g.2 x.2.2) gs xs ∧
  ∃ o es ep, h.get? a = some o ∧ o.ExactDict ∧ o.data = .dict es ep ∧ es.toList = xs.map (entryOfKey (nestedKind pw.1 pw.2)) ∧ (xs.map (·.1)).Nodup
/-- the keys as data: they stand where the dict has them -/
inductive KeyR (K : PySem.W.Frag) (F : Hp) : List P → List (NestedKey × Addr) → Prop
  | nil : KeyR K F [] []
  | cons {p : P} {k : NestedKey} {b : Addr} {ps : List P} {ks : List (NestedKey × Addr)} : RP K F p (.ref b) → nkP p = some k → k.depth ≤ 8 → KeyR K F ps ks → KeyR K F (p :: ps) ((k, b) :: ks)
/-- what is raised: its class, and its fields if it has some that count -/
structure Exn where
  cls : Addr
  fs : Option (List (Str × P))
/-- the tables: of generator expressions, and of lambdas with the names of their code objects -/
structure Tbs where
  g : List Addr
  l : List (Addr × Str)
  dj : ∀ p ∈ l, p.1 ∉ g
  un : ∀ p ∈ l, ∀ q ∈ l, p.1 = q.1 → p.2 = q.2
instance : Membership Addr Tbs := ⟨fun T P => P ∈ T.g⟩
abbrev Tbs.of (g : List Addr) : Tbs := ⟨g, [], fun _ h => absurd h (by simp), fun _ h => absurd h (by simp)⟩
instance : Coe (List Addr) Tbs := ⟨Tbs.of⟩
/-- what a text runs in: tables, the wish, the errors that may be raised -/
structure Ctx where
  tabs : Tbs
  wish : L2.St → XK
  ex : Exn → Env' → Hs → Prop
  fl : Hp := fun _ => none
/-- nothing is raised -/
abbrev Ctx.plain (T : Tbs) : Ctx := ⟨T, fun _ _ _ _ => False, fun _ _ _ => False, fun _ => none⟩
/-- what a def is to raise -/
abbrev Ctx.dfn (T : Tbs) (E : XK) (RX : Exn → Hs → Prop) : Ctx := ⟨T, fun _ => E, fun X _ h => RX X h, fun _ => none⟩
instance : Coe Tbs Ctx := ⟨Ctx.plain⟩
instance : Coe (List Addr) Ctx := ⟨fun g => Ctx.plain (Tbs.of g)⟩
section
variable {K : PySem.W.Frag} {Θ : Ctx} {T : Tbs}
theorem sqU_mono {F F' : Hp} (e : Same F F') {a : Addr} {vs : List V} (h : SqU K F a vs) : SqU K F' a vs := e _ _ h
theorem sqT_mono {F F' : Hp} (e : Same F F') {a : Addr} {vs : List V} (h : SqU K F a vs) : SqT K F' a vs := .of (e _ _ h)
/-- numbers keep their addresses -/
def Pre (ρ ρ' : List Addr) : Prop := ∀ (i : Nat) (a : Addr), ρ[i]? = some a → ρ'[i]? = some a
theorem Pre.refl (ρ : List Addr) : Pre ρ ρ := fun _ _ h => h
theorem Pre.trans {a b c : List Addr} (x : Pre a b) (y : Pre b c) : Pre a c := fun i p h => y i p (x i p h)
theorem Pre.push (ρ : List Addr) (p : Addr) : Pre ρ (ρ ++ [p]) := fun i a h => by
  have hl : i < ρ.length := (List.getElem?_eq_some_iff.mp h).1
  rw [List.getElem?_append_left hl]
  exact h
mutual
theorem RP.mono {F F' : Hp} (e : Same F F') : ∀ {d : P} {v : V}, RP K F d v → RP K F' d v
  | _, _, .non => .non
  | _, _, .bl b => .bl b
  | _, _, .int i => .int i
  | _, _, .str s => .str s
  | _, _, .tup h r => .tup (sqU_mono e h) (RPs.mono e r)
  | _, _, .ktp h r => .ktp h (RPs.mono e r)
  | _, _, .lst h r => .lst (e.seq h) (RPs.mono e r)
  | _, _, .ins h r => .ins (e _ _ h) (RPf.mono e r)
  | _, _, .ty n => .ty n
  | _, _, .cls C => .cls C
theorem RPs.mono {F F' : Hp} (e : Same F F') : ∀ {d : List P} {v : List V}, RPs K F d v → RPs K F' d v
  | _, _, .nil => .nil
  | _, _, .cons h r => .cons (RP.mono e h) (RPs.mono e r)
theorem RPf.mono {F F' : Hp} (e : Same F F') : ∀ {d : List (Str × P)} {v : List (Str × V)}, RPf K F d v → RPf K F' d v
  | _, _, .nil => .nil
  | _, _, .cons h r => .cons (RP.mono e h) (RPf.mono e r)
end
theorem RD.mono {F F' : Hp} {ρ ρ' : List Addr} (e : Same F F') (p : Pre ρ ρ') {d : D} {v : V} (h : RD K F ρ d v) : RD K F' ρ' d v := by
  cases h with
  | p h => exact .p (h.mono e)
  | own h => exact .own (p _ _ h)
theorem RA.mono {F F' : Hp} {ρ ρ' : List Addr} (e : Same F F') (p : Pre ρ ρ') {d : List D} {v : List V} (h : RA K F ρ d v) : RA K F' ρ' d v := by
  induction h with
  | nil => exact .nil
  | cons h _ ih => exact .cons (h.mono e p) ih
theorem RF.mono {F F' : Hp} {ρ ρ' : List Addr} (e : Same F F') (p : Pre ρ ρ') {d : List (Str × D)} {v : List (Str × V)} (h : RF K F ρ d v) : RF K F' ρ' d v := by
  induction h with
  | nil => exact .nil
  | cons h _ ih => exact .cons (h.mono e p) ih
theorem RK.mono {κ : Type} {F F' : Hp} {ρ ρ' : List Addr} (e : Same F F') (p : Pre ρ ρ') {d : List (κ × D)} {v : List (κ × V)} (h : RK K F ρ d v) : RK K F' ρ' d v := by
  induction h with
  | nil => exact .nil
  | cons h _ ih => exact .cons (h.mono e p) ih
theorem KeyR.mono {F F' : Hp} (e : Same F F') {ps : List P} {ks : List (NestedKey × Addr)} (h : KeyR K F ps ks) : KeyR K F' ps ks := by
  induction h with
  | nil => exact .nil
  | cons a b c _ ih => exact .cons (a.mono e) b c ih
theorem RA.len {F : Hp} {ρ : List Addr} {ds : List D} {vs : List V} (h : RA K F ρ ds vs) : ds.length = vs.length := by
  induction h with
  | nil => rfl
  | cons _ _ ih => exact congrArg (· + 1) ih
theorem RPs.len {F : Hp} : ∀ {ds : List P} {vs : List V}, RPs K F ds vs → ds.length = vs.length
  | _, _, .nil => rfl
  | _, _, .cons _ r => congrArg (· + 1) (RPs.len r)
theorem RA.get {F : Hp} {ρ : List Addr} : ∀ {ds : List D} {vs : List V} {i : Nat} {d : D}, RA K F ρ ds vs → ds[i]? = some d → ∃ v, vs[i]? = some v ∧ RD K F ρ d v
  | _, _, _, _, .nil, h => by simp at h
  | _, _, 0, _, .cons q r, h => by
    cases Option.some.inj h
    exact ⟨_, rfl, q⟩
  | _, _, i + 1, d, .cons q r, h => by
    obtain ⟨v, h1, h2⟩ := RA.get (i := i) (d := d) r (by simpa using h)
    exact ⟨v, by simpa using h1, h2⟩
theorem RPs.get {F : Hp} : ∀ {ds : List P} {vs : List V} {i : Nat} {d : P}, RPs K F ds vs → ds[i]? = some d → ∃ v, vs[i]? = some v ∧ RP K F d v
  | _, _, _, _, .nil, h => by simp at h
  | _, _, 0, _, .cons q r, h => by
    cases Option.some.inj h
    exact ⟨_, rfl, q⟩
  | _, _, i + 1, d, .cons q r, h => by
    obtain ⟨v, h1, h2⟩ := RPs.get (i := i) (d := d) r (by simpa using h)
    exact ⟨v, by simpa using h1, h2⟩
theorem RA.append {F : Hp} {ρ : List Addr} : ∀ {ds es : List D} {vs us : List V}, RA K F ρ ds vs → RA K F ρ es us → RA K F ρ (ds ++ es) (vs ++ us)
  | _, _, _, _, .nil, s => s
  | _, _, _, _, .cons q r, s => .cons q (RA.append r s)
theorem RPs.append {F : Hp} : ∀ {ds es : List P} {vs us : List V}, RPs K F ds vs → RPs K F es us → RPs K F (ds ++ es) (vs ++ us)
  | _, _, _, _, .nil, s => s
  | _, _, _, _, .cons q r, s => .cons q (RPs.append r s)
theorem RA.set {F : Hp} {ρ : List Addr} {d : D} {v : V} (q : RD K F ρ d v) : ∀ {ds : List D} {vs : List V} (i : Nat), RA K F ρ ds vs → RA K F ρ (ds.set i d) (vs.set i v)
  | _, _, _, .nil => .nil
  | _, _, 0, .cons _ r => .cons q r
  | _, _, i + 1, .cons p r => .cons p (RA.set q i r)
theorem RPs.take {F : Hp} : ∀ {ds : List P} {vs : List V} (i : Nat), RPs K F ds vs → RPs K F (ds.take i) (vs.take i)
  | _, _, 0, _ => .nil
  | _, _, _ + 1, .nil => .nil
  | _, _, i + 1, .cons p r => .cons p (RPs.take i r)
theorem RPs.drop {F : Hp} : ∀ {ds : List P} {vs : List V} (i : Nat), RPs K F ds vs → RPs K F (ds.drop i) (vs.drop i)
  | _, _, 0, r => r
  | _, _, _ + 1, .nil => .nil
  | _, _, i + 1, .cons p r => RPs.drop i r
theorem RA.pure {F : Hp} {ρ : List Addr} : ∀ {ps : List P} {vs : List V}, RA K F ρ (ps.map D.p) vs → RPs K F ps vs
  | [], _, .nil => .nil
  | _ :: _, _, .cons (.p q) r => .cons q (RA.pure r)
theorem RPs.data {F : Hp} {ρ : List Addr} : ∀ {ps : List P} {vs : List V}, RPs K F ps vs → RA K F ρ (ps.map D.p) vs
  | [], _, .nil => .nil
  | _ :: _, _, .cons q r => .cons (.p q) (RPs.data r)
theorem RPs.ints {F : Hp} : ∀ {ns : List Int} {vs : List V}, RPs K F (ns.map P.int) vs → vs = ns.map V.int
  | [], _, .nil => rfl
  | n :: ns, _, .cons (.int _) r => by
    rw [RPs.ints r]
    rfl
theorem RPs.of_ints {F : Hp} : ∀ (ns : List Int), RPs K F (ns.map P.int) (ns.map V.int)
  | [] => .nil
  | n :: ns => .cons (.int n) (RPs.of_ints ns)
theorem RF.look {F : Hp} {ρ : List Addr} {f : Str} : ∀ {ds : List (Str × D)} {vs : List (Str × V)} {d : D}, RF K F ρ ds vs → ds.lookup f = some d → ∃ v, vs.lookup f = some v ∧ RD K F ρ d v
  | _, _, _, .nil, h => by simp at h
  | _, _, d', .cons (f := g) q r, h => by
    by_cases e : f = g
    · subst e
      simp only [List.lookup, beq_self_eq_true] at h ⊢
      cases h
      exact ⟨_, rfl, q⟩
    · have e' : (f == g) = false := by simpa using e
      simp only [List.lookup, e'] at h ⊢
      exact RF.look r h
theorem RPf.data {F : Hp} {ρ : List Addr} : ∀ {fs : List (Str × P)} {vs : List (Str × V)}, RPf K F fs vs → RF K F ρ (fs.map fun q => (q.1, D.p q.2)) vs
  | _, _, .nil => .nil
  | _, _, .cons q r => .cons (.p q) (RPf.data r)
theorem RF.pure {F : Hp} {ρ : List Addr} : ∀ {fs : List (Str × P)} {vs : List (Str × V)}, RF K F ρ (fs.map fun q => (q.1, D.p q.2)) vs → RPf K F fs vs
  | [], _, .nil => .nil
  | (_, _) :: _, _, .cons (.p q) r => .cons q (RF.pure r)
theorem RF.len {F : Hp} {ρ : List Addr} {ds : List (Str × D)} {vs : List (Str × V)} (h : RF K F ρ ds vs) : ds.length = vs.length := by
  induction h with
  | nil => rfl
  | cons _ _ ih => exact congrArg (· + 1) ih
def putD (f : Str) (d : D) : List (Str × D) → List (Str × D)
  | [] => [(f, d)]
  | p :: r => if p.1 = f then (f, d) :: r else p :: putD f d r
theorem RF.put {F : Hp} {ρ : List Addr} {f : Str} {d : D} {v : V} (q : RD K F ρ d v) : ∀ {ds : List (Str × D)} {vs : List (Str × V)}, RF K F ρ ds vs → RF K F ρ (putD f d ds) (putF f v vs)
  | _, _, .nil => .cons q .nil
  | _, _, .cons (f := g) p r => by
    by_cases e : g = f
    · subst e
      simp only [putD, putF, if_true]
      exact .cons q r
    · simp only [putD, putF, if_neg e]
      exact .cons p (RF.put q r)
/-- an owned thing and what stands there -/
def RO (K : PySem.W.Frag) (a : Addr) (F : Hp) (ρ : List Addr) : OO → HO → Prop
  | .lst xs, o => ∃ vs, o = .lst vs ∧ RA K F ρ xs vs
  | .ins C fs, o => ∃ dx gs, o = .ins C dx gs ∧ RF K F ρ fs gs
  | .dK kvs, o => ∃ gs, o = .dK gs ∧ RK K F ρ kvs gs
  | .dT kvs, o => ∃ gs, o = .dT gs ∧ RK K F ρ kvs gs
  | .dN pw kvs, o => ∃ gs, o = .ext (NdPhi pw a gs) ∧ KeyR K F (kvs.map (·.1)) (gs.map (·.1)) ∧ RA K F ρ (kvs.map (·.2)) (gs.map (·.2))
  | .dL pw od gs kvs, o => o = .frz od (.ext (NdPhi pw a gs)) ∧ KeyR K F (kvs.map (·.1)) (gs.map (·.1)) ∧ RA K F ρ (kvs.map (·.2)) (gs.map (·.2))
theorem RO.mono {a : Addr} {F F' : Hp} {ρ ρ' : List Addr} (e : Same F F') (p : Pre ρ ρ') : ∀ {o : OO} {u : HO}, RO K a F ρ o u → RO K a F' ρ' o u
  | .lst _, _, ⟨vs, h, r⟩ => ⟨vs, h, r.mono e p⟩
  | .ins _ _, _, ⟨dx, gs, h, r⟩ => ⟨dx, gs, h, r.mono e p⟩
  | .dK _, _, ⟨gs, h, r⟩ => ⟨gs, h, r.mono e p⟩
  | .dT _, _, ⟨gs, h, r⟩ => ⟨gs, h, r.mono e p⟩
  | .dN _ _, _, ⟨gs, h, q, r⟩ => ⟨gs, h, q.mono e, r.mono e p⟩
  | .dL _ _ _ _, _, ⟨h, q, r⟩ => ⟨h, q.mono e, r.mono e p⟩
/-- the heap H: frozen things F, owned things h at ρ -/
structure Base (K : PySem.W.Frag) (T : Tbs) (F : Hp) (ρ : List Addr) (h : Hs) (H : Hp) : Prop where
  same : Same F H
  len : ρ.length = h.length
  own : ∀ (i : Nat) (o : OO), h[i]? = some (some o) → ∃ a u, ρ[i]? = some a ∧ F a = none ∧ H a = some u ∧ RO K a F ρ o u
  inj : ∀ (i j : Nat) (o u : OO) (a : Addr), h[i]? = some (some o) → h[j]? = some (some u) → ρ[i]? = some a → ρ[j]? = some a → i = j
  tab : ∀ P ∈ T, F P = none ∧ GxR.TabG H P
  lam : ∀ p ∈ T.l, F p.1 = none ∧ LamX.TabS H p.1 p.2
/-- the error's fields -/
def XnAt (K : PySem.W.Frag) (F : Hp) (X : Exn) (d : Option Addr) : Prop := match X.fs with
  | none => d = none
  | some fs => ∃ a gs, d = some a ∧ F a = some (.xd gs) ∧ RPf K F fs gs
structure REnv (K : PySem.W.Frag) (F : Hp) (ρ : List Addr) (env : Env') (σ : L2.St) : Prop where
  len : env.length = σ.length
  get : ∀ (i : Nat) (d : D), env[i]? = some (some d) → ∃ v, σ[i]? = some (some v) ∧ RD K F ρ d v
theorem REnv.mono {F F' : Hp} {ρ ρ' : List Addr} {env : Env'} {σ : L2.St} (e : Same F F') (p : Pre ρ ρ') (r : REnv K F ρ env σ) : REnv K F' ρ' env σ :=
  ⟨r.len, fun i d h => let ⟨v, h1, h2⟩ := r.get i d h; ⟨v, h1, h2.mono e p⟩⟩
theorem REnv.set {F : Hp} {ρ : List Addr} {env : Env'} {σ : L2.St} {i : Nat} {d : D} {v : V} (r : REnv K F ρ env σ) (q : RD K F ρ d v) : REnv K F ρ (env.set i (some d)) (σ.set i (some v)) := by
  refine ⟨by rw [List.length_set, List.length_set]; exact r.len, fun j e h => ?_⟩
  by_cases hj : i = j
  · subst hj
    have hl : i < env.length := by
      have := (List.getElem?_eq_some_iff.mp h).1
      rwa [List.length_set] at this
    rw [List.getElem?_set_self hl] at h
    cases h
    exact ⟨v, by rw [List.getElem?_set_self (by rw [← r.len]; exact hl)], q⟩
  · rw [List.getElem?_set_ne hj] at h ⊢
    exact r.get j e h
theorem REnv.wipe {F : Hp} {ρ : List Addr} {env : Env'} {σ : L2.St} {i : Nat} (r : REnv K F ρ env σ) : REnv K F ρ (env.set i none) (σ.set i none) := by
  refine ⟨by rw [List.length_set, List.length_set]; exact r.len, fun j e h => ?_⟩
  by_cases hj : i = j
  · subst hj
    have hl : i < env.length := by
      have := (List.getElem?_eq_some_iff.mp h).1
      rwa [List.length_set] at this
    rw [List.getElem?_set_self hl] at h
    cases h
  · rw [List.getElem?_set_ne hj] at h ⊢
    exact r.get j e h
/-- from here on these errors keep the wish -/
structure Wish (K : PySem.W.Frag) (Θ : Ctx) (F : Hp) (ρ : List Addr) : Prop where
  run : ∀ (X : Exn) (d : Option Addr) (env : Env') (h' : Hs) (F' : Hp) (ρ' : List Addr) (σ : L2.St) (H' : Hp), Same F F' → Pre ρ ρ' → Base K Θ.tabs F' ρ' h' H' → REnv K F' ρ' env σ → XnAt K F' X d → Θ.ex X env h' → Θ.wish σ (.ref X.cls) d H'
  floor : Same Θ.fl F
theorem Wish.mono {F F' : Hp} {ρ ρ' : List Addr} (w : Wish K Θ F ρ) (s : Same F F') (p : Pre ρ ρ') : Wish K Θ F' ρ' := ⟨fun X d env h' F2 ρ2 σ H' s2 p2 => w.run X d env h' F2 ρ2 σ H' (s.trans s2) (p.trans p2), w.floor.trans s⟩
theorem Wish.plain {F : Hp} {ρ : List Addr} : Wish K (Ctx.plain T) F ρ := ⟨fun _ _ _ _ _ _ _ _ _ _ _ _ _ z => z.elim, fun _ _ z => by cases z⟩
structure Rel (K : PySem.W.Frag) (Θ : Ctx) (F : Hp) (ρ : List Addr) (h : Hs) (H : Hp) : Prop extends Base K Θ.tabs F ρ h H where
  wish : Wish K Θ F ρ
theorem Base.plain {F : Hp} {ρ : List Addr} {h : Hs} {H : Hp} (r : Base K T F ρ h H) : Rel K (Ctx.plain T) F ρ h H := ⟨r, .plain⟩
/-! ### the judgements -/
def VE (K : PySem.W.Frag) (Θ : Ctx) (te : TE) (env : Env') (h : Hs) (R : D → Hs → Prop) : Prop :=
  ∀ (F : Hp) (ρ : List Addr) (σ : L2.St) (H : Hp) (Q : VK), Rel K Θ F ρ h H → REnv K F ρ env σ →
    (∀ (d : D) (h' : Hs) (v : V) (F' : Hp) (ρ' : List Addr) (H' : Hp), Same F F' → Pre ρ ρ' → Rel K Θ F' ρ' h' H' → RD K F' ρ' d v → R d h' → Q v H') → te σ H Q
def VA (K : PySem.W.Frag) (Θ : Ctx) (ta : TA) (env : Env') (h : Hs) (R : List D → Hs → Prop) : Prop :=
  ∀ (F : Hp) (ρ : List Addr) (σ : L2.St) (H : Hp) (Q : List V → Hp → Prop), Rel K Θ F ρ h H → REnv K F ρ env σ →
    (∀ (d : List D) (h' : Hs) (v : List V) (F' : Hp) (ρ' : List Addr) (H' : Hp), Same F F' → Pre ρ ρ' → Rel K Θ F' ρ' h' H' → RA K F' ρ' d v → R d h' → Q v H') → ta σ H Q
def VT (K : PySem.W.Frag) (Θ : Ctx) (tt : TT) (env : Env') (h : Hs) (R : Bool → Hs → Prop) : Prop :=
  ∀ (F : Hp) (ρ : List Addr) (σ : L2.St) (H : Hp) (Q : Bool → Hp → Prop), Rel K Θ F ρ h H → REnv K F ρ env σ →
    (∀ (b : Bool) (h' : Hs) (F' : Hp) (ρ' : List Addr) (H' : Hp), Same F F' → Pre ρ ρ' → Rel K Θ F' ρ' h' H' → R b h' → Q b H') → tt σ H Q
/-- an operation upon values -/
def V2 (K : PySem.W.Frag) (Θ : Ctx) (r : R2) (x y : D) (h : Hs) (R : D → Hs → Prop) : Prop :=
  ∀ (F : Hp) (ρ : List Addr) (H : Hp) (vx vy : V) (Q : VK), Rel K Θ F ρ h H → RD K F ρ x vx → RD K F ρ y vy →
    (∀ (d : D) (h' : Hs) (v : V) (F' : Hp) (ρ' : List Addr) (H' : Hp), Same F F' → Pre ρ ρ' → Rel K Θ F' ρ' h' H' → RD K F' ρ' d v → R d h' → Q v H') → r vx vy H Q
def V1 (K : PySem.W.Frag) (Θ : Ctx) (r : V → Hp → VK → Prop) (x : D) (h : Hs) (R : D → Hs → Prop) : Prop :=
  ∀ (F : Hp) (ρ : List Addr) (H : Hp) (vx : V) (Q : VK), Rel K Θ F ρ h H → RD K F ρ x vx →
    (∀ (d : D) (h' : Hs) (v : V) (F' : Hp) (ρ' : List Addr) (H' : Hp), Same F F' → Pre ρ ρ' → Rel K Θ F' ρ' h' H' → RD K F' ρ' d v → R d h' → Q v H') → r vx H Q
/-- a call upon values -/
def VC (K : PySem.W.Frag) (Θ : Ctx) (r : List V → Hp → VK → Prop) (xs : List D) (h : Hs) (R : D → Hs → Prop) : Prop :=
  ∀ (F : Hp) (ρ : List Addr) (H : Hp) (vs : List V) (Q : VK), Rel K Θ F ρ h H → RA K F ρ xs vs →
    (∀ (d : D) (h' : Hs) (v : V) (F' : Hp) (ρ' : List Addr) (H' : Hp), Same F F' → Pre ρ ρ' → Rel K Θ F' ρ' h' H' → RD K F' ρ' d v → R d h' → Q v H') → r vs H Q
/-- a method upon values -/
def VM (K : PySem.W.Frag) (Θ : Ctx) (r : V → List V → Hp → VK → Prop) (x : D) (xs : List D) (h : Hs) (R : D → Hs → Prop) : Prop :=
  ∀ (F : Hp) (ρ : List Addr) (H : Hp) (vx : V) (vs : List V) (Q : VK), Rel K Θ F ρ h H → RD K F ρ x vx → RA K F ρ xs vs →
    (∀ (d : D) (h' : Hs) (v : V) (F' : Hp) (ρ' : List Addr) (H' : Hp), Same F F' → Pre ρ ρ' → Rel K Θ F' ρ' h' H' → RD K F' ρ' d v → R d h' → Q v H') → r vx vs H Q
structure En where
  nx : Env' → Hs → Prop
  rt : D → Hs → Prop
  bk : Env' → Hs → Prop := fun _ _ => False
  ct : Env' → Hs → Prop := fun _ _ => False
/-- what the reading's ends owe to the data's -/
structure EnOk (K : PySem.W.Frag) (Θ : Ctx) (F : Hp) (ρ : List Addr) (E : En) (D' : Ends) : Prop where
  nx : ∀ (env : Env') (h : Hs) (F' : Hp) (ρ' : List Addr) (σ : L2.St) (H : Hp), Same F F' → Pre ρ ρ' → Rel K Θ F' ρ' h H → REnv K F' ρ' env σ → E.nx env h → D'.nx σ H
  rt : ∀ (d : D) (h : Hs) (v : V) (F' : Hp) (ρ' : List Addr) (H : Hp), Same F F' → Pre ρ ρ' → Rel K Θ F' ρ' h H → RD K F' ρ' d v → E.rt d h → D'.rt v H
  bk : ∀ (env : Env') (h : Hs) (F' : Hp) (ρ' : List Addr) (σ : L2.St) (H : Hp), Same F F' → Pre ρ ρ' → Rel K Θ F' ρ' h H → REnv K F' ρ' env σ → E.bk env h → D'.bk σ H
  ct : ∀ (env : Env') (h : Hs) (F' : Hp) (ρ' : List Addr) (σ : L2.St) (H : Hp), Same F F' → Pre ρ ρ' → Rel K Θ F' ρ' h H → REnv K F' ρ' env σ → E.ct env h → D'.ct σ H
theorem EnOk.mono {F F' : Hp} {ρ ρ' : List Addr} {E : En} {D' : Ends} (e : Same F F') (p : Pre ρ ρ') (k : EnOk K Θ F ρ E D') : EnOk K Θ F' ρ' E D' :=
  ⟨fun env h F2 ρ2 σ H a b => k.nx env h F2 ρ2 σ H (e.trans a) (p.trans b), fun d h v F2 ρ2 H a b => k.rt d h v F2 ρ2 H (e.trans a) (p.trans b),
   fun env h F2 ρ2 σ H a b => k.bk env h F2 ρ2 σ H (e.trans a) (p.trans b), fun env h F2 ρ2 σ H a b => k.ct env h F2 ρ2 σ H (e.trans a) (p.trans b)⟩
def VS (K : PySem.W.Frag) (Θ : Ctx) (t : TS) (E : En) (env : Env') (h : Hs) : Prop :=
  ∀ (F : Hp) (ρ : List Addr) (σ : L2.St) (H : Hp) (D' : Ends), Rel K Θ F ρ h H → REnv K F ρ env σ → EnOk K Θ F ρ E D' → t D' σ H
/-- a target -/
def VG (K : PySem.W.Frag) (Θ : Ctx) (g : TG) (d : D) (env : Env') (h : Hs) (N : Env' → Hs → Prop) : Prop :=
  ∀ (F : Hp) (ρ : List Addr) (σ : L2.St) (H : Hp) (v : V) (Q : L2.St → Hp → Prop), Rel K Θ F ρ h H → REnv K F ρ env σ → RD K F ρ d v →
    (∀ (env' : Env') (h' : Hs) (F' : Hp) (ρ' : List Addr) (σ' : L2.St) (H' : Hp), Same F F' → Pre ρ ρ' → Rel K Θ F' ρ' h' H' → REnv K F' ρ' env' σ' → N env' h' → Q σ' H') → g v σ H Q
def VGs (K : PySem.W.Frag) (Θ : Ctx) (g : TGs) (ds : List D) (env : Env') (h : Hs) (N : Env' → Hs → Prop) : Prop :=
  ∀ (F : Hp) (ρ : List Addr) (σ : L2.St) (H : Hp) (vs : List V) (Q : L2.St → Hp → Prop), Rel K Θ F ρ h H → REnv K F ρ env σ → RA K F ρ ds vs →
    (∀ (env' : Env') (h' : Hs) (F' : Hp) (ρ' : List Addr) (σ' : L2.St) (H' : Hp), Same F F' → Pre ρ ρ' → Rel K Θ F' ρ' h' H' → REnv K F' ρ' env' σ' → N env' h' → Q σ' H') → g vs σ H Q
/-- a promise in data: W args heap what-follows -/
abbrev Spc := List D → Hs → (D → Hs → Prop) → Prop
def spD (K : PySem.W.Frag) (T : Tbs) (W : Spc) : Sp := fun vs H Q _ => ∃ (ds : List D) (h : Hs) (F : Hp) (ρ : List Addr) (R : D → Hs → Prop), Base K T F ρ h H ∧ RA K F ρ ds vs ∧ W ds h R ∧
  ∀ (d : D) (h' : Hs) (v : V) (F' : Hp) (ρ' : List Addr) (H' : Hp), Same F F' → Pre ρ ρ' → Base K T F' ρ' h' H' → RD K F' ρ' d v → R d h' → Q v H'
/-! ### heaps -/
theorem Base.free {F : Hp} {ρ : List Addr} {h : Hs} {H : Hp} (r : Base K T F ρ h H) {p : Addr} (e : H p = none) : F p = none := r.same.free e
theorem same_updB {F H : Hp} {p : Addr} {o : HO} (s : Same F H) : Same (upd F p o) (upd H p o) := fun b u e => by
  by_cases hb : b = p
  · subst hb; rw [upd_same] at e ⊢; exact e
  · rw [upd_ne hb] at e ⊢; exact s b u e
theorem same_new {F : Hp} {p : Addr} {o : HO} (h : F p = none) : Same F (upd F p o) := fun b u e => by
  rw [upd_ne (ne_of_none e h)]; exact e
theorem tab_ne {H : Hp} {P p : Addr} (t : GxR.TabG H P) (e : H p = none) : P ≠ p := by
  obtain ⟨ps, h1, _⟩ := t
  exact ne_of_none h1 e
theorem tab_upd {H : Hp} {P p : Addr} {o : HO} (t : GxR.TabG H P) (n : P ≠ p) : GxR.TabG (upd H p o) P := by
  obtain ⟨ps, h1, h2⟩ := t
  exact ⟨ps, by rw [upd_ne n]; exact h1, h2⟩
theorem RO.notTab {a : Addr} {F : Hp} {ρ : List Addr} {o : OO} {ps : Array Value} (r : RO K a F ρ o (.tbl ps)) : False := by
  cases o with
  | lst xs => obtain ⟨vs, e, _⟩ := r; cases e
  | ins C fs => obtain ⟨dx, gs, e, _⟩ := r; cases e
  | dK kvs => obtain ⟨gs, e, _⟩ := r; cases e
  | dT kvs => obtain ⟨gs, e, _⟩ := r; cases e
  | dN pw kvs => obtain ⟨gs, e, _⟩ := r; cases e
  | dL pw od gs kvs => obtain ⟨e, _⟩ := r; cases e
theorem tab_own {H F : Hp} {ρ : List Addr} {P a : Addr} {o : OO} {u : HO} (t : GxR.TabG H P) (e : H a = some u) (r : RO K a F ρ o u) : P ≠ a := by
  obtain ⟨ps, h1, _⟩ := t
  rintro rfl
  rw [h1] at e
  cases e
  exact r.notTab
theorem lam_upd {H : Hp} {P p : Addr} {q : Str} {o : HO} (t : LamX.TabS H P q) (e : H p = none) : LamX.TabS (upd H p o) P q := t.ext fun b u eb => by rw [upd_ne (ne_of_none eb e)]; exact eb
theorem lam_ne {H : Hp} {P p : Addr} {q : Str} (t : LamX.TabS H P q) (e : H p = none) : P ≠ p := by
  obtain ⟨ps, h1, _⟩ := t
  exact ne_of_none h1 e
theorem lam_neO {H : Hp} {P p : Addr} {q : Str} {o : HO} (t : LamX.TabS H P q) (e : H p = some o) (n : ∀ ps, o ≠ .tbl ps) : P ≠ p := by
  obtain ⟨ps, h1, _⟩ := t
  rintro rfl
  rw [h1] at e
  exact n ps (Option.some.inj e).symm
/-- no dict is a code object -/
theorem NdPhi.notCode {pw : Program × World} {a : Addr} {gs : List ((NestedKey × Addr) × V)} {c : Addr} {q : Str} (e : HO.ext (NdPhi pw a gs) = LamX.CodeO c q) : False := by
  unfold LamX.CodeO at e
  injection e with e
  let ob : Obj := { cls := .none, data := .fields #[.none, .str q 0] }
  let hp : Heap := { objs := (List.replicate (max a c + 1) ob).toArray }
  have g : ∀ b, b ≤ max a c → hp.get? b = some ob := fun b hb => by
    have : hp.objs[b]? = some ob := by
      show (List.replicate (max a c + 1) ob).toArray[b]? = some ob
      rw [List.getElem?_toArray, List.getElem?_replicate, if_pos (Nat.lt_succ_of_le hb)]
    unfold Heap.get?
    rw [this]
  have h1 : (fun h : Heap => ∃ (oc : Obj) (vs : Array Value) (t : Tok), h.get? c = some oc ∧ oc.data = .fields vs ∧ vs[1]? = some (.str q t)) hp := ⟨ob, #[.none, .str q 0], 0, g c (Nat.le_max_right ..), rfl, rfl⟩
  rw [← e] at h1
  obtain ⟨_, _, xs, _, o, es, ep, h2, _, h3, _⟩ := h1
  rw [g a (Nat.le_max_left ..)] at h2
  cases h2
  cases h3
theorem RO.notCode {a : Addr} {F : Hp} {ρ : List Addr} {o : OO} {c : Addr} {q : Str} (r : RO K a F ρ o (LamX.CodeO c q)) : False := by
  cases o with
  | lst xs => obtain ⟨vs, e, _⟩ := r; unfold LamX.CodeO at e; cases e
  | ins C fs => obtain ⟨dx, gs, e, _⟩ := r; unfold LamX.CodeO at e; cases e
  | dK kvs => obtain ⟨gs, e, _⟩ := r; unfold LamX.CodeO at e; cases e
  | dT kvs => obtain ⟨gs, e, _⟩ := r; unfold LamX.CodeO at e; cases e
  | dN pw kvs => obtain ⟨gs, e, _⟩ := r; exact NdPhi.notCode e.symm
  | dL pw od gs kvs => obtain ⟨e, _⟩ := r; unfold LamX.CodeO at e; cases e
theorem lam_own {H F : Hp} {ρ : List Addr} {P a : Addr} {q : Str} {o : OO} {u : HO} (t : LamX.TabS H P q) (e : H a = some u) (r : RO K a F ρ o u) (w : HO) : P ≠ a ∧ LamX.TabS (upd H a w) P q := by
  obtain ⟨ps, h1, h2, h3⟩ := t
  have n : P ≠ a := by
    rintro rfl
    rw [h1] at e
    cases e
    exact r.notTab
  refine ⟨n, ps, by rw [upd_ne n]; exact h1, h2, fun pos cv hc => ?_⟩
  obtain ⟨c, e1, e2⟩ := h3 pos cv hc
  refine ⟨c, e1, ?_⟩
  have n2 : c ≠ a := by
    rintro rfl
    rw [e2] at e
    cases e
    exact r.notCode
  rw [upd_ne n2]
  exact e2
/-- a new frozen thing -/
theorem Base.frz {F : Hp} {ρ : List Addr} {h : Hs} {H : Hp} (r : Base K T F ρ h H) {p : Addr} {o : HO} (e : H p = none) : Base K T (upd F p o) ρ h (upd H p o) := by
  have hF := r.free e
  refine ⟨same_updB r.same, r.len, fun i u hi => ?_, r.inj, fun P hP => ⟨by rw [upd_ne (tab_ne (r.tab P hP).2 e)]; exact (r.tab P hP).1, tab_upd (r.tab P hP).2 (tab_ne (r.tab P hP).2 e)⟩, fun q hq => ⟨by rw [upd_ne (lam_ne (r.lam q hq).2 e)]; exact (r.lam q hq).1, lam_upd (r.lam q hq).2 e⟩⟩
  obtain ⟨a, w, h1, h2, h3, h4⟩ := r.own i u hi
  have ha : a ≠ p := ne_of_none h3 e
  exact ⟨a, w, h1, by rw [upd_ne ha]; exact h2, by rw [upd_ne ha]; exact h3, h4.mono (same_new hF) (Pre.refl _)⟩
/-- a new owned thing -/
theorem Base.push {F : Hp} {ρ : List Addr} {h : Hs} {H : Hp} (r : Base K T F ρ h H) {p : Addr} {o : OO} {u : HO} (e : H p = none) (ro : RO K p F ρ o u) : Base K T F (ρ ++ [p]) (h ++ [some o]) (upd H p u) := by
  have hF := r.free e
  have old : ∀ (i : Nat) (o : OO), h[i]? = some (some o) → ∀ a, ρ[i]? = some a → a ≠ p := fun i o hi a ha => by
    obtain ⟨a', w, h1, h2, h3, h4⟩ := r.own i o hi
    rw [h1] at ha; cases ha
    exact ne_of_none h3 e
  have cs : ∀ (i : Nat) (o' : OO), (h ++ [some o])[i]? = some (some o') → (i < h.length ∧ h[i]? = some (some o')) ∨ (i = h.length ∧ o' = o) := fun i o' hi => by
    by_cases hl : i < h.length
    · rw [List.getElem?_append_left hl] at hi; exact .inl ⟨hl, hi⟩
    · by_cases he : i = h.length
      · subst he
        rw [List.getElem?_append_right (Nat.le_refl _), Nat.sub_self] at hi
        simp at hi
        exact .inr ⟨rfl, hi.symm⟩
      · have : (h ++ [some o]).length ≤ i := by rw [List.length_append]; simp only [List.length_cons, List.length_nil]; omega
        rw [List.getElem?_eq_none_iff.mpr this] at hi; cases hi
  have pl : ∀ (i : Nat), i < h.length → (ρ ++ [p])[i]? = ρ[i]? := fun i hi => List.getElem?_append_left (by rw [r.len]; exact hi)
  have pr : (ρ ++ [p])[h.length]? = some p := by rw [List.getElem?_append_right (by rw [r.len]; exact Nat.le_refl _), r.len, Nat.sub_self]; rfl
  refine ⟨fun b o e' => ?_, by rw [List.length_append, List.length_append, r.len]; rfl, fun i o' hi => ?_, fun i j o1 o2 a hi hj ha hb => ?_, fun P hP => ⟨(r.tab P hP).1, tab_upd (r.tab P hP).2 (tab_ne (r.tab P hP).2 e)⟩, fun q hq => ⟨(r.lam q hq).1, lam_upd (r.lam q hq).2 e⟩⟩
  · rw [upd_ne (ne_of_none (r.same b o e') e)]; exact r.same b o e'
  · rcases cs i o' hi with ⟨hl, hi⟩ | ⟨rfl, rfl⟩
    · obtain ⟨a, w, h1, h2, h3, h4⟩ := r.own i o' hi
      exact ⟨a, w, by rw [pl i hl]; exact h1, h2, by rw [upd_ne (ne_of_none h3 e)]; exact h3, h4.mono (Same.refl _) (Pre.push _ _)⟩
    · exact ⟨p, u, pr, hF, upd_same, ro.mono (Same.refl _) (Pre.push _ _)⟩
  · rcases cs i o1 hi with ⟨hl, hi1⟩ | ⟨hl, _⟩ <;> rcases cs j o2 hj with ⟨hl2, hj1⟩ | ⟨hl2, _⟩
    · rw [pl i hl] at ha
      rw [pl j hl2] at hb
      exact r.inj i j o1 o2 a hi1 hj1 ha hb
    · rw [pl i hl] at ha
      rw [hl2, pr] at hb
      cases hb
      exact absurd rfl (old i o1 hi1 p ha)
    · rw [pl j hl2] at hb
      rw [hl, pr] at ha
      cases ha
      exact absurd rfl (old j o2 hj1 p hb)
    · rw [hl, hl2]
/-- an owned thing changes -/
theorem Base.put {F : Hp} {ρ : List Addr} {h : Hs} {H : Hp} (r : Base K T F ρ h H) {i : Nat} {a : Addr} {o o' : OO} {u : HO} (hi : h[i]? = some (some o)) (ha : ρ[i]? = some a) (ro : RO K a F ρ o' u) : Base K T F ρ (h.set i (some o')) (upd H a u) := by
  obtain ⟨a1, w, h1, h2, h3, h4⟩ := r.own i o hi
  have ea : a1 = a := Option.some.inj (h1.symm.trans ha)
  rw [ea] at h1 h2 h3 h4
  have hil : i < h.length := (List.getElem?_eq_some_iff.mp hi).1
  have cs : ∀ (j : Nat) (o2 : OO), (h.set i (some o'))[j]? = some (some o2) → (j = i ∧ o2 = o') ∨ (j ≠ i ∧ h[j]? = some (some o2)) := fun j o2 hj => by
    by_cases e : j = i
    · subst e; rw [List.getElem?_set_self hil] at hj; simp at hj; exact .inl ⟨rfl, hj.symm⟩
    · rw [List.getElem?_set_ne (Ne.symm e)] at hj; exact .inr ⟨e, hj⟩
  have old : ∀ (j : Nat) (o2 : OO), (h.set i (some o'))[j]? = some (some o2) → ∃ o3, h[j]? = some (some o3) := fun j o2 hj => by
    rcases cs j o2 hj with ⟨e, _⟩ | ⟨_, e⟩
    · rw [e]; exact ⟨o, hi⟩
    · exact ⟨o2, e⟩
  refine ⟨fun b o2 e => ?_, by rw [List.length_set]; exact r.len, fun j o2 hj => ?_, fun j k o1 o2 b hj hk hb hc => ?_, fun P hP => ⟨(r.tab P hP).1, tab_upd (r.tab P hP).2 (tab_own (r.tab P hP).2 h3 h4)⟩, fun q hq => ⟨(r.lam q hq).1, (lam_own (r.lam q hq).2 h3 h4 u).2⟩⟩
  · rw [upd_ne (ne_of_none e h2)]; exact r.same b o2 e
  · rcases cs j o2 hj with ⟨e1, e2⟩ | ⟨hne, hj1⟩
    · rw [e1, e2]; exact ⟨a, u, h1, h2, upd_same, ro⟩
    · obtain ⟨b, w2, g1, g2, g3, g4⟩ := r.own j o2 hj1
      have hb : b ≠ a := fun e => hne (r.inj j i o2 o b hj1 hi g1 (e ▸ h1))
      exact ⟨b, w2, g1, g2, by rw [upd_ne hb]; exact g3, g4⟩
  · obtain ⟨o3, g1⟩ := old j o1 hj
    obtain ⟨o4, g2⟩ := old k o2 hk
    exact r.inj j k o3 o4 b g1 g2 hb hc
/-- an owned thing is frozen from now on -/
theorem Base.freeze {F : Hp} {ρ : List Addr} {h : Hs} {H : Hp} (r : Base K T F ρ h H) {i : Nat} {o : OO} (hi : h[i]? = some (some o)) :
    ∃ a u, ρ[i]? = some a ∧ F a = none ∧ H a = some u ∧ RO K a (upd F a u) ρ o u ∧ Base K T (upd F a u) ρ (h.set i none) H := by
  obtain ⟨a, u, h1, h2, h3, h4⟩ := r.own i o hi
  have hil : i < h.length := (List.getElem?_eq_some_iff.mp hi).1
  refine ⟨a, u, h1, h2, h3, h4.mono (same_new h2) (Pre.refl _), ⟨fun b o2 e => ?_, by rw [List.length_set]; exact r.len, fun j o2 hj => ?_, fun j k o1 o2 b hj hk hb hc => ?_, fun P hP => ⟨by rw [upd_ne (tab_own (r.tab P hP).2 h3 h4)]; exact (r.tab P hP).1, (r.tab P hP).2⟩, fun q hq => ⟨by rw [upd_ne (lam_own (r.lam q hq).2 h3 h4 u).1]; exact (r.lam q hq).1, (r.lam q hq).2⟩⟩⟩
  · by_cases hb : b = a
    · subst hb; rw [upd_same] at e; rw [h3]; exact e
    · rw [upd_ne hb] at e; exact r.same b o2 e
  · by_cases e : j = i
    · subst e; rw [List.getElem?_set_self hil] at hj; simp at hj
    · rw [List.getElem?_set_ne (Ne.symm e)] at hj
      obtain ⟨b, w2, g1, g2, g3, g4⟩ := r.own j o2 hj
      have hb : b ≠ a := fun z => e (r.inj j i o2 o b hj hi g1 (z ▸ h1))
      exact ⟨b, w2, g1, by rw [upd_ne hb]; exact g2, g3, g4.mono (same_new h2) (Pre.refl _)⟩
  · have sub : ∀ (j : Nat) (o2 : OO), (h.set i none)[j]? = some (some o2) → h[j]? = some (some o2) := fun j o2 hj => by
      by_cases e : j = i
      · subst e; rw [List.getElem?_set_self hil] at hj; simp at hj
      · rw [List.getElem?_set_ne (Ne.symm e)] at hj; exact hj
    exact r.inj _ _ _ _ b (sub _ _ hj) (sub _ _ hk) hb hc
theorem Rel.free {F : Hp} {ρ : List Addr} {h : Hs} {H : Hp} (r : Rel K Θ F ρ h H) {p : Addr} (e : H p = none) : F p = none := r.same.free e
theorem Rel.frz {F : Hp} {ρ : List Addr} {h : Hs} {H : Hp} (r : Rel K Θ F ρ h H) {p : Addr} {o : HO} (e : H p = none) : Rel K Θ (upd F p o) ρ h (upd H p o) := ⟨r.toBase.frz e, r.wish.mono (same_new (r.free e)) (Pre.refl _)⟩
theorem Rel.push {F : Hp} {ρ : List Addr} {h : Hs} {H : Hp} (r : Rel K Θ F ρ h H) {p : Addr} {o : OO} {u : HO} (e : H p = none) (ro : RO K p F ρ o u) : Rel K Θ F (ρ ++ [p]) (h ++ [some o]) (upd H p u) := ⟨r.toBase.push e ro, r.wish.mono (Same.refl _) (Pre.push _ _)⟩
theorem Rel.put {F : Hp} {ρ : List Addr} {h : Hs} {H : Hp} (r : Rel K Θ F ρ h H) {i : Nat} {a : Addr} {o o' : OO} {u : HO} (hi : h[i]? = some (some o)) (ha : ρ[i]? = some a) (ro : RO K a F ρ o' u) : Rel K Θ F ρ (h.set i (some o')) (upd H a u) := ⟨r.toBase.put hi ha ro, r.wish⟩
theorem Rel.freeze {F : Hp} {ρ : List Addr} {h : Hs} {H : Hp} (r : Rel K Θ F ρ h H) {i : Nat} {o : OO} (hi : h[i]? = some (some o)) :
    ∃ a u, ρ[i]? = some a ∧ F a = none ∧ H a = some u ∧ RO K a (upd F a u) ρ o u ∧ Rel K Θ (upd F a u) ρ (h.set i none) H := by
  obtain ⟨a, u, h1, h2, h3, h4, h5⟩ := r.toBase.freeze hi
  exact ⟨a, u, h1, h2, h3, h4, h5, r.wish.mono (same_new h2) (Pre.refl _)⟩
end
end Kb

/-! The rules of the logic: expressions, statements. -/
namespace Kb
open PySem PySem.Spec PyProof.Rows L2
/-- a constant as data -/
inductive CD : P → V → Prop
  | non : CD .non .non
  | bl (b : Bool) : CD (.bl b) (.bl b)
  | int (i : Int) : CD (.int i) (.int i)
  | str (s : Str) : CD (.str s) (.str s)
  | ty (n : String) : CD (.ty n) (.ty n)
  | cls (C : Addr) : CD (.cls C) (.ref C)
section
variable {K : PySem.W.Frag} {Θ : Ctx} {env : Env'} {h : Hs} {ta tb te tc : TE} {R : D → Hs → Prop} {x y d : D}
theorem CD.rd {F : Hp} {ρ : List Addr} {d : P} {v : V} (c : CD d v) : RD K F ρ (.p d) v := by
  cases c
  · exact .p .non
  · exact .p (.bl _)
  · exact .p (.int _)
  · exact .p (.str _)
  · exact .p (.ty _)
  · exact .p (.cls _)
theorem RD.bl {F : Hp} {ρ : List Addr} {b : Bool} {v : V} (h : RD K F ρ (dB b) v) : v = .bl b := by
  cases h with
  | p h => cases h; rfl
theorem RD.int {F : Hp} {ρ : List Addr} {b : Int} {v : V} (h : RD K F ρ (dI b) v) : v = .int b := by
  cases h with
  | p h => cases h; rfl
theorem RD.str {F : Hp} {ρ : List Addr} {b : Str} {v : V} (h : RD K F ρ (dS b) v) : v = .str b := by
  cases h with
  | p h => cases h; rfl
theorem RD.non {F : Hp} {ρ : List Addr} {v : V} (h : RD K F ρ dN v) : v = .non := by
  cases h with
  | p h => cases h; rfl
theorem ve_var {i : Nat} (hd : env[i]? = some (some d)) (q : R d h) : VE K Θ (tVar i) env h R := fun F ρ σ H Q r e k => by
  obtain ⟨v, h1, h2⟩ := e.get i d hd
  exact ⟨v, h1, k d h v F ρ H (Same.refl _) (Pre.refl _) r h2 q⟩
theorem ve_c {v : V} {d : P} (c : CD d v) (q : R (.p d) h) : VE K Θ (tC v) env h R := fun F ρ σ H Q r e k => k (.p d) h v F ρ H (Same.refl _) (Pre.refl _) r c.rd q
theorem ve_int {i : Int} (q : R (dI i) h) : VE K Θ (tC (.int i)) env h R := ve_c (.int i) q
theorem ve_bl {b : Bool} (q : R (dB b) h) : VE K Θ (tC (.bl b)) env h R := ve_c (.bl b) q
theorem ve_str {s : Str} (q : R (dS s) h) : VE K Θ (tC (.str s)) env h R := ve_c (.str s) q
theorem ve_non (q : R dN h) : VE K Θ (tC .non) env h R := ve_c .non q
theorem ve_ty {n : String} (q : R (.p (.ty n)) h) : VE K Θ (tC (.ty n)) env h R := ve_c (.ty n) q
theorem ve_cls {C : Addr} (q : R (.p (.cls C)) h) : VE K Θ (tC (.ref C)) env h R := ve_c (.cls C) q
theorem ve_op {r : R2} (q : VE K Θ ta env h fun x h1 => VE K Θ tb env h1 fun y h2 => V2 K Θ r x y h2 R) : VE K Θ (tOp r ta tb) env h R := fun F ρ σ H Q rl e k =>
  q F ρ σ H _ rl e fun x h1 vx F1 ρ1 H1 s1 p1 r1 dx q1 => q1 F1 ρ1 σ H1 _ r1 (e.mono s1 p1) fun y h2 vy F2 ρ2 H2 s2 p2 r2 dy q2 =>
    q2 F2 ρ2 H2 vx vy Q r2 (dx.mono s2 p2) dy fun d h' v F' ρ' H' s3 p3 r3 dv q3 => k d h' v F' ρ' H' (s1.trans (s2.trans s3)) (p1.trans (p2.trans p3)) r3 dv q3
theorem ve_un {r : V → Hp → VK → Prop} (q : VE K Θ ta env h fun x h1 => V1 K Θ r x h1 R) : VE K Θ (tUn r ta) env h R := fun F ρ σ H Q rl e k =>
  q F ρ σ H _ rl e fun x h1 vx F1 ρ1 H1 s1 p1 r1 dx q1 => q1 F1 ρ1 H1 vx Q r1 dx fun d h' v F' ρ' H' s3 p3 r3 dv q3 => k d h' v F' ρ' H' (s1.trans s3) (p1.trans p3) r3 dv q3
theorem va_nil {R : List D → Hs → Prop} (q : R [] h) : VA K Θ tNil env h R := fun F ρ σ H Q r e k => k [] h [] F ρ H (Same.refl _) (Pre.refl _) r .nil q
theorem va_cons {tr : TA} {R : List D → Hs → Prop} (q : VE K Θ ta env h fun x h1 => VA K Θ tr env h1 fun xs h2 => R (x :: xs) h2) : VA K Θ (tCons ta tr) env h R := fun F ρ σ H Q rl e k =>
  q F ρ σ H _ rl e fun x h1 vx F1 ρ1 H1 s1 p1 r1 dx q1 => q1 F1 ρ1 σ H1 _ r1 (e.mono s1 p1) fun xs h2 vs F2 ρ2 H2 s2 p2 r2 dxs q2 =>
    k (x :: xs) h2 (vx :: vs) F2 ρ2 H2 (s1.trans s2) (p1.trans p2) r2 (.cons (dx.mono s2 p2) dxs) q2
theorem sz_le {n : Nat} (h : n ≤ 100000) : n ≤ sizeLine := Nat.le_trans h (by decide)
theorem ve_tup {t : TA} (q : VA K Θ t env h fun xs h1 => ∃ ps, xs = ps.map D.p ∧ xs.length ≤ sizeLine ∧ R (dT ps) h1) : VE K Θ (tTup t) env h R := fun F ρ σ H Q rl e k =>
  q F ρ σ H _ rl e fun xs h1 vs F1 ρ1 H1 s1 p1 r1 dxs q1 => by
    obtain ⟨ps, rfl, hl, q1⟩ := q1
    refine ⟨by rw [← dxs.len]; exact hl, fun p hp => ?_⟩
    exact k (dT ps) h1 (.ref p) (upd F1 p (.tup vs)) ρ1 _ (s1.trans (same_new (r1.free hp))) p1 (r1.frz hp) (.p (.tup (.of upd_same) (dxs.pure.mono (same_new (r1.free hp))))) q1
/-- a list display whose list stays as it is -/
theorem ve_lst {t : TA} (q : VA K Θ t env h fun xs h1 => ∃ ps, xs = ps.map D.p ∧ xs.length ≤ sizeLine ∧ R (dL ps) h1) : VE K Θ (tLst t) env h R := fun F ρ σ H Q rl e k =>
  q F ρ σ H _ rl e fun xs h1 vs F1 ρ1 H1 s1 p1 r1 dxs q1 => by
    obtain ⟨ps, rfl, hl, q1⟩ := q1
    refine ⟨by rw [← dxs.len]; exact hl, fun p hp => ?_⟩
    exact k (dL ps) h1 (.ref p) (upd F1 p (.lst vs)) ρ1 _ (s1.trans (same_new (r1.free hp))) p1 (r1.frz hp) (.p (.lst (.of upd_same) (dxs.pure.mono (same_new (r1.free hp))))) q1
/-- a list display that is owned -/
theorem ve_lstO {t : TA} (q : VA K Θ t env h fun xs h1 => xs.length ≤ sizeLine ∧ R (.own h1.length) (h1 ++ [some (.lst xs)])) : VE K Θ (tLst t) env h R := fun F ρ σ H Q rl e k =>
  q F ρ σ H _ rl e fun xs h1 vs F1 ρ1 H1 s1 p1 r1 dxs q1 => ⟨by rw [← dxs.len]; exact q1.1, fun p hp =>
    k (.own h1.length) (h1 ++ [some (.lst xs)]) (.ref p) F1 (ρ1 ++ [p]) _ s1 (p1.trans (Pre.push _ _)) (r1.push (o := .lst xs) hp ⟨vs, rfl, dxs⟩) (.own (by rw [← r1.len]; simp)) q1.2⟩
theorem ve_cb {r : List V → Hp → VK → Prop} {t : TA} (q : VA K Θ t env h fun xs h1 => VC K Θ r xs h1 R) : VE K Θ (tCB r t) env h R := fun F ρ σ H Q rl e k =>
  q F ρ σ H _ rl e fun xs h1 vs F1 ρ1 H1 s1 p1 r1 dxs q1 => q1 F1 ρ1 H1 vs Q r1 dxs fun d h' v F' ρ' H' s3 p3 r3 dv q3 => k d h' v F' ρ' H' (s1.trans s3) (p1.trans p3) r3 dv q3
theorem ve_call {W : Spc} {E : XK} {t : TA} (q : VA K Θ t env h fun xs h1 => W xs h1 R) : VE K Θ (tCall (spD K Θ.tabs W) [] E t) env h R := fun F ρ σ H Q rl e k =>
  q F ρ σ H _ rl e fun xs h1 vs F1 ρ1 H1 s1 p1 r1 dxs q1 => ⟨xs, h1, F1, ρ1, R, r1.toBase, by rw [List.append_nil]; exact dxs, q1, fun d h' v F' ρ' H' s3 p3 r3 dv q3 => k d h' v F' ρ' H' (s1.trans s3) (p1.trans p3) ⟨r3, r1.wish.mono s3 p3⟩ dv q3⟩
/-- of what built-in type -/
def TyD (T : String) (d : D) (h : Hs) : Prop := match d with
  | .p (.str _) => T = "str"
  | .p (.int _) => T = "int"
  | .p (.lst _) => T = "list"
  | .own i => T = "list" ∧ ∃ xs, h[i]? = some (some (.lst xs))
  | _ => False
theorem TyD.v {T : String} {F : Hp} {ρ : List Addr} {h : Hs} {H : Hp} {d : D} {v : V} (r : Rel K Θ F ρ h H) (q : RD K F ρ d v) (t : TyD T d h) : tyV K T v H := by
  cases q with
  | p q =>
    cases q with
    | str s => exact t
    | int i => exact t
    | lst a b => exact .inl ⟨t, _, r.same.seq a⟩
    | _ => exact t.elim
  | own e =>
    obtain ⟨h1, xs, hx⟩ := t
    obtain ⟨a, u, e1, e2, e3, vs, e4, _⟩ := r.own _ _ hx
    rw [e] at e1; cases e1
    subst e4
    exact .inl ⟨h1, vs, .of e3⟩
theorem ve_bm {T : String} {r : V → List V → Hp → VK → Prop} {to : TE} {t : TA}
    (q : VE K Θ to env h fun x h1 => TyD T x h1 ∧ VA K Θ t env h1 fun xs h2 => VM K Θ r x xs h2 R) : VE K Θ (tBM K T r to t) env h R := fun F ρ σ H Q rl e k =>
  q F ρ σ H _ rl e fun x h1 vx F1 ρ1 H1 s1 p1 r1 dx q1 => ⟨q1.1.v r1 dx, q1.2 F1 ρ1 σ H1 _ r1 (e.mono s1 p1) fun xs h2 vs F2 ρ2 H2 s2 p2 r2 dxs q2 =>
    q2 F2 ρ2 H2 vx vs Q r2 (dx.mono s2 p2) dxs fun d h' v F' ρ' H' s3 p3 r3 dv q3 => k d h' v F' ρ' H' (s1.trans (s2.trans s3)) (p1.trans (p2.trans p3)) r3 dv q3⟩
/-- an attribute of an instance that stays; of one that is owned -/
def FldD (f : Str) (x : D) (h : Hs) (C : Addr) (d : D) : Prop := match x with
  | .p (.ins C' fs) => C' = C ∧ (fs.map fun q => (q.1, D.p q.2)).lookup f = some d
  | .own i => ∃ fs, h[i]? = some (some (.ins C fs)) ∧ fs.lookup f = some d
  | _ => False
theorem ve_fld {f : Str} (q : VE K Θ ta env h fun x h1 => ∃ C d, Cls K C ∧ NoAttr K C f ∧ FldD f x h1 C d ∧ R d h1) : VE K Θ (tFld K ta f) env h R := fun F ρ σ H Q rl e k =>
  q F ρ σ H _ rl e fun x h1 vx F1 ρ1 H1 s1 p1 r1 dx q1 => by
    obtain ⟨C, d, c, n, l, q1⟩ := q1
    cases dx with
    | p dx =>
      cases dx with
      | ins a b =>
        obtain ⟨rfl, l⟩ := l
        obtain ⟨v, l1, l2⟩ := (b.data (ρ := ρ1)).look l
        exact ⟨_, _, _, _, v, rfl, r1.same _ _ a, c, n, l1, k d h1 v F1 ρ1 H1 s1 p1 r1 l2 q1⟩
      | _ => exact l.elim
    | own hi =>
      obtain ⟨fs, hx, l⟩ := l
      obtain ⟨a, u, e1, e2, e3, dx, gs, e4, e5⟩ := r1.own _ _ hx
      rw [hi] at e1; cases e1
      subst e4
      obtain ⟨v, l1, l2⟩ := e5.look l
      exact ⟨_, _, _, _, v, rfl, e3, c, n, l1, k d h1 v F1 ρ1 H1 s1 p1 r1 l2 q1⟩
theorem ve_if {tt : TT} (q : VT K Θ tt env h fun b h1 => if b = true then VE K Θ ta env h1 R else VE K Θ tb env h1 R) : VE K Θ (tIf tt ta tb) env h R := fun F ρ σ H Q rl e k =>
  q F ρ σ H _ rl e fun b h1 F1 ρ1 H1 s1 p1 r1 q1 => by
    cases b with
    | true => exact q1 F1 ρ1 σ H1 Q r1 (e.mono s1 p1) fun d h' v F' ρ' H' s3 p3 r3 dv q3 => k d h' v F' ρ' H' (s1.trans s3) (p1.trans p3) r3 dv q3
    | false => exact q1 F1 ρ1 σ H1 Q r1 (e.mono s1 p1) fun d h' v F' ρ' H' s3 p3 r3 dv q3 => k d h' v F' ρ' H' (s1.trans s3) (p1.trans p3) r3 dv q3
theorem ve_and (q : VE K Θ ta env h fun x h1 => ∃ c, x = dB c ∧ if c = true then VE K Θ tb env h1 R else R (dB false) h1) : VE K Θ (tAndV ta tb) env h R := fun F ρ σ H Q rl e k =>
  q F ρ σ H _ rl e fun x h1 vx F1 ρ1 H1 s1 p1 r1 dx q1 => by
    obtain ⟨c, rfl, q1⟩ := q1
    obtain rfl := dx.bl
    refine ⟨c, rfl, ?_⟩
    cases c with
    | true => exact q1 F1 ρ1 σ H1 Q r1 (e.mono s1 p1) fun d h' v F' ρ' H' s3 p3 r3 dv q3 => k d h' v F' ρ' H' (s1.trans s3) (p1.trans p3) r3 dv q3
    | false => exact k (dB false) h1 (.bl false) F1 ρ1 H1 s1 p1 r1 (.p (.bl false)) q1
theorem ve_or (q : VE K Θ ta env h fun x h1 => ∃ c, x = dB c ∧ if c = true then R (dB true) h1 else VE K Θ tb env h1 R) : VE K Θ (tOrV ta tb) env h R := fun F ρ σ H Q rl e k =>
  q F ρ σ H _ rl e fun x h1 vx F1 ρ1 H1 s1 p1 r1 dx q1 => by
    obtain ⟨c, rfl, q1⟩ := q1
    obtain rfl := dx.bl
    refine ⟨c, rfl, ?_⟩
    cases c with
    | true => exact k (dB true) h1 (.bl true) F1 ρ1 H1 s1 p1 r1 (.p (.bl true)) q1
    | false => exact q1 F1 ρ1 σ H1 Q r1 (e.mono s1 p1) fun d h' v F' ρ' H' s3 p3 r3 dv q3 => k d h' v F' ρ' H' (s1.trans s3) (p1.trans p3) r3 dv q3
theorem ve_not (q : VE K Θ ta env h fun x h1 => ∃ c, x = dB c ∧ R (dB (!c)) h1) : VE K Θ (tNotV ta) env h R := fun F ρ σ H Q rl e k =>
  q F ρ σ H _ rl e fun x h1 vx F1 ρ1 H1 s1 p1 r1 dx q1 => by
    obtain ⟨c, rfl, q1⟩ := q1
    obtain rfl := dx.bl
    exact ⟨c, rfl, k _ h1 _ F1 ρ1 H1 s1 p1 r1 (.p (.bl _)) q1⟩
theorem ve_chain {r r' : R2} (q : VE K Θ ta env h fun x h1 => VE K Θ tb env h1 fun y h2 => V2 K Θ r x y h2 fun z h3 => ∃ c, z = dB c ∧ if c = true then VE K Θ tc env h3 fun w h4 => V2 K Θ r' y w h4 R else R (dB false) h3) : VE K Θ (tChain r r' ta tb tc) env h R := by
  intro F ρ σ H Q rl e k
  refine q F ρ σ H _ rl e fun x h1 vx F1 ρ1 H1 s1 p1 r1 dx q1 => ?_
  refine q1 F1 ρ1 σ H1 _ r1 (e.mono s1 p1) fun y h2 vy F2 ρ2 H2 s2 p2 r2 dy q2 => ?_
  refine q2 F2 ρ2 H2 vx vy _ r2 (dx.mono s2 p2) dy fun z h3 vz F3 ρ3 H3 s3 p3 r3 dz q3 => ?_
  obtain ⟨c, rfl, q3⟩ := q3
  obtain rfl := dz.bl
  refine ⟨c, rfl, ?_⟩
  have s13 := s1.trans (s2.trans s3)
  have p13 := p1.trans (p2.trans p3)
  cases c with
  | true =>
    refine q3 F3 ρ3 σ H3 _ r3 (e.mono s13 p13) fun w h4 vw F4 ρ4 H4 s4 p4 r4 dw q4 => ?_
    exact q4 F4 ρ4 H4 vy vw Q r4 (dy.mono (s3.trans s4) (p3.trans p4)) dw fun d h' v F' ρ' H' s5 p5 r5 dv q5 => k d h' v F' ρ' H' (s13.trans (s4.trans s5)) (p13.trans (p4.trans p5)) r5 dv q5
  | false => exact k (dB false) h3 (.bl false) F3 ρ3 H3 s13 p13 r3 (.p (.bl false)) q3
/-! ### tests -/
variable {tt uu : TT} {B : Bool → Hs → Prop}
theorem vt_test (q : VE K Θ ta env h fun x h1 => ∃ c, x = dB c ∧ B c h1) : VT K Θ (tTest ta) env h B := fun F ρ σ H Q rl e k =>
  q F ρ σ H _ rl e fun x h1 vx F1 ρ1 H1 s1 p1 r1 dx q1 => by
    obtain ⟨c, rfl, q1⟩ := q1
    obtain rfl := dx.bl
    exact ⟨c, rfl, k c h1 F1 ρ1 H1 s1 p1 r1 q1⟩
theorem vt_B (q : VE K Θ ta env h fun x h1 => ∃ c, x = dB c ∧ B c h1) : VT K Θ (tB ta) env h B := fun F ρ σ H Q rl e k =>
  q F ρ σ H _ rl e fun x h1 vx F1 ρ1 H1 s1 p1 r1 dx q1 => by
    obtain ⟨c, rfl, q1⟩ := q1
    obtain rfl := dx.bl
    exact ⟨c, rfl, k c h1 F1 ρ1 H1 s1 p1 r1 q1⟩
theorem vt_and (q : VT K Θ tt env h fun c h1 => if c = true then VT K Θ uu env h1 B else B false h1) : VT K Θ (tAnd tt uu) env h B := fun F ρ σ H Q rl e k =>
  q F ρ σ H _ rl e fun c h1 F1 ρ1 H1 s1 p1 r1 q1 => by
    cases c with
    | true => exact q1 F1 ρ1 σ H1 Q r1 (e.mono s1 p1) fun b h' F' ρ' H' s3 p3 r3 q3 => k b h' F' ρ' H' (s1.trans s3) (p1.trans p3) r3 q3
    | false => exact k false h1 F1 ρ1 H1 s1 p1 r1 q1
theorem vt_or (q : VT K Θ tt env h fun c h1 => if c = true then B true h1 else VT K Θ uu env h1 B) : VT K Θ (tOr tt uu) env h B := fun F ρ σ H Q rl e k =>
  q F ρ σ H _ rl e fun c h1 F1 ρ1 H1 s1 p1 r1 q1 => by
    cases c with
    | true => exact k true h1 F1 ρ1 H1 s1 p1 r1 q1
    | false => exact q1 F1 ρ1 σ H1 Q r1 (e.mono s1 p1) fun b h' F' ρ' H' s3 p3 r3 q3 => k b h' F' ρ' H' (s1.trans s3) (p1.trans p3) r3 q3
theorem vt_not (q : VT K Θ tt env h fun c h1 => B (!c) h1) : VT K Θ (tNot tt) env h B := fun F ρ σ H Q rl e k =>
  q F ρ σ H _ rl e fun c h1 F1 ρ1 H1 s1 p1 r1 q1 => k (!c) h1 F1 ρ1 H1 s1 p1 r1 q1
/-- truth of a datum -/
def TruD (d : D) (h : Hs) (k : Bool) : Prop := match d with
  | .p .non => k = false
  | .p (.bl b) => k = b
  | .p (.int i) => k = (i != 0)
  | .p (.str y) => y.length ≤ sizeLine ∧ k = ((y.length : Int) != 0)
  | .p (.lst xs) => k = !xs.isEmpty
  | .p (.tup xs) => k = !xs.isEmpty
  | .p (.ktp xs) => k = !xs.isEmpty
  | .own i => ∃ xs, h[i]? = some (some (.lst xs)) ∧ k = !xs.isEmpty
  | _ => False
theorem RA.empty {F : Hp} {ρ : List Addr} {xs : List D} {vs : List V} (r : RA K F ρ xs vs) : (!vs.isEmpty) = !xs.isEmpty := by
  cases r <;> rfl
theorem RPs.empty {F : Hp} {xs : List P} {vs : List V} (r : RPs K F xs vs) : (!vs.isEmpty) = !xs.isEmpty := by
  cases r <;> rfl
theorem TruD.v {F : Hp} {ρ : List Addr} {h : Hs} {H : Hp} {d : D} {v : V} {k : Bool} (r : Rel K Θ F ρ h H) (q : RD K F ρ d v) (t : TruD d h k) : TruV K v H k := by
  cases q with
  | p q =>
    cases q with
    | lst a b => exact .inl ⟨_, r.same.seq a, by rw [b.empty]; exact t⟩
    | tup a b => exact .inr (.inl ⟨_, sqT_mono r.same a, by rw [b.empty]; exact t⟩)
    | ktp a b => exact .inr (.inl ⟨_, a _, by rw [b.empty]; exact t⟩)
    | ins => exact t.elim
    | ty => exact t.elim
    | cls => exact t.elim
    | _ => exact t
  | own e =>
    obtain ⟨xs, hx, t⟩ := t
    obtain ⟨a, u, e1, e2, e3, vs, e4, e5⟩ := r.own _ _ hx
    rw [e] at e1; cases e1
    subst e4
    exact .inl ⟨vs, .of e3, by rw [e5.empty]; exact t⟩
theorem vt_truth (q : VE K Θ ta env h fun x h1 => ∃ c, TruD x h1 c ∧ B c h1) : VT K Θ (fun σ H Q => ta σ H fun x H' => ∃ k, TruV K x H' k ∧ Q k H') env h B := fun F ρ σ H Q rl e k =>
  q F ρ σ H _ rl e fun x h1 vx F1 ρ1 H1 s1 p1 r1 dx q1 => by
    obtain ⟨c, t, q1⟩ := q1
    exact ⟨c, t.v r1 dx, k c h1 F1 ρ1 H1 s1 p1 r1 q1⟩
/-! ### statements -/
variable {t1 t2 : TS} {E : En}
theorem vs_seq (q : VS K Θ t1 { E with nx := VS K Θ t2 E } env h) : VS K Θ (tSeq t1 t2) E env h := fun F ρ σ H D' rl e k =>
  q F ρ σ H _ rl e ⟨fun env' h' F' ρ' σ' H' s p r e' q' => q' F' ρ' σ' H' D' r e' (k.mono s p), k.rt, k.bk, k.ct⟩
theorem vs_next (q : E.nx env h) : VS K Θ tNext E env h := fun F ρ σ H D' rl e k => k.nx env h F ρ σ H (Same.refl _) (Pre.refl _) rl e q
theorem vs_asg {g : TG} (q : VE K Θ ta env h fun d h1 => VG K Θ g d env h1 E.nx) : VS K Θ (tAsg ta g) E env h := fun F ρ σ H D' rl e k =>
  q F ρ σ H _ rl e fun x h1 vx F1 ρ1 H1 s1 p1 r1 dx q1 => q1 F1 ρ1 σ H1 vx _ r1 (e.mono s1 p1) dx fun env' h' F' ρ' σ' H' s2 p2 r2 e2 q2 => k.nx env' h' F' ρ' σ' H' (s1.trans s2) (p1.trans p2) r2 e2 q2
theorem vs_if (q : VT K Θ tt env h fun b h1 => if b = true then VS K Θ t1 E env h1 else VS K Θ t2 E env h1) : VS K Θ (tIfS tt t1 t2) E env h := fun F ρ σ H D' rl e k =>
  q F ρ σ H _ rl e fun b h1 F1 ρ1 H1 s1 p1 r1 q1 => by
    cases b with
    | true => exact q1 F1 ρ1 σ H1 D' r1 (e.mono s1 p1) (k.mono s1 p1)
    | false => exact q1 F1 ρ1 σ H1 D' r1 (e.mono s1 p1) (k.mono s1 p1)
theorem vs_ret (q : VE K Θ ta env h E.rt) : VS K Θ (tRet ta) E env h := fun F ρ σ H D' rl e k =>
  q F ρ σ H _ rl e fun d h1 v F1 ρ1 H1 s1 p1 r1 dv q1 => k.rt d h1 v F1 ρ1 H1 s1 p1 r1 dv q1
theorem vs_drop (q : VE K Θ ta env h fun _ h1 => E.nx env h1) : VS K Θ (tDrop ta) E env h := fun F ρ σ H D' rl e k =>
  q F ρ σ H _ rl e fun d h1 v F1 ρ1 H1 s1 p1 r1 dv q1 => k.nx env h1 F1 ρ1 σ H1 s1 p1 r1 (e.mono s1 p1) q1
theorem vg_name {i : Nat} {N : Env' → Hs → Prop} (q : N (env.set i (some d)) h) : VG K Θ (gName i) d env h N := fun F ρ σ H v Q rl e dv k =>
  k (env.set i (some d)) h F ρ (σ.set i (some v)) H (Same.refl _) (Pre.refl _) rl (e.set dv) q
theorem vgs_nil {N : Env' → Hs → Prop} (q : N env h) : VGs K Θ gNil [] env h N := fun F ρ σ H vs Q rl e dv k => by
  cases dv
  exact ⟨rfl, k env h F ρ σ H (Same.refl _) (Pre.refl _) rl e q⟩
theorem vgs_cons {g : TG} {gs : TGs} {ds : List D} {N : Env' → Hs → Prop} (q : VG K Θ g d env h fun env' h' => VGs K Θ gs ds env' h' N) : VGs K Θ (gCons g gs) (d :: ds) env h N := fun F ρ σ H vs Q rl e dv k => by
  cases dv with
  | cons a b =>
    exact ⟨_, _, rfl, q F ρ σ H _ _ rl e a fun env' h' F' ρ' σ' H' s p r e' q' => q' F' ρ' σ' H' _ _ r e' (b.mono s p) fun env2 h2 F2 ρ2 σ2 H2 s2 p2 r2 e2 q2 => k env2 h2 F2 ρ2 σ2 H2 (s.trans s2) (p.trans p2) r2 e2 q2⟩
theorem vg_tup {n : Nat} {gs : TGs} {ds : List P} {N : Env' → Hs → Prop} (hl : ds.length = n) (q : VGs K Θ gs (ds.map D.p) env h N) : VG K Θ (gTup K n gs) (dT ds) env h N := fun F ρ σ H v Q rl e dv k => by
  cases dv with
  | p dv =>
    cases dv with
    | tup a b => exact ⟨_, _, rfl, sqT_mono rl.same a, by rw [← b.len]; exact hl, q F ρ σ H _ Q rl e b.data k⟩
/-- xs[i] = v, the list owned -/
theorem vg_sub {to ti : TE} {N : Env' → Hs → Prop} (q : VE K Θ to env h fun o h1 => VE K Θ ti env h1 fun i h2 => ∃ n z xs j, o = .own n ∧ i = dI z ∧ h2[n]? = some (some (.lst xs)) ∧ ixN xs.length z = some j ∧ N env (h2.set n (some (.lst (xs.set j d))))) :
    VG K Θ (gSub to ti rSetL) d env h N := fun F ρ σ H v Q rl e dv k =>
  q F ρ σ H _ rl e fun o h1 vo F1 ρ1 H1 s1 p1 r1 dlo q1 => q1 F1 ρ1 σ H1 _ r1 (e.mono s1 p1) fun i h2 vi F2 ρ2 H2 s2 p2 r2 di q2 => by
    obtain ⟨n, z, xs, j, rfl, rfl, hx, hj, q2⟩ := q2
    obtain rfl := di.int
    cases dlo with
    | own ho =>
      have ho' := p2 _ _ ho
      obtain ⟨a, u, e1, e2, e3, vs, e4, e5⟩ := r2.own _ _ hx
      rw [ho'] at e1; cases e1
      subst e4
      refine ⟨_, vs, z, j, rfl, rfl, e3, by rw [← e5.len]; exact hj, ?_⟩
      exact k env _ F2 ρ2 σ _ (s1.trans s2) (p1.trans p2) (r2.put (o' := .lst (xs.set j d)) hx ho' ⟨_, rfl, e5.set (dv.mono (s1.trans s2) (p1.trans p2)) j⟩) (e.mono (s1.trans s2) (p1.trans p2)) q2
/-- o.f = v, o an instance that is owned -/
theorem vs_fld {f : Str} {tv to : TE} (q : VE K Θ tv env h fun y h1 => VE K Θ to env h1 fun x h2 => ∃ n C fs, x = .own n ∧ h2[n]? = some (some (.ins C fs)) ∧ Cls K C ∧ NoAttr K C f ∧ fs.length < 1000 ∧ E.nx env (h2.set n (some (.ins C (putD f y fs))))) :
    VS K Θ (sFld K to tv f) E env h := fun F ρ σ H D' rl e k =>
  q F ρ σ H _ rl e fun y h1 vy F1 ρ1 H1 s1 p1 r1 dy q1 => q1 F1 ρ1 σ H1 _ r1 (e.mono s1 p1) fun x h2 vx F2 ρ2 H2 s2 p2 r2 dx q2 => by
    obtain ⟨n, C, fs, rfl, hx, c, na, hl, q2⟩ := q2
    cases dx with
    | own ho =>
      obtain ⟨a, u, e1, e2, e3, dx, gs, e4, e5⟩ := r2.own _ _ hx
      rw [ho] at e1; cases e1
      subst e4
      refine ⟨_, C, dx, gs, rfl, e3, c, na, by rw [← e5.len]; exact hl, ?_⟩
      exact k.nx env _ F2 ρ2 σ _ (s1.trans s2) (p1.trans p2) (r2.put (o' := .ins C (putD f y fs)) hx ho ⟨dx, _, rfl, RF.put (dy.mono s2 p2) e5⟩) (e.mono (s1.trans s2) (p1.trans p2)) q2
theorem vs_aug {i : Nat} {ti : TIp} (hd : env[i]? = some (some d)) (q : VE K Θ ta env h fun y h1 => V2 K Θ ti d y h1 fun z h2 => E.nx (env.set i (some z)) h2) : VS K Θ (tAug i ta ti) E env h := fun F ρ σ H D' rl e k => by
  obtain ⟨v, g1, g2⟩ := e.get i d hd
  exact ⟨v, g1, q F ρ σ H _ rl e fun y h1 vy F1 ρ1 H1 s1 p1 r1 dy q1 => q1 F1 ρ1 H1 v vy _ r1 (g2.mono s1 p1) dy fun z h2 vz F2 ρ2 H2 s2 p2 r2 dz q2 =>
    k.nx _ h2 F2 ρ2 _ H2 (s1.trans s2) (p1.trans p2) r2 ((e.mono (s1.trans s2) (p1.trans p2)).set dz) q2⟩
/-! ### what may be forgotten, what is known anyhow -/
theorem VT.imp {B' : Bool → Hs → Prop} (q : VT K Θ tt env h B) (w : ∀ b h, B b h → B' b h) : VT K Θ tt env h B' := fun F ρ σ H Q rl e k => q F ρ σ H Q rl e fun d h' F' ρ' H' s p r q' => k d h' F' ρ' H' s p r (w d h' q')
theorem VS.imp {E' : En} (q : VS K Θ t1 E env h) (w1 : ∀ e h, E.nx e h → E'.nx e h) (w2 : ∀ d h, E.rt d h → E'.rt d h) (w3 : ∀ e h, E.bk e h → E'.bk e h) (w4 : ∀ e h, E.ct e h → E'.ct e h) : VS K Θ t1 E' env h := fun F ρ σ H D' rl e k =>
  q F ρ σ H D' rl e ⟨fun a b c d e f g h i j l => k.nx a b c d e f g h i j (w1 _ _ l), fun a b c d e f g h i j l => k.rt a b c d e f g h i j (w2 _ _ l) , fun a b c d e f g h i j l => k.bk a b c d e f g h i j (w3 _ _ l), fun a b c d e f g h i j l => k.ct a b c d e f g h i j (w4 _ _ l)⟩
end
end Kb

/-! Loops, comprehensions; operations upon data; defs. -/
namespace Kb
open PySem PySem.Spec PyProof.Rows L2
section
variable {K : PySem.W.Frag} {Θ : Ctx} {env : Env'} {h : Hs} {ta tb te tc : TE} {R : D → Hs → Prop} {x y d : D}
/-! ### what is walked -/
/-- J walks ds while C holds of what is owned -/
structure ItOk (K : PySem.W.Frag) (Θ : Ctx) (F : Hp) (ρ : List Addr) (C : Hs → Prop) (ds : List D) (J : It) : Prop where
  stop : ∀ (F' : Hp) (ρ' : List Addr) (h : Hs) (H : Hp), Same F F' → Pre ρ ρ' → Rel K Θ F' ρ' h H → C h → J.stop ds.length H
  go : ∀ (i : Nat) (F' : Hp) (ρ' : List Addr) (h : Hs) (H : Hp), Same F F' → Pre ρ ρ' → Rel K Θ F' ρ' h H → C h → i < ds.length → J.go i H
  yld : ∀ (i : Nat) (d : D) (F' : Hp) (ρ' : List Addr) (h : Hs) (H : Hp) (x : V) (H' : Hp), Same F F' → Pre ρ ρ' → Rel K Θ F' ρ' h H → C h → ds[i]? = some d → J.yld i H x H' →
    ∃ F2 : Hp, Same F' F2 ∧ Rel K Θ F2 ρ' h H' ∧ RD K F2 ρ' d x
def VI (K : PySem.W.Frag) (Θ : Ctx) (wi : TI) (env : Env') (h : Hs) (R : List D → (Hs → Prop) → Hs → Prop) : Prop :=
  ∀ (F : Hp) (ρ : List Addr) (σ : L2.St) (H : Hp) (Q : It → Hp → Prop), Rel K Θ F ρ h H → REnv K F ρ env σ →
    (∀ (ds : List D) (C : Hs → Prop) (h' : Hs) (J : It) (F' : Hp) (ρ' : List Addr) (H' : Hp), Same F F' → Pre ρ ρ' → Rel K Θ F' ρ' h' H' → ItOk K Θ F' ρ' C ds J → R ds C h' → Q J H') → wi σ H Q
/-- the numbers lo, lo + 1, .. -/
def rng (lo : Int) (n : Nat) : List D := (List.range n).map fun (i : Nat) => dI (lo + (i : Int))
theorem rng_len (lo : Int) (n : Nat) : (rng lo n).length = n := by simp [rng]
theorem rng_get {lo : Int} {n i : Nat} {d : D} (hd : (rng lo n)[i]? = some d) : i < n ∧ d = dI (lo + (i : Int)) := by
  have hl : i < (rng lo n).length := (List.getElem?_eq_some_iff.mp hd).1
  rw [rng_len] at hl
  refine ⟨hl, ?_⟩
  unfold rng at hd
  rw [List.getElem?_map, List.getElem?_range hl] at hd
  exact (Option.some.inj hd).symm
theorem itr_ok {F : Hp} {ρ : List Addr} {lo : Int} {n : Nat} : ItOk K Θ F ρ (fun _ => True) (rng lo n) (Itr lo n) :=
  ⟨fun F' ρ' h H s p r c => by rw [rng_len]; exact Nat.le_refl n, fun i F' ρ' h H s p r c hi => by rw [rng_len] at hi; exact hi, fun i d F' ρ' h H x H' s p r c hd hy => by
    obtain ⟨e1, e2⟩ := hy
    subst e1 e2
    rw [(rng_get hd).2]
    exact ⟨F', Same.refl _, r, .p (.int _)⟩⟩
theorem vi_range1 {t : TA} {R : List D → (Hs → Prop) → Hs → Prop} (q : VA K Θ t env h fun xs h1 => ∃ j : Int, xs = [dI j] ∧ -(2 ^ 62) ≤ j ∧ j < 2 ^ 62 ∧ R (rng 0 j.toNat) (fun _ => True) h1) : VI K Θ (iRng1 t) env h R := fun F ρ σ H Q rl e k =>
  q F ρ σ H _ rl e fun xs h1 vs F1 ρ1 H1 s1 p1 r1 dx q1 => by
    obtain ⟨j, rfl, b1, b2, q1⟩ := q1
    cases dx with
    | cons a b =>
      cases b
      obtain rfl := a.int
      exact ⟨j, rfl, b1, b2, k _ _ h1 _ F1 ρ1 H1 s1 p1 r1 itr_ok q1⟩
theorem vi_range2 {t : TA} {R : List D → (Hs → Prop) → Hs → Prop} (q : VA K Θ t env h fun xs h1 => ∃ i j : Int, xs = [dI i, dI j] ∧ (-(2 ^ 62) ≤ i ∧ i < 2 ^ 62 ∧ -(2 ^ 62) ≤ j ∧ j < 2 ^ 62) ∧ R (rng i (j - i).toNat) (fun _ => True) h1) : VI K Θ (iRng2 t) env h R := fun F ρ σ H Q rl e k =>
  q F ρ σ H _ rl e fun xs h1 vs F1 ρ1 H1 s1 p1 r1 dx q1 => by
    obtain ⟨i, j, rfl, b, q1⟩ := q1
    cases dx with
    | cons a b' =>
      cases b' with
      | cons c d =>
        cases d
        obtain rfl := a.int
        obtain rfl := c.int
        exact ⟨i, j, rfl, b, k _ _ h1 _ F1 ρ1 H1 s1 p1 r1 itr_ok q1⟩
/-! ### for, while -/
theorem vs_for {wi : TI} {g : TG} {tb : TS} {E : En} (q : VI K Θ wi env h fun ds C h1 => ∃ Inv : Nat → Env' → Hs → Prop, Inv 0 env h1 ∧ (∀ i env h, Inv i env h → C h) ∧
    (∀ i d env h, ds[i]? = some d → Inv i env h → VG K Θ g d env h fun env' h' => VS K Θ tb { E with nx := Inv (i + 1), ct := Inv (i + 1), bk := E.nx } env' h') ∧ (∀ env h, Inv ds.length env h → E.nx env h)) : VS K Θ (tFor wi g tb) E env h := fun F ρ σ H D' rl e k =>
  q F ρ σ H _ rl e fun ds C h1 J F1 ρ1 H1 s1 p1 r1 it q1 => by
    obtain ⟨Inv, i0, iC, turn, fin⟩ := q1
    have e1 := e.mono s1 p1
    refine ⟨fun i m σ H => m = ds.length - i ∧ i ≤ ds.length ∧ ∃ env h F' ρ', Same F1 F' ∧ Pre ρ1 ρ' ∧ Rel K Θ F' ρ' h H ∧ REnv K F' ρ' env σ ∧ Inv i env h, ⟨ds.length, by simp, Nat.zero_le _, env, h1, F1, ρ1, Same.refl _, Pre.refl _, r1, e1, i0⟩, ?_⟩
    rintro i m σ H ⟨rfl, hi, env, h, F', ρ', s, p, r, e', iv⟩
    have c := iC i env h iv
    by_cases hlt : i < ds.length
    · refine .inr ⟨it.go i F' ρ' h H s p r c hlt, fun σ' H' => ∃ env h F2 ρ2, Same F1 F2 ∧ Pre ρ1 ρ2 ∧ Rel K Θ F2 ρ2 h H' ∧ REnv K F2 ρ2 env σ' ∧ Inv (i + 1) env h, fun σ' H' n => ⟨ds.length - (i + 1), by omega, rfl, hlt, n⟩, fun x H' hy => ?_⟩
      have hd : ds[i]? = some ds[i] := List.getElem?_eq_getElem hlt
      obtain ⟨F2, s2, r2, dx⟩ := it.yld i _ F' ρ' h H x H' s p r c hd hy
      refine turn i _ env h hd iv F2 ρ' σ H' x _ r2 (e'.mono s2 (Pre.refl _)) dx fun env3 h3 F3 ρ3 σ3 H3 s3 p3 r3 e3 q3 => ?_
      have ss : Same F1 F3 := s.trans (s2.trans s3)
      have pp : Pre ρ1 ρ3 := p.trans p3
      have kk := k.mono (s1.trans ss) (p1.trans pp)
      refine q3 F3 ρ3 σ3 H3 _ r3 e3 ⟨fun env4 h4 F4 ρ4 σ4 H4 s4 p4 r4 e4 q4 => ⟨env4, h4, F4, ρ4, ss.trans s4, pp.trans p4, r4, e4, q4⟩, kk.rt, kk.nx, fun env4 h4 F4 ρ4 σ4 H4 s4 p4 r4 e4 q4 => ⟨env4, h4, F4, ρ4, ss.trans s4, pp.trans p4, r4, e4, q4⟩⟩
    · have ei : i = ds.length := by omega
      subst ei
      exact .inl ⟨it.stop F' ρ' h H s p r c, k.nx env h F' ρ' σ H (s1.trans s) (p1.trans p) r e' (fin env h iv)⟩
theorem vs_while {c : TT} {tb : TS} {E : En} (Inv : Env' → Hs → Prop) (μ : Env' → Hs → Nat) (i0 : Inv env h)
    (turn : ∀ env h, Inv env h → VT K Θ c env h fun b h1 => if b = true then VS K Θ tb { E with nx := fun env' h' => Inv env' h' ∧ μ env' h' < μ env h, ct := fun env' h' => Inv env' h' ∧ μ env' h' < μ env h, bk := E.nx } env h1 else E.nx env h1) :
    VS K Θ (tWhile c tb) E env h := fun F ρ σ H D' rl e k => by
  refine ⟨fun m σ H => ∃ env h F' ρ', Same F F' ∧ Pre ρ ρ' ∧ Rel K Θ F' ρ' h H ∧ REnv K F' ρ' env σ ∧ Inv env h ∧ m = μ env h, ⟨_, env, h, F, ρ, Same.refl _, Pre.refl _, rl, e, i0, rfl⟩, ?_⟩
  rintro m σ H ⟨env, h, F', ρ', s, p, r, e', iv, rfl⟩
  refine turn env h iv F' ρ' σ H _ r e' fun b h1 F1 ρ1 H1 s1 p1 r1 q1 => ?_
  cases b with
  | true =>
    rw [if_pos rfl] at q1 ⊢
    refine ⟨fun σ' H' => ∃ env' h' F2 ρ2, Same F F2 ∧ Pre ρ ρ2 ∧ Rel K Θ F2 ρ2 h' H' ∧ REnv K F2 ρ2 env' σ' ∧ Inv env' h' ∧ μ env' h' < μ env h, fun σ' H' ⟨env', h', F2, ρ2, s2, p2, r2, e2, iv2, lt⟩ => ⟨_, lt, env', h', F2, ρ2, s2, p2, r2, e2, iv2, rfl⟩, ?_⟩
    have kk := k.mono (s.trans s1) (p.trans p1)
    exact q1 F1 ρ1 σ H1 _ r1 (e'.mono s1 p1) ⟨fun env4 h4 F4 ρ4 σ4 H4 s4 p4 r4 e4 q4 => ⟨env4, h4, F4, ρ4, (s.trans s1).trans s4, (p.trans p1).trans p4, r4, e4, q4.1, q4.2⟩, kk.rt, kk.nx, fun env4 h4 F4 ρ4 σ4 H4 s4 p4 r4 e4 q4 => ⟨env4, h4, F4, ρ4, (s.trans s1).trans s4, (p.trans p1).trans p4, r4, e4, q4.1, q4.2⟩⟩
  | false =>
    rw [if_neg Bool.false_ne_true] at q1 ⊢
    exact k.nx env h1 F1 ρ1 σ H1 (s.trans s1) (p.trans p1) r1 (e'.mono s1 p1) q1
/-! ### comprehensions -/
/-- the target's slots: after the store they are the comprehension's alone -/
def TgOk (g : TG) (vs : List Nat) : Prop := ∀ (x : V) (σ : L2.St) (H : Hp) (Q : L2.St → Hp → Prop), g x (wipe σ vs) H Q → g x (wipe σ vs) H fun σ2 H2 => wipe σ2 vs = wipe σ vs ∧ Q σ2 H2
theorem set_none_none {σ : L2.St} {j : Nat} {x : Option V} : ((σ.set j none).set j x).set j none = σ.set j none := by rw [List.set_set, List.set_set]
theorem tg_name {j : Nat} : TgOk (gName j) [j] := fun x σ H Q q => ⟨set_none_none, q⟩
/-- own slots of a comprehension forgotten -/
def wipeD (env : Env') : List Nat → Env'
  | [] => env
  | v :: vs => (wipeD env vs).set v none
theorem REnv.wipes {F : Hp} {ρ : List Addr} {σ : L2.St} (r : REnv K F ρ env σ) : ∀ vs : List Nat, REnv K F ρ (wipeD env vs) (L2.wipe σ vs)
  | [] => r
  | v :: vs => (REnv.wipes r vs).wipe
theorem Rel.pop {F : Hp} {ρ : List Addr} {h : Hs} {H : Hp} {p : Addr} {o : Option OO} (r : Rel K Θ F (ρ ++ [p]) (h ++ [o]) H) (hl : ρ.length = h.length) (hw : Wish K Θ F ρ) (w : ∀ (i : Nat) (o : OO) (a : Addr), h[i]? = some (some o) → ρ[i]? = some a → ∀ u, RO K a F (ρ ++ [p]) o u → RO K a F ρ o u) : Rel K Θ F ρ h H := by
  have lt : ∀ (i : Nat) (o' : OO), h[i]? = some (some o') → i < h.length := fun i o' e => (List.getElem?_eq_some_iff.mp e).1
  have up : ∀ (i : Nat) (o' : OO), h[i]? = some (some o') → (h ++ [o])[i]? = some (some o') := fun i o' e => by rw [List.getElem?_append_left (lt i o' e)]; exact e
  have pl : ∀ (i : Nat), i < h.length → (ρ ++ [p])[i]? = ρ[i]? := fun i hi => List.getElem?_append_left (by rw [hl]; exact hi)
  refine ⟨⟨r.same, hl, fun i o' hi => ?_, fun i j o1 o2 a hi hj ha hb => r.inj i j o1 o2 a (up i o1 hi) (up j o2 hj) (by rw [pl i (lt i o1 hi)]; exact ha) (by rw [pl j (lt j o2 hj)]; exact hb), r.tab, r.lam⟩, hw⟩
  obtain ⟨a, u, h1, h2, h3, h4⟩ := r.own i o' (up i o' hi)
  rw [pl i (lt i o' hi)] at h1
  exact ⟨a, u, h1, h2, h3, w i o' a hi h1 u h4⟩
theorem RA.low {F F0 : Hp} {ρ : List Addr} {p : Addr} : ∀ {ds : List D} {vs v0 : List V}, RA K F0 ρ ds v0 → RA K F (ρ ++ [p]) ds vs → RA K F ρ ds vs
  | _, _, _, .nil, .nil => .nil
  | _, _, _, .cons a r, .cons b s => .cons (by
      cases b with
      | p b => exact .p b
      | own b =>
        cases a with
        | own a =>
          have hl := (List.getElem?_eq_some_iff.mp a).1
          rw [List.getElem?_append_left hl] at b
          exact .own b) (RA.low r s)
theorem RF.low {F F0 : Hp} {ρ : List Addr} {p : Addr} : ∀ {ds : List (Str × D)} {vs v0 : List (Str × V)}, RF K F0 ρ ds v0 → RF K F (ρ ++ [p]) ds vs → RF K F ρ ds vs
  | _, _, _, .nil, .nil => .nil
  | _, _, _, .cons a r, .cons b s => .cons (by
      cases b with
      | p b => exact .p b
      | own b =>
        cases a with
        | own a =>
          have hl := (List.getElem?_eq_some_iff.mp a).1
          rw [List.getElem?_append_left hl] at b
          exact .own b) (RF.low r s)
theorem RK.low {κ : Type} {F F0 : Hp} {ρ : List Addr} {p : Addr} : ∀ {ds : List (κ × D)} {vs v0 : List (κ × V)}, RK K F0 ρ ds v0 → RK K F (ρ ++ [p]) ds vs → RK K F ρ ds vs
  | _, _, _, .nil, .nil => .nil
  | _, _, _, .cons a r, .cons b s => .cons (by
      cases b with
      | p b => exact .p b
      | own b =>
        cases a with
        | own a =>
          have hl := (List.getElem?_eq_some_iff.mp a).1
          rw [List.getElem?_append_left hl] at b
          exact .own b) (RK.low r s)
theorem RO.low {a0 : Addr} {F F0 : Hp} {ρ : List Addr} {p : Addr} {o : OO} {u u0 : HO} (a : RO K a0 F0 ρ o u0) (b : RO K a0 F (ρ ++ [p]) o u) : RO K a0 F ρ o u := by
  cases o with
  | lst xs =>
    obtain ⟨v0, _, r0⟩ := a
    obtain ⟨vs, e, r⟩ := b
    exact ⟨vs, e, r0.low r⟩
  | ins C fs =>
    obtain ⟨d0, g0, _, r0⟩ := a
    obtain ⟨dx, gs, e, r⟩ := b
    exact ⟨dx, gs, e, r0.low r⟩
  | dK kvs =>
    obtain ⟨g0, _, r0⟩ := a
    obtain ⟨gs, e, r⟩ := b
    exact ⟨gs, e, r0.low r⟩
  | dT kvs =>
    obtain ⟨g0, _, r0⟩ := a
    obtain ⟨gs, e, r⟩ := b
    exact ⟨gs, e, r0.low r⟩
  | dN pw kvs =>
    obtain ⟨g0, _, _, r0⟩ := a
    obtain ⟨gs, e, q, r⟩ := b
    exact ⟨gs, e, q, r0.low r⟩
  | dL pw od gs kvs =>
    obtain ⟨_, _, r0⟩ := a
    obtain ⟨e, q, r⟩ := b
    exact ⟨e, q, r0.low r⟩
theorem pre_eq {ρ ρ' : List Addr} (p : Pre ρ ρ') (hl : ρ'.length = ρ.length) : ρ' = ρ := by
  refine List.ext_getElem? fun i => ?_
  cases e : ρ[i]? with
  | some a => exact p i a e
  | none =>
    rw [List.getElem?_eq_none_iff] at e ⊢
    omega
theorem filterMap_succ {α : Type} (f : Nat → Option α) (n : Nat) : (List.range (n + 1)).filterMap f = (List.range n).filterMap f ++ (f n).toList := by
  rw [List.range_succ, List.filterMap_append]
  cases e : f n <;> simp [List.filterMap, e]
/-- what one turn of a comprehension must do: the heap as it was, the item fs i or none -/
def LcTurn (K : PySem.W.Frag) (Θ : Ctx) (g : TG) (tt : TT) (te : TE) (env : Env') (d : D) (h : Hs) (o : Option P) : Prop :=
  VG K Θ g d env h fun env' h' => h' = h ∧ VT K Θ tt env' h' fun b h2 => h2 = h' ∧ if b = true then VE K Θ te env' h2 (fun y h3 => h3 = h2 ∧ ∃ p, y = .p p ∧ o = some p) else o = none
theorem lc_run {wi : TI} {g : TG} {tt : TT} {te : TE} {vs : List Nat} (tg : TgOk g vs) {F : Hp} {ρ : List Addr} {σ : L2.St} {H1 : Hp} {ds : List D} {C : Hs → Prop} {h1 : Hs} {J : It} (Q : VK)
    (r1 : Rel K Θ F ρ h1 H1) (e : REnv K F ρ env σ) (it : ItOk K Θ F ρ C ds J) (fs : Nat → Option P) (hl : ds.length < sizeLine) (hC : ∀ acc, C (h1 ++ [some (.lst acc)]))
    (turn : ∀ i d acc, ds[i]? = some d → LcTurn K Θ g tt te (wipeD env vs) d (h1 ++ [some (.lst acc)]) (fs i))
    (fin : ∀ (p : Addr) (F' : Hp) (us : List V) (H : Hp), Same F F' → F' p = none → H p = some (.lst us) → H1 p = none → Rel K Θ F' (ρ ++ [p]) (h1 ++ [some (.lst (((List.range ds.length).filterMap fs).map D.p))]) H → RPs K F' ((List.range ds.length).filterMap fs) us → Rel K Θ F' ρ h1 H → Q (.ref p) H) :
    ∀ D, H1 D = none → ∃ W : Nat → Nat → Hp → Prop, (∃ m, W 0 m (upd H1 D (.lst []))) ∧ ∀ i m H, W i m H → (J.stop i H ∧ Q (.ref D) H) ∨
      (J.go i H ∧ ∃ Nx : Hp → Prop, (∀ H', Nx H' → ∃ m', m' < m ∧ W (i + 1) m' H') ∧ ∀ x H', J.yld i H x H' → g x (wipe σ vs) H' fun σ2 H2 => wipe σ2 vs = wipe σ vs ∧ tt σ2 H2 fun b H3 => if b = true then te σ2 H3 fun y H4 => ∃ acc, H4 D = some (.lst acc) ∧ acc.length < sizeLine ∧ Nx (upd H4 D (.lst (acc ++ [y]))) else Nx H3) := by
  intro p hp
  have hn : (h1 ++ [some (OO.lst [])])[h1.length]? = some (some (.lst [])) := by simp
  refine ⟨fun i m H => m = ds.length - i ∧ i ≤ ds.length ∧ ∃ F', Same F F' ∧ Rel K Θ F' (ρ ++ [p]) (h1 ++ [some (.lst (((List.range i).filterMap fs).map D.p))]) H, ⟨ds.length, by simp, Nat.zero_le _, F, Same.refl _, r1.push (o := .lst []) hp ⟨[], rfl, .nil⟩⟩, ?_⟩
  rintro i m H ⟨rfl, hi, F', s, r⟩
  have hpl : (ρ ++ [p])[h1.length]? = some p := by rw [← r1.len]; simp
  have got : ∀ (F' : Hp) (H : Hp) (xs : List D), Rel K Θ F' (ρ ++ [p]) (h1 ++ [some (.lst xs)]) H → ∃ us, H p = some (.lst us) ∧ F' p = none ∧ RA K F' (ρ ++ [p]) xs us := fun F' H xs r => by
    obtain ⟨a, u, e1, e2, e3, us, e4, e5⟩ := r.own h1.length (.lst xs) (by simp)
    rw [hpl] at e1; cases e1
    subst e4
    exact ⟨us, e3, e2, e5⟩
  by_cases hlt : i < ds.length
  · refine .inr ⟨it.go i F' (ρ ++ [p]) _ H s (Pre.push _ _) r (hC _) hlt, fun H' => ∃ F2, Same F F2 ∧ Rel K Θ F2 (ρ ++ [p]) (h1 ++ [some (.lst (((List.range (i + 1)).filterMap fs).map D.p))]) H', fun H' ⟨F2, s2, r2⟩ => ⟨ds.length - (i + 1), by omega, rfl, hlt, F2, s2, r2⟩, fun x H' hy => ?_⟩
    have hd : ds[i]? = some ds[i] := List.getElem?_eq_getElem hlt
    obtain ⟨F2, s2, r2, dx⟩ := it.yld i _ F' (ρ ++ [p]) _ H x H' s (Pre.push _ _) r (hC _) hd hy
    refine tg x σ H' _ ?_
    refine turn i _ _ hd F2 (ρ ++ [p]) (wipe σ vs) H' x _ r2 ((e.mono (s.trans s2) (Pre.push _ _)).wipes vs) dx fun env3 h3 F3 ρ3 σ3 H3 s3 p3 r3 e3 q3 => ?_
    obtain ⟨rfl, q3⟩ := q3
    have eρ : ρ3 = ρ ++ [p] := pre_eq p3 (by rw [r3.len, r2.len])
    subst eρ
    refine q3 F3 _ σ3 H3 _ r3 e3 fun b h4 F4 ρ4 H4 s4 p4 r4 q4 => ?_
    obtain ⟨rfl, q4⟩ := q4
    have eρ : ρ4 = ρ ++ [p] := pre_eq p4 (by rw [r4.len, r3.len])
    subst eρ
    have ss : Same F F4 := s.trans (s2.trans (s3.trans s4))
    cases b with
    | true =>
      rw [if_pos rfl] at q4 ⊢
      refine q4 F4 _ σ3 H4 _ r4 (e3.mono s4 p4) fun y h5 v F5 ρ5 H5 s5 p5 r5 dv q5 => ?_
      obtain ⟨rfl, pp, rfl, ef⟩ := q5
      have eρ : ρ5 = ρ ++ [p] := pre_eq p5 (by rw [r5.len, r4.len])
      subst eρ
      obtain ⟨us, g1, g2, g3⟩ := got F5 H5 _ r5
      refine ⟨us, g1, ?_, F5, ss.trans s5, ?_⟩
      · rw [← g3.len, List.length_map]
        have := List.length_filterMap_le fs (List.range i)
        rw [List.length_range] at this
        omega
      · have z := r5.put (i := h1.length) (o := .lst (((List.range i).filterMap fs).map D.p)) (o' := .lst (((List.range (i + 1)).filterMap fs).map D.p)) (by simp) hpl ⟨us ++ [v], rfl, by
          rw [filterMap_succ, ef, List.map_append]
          exact g3.append (.cons dv .nil)⟩
        rw [List.set_append_right _ _ (Nat.le_refl _), Nat.sub_self] at z
        exact z
    | false =>
      rw [if_neg Bool.false_ne_true] at q4 ⊢
      refine ⟨F4, ss, ?_⟩
      rw [filterMap_succ, q4]
      simpa using r4
  · have ei : i = ds.length := by omega
    subst ei
    refine .inl ⟨it.stop F' (ρ ++ [p]) _ H s (Pre.push _ _) r (hC _), ?_⟩
    obtain ⟨us, g1, g2, g3⟩ := got F' H _ r
    refine fin p F' us H s g2 g1 hp r g3.pure (r.pop r1.len (r1.wish.mono s (Pre.refl _)) fun i o a hi ha u q => ?_)
    obtain ⟨a0, u0, f1, f2, f3, f4⟩ := r1.own i o hi
    rw [ha] at f1; cases f1
    exact f4.low q
/-- [..]: a new list that stays as it is -/
theorem ve_lc {wi : TI} {g : TG} {tt : TT} {te : TE} {vs : List Nat} (tg : TgOk g vs)
    (q : VI K Θ wi env h fun ds C h1 => ∃ fs : Nat → Option P, ds.length < sizeLine ∧ (∀ acc, C (h1 ++ [some (.lst acc)])) ∧
      (∀ i d acc, ds[i]? = some d → LcTurn K Θ g tt te (wipeD env vs) d (h1 ++ [some (.lst acc)]) (fs i)) ∧ R (dL ((List.range ds.length).filterMap fs)) h1) : VE K Θ (tLc wi g tt te vs) env h R := fun F ρ σ H Q rl e k =>
  q F ρ σ H _ rl e fun ds C h1 J F1 ρ1 H1 s1 p1 r1 it q1 => by
    obtain ⟨fs, hl, hC, turn, q1⟩ := q1
    refine lc_run (wi := wi) tg Q r1 (e.mono s1 p1) it fs hl hC turn fun p F' us H s hn hp hp1 r rp r2 => ?_
    have sn : Same F' (upd F' p (.lst us)) := same_new hn
    refine k _ h1 (.ref p) (upd F' p (.lst us)) ρ1 H (s1.trans (s.trans sn)) p1 ?_ (.p (.lst (.of upd_same) (rp.mono sn))) q1
    have np : ∀ P ∈ Θ.tabs, P ≠ p := fun P hP => by
      obtain ⟨ps, z, _⟩ := (r2.tab P hP).2
      rintro rfl
      rw [hp] at z
      cases z
    refine ⟨⟨fun b o e => ?_, r2.len, fun i o hi => ?_, r2.inj, fun P hP => ⟨by rw [upd_ne (np P hP)]; exact (r2.tab P hP).1, (r2.tab P hP).2⟩, fun q hq => ⟨by rw [upd_ne (lam_neO (r2.lam q hq).2 hp fun _ z => by cases z)]; exact (r2.lam q hq).1, (r2.lam q hq).2⟩⟩, r2.wish.mono sn (Pre.refl _)⟩
    · by_cases hb : b = p
      · subst hb; rw [upd_same] at e; rw [hp]; exact e
      · rw [upd_ne hb] at e; exact r2.same b o e
    · obtain ⟨a, u, f1, f2, f3, f4⟩ := r2.own i o hi
      have ha : a ≠ p := fun z => by
        subst z
        obtain ⟨a0, u0, g1, g2, g3, g4⟩ := r1.own i o hi
        rw [f1] at g1; cases g1
        rw [hp1] at g3; cases g3
      exact ⟨a, u, f1, by rw [upd_ne ha]; exact f2, f3, f4.mono sn (Pre.refl _)⟩
end
end Kb

/-! Operations upon data. -/
namespace Kb
open PySem PySem.Spec PyProof.Rows L2
section
variable {X : Cx}
def rAddS' : R2 := fun x y H Q => ∃ i j, x = .str i ∧ y = .str j ∧ i.length + j.length ≤ sizeLine ∧ Q (.str (i ++ j)) H
def rAddI : R2 := rI0 fun i j => .int (i + j)
def rAddU (K : PySem.W.Frag) : R2 := fun x y H Q => rAddI x y H Q ∨ (rAddS' x y H Q ∨ (rCatT K x y H Q ∨ rCat x y H Q))
def rEqU (K : PySem.W.Frag) : R2 := fun x y H Q => rEq x y H Q ∨ rEqD K x y H Q
def rNeU (K : PySem.W.Frag) : R2 := fun x y H Q => rNe x y H Q ∨ rNeD K x y H Q
theorem op_eqU (hu : X.A.units + 64 < cLine) : OpR X (compareOp .Eq) (rEqU X.K) := op_eq.or (op_eqD hu)
theorem op_neU (hu : X.A.units + 64 < cLine) : OpR X (compareOp .NotEq) (rNeU X.K) := op_ne.or (op_neD hu)
def rInSg : R2 := fun x y H Q => ∃ (c : Nat) (z : Str), x = .str ⟨#[c]⟩ ∧ y = .str z ∧ Q (.bl (decide (c ∈ z.cps.toList))) H
def rInU (K : PySem.W.Frag) : R2 := fun x y H Q => rIn K false x y H Q ∨ rInSg x y H Q
def rNiSg : R2 := fun x y H Q => ∃ (c : Nat) (z : Str), x = .str ⟨#[c]⟩ ∧ y = .str z ∧ Q (.bl (!decide (c ∈ z.cps.toList))) H
def rNiU (K : PySem.W.Frag) : R2 := fun x y H Q => rIn K true x y H Q ∨ rNiSg x y H Q
theorem op_inU : OpR X (compareOp .In) (rInU X.K) := OpR.or op_in_seq op_in_sign
theorem op_ninU : OpR X (compareOp .NotIn) (rNiU X.K) := OpR.or op_notIn_seq op_notIn_sign
def rInt1 : List V → Hp → VK → Prop := fun xs H Q => (∃ i, xs = [.int i] ∧ Q (.int i) H) ∨ ∃ k, xs = [.bl k] ∧ Q (.int (if k then 1 else 0)) H
def rIntS : List V → Hp → VK → Prop := fun xs H Q => ∃ a n, xs = [.str a] ∧ PySem.intText? a = some n ∧ a.length ≤ 640 ∧ Q (.int n) H
def rIntU : List V → Hp → VK → Prop := fun xs H Q => rInt1 xs H Q ∨ rIntS xs H Q
theorem call_intU : CallR X (.type "int") rIntU := CallR.or (r := rInt1) (r' := rIntS) call_int1 call_int_str
def rIsiU (K : PySem.W.Frag) : List V → Hp → VK → Prop := fun xs H Q => rIsi K xs H Q ∨ rIsiT K xs H Q
theorem call_isiU : CallR X (.builtin "isinstance") (rIsiU X.K) := call_isi.or call_isiT
end
section
variable {K : PySem.W.Frag} {Θ : Ctx} {env : Env'} {h : Hs} {R : D → Hs → Prop} {x y d : D}
/-! ### two operands -/
theorem v2_I {C : Int → Int → Prop} {g : Int → Int → Int} {i j : Int} (c : C i j) (q : R (dI (g i j)) h) : V2 K Θ (rI C fun i j => .int (g i j)) (dI i) (dI j) h R := fun F ρ H vx vy Q rl a b k => by
  obtain rfl := a.int
  obtain rfl := b.int
  exact ⟨i, j, rfl, rfl, c, k _ h _ F ρ H (Same.refl _) (Pre.refl _) rl (.p (.int _)) q⟩
theorem v2_I0 {g : Int → Int → Int} {i j : Int} (q : R (dI (g i j)) h) : V2 K Θ (rI0 fun i j => .int (g i j)) (dI i) (dI j) h R := fun F ρ H vx vy Q rl a b k => by
  obtain rfl := a.int
  obtain rfl := b.int
  exact ⟨i, j, rfl, rfl, k _ h _ F ρ H (Same.refl _) (Pre.refl _) rl (.p (.int _)) q⟩
theorem v2_B0 {g : Int → Int → Bool} {i j : Int} (q : R (dB (g i j)) h) : V2 K Θ (rI0 fun i j => .bl (g i j)) (dI i) (dI j) h R := fun F ρ H vx vy Q rl a b k => by
  obtain rfl := a.int
  obtain rfl := b.int
  exact ⟨i, j, rfl, rfl, k _ h _ F ρ H (Same.refl _) (Pre.refl _) rl (.p (.bl _)) q⟩
theorem v2_ip {g : Int → Int → Int} {i j : Int} (q : R (dI (g i j)) h) : V2 K Θ (ipI g) (dI i) (dI j) h R := fun F ρ H vx vy Q rl a b k => by
  obtain rfl := a.int
  obtain rfl := b.int
  exact ⟨i, j, rfl, rfl, k _ h _ F ρ H (Same.refl _) (Pre.refl _) rl (.p (.int _)) q⟩
theorem v2_or1 {r r' : R2} (q : V2 K Θ r x y h R) : V2 K Θ (fun x y H Q => r x y H Q ∨ r' x y H Q) x y h R := fun F ρ H vx vy Q rl a b k => .inl (q F ρ H vx vy Q rl a b k)
theorem v2_or2 {r r' : R2} (q : V2 K Θ r' x y h R) : V2 K Θ (fun x y H Q => r x y H Q ∨ r' x y H Q) x y h R := fun F ρ H vx vy Q rl a b k => .inr (q F ρ H vx vy Q rl a b k)
theorem v2_addI {i j : Int} (q : R (dI (i + j)) h) : V2 K Θ (rAddU K) (dI i) (dI j) h R := v2_or1 (v2_I0 q)
theorem v2_eqI {i j : Int} (q : R (dB (decide (i = j))) h) : V2 K Θ (rEqU K) (dI i) (dI j) h R := v2_or1 fun F ρ H vx vy Q rl a b k => by
  obtain rfl := a.int
  obtain rfl := b.int
  refine ⟨rfl, ?_⟩
  have e : decide (V.int i = V.int j) = decide (i = j) := decide_eq_decide.mpr ⟨V.int.inj, congrArg V.int⟩
  rw [e]
  exact k _ h _ F ρ H (Same.refl _) (Pre.refl _) rl (.p (.bl _)) q
theorem v2_eqB {i j : Bool} (q : R (dB (decide (i = j))) h) : V2 K Θ (rEqU K) (dB i) (dB j) h R := v2_or1 fun F ρ H vx vy Q rl a b k => by
  obtain rfl := a.bl
  obtain rfl := b.bl
  refine ⟨rfl, ?_⟩
  have e : decide (V.bl i = V.bl j) = decide (i = j) := decide_eq_decide.mpr ⟨V.bl.inj, congrArg V.bl⟩
  rw [e]
  exact k _ h _ F ρ H (Same.refl _) (Pre.refl _) rl (.p (.bl _)) q
theorem v2_eqS {i j : Str} (q : R (dB (decide (i = j))) h) : V2 K Θ (rEqU K) (dS i) (dS j) h R := v2_or1 fun F ρ H vx vy Q rl a b k => by
  obtain rfl := a.str
  obtain rfl := b.str
  refine ⟨rfl, ?_⟩
  have e : decide (V.str i = V.str j) = decide (i = j) := decide_eq_decide.mpr ⟨V.str.inj, congrArg V.str⟩
  rw [e]
  exact k _ h _ F ρ H (Same.refl _) (Pre.refl _) rl (.p (.bl _)) q
theorem v2_neI {i j : Int} (q : R (dB (!decide (i = j))) h) : V2 K Θ (rNeU K) (dI i) (dI j) h R := v2_or1 fun F ρ H vx vy Q rl a b k => by
  obtain rfl := a.int
  obtain rfl := b.int
  refine ⟨rfl, ?_⟩
  have e : decide (V.int i = V.int j) = decide (i = j) := decide_eq_decide.mpr ⟨V.int.inj, congrArg V.int⟩
  rw [e]
  exact k _ h _ F ρ H (Same.refl _) (Pre.refl _) rl (.p (.bl _)) q
theorem v2_neB {i j : Bool} (q : R (dB (!decide (i = j))) h) : V2 K Θ (rNeU K) (dB i) (dB j) h R := v2_or1 fun F ρ H vx vy Q rl a b k => by
  obtain rfl := a.bl
  obtain rfl := b.bl
  refine ⟨rfl, ?_⟩
  have e : decide (V.bl i = V.bl j) = decide (i = j) := decide_eq_decide.mpr ⟨V.bl.inj, congrArg V.bl⟩
  rw [e]
  exact k _ h _ F ρ H (Same.refl _) (Pre.refl _) rl (.p (.bl _)) q
theorem v2_neS {i j : Str} (q : R (dB (!decide (i = j))) h) : V2 K Θ (rNeU K) (dS i) (dS j) h R := v2_or1 fun F ρ H vx vy Q rl a b k => by
  obtain rfl := a.str
  obtain rfl := b.str
  refine ⟨rfl, ?_⟩
  have e : decide (V.str i = V.str j) = decide (i = j) := decide_eq_decide.mpr ⟨V.str.inj, congrArg V.str⟩
  rw [e]
  exact k _ h _ F ρ H (Same.refl _) (Pre.refl _) rl (.p (.bl _)) q
/-- data as the library compares them -/
def pyOf : P → PyData
  | .non => .none
  | .bl b => .bool b
  | .int i => .int i
  | .str s => .str s
  | .tup xs => .tuple (pyOfs xs)
  | .ktp xs => .tuple (pyOfs xs)
  | .lst xs => .list (pyOfs xs)
  | .ins _ _ => .none
  | .ty _ => .none
  | .cls _ => .none
where pyOfs : List P → List PyData
  | [] => []
  | x :: xs => pyOf x :: pyOfs xs
/-- None, bools, ints, texts, tuples and lists of these -/
def plainP : P → Bool
  | .non => true
  | .bl _ => true
  | .int _ => true
  | .str _ => true
  | .tup xs => plainPs xs
  | .ktp xs => plainPs xs
  | .lst xs => plainPs xs
  | _ => false
where plainPs : List P → Bool
  | [] => true
  | x :: xs => plainP x && plainPs xs
mutual
theorem RP.dp {F H : Hp} (s : Same F H) : ∀ {x : P} {v : V}, RP K F x v → plainP x = true → Dp K H v (pyOf x)
  | _, _, .non, _ => .non
  | _, _, .bl b, _ => .bl b
  | _, _, .int i, _ => .int i
  | _, _, .str i, _ => .str i
  | .tup xs, _, .tup a r, c => .tup (sqT_mono s a) (RPs.dp s r (by unfold plainP at c; exact c))
  | .ktp xs, _, .ktp a r, c => .tup (a _) (RPs.dp s r (by unfold plainP at c; exact c))
  | .lst xs, _, .lst a r, c => .lst (s.seq a) (RPs.dp s r (by unfold plainP at c; exact c))
  | _, _, .ins _ _, c => by simp [plainP] at c
  | _, _, .ty _, c => by simp [plainP] at c
  | _, _, .cls _, c => by simp [plainP] at c
theorem RPs.dp {F H : Hp} (s : Same F H) : ∀ {xs : List P} {vs : List V}, RPs K F xs vs → plainP.plainPs xs = true → DpAll K H vs (pyOf.pyOfs xs)
  | _, _, .nil, _ => .nil
  | x :: xs, _, .cons a r, c => by
    unfold plainP.plainPs at c
    rw [Bool.and_eq_true] at c
    exact .cons (RP.dp s a c.1) (RPs.dp s r c.2)
end
theorem v2_eqP {x y : P} (hx : plainP x = true) (hy : plainP y = true) (sx : SeqAt.shaped (pyOf x) = true) (sy : SeqAt.shaped (pyOf y) = true) (q : R (dB (PyData.eqv (pyOf x) (pyOf y))) h) : V2 K Θ (rEqU K) (.p x) (.p y) h R := v2_or2 fun F ρ H vx vy Q rl a b k => by
  cases a with
  | p a =>
    cases b with
    | p b => exact ⟨_, _, a.dp rl.same hx, b.dp rl.same hy, sx, sy, k _ h _ F ρ H (Same.refl _) (Pre.refl _) rl (.p (.bl _)) q⟩
/-- is it None -/
def isNonD : D → Bool
  | .p .non => true
  | _ => false
theorem isNon_v {F : Hp} {ρ : List Addr} {d : D} {v : V} (a : RD K F ρ d v) : decide (v = .non) = isNonD d := by
  cases a with
  | p a => cases a <;> rfl
  | own _ => rfl
theorem v2_isN (q : R (dB (isNonD x)) h) : V2 K Θ (fun x y H Q => y = V.non ∧ Q (.bl (decide (x = .non))) H) x dN h R := fun F ρ H vx vy Q rl a b k => by
  obtain rfl := b.non
  refine ⟨rfl, ?_⟩
  rw [isNon_v a]
  exact k _ h _ F ρ H (Same.refl _) (Pre.refl _) rl (.p (.bl _)) q
theorem v2_notN (q : R (dB (!isNonD x)) h) : V2 K Θ (fun x y H Q => y = V.non ∧ Q (.bl (!decide (x = .non))) H) x dN h R := fun F ρ H vx vy Q rl a b k => by
  obtain rfl := b.non
  refine ⟨rfl, ?_⟩
  rw [isNon_v a]
  exact k _ h _ F ρ H (Same.refl _) (Pre.refl _) rl (.p (.bl _)) q
theorem v1_U {g : Int → Int} {i : Int} (q : R (dI (g i)) h) : V1 K Θ (rU fun i => .int (g i)) (dI i) h R := fun F ρ H vx Q rl a k => by
  obtain rfl := a.int
  exact ⟨i, rfl, k _ h _ F ρ H (Same.refl _) (Pre.refl _) rl (.p (.int _)) q⟩
/-! ### items -/
theorem RPs.at_ {F : Hp} {ds : List P} {vs : List V} {i : Int} {d : P} (r : RPs K F ds vs) (h : atI ds i = some d) : ∃ v, atI vs i = some v ∧ RP K F d v := by
  unfold atI at h ⊢
  rw [← r.len]
  cases e : ixN ds.length i with
  | none => rw [e] at h; cases h
  | some j =>
    rw [e] at h
    exact r.get h
theorem RA.at_ {F : Hp} {ρ : List Addr} {ds : List D} {vs : List V} {i : Int} {d : D} (r : RA K F ρ ds vs) (h : atI ds i = some d) : ∃ v, atI vs i = some v ∧ RD K F ρ d v := by
  unfold atI at h ⊢
  rw [← r.len]
  cases e : ixN ds.length i with
  | none => rw [e] at h; cases h
  | some j =>
    rw [e] at h
    exact r.get h
theorem v2_ixL {xs : List P} {i : Int} {p : P} (ha : atI xs i = some p) (q : R (.p p) h) : V2 K Θ (rIx K) (dL xs) (dI i) h R := fun F ρ H vx vy Q rl a b k => by
  obtain rfl := b.int
  cases a with
  | p a =>
    cases a with
    | lst a r =>
      obtain ⟨v, h1, h2⟩ := r.at_ ha
      exact .inl ⟨_, _, i, v, rfl, rfl, rl.same.seq a, h1, k _ h _ F ρ H (Same.refl _) (Pre.refl _) rl (.p h2) q⟩
theorem v2_ixT {xs : List P} {i : Int} {p : P} (ha : atI xs i = some p) (q : R (.p p) h) : V2 K Θ (rIx K) (dT xs) (dI i) h R := fun F ρ H vx vy Q rl a b k => by
  obtain rfl := b.int
  cases a with
  | p a =>
    cases a with
    | tup a r =>
      obtain ⟨v, h1, h2⟩ := r.at_ ha
      exact .inr (.inl ⟨_, _, i, v, rfl, rfl, sqT_mono rl.same a, h1, k _ h _ F ρ H (Same.refl _) (Pre.refl _) rl (.p h2) q⟩)
theorem v2_ixS {z : Str} {i : Int} {c : Nat} (hl : z.length ≤ sizeLine) (ha : atI z.cps.toList i = some c) (q : R (dS ⟨#[c]⟩) h) : V2 K Θ (rIx K) (dS z) (dI i) h R := fun F ρ H vx vy Q rl a b k => by
  obtain rfl := a.str
  obtain rfl := b.int
  exact .inr (.inr ⟨z, i, c, rfl, rfl, hl, ha, k _ h _ F ρ H (Same.refl _) (Pre.refl _) rl (.p (.str _)) q⟩)
theorem v2_ixO {n : Nat} {xs : List D} {i : Int} (hn : h[n]? = some (some (.lst xs))) (ha : atI xs i = some d) (q : R d h) : V2 K Θ (rIx K) (.own n) (dI i) h R := fun F ρ H vx vy Q rl a b k => by
  obtain rfl := b.int
  cases a with
  | own a =>
    obtain ⟨p, u, e1, e2, e3, vs, e4, e5⟩ := rl.own _ _ hn
    rw [a] at e1; cases e1
    subst e4
    obtain ⟨v, h1, h2⟩ := e5.at_ ha
    exact .inl ⟨_, _, i, v, rfl, rfl, .of e3, h1, k _ h _ F ρ H (Same.refl _) (Pre.refl _) rl h2 q⟩
/-! ### slices -/
def VO (K : PySem.W.Frag) (Θ : Ctx) (to : TO) (env : Env') (h : Hs) (R : Option Int → Hs → Prop) : Prop :=
  ∀ (F : Hp) (ρ : List Addr) (σ : L2.St) (H : Hp) (Q : Option Int → Hp → Prop), Rel K Θ F ρ h H → REnv K F ρ env σ →
    (∀ (d : Option Int) (h' : Hs) (F' : Hp) (ρ' : List Addr) (H' : Hp), Same F F' → Pre ρ ρ' → Rel K Θ F' ρ' h' H' → R d h' → Q d H') → to σ H Q
theorem vo_none {R : Option Int → Hs → Prop} (q : R none h) : VO K Θ tNoPart env h R := fun F ρ σ H Q rl e k => k none h F ρ H (Same.refl _) (Pre.refl _) rl q
theorem vo_some {te : TE} {R : Option Int → Hs → Prop} (q : VE K Θ te env h fun x h1 => ∃ i, x = dI i ∧ R (some i) h1) : VO K Θ (tPart te) env h R := fun F ρ σ H Q rl e k =>
  q F ρ σ H _ rl e fun x h1 v F1 ρ1 H1 s1 p1 r1 dx q1 => by
    obtain ⟨i, rfl, q1⟩ := q1
    obtain rfl := dx.int
    exact ⟨i, rfl, k _ h1 F1 ρ1 H1 s1 p1 r1 q1⟩
def cutP {α : Type} (xs : List α) (lo hi : Option Int) : List α := (xs.drop (HT.sIx xs.length 0 lo)).take (HT.sIx xs.length xs.length hi - HT.sIx xs.length 0 lo)
theorem RPs.cut {F : Hp} {xs : List P} {vs : List V} (r : RPs K F xs vs) (lo hi : Option Int) : RPs K F (cutP xs lo hi) (cutV vs lo hi) := by
  unfold cutP cutV
  rw [r.len]
  exact (r.drop _).take _
theorem ve_slL {te : TE} {tl th : TO} (q : VE K Θ te env h fun x h1 => VO K Θ tl env h1 fun lo h2 => VO K Θ th env h2 fun hi h3 => ∃ xs, x = dL xs ∧ R (dL (cutP xs lo hi)) h3) : VE K Θ (tSl (rSlL K) te tl th) env h R := fun F ρ σ H Q rl e k =>
  q F ρ σ H _ rl e fun x h1 v F1 ρ1 H1 s1 p1 r1 dx q1 => q1 F1 ρ1 σ H1 _ r1 (e.mono s1 p1) fun lo h2 F2 ρ2 H2 s2 p2 r2 q2 => q2 F2 ρ2 σ H2 _ r2 (e.mono (s1.trans s2) (p1.trans p2)) fun hi h3 F3 ρ3 H3 s3 p3 r3 q3 => by
    obtain ⟨xs, rfl, q3⟩ := q3
    have dx3 := dx.mono (s2.trans s3) (p2.trans p3)
    cases dx3 with
    | p a =>
      cases a with
      | lst a r =>
        refine ⟨_, _, rfl, r3.same.seq a, fun p hp => ?_⟩
        have sn := fun o => same_new (o := o) (r3.free hp)
        exact k _ h3 _ _ ρ3 _ ((s1.trans (s2.trans s3)).trans (sn _)) (p1.trans (p2.trans p3)) (r3.frz hp) (.p (.lst (.of upd_same) ((r.cut lo hi).mono (sn _)))) q3
/-! ### calls of built-ins -/
theorem vc_len {n : Nat} (l : match x with | .p (.str y) => y.length ≤ sizeLine ∧ n = y.length | .p (.lst xs) => n = xs.length | .p (.tup xs) => n = xs.length | .own i => ∃ xs, h[i]? = some (some (.lst xs)) ∧ n = xs.length | _ => False) (q : R (dI n) h) :
    VC K Θ (fun xs H Q => ∃ x n, xs = [x] ∧ LenV K x H n ∧ Q (.int n) H) [x] h R := fun F ρ H vs Q rl a k => by
  cases a with
  | cons a b =>
    cases b
    have fin : ∀ v : V, LenV K v H n → ∃ x n, [v] = [x] ∧ LenV K x H n ∧ Q (.int n) H := fun v l => ⟨v, n, rfl, l, k _ h _ F ρ H (Same.refl _) (Pre.refl _) rl (.p (.int _)) q⟩
    cases a with
    | p a =>
      cases a with
      | str s => exact fin _ l
      | lst a r => exact fin _ (.inl ⟨_, rl.same.seq a, by rw [← r.len]; exact l⟩)
      | tup a r => exact fin _ (.inr ⟨_, sqT_mono rl.same a, by rw [← r.len]; exact l⟩)
      | _ => exact l.elim
    | own a =>
      obtain ⟨xs, hn, l⟩ := l
      obtain ⟨p, u, e1, e2, e3, vs, e4, e5⟩ := rl.own _ _ hn
      rw [a] at e1; cases e1
      subst e4
      exact fin _ (.inl ⟨vs, .of e3, by rw [← e5.len]; exact l⟩)
theorem vc_intI {i : Int} (q : R (dI i) h) : VC K Θ rIntU [dI i] h R := fun F ρ H vs Q rl a k => by
  cases a with
  | cons a b =>
    cases b
    obtain rfl := a.int
    exact .inl (.inl ⟨i, rfl, k _ h _ F ρ H (Same.refl _) (Pre.refl _) rl (.p (.int _)) q⟩)
theorem vc_intS {s : Str} {n : Int} (e : PySem.intText? s = some n) (hl : s.length ≤ 640) (q : R (dI n) h) : VC K Θ rIntU [dS s] h R := fun F ρ H vs Q rl a k => by
  cases a with
  | cons a b =>
    cases b
    obtain rfl := a.str
    exact .inr ⟨s, n, rfl, e, hl, k _ h _ F ρ H (Same.refl _) (Pre.refl _) rl (.p (.int _)) q⟩
theorem vc_2 {g : Int → Int → Int} {i j : Int} (q : R (dI (g i j)) h) : VC K Θ (fun xs H Q => ∃ i j, xs = [V.int i, V.int j] ∧ Q (.int (g i j)) H) [dI i, dI j] h R := fun F ρ H vs Q rl a k => by
  cases a with
  | cons a b =>
    cases b with
    | cons b c =>
      cases c
      obtain rfl := a.int
      obtain rfl := b.int
      exact ⟨i, j, rfl, k _ h _ F ρ H (Same.refl _) (Pre.refl _) rl (.p (.int _)) q⟩
theorem vc_min2 {i j : Int} (q : R (dI (if j < i then j else i)) h) : VC K Θ (fun xs H Q => ∃ i j, xs = [V.int i, V.int j] ∧ Q (.int (if j < i then j else i)) H) [dI i, dI j] h R := vc_2 (g := fun i j => if j < i then j else i) q
theorem vc_max2 {i j : Int} (q : R (dI (if j > i then j else i)) h) : VC K Θ (fun xs H Q => ∃ i j, xs = [V.int i, V.int j] ∧ Q (.int (if j > i then j else i)) H) [dI i, dI j] h R := vc_2 (g := fun i j => if j > i then j else i) q
/-- the items of a list or tuple -/
def SeqP (d : D) (h : Hs) (ps : List P) : Prop := match d with
  | .p (.lst xs) => xs = ps
  | .p (.tup xs) => xs = ps
  | .own i => h[i]? = some (some (.lst (ps.map D.p)))
  | _ => False
theorem SeqP.v {F : Hp} {ρ : List Addr} {H : Hp} {d : D} {v : V} {ps : List P} (rl : Rel K Θ F ρ h H) (a : RD K F ρ d v) (s : SeqP d h ps) : ∃ p vs, v = .ref p ∧ (SqL K H p vs ∨ SqT K H p vs) ∧ RPs K F ps vs := by
  cases a with
  | p a =>
    cases a with
    | lst a r => cases s; exact ⟨_, _, rfl, .inl (rl.same.seq a), r⟩
    | tup a r => cases s; exact ⟨_, _, rfl, .inr (sqT_mono rl.same a), r⟩
    | _ => exact s.elim
  | own a =>
    obtain ⟨p, u, e1, e2, e3, vs, e4, e5⟩ := rl.own _ _ s
    rw [a] at e1; cases e1
    subst e4
    exact ⟨_, _, rfl, .inl (.of e3), e5.pure⟩
theorem vc_tuple {ps : List P} (s : SeqP x h ps) (q : R (dT ps) h) : VC K Θ (fun xs H Q => ∃ p ys, xs = [V.ref p] ∧ ((SqL K H p ys ∧ ∀ l, H l = none → Q (.ref l) (upd H l (.tup ys))) ∨ (SqT K H p ys ∧ Q (.ref p) H))) [x] h R := fun F ρ H vs Q rl a k => by
  cases a with
  | cons a b =>
    cases b
    cases a with
    | p a =>
      cases a with
      | lst a r =>
        cases s
        refine ⟨_, _, rfl, .inl ⟨rl.same.seq a, fun l hl => ?_⟩⟩
        have sn := fun o => same_new (o := o) (rl.free hl)
        exact k _ h _ _ ρ _ (sn _) (Pre.refl _) (rl.frz hl) (.p (.tup (.of upd_same) (r.mono (sn _)))) q
      | tup a r =>
        cases s
        exact ⟨_, _, rfl, .inr ⟨sqT_mono rl.same a, k _ h _ F ρ H (Same.refl _) (Pre.refl _) rl (.p (.tup a r)) q⟩⟩
      | _ => exact s.elim
    | own a =>
      obtain ⟨p, u, e1, e2, e3, vs, e4, e5⟩ := rl.own _ _ s
      rw [a] at e1; cases e1
      subst e4
      refine ⟨_, _, rfl, .inl ⟨.of e3, fun l hl => ?_⟩⟩
      have sn := fun o => same_new (o := o) (rl.free hl)
      exact k _ h _ _ ρ _ (sn _) (Pre.refl _) (rl.frz hl) (.p (.tup (.of upd_same) (e5.pure.mono (sn _)))) q
/-- list(..): a new list that stays; one that is owned -/
theorem vc_list {ps : List P} (s : SeqP x h ps) (q : R (dL ps) h) : VC K Θ (fun xs H Q => ∃ p ys, xs = [V.ref p] ∧ (SqL K H p ys ∨ SqT K H p ys) ∧ ∀ l, H l = none → Q (.ref l) (upd H l (.lst ys))) [x] h R := fun F ρ H vs Q rl a k => by
  cases a with
  | cons a b =>
    cases b
    obtain ⟨p, us, rfl, sq, r⟩ := s.v rl a
    refine ⟨p, us, rfl, sq, fun l hl => ?_⟩
    have sn := fun o => same_new (o := o) (rl.free hl)
    exact k _ h _ _ ρ _ (sn _) (Pre.refl _) (rl.frz hl) (.p (.lst (.of upd_same) (r.mono (sn _)))) q
theorem vm_append {n : Nat} {xs : List D} (hn : h[n]? = some (some (.lst xs))) (hl : xs.length < sizeLine) (q : R dN (h.set n (some (.lst (xs ++ [y]))))) : VM K Θ rAppend (.own n) [y] h R := fun F ρ H vx vs Q rl a b k => by
  cases a with
  | own a =>
    cases b with
    | cons b c =>
      cases c
      obtain ⟨p, u, e1, e2, e3, us, e4, e5⟩ := rl.own _ _ hn
      rw [a] at e1; cases e1
      subst e4
      refine ⟨_, us, _, rfl, rfl, e3, by rw [← e5.len]; exact hl, ?_⟩
      exact k _ _ _ F ρ _ (Same.refl _) (Pre.refl _) (rl.put (o' := .lst (xs ++ [y])) hn a ⟨_, rfl, e5.append (.cons b .nil)⟩) (.p .non) q
end
end Kb

/-! Defs and classes in data. -/
namespace Kb
open PySem PySem.Spec PyProof.Rows L2
def startD (N : List Str) (ds : List D) : Env' := ds.map some ++ List.replicate (N.length - ds.length) none
section
variable {K : PySem.W.Frag} {Θ : Ctx}
theorem renv_start {F : Hp} {ρ : List Addr} {N : List Str} {ds : List D} {vs : List V} (r : RA K F ρ ds vs) : REnv K F ρ (startD N ds) (L2.start N vs) := by
  have hl := r.len
  refine ⟨by unfold startD L2.start; simp [hl], fun i d h => ?_⟩
  unfold startD at h
  unfold L2.start
  by_cases hi : i < ds.length
  · rw [List.getElem?_append_left (by simpa using hi), List.getElem?_map] at h
    cases e : ds[i]? with
    | none => rw [e] at h; cases h
    | some d0 =>
      rw [e] at h; cases h
      obtain ⟨v, h1, h2⟩ := r.get e
      exact ⟨v, by rw [List.getElem?_append_left (by simp; omega), List.getElem?_map, h1]; rfl, h2⟩
  · rw [List.getElem?_append_right (by simp; omega), List.getElem?_replicate] at h
    split at h <;> cases h
/-! ### what a def leaves behind -/
theorem RA.lowP {F F0 : Hp} {ρ ρ' : List Addr} (p : Pre ρ ρ') : ∀ {ds : List D} {vs v0 : List V}, RA K F0 ρ ds v0 → RA K F ρ' ds vs → RA K F ρ ds vs
  | _, _, _, .nil, .nil => .nil
  | _, _, _, .cons a r, .cons b s => .cons (by
      cases b with
      | p b => exact .p b
      | own b =>
        cases a with
        | own a =>
          have z := p _ _ a
          rw [b] at z; cases z
          exact .own a) (RA.lowP p r s)
theorem RF.lowP {F F0 : Hp} {ρ ρ' : List Addr} (p : Pre ρ ρ') : ∀ {ds : List (Str × D)} {vs v0 : List (Str × V)}, RF K F0 ρ ds v0 → RF K F ρ' ds vs → RF K F ρ ds vs
  | _, _, _, .nil, .nil => .nil
  | _, _, _, .cons a r, .cons b s => .cons (by
      cases b with
      | p b => exact .p b
      | own b =>
        cases a with
        | own a =>
          have z := p _ _ a
          rw [b] at z; cases z
          exact .own a) (RF.lowP p r s)
theorem RK.lowP {κ : Type} {F F0 : Hp} {ρ ρ' : List Addr} (p : Pre ρ ρ') : ∀ {ds : List (κ × D)} {vs v0 : List (κ × V)}, RK K F0 ρ ds v0 → RK K F ρ' ds vs → RK K F ρ ds vs
  | _, _, _, .nil, .nil => .nil
  | _, _, _, .cons a r, .cons b s => .cons (by
      cases b with
      | p b => exact .p b
      | own b =>
        cases a with
        | own a =>
          have z := p _ _ a
          rw [b] at z; cases z
          exact .own a) (RK.lowP p r s)
theorem RO.lowP {a0 : Addr} {F F0 : Hp} {ρ ρ' : List Addr} (p : Pre ρ ρ') {o : OO} {u u0 : HO} (a : RO K a0 F0 ρ o u0) (b : RO K a0 F ρ' o u) : RO K a0 F ρ o u := by
  cases o with
  | lst xs =>
    obtain ⟨v0, _, r0⟩ := a
    obtain ⟨vs, e, r⟩ := b
    exact ⟨vs, e, r0.lowP p r⟩
  | ins C fs =>
    obtain ⟨d0, g0, _, r0⟩ := a
    obtain ⟨dx, gs, e, r⟩ := b
    exact ⟨dx, gs, e, r0.lowP p r⟩
  | dK kvs =>
    obtain ⟨g0, _, r0⟩ := a
    obtain ⟨gs, e, r⟩ := b
    exact ⟨gs, e, r0.lowP p r⟩
  | dT kvs =>
    obtain ⟨g0, _, r0⟩ := a
    obtain ⟨gs, e, r⟩ := b
    exact ⟨gs, e, r0.lowP p r⟩
  | dN pw kvs =>
    obtain ⟨g0, _, _, r0⟩ := a
    obtain ⟨gs, e, q, r⟩ := b
    exact ⟨gs, e, q, r0.lowP p r⟩
  | dL pw od gs kvs =>
    obtain ⟨_, _, r0⟩ := a
    obtain ⟨e, q, r⟩ := b
    exact ⟨e, q, r0.lowP p r⟩
theorem Rel.back {F F' : Hp} {ρ ρ' : List Addr} {h junk : Hs} {H H' : Hp} (r0 : Rel K Θ F ρ h H) (s : Same F F') (p : Pre ρ ρ') (r : Rel K Θ F' ρ' (h ++ junk) H') : Rel K Θ F' ρ h H' := by
  have lt : ∀ (i : Nat) (o' : OO), h[i]? = some (some o') → i < h.length := fun i o' e => (List.getElem?_eq_some_iff.mp e).1
  have up : ∀ (i : Nat) (o' : OO), h[i]? = some (some o') → (h ++ junk)[i]? = some (some o') := fun i o' e => by rw [List.getElem?_append_left (lt i o' e)]; exact e
  refine ⟨⟨r.same, r0.len, fun i o' hi => ?_, fun i j o1 o2 a hi hj ha hb => r.inj i j o1 o2 a (up i o1 hi) (up j o2 hj) (p _ _ ha) (p _ _ hb), r.tab, r.lam⟩, r0.wish.mono s (Pre.refl _)⟩
  obtain ⟨a, u, h1, h2, h3, h4⟩ := r.own i o' (up i o' hi)
  obtain ⟨a0, u0, g1, g2, g3, g4⟩ := r0.own i o' hi
  have z := p _ _ g1
  rw [h1] at z; cases z
  exact ⟨a, u, g1, h2, h3, g4.lowP p h4⟩
/-- behind a def that leaves what was owned as it was -/
def Fin (h : Hs) (R : D → Hs → Prop) (d : D) (h' : Hs) : Prop := ∃ junk, h' = h ++ junk ∧
  ((∃ p, d = .p p ∧ R (.p p) h) ∨ (∃ n ps, d = .own n ∧ h.length ≤ n ∧ h'[n]? = some (some (.lst (ps.map D.p))) ∧ R (dL ps) h) ∨
    ∃ n C fs, d = .own n ∧ h.length ≤ n ∧ h'[n]? = some (some (.ins C (fs.map fun q => (q.1, D.p q.2)))) ∧ R (.p (.ins C fs)) h)
theorem fin_p {h : Hs} {R : D → Hs → Prop} {p : P} (junk : Hs) (q : R (.p p) h) : Fin h R (.p p) (h ++ junk) := ⟨junk, rfl, .inl ⟨p, rfl, q⟩⟩
theorem fin_p0 {h : Hs} {R : D → Hs → Prop} {p : P} (q : R (.p p) h) : Fin h R (.p p) h := ⟨[], by simp, .inl ⟨p, rfl, q⟩⟩
theorem fin_run {F F' : Hp} {ρ ρ' : List Addr} {h h' : Hs} {H H' : Hp} {R : D → Hs → Prop} {d : D} {v : V} {Q : VK} (r0 : Rel K Θ F ρ h H) (s : Same F F') (p : Pre ρ ρ') (r : Rel K Θ F' ρ' h' H') (dv : RD K F' ρ' d v) (f : Fin h R d h')
    (k : ∀ (d : D) (F2 : Hp), Same F F2 → Rel K Θ F2 ρ h H' → RD K F2 ρ d v → R d h → Q v H') : Q v H' := by
  obtain ⟨junk, rfl, f⟩ := f
  have st : ∀ (n : Nat), h.length ≤ n → (h ++ junk).set n none = h ++ junk.set (n - h.length) none := fun n hn => List.set_append_right _ _ hn
  rcases f with ⟨x, rfl, q⟩ | ⟨n, ps, rfl, hn, hx, q⟩ | ⟨n, C, fs, rfl, hn, hx, q⟩
  · cases dv with
    | p dv => exact k _ F' s (r0.back s p r) (.p dv) q
  · cases dv with
    | own dv =>
      obtain ⟨a, u, e1, e2, e3, e4, r2⟩ := r.freeze hx
      rw [dv] at e1; cases e1
      rw [st n hn] at r2
      obtain ⟨vs, rfl, e5⟩ := e4
      exact k _ _ (s.trans (same_new e2)) (r0.back (s.trans (same_new e2)) p r2) (.p (.lst (.of upd_same) e5.pure)) q
  · cases dv with
    | own dv =>
      obtain ⟨a, u, e1, e2, e3, e4, r2⟩ := r.freeze hx
      rw [dv] at e1; cases e1
      rw [st n hn] at r2
      obtain ⟨dx, gs, rfl, e5⟩ := e4
      exact k _ _ (s.trans (same_new e2)) (r0.back (s.trans (same_new e2)) p r2) (.p (.ins upd_same e5.pure)) q
theorem vs_fin {t : TS} {R : D → Hs → Prop} {env : Env'} {h : Hs} (q : VS K Θ t { nx := fun _ h' => Fin h R dN h', rt := Fin h R } env h) : VS K Θ t { nx := fun _ h' => R dN h', rt := R } env h := fun F ρ σ H D' rl e k => by
  refine q F ρ σ H ⟨fun σ' H' => D'.nx σ' H', fun v H' => D'.rt v H', D'.bk, D'.ct⟩ rl e ⟨fun env' h' F' ρ' σ' H' s p r e' f => ?_, fun d h' v F' ρ' H' s p r dv f => ?_, fun _ _ _ _ _ _ _ _ _ _ z => z.elim, fun _ _ _ _ _ _ _ _ _ _ z => z.elim⟩
  · refine fin_run (v := .non) (Q := fun _ H' => D'.nx σ' H') rl s p r (.p .non) f fun d F2 s2 r2 d2 q2 => ?_
    have ed : d = dN ∨ d ≠ dN := by cases d with
      | own i => exact .inr (fun z => by cases z)
      | p x => cases x <;> first | exact .inl rfl | exact .inr (fun z => by cases z)
    obtain ⟨junk, _, f⟩ := f
    have q3 : R dN h := by
      rcases f with ⟨x, ex, q⟩ | ⟨n, ps, ex, _⟩ | ⟨n, C, fs, ex, _⟩
      · cases ex; exact q
      · cases ex
      · cases ex
    refine k.nx (List.replicate σ'.length none) h F2 ρ σ' H' s2 (Pre.refl _) r2 ⟨by simp, fun i d z => ?_⟩ q3
    rw [List.getElem?_replicate] at z
    split at z <;> cases z
  · exact fin_run rl s p r dv f fun d F2 s2 r2 d2 q2 => k.rt d h v F2 ρ H' s2 (Pre.refl _) r2 d2 q2
variable {P : Program} {w : World} {mg : Str → Option Value} {base : Heap} {x : Str} {st : Stmt} {N ps : List Str} {k : Nat}
/-- a def whose body keeps a promise in data -/
theorem DefAt.okD {T : Tbs} (A : DefAt K mg x st ps) (S : FnScope N ps (defScope st)) (W : Spc) (len : ∀ ds h R, W ds h R → ds.length = ps.length)
    (hbody : ∀ (f : Addr) (cdv : Value) (A : Around) (outer : List Env) (s : Shared) (H : Hp) (E : XK), Room k (A.deeper (envOfC x (defScope st) s.heap.objs.size f cdv)) →
      ∃ t, PSs (cxOf CX0 P w K mg base N x (defScope st) f cdv A outer s H E).nox (defBody st) t ∧ ∀ ds h R, W ds h R → VS K (Ctx.plain T) t { nx := fun _ h' => R dN h', rt := R } (startD N ds) h) : HasF P w K mg base CX0 (k + 1) x ps (spD K T W) := by
  refine A.ok S (fun vs H Q E h => ?_) fun f cdv A outer s H vs Q E hr h => ?_
  · obtain ⟨ds, h, F, ρ, R, rl, ra, hw, _⟩ := h
    rw [← ra.len]
    exact len ds h R hw
  · obtain ⟨ds, h, F, ρ, R, rl, ra, hw, kq⟩ := h
    obtain ⟨t, ht, q⟩ := hbody f cdv A outer s H E hr
    refine ⟨t, ht, q ds h R hw F ρ _ H _ rl.plain (renv_start ra) ⟨fun env' h' F' ρ' σ' H' s p r e q => kq dN h' .non F' ρ' H' s p r.toBase (.p .non) q, fun d h' v F' ρ' H' s p r dv q => kq d h' v F' ρ' H' s p r.toBase dv q, fun _ _ _ _ _ _ _ _ _ _ z => z.elim, fun _ _ _ _ _ _ _ _ _ _ z => z.elim⟩⟩
end
end Kb

/-! The rules in the forms that are tried one after the other. -/
namespace Kb
open PySem PySem.Spec PyProof.Rows L2
section
variable {K : PySem.W.Frag} {Θ : Ctx} {env : Env'} {h : Hs} {R : D → Hs → Prop} {x y d : D} {i j : Int}
theorem log2_small {n : Nat} (h : n < 2 ^ 200) : n.log2 < 200 := PySem.Flt.log2_lt_of (by decide) h
theorem cmul_small (hi : i.natAbs < 2 ^ 200) (hj : j.natAbs < 2 ^ 200) : CMulX i j := by
  have h1 := log2_small hi
  have h2 := log2_small hj
  unfold CMulX
  omega
theorem cmul_wide (hi : i.natAbs.log2 < 2000000) (hj : j.natAbs < 2 ^ 200) : CMulX i j := by
  have h2 := log2_small hj
  unfold CMulX
  omega
theorem v2_mul (c : CMulX i j) (q : R (dI (i * j)) h) : V2 K Θ (rI CMulX fun i j => V.int (i * j)) (dI i) (dI j) h R := v2_I (g := fun i j => i * j) c q
theorem v2_mod (c : 0 < j) (q : R (dI (i % j)) h) : V2 K Θ (rI (fun _ j => 0 < j) fun i j => V.int (i % j)) (dI i) (dI j) h R := v2_I (g := fun i j => i % j) c q
theorem v2_div (c : 0 < j ∧ j < 1073741824) (q : R (dI (i / j)) h) : V2 K Θ (rI CDiv fun i j => V.int (i / j)) (dI i) (dI j) h R := v2_I (g := fun i j => i / j) c q
theorem v2_pow (c : 0 ≤ j ∧ j ≤ 1000000 ∧ i.natAbs < 2 ^ 64) (q : R (dI (i ^ j.toNat)) h) : V2 K Θ (rI CPow fun i j => V.int (i ^ j.toNat)) (dI i) (dI j) h R := v2_I (g := fun i j => i ^ j.toNat) c q
theorem v2_sub (q : R (dI (i - j)) h) : V2 K Θ (rI0 fun i j => V.int (i - j)) (dI i) (dI j) h R := v2_I0 (g := fun i j => i - j) q
theorem v2_lt (q : R (dB (decide (i < j))) h) : V2 K Θ (rI0 fun i j => V.bl (decide (i < j))) (dI i) (dI j) h R := v2_B0 (g := fun i j => decide (i < j)) q
theorem v2_le (q : R (dB (decide (i ≤ j))) h) : V2 K Θ (rI0 fun i j => V.bl (decide (i ≤ j))) (dI i) (dI j) h R := v2_B0 (g := fun i j => decide (i ≤ j)) q
theorem v2_gt (q : R (dB (decide (j < i))) h) : V2 K Θ (rI0 fun i j => V.bl (decide (j < i))) (dI i) (dI j) h R := v2_B0 (g := fun i j => decide (j < i)) q
theorem v2_ge (q : R (dB (decide (j ≤ i))) h) : V2 K Θ (rI0 fun i j => V.bl (decide (j ≤ i))) (dI i) (dI j) h R := v2_B0 (g := fun i j => decide (j ≤ i)) q
/-- the test's answer -/
theorem bool_ans {c : Bool} {B : Bool → Prop} (q : B c) : ∃ c', dB c = dB c' ∧ B c' := ⟨c, rfl, q⟩
theorem tru_bl {c : Bool} {h : Hs} {B : Bool → Prop} (q : B c) : ∃ c', TruD (dB c) h c' ∧ B c' := ⟨c, rfl, q⟩
theorem ite_dec {c : Prop} [Decidable c] {A B : Prop} (h1 : c → A) (h2 : ¬ c → B) : if decide c = true then A else B := by
  by_cases h : c
  · rw [decide_eq_true h, if_pos rfl]; exact h1 h
  · rw [decide_eq_false h, if_neg Bool.false_ne_true]; exact h2 h
theorem ite_ndec {c : Prop} [Decidable c] {A B : Prop} (h1 : ¬ c → A) (h2 : c → B) : if (!decide c) = true then A else B := by
  by_cases h : c
  · rw [decide_eq_true h]; exact h2 h
  · rw [decide_eq_false h]; exact h1 h
theorem ite_b {c : Bool} {A B : Prop} (h1 : c = true → A) (h2 : c = false → B) : if c = true then A else B := by
  cases c with
  | true => exact h1 rfl
  | false => exact h2 rfl
theorem ite_nb {c : Bool} {A B : Prop} (h1 : c = false → A) (h2 : c = true → B) : if (!c) = true then A else B := by
  cases c with
  | true => exact h2 rfl
  | false => exact h1 rfl
theorem ite_t {A B : Prop} (h : A) : if true = true then A else B := by rw [if_pos rfl]; exact h
theorem at_nat {α : Type} {xs : List α} {i : Int} {v : α} (n : Nat) (e : i = (n : Int)) (h : xs[n]? = some v) : atI xs i = some v := by
  rw [e]; exact atI_nat h
end
end Kb

/-! sorted(xs, key=f), f a def of the program. -/
namespace Kb
open PySem PySem.Spec PyProof.Rows L2
open PySem.W (dataLe KeyedOut AllAlike Sortable)
section
variable {X : Cx} {pins : List (Addr × Obj)} {σ : L2.St} {H : Hp} {s : Shared}
end
/-! ### in data -/
section
variable {K : PySem.W.Frag} {Θ : Ctx} {env : Env'} {h : Hs} {R : D → Hs → Prop}
end
end Kb

/-! Classes, isinstance, defs that call themselves. -/
namespace Kb
open PySem PySem.Spec PyProof.Rows L2
/-- __init__ of a class, as the top has it -/
structure InitAt (K : PySem.W.Frag) (C : Addr) (qual : Str) (st : Stmt) (ps : List Str) : Prop where
  ex : ∃ f fd, Fun K "__init__" qual st f fd ∧ Mk K C f ∧ Binds K fd ps []
structure HasMk (P : Program) (w : World) (K : PySem.W.Frag) (mg : Str → Option Value) (base : Heap) (CX : CXT) (k : Nat) (x : Str) (C : Addr) (ps : List Str) (sp : Sp) : Prop where
  ex : ∃ f fd, Mk K C f ∧ FnOk P w K mg base CX k f fd ps sp ∧ Binds K fd ps []
  at_ : mg x = some (.ref C)
section
variable {X : Cx} {CX : CXT} {k : Nat} {x m : Str} {C : Addr} {ps : List Str} {sp : Sp} {E : XK} {p pos apos : Pos} {e o : Expr} {es : List Expr} {t : TA} {ta : TE}
theorem HasMk.make (h : HasMk X.prog X.w X.K X.mg X.base CX k x C ps sp) (hr : Room (k + 1) X.A) (hg : Gl X x) (hx : Passes CX X E)
    (ha : PA X (e :: es) t) (hdb : (x == ("__debug__" : Str)) = false := by decide) (he : starEach (e :: es) X.env = (false, eval e X.env) :: starEach es X.env := by rfl) (hpl : (backTo pos (starEach es X.env)).any (·.1) = false := by rfl) :
    PE X (.Call (.Name x p) (e :: es) [] pos) (tMake C sp [] E t) := by
  obtain ⟨f, fd, M, F, hb⟩ := h.ex
  exact pe_make M F hr hg h.at_ hb .nil hx ha hdb he hpl
end
section
variable {Pg : Program} {w : World} {K : PySem.W.Frag} {T : Tbs} {mg : Str → Option Value} {base : Heap} {x m qual : Str} {st : Stmt} {N ps : List Str} {k : Nat} {C : Addr}
theorem fnD {x qual : Str} {f : Addr} {fd : FuncData} (F : Fun K x qual st f fd) (S : FnScope N ps (defScope st)) (W : Spc) (len : ∀ ds h R, W ds h R → ds.length = ps.length)
    (hbody : ∀ (cdv : Value) (A : Around) (outer : List Env) (s : Shared) (H : Hp) (E : XK), Room k (A.deeper (envOfC qual (defScope st) s.heap.objs.size f cdv)) →
      ∃ t, PSs (cxOf CX0 Pg w K mg base N qual (defScope st) f cdv A outer s H E).nox (defBody st) t ∧ ∀ ds h R, W ds h R → VS K (Ctx.plain T) t { nx := fun _ h' => R dN h', rt := R } (startD N ds) h) : FnOk Pg w K mg base CX0 (k + 1) f fd ps (spD K T W) := by
  refine F.ok S (fun vs H Q E h => ?_) fun cdv A outer s H vs Q E hr h => ?_
  · obtain ⟨ds, h, F, ρ, R, rl, ra, hw, _⟩ := h
    rw [← ra.len]
    exact len ds h R hw
  · obtain ⟨ds, h, F, ρ, R, rl, ra, hw, kq⟩ := h
    obtain ⟨t, ht, q⟩ := hbody cdv A outer s H E hr
    exact ⟨t, ht, q ds h R hw F ρ _ H _ rl.plain (renv_start ra) ⟨fun env' h' F' ρ' σ' H' s p r e q => kq dN h' .non F' ρ' H' s p r.toBase (.p .non) q, fun d h' v F' ρ' H' s p r dv q => kq d h' v F' ρ' H' s p r.toBase dv q, fun _ _ _ _ _ _ _ _ _ _ z => z.elim, fun _ _ _ _ _ _ _ _ _ _ z => z.elim⟩⟩
theorem InitAt.okD (A : InitAt K C qual st ps) (hm : mg x = some (.ref C)) (S : FnScope N ps (defScope st)) (W : Spc) (len : ∀ ds h R, W ds h R → ds.length = ps.length)
    (hbody : ∀ (f : Addr) (cdv : Value) (A : Around) (outer : List Env) (s : Shared) (H : Hp) (E : XK), Room k (A.deeper (envOfC qual (defScope st) s.heap.objs.size f cdv)) →
      ∃ t, PSs (cxOf CX0 Pg w K mg base N qual (defScope st) f cdv A outer s H E).nox (defBody st) t ∧ ∀ ds h R, W ds h R → VS K (Ctx.plain T) t { nx := fun _ h' => R dN h', rt := R } (startD N ds) h) : HasMk Pg w K mg base CX0 (k + 1) x C ps (spD K T W) := by
  obtain ⟨f, fd, F, M, hb⟩ := A.ex
  exact ⟨⟨f, fd, M, fnD F S W len (hbody f), hb⟩, hm⟩
/-- a def that nobody may call yet -/
theorem HasF.never (A : DefAt K mg x st ps) (S : FnScope N ps (defScope st)) {W : Spc} (hw : ∀ ds h R, ¬ W ds h R) : HasF Pg w K mg base CX0 (k + 1) x ps (spD K T W) :=
  A.okD S W (fun ds h R q => (hw _ _ _ q).elim) fun f cdv A outer s H E hr => ⟨_, pss_never, fun ds h R q => (hw _ _ _ q).elim⟩
end
section
variable {K : PySem.W.Frag} {Θ : Ctx} {env : Env'} {h : Hs} {R : D → Hs → Prop} {ta : TE} {t : TA} {C : Addr}
/-- the name of the type of what is written data -/
def tyN : P → Option String
  | .non => some "NoneType"
  | .bl _ => some "bool"
  | .int _ => some "int"
  | .str _ => some "str"
  | .tup _ => some "tuple"
  | .ktp _ => some "tuple"
  | .lst _ => some "list"
  | _ => none
def tyD (d : D) (h : Hs) (T : String) : Prop := match d with
  | .p p => tyN p = some T
  | .own i => T = "list" ∧ ∃ xs, h[i]? = some (some (.lst xs))
def isA (a b : String) : Bool := a == b || (a == "bool" && b == "int")
theorem tyD.v {F : Hp} {ρ : List Addr} {H : Hp} {d : D} {v : V} {T : String} (r : Rel K Θ F ρ h H) (q : RD K F ρ d v) (hT : tyD d h T) : TyX K H v (.type T) := by
  cases q with
  | p q =>
    cases q with
    | non => cases hT; exact .base .non
    | bl b => cases hT; exact .base (.bl b)
    | int b => cases hT; exact .base (.int b)
    | str b => cases hT; exact .base (.str b)
    | tup a b =>
      cases hT
      rcases sqT_mono r.same a with (a | ⟨o, a⟩) | ⟨o, its, n, a, c, _⟩
      · exact .base (.tup a)
      · exact .fTuple a
      · exact .kTuple a c
    | ktp a b =>
      cases hT
      rcases a (fun _ => none) with (a | ⟨o, a⟩) | ⟨o, its, n, a, c, _⟩
      · cases a
      · cases a
      · exact .kTuple a c
    | lst a b =>
      cases hT
      rcases r.same.seq a with (a | ⟨o, a⟩) | ⟨o, its, n, a, c, _⟩
      · exact .base (.lst a)
      · exact .base (.frz a)
      · exact .kList a c
    | ins a b => cases hT
    | ty n => cases hT
    | cls n => cases hT
  | own e =>
    obtain ⟨rfl, xs, hx⟩ := hT
    obtain ⟨a, u, e1, e2, e3, vs, e4, _⟩ := r.own _ _ hx
    rw [e] at e1; cases e1
    subst e4
    exact .base (.lst e3)
theorem isA_kit {a b : String} (ha : a ∈ ["NoneType", "bool", "int", "str", "tuple", "list"]) (hb : b ∈ ["bool", "int", "str", "tuple", "list", "dict"]) : PySem.W.kitOne K (.type a) (.type b) = some (isA a b) := by
  refine kit_ty ?_
  have all : ∀ a ∈ ["NoneType", "bool", "int", "str", "tuple", "list"], ∀ b ∈ ["bool", "int", "str", "tuple", "list", "dict"], kitB a b = some (isA a b) := by decide +kernel
  exact all a ha b hb
theorem tyD_mem {d : D} {T : String} (hT : tyD d h T) : T ∈ ["NoneType", "bool", "int", "str", "tuple", "list"] := by
  cases d with
  | p p =>
    cases p <;> first | (cases hT; decide) | cases hT
  | own i => rw [hT.1]; decide
/-- isinstance(x, T) -/
theorem vc_isi {x : D} {T n : String} (hT : tyD x h T) (hn : n ∈ ["bool", "int", "str", "tuple", "list", "dict"]) (q : R (dB (isA T n)) h) : VC K Θ (rIsiU K) [x, .p (.ty n)] h R := fun F ρ H vs Q rl a k => by
  cases a with
  | cons a b =>
    cases b with
    | cons b c =>
      cases c
      cases b with
      | p b =>
        cases b
        exact .inl ⟨_, _, _, _, _, rfl, .ty n, hT.v rl a, isA_kit (tyD_mem hT) hn, k _ h _ F ρ H (Same.refl _) (Pre.refl _) rl (.p (.bl _)) q⟩
/-- isinstance(x, (T, S)) -/
theorem ve_isi2 {m n : String} (q : VE K Θ ta env h fun x h1 => ∃ T, tyD x h1 T ∧ m ∈ ["bool", "int", "str", "tuple", "list", "dict"] ∧ n ∈ ["bool", "int", "str", "tuple", "list", "dict"] ∧ R (dB (isA T m || isA T n)) h1) :
    VE K Θ (tCB (rIsiU K) (tCons ta (tCons (tTup (tCons (tC (.ty m)) (tCons (tC (.ty n)) tNil))) tNil))) env h R := fun F ρ σ H Q rl e k =>
  q F ρ σ H _ rl e fun x h1 vx F1 ρ1 H1 s1 p1 r1 dx q1 => by
    obtain ⟨T, hT, hm, hn, q1⟩ := q1
    refine ⟨by show 2 ≤ sizeLine; exact sz_le (by decide), fun p hp => ?_⟩
    have r2 : Rel K Θ (upd F1 p (.tup [.ty m, .ty n])) ρ1 h1 (upd H1 p (.tup [.ty m, .ty n])) := r1.frz hp
    have sn : Same F1 (upd F1 p (.tup [.ty m, .ty n])) := same_new (r1.free hp)
    refine .inr ⟨vx, p, [.ty m, .ty n], _, [.type m, .type n], isA T m || isA T n, rfl, upd_same, .cons (.ty m) (.cons (.ty n) .nil), hT.v r2 (dx.mono sn (Pre.refl _)), ?_, ?_⟩
    · have e1 := isA_kit (K := K) (tyD_mem hT) hm
      have e2 := isA_kit (K := K) (tyD_mem hT) hn
      refine kitAny_cons e1 (fun z => ?_) fun z => by rw [z]; rfl
      rw [z, Bool.false_or]
      refine kitAny_cons e2 (fun z2 => ?_) fun z2 => z2
      rw [z2]
      rfl
    · exact k _ h1 _ _ ρ1 _ (s1.trans sn) p1 r2 (.p (.bl _)) q1
end
end Kb

/-! What is walked is a list or a tuple; data of bounded depth. -/
namespace Kb
open PySem PySem.Spec PyProof.Rows L2
/-- either kind -/
def iSeq (K : PySem.W.Frag) (tl : TE) : TI := fun σ H R => tl σ H fun x H1 => (∃ a, x = .ref a ∧ (∃ xs, SqL K H1 a xs) ∧ R (Itl K a) H1) ∨ ∃ a, x = .ref a ∧ (∃ xs, SqT K H1 a xs) ∧ R (Itt K a) H1
theorem pi_seq {X : Cx} {tg l : Expr} {tl : TE} (hl : PE X l tl) : PI X tg l (iSeq X.K tl) := by
  refine ⟨fun pins s σ H R I h => ?_⟩
  refine thn (hl.run pins s σ H _ I h) fun v s1 ⟨x, H1, I1, r1, q1⟩ => ?_
  have fin : ∀ b ∈ [s1.heap.objs.size], _ := fun b hb => by
    have e : b = s1.heap.objs.size := by simpa using hb
    subst e
    exact I1.fpOk (Nat.le_refl _) (I1.hok.fresh (Nat.le_refl _))
  rcases q1 with q1 | q1 <;> obtain ⟨a, e, ⟨xs, hq⟩, q⟩ := q1 <;> subst e <;> cases r1
  · obtain ⟨its, rv, p, hz⟩ := I1.list hq
    refine wpAny_pyIter_list p.isList ?_
    exact ⟨s1.heap.objs.size, [s1.heap.objs.size], _, _, H1, rfl, I1.kept (t' := s1.toks) fun b o e => Heap.get?_push_of_some _ e, turn_list a _, ⟨_, Heap.get?_push_size _ rfl, rfl, rfl⟩, fin, q⟩
  · obtain ⟨its, rv, p, hz⟩ := I1.tuple hq
    refine wpAny_pyIter_tuple (show s1.heap.IsTuple a its.toArray from p) ?_
    exact ⟨s1.heap.objs.size, [s1.heap.objs.size], _, _, H1, rfl, I1.kept (t' := s1.toks) fun b o e => Heap.get?_push_of_some _ e, turn_tuple a _, ⟨_, Heap.get?_push_size _ rfl, rfl, rfl⟩, fin, q⟩
section
variable {K : PySem.W.Frag} {Θ : Ctx} {env : Env'} {h : Hs}
theorem vi_seqL {tl : TE} {R : List D → (Hs → Prop) → Hs → Prop} (q : VE K Θ tl env h fun x h1 => ∃ ps, x = dL ps ∧ R (ps.map D.p) (fun _ => True) h1) : VI K Θ (iSeq K tl) env h R := fun F ρ σ H Q rl e k =>
  q F ρ σ H _ rl e fun x h1 vx F1 ρ1 H1 s1 p1 r1 dx q1 => by
    obtain ⟨ps, rfl, q1⟩ := q1
    cases dx with
    | p dx =>
      cases dx with
      | @lst a _ vs ha rp =>
        refine .inl ⟨a, rfl, ⟨vs, r1.same.seq ha⟩, k (ps.map D.p) (fun _ => True) h1 _ F1 ρ1 H1 s1 p1 r1 ⟨fun F' ρ' h' H' s p r _ => ?_, fun i F' ρ' h' H' s p r _ hi => ?_, fun i d F' ρ' h' H' x H2 s p r _ hd hy => ?_⟩ q1⟩
        · exact ⟨vs, r.same.seq (s.seq ha), by rw [List.length_map, rp.len]; exact Nat.le_refl _⟩
        · rw [List.length_map, rp.len] at hi
          exact ⟨vs, vs[i], r.same.seq (s.seq ha), List.getElem?_eq_getElem hi⟩
        · obtain ⟨e1, e2⟩ := hy
          subst e1
          rw [List.getElem?_map] at hd
          cases hp : ps[i]? with
          | none => rw [hp] at hd; cases hd
          | some p0 =>
            rw [hp] at hd; cases hd
            obtain ⟨v, hv, rv⟩ := rp.get hp
            have ev := e2 vs (r.same.seq (s.seq ha))
            rw [hv] at ev; cases ev
            exact ⟨F', Same.refl _, r, .p (rv.mono s)⟩
theorem vi_seqT {tl : TE} {R : List D → (Hs → Prop) → Hs → Prop} (q : VE K Θ tl env h fun x h1 => ∃ ps, x = dT ps ∧ R (ps.map D.p) (fun _ => True) h1) : VI K Θ (iSeq K tl) env h R := fun F ρ σ H Q rl e k =>
  q F ρ σ H _ rl e fun x h1 vx F1 ρ1 H1 s1 p1 r1 dx q1 => by
    obtain ⟨ps, rfl, q1⟩ := q1
    cases dx with
    | p dx =>
      cases dx with
      | @tup a _ vs ha rp =>
        refine .inr ⟨a, rfl, ⟨vs, sqT_mono r1.same ha⟩, k (ps.map D.p) (fun _ => True) h1 _ F1 ρ1 H1 s1 p1 r1 ⟨fun F' ρ' h' H' s p r _ => ?_, fun i F' ρ' h' H' s p r _ hi => ?_, fun i d F' ρ' h' H' x H2 s p r _ hd hy => ?_⟩ q1⟩
        · exact ⟨vs, sqT_mono r.same (sqU_mono s ha), by rw [List.length_map, rp.len]; exact Nat.le_refl _⟩
        · rw [List.length_map, rp.len] at hi
          exact ⟨vs, vs[i], sqT_mono r.same (sqU_mono s ha), List.getElem?_eq_getElem hi⟩
        · obtain ⟨e1, e2⟩ := hy
          subst e1
          rw [List.getElem?_map] at hd
          cases hp : ps[i]? with
          | none => rw [hp] at hd; cases hd
          | some p0 =>
            rw [hp] at hd; cases hd
            obtain ⟨v, hv, rv⟩ := rp.get hp
            have ev := e2 vs (sqT_mono r.same (sqU_mono s ha))
            rw [hv] at ev; cases ev
            exact ⟨F', Same.refl _, r, .p (rv.mono s)⟩
theorem vc_lenL {xs : List P} {R : D → Hs → Prop} (q : R (dI xs.length) h) : VC K Θ (fun xs H Q => ∃ x n, xs = [x] ∧ LenV K x H n ∧ Q (.int n) H) [dL xs] h R := vc_len (n := xs.length) rfl q
theorem vc_lenT {xs : List P} {R : D → Hs → Prop} (q : R (dI xs.length) h) : VC K Θ (fun xs H Q => ∃ x n, xs = [x] ∧ LenV K x H n ∧ Q (.int n) H) [dT xs] h R := vc_len (n := xs.length) rfl q
theorem ite_nrefl {α : Type} [DecidableEq α] {a : α} {A B : Prop} (q : B) : if (!decide (a = a)) = true then A else B := by rw [decide_eq_true (rfl : a = a)]; exact q
theorem ite_refl {α : Type} [DecidableEq α] {a : α} {A B : Prop} (q : A) : if decide (a = a) = true then A else B := by rw [decide_eq_true (rfl : a = a)]; exact q
theorem isi2_i {x : D} {T m n : String} {S : String → Prop} (hT : tyD x h T) (hm : m ∈ ["bool", "int", "str", "tuple", "list", "dict"]) (hn : n ∈ ["bool", "int", "str", "tuple", "list", "dict"]) (q : S T) :
    ∃ T, tyD x h T ∧ m ∈ ["bool", "int", "str", "tuple", "list", "dict"] ∧ n ∈ ["bool", "int", "str", "tuple", "list", "dict"] ∧ S T := ⟨T, hT, hm, hn, q⟩
theorem ite_tt {c : Bool} {A B : Prop} (e : c = true) (q : A) : if c = true then A else B := by rw [if_pos e]; exact q
theorem ite_ff {c : Bool} {A B : Prop} (e : c = false) (q : B) : if c = true then A else B := by rw [e, if_neg Bool.false_ne_true]; exact q
theorem vt_yes {B : Bool → Hs → Prop} (q : B true h) : VT K Θ tYes env h B := fun F ρ σ H Q rl e k => k true h F ρ H (Same.refl _) (Pre.refl _) rl q
end
/-- written data of bounded depth and bounded lengths -/
def okP : Nat → P → Bool
  | _, .non => true
  | _, .bl _ => true
  | _, .int _ => true
  | _, .str s => decide (s.length ≤ 100000)
  | n + 1, .tup xs => decide (xs.length ≤ 100000) && xs.all (okP n)
  | n + 1, .lst xs => decide (xs.length ≤ 100000) && xs.all (okP n)
  | _, _ => false
theorem okP_tup {n : Nat} {xs : List P} (h : okP n (.tup xs) = true) : ∃ m, n = m + 1 ∧ xs.length ≤ 100000 ∧ ∀ x ∈ xs, okP m x = true := by
  cases n with
  | zero => simp [okP] at h
  | succ n =>
    simp only [okP, Bool.and_eq_true, decide_eq_true_eq, List.all_eq_true] at h
    exact ⟨n, rfl, h.1, h.2⟩
theorem okP_lst {n : Nat} {xs : List P} (h : okP n (.lst xs) = true) : ∃ m, n = m + 1 ∧ xs.length ≤ 100000 ∧ ∀ x ∈ xs, okP m x = true := by
  cases n with
  | zero => simp [okP] at h
  | succ n =>
    simp only [okP, Bool.and_eq_true, decide_eq_true_eq, List.all_eq_true] at h
    exact ⟨n, rfl, h.1, h.2⟩
end Kb

/-! sum of a list or a tuple; fields; more steps. -/
namespace Kb
open PySem PySem.Spec PyProof.Rows L2
section
variable {prog : Program} {w : World} {A : Around} {E : Value → Shared → Prop} {s : Shared} {l : Addr} {its : List Value} {ns : List Int} {Q : Value → Shared → Prop}
end
section
variable {X : Cx}
end
section
variable {K : PySem.W.Frag} {Θ : Ctx} {env : Env'} {h : Hs} {R : D → Hs → Prop}
class IsPs (xs : List D) (ps : outParam (List P)) : Prop where
  eq : xs = ps.map D.p
instance : IsPs [] [] := ⟨rfl⟩
instance {x : P} {ds : List D} {ps : List P} [h : IsPs ds ps] : IsPs (.p x :: ds) (x :: ps) := ⟨by rw [h.eq]; rfl⟩
theorem tup_j {S : List P → Prop} {xs : List D} {ps : List P} [ex : IsPs xs ps] (hl : Nat.ble xs.length 100000 = true) (q : S ps) : ∃ ps, xs = ps.map D.p ∧ xs.length ≤ sizeLine ∧ S ps := ⟨ps, ex.eq, sz_le (Nat.le_of_ble_eq_true hl), q⟩
end
end Kb

/-! The rules with the kit's part named: they serve in the block of a comprehension too. -/
namespace Kb
open PySem PySem.Spec PyProof.Rows L2
section
variable {X : Cx} {K : PySem.W.Frag}
theorem op_eqUK (hK : X.K = K) (hu : X.A.units + 64 < cLine) : OpR X (compareOp .Eq) (rEqU K) := hK ▸ op_eqU hu
theorem op_neUK (hK : X.K = K) (hu : X.A.units + 64 < cLine) : OpR X (compareOp .NotEq) (rNeU K) := hK ▸ op_neU hu
theorem op_inUK (hK : X.K = K) : OpR X (compareOp .In) (rInU K) := hK ▸ op_inU
theorem op_ninUK (hK : X.K = K) : OpR X (compareOp .NotIn) (rNiU K) := hK ▸ op_ninU
theorem ix_seqK (hK : X.K = K) : IxR X (rIx K) := hK ▸ ix_seq
theorem sl_listK (hK : X.K = K) : SlR X (rSlL K) := hK ▸ sl_list
theorem call_lenK (hK : X.K = K) : CallR X (.builtin "len") (fun xs H Q => ∃ x n, xs = [x] ∧ LenV K x H n ∧ Q (.int n) H) := hK ▸ call_len
theorem call_isiUK (hK : X.K = K) : CallR X (.builtin "isinstance") (rIsiU K) := hK ▸ call_isiU
theorem call_list_ofK (hK : X.K = K) : CallR X (.type "list") (fun xs H Q => ∃ p ys, xs = [.ref p] ∧ (SqL K H p ys ∨ SqT K H p ys) ∧ ∀ l, H l = none → Q (.ref l) (upd H l (.lst ys))) := hK ▸ call_list_of
theorem call_tuple_ofK (hK : X.K = K) : CallR X (.type "tuple") (fun xs H Q => ∃ p ys, xs = [.ref p] ∧ ((SqL K H p ys ∧ ∀ l, H l = none → Q (.ref l) (upd H l (.tup ys))) ∨ (SqT K H p ys ∧ Q (.ref p) H))) := hK ▸ call_tuple_of
theorem pi_seqK {tg l : Expr} {tl : TE} (hK : X.K = K) (hl : PE X l tl) : PI X tg l (iSeq K tl) := hK ▸ pi_seq hl
theorem pe_fldK {e : Expr} {ta : TE} {f : Str} {pos : Pos} (hK : X.K = K) (he : PE X e ta) (hb : attributeBase e f X.env (eval e X.env) = eval e X.env) : PE X (.Attribute e f pos) (tFld K ta f) := hK ▸ pe_fld he hb
end
section
variable {K : PySem.W.Frag} {Θ : Ctx} {env : Env'} {h : Hs} {E : En} {t1 t2 : TS}
/-- what is known between two statements -/
theorem vs_cut (I : Env' → Hs → Prop) (q : VS K Θ t1 { E with nx := I } env h) (k : ∀ env' h', I env' h' → VS K Θ t2 E env' h') : VS K Θ (tSeq t1 t2) E env h :=
  vs_seq (VS.imp q k (fun _ _ x => x) (fun _ _ x => x) fun _ _ x => x)
end
end Kb

/-! Keys of three numbers; lists of pairs of numbers; membership. -/
namespace Kb
open PySem PySem.Spec PyProof.Rows L2
open PySem.W (dataLe dataLt AllAlike Sortable)
section
variable {K : PySem.W.Frag} {Θ : Ctx} {h : Hs} {R : D → Hs → Prop}
theorem inV_ints {x : Int} : ∀ {ns : List Int}, inV (.int x) (ns.map V.int) = decide (x ∈ ns)
  | [] => rfl
  | n :: ns => by
    have ih := inV_ints (x := x) (ns := ns)
    unfold inV at ih ⊢
    rw [List.map_cons, List.any_cons, ih]
    show ((n == x) || _) = _
    by_cases e : n = x
    · simp [e]
    · simp [e, Ne.symm e]
end
end Kb

/-! From what the top has written to the defs; from the def of the law to its row. -/
namespace Kb
open PySem PySem.Spec PyProof.Rows L2
section
variable {K : PySem.W.Frag} {Θ : Ctx} {h : Heap} {mg : Str → Option Value} {x m qual : Str} {st : Stmt} {ps : List Str} {f C : Addr} {oc : Value} {od an : Option Addr} {osl : Array (Option Value)} {kV doc pm cdv ct : Value}
theorem defAt_mk (X : K.In h) (G : h.Ns mainGlobals mg) (hb : ∀ (kV doc pm : Value) (an : Option Addr) (cdv ct : Value) (us : List Value), us.length = ps.length → bindArgs (PySem.W.fnOf x x (defArgs st) (defBody st) (defScope st) .none kV doc pm an cdv ct) ⟨us, []⟩ = pure (ps.zip us))
    (a : PySem.W.nsIn K mainGlobals x = some (some (.ref f))) (l : K.lookup f = some ⟨oc, od, .func (PySem.W.fnOf x x (defArgs st) (defBody st) (defScope st) .none kV doc pm an cdv ct), osl⟩) (c : PySem.W.codeIn K cdv x = true) (k : PySem.W.keepIn K (.ref f) = true) : DefAt K mg x st ps :=
  have F := fun_mk (st := st) l c k
  ⟨f, _, F, PySem.W.mg_of X G a, F.binds hb⟩
theorem initAt_mk (hb : ∀ (kV doc pm : Value) (an : Option Addr) (cdv ct : Value) (us : List Value), us.length = ps.length → bindArgs (PySem.W.fnOf "__init__" qual (defArgs st) (defBody st) (defScope st) .none kV doc pm an cdv ct) ⟨us, []⟩ = pure (ps.zip us))
    (a : PySem.W.findIn K (.ref C) "__init__" = some (some (.ref f))) (i : PySem.W.isFn K (.ref f) = true) (l : K.lookup f = some ⟨oc, od, .func (PySem.W.fnOf "__init__" qual (defArgs st) (defBody st) (defScope st) .none kV doc pm an cdv ct), osl⟩) (c : PySem.W.codeIn K cdv qual = true) (k : PySem.W.keepIn K (.ref f) = true)
    (mk : PySem.W.makesIn K C = true) (kc : PySem.W.keepIn K (.ref C) = true) : InitAt K C qual st ps :=
  have F := fun_mk (st := st) l c k
  ⟨f, _, F, ⟨mk, a, i, kc⟩, F.binds hb⟩
end
theorem bits_log {z : Int} (h : Builtin.Int.intBits z ≤ 1048576) : z.natAbs.log2 < 2000000 := by
  unfold Builtin.Int.intBits at h
  split at h
  · rename_i e
    have : z = 0 := by simpa using e
    subst this
    decide
  · omega
/-- the law's promise at its own call; Θ: the tables -/
theorem spD_start {K : PySem.W.Frag} {T : Tbs} {W : Spc} {H : Hp} {a : Addr} {ns : List Int} {E : XK} (hT : ∀ P ∈ T, H P = some (.tbl #[])) (hL : ∀ p ∈ T.l, H p.1 = some (.tbl #[])) (sq : SqL K H a (ns.map V.int)) (w : W [dL (ns.map P.int)] [] fun d _ => d = dB true) : spD K T W [.ref a] H (fun v _ => v = .bl true) E := by
  refine ⟨[dL (ns.map P.int)], [], fun b => if b ∈ T.g ∨ b ∈ T.l.map (·.1) then none else H b, [], fun d _ => d = dB true, ⟨fun b o e => ?_, rfl, fun i o h => by simp at h, fun i j o u a h => by simp at h, fun P hP => ⟨if_pos (.inl hP), #[], hT P hP, trivial⟩, fun p hp => ⟨if_pos (.inr (List.mem_map_of_mem hp)), LamX.TabS.nil (hL p hp)⟩⟩, .cons (.p (.lst ?_ (RPs.of_ints ns))) .nil, w, fun d h' v F' ρ' H' s p r dv e => ?_⟩
  · by_cases hb : b ∈ T.g ∨ b ∈ T.l.map (·.1)
    · have e' := (if_pos hb).symm.trans e
      cases e'
    · exact (if_neg hb).symm.trans e
  · have na : ∀ u, H a = some u → (∀ q, u ≠ .tbl q) → ¬(a ∈ T.g ∨ a ∈ T.l.map (·.1)) := fun u e n hm => by
      rcases hm with hm | hm
      · rw [hT a hm] at e
        exact n _ (Option.some.inj e).symm
      · obtain ⟨p, hp, rfl⟩ := List.mem_map.mp hm
        rw [hL p hp] at e
        exact n _ (Option.some.inj e).symm
    rcases sq with (q | ⟨o, q⟩) | q
    · exact .inl (.inl ((if_neg (na _ q fun _ z => by cases z)).trans q))
    · exact .inl (.inr ⟨o, (if_neg (na _ q fun _ z => by cases z)).trans q⟩)
    · exact .inr q
  · subst e
    exact dv.bl
/-- the end of a law without tables -/
theorem walkD {l : PySem.W.OpenLaw} {k : Nat} {q : Program} {loose : List Str} {XP : (Str → Option Value) → Heap → Prop} {YP : World → Heap → Prop} {d : DefRec} {K : Params → PySem.W.Frag} {W : Spc}
    (hn : l.most = some 63) (hdf : d.params.defaults = []) (hr : Room k callerA) (hY : ∀ (w : World) (h : Heap), YP w h → (K w.params).In h)
    (hW : ∀ ns : List Int, ns.length ≤ 63 → (∀ n ∈ ns, n.natAbs.log2 < 2000000) → W [dL (ns.map P.int)] [] fun d _ => d = dB true)
    (F : ∀ (w : World) (mg : Str → Option Value) (fa : Addr) (h : Heap), (K w.params).In h → h.Ns mainGlobals mg → mg d.name = some (.ref fa) →
      ∃ fd : FuncData, (∀ (s : Shared) (u : Value), BindsTo s fd ⟨[u], []⟩ [("script", u)]) ∧ ∀ base : Heap, (K w.params).In base → base.Ns mainGlobals mg → FnOk l.prog w (K w.params) mg base CX0 k fa fd ["script"] (spD (K w.params) (Tbs.of []) W)) :
    PySem.W.WalkO q loose XP YP l.row.toRowW d [] (fun f vs => PySem.call f vs) :=
  L2.walk_ofB (n := 63) (k := k) (x := "script") (CX := fun _ => CX0) (sp := fun w => spD (K w.params) (Tbs.of []) W) hn (by decide) hdf hr hY F
    (fun w H a ns hl hb _ hS => spD_start (fun P hP => absurd (show P ∈ ([] : List Addr) from hP) (by simp)) (fun p hp => by simp at hp) hS (hW ns hl fun n hm => bits_log (hb n hm))) fun _ _ _ _ _ z => z
end Kb

/-! any, all of a generator expression whose test may call defs: the generator's turns. -/
namespace Gx
open PySem PySem.Spec PyProof.Rows L2 GenW
section
variable {X : Cx} {Ag : Around} {elt tg iter : Expr} {scope : Scope} {gpos : Pos} {it : Addr} {fp : List Addr} {tn : Nat → Heap → Prop} {J : It} {g : TG} {te : TE} {vs : List Nat} {pins : List (Addr × Obj)} {σw : L2.St} {W : Nat → Hp → Prop} {N : Nat} {tr : Nat → Bool}
end
end Gx

/-! any, all: they ask the generator. -/
namespace Gx
open PySem PySem.Spec PyProof.Rows L2 GenW
section
variable {X : Cx} {A : Around} {fp : List Addr} {tn : Nat → Heap → Prop} {pins : List (Addr × Obj)} {σw : L2.St} {W : Nat → Hp → Prop} {N : Nat} {tr : Nat → Bool} {a : Addr} {g : Nat} {R : Result → Shared → Prop}
end
end Gx

/-! The context in which a generator expression's test runs. -/
namespace Gx
open PySem PySem.Spec PyProof.Rows L2 GenW
section
variable {X : Cx} {pins0 : List (Addr × Obj)} {σ : L2.St} {H : Hp} {s : Shared} {scope : Scope} {own : List (Str × Nat)} {fp : List Addr} {A : Around} {code : Value} {h' : Heap} {tk : Nat} {gs : Array GenState} {itv : Value} {gob : Obj}
end
end Gx

/-! any(test for x in xs), all(..): the rules. -/
namespace Gx
open PySem PySem.Spec PyProof.Rows L2 GenW GxR
section
variable {X : Cx} {pins : List (Addr × Obj)} {σ : L2.St} {H : Hp} {s : Shared} {elt tg iter : Expr} {scope : Scope} {gpos : Pos} {own : List (Str × Nat)} {wi : TI} {g : TG} {te : TE} {c P : Addr} {k : Nat}
end
end Gx

/-! any(test for x in xs), all(..) in data. -/
namespace Kb
open PySem PySem.Spec PyProof.Rows L2 Gx GxR
section
variable {K : PySem.W.Frag} {Θ : Ctx} {env : Env'} {h : Hs} {R : D → Hs → Prop}
end
end Kb

/-! any, all of a generator expression in data. -/
namespace Kb
open PySem PySem.Spec PyProof.Rows L2 Gx GxR
section
variable {K : PySem.W.Frag} {Θ : Ctx} {env : Env'} {h : Hs} {R : D → Hs → Prop}
end
end Kb

/-! Defs whose code object is known by address; the end with tables, by what the top's text says of them. -/
namespace Kb
open PySem PySem.Spec PyProof.Rows L2
section
variable {K : PySem.W.Frag} {Θ : Ctx} {h : Heap} {mg : Str → Option Value} {x : Str} {st : Stmt} {ps : List Str} {f c : Addr} {oc : Value} {od an : Option Addr} {osl : Array (Option Value)} {kV doc pm ct : Value}
variable {P : Program} {w : World} {base : Heap} {N : List Str} {k : Nat}
end
end Kb

/-! Comprehensions with two sources, in data. -/
namespace Kb
open PySem PySem.Spec PyProof.Rows L2
section
variable {K : PySem.W.Frag} {Θ : Ctx} {env : Env'} {h : Hs} {R : D → Hs → Prop}
end
end Kb

/-! zip of two sequences; a tuple as a target, K named. -/
namespace Kb
open PySem PySem.Spec PyProof.Rows L2 RZ
section
variable {X : Cx} {K : PySem.W.Frag}
theorem pg_tupK {es : List Expr} {k : Nat} {t : TGs} {n : Nat} {pos : Pos} (hK : X.K = K) (hc : X.calm = true) (h : PGs X es t)
    (hn : (assignEach es X.env).length = n := by rfl) (hst : (assignEach es X.env).findIdx? (·.1) = none := by rfl) : PG X (.Tuple es k pos) (gTup K n t) := hK ▸ pg_tup hc h hn hst
end
section
variable {K : PySem.W.Frag} {Θ : Ctx} {env : Env'} {h : Hs}
end
end Kb

/-! xs[i] op= e; comprehensions whose turns change what is owned; more operators. -/
namespace Kb
open PySem PySem.Spec PyProof.Rows L2
section
variable {X : Cx}
theorem pget_list : PGet X (rIxL X.K) := by
  intro pins s σ H o i ov iv Q I ro ri h
  obtain ⟨p, xs, i, z, rfl, rfl, hq, he, q⟩ := h
  cases ro
  obtain ⟨t, rfl⟩ := ri
  obtain ⟨its, r, pl, hz⟩ := I.list hq
  obtain ⟨j, h1, h2, h3, h4, h5⟩ := atI_get he
  obtain ⟨w, ew, rw'⟩ := r.get h2
  have hl := r.length
  have hn := line63
  have fin : EP X pins σ Q w s := ⟨z, H, I, rw', q⟩
  by_cases h0 : 0 ≤ i
  · have hj : i.toNat = j := by
      rw [seqIndex_of h0 h5] at h1
      exact Option.some.inj h1
    exact wpAny_getItem_list pl.isList h0 (by omega) (by rw [hj]; simpa using ew) fin
  · have hj : (i + (its.toArray.size : Int)).toNat = j := by
      rw [seqIndex_neg (by omega) h4] at h1
      rw [List.size_toArray, ← hl]
      exact Option.some.inj h1
    exact wpAny_getItem_list_neg pl.isList (by omega) (by rw [List.size_toArray] <;> omega) (by omega) (by rw [hj]; simpa using ew) fin
theorem pget_listK {K : PySem.W.Frag} (hK : X.K = K) : PGet X (rIxL K) := hK ▸ pget_list
end
section
variable {K : PySem.W.Frag} {Θ : Ctx} {env : Env'} {h : Hs} {R : D → Hs → Prop} {E : En}
/-- xs[i] op= e, the list owned; e changes nothing -/
theorem vs_augS {to ti te : TE} {tip : TIp} (q : VE K Θ to env h fun o h1 => VE K Θ ti env h1 fun i h2 => ∃ n z xs j d0, o = .own n ∧ i = dI z ∧ h2[n]? = some (some (.lst xs)) ∧ ixN xs.length z = some j ∧ xs[j]? = some d0 ∧
    VE K Θ te env h2 fun y h3 => h3 = h2 ∧ V2 K Θ tip d0 y h3 fun w h4 => h4 = h3 ∧ E.nx env (h4.set n (some (.lst (xs.set j w))))) : VS K Θ (tAugS to ti te (rIxL K) tip rSetL) E env h := fun F ρ σ H D' rl e k =>
  q F ρ σ H _ rl e fun o h1 vo F1 ρ1 H1 s1 p1 r1 dlo q1 => q1 F1 ρ1 σ H1 _ r1 (e.mono s1 p1) fun i h2 vi F2 ρ2 H2 s2 p2 r2 di q2 => by
    obtain ⟨n, z, xs, j, d0, rfl, rfl, hx, hj, hd, q2⟩ := q2
    obtain rfl := di.int
    cases dlo with
    | own ho =>
      have ho' := p2 _ _ ho
      obtain ⟨a, u, e1, e2, e3, vs, e4, e5⟩ := r2.own _ _ hx
      rw [ho'] at e1; cases e1
      subst e4
      have hat : atI xs z = some d0 := by unfold atI; rw [hj]; exact hd
      obtain ⟨v0, g1, g2⟩ := e5.at_ hat
      refine ⟨_, vs, z, v0, rfl, rfl, .of e3, g1, ?_⟩
      refine q2 F2 ρ2 σ H2 _ r2 (e.mono (s1.trans s2) (p1.trans p2)) fun y h3 vy F3 ρ3 H3 s3 p3 r3 dy q3 => ?_
      obtain ⟨rfl, q3⟩ := q3
      refine q3 F3 ρ3 H3 v0 vy _ r3 (g2.mono s3 p3) dy fun w h4 vw F4 ρ4 H4 s4 p4 r4 dw q4 => ?_
      obtain ⟨rfl, q4⟩ := q4
      have ho4 := p4 _ _ (p3 _ _ ho')
      obtain ⟨a4, u4, f1, f2, f3, vs4, f4, f5⟩ := r4.own _ _ hx
      rw [ho4] at f1; cases f1
      subst f4
      refine ⟨_, vs4, z, j, rfl, rfl, f3, by rw [← f5.len]; exact hj, ?_⟩
      exact k.nx env _ F4 ρ4 σ _ (s1.trans (s2.trans (s3.trans s4))) (p1.trans (p2.trans (p3.trans p4))) (r4.put (o' := .lst (xs.set j w)) hx ho4 ⟨_, rfl, f5.set dw j⟩) (e.mono (s1.trans (s2.trans (s3.trans s4))) (p1.trans (p2.trans (p3.trans p4)))) q4
/-! ### what is owned names only what is older -/
def lowD (n : Nat) : D → Prop
  | .p _ => True
  | .own i => i < n
def lowO (n : Nat) : OO → Prop
  | .lst xs => ∀ x ∈ xs, lowD n x
  | .ins _ fs => ∀ q ∈ fs, lowD n q.2
  | .dK kvs => ∀ q ∈ kvs, lowD n q.2
  | .dT kvs => ∀ q ∈ kvs, lowD n q.2
  | .dN _ kvs => ∀ q ∈ kvs, lowD n q.2
  | .dL _ _ _ kvs => ∀ q ∈ kvs, lowD n q.2
/-- what stands there was there, or names only what is older -/
def lowH (h1 h : Hs) : Prop := ∀ (i : Nat) (o : OO), h[i]? = some (some o) → h1[i]? = some (some o) ∨ lowO h1.length o
theorem lowH.refl (h : Hs) : lowH h h := fun _ _ e => .inl e
theorem lowH.set {h1 h : Hs} {n : Nat} {o : OO} (l : lowH h1 h) (lo : lowO h1.length o) : lowH h1 (h.set n (some o)) := fun i u e => by
  by_cases hi : n = i
  · subst hi
    have hl : n < h.length := by
      have := (List.getElem?_eq_some_iff.mp e).1
      rwa [List.length_set] at this
    rw [List.getElem?_set_self hl] at e
    cases e
    exact .inr lo
  · rw [List.getElem?_set_ne hi] at e
    exact l i u e
theorem RD.low {F : Hp} {ρ : List Addr} {p : Addr} {d : D} {v : V} (l : lowD ρ.length d) (b : RD K F (ρ ++ [p]) d v) : RD K F ρ d v := by
  cases b with
  | p b => exact .p b
  | own b =>
    have hl : _ < ρ.length := l
    rw [List.getElem?_append_left hl] at b
    exact .own b
theorem RA.low' {F : Hp} {ρ : List Addr} {p : Addr} {ds : List D} {vs : List V} (b : RA K F (ρ ++ [p]) ds vs) : (∀ x ∈ ds, lowD ρ.length x) → RA K F ρ ds vs := by
  induction b with
  | nil => exact fun _ => .nil
  | cons b _ ih => exact fun l => .cons (b.low (l _ List.mem_cons_self)) (ih fun x hx => l x (List.mem_cons_of_mem _ hx))
theorem RF.low' {F : Hp} {ρ : List Addr} {p : Addr} {ds : List (Str × D)} {vs : List (Str × V)} (b : RF K F (ρ ++ [p]) ds vs) : (∀ x ∈ ds, lowD ρ.length x.2) → RF K F ρ ds vs := by
  induction b with
  | nil => exact fun _ => .nil
  | cons b _ ih => exact fun l => .cons (b.low (l _ List.mem_cons_self)) (ih fun x hx => l x (List.mem_cons_of_mem _ hx))
theorem RK.low' {κ : Type} {F : Hp} {ρ : List Addr} {p : Addr} {ds : List (κ × D)} {vs : List (κ × V)} (b : RK K F (ρ ++ [p]) ds vs) : (∀ x ∈ ds, lowD ρ.length x.2) → RK K F ρ ds vs := by
  induction b with
  | nil => exact fun _ => .nil
  | cons b _ ih => exact fun l => .cons (b.low (l _ List.mem_cons_self)) (ih fun x hx => l x (List.mem_cons_of_mem _ hx))
theorem RO.low' {a : Addr} {F : Hp} {ρ : List Addr} {p : Addr} {o : OO} {u : HO} (l : lowO ρ.length o) (b : RO K a F (ρ ++ [p]) o u) : RO K a F ρ o u := by
  cases o with
  | lst xs =>
    obtain ⟨vs, e, r⟩ := b
    exact ⟨vs, e, r.low' l⟩
  | ins C fs =>
    obtain ⟨dx, gs, e, r⟩ := b
    exact ⟨dx, gs, e, r.low' l⟩
  | dK kvs =>
    obtain ⟨gs, e, r⟩ := b
    exact ⟨gs, e, r.low' l⟩
  | dT kvs =>
    obtain ⟨gs, e, r⟩ := b
    exact ⟨gs, e, r.low' l⟩
  | dN pw kvs =>
    obtain ⟨gs, e, q, r⟩ := b
    exact ⟨gs, e, q, r.low' fun x hx => by
      obtain ⟨y, hy, rfl⟩ := List.mem_map.mp hx
      exact l y hy⟩
  | dL pw od gs kvs =>
    obtain ⟨e, q, r⟩ := b
    exact ⟨e, q, r.low' fun x hx => by
      obtain ⟨y, hy, rfl⟩ := List.mem_map.mp hx
      exact l y hy⟩
abbrev accO (acc : List P) : Option OO := some (.lst (acc.map D.p))
theorem lcI_run {wi : TI} {g : TG} {tt : TT} {te : TE} {vs : List Nat} (tg : TgOk g vs) {F : Hp} {ρ : List Addr} {σ : L2.St} {H1 : Hp} {ds : List D} {C : Hs → Prop} {h1 : Hs} {J : It} (Q : VK) (Inv : Nat → List P → Hs → Prop)
    (r1 : Rel K Θ F ρ h1 H1) (e : REnv K F ρ env σ) (it : ItOk K Θ F ρ C ds J) (hl : ds.length < sizeLine) (i0 : Inv 0 [] h1)
    (hI : ∀ i acc h', Inv i acc h' → h'.length = h1.length ∧ lowH h1 h' ∧ C (h' ++ [accO acc]))
    (turn : ∀ i d acc h', ds[i]? = some d → Inv i acc h' → VG K Θ g d (wipeD env vs) (h' ++ [accO acc]) fun env' h2 => VT K Θ tt env' h2 fun b h3 => if b = true then VE K Θ te env' h3 (fun y h4 => ∃ p h5, y = .p p ∧ h4 = h5 ++ [accO acc] ∧ Inv (i + 1) (acc ++ [p]) h5) else ∃ h5, h3 = h5 ++ [accO acc] ∧ Inv (i + 1) acc h5)
    (fin : ∀ (p : Addr) (F' : Hp) (us : List V) (H : Hp) (acc : List P) (h' : Hs), Same F F' → F' p = none → H p = some (.lst us) → H1 p = none → Inv ds.length acc h' → Rel K Θ F' (ρ ++ [p]) (h' ++ [accO acc]) H → RPs K F' acc us → Rel K Θ F' ρ h' H → Q (.ref p) H) :
    ∀ D, H1 D = none → ∃ W : Nat → Nat → Hp → Prop, (∃ m, W 0 m (upd H1 D (.lst []))) ∧ ∀ i m H, W i m H → (J.stop i H ∧ Q (.ref D) H) ∨
      (J.go i H ∧ ∃ Nx : Hp → Prop, (∀ H', Nx H' → ∃ m', m' < m ∧ W (i + 1) m' H') ∧ ∀ x H', J.yld i H x H' → g x (wipe σ vs) H' fun σ2 H2 => wipe σ2 vs = wipe σ vs ∧ tt σ2 H2 fun b H3 => if b = true then te σ2 H3 fun y H4 => ∃ acc, H4 D = some (.lst acc) ∧ acc.length < sizeLine ∧ Nx (upd H4 D (.lst (acc ++ [y]))) else Nx H3) := by
  intro p hp
  refine ⟨fun i m H => m = ds.length - i ∧ i ≤ ds.length ∧ ∃ F' acc h', Same F F' ∧ acc.length ≤ i ∧ Inv i acc h' ∧ Rel K Θ F' (ρ ++ [p]) (h' ++ [accO acc]) H, ⟨ds.length, by simp, Nat.zero_le _, F, [], h1, Same.refl _, Nat.le_refl _, i0, r1.push (o := .lst []) hp ⟨[], rfl, .nil⟩⟩, ?_⟩
  rintro i m H ⟨rfl, hi, F', acc, h', s, hacc, iv, r⟩
  obtain ⟨hlen, hlow, hC⟩ := hI i acc h' iv
  have hpl : (ρ ++ [p])[h1.length]? = some p := by rw [← r1.len]; simp
  have got : ∀ (F' : Hp) (H : Hp) (h' : Hs) (xs : List P), h'.length = h1.length → Rel K Θ F' (ρ ++ [p]) (h' ++ [accO xs]) H → ∃ us, H p = some (.lst us) ∧ F' p = none ∧ RPs K F' xs us := fun F' H h' xs el r => by
    obtain ⟨a, u, e1, e2, e3, us, e4, e5⟩ := r.own h1.length (.lst (xs.map D.p)) (by rw [← el]; simp)
    rw [hpl] at e1; cases e1
    subst e4
    exact ⟨us, e3, e2, e5.pure⟩
  by_cases hlt : i < ds.length
  · refine .inr ⟨it.go i F' (ρ ++ [p]) _ H s (Pre.push _ _) r hC hlt, fun H' => ∃ F2 acc2 h2, Same F F2 ∧ acc2.length ≤ i + 1 ∧ Inv (i + 1) acc2 h2 ∧ Rel K Θ F2 (ρ ++ [p]) (h2 ++ [accO acc2]) H', fun H' ⟨F2, acc2, h2, s2, l2, iv2, r2⟩ => ⟨ds.length - (i + 1), by omega, rfl, hlt, F2, acc2, h2, s2, l2, iv2, r2⟩, fun x H' hy => ?_⟩
    have hd : ds[i]? = some ds[i] := List.getElem?_eq_getElem hlt
    obtain ⟨F2, s2, r2, dx⟩ := it.yld i _ F' (ρ ++ [p]) _ H x H' s (Pre.push _ _) r hC hd hy
    refine tg x σ H' _ ?_
    refine turn i _ acc h' hd iv F2 (ρ ++ [p]) (wipe σ vs) H' x _ r2 ((e.mono (s.trans s2) (Pre.push _ _)).wipes vs) dx fun env3 h3 F3 ρ3 σ3 H3 s3 p3 r3 e3 q3 => ?_
    refine q3 F3 _ σ3 H3 _ r3 e3 fun b h4 F4 ρ4 H4 s4 p4 r4 q4 => ?_
    have ss : Same F F4 := s.trans (s2.trans (s3.trans s4))
    cases b with
    | true =>
      rw [if_pos rfl] at q4 ⊢
      refine q4 F4 _ σ3 H4 _ r4 (e3.mono s4 p4) fun y h5 v F5 ρ5 H5 s5 p5 r5 dv q5 => ?_
      obtain ⟨pp, h6, rfl, rfl, iv6⟩ := q5
      obtain ⟨hlen6, hlow6, hC6⟩ := hI _ _ _ iv6
      have eρ : ρ5 = ρ ++ [p] := pre_eq (p3.trans (p4.trans p5)) (by rw [r5.len, List.length_append, List.length_append, hlen6, r1.len]; rfl)
      subst eρ
      obtain ⟨us, g1, g2, g3⟩ := got F5 H5 h6 _ hlen6 r5
      refine ⟨us, g1, ?_, F5, acc ++ [pp], h6, ss.trans s5, ?_, iv6, ?_⟩
      · rw [← g3.len]; omega
      · rw [List.length_append]; exact Nat.succ_le_succ hacc
      · have z := r5.put (i := h1.length) (o := .lst (acc.map D.p)) (o' := .lst ((acc ++ [pp]).map D.p)) (by rw [← hlen6]; simp) hpl ⟨us ++ [v], rfl, by
          rw [List.map_append]
          exact g3.data.append (.cons dv .nil)⟩
        rw [← hlen6, List.set_append_right _ _ (Nat.le_refl _), Nat.sub_self] at z
        exact z
    | false =>
      rw [if_neg Bool.false_ne_true] at q4 ⊢
      obtain ⟨h6, rfl, iv6⟩ := q4
      obtain ⟨hlen6, hlow6, hC6⟩ := hI _ _ _ iv6
      have eρ : ρ4 = ρ ++ [p] := pre_eq (p3.trans p4) (by rw [r4.len, List.length_append, List.length_append, hlen6, r1.len]; rfl)
      subst eρ
      exact ⟨F4, acc, h6, ss, Nat.le_succ_of_le hacc, iv6, r4⟩
  · have ei : i = ds.length := by omega
    subst ei
    refine .inl ⟨it.stop F' (ρ ++ [p]) _ H s (Pre.push _ _) r hC, ?_⟩
    obtain ⟨us, g1, g2, g3⟩ := got F' H h' _ hlen r
    refine fin p F' us H acc h' s g2 g1 hp iv r g3 (r.pop (by rw [r1.len, hlen]) (r1.wish.mono s (Pre.refl _)) fun i o a hi ha u q => ?_)
    rcases hlow i o hi with z | z
    · obtain ⟨a0, u0, f1, f2, f3, f4⟩ := r1.own i o z
      rw [ha] at f1; cases f1
      exact f4.low q
    · exact q.low' (by rw [r1.len]; exact z)
/-- [..]: a new list that stays; the turns may change what is owned -/
theorem ve_lcI {wi : TI} {g : TG} {tt : TT} {te : TE} {vs : List Nat} (tg : TgOk g vs)
    (q : VI K Θ wi env h fun ds C h1 => ∃ Inv : Nat → List P → Hs → Prop, ds.length < sizeLine ∧ Inv 0 [] h1 ∧ (∀ i acc h', Inv i acc h' → h'.length = h1.length ∧ lowH h1 h' ∧ C (h' ++ [accO acc])) ∧
      (∀ i d acc h', ds[i]? = some d → Inv i acc h' → VG K Θ g d (wipeD env vs) (h' ++ [accO acc]) fun env' h2 => VT K Θ tt env' h2 fun b h3 => if b = true then VE K Θ te env' h3 (fun y h4 => ∃ p h5, y = .p p ∧ h4 = h5 ++ [accO acc] ∧ Inv (i + 1) (acc ++ [p]) h5) else ∃ h5, h3 = h5 ++ [accO acc] ∧ Inv (i + 1) acc h5) ∧
      (∀ acc h', Inv ds.length acc h' → R (dL acc) h')) : VE K Θ (tLc wi g tt te vs) env h R := fun F ρ σ H Q rl e k =>
  q F ρ σ H _ rl e fun ds C h1 J F1 ρ1 H1 s1 p1 r1 it q1 => by
    obtain ⟨Inv, hl, i0, hI, turn, q1⟩ := q1
    refine lcI_run (wi := wi) tg Q Inv r1 (e.mono s1 p1) it hl i0 hI turn fun p F' us H acc h' s hn hp hp1 iv r rp r2 => ?_
    have sn : Same F' (upd F' p (.lst us)) := same_new hn
    refine k _ h' (.ref p) (upd F' p (.lst us)) ρ1 H (s1.trans (s.trans sn)) p1 ?_ (.p (.lst (.of upd_same) (rp.mono sn))) (q1 acc h' iv)
    have np : ∀ P ∈ Θ.tabs, P ≠ p := fun P hP => by
      obtain ⟨ps, z, _⟩ := (r2.tab P hP).2
      rintro rfl
      rw [hp] at z
      cases z
    obtain ⟨hlen, hlow, _⟩ := hI _ _ _ iv
    refine ⟨⟨fun b o e => ?_, r2.len, fun i o hi => ?_, r2.inj, fun P hP => ⟨by rw [upd_ne (np P hP)]; exact (r2.tab P hP).1, (r2.tab P hP).2⟩, fun q hq => ⟨by rw [upd_ne (lam_neO (r2.lam q hq).2 hp fun _ z => by cases z)]; exact (r2.lam q hq).1, (r2.lam q hq).2⟩⟩, r2.wish.mono sn (Pre.refl _)⟩
    · by_cases hb : b = p
      · subst hb; rw [upd_same] at e; rw [hp]; exact e
      · rw [upd_ne hb] at e; exact r2.same b o e
    · obtain ⟨a, u, f1, f2, f3, f4⟩ := r2.own i o hi
      have hil : i < h'.length := (List.getElem?_eq_some_iff.mp hi).1
      have ha : a ≠ p := fun z => by
        subst z
        have n1 : (h' ++ [accO acc])[i]? = some (some o) := by rw [List.getElem?_append_left hil]; exact hi
        have n2 : (h' ++ [accO acc])[h'.length]? = some (accO acc) := by simp
        have a1 : (ρ1 ++ [a])[i]? = some a := by rw [List.getElem?_append_left (by rw [r2.len]; exact hil)]; exact f1
        have a2 : (ρ1 ++ [a])[h'.length]? = some a := by rw [← r2.len]; simp
        exact absurd (r.inj i h'.length _ _ a n1 n2 a1 a2) (by omega)
      exact ⟨a, u, f1, by rw [upd_ne ha]; exact f2, f3, f4.mono sn (Pre.refl _)⟩
end
end Kb

/-! `is` a truth; lists that stay, joined; texts: times, join; `in` a list of texts; great divisors. -/
namespace Kb
open PySem PySem.Spec PyProof.Rows L2
section
variable {X : Cx}
def rIsBl : R2 := fun x y H Q => ∃ b : Bool, y = .bl b ∧ (∀ a, x ≠ .ref a) ∧ Q (.bl (decide (x = .bl b))) H
theorem op_isBlAny : OpR X (compareOp .Is) rIsBl := by
  intro pins s σ H x y v u Q I rx ry h
  obtain ⟨b, rfl, nr, q⟩ := h
  cases (show u = Value.bool b from ry)
  by_cases e : x = .bl b
  · subst e
    cases (show v = Value.bool b from rx)
    exact wpAny_is_self rfl ⟨.bl true, H, I, rfl, by simpa using q⟩
  · have qn : EP X pins σ Q (.bool false) s := ⟨.bl false, H, I, rfl, by simpa [e] using q⟩
    cases x with
    | non => cases rx; exact wpAny_is_other rfl (by intro z; cases z) qn
    | bl c => cases (show v = Value.bool c from rx); exact wpAny_is_other rfl (fun z => e (by rw [Value.bool.inj z])) qn
    | int i => obtain ⟨t, rfl⟩ := rx; exact wpAny_is_other rfl (by intro z; cases z) qn
    | str i => obtain ⟨t, rfl⟩ := rx; exact wpAny_is_other rfl (by intro z; cases z) qn
    | byt i => obtain ⟨t, rfl⟩ := rx; exact wpAny_is_other rfl (by intro z; cases z) qn
    | flt i => obtain ⟨t, rfl⟩ := rx; exact wpAny_is_other rfl (by intro z; cases z) qn
    | ref a => exact absurd rfl (nr a)
    | ty n => cases rx; exact wpAny_is_other rfl (by intro z; cases z) qn
def rIsNG : R2 := fun x y H Q => y = V.non ∧ Q (.bl (decide (x = .non))) H
/-- x is None, x is True, x is False -/
def rIsU : R2 := fun x y H Q => rIsNG x y H Q ∨ rIsBl x y H Q
theorem op_isU : OpR X (compareOp .Is) rIsU := OpR.or (r := rIsNG) op_isN op_isBlAny
/-- lists that stay, one behind the other: a new list -/
def rCatL (K : PySem.W.Frag) : R2 := fun x y H Q => ∃ l b xs zs, x = .ref l ∧ y = .ref b ∧ SqL K H l xs ∧ SqL K H b zs ∧ xs.length + zs.length ≤ sizeLine ∧ ∀ p, H p = none → Q (.ref p) (upd H p (.lst (xs ++ zs)))
theorem op_catL : OpR X (binaryOp .Add) (rCatL X.K) := by
  intro pins s σ H x y v u Q I rx ry h
  obtain ⟨l, b, xs, zs, rfl, rfl, hH, hB, hz, q⟩ := h
  cases rx
  cases ry
  obtain ⟨its, r, pl, _⟩ := I.list hH
  obtain ⟨its2, r2, pl2, _⟩ := I.list hB
  obtain ⟨⟨cls, dd, data, sl⟩, ho, hc, n, hd⟩ := pl.isList
  obtain ⟨⟨cls2, dd2, data2, sl2⟩, ho2, hc2, n2, hd2⟩ := pl2.isList
  simp only at hc hd hc2 hd2
  subst hc hd hc2 hd2
  have e : its.toArray ++ its2.toArray = (its ++ its2).toArray := by simp
  refine concat_meets ⟨_, ho, rfl⟩ ⟨_, ho2, rfl⟩ noFill_list_add seq_list_add PySem.F.slot_list_add PySem.F.entry_list_add (PySem.F.args_list_add_2 _ _) (list_addW l b its.toArray its2.toArray n n2 dd dd2 sl sl2 (by simp only [List.size_toArray]; rw [← r.length, ← r2.length]; exact hz)) ⟨ho, ho2, ?_⟩
  rw [e]
  exact ⟨.ref _, _, I.lnew (t' := s.toks) (r.append r2) (by rw [List.length_append]; exact hz), rfl, q _ I.fresh⟩
def rAddV (K : PySem.W.Frag) : R2 := fun x y H Q => rAddI x y H Q ∨ (rAddS' x y H Q ∨ (rCatT K x y H Q ∨ rCatL K x y H Q))
/-- so many times the text -/
def repS (x : Str) (n : Int) : Str := ⟨(List.replicate n.toNat x.cps).foldl (· ++ ·) #[]⟩
theorem repS_cps (x : Str) (n : Int) : (repS x n).cps.toList = (List.replicate n.toNat x.cps.toList).flatten := by
  unfold repS
  have g : ∀ (k : Nat) (a : Array Nat), ((List.replicate k x.cps).foldl (· ++ ·) a).toList = a.toList ++ (List.replicate k x.cps.toList).flatten := by
    intro k
    induction k with
    | zero => intro a; simp
    | succ k ih => intro a; rw [List.replicate_succ, List.foldl_cons, ih]; simp [List.replicate_succ]
  rw [g]
  simp
theorem repS_len (x : Str) (n : Int) : (repS x n).length = n.toNat * x.length := by
  show (repS x n).cps.size = _
  rw [← Array.length_toList, repS_cps]
  simp [Str.length]
def rMulS : R2 := fun x y H Q => ∃ i j, x = .str i ∧ y = .int j ∧ -(2 ^ 20) ≤ j ∧ j < 2 ^ 20 ∧ i.length ≤ 2 ^ 20 ∧ i.length * j.toNat ≤ sizeLine ∧ Q (.str (repS i j)) H
theorem op_mulS : OpR X (binaryOp .Mult) rMulS := by
  intro pins s σ H x y v u Q I rx ry h
  obtain ⟨i, j, rfl, rfl, h1, h2, h3, h4, q⟩ := h
  obtain ⟨t, rfl⟩ := rx
  obtain ⟨t', rfl⟩ := ry
  refine PySem.P.mul_str ?_ (fun hn _ => ?_) (fun hn _ => ?_) ?_
  · rw [decide_eq_false (by omega), decide_eq_false (by omega)]; rfl
  · intro hgt
    have hj : 0 < j := by omega
    have z : (i.length : Int) * j ≤ 2 ^ 63 - 1 := by
      have : (i.length : Int) * j ≤ 2 ^ 20 * 2 ^ 20 := Int.mul_le_mul (by omega) (by omega) (by omega) (by omega)
      omega
    have := (Int.le_ediv_iff_mul_le hj).mpr z
    omega
  · unfold Builtin.Str.tooLong
    exact decide_eq_false (by have e := sizeLine_eq; omega)
  · have fs : ∀ (m : Str), m = repS i j → EP X pins σ Q (.str m s.toks) { s with toks := s.toks + 1 } := fun m e => by
      subst e
      exact ⟨.str _, H, I.tok _, ⟨_, rfl⟩, q⟩
    by_cases hn : j < 1
    · rw [if_pos hn]
      refine ⟨by decide, fs _ ?_⟩
      have : j.toNat = 0 := by omega
      unfold repS
      rw [this]
      rfl
    · rw [if_neg hn]
      by_cases h1 : (j == 1 || i.length == 0) = true
      · rw [if_pos h1]
        refine ⟨.str i, H, I, ⟨_, rfl⟩, ?_⟩
        have e : repS i j = i := by
          have e0 : (repS i j).cps.toList = i.cps.toList := by
            rw [repS_cps]
            rcases Bool.or_eq_true_iff.mp h1 with z | z
            · have : j = 1 := by simpa using z
              subst this
              simp
            · have hz : i.cps.toList = [] := by
                have : i.cps.size = 0 := by simpa [Str.length] using z
                rw [← List.length_eq_zero_iff, Array.length_toList]; exact this
              rw [hz]
              simp
          have hc := Array.toList_inj.mp e0
          cases hr : repS i j
          cases i
          rw [hr] at hc
          simpa using hc
        rw [← e]; exact q
      · rw [if_neg h1]
        refine ⟨?_, fs _ rfl⟩
        show (repS i j).length ≤ _
        rw [repS_len, Nat.mul_comm]
        exact h4
def rMulI : R2 := rI CMulX fun i j => .int (i * j)
def rMulU : R2 := fun x y H Q => rMulI x y H Q ∨ rMulS x y H Q
theorem op_mulU : OpR X (binaryOp .Mult) rMulU := OpR.or (r := rMulI) op_mulX op_mulS
/-- < of truths, of numbers, of texts -/
def b2n (b : Bool) : Int := if b then 1 else 0
def rLtB : R2 := fun x y H Q => ∃ i j, x = .bl i ∧ y = .bl j ∧ Q (.bl (decide (b2n i < b2n j))) H
def rLtI : R2 := rI0 fun i j => .bl (decide (i < j))
def rLtS : R2 := fun x y H Q => ∃ i j, x = .str i ∧ y = .str j ∧ Q (.bl (decide (i.cps.toList < j.cps.toList))) H
def rLtG : R2 := fun x y H Q => rLtI x y H Q ∨ (rLtB x y H Q ∨ rLtS x y H Q)
end
section
variable {K : PySem.W.Frag} {Θ : Ctx} {env : Env'} {h : Hs} {R : D → Hs → Prop} {x y : D}
/-- is it this truth -/
def isBlD (b : Bool) : D → Bool
  | .p (.bl c) => decide (c = b)
  | _ => false
/-- no thing of the heap -/
def flatD : D → Bool
  | .p .non => true
  | .p (.bl _) => true
  | .p (.int _) => true
  | .p (.str _) => true
  | _ => false
theorem v2_isNU (q : R (dB (isNonD x)) h) : V2 K Θ rIsU x dN h R := v2_or1 (v2_isN q)
theorem v2_isBl {b : Bool} (hx : flatD x = true) (q : R (dB (isBlD b x)) h) : V2 K Θ rIsU x (dB b) h R := v2_or2 fun F ρ H vx vy Q rl a c k => by
  obtain rfl := c.bl
  have kk := k _ h _ F ρ H (Same.refl _) (Pre.refl _) rl (.p (.bl _)) q
  cases a with
  | own _ => cases hx
  | p a =>
    cases a with
    | non => exact ⟨b, rfl, (fun _ z => by cases z), kk⟩
    | bl c =>
      refine ⟨b, rfl, (fun _ z => by cases z), ?_⟩
      have e : decide (V.bl c = V.bl b) = decide (c = b) := decide_eq_decide.mpr ⟨V.bl.inj, congrArg V.bl⟩
      rw [e]
      exact kk
    | int c => exact ⟨b, rfl, (fun _ z => by cases z), kk⟩
    | str c => exact ⟨b, rfl, (fun _ z => by cases z), kk⟩
    | tup _ _ => cases hx
    | ktp _ _ => cases hx
    | lst _ _ => cases hx
    | ins _ _ => cases hx
    | ty _ => cases hx
    | cls _ => cases hx
theorem v2_addVI {i j : Int} (q : R (dI (i + j)) h) : V2 K Θ (rAddV K) (dI i) (dI j) h R := v2_or1 (v2_I0 q)
theorem v2_mulU {i j : Int} (c : CMulX i j) (q : R (dI (i * j)) h) : V2 K Θ rMulU (dI i) (dI j) h R := v2_or1 (v2_mul c q)
theorem v2_divW {i j : Int} (c : 0 < j ∧ j.natAbs.log2 < 9000) (q : R (dI (i / j)) h) : V2 K Θ (rI CDivW fun i j => V.int (i / j)) (dI i) (dI j) h R := v2_I (g := fun i j => i / j) c q
theorem v2_ltI {i j : Int} (q : R (dB (decide (i < j))) h) : V2 K Θ rLtG (dI i) (dI j) h R := v2_or1 (v2_lt q)
theorem v2_ltB {i j : Bool} (q : R (dB (decide (b2n i < b2n j))) h) : V2 K Θ rLtG (dB i) (dB j) h R := v2_or2 (v2_or1 fun F ρ H vx vy Q rl a b k => by
  obtain rfl := a.bl
  obtain rfl := b.bl
  exact ⟨i, j, rfl, rfl, k _ h _ F ρ H (Same.refl _) (Pre.refl _) rl (.p (.bl _)) q⟩)
theorem v2_ltS {i j : Str} (q : R (dB (decide (i.cps.toList < j.cps.toList))) h) : V2 K Θ rLtG (dS i) (dS j) h R := v2_or2 (v2_or2 fun F ρ H vx vy Q rl a b k => by
  obtain rfl := a.str
  obtain rfl := b.str
  exact ⟨i, j, rfl, rfl, k _ h _ F ρ H (Same.refl _) (Pre.refl _) rl (.p (.bl _)) q⟩)
/-- texts -/
theorem RPs.strs {F : Hp} : ∀ {ns : List Str} {vs : List V}, RPs K F (ns.map P.str) vs → vs = ns.map V.str
  | [], _, .nil => rfl
  | n :: ns, _, .cons (.str _) r => by
    rw [RPs.strs r]
    rfl
theorem inV_strs {x : Str} : ∀ {ns : List Str}, inV (.str x) (ns.map V.str) = decide (x ∈ ns)
  | [] => rfl
  | n :: ns => by
    have ih := inV_strs (x := x) (ns := ns)
    unfold inV at ih ⊢
    rw [List.map_cons, List.any_cons, ih]
    show ((n == x) || _) = _
    by_cases e : n = x
    · simp [e]
    · simp [e, Ne.symm e]
/-- x in xs, texts -/
theorem v2_inS {x : Str} {ns : List Str} (q : R (dB (decide (x ∈ ns))) h) : V2 K Θ (rInU K) (dS x) (dL (ns.map P.str)) h R := v2_or1 fun F ρ H vx vy Q rl a b k => by
  obtain rfl := a.str
  cases b with
  | p b =>
    cases b with
    | lst b1 b2 =>
      have e := b2.strs
      subst e
      refine ⟨_, _, rfl, .inl (rl.same.seq b1), rfl, by simp [flatV], ?_⟩
      show Q (.bl (inV (.str x) (ns.map V.str))) H
      rw [inV_strs]
      exact k _ h _ F ρ H (Same.refl _) (Pre.refl _) rl (.p (.bl _)) q
theorem vm_join {a : Str} {ys : List Str} (hl : (ys.map (·.length)).sum + ys.length * a.length ≤ 16777216) (q : R (dS (Txt.join a ys)) h) :
    VM K Θ (fun x xs H Q => ∃ a p, ∃ ys : List Str, x = V.str a ∧ xs = [V.ref p] ∧ (SqL K H p (ys.map V.str) ∨ SqT K H p (ys.map V.str)) ∧ (ys.map (·.length)).sum + ys.length * a.length ≤ 16777216 ∧ Q (.str (Txt.join a ys)) H) (dS a) [dL (ys.map P.str)] h R := fun F ρ H vx vs Q rl b c k => by
  obtain rfl := b.str
  cases c with
  | cons c e =>
    cases e
    cases c with
    | p c =>
      cases c with
      | lst c1 c2 =>
        have e := c2.strs
        subst e
        exact ⟨a, _, ys, rfl, rfl, .inl (rl.same.seq c1), hl, k _ h _ F ρ H (Same.refl _) (Pre.refl _) rl (.p (.str _)) q⟩
theorem mt_joinK {X : Cx} (hK : X.K = K) : MtR X "str.join" (fun x xs H Q => ∃ a p, ∃ ys : List Str, x = .str a ∧ xs = [.ref p] ∧ (SqL K H p (ys.map V.str) ∨ SqT K H p (ys.map V.str)) ∧ (ys.map (·.length)).sum + ys.length * a.length ≤ 16777216 ∧ Q (.str (Txt.join a ys)) H) := hK ▸ mt_join
end
end Kb

/-! abs. -/
namespace Kb
open PySem PySem.Spec PyProof.Rows L2
section
variable {K : PySem.W.Frag} {Θ : Ctx} {env : Env'} {h : Hs} {R : D → Hs → Prop} {x y : D}
theorem vc_abs {i : Int} (q : R (dI (if i < 0 then -i else i)) h) : VC K Θ (fun xs H Q => ∃ i, xs = [V.int i] ∧ Q (.int (if i < 0 then -i else i)) H) [dI i] h R := fun F ρ H vs Q rl a k => by
  cases a with
  | cons a b =>
    cases b
    obtain rfl := a.int
    exact ⟨i, rfl, k _ h _ F ρ H (Same.refl _) (Pre.refl _) rl (.p (.int _)) q⟩
end
end Kb

/-! t < u, t <= u, t > u, t >= u for tuples of numbers and texts: items behind the first difference may be of any kind. -/
namespace Kb
open PySem PySem.Spec PyProof.Rows L2
section
open PySem.SeqAt
open PySem.AutoSeq1 (wpAny_loadPart')
open PySem.MeetsSeq PySem.MeetsSeq2 PySem.MeetsSeq3
end
end Kb

/-! Keys compared, as rules; int of a truth. -/
namespace Kb
open PySem PySem.Spec PyProof.Rows L2
section
variable {X : Cx} {K : PySem.W.Frag}
end
section
variable {K : PySem.W.Frag} {Θ : Ctx} {h : Hs} {R : D → Hs → Prop}
theorem vc_intB {b : Bool} (q : R (dI (if b then 1 else 0)) h) : VC K Θ rIntU [dB b] h R := fun F ρ H vs Q rl a k => by
  cases a with
  | cons a c =>
    cases c
    obtain rfl := a.bl
    exact .inl (.inr ⟨b, rfl, k _ h _ F ρ H (Same.refl _) (Pre.refl _) rl (.p (.int _)) q⟩)
end
end Kb

/-! Tuples of any length joined and cut; xs.extend(t); an own list made by a comprehension whose turns change what is owned. -/
namespace Kb
open PySem PySem.Spec PyProof.Rows L2
section
open PySem.AutoSeq1 (wpAny_loadPart')
end
section
variable {X : Cx}
def rAddW (K : PySem.W.Frag) : R2 := fun x y H Q => rAddI x y H Q ∨ (rAddS' x y H Q ∨ (rCatA K x y H Q ∨ rCatL K x y H Q))
theorem op_addW : OpR X (binaryOp .Add) (rAddW X.K) := OpR.or (r := rAddI) op_add (OpR.or (r := rAddS') op_add_str (op_catA.or op_catL))
theorem op_addWK {K : PySem.W.Frag} (hK : X.K = K) : OpR X (binaryOp .Add) (rAddW K) := hK ▸ op_addW
end
section
variable {K : PySem.W.Frag} {Θ : Ctx} {env : Env'} {h : Hs} {R : D → Hs → Prop} {x y : D}
theorem v2_addWI {i j : Int} (q : R (dI (i + j)) h) : V2 K Θ (rAddW K) (dI i) (dI j) h R := v2_or1 (v2_I0 q)
theorem v2_addWS {i j : Str} (hl : i.length + j.length ≤ sizeLine) (q : R (dS (i ++ j)) h) : V2 K Θ (rAddW K) (dS i) (dS j) h R := v2_or2 (v2_or1 fun F ρ H vx vy Q rl a b k => by
  obtain rfl := a.str
  obtain rfl := b.str
  exact ⟨i, j, rfl, rfl, hl, k _ h _ F ρ H (Same.refl _) (Pre.refl _) rl (.p (.str _)) q⟩)
theorem v2_addWL {i j : List P} (hl : i.length + j.length ≤ sizeLine) (q : R (dL (i ++ j)) h) : V2 K Θ (rAddW K) (dL i) (dL j) h R := v2_or2 (v2_or2 (v2_or2 fun F ρ H vx vy Q rl a b k => by
  cases a with
  | p a =>
    cases b with
    | p b =>
      cases a with
      | lst a1 a2 =>
        cases b with
        | lst b1 b2 =>
          refine ⟨_, _, _, _, rfl, rfl, rl.same.seq a1, rl.same.seq b1, by rw [← a2.len, ← b2.len]; exact hl, fun p hp => ?_⟩
          have sn := fun o => same_new (o := o) (rl.free hp)
          exact k _ h _ _ ρ _ (sn _) (Pre.refl _) (rl.frz hp) (.p (.lst (.of upd_same) ((a2.append b2).mono (sn _)))) q))
end
end Kb

/-! Dicts that are owned, with keys that are tuples of numbers and texts; xs.insert; own lists read and joined. -/
namespace Kb
open PySem PySem.Spec PyProof.Rows L2
section
variable {κ β : Type} [DecidableEq κ]
def vK (kvs : List (κ × β)) (k : κ) : Option β := (kvs.find? fun kv => decide (kv.1 = k)).map (·.2)
end
section
variable {K : PySem.W.Frag} {Θ : Ctx} {env : Env'} {h : Hs} {R : D → Hs → Prop} {E : En} {x y : D}
end
end Kb

/-! What may be raised: defs that raise, raise, try .. except. -/
namespace Kb
open PySem PySem.Spec PyProof.Rows L2
/-- a promise of a def that may raise: W args heap what-follows the-errors -/
abbrev SpcX := List D → Hs → (D → Hs → Prop) → (Exn → Hs → Prop) → Prop
def spDX (K : PySem.W.Frag) (T : Tbs) (W : SpcX) : Sp := fun vs H Q E => ∃ (ds : List D) (h : Hs) (F : Hp) (ρ : List Addr) (R : D → Hs → Prop) (RX : Exn → Hs → Prop), Base K T F ρ h H ∧ RA K F ρ ds vs ∧ W ds h R RX ∧
  (∀ (d : D) (h' : Hs) (v : V) (F' : Hp) (ρ' : List Addr) (H' : Hp), Same F F' → Pre ρ ρ' → Base K T F' ρ' h' H' → RD K F' ρ' d v → R d h' → Q v H') ∧ Wish K (Ctx.dfn T E RX) F ρ
section
variable {P : Program} {w : World} {K : PySem.W.Frag} {mg : Str → Option Value} {base : Heap} {x : Str} {st : Stmt} {N ps : List Str} {k : Nat} {T : Tbs}
/-- a def of the text that may raise -/
theorem DefAt.okX (A : DefAt K mg x st ps) (S : FnScope N ps (defScope st)) (W : SpcX) (len : ∀ ds h R RX, W ds h R RX → ds.length = ps.length)
    (hbody : ∀ (f : Addr) (cdv : Value) (A : Around) (outer : List Env) (s : Shared) (H : Hp) (E : XK), Room k (A.deeper (envOfC x (defScope st) s.heap.objs.size f cdv)) →
      ∃ t, PSs (cxOf (L2.CX P w) P w K mg base N x (defScope st) f cdv A outer s H E) (defBody st) t ∧ ∀ ds h R RX, W ds h R RX → VS K (Ctx.dfn T E RX) t { nx := fun _ h' => R dN h', rt := R } (startD N ds) h) : HasF P w K mg base (L2.CX P w) (k + 1) x ps (spDX K T W) := by
  obtain ⟨f, fd, F, hm, hb⟩ := A.ex
  refine ⟨⟨f, fd, F.okX S (fun vs H Q E h => ?_) (fun cdv A outer s H vs Q E hr h => ?_), hm, F.kp, hb⟩⟩
  · obtain ⟨ds, h, F, ρ, R, RX, rl, ra, hw, _⟩ := h
    rw [← ra.len]
    exact len ds h R RX hw
  · obtain ⟨ds, h, F, ρ, R, RX, rl, ra, hw, kq, wq⟩ := h
    obtain ⟨t, ht, q⟩ := hbody f cdv A outer s H E hr
    exact ⟨t, ht, q ds h R RX hw F ρ _ H _ ⟨rl, wq⟩ (renv_start ra) ⟨fun env' h' F' ρ' σ' H' s p r e q => kq dN h' .non F' ρ' H' s p r.toBase (.p .non) q, fun d h' v F' ρ' H' s p r dv q => kq d h' v F' ρ' H' s p r.toBase dv q, fun _ _ _ _ _ _ _ _ _ _ z => z.elim, fun _ _ _ _ _ _ _ _ _ _ z => z.elim⟩⟩
end
section
variable {K : PySem.W.Frag} {Θ : Ctx} {env : Env'} {h : Hs} {R : D → Hs → Prop} {ta : TE} {t : TA}
/-- f(..) of a def that may raise, in a def that may raise -/
theorem ve_callX {T : Tbs} {E : XK} {RX : Exn → Hs → Prop} {W : SpcX} (q : VA K (Ctx.dfn T E RX) t env h fun xs h1 => W xs h1 R RX) : VE K (Ctx.dfn T E RX) (tCall (spDX K T W) [] E t) env h R := fun F ρ σ H Q rl e k =>
  q F ρ σ H _ rl e fun xs h1 vs F1 ρ1 H1 s1 p1 r1 dxs q1 => ⟨xs, h1, F1, ρ1, R, RX, r1.toBase, by rw [List.append_nil]; exact dxs, q1,
    fun d h' v F' ρ' H' s3 p3 r3 dv q3 => k d h' v F' ρ' H' (s1.trans s3) (p1.trans p3) ⟨r3, r1.wish.mono s3 p3⟩ dv q3, ⟨r1.wish.run, fun _ _ z => by cases z⟩⟩
end
section
variable {X : Cx} {C : Addr} {B newId initId : String} {bmB : List Value} {x : Str} {e : Expr} {ta : TE} {p pos pos' : Pos} {E : XK}
end
section
variable {X : Cx} {x n : Str} {c : Value} {i : Nat} {body suite : List Stmt} {b₀ : Stmt} {np pos pos' : Pos} {tb : WX → TS} {ts : Addr → Value → Option Addr → TS}
end
section
variable {X : Cx} {k : Nat} {x : Str} {ps : List Str} {sp : Sp} {p pos : Pos} {e : Expr} {es : List Expr} {t : TA} {W : WX}
end
/-! ### what is known of an error's class -/
section
variable {K : PySem.W.Frag} {N D : Addr} {r : Bool}
end
end Kb

/-! Texts: walked over, split, sliced, put together; what stands in them. -/
namespace Kb
open PySem PySem.Spec PyProof.Rows L2
section
variable {K : PySem.W.Frag} {Θ : Ctx} {env : Env'} {h : Hs} {R : D → Hs → Prop} {te : TE}
theorem RPs.of_strs {F : Hp} : ∀ ys : List Str, RPs K F (ys.map P.str) (ys.map V.str)
  | [] => .nil
  | y :: ys => .cons (.str y) (RPs.of_strs ys)
theorem vm_split {a b : Str} (hb : (b.length == 0) = false) (ha : a.length + 2 ≤ sizeLine) (q : R (dL ((Txt.split a b).map P.str)) h) :
    VM K Θ (fun x xs H Q => ∃ a b, x = V.str a ∧ xs = [V.str b] ∧ (b.length == 0) = false ∧ a.length + 2 ≤ sizeLine ∧ rNewStrs (Txt.split a b) H Q) (dS a) [dS b] h R := fun F ρ H vx vs Q rl x y k => by
  obtain rfl := x.str
  cases y with
  | cons y e =>
    cases e
    obtain rfl := y.str
    refine ⟨a, b, rfl, rfl, hb, ha, fun p hp => ?_⟩
    exact k _ h _ (upd F p (.lst ((Txt.split a b).map V.str))) ρ _ (same_new (rl.free hp)) (Pre.refl _) (rl.frz hp) (.p (.lst (.of upd_same) (RPs.of_strs _))) q
theorem ve_slS {tl th : TO} (q : VE K Θ te env h fun x h1 => VO K Θ tl env h1 fun lo h2 => VO K Θ th env h2 fun hi h3 => ∃ z, x = dS z ∧ z.length ≤ sizeLine ∧ R (dS (cutS z lo hi)) h3) : VE K Θ (tSl rSlS te tl th) env h R := fun F ρ σ H Q rl e k =>
  q F ρ σ H _ rl e fun x h1 v F1 ρ1 H1 s1 p1 r1 dx q1 => q1 F1 ρ1 σ H1 _ r1 (e.mono s1 p1) fun lo h2 F2 ρ2 H2 s2 p2 r2 q2 => q2 F2 ρ2 σ H2 _ r2 (e.mono (s1.trans s2) (p1.trans p2)) fun hi h3 F3 ρ3 H3 s3 p3 r3 q3 => by
    obtain ⟨z, rfl, hz, q3⟩ := q3
    obtain rfl := dx.str
    exact ⟨z, rfl, hz, k _ h3 _ F3 ρ3 _ (s1.trans (s2.trans s3)) (p1.trans (p2.trans p3)) r3 (.p (.str _)) q3⟩
theorem v2_inC {c : Nat} {z : Str} (q : R (dB (decide (c ∈ z.cps.toList))) h) : V2 K Θ (rInU K) (dS ⟨#[c]⟩) (dS z) h R := v2_or2 fun F ρ H vx vy Q rl a b k => by
  obtain rfl := a.str
  obtain rfl := b.str
  exact ⟨c, z, rfl, rfl, k _ h _ F ρ H (Same.refl _) (Pre.refl _) rl (.p (.bl _)) q⟩
theorem RA.strs {F : Hp} {ρ : List Addr} : ∀ {ns : List Str} {vs : List V}, RA K F ρ (ns.map dS) vs → vs = ns.map V.str
  | [], _, .nil => rfl
  | n :: ns, _, .cons a r => by
    rw [RA.strs r, a.str]
    rfl
/-- join of an own list -/
theorem vm_joinO {a : Str} {ys : List Str} {n : Nat} (hn : h[n]? = some (some (.lst (ys.map dS)))) (hl : (ys.map (·.length)).sum + ys.length * a.length ≤ 16777216) (q : R (dS (Txt.join a ys)) h) :
    VM K Θ (fun x xs H Q => ∃ a p, ∃ ys : List Str, x = V.str a ∧ xs = [V.ref p] ∧ (SqL K H p (ys.map V.str) ∨ SqT K H p (ys.map V.str)) ∧ (ys.map (·.length)).sum + ys.length * a.length ≤ 16777216 ∧ Q (.str (Txt.join a ys)) H) (dS a) [.own n] h R := fun F ρ H vx vs Q rl b c k => by
  obtain rfl := b.str
  cases c with
  | cons c e =>
    cases e
    cases c with
    | own c =>
      obtain ⟨p, u, e1, e2, e3, us, e4, e5⟩ := rl.own _ _ hn
      rw [c] at e1; cases e1
      subst e4
      obtain rfl := e5.strs
      exact ⟨a, _, ys, rfl, rfl, .inl (.of e3), hl, k _ h _ F ρ H (Same.refl _) (Pre.refl _) rl (.p (.str _)) q⟩
/-! ### f-strings -/
end
end Kb

/-! Errors with one field of their own. -/
namespace Kb
open PySem PySem.Spec PyProof.Rows L2
/-- what an __init__ of one field promises -/
def spInit1 (C : Addr) (f : Str) : Sp := fun vs H Q _ => ∃ (a : Addr) (v : V), vs = [.ref a, v] ∧ H a = some (exo a C none) ∧ ∀ dx, H dx = none → dx ≠ a → Q .non (upd (upd H dx (exd dx [(f, v)])) a (exo a C (some dx)))
/-- raise C(e): the field f holds e's value -/
def tRaiseF (E : XK) (C : Addr) (f : Str) (t : TA) : TS := fun _ σ H => tMkO C (spInit1 C f) [] t σ H fun cls d H' => E cls d H'
theorem upd_made {H : Hp} {a dx : Addr} {x y z : HO} {w : HO} (na : H a = none) (ne : dx ≠ a) : upd (del (upd (upd (upd H a x) dx y) a z) a) dx w = upd H dx w := by
  funext b
  by_cases h1 : b = dx
  · subst h1
    rw [upd_same, upd_same]
  · rw [upd_ne h1, upd_ne h1]
    by_cases h2 : b = a
    · subst h2
      rw [del_same, na]
    · rw [del_ne h2, upd_ne h2, upd_ne h1, upd_ne h2]
section
variable {K : PySem.W.Frag} {env : Env'} {h : Hs} {t : TA}
theorem vs_raiseF {T : Tbs} {E : XK} {RX : Exn → Hs → Prop} {C : Addr} {f : Str} {N : En} (q : VA K (Ctx.dfn T E RX) t env h fun xs h1 => ∃ p, xs = [.p p] ∧ RX ⟨C, some [(f, p)]⟩ h1) : VS K (Ctx.dfn T E RX) (tRaiseF E C f t) N env h := fun F ρ σ H D' rl e k =>
  q F ρ σ H _ rl e fun xs h1 vs F1 ρ1 H1 s1 p1 r1 dxs q1 => by
    obtain ⟨p, rfl, q1⟩ := q1
    cases dxs with
    | cons dv dr =>
      cases dr
      cases dv with
      | p dv =>
        refine ⟨by simp, fun a na => ?_⟩
        refine ⟨a, _, rfl, upd_same, fun dx nd ne => ?_⟩
        have nd' : H1 dx = none := by
          rw [upd_ne ne] at nd
          exact nd
        refine ⟨rfl, dx, _, upd_same, by rw [upd_ne ne, upd_same], nd', ?_⟩
        rw [upd_made na ne]
        rename_i v
        have r2 := r1.frz (p := dx) (o := .xd [(f, v)]) nd'
        exact r2.wish.run ⟨C, some [(f, p)]⟩ (some dx) env h1 _ ρ1 σ _ (Same.refl _) (Pre.refl _) r2.toBase ((e.mono s1 p1).mono (same_new (r1.free nd')) (Pre.refl _)) ⟨dx, _, rfl, upd_same, .cons (dv.mono (same_new (r1.free nd'))) .nil⟩ q1
end
section
variable {P : Program} {w : World} {K : PySem.W.Frag} {mg : Str → Option Value} {base : Heap} {x qual f : Str} {st : Stmt} {N ps : List Str} {k : Nat} {fI C : Addr} {fd : FuncData}
/-- def __init__(self, f): self.f = f -/
theorem fn_init1 (F : Fun K x qual st fI fd) (S : FnScope N ps (defScope st)) (hps : ps.length = 2) (T : OexC K C) (no : PySem.W.findIn K (.ref C) f = some none)
    (hbody : ∀ (cdv : Value) (A : Around) (outer : List Env) (s : Shared) (H : Hp) (E : XK), PSs (cxOf CX0 P w K mg base N qual (defScope st) fI cdv A outer s H E).nox (defBody st) (tOst K f (tVar 0) (tVar 1))) :
    FnOk P w K mg base CX0 (k + 1) fI fd ps (spInit1 C f) := by
  refine F.ok S (fun vs H Q E h => ?_) fun cdv A outer s H vs Q E hr h => ?_
  · obtain ⟨a, v, rfl, _⟩ := h
    exact hps.symm
  · obtain ⟨a, v, rfl, h1, h2⟩ := h
    exact ⟨_, hbody cdv A outer s H E, v, rfl, .ref a, rfl, a, C, rfl, T, no, .inl ⟨h1, fun dx n1 n2 => h2 dx n1 n2⟩⟩
end
section
variable {X : Cx} {C fI : Addr} {x f : Str} {e : Expr} {es : List Expr} {ta : TA} {p pos pos' : Pos} {E : XK} {k : Nat} {fd : FuncData} {ps : List Str}
theorem ps_raiseF (hc : X.calm = true) (tk : Takes X fun cls d _ H => E cls d H) (T : OexC X.K C) (iC : PySem.W.findIn X.K (.ref C) "__init__" = some (some (.ref fI))) (tI : PySem.W.typeIn X.K (.ref fI) = some (.type "function"))
    (F1 : FnOk X.prog X.w X.K X.mg X.base CX0 k fI fd ps (spInit1 C f)) (hr : Room (k + 1) X.A) (hb : Binds X.K fd ps []) (hg : Gl X x) (hm : X.mg x = some (.ref C)) (ha : PA X (e :: es) ta)
    (hdb : (x == ("__debug__" : Str)) = false := by decide) (he : starEach (e :: es) X.env = (false, eval e X.env) :: starEach es X.env := by rfl) (hpl : (backTo pos (starEach es X.env)).any (·.1) = false := by rfl) :
    PS X (.Raise (some (.Call (.Name x p) (e :: es) [] pos)) none pos') (tRaiseF E C f ta) := ps_raise hc tk (pmk_oex T iC tI F1 hr hb .nil pass0 hg hm ha hdb he hpl)
end
section
variable {K : PySem.W.Frag} {h : Hs} {R : D → Hs → Prop}
end
end Kb

/-! del xs[a:]; instances that stay owned; dicts with written keys; own lists cut, joined, compared, walked over. -/
namespace Kb
open PySem PySem.Spec PyProof.Rows L2
section
variable {prog : Program} {w : World} {A : Around} {E : Value → Shared → Prop} {s : Shared}
end
section
variable {X : Cx} {o : Expr} {lo : Option Expr} {p2 tpos pos : Pos} {to : TE} {tl : TO}
end
section
variable {X : Cx} {CX : CXT} {k : Nat} {x : Str} {C : Addr} {ps : List Str} {sp : Sp} {E : XK} {p pos : Pos}
end
section
variable {K : PySem.W.Frag} {Θ : Ctx} {env : Env'} {h : Hs} {R : D → Hs → Prop} {E : En} {x y : D} {te : TE} {t : TA} {C : Addr}
/-- C(..), the instance stays owned -/
theorem ve_makeO {W : Spc} {E : XK} (q : VA K Θ t env h fun xs h1 => W (.own h1.length :: xs) (h1 ++ [some (.ins C [])]) fun d h2 => d = dN ∧ R (.own h1.length) h2) : VE K Θ (tMake C (spD K Θ.tabs W) [] E t) env h R := fun F ρ σ H Q rl e k =>
  q F ρ σ H _ rl e fun xs h1 vs F1 ρ1 H1 s1 p1 r1 dxs q1 => by
    intro x dx hx hdx hne
    have hx' : (upd H1 dx (.own x)) x = none := by rw [upd_ne (Ne.symm hne)]; exact hx
    have sn : Same F1 (upd F1 dx (.own x)) := same_new (r1.free hdx)
    have r2 : Rel K Θ (upd F1 dx (.own x)) ρ1 h1 (upd H1 dx (.own x)) := r1.frz hdx
    have r3 := r2.push (o := .ins C []) (u := .ins C dx []) hx' ⟨dx, [], rfl, .nil⟩
    refine ⟨.own h1.length :: xs, _, _, ρ1 ++ [x], _, r3.toBase, .cons (.own (by rw [← r1.len]; simp)) (by rw [List.append_nil]; exact dxs.mono sn (Pre.push _ _)), q1, fun d h' v F' ρ' H' s p r dv q2 => ?_⟩
    obtain ⟨rfl, q2⟩ := q2
    refine ⟨dv.non, ?_⟩
    have ea : ρ'[h1.length]? = some x := p _ _ (by rw [← r1.len]; simp)
    exact k _ _ _ F' ρ' H' (s1.trans (sn.trans s)) (p1.trans ((Pre.push ρ1 x).trans p)) ⟨r, (r1.wish.mono (sn.trans s) ((Pre.push ρ1 x).trans p))⟩ (.own ea) q2
/-! ### dicts whose keys are numbers and texts -/
/-- a list that stays, or an own one -/
def SeqL (d : D) (h : Hs) (ps : List P) : Prop := match d with
  | .p (.lst xs) => xs = ps
  | .own i => h[i]? = some (some (.lst (ps.map D.p)))
  | _ => False
theorem SeqL.v {F : Hp} {ρ : List Addr} {H : Hp} {d : D} {v : V} {ps : List P} (s : SeqL d h ps) (rl : Rel K Θ F ρ h H) (a : RD K F ρ d v) : ∃ p vs, v = .ref p ∧ SqL K H p vs ∧ RPs K F ps vs := by
  cases a with
  | p a =>
    cases a with
    | lst a r => cases s; exact ⟨_, _, rfl, rl.same.seq a, r⟩
    | _ => exact s.elim
  | own a =>
    obtain ⟨p, u, e1, e2, e3, vs, e4, e5⟩ := rl.own _ _ s
    rw [a] at e1; cases e1
    subst e4
    exact ⟨_, _, rfl, .of e3, e5.pure⟩
/-- xs[lo:hi] of a list that stays: a new list that is owned -/
theorem ve_slLO {tl th : TO} (q : VE K Θ te env h fun x h1 => VO K Θ tl env h1 fun lo h2 => VO K Θ th env h2 fun hi h3 => ∃ ps, SeqL x h3 ps ∧ R (.own h3.length) (h3 ++ [some (.lst ((cutP ps lo hi).map D.p))])) : VE K Θ (tSl (rSlL K) te tl th) env h R := fun F ρ σ H Q rl e k =>
  q F ρ σ H _ rl e fun x h1 v F1 ρ1 H1 s1 p1 r1 dx q1 => q1 F1 ρ1 σ H1 _ r1 (e.mono s1 p1) fun lo h2 F2 ρ2 H2 s2 p2 r2 q2 => q2 F2 ρ2 σ H2 _ r2 (e.mono (s1.trans s2) (p1.trans p2)) fun hi h3 F3 ρ3 H3 s3 p3 r3 q3 => by
    obtain ⟨ps, sq, q3⟩ := q3
    obtain ⟨a, vs, rfl, hs, r⟩ := sq.v r3 (dx.mono (s2.trans s3) (p2.trans p3))
    refine ⟨_, _, rfl, hs, fun p hp => ?_⟩
    exact k _ _ _ F3 (ρ3 ++ [p]) _ (s1.trans (s2.trans s3)) (p1.trans (p2.trans (p3.trans (Pre.push _ _)))) (r3.push (o := .lst ((cutP ps lo hi).map D.p)) hp ⟨_, rfl, (r.cut lo hi).data⟩) (.own (by rw [← r3.len]; simp)) q3
end
end Kb

/-! Promises that follow from others. -/
namespace Kb
open PySem PySem.Spec PyProof.Rows L2
section
variable {P : Program} {w : World} {K : PySem.W.Frag} {T : Tbs} {mg : Str → Option Value} {base : Heap} {CX : CXT} {k : Nat} {x m : Str} {C : Addr} {ps : List Str} {W W' : Spc}
end
/-- an own list of written data as the def's end -/
theorem fin_own {h : Hs} {R : D → Hs → Prop} {ps : List P} {o : Option OO} (e : o = some (.lst (ps.map D.p))) (q : R (dL ps) h) : Fin h R (.own h.length) (h ++ [o]) :=
  ⟨[o], rfl, .inr (.inl ⟨h.length, ps, rfl, Nat.le_refl _, by simp [e], q⟩)⟩
end Kb

/-! Methods that raise; own lists that stay from here on; reversed(xs); lists of either kind joined. -/
namespace Kb
open PySem PySem.Spec PyProof.Rows L2
section
variable {P : Program} {w : World} {K : PySem.W.Frag} {mg : Str → Option Value} {base : Heap} {m qual : Str} {st : Stmt} {N ps : List Str} {k : Nat} {T : Tbs} {C : Addr}
end
section
variable {X : Cx} {k : Nat} {C : Addr} {m : Str} {ps : List Str} {sp : Sp} {pos apos : Pos} {o : Expr} {ta : TE} {W : WX}
end
section
variable {K : PySem.W.Frag} {Θ : Ctx} {env : Env'} {h : Hs} {R : D → Hs → Prop} {E : En} {ta : TE} {ts : TS}
/-- from here on the own list in slot i stays as it is -/
theorem vs_freeze {i n : Nat} {ps : List P} (he : env[i]? = some (some (.own n))) (hn : h[n]? = some (some (.lst (ps.map D.p)))) (q : VS K Θ ts E (env.set i (some (dL ps))) (h.set n none)) : VS K Θ ts E env h := fun F ρ σ H D' rl e k => by
  obtain ⟨a, u, e1, e2, e3, e4, r4⟩ := rl.freeze hn
  obtain ⟨vs, rfl, e5⟩ := e4
  have sn := same_new (o := .lst vs) e2
  obtain ⟨v, g1, g2⟩ := e.get i _ he
  cases g2 with
  | own g2 =>
    rw [e1] at g2; cases g2
    have eσ : σ.set i (some (V.ref a)) = σ := by
      refine List.ext_getElem? fun j => ?_
      by_cases hj : i = j
      · subst hj
        rw [List.getElem?_set_self (List.getElem?_eq_some_iff.mp g1).1, g1]
      · rw [List.getElem?_set_ne hj]
    have z := (e.mono sn (Pre.refl _)).set (i := i) (d := dL ps) (v := .ref a) (.p (.lst (.of upd_same) e5.pure))
    rw [eσ] at z
    exact q _ ρ σ H D' r4 z (k.mono sn (Pre.refl _))
theorem v2_addWMO {x y : D} {i j : List P} (hx : SeqL x h i) (hy : SeqL y h j) (hl : i.length + j.length ≤ sizeLine) (q : R (.own h.length) (h ++ [some (.lst ((i ++ j).map D.p))])) : V2 K Θ (rAddW K) x y h R := v2_or2 (v2_or2 (v2_or2 fun F ρ H vx vy Q rl a b k => by
  obtain ⟨p1, us, rfl, s1, r1⟩ := hx.v rl a
  obtain ⟨p2, ws, rfl, s2, r2⟩ := hy.v rl b
  refine ⟨_, _, _, _, rfl, rfl, s1, s2, by rw [← r1.len, ← r2.len]; exact hl, fun p hp => ?_⟩
  exact k _ _ _ F (ρ ++ [p]) _ (Same.refl _) (Pre.push _ _) (rl.push (o := .lst ((i ++ j).map D.p)) hp ⟨_, rfl, (r1.append r2).data⟩) (.own (by rw [← rl.len]; simp)) q))
end
end Kb

/-! Numbers as bytes, seven bits in each. -/
namespace Kb
open PySem PySem.Spec PyProof.Rows L2
section
variable {K : PySem.W.Frag} {Θ : Ctx} {env : Env'} {h : Hs} {E : En} {t : TA} {i j : Nat}
end
end Kb

/-! Plain data of bounded depth, compared. -/
namespace Kb
open PySem PySem.Spec PyProof.Rows L2
structure Flat (n : Nat) (x : P) : Prop where
  lay : PyData.canLay0 (pyOf x) = true
  dep : PyData.depth (pyOf x) ≤ n
  pl : plainP x = true
theorem Flat.int {n : Nat} (i : Int) : Flat n (.int i) := ⟨rfl, Nat.zero_le _, rfl⟩
theorem Flat.bl {n : Nat} (b : Bool) : Flat n (.bl b) := ⟨rfl, Nat.zero_le _, rfl⟩
theorem Flat.non {n : Nat} : Flat n .non := ⟨rfl, Nat.zero_le _, rfl⟩
theorem flats {n : Nat} : ∀ {xs : List P}, (∀ x ∈ xs, Flat n x) → PyData.canLayAll0 (pyOf.pyOfs xs) = true ∧ PyData.depthAll (pyOf.pyOfs xs) ≤ n ∧ plainP.plainPs xs = true
  | [], _ => ⟨rfl, Nat.zero_le _, rfl⟩
  | x :: xs, h => by
    obtain ⟨a, b, c⟩ := h x (List.mem_cons_self ..)
    obtain ⟨a', b', c'⟩ := flats fun y hy => h y (List.mem_cons_of_mem _ hy)
    refine ⟨?_, ?_, ?_⟩
    · simp [pyOf.pyOfs, PyData.canLayAll0, a, a']
    · simp [pyOf.pyOfs, PyData.depthAll]
      omega
    · simp [plainP.plainPs, c, c']
theorem Flat.tup {n : Nat} {xs : List P} (h : ∀ x ∈ xs, Flat n x) : Flat (n + 1) (.tup xs) := by
  obtain ⟨a, b, c⟩ := flats h
  refine ⟨?_, ?_, ?_⟩
  · simpa [pyOf, PyData.canLay0] using a
  · simp [pyOf, PyData.depth]; omega
  · unfold plainP; exact c
theorem Flat.shaped {n : Nat} {x : P} (f : Flat n x) (h : n ≤ 64) : SeqAt.shaped (pyOf x) = true := by
  have d := f.dep
  simp only [SeqAt.shaped, f.lay, Bool.true_and, decide_eq_true_eq]
  omega
section
variable {K : PySem.W.Frag} {Θ : Ctx} {h : Hs} {R : D → Hs → Prop} {n : Nat} {x : P}
end
end Kb

/-! Defs as values, called; what the program's top holds: tuples and dicts; a list extended by one that stays. -/
namespace Kb
open PySem PySem.Spec PyProof.Rows L2 RZ
/-- the def at f keeps a promise -/
structure FnAt (P : Program) (w : World) (K : PySem.W.Frag) (mg : Str → Option Value) (base : Heap) (CX : CXT) (k : Nat) (f : Addr) (ps : List Str) (sp : Sp) : Prop where
  ex : ∃ fd, FnOk P w K mg base CX k f fd ps sp ∧ PySem.W.keepIn K (.ref f) = true ∧ Binds K fd ps []
theorem HasF.at_ {P : Program} {w : World} {K : PySem.W.Frag} {mg : Str → Option Value} {base : Heap} {CX : CXT} {k : Nat} {x : Str} {ps : List Str} {sp : Sp} {f : Addr} (h : HasF P w K mg base CX k x ps sp) (hf : mg x = some (.ref f)) : FnAt P w K mg base CX k f ps sp := by
  obtain ⟨g, fd, F, a, b, c⟩ := h.ex
  rw [hf] at a
  cases a
  exact ⟨fd, F, b, c⟩
theorem FnAt.mono {P : Program} {w : World} {K : PySem.W.Frag} {mg : Str → Option Value} {base : Heap} {CX : CXT} {j k : Nat} {f : Addr} {ps : List Str} {sp : Sp} (h : FnAt P w K mg base CX j f ps sp) (hk : j ≤ k) : FnAt P w K mg base CX k f ps sp := by
  obtain ⟨fd, F, b, c⟩ := h.ex
  exact ⟨fd, F.mono hk, b, c⟩
theorem FnAt.callV {X : Cx} {CX : CXT} {k i : Nat} {f : Addr} {ps : List Str} {sp : Sp} {E : XK} {x : Str} {e : Expr} {es : List Expr} {t : TA} {p pos : Pos} (h : FnAt X.prog X.w X.K X.mg X.base CX k f ps sp) (hr : Room k X.A) (hx : Passes CX X E) (hN : X.N[i]? = some x) (ha : PA X (e :: es) t)
    (hv : Vis X.env.scope x := by first | exact Or.inl rfl | exact Or.inr (Or.inl rfl) | exact Or.inr (Or.inr rfl)) (hd : (x == ("__debug__" : Str)) = false := by decide) (hcd : (x == ("__classdict__" : Str)) = false := by decide)
    (he : starEach (e :: es) X.env = (false, eval e X.env) :: starEach es X.env := by rfl) (hpl : (backTo pos (starEach es X.env)).any (·.1) = false := by rfl) : PE X (.Call (.Name x p) (e :: es) [] pos) (ItX.tCallV i f sp E t) := by
  obtain ⟨fd, F, hk, hb⟩ := h.ex
  have G : FnR X.prog X.w X.K X.mg X.base CX k f sp := FnR.imp (F.raw hb .nil) fun vs H Q E q => by rw [List.append_nil]; exact q
  exact ItX.pe_callV G hr hk hx hN hv ha hd hcd he hpl
section
variable {K : PySem.W.Frag} {Θ : Ctx} {env : Env'} {h : Hs} {R : D → Hs → Prop} {E : En} {t : TA}
theorem RD.cls {F : Hp} {ρ : List Addr} {c : Addr} {v : V} (a : RD K F ρ (.p (.cls c)) v) : v = .ref c := by
  cases a with
  | p a => cases a; rfl
theorem ve_callV {i : Nat} {f : Addr} {W : Spc} {E : XK} (hi : env[i]? = some (some (.p (.cls f)))) (q : VA K Θ t env h fun xs h1 => W xs h1 R) : VE K Θ (ItX.tCallV i f (spD K Θ.tabs W) E t) env h R := fun F ρ σ H Q rl e k => by
  obtain ⟨v, h1, h2⟩ := e.get i _ hi
  obtain rfl := h2.cls
  exact ⟨h1, q F ρ σ H _ rl e fun xs h1 vs F1 ρ1 H1 s1 p1 r1 dxs q1 => ⟨xs, h1, F1, ρ1, R, r1.toBase, dxs, q1, fun d h' v F' ρ' H' s3 p3 r3 dv q3 => k d h' v F' ρ' H' (s1.trans s3) (p1.trans p3) ⟨r3, r1.wish.mono s3 p3⟩ dv q3⟩⟩
/-! ### what the top holds -/
/-- a tuple of the top -/
def KTup (K : PySem.W.Frag) (a : Addr) (vs : List V) : Prop := ∃ (o : Obj) (its : Array Value) (n : Nat), K.lookup a = some o ∧ o.cls = .type "tuple" ∧ o.data = .seq its n ∧ its.size ≤ sizeLine ∧ Vals vs its.toList
theorem KTup.sq {a : Addr} {vs : List V} (c : KTup K a vs) (H : Hp) : SqT K H a vs := .inr c
/-- an item of it -/
inductive CK : D → V → Prop
  | str (s : Str) : CK (dS s) (.str s)
  | int (i : Int) : CK (dI i) (.int i)
  | ref (a : Addr) : CK (.p (.cls a)) (.ref a)
theorem CK.rd {F : Hp} {ρ : List Addr} {d : D} {v : V} (c : CK d v) : RD K F ρ d v := by
  cases c with
  | str s => exact .p (.str s)
  | int i => exact .p (.int i)
  | ref a => exact .p (.cls a)
inductive CKs : List D → List V → Prop
  | nil : CKs [] []
  | cons {d : D} {v : V} {ds : List D} {vs : List V} : CK d v → CKs ds vs → CKs (d :: ds) (v :: vs)
theorem CKs.strs : ∀ ys : List Str, CKs (ys.map dS) (ys.map V.str)
  | [] => .nil
  | y :: ys => .cons (.str y) (CKs.strs ys)
theorem CKs.len : ∀ {ds : List D} {vs : List V}, CKs ds vs → ds.length = vs.length
  | _, _, .nil => rfl
  | _, _, .cons _ r => congrArg (· + 1) r.len
theorem CKs.get {i : Nat} {d : D} : ∀ {ds : List D} {vs : List V}, CKs ds vs → ds[i]? = some d → ∃ v, vs[i]? = some v ∧ CK d v
  | _, _, .nil, h => by simp at h
  | _, _, .cons c r, h => by
    cases i with
    | zero => cases h; exact ⟨_, rfl, c⟩
    | succ j =>
      obtain ⟨v, h1, h2⟩ := r.get (i := j) (by simpa using h)
      exact ⟨v, by simpa using h1, h2⟩
theorem vi_seqK {tl : TE} {R : List D → (Hs → Prop) → Hs → Prop} (q : VE K Θ tl env h fun x h1 => ∃ c ds vs, x = .p (.cls c) ∧ KTup K c vs ∧ CKs ds vs ∧ R ds (fun _ => True) h1) : VI K Θ (iSeq K tl) env h R := fun F ρ σ H Q rl e k =>
  q F ρ σ H _ rl e fun x h1 vx F1 ρ1 H1 s1 p1 r1 dx q1 => by
    obtain ⟨c, ds, vs, rfl, hc, ck, q1⟩ := q1
    obtain rfl := dx.cls
    refine .inr ⟨c, rfl, ⟨vs, hc.sq H1⟩, k ds (fun _ => True) h1 _ F1 ρ1 H1 s1 p1 r1 ⟨fun F' ρ' h' H' s p r _ => ?_, fun i F' ρ' h' H' s p r _ hi => ?_, fun i d F' ρ' h' H' x H2 s p r _ hd hy => ?_⟩ q1⟩
    · exact ⟨vs, hc.sq H', by rw [ck.len]; exact Nat.le_refl _⟩
    · rw [ck.len] at hi
      exact ⟨vs, vs[i], hc.sq H', List.getElem?_eq_getElem hi⟩
    · obtain ⟨e1, e2⟩ := hy
      subst e1
      obtain ⟨v, hv, rv⟩ := ck.get hd
      have ev := e2 vs (hc.sq H2)
      rw [hv] at ev; cases ev
      exact ⟨F', Same.refl _, r, rv.rd⟩
end
end Kb

/-! An own list extended by a list of either kind. -/
namespace Kb
open PySem PySem.Spec PyProof.Rows L2 RZ
section
open PySem.AutoSeq1 (wpAny_loadPart')
end
section
variable {X : Cx}
end
section
variable {K : PySem.W.Frag} {Θ : Ctx} {h : Hs} {R : D → Hs → Prop} {x y : D}
end
section
variable {X : Cx} {K : PySem.W.Frag} {w : World}
end
end Kb

/-! Texts read: a tuple of the top as a tuple in data, `in` a tuple, find from a place, replace behind a written text; a promise without errors out of one with errors. -/
namespace Kb
open PySem PySem.Spec PyProof.Rows L2
section
variable {P : Program} {w : World} {K : PySem.W.Frag} {T : Tbs} {mg : Str → Option Value} {base : Heap} {k : Nat} {x : Str} {ps : List Str} {W : SpcX} {W' : Spc}
/-- where it does not raise -/
theorem HasF.calm (h : HasF P w K mg base (L2.CX P w) k x ps (spDX K T W)) (i : ∀ ds h R, W' ds h R → W ds h R fun _ _ => False) : HasF P w K mg base CX0 k x ps (spD K T W') := by
  obtain ⟨f, fd, F, a, b, c⟩ := h.ex
  refine ⟨f, fd, ⟨fun vs H Q E h => ?_, fun A outer s H args us vs Q E hr e0 hb hv h => ?_⟩, a, b, c⟩
  · obtain ⟨ds, h, F1, ρ, R, rl, ra, hw, kq⟩ := h
    exact F.len vs H Q E0 ⟨ds, h, F1, ρ, R, _, rl, ra, i _ _ _ hw, kq, ⟨fun _ _ _ _ _ _ _ _ _ _ _ _ _ z => z.elim, fun _ _ z => by cases z⟩⟩
  · obtain ⟨ds, h, F1, ρ, R, rl, ra, hw, kq⟩ := h
    refine codeAny_mono (F.run A outer s H args us vs Q E0 hr e0 hb hv ⟨ds, h, F1, ρ, R, _, rl, ra, i _ _ _ hw, kq, ⟨fun _ _ _ _ _ _ _ _ _ _ _ _ _ z => z.elim, fun _ _ z => by cases z⟩⟩) fun r s' q => ?_
    cases r with
    | ok v =>
      cases v with
      | ret u => exact q
      | next => exact q.elim
      | brk => exact q.elim
      | cont => exact q.elim
    | error e =>
      obtain ⟨_, _, _, _, _, _, _, _, _, _, _, _, z⟩ := q
      exact z.elim
end
section
variable {X : Cx}
/-- str of a number or of a text -/
def rStr1 : List V → Hp → VK → Prop := fun xs H Q => ∃ i, xs = [.int i] ∧ i.natAbs.log2 < 1920 ∧ Q (.str (toString i)) H
def rStr2 : List V → Hp → VK → Prop := fun xs H Q => ∃ a, xs = [.str a] ∧ Q (.str a) H
def rStrU : List V → Hp → VK → Prop := fun xs H Q => rStr1 xs H Q ∨ rStr2 xs H Q
theorem call_strU : CallR X (.type "str") rStrU := CallR.or (r := rStr1) (r' := rStr2) call_str_int SkE.call_str_str
end
section
variable {K : PySem.W.Frag} {Θ : Ctx} {env : Env'} {h : Hs} {R : D → Hs → Prop} {ta to : TE}
/-- x in a tuple of the top -/
theorem v2_inK {x : Str} {c : Addr} {ns : List Str} (hc : KTup K c (ns.map V.str)) (q : R (dB (decide (x ∈ ns))) h) : V2 K Θ (rInU K) (dS x) (.p (.cls c)) h R := v2_or1 fun F ρ H vx vy Q rl a b k => by
  obtain rfl := a.str
  obtain rfl := b.cls
  refine ⟨_, _, rfl, .inr (hc.sq H), rfl, by simp [flatV], ?_⟩
  show Q (.bl (inV (.str x) (ns.map V.str))) H
  rw [inV_strs]
  exact k _ h _ F ρ H (Same.refl _) (Pre.refl _) rl (.p (.bl _)) q
theorem v2_inTS {x : Str} {ns : List Str} (q : R (dB (decide (x ∈ ns))) h) : V2 K Θ (rInU K) (dS x) (dT (ns.map P.str)) h R := v2_or1 fun F ρ H vx vy Q rl a b k => by
  obtain rfl := a.str
  cases b with
  | p b =>
    cases b with
    | tup b1 b2 =>
      have e := b2.strs
      subst e
      refine ⟨_, _, rfl, .inr (sqT_mono rl.same b1), rfl, by simp [flatV], ?_⟩
      show Q (.bl (inV (.str x) (ns.map V.str))) H
      rw [inV_strs]
      exact k _ h _ F ρ H (Same.refl _) (Pre.refl _) rl (.p (.bl _)) q
theorem v2_ninTI {x : Int} {ns : List Int} (q : R (dB (!decide (x ∈ ns))) h) : V2 K Θ (rNiU K) (dI x) (dT (ns.map P.int)) h R := v2_or1 fun F ρ H vx vy Q rl a b k => by
  obtain rfl := a.int
  cases b with
  | p b =>
    cases b with
    | tup b1 b2 =>
      have e := b2.ints
      subst e
      refine ⟨_, _, rfl, .inr (sqT_mono rl.same b1), rfl, by simp [flatV], ?_⟩
      show Q (.bl (!inV (.int x) (ns.map V.int))) H
      rw [inV_ints]
      exact k _ h _ F ρ H (Same.refl _) (Pre.refl _) rl (.p (.bl _)) q
theorem vm_find3 {a b : Str} {i : Int} (q : R (dI (Txt.find3 a b i)) h) : VM K Θ (fun x xs H Q => ∃ (a b : Str) (i : Int), x = V.str a ∧ xs = [V.str b, .int i] ∧ Q (.int (Txt.find3 a b i)) H) (dS a) [dS b, dI i] h R := fun F ρ H vx vs Q rl x y k => by
  obtain rfl := x.str
  cases y with
  | cons y e =>
    obtain rfl := y.str
    cases e with
    | cons z e =>
      cases e
      obtain rfl := z.int
      exact ⟨a, b, i, rfl, rfl, k _ h _ F ρ H (Same.refl _) (Pre.refl _) rl (.p (.int _)) q⟩
end
end Kb

/-! Tokens of a text: what stands at a place of it. -/
namespace Tz
open PySem PySem.Spec PyProof.Rows L2 Kb SX NumText
def lets : Str := "abcdefghijklmnopqrstuvwxyz"
def digs : Str := "0123456789"
def ofws : Str := "abcdefghijklmnopqrstuvwxyz0123456789_"
def blks : Str := " \n"
def longs : List Str := ["<>", "<=", ">=", "||"]
def shorts : Str := "(),.+-*/=<>"
def kwS : List String := ["select", "distinct", "from", "where", "group", "by", "having", "order", "limit", "as", "join", "left", "on", "union", "all", "except", "intersect", "and", "or", "not", "is", "null", "true", "false", "in", "exists", "case", "when", "then", "else", "end", "count", "sum", "min", "max", "mod", "desc"]
def kws : List Str := kwS.map Str.ofString
abbrev inS (z : Str) (c : Nat) : Bool := decide (c ∈ z.cps.toList)
abbrev run (z : Str) (u : List Nat) : List Nat := u.takeWhile (inS z)
/-- the rest of a text token: what it tells, how much of it is used -/
def quo : List Nat → Option (List Nat × Nat)
  | [] => none
  | c :: r => if c = 39 then (match r with
      | [] => some ([], 1)
      | d :: r' => if d = 39 then (quo r').map fun q => (39 :: q.1, q.2 + 2) else some ([], 1))
    else (quo r).map fun q => (c :: q.1, q.2 + 1)
def kindW (w : List Nat) : Str := if decide (S w ∈ kws) = true then "keyword" else "name"
/-- the token that stands at the beginning: kind, value, how long -/
def tokC (c : Nat) (r : List Nat) : Option (Str × P × Nat) :=
    if inS lets c = true then some (kindW (run ofws (c :: r)), .str (S (run ofws (c :: r))), (run ofws (c :: r)).length)
    else if inS digs c = true then (if 30 < (run digs (c :: r)).length then none else some ("integer", .int (digitsVal (run digs (c :: r)) : Nat), (run digs (c :: r)).length))
    else if c = 39 then (match quo r with
      | none => none
      | some (t, n) => if 2000 < t.length then none else some ("text", .str (S t), n + 1))
    else if c = 36 then (if (run digs r).length = 1 ∨ (run digs r).length = 2 then some ("parameter", .int (digitsVal (run digs r) : Nat), (run digs r).length + 1) else none)
    else if decide (S ((c :: r).take 2) ∈ longs) = true then some ("sign", .str (S ((c :: r).take 2)), 2)
    else if inS shorts c = true then some ("sign", .str (S [c]), 1)
    else none
def tokR : List Nat → Option (Str × P × Nat)
  | [] => none
  | c :: r => tokC c r
abbrev tokP (k : Str) (v : P) (a : Nat) : P := .tup [.str k, v, .int (a : Nat)]
/-- the tokens of what stands from a place on; where it is refused -/
inductive Toks : List Nat → Nat → List P → Option Nat → Prop
  | nil {a : Nat} : Toks [] a [] none
  | blank {c a : Nat} {u : List Nat} {ts : List P} {r : Option Nat} : inS blks c = true → Toks u (a + 1) ts r → Toks (c :: u) a ts r
  | tok {c a n : Nat} {u : List Nat} {k : Str} {v : P} {ts : List P} {r : Option Nat} : inS blks c = false → tokR (c :: u) = some (k, v, n) → 0 < n → n ≤ (c :: u).length → Toks ((c :: u).drop n) (a + n) ts r → Toks (c :: u) a (tokP k v a :: ts) r
  | no {c a : Nat} {u : List Nat} : inS blks c = false → tokR (c :: u) = none → Toks (c :: u) a [] (some a)
/-! ### runs -/
theorem run_all {z : Str} {w u : List Nat} (hw : ∀ c ∈ w, inS z c = true) (hu : ∀ c, u.head? = some c → inS z c = false) : run z (w ++ u) = w := by
  induction w with
  | nil =>
    cases u with
    | nil => rfl
    | cons c u =>
      show List.takeWhile (inS z) (c :: u) = []
      rw [List.takeWhile_cons, hu c rfl]; rfl
  | cons c w ih =>
    show List.takeWhile (inS z) (c :: (w ++ u)) = c :: w
    rw [List.takeWhile_cons, hw c List.mem_cons_self, if_pos rfl]
    exact congrArg (c :: ·) (ih fun d hd => hw d (List.mem_cons_of_mem _ hd))
theorem run_le (z : Str) (u : List Nat) : (run z u).length ≤ u.length := List.Sublist.length_le (List.takeWhile_sublist _)
theorem run_in {z : Str} {u : List Nat} : ∀ c ∈ run z u, inS z c = true := by
  induction u with
  | nil => intro c hc; simp [run] at hc
  | cons d u ih =>
    intro c hc
    unfold run at hc ih
    rw [List.takeWhile_cons] at hc
    cases e : inS z d with
    | false => rw [e] at hc; simp at hc
    | true =>
      rw [e, if_pos rfl] at hc
      rcases List.mem_cons.mp hc with rfl | hc
      · exact e
      · exact ih c hc
theorem run_take {z : Str} {u : List Nat} : u.take (run z u).length = run z u := by
  induction u with
  | nil => rfl
  | cons d u ih =>
    unfold run at ih ⊢
    rw [List.takeWhile_cons]
    cases e : inS z d with
    | false => rfl
    | true =>
      rw [if_pos rfl, List.length_cons, List.take_succ_cons, ih]
theorem dig_ok {w : List Nat} (h : ∀ c ∈ w, inS digs c = true) : w.all (fun c => decide (48 ≤ c) && decide (c ≤ 57)) = true := by
  rw [List.all_eq_true]
  intro c hc
  have all : ∀ d ∈ digs.cps.toList, (decide (48 ≤ d) && decide (d ≤ 57)) = true := by decide +kernel
  exact all c (of_decide_eq_true (h c hc))
theorem dig_in {c : Nat} (h0 : 48 ≤ c) (h1 : c ≤ 57) : inS digs c = true := by
  have all : ∀ k : Fin 10, inS digs (48 + k.val) = true := by decide +kernel
  have z := all ⟨c - 48, by omega⟩
  have e : 48 + (c - 48) = c := by omega
  rw [show 48 + ((⟨c - 48, by omega⟩ : Fin 10).val) = c from e] at z
  exact z
/-! ### texts -/
theorem quo_no {u : List Nat} (h : ∀ c ∈ u, c ≠ 39) : quo u = none := by
  induction u with
  | nil => rfl
  | cons c u ih =>
    unfold quo
    rw [if_neg (h c List.mem_cons_self), ih fun d hd => h d (List.mem_cons_of_mem _ hd)]
    rfl
theorem quo_app {s u : List Nat} (h : ∀ c ∈ s, c ≠ 39) : quo (s ++ u) = (quo u).map fun q => (s ++ q.1, q.2 + s.length) := by
  induction s with
  | nil =>
    rw [List.nil_append]
    cases e : quo u <;> rfl
  | cons c s ih =>
    rw [List.cons_append, quo.eq_def]
    show (if c = 39 then _ else (quo (s ++ u)).map fun q => (c :: q.1, q.2 + 1)) = _
    rw [if_neg (h c List.mem_cons_self), ih fun d hd => h d (List.mem_cons_of_mem _ hd)]
    cases quo u with
    | none => rfl
    | some q => simp; omega
theorem quo_qq {u : List Nat} : quo (39 :: 39 :: u) = (quo u).map fun q => (39 :: q.1, q.2 + 2) := by
  rw [quo.eq_def]
  simp
theorem quo_q {u : List Nat} (h : ∀ c, u.head? = some c → c ≠ 39) : quo (39 :: u) = some ([], 1) := by
  rw [quo.eq_def]
  cases u with
  | nil => simp
  | cons d u => simp [h d rfl]
/-- a text's quotes doubled -/
def esc (t : List Nat) : List Nat := PySem.StrLaws.replL [39] [39, 39] t
theorem esc_nil : esc [] = [] := PySem.StrLaws.replL_nil
theorem esc_q {t : List Nat} : esc (39 :: t) = 39 :: 39 :: esc t := by
  unfold esc
  rw [PySem.StrLaws.replL_hit (by simp) (by simp)]
  rfl
theorem esc_c {c : Nat} {t : List Nat} (h : c ≠ 39) : esc (c :: t) = c :: esc t := by
  unfold esc
  rw [PySem.StrLaws.replL_miss (by simpa using h)]
theorem esc_len (t : List Nat) : (esc t).length ≤ 2 * t.length := by
  induction t with
  | nil => rw [esc_nil]; simp
  | cons c t ih =>
    by_cases h : c = 39
    · subst h
      rw [esc_q]; simp only [List.length_cons]; omega
    · rw [esc_c h]; simp only [List.length_cons]; omega
theorem quo_esc {t u : List Nat} (h : ∀ c, u.head? = some c → c ≠ 39) : quo (esc t ++ 39 :: u) = some (t, (esc t).length + 1) := by
  induction t with
  | nil => rw [esc_nil, List.nil_append, quo_q h]; rfl
  | cons c t ih =>
    by_cases hc : c = 39
    · subst hc
      rw [esc_q, List.cons_append, List.cons_append, quo_qq, ih]
      rfl
    · rw [esc_c hc, List.cons_append, quo.eq_def]
      show (if c = 39 then _ else (quo (esc t ++ 39 :: u)).map fun q => (c :: q.1, q.2 + 1)) = _
      rw [if_neg hc, ih]
      rfl
/-! ### what may stand behind a written token -/
def joinC (p : List Nat) (c : Nat) : Bool :=
  if inS lets (p.head?.getD 0) then inS ofws c
  else if inS ("$0123456789" : Str) (p.head?.getD 0) then inS digs c
  else if p.head?.getD 0 = 39 then decide (c = 39)
  else (inS ("<>|" : Str) (p.getLast?.getD 0) && inS ("=<>|" : Str) c)
def Free (p u : List Nat) : Prop := ∀ c, u.head? = some c → joinC p c = false
theorem free_blank {p u : List Nat} {c : Nat} (h : inS blks c = true) : Free p (c :: u) := by
  intro d hd
  cases hd
  have all : ∀ d ∈ blks.cps.toList, inS ofws d = false ∧ inS digs d = false ∧ decide (d = 39) = false ∧ inS ("=<>|" : Str) d = false := by decide +kernel
  obtain ⟨a1, a2, a3, a4⟩ := all c (of_decide_eq_true h)
  unfold joinC
  rw [a1, a2, a3, a4, Bool.and_false]
  split
  · rfl
  · split
    · rfl
    · split <;> rfl
theorem free_nil {p : List Nat} : Free p [] := fun c h => by cases h
/-- a token that is written: kind, value, the codes -/
inductive Drawn : Str → P → List Nat → Prop
  | word {c : Nat} {w : List Nat} : inS lets c = true → (∀ d ∈ w, inS ofws d = true) → w.length < 100 → Drawn (kindW (c :: w)) (.str (S (c :: w))) (c :: w)
  | int {w : List Nat} : w ≠ [] → (∀ d ∈ w, inS digs d = true) → w.length ≤ 30 → Drawn "integer" (.int (digitsVal w : Nat)) w
  | text {t : List Nat} : t.length ≤ 2000 → Drawn "text" (.str (S t)) (39 :: (esc t ++ [39]))
  | par {w : List Nat} : w ≠ [] → (∀ d ∈ w, inS digs d = true) → w.length ≤ 2 → Drawn "parameter" (.int (digitsVal w : Nat)) (36 :: w)
  | sign {w : List Nat} : w ∈ [[40], [41], [44], [46], [43], [45], [42], [47], [61], [60, 62], [60], [60, 61], [62], [62, 61], [124, 124]] → Drawn "sign" (.str (S w)) w
theorem Drawn.len {k : Str} {v : P} {w : List Nat} (h : Drawn k v w) : 0 < w.length ∧ w.length ≤ 4002 := by
  cases h with
  | word _ _ h => simp only [List.length_cons]; omega
  | int h0 _ h => have := List.length_pos_iff.mpr h0; omega
  | text h => rename_i t; have := esc_len t; simp only [List.length_cons, List.length_append, List.length_nil]; omega
  | par h0 _ h => simp only [List.length_cons]; omega
  | sign h =>
    have all : ∀ w ∈ ([[40], [41], [44], [46], [43], [45], [42], [47], [61], [60, 62], [60], [60, 61], [62], [62, 61], [124, 124]] : List (List Nat)), 0 < w.length ∧ w.length ≤ 4002 := by decide
    exact all w h
theorem Drawn.head {k : Str} {v : P} {w : List Nat} (h : Drawn k v w) : ∃ c u, w = c :: u ∧ inS blks c = false := by
  cases h with
  | word h _ _ =>
    have all : ∀ d ∈ lets.cps.toList, inS blks d = false := by decide +kernel
    exact ⟨_, _, rfl, all _ (of_decide_eq_true h)⟩
  | int h0 h _ =>
    cases w with
    | nil => exact absurd rfl h0
    | cons c w =>
      have all : ∀ d ∈ digs.cps.toList, inS blks d = false := by decide +kernel
      exact ⟨_, _, rfl, all _ (of_decide_eq_true (h c List.mem_cons_self))⟩
  | text h => exact ⟨_, _, rfl, by decide +kernel⟩
  | par h0 _ h => exact ⟨_, _, rfl, by decide +kernel⟩
  | sign h =>
    have all : ∀ w ∈ ([[40], [41], [44], [46], [43], [45], [42], [47], [61], [60, 62], [60], [60, 61], [62], [62, 61], [124, 124]] : List (List Nat)), ∃ c u, w = c :: u ∧ inS blks c = false := by
      intro w hw
      simp only [List.mem_cons, List.mem_nil_iff, or_false] at hw
      rcases hw with rfl | rfl | rfl | rfl | rfl | rfl | rfl | rfl | rfl | rfl | rfl | rfl | rfl | rfl | rfl <;> exact ⟨_, _, rfl, by decide +kernel⟩
    exact all w h
theorem digs_lets {c : Nat} (h : inS digs c = true) : inS lets c = false ∧ c ≠ 39 ∧ c ≠ 36 := by
  have all : ∀ d ∈ digs.cps.toList, inS lets d = false ∧ d ≠ 39 ∧ d ≠ 36 := by decide +kernel
  exact all c (of_decide_eq_true h)
/-- it is read as itself -/
theorem Drawn.read {k : Str} {v : P} {w u : List Nat} (h : Drawn k v w) (f : Free w u) : tokR (w ++ u) = some (k, v, w.length) := by
  cases h with
  | word hc hw hl =>
    rename_i c w
    have fu : ∀ d, u.head? = some d → inS ofws d = false := fun d hd => by
      have z := f d hd
      unfold joinC at z
      rw [show (c :: w).head?.getD 0 = c from rfl, hc, if_pos rfl] at z
      exact z
    have lo : ∀ d ∈ lets.cps.toList, inS ofws d = true := by decide +kernel
    have e : run ofws (c :: w ++ u) = c :: w := run_all (fun d hd => by
      rcases List.mem_cons.mp hd with rfl | hd
      · exact lo _ (of_decide_eq_true hc)
      · exact hw d hd) fu
    rw [List.cons_append] at e ⊢
    show tokC _ _ = _
    unfold tokC
    rw [hc, if_pos rfl, e]
  | int h0 hw hl =>
    cases w with
    | nil => exact absurd rfl h0
    | cons c w =>
      have hc := hw c List.mem_cons_self
      obtain ⟨d1, d2, d3⟩ := digs_lets hc
      have dd : ∀ d ∈ digs.cps.toList, inS ("$0123456789" : Str) d = true := by decide +kernel
      have fu : ∀ d, u.head? = some d → inS digs d = false := fun d hd => by
        have z := f d hd
        unfold joinC at z
        rw [show (c :: w).head?.getD 0 = c from rfl, d1, if_neg (by decide), dd c (of_decide_eq_true hc), if_pos rfl] at z
        exact z
      have e : run digs (c :: w ++ u) = c :: w := run_all hw fu
      rw [List.cons_append] at e ⊢
      show tokC _ _ = _
      unfold tokC
      rw [d1, if_neg (by decide), hc, if_pos rfl, e, if_neg (by omega)]
  | text hl =>
    rename_i t
    have fu : ∀ d, u.head? = some d → d ≠ 39 := fun d hd e => by
      have z := f d hd
      unfold joinC at z
      have e1 : inS lets ((39 :: (esc t ++ [39])).head?.getD 0) = false := by show inS lets 39 = false; decide +kernel
      have e2 : inS ("$0123456789" : Str) ((39 :: (esc t ++ [39])).head?.getD 0) = false := by show inS ("$0123456789" : Str) 39 = false; decide +kernel
      rw [e1, if_neg (by decide), e2, if_neg (by decide), if_pos (show (39 :: (esc t ++ [39])).head?.getD 0 = 39 from rfl), e] at z
      cases z
    have e := quo_esc (t := t) fu
    have e1 : inS lets 39 = false := by decide +kernel
    have e2 : inS digs 39 = false := by decide +kernel
    rw [List.cons_append, List.append_assoc]
    show tokC _ _ = _
    unfold tokC
    rw [e1, if_neg (by decide), e2, if_neg (by decide), if_pos rfl]
    show (match quo (esc t ++ (39 :: u)) with | none => none | some (t, n) => if 2000 < t.length then none else some (("text" : Str), P.str (S t), n + 1)) = _
    rw [e]
    show (if 2000 < t.length then none else some (("text" : Str), P.str (S t), (esc t).length + 1 + 1)) = _
    rw [if_neg (by omega)]
    simp
  | par h0 hw hl =>
    rename_i w
    have e1 : inS lets 36 = false := by decide +kernel
    have e2 : inS digs 36 = false := by decide +kernel
    have e3 : inS ("$0123456789" : Str) 36 = true := by decide +kernel
    have fu : ∀ d, u.head? = some d → inS digs d = false := fun d hd => by
      have z := f d hd
      unfold joinC at z
      rw [show (36 :: w).head?.getD 0 = 36 from rfl, e1, if_neg (by decide), e3, if_pos rfl] at z
      exact z
    have e : run digs (w ++ u) = w := run_all hw fu
    have hp := List.length_pos_iff.mpr h0
    rw [List.cons_append]
    show tokC _ _ = _
    unfold tokC
    rw [e1, if_neg (by decide), e2, if_neg (by decide), if_neg (by decide), if_pos rfl, e, if_pos (by omega)]
    simp
  | sign hw =>
    have fu : inS ("<>|" : Str) (w.getLast?.getD 0) = true → (inS lets (w.head?.getD 0) = false) → (inS ("$0123456789" : Str) (w.head?.getD 0) = false) → (w.head?.getD 0 ≠ 39) → ∀ d, u.head? = some d → inS ("=<>|" : Str) d = false := fun a b c e d hd => by
      have z := f d hd
      unfold joinC at z
      rw [b, if_neg (by decide), c, if_neg (by decide), if_neg e, a, Bool.true_and] at z
      exact z
    have one : ∀ c ∈ [40, 41, 44, 46, 43, 45, 42, 47, 61], ∀ u : List Nat, tokR ([c] ++ u) = some (("sign" : Str), P.str (S [c]), 1) := by
      intro c hc u
      have no : decide (S ((c :: u).take 2) ∈ longs) = false := by
        refine decide_eq_false fun z => ?_
        have hd : ∀ s ∈ longs, s.cps.toList.head?.getD 0 ∉ [40, 41, 44, 46, 43, 45, 42, 47, 61] := by decide +kernel
        refine hd _ z ?_
        show (List.take 2 (c :: u)).head?.getD 0 ∈ _
        exact hc
      have hh : ∀ c ∈ [40, 41, 44, 46, 43, 45, 42, 47, 61], inS lets c = false ∧ inS digs c = false ∧ c ≠ 39 ∧ c ≠ 36 ∧ inS shorts c = true := by decide +kernel
      obtain ⟨a1, a2, a3, a4, a5⟩ := hh c hc
      show tokR (c :: u) = _
      show tokC _ _ = _
      unfold tokC
      rw [a1, if_neg (by decide), a2, if_neg (by decide), if_neg a3, if_neg a4, no, if_neg (by decide), a5, if_pos rfl]
    have lone : ∀ c ∈ [60, 62], (∀ d, u.head? = some d → inS ("=<>|" : Str) d = false) → tokR ([c] ++ u) = some (("sign" : Str), P.str (S [c]), 1) := by
      intro c hc fu
      have no : decide (S ((c :: u).take 2) ∈ longs) = false := by
        refine decide_eq_false fun z => ?_
        have hd : ∀ s ∈ longs, s.cps.toList.length = 2 ∧ inS ("=<>|" : Str) (s.cps.toList.getLast?.getD 0) = true := by decide +kernel
        obtain ⟨z1, z2⟩ := hd _ z
        cases u with
        | nil => cases z1
        | cons d u =>
          have e : (S ((c :: d :: u).take 2)).cps.toList.getLast?.getD 0 = d := rfl
          rw [e, fu d rfl] at z2
          cases z2
      have hh : ∀ c ∈ [60, 62], inS lets c = false ∧ inS digs c = false ∧ c ≠ 39 ∧ c ≠ 36 ∧ inS shorts c = true := by decide +kernel
      obtain ⟨a1, a2, a3, a4, a5⟩ := hh c hc
      show tokR (c :: u) = _
      show tokC _ _ = _
      unfold tokC
      rw [a1, if_neg (by decide), a2, if_neg (by decide), if_neg a3, if_neg a4, no, if_neg (by decide), a5, if_pos rfl]
    have two : ∀ w ∈ ([[60, 62], [60, 61], [62, 61], [124, 124]] : List (List Nat)), tokR (w ++ u) = some (("sign" : Str), P.str (S w), w.length) := by
      intro w hw
      simp only [List.mem_cons, List.mem_nil_iff, or_false] at hw
      have hh : ∀ c ∈ [60, 62, 124], inS lets c = false ∧ inS digs c = false ∧ c ≠ 39 ∧ c ≠ 36 := by decide +kernel
      rcases hw with rfl | rfl | rfl | rfl
      · have yes : decide (S [60, 62] ∈ longs) = true := by decide +kernel
        obtain ⟨a1, a2, a3, a4⟩ := hh 60 (by decide)
        show tokR (60 :: 62 :: u) = _
        show tokC _ _ = _
        unfold tokC
        rw [a1, if_neg (by decide), a2, if_neg (by decide), if_neg a3, if_neg a4, show (60 :: 62 :: u).take 2 = [60, 62] from rfl, yes, if_pos rfl]
        rfl
      · have yes : decide (S [60, 61] ∈ longs) = true := by decide +kernel
        obtain ⟨a1, a2, a3, a4⟩ := hh 60 (by decide)
        show tokR (60 :: 61 :: u) = _
        show tokC _ _ = _
        unfold tokC
        rw [a1, if_neg (by decide), a2, if_neg (by decide), if_neg a3, if_neg a4, show (60 :: 61 :: u).take 2 = [60, 61] from rfl, yes, if_pos rfl]
        rfl
      · have yes : decide (S [62, 61] ∈ longs) = true := by decide +kernel
        obtain ⟨a1, a2, a3, a4⟩ := hh 62 (by decide)
        show tokR (62 :: 61 :: u) = _
        show tokC _ _ = _
        unfold tokC
        rw [a1, if_neg (by decide), a2, if_neg (by decide), if_neg a3, if_neg a4, show (62 :: 61 :: u).take 2 = [62, 61] from rfl, yes, if_pos rfl]
        rfl
      · have yes : decide (S [124, 124] ∈ longs) = true := by decide +kernel
        obtain ⟨a1, a2, a3, a4⟩ := hh 124 (by decide)
        show tokR (124 :: 124 :: u) = _
        show tokC _ _ = _
        unfold tokC
        rw [a1, if_neg (by decide), a2, if_neg (by decide), if_neg a3, if_neg a4, show (124 :: 124 :: u).take 2 = [124, 124] from rfl, yes, if_pos rfl]
        rfl
    simp only [List.mem_cons, List.mem_nil_iff, or_false] at hw
    rcases hw with rfl | rfl | rfl | rfl | rfl | rfl | rfl | rfl | rfl | rfl | rfl | rfl | rfl | rfl | rfl
    · exact one 40 (by decide) u
    · exact one 41 (by decide) u
    · exact one 44 (by decide) u
    · exact one 46 (by decide) u
    · exact one 43 (by decide) u
    · exact one 45 (by decide) u
    · exact one 42 (by decide) u
    · exact one 47 (by decide) u
    · exact one 61 (by decide) u
    · exact two [60, 62] (by decide)
    · exact lone 60 (by decide) (fu (by decide +kernel) (by decide +kernel) (by decide +kernel) (by decide))
    · exact two [60, 61] (by decide)
    · exact lone 62 (by decide) (fu (by decide +kernel) (by decide +kernel) (by decide +kernel) (by decide))
    · exact two [62, 61] (by decide)
    · exact two [124, 124] (by decide)
/-! ### a text that grows -/
theorem toks_blanks {g u : List Nat} {a : Nat} {ts : List P} {r : Option Nat} (hg : ∀ c ∈ g, inS blks c = true) (h : Toks u (a + g.length) ts r) : Toks (g ++ u) a ts r := by
  induction g generalizing a with
  | nil => exact h
  | cons c g ih =>
    refine .blank (hg c List.mem_cons_self) (ih (fun d hd => hg d (List.mem_cons_of_mem _ hd)) ?_)
    rw [List.length_cons] at h
    rw [show a + 1 + g.length = a + (g.length + 1) by omega]
    exact h
theorem toks_tok {k : Str} {v : P} {w u : List Nat} {a : Nat} {ts : List P} {r : Option Nat} (d : Drawn k v w) (f : Free w u) (h : Toks u (a + w.length) ts r) : Toks (w ++ u) a (tokP k v a :: ts) r := by
  have e := d.read f
  obtain ⟨l0, _⟩ := d.len
  obtain ⟨c, w', rfl, hb⟩ := d.head
  refine .tok (n := (c :: w').length) hb e l0 (by show (c :: w').length ≤ (c :: (w' ++ u)).length; rw [List.length_cons, List.length_cons, List.length_append]; omega) ?_
  show Toks (List.drop (c :: w').length ((c :: w') ++ u)) (a + (c :: w').length) ts r
  rw [List.drop_left]
  exact h
/-- what is read of a text so far, whatever follows that may stand behind p -/
def Grown (p l : List Nat) (ts : List P) : Prop := ∀ (u : List Nat) (us : List P) (r : Option Nat), Free p u → Toks u l.length us r → Toks (l ++ u) 0 (ts ++ us) r
theorem grown_gap {g : List Nat} (hg : ∀ c ∈ g, inS blks c = true) (p : List Nat) : Grown p g [] := fun u us r _ h => toks_blanks hg (by rw [Nat.zero_add]; exact h)
theorem Grown.tok {p l g w : List Nat} {ts : List P} {k : Str} {v : P} (G : Grown p l ts) (d : Drawn k v w) (hg : ∀ c ∈ g, inS blks c = true) (hn : joinC p (w.head?.getD 0) = true → g ≠ []) :
    Grown w (l ++ g ++ w) (ts ++ [tokP k v (l ++ g).length]) := fun u us r f h => by
  rw [List.append_assoc, List.append_assoc, List.append_assoc]
  refine G (g ++ (w ++ u)) ([tokP k v (l ++ g).length] ++ us) r ?_ ?_
  · cases g with
    | nil =>
      obtain ⟨c, w', rfl, _⟩ := d.head
      intro x hx
      cases hx
      cases e : joinC p c with
      | false => rfl
      | true => exact absurd rfl (hn e)
    | cons c g => exact free_blank (hg c List.mem_cons_self)
  · refine toks_blanks hg ?_
    rw [← List.length_append]
    refine toks_tok d f ?_
    rw [← List.length_append]
    exact h
theorem Grown.blanks {p l g : List Nat} {ts : List P} (G : Grown p l ts) (hg : ∀ c ∈ g, inS blks c = true) : Toks (l ++ g) 0 ts none := by
  have z := G g [] none (by
    cases g with
    | nil => exact free_nil
    | cons c g => exact free_blank (hg c List.mem_cons_self)) (by
      have z := toks_blanks (u := []) (a := l.length) hg .nil
      rw [List.append_nil] at z
      exact z)
  rw [List.append_nil] at z
  exact z
end Tz

/-! A call without arguments; what is drawn, gathered. -/
namespace Kb
open PySem PySem.Spec PyProof.Rows L2
section
variable {X : Cx} {CX : CXT} {k : Nat} {x : Str} {ps : List Str} {sp : Sp} {E : XK} {p pos : Pos}
theorem HasF.call0 (h : HasF X.prog X.w X.K X.mg X.base CX k x ps sp) (hr : Room k X.A) (hg : Gl X x) (hx : Passes CX X E) (hdb : (x == ("__debug__" : Str)) = false := by decide) :
    PE X (.Call (.Name x p) [] [] pos) (tCall sp [] E tNil) := by
  obtain ⟨f, fd, F, hm, hk, hb⟩ := h.ex
  exact pe_call0 F hr hg hm hk hb .nil hx hdb
end
end Kb

/-! A comprehension whose items are owned; an own list repeated. -/
namespace Kb
open PySem PySem.Spec PyProof.Rows L2
section
variable {K : PySem.W.Frag} {Θ : Ctx} {env : Env'} {h : Hs} {R : D → Hs → Prop}
end
end Kb

/-! Dicts with tuple keys: key in d, key not in d, list(d). -/
namespace Kb
open PySem PySem.Spec PyProof.Rows L2
section
variable {X : Cx}
end
section
variable {K : PySem.W.Frag} {Θ : Ctx} {env : Env'} {h : Hs} {R : D → Hs → Prop}
end
end Kb

/-! sorted(xs), xs tuples whose first items are tuples of three ints, all different; in, not in for plain data. -/
namespace Kb
open PySem PySem.Spec PyProof.Rows L2
open PySem.W (dataLt)
section
variable {prog : Program} {w : World} {A : Around} {s : Shared}
end
section
variable {X : Cx}
end
section
variable {K : PySem.W.Frag} {Θ : Ctx} {env : Env'} {h : Hs} {R : D → Hs → Prop}
end
end Kb

/-! The pure world of the store laws: rows, kept capabilities, what is told of a capability, paths. -/
namespace Wd
abbrev Key := Int × Int × Int
abbrev Rts := List (Bool × Bool × Bool)
inductive Pub where
  | grant (h : Int) (r : Rts)
  | revoke (c : Option Key)
  | mark
structure Row where
  a : Int
  n : Int
  hd : List Int
  cap : Option Key
  pub : List Pub
  pt : List Kb.P
structure Ent where
  k : Key
  par : Option Key
  hol : Int
  rts : Rts
structure Wld where
  m : Int
  rows : List Row
  cut : List Int
  caps : List Ent
  kp : List (Option (List Kb.P × List Kb.P × List Kb.P))
abbrev Told := Option Key × Int × Rts
def Pub.told (cap : Option Key) : Pub → Option Told
  | .grant h r => some (cap, h, r)
  | _ => none
def rowOf (w : Wld) (a b : Int) : Option Row := w.rows.find? fun r => decide (r.a = a ∧ r.n = b)
def rowTold (r : Option Row) (p : Int) : Option Told :=
  match r with
  | none => none
  | some r => if 0 ≤ p then (match r.pub[p.toNat]? with | some u => u.told r.cap | none => none) else none
def told (w : Wld) (c : Key) : Option Told :=
  match w.caps.find? fun e => decide (e.k = c) with
  | some e => some (e.par, e.hol, e.rts)
  | none => rowTold (rowOf w c.1 c.2.1) c.2.2
def par (w : Wld) (c : Key) : Option (Option Key) := (told w c).map (·.1)
def isKept (w : Wld) (c : Key) : Bool := w.caps.any fun e => decide (e.k = c)
/-- the chain to None, if it is shorter than that -/
def path (t : Key → Option (Option Key)) : Nat → Option Key → Option (List Key)
  | 0, _ => none
  | _ + 1, none => some []
  | n + 1, some k => (t k).bind fun p => (path t n p).map (k :: ·)
section
variable {t : Key → Option (Option Key)}
end
/-- the chain of a capability -/
def pathW (w : Wld) (c : Option Key) : Option (List Key) := path (par w) 40 c
end Wd

/-! Rows of a world: numbers that follow on each other; what is found by a name. -/
namespace Wd
variable {kp : List (Option (List Kb.P × List Kb.P × List Kb.P))}
def ofA (a : Int) (rows : List Row) : List Row := rows.filter fun r => decide (r.a = a)
def cutA (cut : List Int) (a : Int) : Int := cut[a.toNat]?.getD 0
def CapOk (m : Int) (c : Option Key) : Prop := ∀ k, c = some k → 0 ≤ k.1 ∧ k.1 < m ∧ 1 ≤ k.2.1 ∧ 0 ≤ k.2.2
def cnt (rows : List Row) (a : Int) : Nat := (ofA a rows).length
def pubSum (rows : List Row) : Nat := (rows.map fun r => r.pub.length).sum
theorem pubSum_app (xs ys : List Row) : pubSum (xs ++ ys) = pubSum xs + pubSum ys := by unfold pubSum; rw [List.map_append, List.sum_append_nat]
end Wd

/-! What is kept of rows that are cut away. -/
namespace Wd
variable {kp : List (Option (List Kb.P × List Kb.P × List Kb.P))}
/-- a row that is cut away -/
def isCut (cut : List Int) (r : Row) : Bool := decide (r.n ≤ cutA cut r.a)
def EntOk (m : Int) (e : Ent) : Prop := CapOk m (some e.k) ∧ CapOk m e.par ∧ e.rts.length = 4 ∧ 0 ≤ e.hol ∧ e.hol < 6
structure KInv (m : Int) (rows : List Row) (cut : List Int) (i p : Nat) (L : List Ent) : Prop where
  nd : (L.map (·.k)).Nodup
  src : ∀ e ∈ L, ∃ (j : Nat) (r : Row) (q : Nat), rows[j]? = some r ∧ e.k = (r.a, r.n, (q : Int)) ∧ q < r.pub.length ∧ isCut cut r = true ∧ (j < i ∨ (j = i ∧ q < p)) ∧ EntOk m e
  par : ∀ (x : Nat) (e : Ent), L[x]? = some e → e.par = none ∨ ∃ (y : Nat) (e' : Ent), y < x ∧ L[y]? = some e' ∧ e.par = some e'.k
  len : L.length ≤ pubSum ((rows.take i).filter (isCut cut)) + p
namespace KInv
variable {m : Int} {rows : List Row} {cut : List Int} {i p : Nat} {L : List Ent}
theorem start : KInv m rows cut 0 0 [] := ⟨.nil, (fun e h => by cases h), (fun x e h => by simp at h), by simp⟩
theorem take_succ {r : Row} (h : rows[i]? = some r) : rows.take (i + 1) = rows.take i ++ [r] := by
  rw [List.take_add_one, h]; rfl
theorem skip (k : KInv m rows cut i 0 L) {r : Row} (h : rows[i]? = some r) : KInv m rows cut (i + 1) 0 L := by
  refine ⟨k.nd, fun e he => ?_, k.par, ?_⟩
  · obtain ⟨j, r', q, h1, h2, h3, h4, h5, h6⟩ := k.src e he
    exact ⟨j, r', q, h1, h2, h3, h4, .inl (by omega), h6⟩
  · have := k.len
    rw [take_succ h, List.filter_append, pubSum_app]
    omega
theorem next (k : KInv m rows cut i p L) : KInv m rows cut i (p + 1) L := by
  refine ⟨k.nd, fun e he => ?_, k.par, by have := k.len; omega⟩
  obtain ⟨j, r', q, h1, h2, h3, h4, h5, h6⟩ := k.src e he
  exact ⟨j, r', q, h1, h2, h3, h4, by omega, h6⟩
theorem done (k : KInv m rows cut i p L) {r : Row} (h : rows[i]? = some r) (hc : isCut cut r = true) (hp : p ≤ r.pub.length) : KInv m rows cut (i + 1) 0 L := by
  refine ⟨k.nd, fun e he => ?_, k.par, ?_⟩
  · obtain ⟨j, r', q, h1, h2, h3, h4, h5, h6⟩ := k.src e he
    exact ⟨j, r', q, h1, h2, h3, h4, .inl (by omega), h6⟩
  · have := k.len
    rw [take_succ h, List.filter_append, pubSum_app, List.filter_cons_of_pos hc]
    have : pubSum [r] = r.pub.length := by simp [pubSum]
    rw [List.filter_nil, this]
    omega
end KInv
end Wd

/-! What is fit, what is revoked. -/
namespace Wd
def inPast (a b : Int) (r : Row) : Bool := decide (0 ≤ a) && decide (a < (r.hd.length : Nat)) && decide (1 ≤ b) && decide (b ≤ r.hd[a.toNat]?.getD 0)
def heardCut (w : Wld) (r : Row) : Bool := (r.hd.zip w.cut).all fun q => decide (q.2 ≤ q.1)
abbrev Rt := Bool × Bool × Bool
def mayGive (o g : Rt) : Bool := (!g.1 || (o.1 && o.2.2)) && (!g.2.1 || (o.2.1 && o.2.2)) && (!g.2.2 || (o.2.2 && o.2.2))
def mayGrant (own given : Rts) : Bool := (own.zip given).all fun q => mayGive q.1 q.2
def fromBefore (w : Wld) (c : Option Key) (r : Row) : Bool := match c with
  | none => true
  | some k => isKept w k || inPast k.1 k.2.1 r
def actFit (rts : Rts) (cap : Option Key) : Pub → Bool
  | .grant _ g => mayGrant rts g
  | .mark => cap.isNone
  | .revoke _ => true
def fullR : Rts := [(true, true, true), (true, true, true), (true, true, true), (true, true, true)]
/-- what is told of a capability that is there -/
def infoW (w : Wld) (c : Option Key) : Option Told := match c with
  | none => some (none, 0, fullR)
  | some k => match pathW w c with
    | none => none
    | some _ => told w k
def isFit (w : Wld) (r : Row) : Bool := match infoW w r.cap with
  | none => false
  | some (_, hol, rts) => decide (hol = r.a) && heardCut w r && fromBefore w r.cap r && r.pub.all (actFit rts r.cap)
/-- the path of a capability, with None -/
def pathR (w : Wld) (c : Option Key) : List (Option Key) := match pathW w c with
  | none => []
  | some ks => ks.map some ++ [none]
def mayRevoke (w : Wld) (r : Row) (c : Option Key) : Bool := !decide (c = r.cap) && decide (r.cap ∈ pathR w c) && fromBefore w c r
def revStep (w : Wld) (r : Row) (acc : List (Option Key)) : Pub → List (Option Key)
  | .revoke c => if (!decide (c ∈ acc) && mayRevoke w r c) = true then acc ++ [c] else acc
  | _ => acc
def revokedBy (w : Wld) (r : Row) : List (Option Key) := r.pub.foldl (revStep w r) []
end Wd

/-! Verdicts taken as given: what is said, what is held, what may be read. -/
namespace Wd
/-- the name is of a row, and what is said of it -/
def said (w : Wld) (v : Int → Int → Bool) (a b : Int) : Bool := (rowOf w a b).isSome && v a b
def hasSeal (r : Row) : Bool := r.pub.any fun u => match u with | .mark => true | _ => false
end Wd

/-! Rows whose past is whole; rows that differ in their parts alone. -/
namespace Wd
end Wd

/-! Undos, what is closed, what takes effect. -/
namespace Wd
end Wd

/-! The verdicts: decided from the top downwards. -/
namespace Wd
def rel (r s : Row) : Bool := decide (r.a = s.a ∧ r.n = s.n) || (inPast r.a r.n s || inPast s.a s.n r)
/-- how far from the top -/
def dep (w : Wld) (r : Row) : Nat := (pathR w r.cap).length
/-- no revocation of o hits r, but of what r had told it -/
def spares (w : Wld) (r o : Row) : Bool := (revokedBy w o).all fun c => !decide (c ∈ pathR w r.cap) || inPast r.a r.n o
def vf (w : Wld) : Nat → Row → Bool
  | 0, _ => false
  | n + 1, r => isFit w r && ((match r.cap with
      | none => true
      | some k => isKept w k || (match rowOf w k.1 k.2.1 with | some g => vf w n g | none => false)) &&
      w.rows.all fun o => (!(isFit w o && hasSeal o) || rel o r) && (!vf w n o || spares w r o))
def vr (w : Wld) (r : Row) : Bool := vf w 41 r
def vd (w : Wld) (a b : Int) : Bool := match rowOf w a b with
  | some r => vr w r
  | none => false
/-- what is said behind these rows -/
def vP (w : Wld) (D : List Row) (a b : Int) : Bool := (D.any fun g => decide (g.a = a ∧ g.n = b)) && vd w a b
end Wd

/-! The verdicts, whatever the order is in which they are decided, those nearer to the top first. -/
namespace Wd
end Wd

/-! A plain row more turns no verdict. -/
namespace Wd
section
variable {w w' : Wld} {r : Row}
end
end Wd

/-! A drawn row more behind a cut. -/
namespace Wd
def more (w : Wld) (r : Row) : Wld := { w with rows := w.rows ++ [r] }
end Wd

/-! What lies in the past of an allowed seal stays as it is, whatever comes later. -/
namespace Wd
section
variable {w w' : Wld} {r : Row}
end
section
variable {w w' : Wld} {r x : Row}
end
end Wd

/-! in, not in for plain data; the store's world as data. -/
namespace Kb
open PySem PySem.Spec PyProof.Rows L2
section
variable {X : Cx} {K : PySem.W.Frag}
end
section
variable {K : PySem.W.Frag} {Θ : Ctx} {env : Env'} {h : Hs} {R : D → Hs → Prop}
end
/-! ### capabilities, acts, rows as data -/
section
variable {K : PySem.W.Frag} {Θ : Ctx} {env : Env'} {h : Hs} {R : D → Hs → Prop}
end
end Kb

/-! Comprehensions, any, all over a list of data given by a function. -/
namespace Kb
open PySem PySem.Spec PyProof.Rows L2 Gx
section
variable {K : PySem.W.Frag} {Θ : Ctx} {env : Env'} {h : Hs} {R : D → Hs → Prop}
end
end Kb

/-! while by a number that falls. -/
namespace Kb
open PySem PySem.Spec PyProof.Rows L2 RZ
section
variable {K : PySem.W.Frag} {Θ : Ctx} {env : Env'} {h : Hs} {R : D → Hs → Prop}
theorem least_ex {p : Nat → Prop} : ∀ {n : Nat}, p n → ∃ m, p m ∧ ∀ k, p k → m ≤ k := by
  intro n
  induction n using Nat.strongRecOn with
  | _ n ih =>
    intro hn
    by_cases h : ∃ k, k < n ∧ p k
    · obtain ⟨k, h1, h2⟩ := h
      exact ih k h1 h2
    · exact ⟨n, hn, fun k hk => Nat.le_of_not_lt fun z => h ⟨k, z, hk⟩⟩
open Classical in
noncomputable def least (p : Nat → Prop) : Nat := if h : ∃ m, p m ∧ ∀ k, p k → m ≤ k then h.choose else 0
theorem least_spec {p : Nat → Prop} {n : Nat} (hn : p n) : p (least p) ∧ ∀ k, p k → least p ≤ k := by
  have e := least_ex hn
  unfold least
  rw [dif_pos e]
  exact e.choose_spec
theorem vs_whileN {c : TT} {tb : TS} {E : En} (Inv : Nat → Env' → Hs → Prop) {n0 : Nat} (i0 : Inv n0 env h)
    (turn : ∀ n env h, Inv n env h → VT K Θ c env h fun b h1 => if b = true then VS K Θ tb { E with nx := fun env' h' => ∃ m, m < n ∧ Inv m env' h', ct := fun env' h' => ∃ m, m < n ∧ Inv m env' h', bk := E.nx } env h1 else E.nx env h1) :
    VS K Θ (tWhile c tb) E env h := by
  refine vs_while (fun env h => ∃ n, Inv n env h) (fun env h => least fun n => Inv n env h) ⟨n0, i0⟩ fun env h ⟨n, i⟩ => ?_
  obtain ⟨l1, l2⟩ := least_spec (p := fun n => Inv n env h) i
  refine (turn _ env h l1).imp fun b h1 q => ?_
  cases b with
  | false => exact q
  | true =>
    rw [if_pos rfl] at q ⊢
    refine q.imp (fun e h2 ⟨m, hm, im⟩ => ?_) (fun _ _ z => z) (fun _ _ z => z) (fun e h2 ⟨m, hm, im⟩ => ?_)
    · exact ⟨⟨m, im⟩, Nat.lt_of_le_of_lt ((least_spec (p := fun n => Inv n e h2) im).2 m im) hm⟩
    · exact ⟨⟨m, im⟩, Nat.lt_of_le_of_lt ((least_spec (p := fun n => Inv n e h2) im).2 m im) hm⟩
/-! ### tuples of the top -/
/-- what is known behind a statement -/
theorem vs_mid {t1 : TS} {E : En} (I : Env' → Hs → Prop) (q : VS K Θ t1 { E with nx := I } env h) (k : ∀ env h, I env h → E.nx env h) : VS K Θ t1 E env h := q.imp k (fun _ _ z => z) (fun _ _ z => z) (fun _ _ z => z)
end
end Kb

/-! What is owned: what stays, lists of own lists. -/
namespace Kb
open PySem PySem.Spec PyProof.Rows L2
theorem lt_of_get {h : Hs} {n : Nat} {o : Option OO} (e : h[n]? = some o) : n < h.length := (List.getElem?_eq_some_iff.mp e).1
theorem get_push {h x : Hs} {n : Nat} {o : Option OO} (e : h[n]? = some o) : (h ++ x)[n]? = some o := by rw [List.getElem?_append_left (lt_of_get e)]; exact e
theorem get_put {h : Hs} {n m : Nat} {o x : Option OO} (e : h[n]? = some o) (ne : m ≠ n) : (h.set m x)[n]? = some o := by rw [List.getElem?_set_ne ne]; exact e
section
variable {K : PySem.W.Frag} {Θ : Ctx} {R : D → Hs → Prop}
end
section
variable {K : PySem.W.Frag} {Θ : Ctx} {env : Env'} {h : Hs} {R : D → Hs → Prop}
end
/-- an own list of own lists of ints -/
structure LL (h : Hs) (o : Nat) (js : List Nat) (xss : List (List Int)) : Prop where
  out : h[o]? = some (some (.lst (js.map D.own)))
  len : js.length = xss.length
  inn : ∀ (k j : Nat) (xs : List Int), js[k]? = some j → xss[k]? = some xs → h[j]? = some (some (.lst (xs.map dI)))
  nd : (o :: js).Nodup
namespace LL
variable {h : Hs} {o : Nat} {js : List Nat} {xss : List (List Int)}
theorem push (L : LL h o js xss) (x : Hs) : LL (h ++ x) o js xss := ⟨get_push L.out, L.len, fun k j xs a b => get_push (L.inn k j xs a b), L.nd⟩
theorem put (L : LL h o js xss) {n : Nat} (x : Option OO) (hn : n ≠ o) (hj : n ∉ js) : LL (h.set n x) o js xss :=
  ⟨get_put L.out hn, L.len, fun k j xs a b => get_put (L.inn k j xs a b) fun z => hj (z ▸ List.mem_of_getElem? a), L.nd⟩
theorem inj (L : LL h o js xss) {k k' j : Nat} (e : js[k]? = some j) (e' : js[k']? = some j) : k = k' := by
  obtain ⟨h1, h2⟩ := List.getElem?_eq_some_iff.mp e
  obtain ⟨h3, h4⟩ := List.getElem?_eq_some_iff.mp e'
  have z := List.pairwise_iff_getElem.mp (List.nodup_cons.mp L.nd).2
  rcases Nat.lt_trichotomy k k' with g | g | g
  · exact absurd (h2.trans h4.symm) (z k k' h1 h3 g)
  · exact g
  · exact absurd (h4.trans h2.symm) (z k' k h3 h1 g)
theorem lt (L : LL h o js xss) : ∀ j ∈ js, j < h.length := fun j hm => by
  obtain ⟨i, hi, e⟩ := List.getElem_of_mem hm
  have e1 : js[i]? = some j := by rw [List.getElem?_eq_getElem hi, e]
  have hx : i < xss.length := by rw [← L.len]; exact hi
  exact lt_of_get (L.inn i j _ e1 (List.getElem?_eq_getElem hx))
end LL
end Kb

/-! zip(t, l), t a tuple and l a list: the machine's steps, the walk, its rule. -/
namespace Kb
open PySem PySem.Spec PyProof.Rows L2 RZ
section
variable {prog : Program} {w : World} {A : Around} {E : Value → Shared → Prop} {s : Shared}
end
section
variable {K : PySem.W.Frag} {Θ : Ctx} {env : Env'} {h : Hs} {R : D → Hs → Prop}
end
end Kb

/-! Dicts with tuple keys asked for None. -/
namespace Kb
open PySem PySem.Spec PyProof.Rows L2
section
variable {prog : Program} {w : World} {K : Type} [DecidableEq K] {knd : KeyKind prog w K} {A : Around} {E : Value → Shared → Prop} {s : Shared}
theorem quiet_none {stored : List Value} {Q : Bool → Shared → Prop} (hst : ∀ v ∈ stored, ∃ k' b, v = .ref b ∧ (tupleKind knd).is s.heap k' b) (h : Q false s) : wpAny (model prog w) A (tableMayTell .none stored) Q E s := by
  unfold tableMayTell
  split
  · exact wpAny_pure h
  · refine wpAny_bind (QuietAt.byValue (n := 8) rfl _ _ _ ?_)
    simp only [Bool.not_true, Bool.false_eq_true, if_false]
    refine wpAny_bind ?_
    refine wpAny_forIn_list _ (fun rest r s' => s' = s ∧ r = (none, ()) ∧ ∀ v ∈ rest, ∃ k' b, v = .ref b ∧ (tupleKind knd).is s.heap k' b) _ ?_ ?_ _ _ ⟨rfl, rfl, hst⟩
    · rintro x rest r s' ⟨rfl, rfl, hr⟩
      obtain ⟨k', b, rfl, hb⟩ := hr x List.mem_cons_self
      refine wpAny_bind ((tupleKind knd).quiet hb ?_)
      simp only [Bool.not_true, Bool.false_eq_true, if_false]
      exact wpAny_pure ⟨rfl, rfl, fun v hv => hr v (List.mem_cons_of_mem _ hv)⟩
    · rintro r s' ⟨rfl, rfl, _⟩
      exact wpAny_pure h
theorem find_none {d : Addr} {o : Obj} {es ep} {xs : List (List K × Addr × Value)} {hv : Int} {Q : Option Nat → Shared → Prop} (hu : A.units < cLine)
    (ho : s.heap.get? d = some o) (hd : o.data = .dict es ep) (he : es.toList = xs.map (entryOfKey (tupleKind knd))) (his : ∀ x ∈ xs, (tupleKind knd).is s.heap x.1 x.2.1)
    (h : Q none s) : wpAny (model prog w) A (dictFind d .none hv) Q E s := by
  have hmem : ∀ (i : Nat) (e : DictEntry), es[i]? = some e → ∃ x ∈ xs, e.key = .ref x.2.1 := by
    intro i e hin
    have : e ∈ xs.map (entryOfKey (tupleKind knd)) := he ▸ Array.mem_toList_iff.mpr (Array.mem_of_getElem? hin)
    obtain ⟨x, hx, rfl⟩ := List.mem_map.mp this
    exact ⟨x, hx, rfl⟩
  have hst : ∀ v ∈ (placesWithHash es.size (fun i => es[i]?.map (·.hash)) hv).filterMap (fun i => es[i]?.map (·.key)), ∃ k' b, v = .ref b ∧ (tupleKind knd).is s.heap k' b := by
    intro v hv
    obtain ⟨i, _, hi⟩ := List.mem_filterMap.mp hv
    cases hei : es[i]? with
    | none => rw [hei] at hi; cases hi
    | some e =>
      rw [hei] at hi
      obtain rfl : e.key = v := by simpa using hi
      obtain ⟨x, hx, ex⟩ := hmem i e hei
      exact ⟨x.1, x.2.1, ex, his x hx⟩
  unfold dictFind
  try with_reducible refine wpAny_holding ?_
  refine wpAny_bind (wpAny_dictEntries ho hd ?_)
  dsimp only
  by_cases hall : ((Value.none :: (placesWithHash es.size (fun i => es[i]?.map (·.hash)) hv).filterMap (fun i => es[i]?.map (·.key))).all carriedByValue) = true
  · rw [if_pos hall]
    have hno : ∀ i ∈ placesWithHash es.size (fun i => es[i]?.map (·.hash)) hv, es[i]? = none := by
      intro i hi
      cases hei : es[i]? with
      | none => rfl
      | some e =>
        obtain ⟨x, hx, ex⟩ := hmem i e hei
        have hk : e.key ∈ (placesWithHash es.size (fun i => es[i]?.map (·.hash)) hv).filterMap (fun i => es[i]?.map (·.key)) := List.mem_filterMap.mpr ⟨i, hi, by rw [hei]; rfl⟩
        have := List.all_eq_true.mp hall e.key (List.mem_cons_of_mem _ hk)
        rw [ex] at this
        exact nomatch this
    unfold dictWalkPlain
    refine wpAny_bind ?_
    refine wpAny_forIn_list _ (fun rest r s' => s' = s ∧ r = (none, ()) ∧ ∀ i ∈ rest, es[i]? = none) _ ?_ ?_ _ _ ⟨rfl, rfl, hno⟩
    · rintro x rest r s' ⟨rfl, rfl, hr⟩
      rw [hr x List.mem_cons_self]
      exact wpAny_pure ⟨rfl, rfl, fun v hv => hr v (List.mem_cons_of_mem _ hv)⟩
    · rintro r s' ⟨rfl, rfl, _⟩
      exact wpAny_pure h
  · rw [if_neg hall]
    by_cases hone : (((placesWithHash es.size (fun i => es[i]?.map (·.hash)) hv).filterMap (fun i => es[i]?.map (·.key))) == [Value.none]) = true <;>
    (first | rw [if_pos hone] | rw [if_neg hone]) <;> (first | refine wpAny_bind (wpAny_pure ?_) | refine wpAny_bind (quiet_none hst ?_)) <;> (
      rw [if_neg (by simp)]
      refine wpAny_bind ?_
      refine wpAny_forIn_list _ (fun rest b s' => s' = s ∧ b = (none, none)) _ ?_ ?_ _ _ ⟨rfl, rfl⟩
      · rintro x rest b s' ⟨rfl, rfl⟩
        cases hex : es[x]? with
        | none => exact wpAny_pure ⟨rfl, rfl⟩
        | some e =>
          obtain ⟨y, hy, ey⟩ := hmem x e hex
          dsimp only
          by_cases hh : (e.hash == hv) = true
          · rw [if_pos hh]
            have ht : ∃ vs, s'.heap.IsTuple y.2.1 vs := by
              obtain ⟨o', vs, n, t1, t2, t3, _⟩ := his y hy
              exact ⟨vs, o', t1, t2, n, t3⟩
            obtain ⟨vs, ht⟩ := ht
            refine wpAny_bind (wpAny_dictEpoch ho hd (wpAny_bind ?_))
            rw [ey]
            refine SeqAt.EqAt.tuple_none ht hu prog w E _ (wpAny_bind (wpAny_dictEpoch ho hd ?_))
            show wpAny _ _ (if (ep != ep) = true then _ else _) _ E _
            rw [if_neg (by simp)]
            simp only [Bool.false_eq_true, if_false]
            refine wpAny_bind (wpAny_rule ?_)
            first | rw [if_neg (by simp)] | skip
            first
              | exact wpAny_pure ⟨rfl, rfl⟩
              | exact wpAny_bind (wpAny_pure (wpAny_pure ⟨rfl, rfl⟩))
          · rw [if_neg hh]
            exact wpAny_pure ⟨rfl, rfl⟩
      · rintro b s' ⟨rfl, rfl⟩
        exact wpAny_pure h)
end
section
variable {X : Cx}
end
section
variable {K : PySem.W.Frag} {Θ : Ctx} {env : Env'} {h : Hs} {R : D → Hs → Prop}
end
end Kb

/-! zip(l, t), l a list and t a tuple. -/
namespace Kb
open PySem PySem.Spec PyProof.Rows L2 RZ
section
variable {prog : Program} {w : World} {A : Around} {E : Value → Shared → Prop} {s : Shared}
end
section
variable {K : PySem.W.Frag} {Θ : Ctx} {env : Env'} {h : Hs} {R : D → Hs → Prop}
end
end Kb

/-! enumerate(t), t a tuple. -/
namespace Kb
open PySem PySem.Spec PyProof.Rows L2 RZ
section
variable {prog : Program} {w : World} {A : Around} {E : Value → Shared → Prop} {s : Shared}
end
section
variable {K : PySem.W.Frag} {Θ : Ctx} {env : Env'} {h : Hs}
end
end Kb

/-! Comprehensions with two sources, given by functions. -/
namespace Kb
open PySem PySem.Spec PyProof.Rows L2 Gx
section
variable {K : PySem.W.Frag} {Θ : Ctx} {env : Env'} {h : Hs} {R : D → Hs → Prop}
end
end Kb

/-! d[k], d an own dict with tuple keys. -/
namespace Kb
open PySem PySem.Spec PyProof.Rows L2 Gx
section
variable {K : PySem.W.Frag} {Θ : Ctx} {env : Env'} {h : Hs} {R : D → Hs → Prop}
end
end Kb

/-! sorted(xs), xs tuples of three ints: in order. -/
namespace Kb
open PySem PySem.Spec PyProof.Rows L2
section
variable {prog : Program} {w : World} {A : Around} {s : Shared}
end
section
variable {X : Cx}
end
section
variable {K : PySem.W.Frag} {Θ : Ctx} {env : Env'} {h : Hs} {R : D → Hs → Prop}
end
end Kb

/-! len(d), d an own dict with tuple keys. -/
namespace Kb
open PySem PySem.Spec PyProof.Rows L2 Gx
section
variable {K : PySem.W.Frag} {Θ : Ctx} {env : Env'} {h : Hs} {R : D → Hs → Prop}
end
end Kb

/-! Many own lists, one in another, frozen at once. -/
namespace Kb
open PySem PySem.Spec PyProof.Rows L2
section
variable {K : PySem.W.Frag} {Θ : Ctx} {T : Tbs}
open Classical in
end
end Kb

/-! Rows that stand there as own lists, with own parts. -/
namespace Kb
open PySem PySem.Spec PyProof.Rows L2
section
variable {h : Hs} {o : Nat} {L : List RC}
end
/-! ### a world with own kept lists -/
section
variable {h : Hs} {o i : Nat} {w : Wd.Wld}
end
end Kb

/-! A dict made by a comprehension, its keys tuples. -/
namespace Kb
open PySem PySem.Spec PyProof.Rows L2
section
variable {X : Cx} {tg iter kx vx : Expr} {ifs : List Expr} {scope : Scope} {own : List (Str × Nat)} {pos : Pos} {wi : TI} {g : TG} {tt : TT} {tk tv : TE}
end
section
variable {K : PySem.W.Frag} {Θ : Ctx} {env : Env'} {h : Hs} {R : D → Hs → Prop}
end
end Kb

/-! An own dict with tuple keys: isinstance, clear. -/
namespace Kb
open PySem PySem.Spec PyProof.Rows L2
section
variable {K : PySem.W.Frag} {Θ : Ctx} {env : Env'} {h : Hs} {R : D → Hs → Prop}
end
end Kb

/-! x or y, any values. -/
namespace Kb
open PySem PySem.Spec PyProof.Rows L2
section
variable {K : PySem.W.Frag} {Θ : Ctx} {env : Env'} {h : Hs} {R : D → Hs → Prop}
end
end Kb

/-! sorted(range(..), key=lambda x: ..): the lambda's own context, the calls, the sorting. -/
namespace Kb
open PySem PySem.Spec PyProof.Rows L2 LamX
open PySem.W (dataLe KeyedOut AllAlike Sortable)
section
variable {X : Cx} {pins : List (Addr × Obj)} {σ : L2.St} {H HZ : Hp} {s s1 : Shared}
end
end Kb

/-! sorted(range(..), key=lambda x: ..): the sorting. -/
namespace Kb
open PySem PySem.Spec PyProof.Rows L2 LamX
open PySem.W (dataLe KeyedOut AllAlike Sortable)
section
variable {X : Cx} {pins : List (Addr × Obj)} {σ : L2.St} {H : Hp} {s : Shared}
end
end Kb

/-! sorted(range(n), key=lambda x: ..), the whole expression. -/
namespace Kb
open PySem PySem.Spec PyProof.Rows L2 LamX
open PySem.W (dataLe KeyedOut AllAlike Sortable)
section
variable {prog : Program} {w : World} {A : Around} {E : Value → Shared → Prop} {s : Shared}
end
section
variable {X : Cx}
end
end Kb

/-! sorted(range(n), key=lambda x: ..), in data. -/
namespace Kb
open PySem PySem.Spec PyProof.Rows L2 LamX
open PySem.W (AllAlike Sortable)
section
variable {K : PySem.W.Frag} {Θ : Ctx} {env : Env'} {h : Hs} {R : D → Hs → Prop}
end
end Kb

/-! Own dicts with tuple keys: setdefault; get with a default, asked for a tuple or for None. -/
namespace Kb
open PySem PySem.Spec PyProof.Rows L2
section
variable {X : Cx}
end
section
variable {K : PySem.W.Frag} {Θ : Ctx} {env : Env'} {h : Hs} {R : D → Hs → Prop}
end
end Kb

/-! Sorted by one number. -/
namespace Kb
open PySem PySem.Spec PyProof.Rows L2
open PySem.W (dataLe dataLt AllAlike Sortable)
end Kb

/-! A walk over a list that is owned, or stays. -/
namespace Kb
open PySem PySem.Spec PyProof.Rows L2
section
variable {K : PySem.W.Frag} {Θ : Ctx} {env : Env'} {h : Hs}
theorem vi_seqOL {tl : TE} {R : List D → (Hs → Prop) → Hs → Prop} (q : VE K Θ tl env h fun x h1 => ∃ ps, ((∃ n, x = .own n ∧ h1[n]? = some (some (.lst (ps.map D.p)))) ∨ x = dL ps) ∧ R (ps.map D.p) (fun h2 => ∀ n, x = .own n → h2[n]? = some (some (.lst (ps.map D.p)))) h1) : VI K Θ (iSeq K tl) env h R := fun F ρ σ H Q rl e k =>
  q F ρ σ H _ rl e fun x h1 vx F1 ρ1 H1 s1 p1 r1 dx q1 => by
    obtain ⟨ps, c, q1⟩ := q1
    rcases c with ⟨n, rfl, hx⟩ | rfl
    · cases dx with
      | @own a _ ha =>
        have at_ : ∀ (F' : Hp) (ρ' : List Addr) (h' : Hs) (H' : Hp), Pre ρ1 ρ' → Rel K Θ F' ρ' h' H' → h'[n]? = some (some (.lst (ps.map D.p))) → ∃ vs, H' a = some (.lst vs) ∧ RA K F' ρ' (ps.map D.p) vs := fun F' ρ' h' H' p r hn => by
          obtain ⟨a', u, e1, e2, e3, vs, e4, e5⟩ := r.own _ _ hn
          rw [p _ _ ha] at e1; cases e1
          subst e4
          exact ⟨vs, e3, e5⟩
        obtain ⟨vs, hv, _⟩ := at_ F1 ρ1 h1 H1 (Pre.refl _) r1 hx
        refine .inl ⟨a, rfl, ⟨vs, .of hv⟩, k (ps.map D.p) _ h1 _ F1 ρ1 H1 s1 p1 r1 ⟨fun F' ρ' h' H' s p r c => ?_, fun i F' ρ' h' H' s p r c hi => ?_, fun i d F' ρ' h' H' x H2 s p r c hd hy => ?_⟩ q1⟩
        · obtain ⟨vs, hv, rv⟩ := at_ F' ρ' h' H' p r (c n rfl)
          exact ⟨vs, .of hv, by rw [rv.len]; exact Nat.le_refl _⟩
        · obtain ⟨vs, hv, rv⟩ := at_ F' ρ' h' H' p r (c n rfl)
          rw [rv.len] at hi
          exact ⟨vs, vs[i], .of hv, List.getElem?_eq_getElem hi⟩
        · obtain ⟨e1, e2⟩ := hy
          subst e1
          obtain ⟨vs, hv, rv⟩ := at_ F' ρ' h' _ p r (c n rfl)
          obtain ⟨v, h1, h2⟩ := rv.get hd
          have ev := e2 vs (.of hv)
          rw [h1] at ev; cases ev
          exact ⟨F', Same.refl _, r, h2⟩
    · cases dx with
      | p dx =>
        cases dx with
        | @lst a _ vs ha rp =>
          refine .inl ⟨a, rfl, ⟨vs, r1.same.seq ha⟩, k (ps.map D.p) _ h1 _ F1 ρ1 H1 s1 p1 r1 ⟨fun F' ρ' h' H' s p r _ => ?_, fun i F' ρ' h' H' s p r _ hi => ?_, fun i d F' ρ' h' H' x H2 s p r _ hd hy => ?_⟩ q1⟩
          · exact ⟨vs, r.same.seq (s.seq ha), by rw [List.length_map, rp.len]; exact Nat.le_refl _⟩
          · rw [List.length_map, rp.len] at hi
            exact ⟨vs, vs[i], r.same.seq (s.seq ha), List.getElem?_eq_getElem hi⟩
          · obtain ⟨e1, e2⟩ := hy
            subst e1
            rw [List.getElem?_map] at hd
            cases hp : ps[i]? with
            | none => rw [hp] at hd; cases hd
            | some p0 =>
              rw [hp] at hd; cases hd
              obtain ⟨v, hv, rv⟩ := rp.get hp
              have ev := e2 vs (r.same.seq (s.seq ha))
              rw [hv] at ev; cases ev
              exact ⟨F', Same.refl _, r, .p (rv.mono s)⟩
end
end Kb

/-! What an expression gives stays from here on. -/
namespace Kb
open PySem PySem.Spec PyProof.Rows L2
section
variable {K : PySem.W.Frag} {Θ : Ctx} {env : Env'} {h : Hs} {R : D → Hs → Prop}
end
end Kb

/-! An expression whose leavings do not count. -/
namespace Kb
open PySem PySem.Spec PyProof.Rows L2
section
variable {K : PySem.W.Frag} {Θ : Ctx} {env : Env'} {h : Hs} {R : D → Hs → Prop}
end
end Kb

/-! Rows that stand there as own lists, with own parts and own public acts. -/
namespace Kb
open PySem PySem.Spec PyProof.Rows L2
section
variable {h : Hs} {o : Nat} {L : List RQ}
end
end Kb

/-! xs[::-1]: a new list, turned round. -/
namespace Kb
open PySem PySem.Spec PyProof.Rows L2
section
variable {X : Cx} {K : PySem.W.Frag} {e : Expr} {te : TE} {st : Expr} {ts : TO} {pos p2 : Pos}
end
section
variable {K : PySem.W.Frag} {Θ : Ctx} {te : TE} {ts : TO} {env : Env'} {h : Hs} {R : D → Hs → Prop}
end
end Kb

/-! Things that are owned, by name: where each stands, what it is. -/
namespace Kb
open PySem PySem.Spec PyProof.Rows L2
section
variable {τ : Type} [DecidableEq τ]
variable {h h' : Hs} {T : List τ} {ix : τ → Nat} {ct : τ → OO}
end
/-! dicts whose keys are spots -/
end Kb

/-! A method of a tuple of the program's top. -/
namespace Kb
open PySem PySem.Spec PyProof.Rows L2
section
variable {K : PySem.W.Frag} {Θ : Ctx} {env : Env'} {h : Hs} {R : D → Hs → Prop}
end
end Kb

/-! Own dicts whose keys are nested tuples (of numbers, truths, texts, None and such tuples): {}, d[k], k in d, d.get, d[k] = v, d.setdefault. -/
namespace Kb
section
variable {X : Cx} {pins : List (Addr × Obj)} {σ : L2.St} {H : Hp} {s : Shared} {a b : Addr} {y d : V} {u r : Value} {A : Around} {E : Value → Shared → Prop} {gs : List NG} {k : NestedKey}
end
end Kb

/-! Own dicts whose keys are nested tuples: the rules in data. -/
namespace Kb
open PySem PySem.Spec PyProof.Rows L2
/-! ### readings -/
section
variable {X : Cx} {o i e f value : Expr} {pos pos' apos cpos : Pos} {td ty tv tx : TE}
end
/-! ### in data -/
section
variable {K : PySem.W.Frag} {Θ : Ctx} {env : Env'} {h : Hs} {R : D → Hs → Prop} {E : En} {x y : D} {pw : Program × World}
end
end Kb

/-! An own dict whose keys are nested tuples, locked while it is walked: for k in d. -/
namespace Kb
open PySem PySem.Spec PyProof.Rows L2
section
variable {P : Program} {w : World} {K : PySem.W.Frag} {tg : Expr} {d : Addr} {o : Obj} {es : Array DictEntry} {ep : Nat} {pw : Program × World}
end
section
variable {K : PySem.W.Frag} {Θ : Ctx} {env : Env'} {h : Hs} {R : D → Hs → Prop} {E : En} {pw : Program × World}
end
end Kb

/-! A dict made by a comprehension, its keys nested tuples. -/
namespace Kb
open PySem PySem.Spec PyProof.Rows L2
section
variable {X : Cx} {tg iter kx vx : Expr} {ifs : List Expr} {scope : Scope} {own : List (Str × Nat)} {pos : Pos} {wi : TI} {g : TG} {tt : TT} {tk tv : TE}
end
section
variable {K : PySem.W.Frag} {Θ : Ctx} {env : Env'} {h : Hs} {R : D → Hs → Prop}
end
end Kb

/-! An own dict whose keys are nested tuples: d.items(), len(d), isinstance(d, dict). -/
namespace Kb
open PySem PySem.Spec PyProof.Rows L2
section
variable {P : Program} {w : World} {K : PySem.W.Frag} {tg : Expr} {d : Addr} {o : Obj} {es : Array DictEntry} {ep : Nat} {pw : Program × World}
end
section
variable {K : PySem.W.Frag} {Θ : Ctx} {env : Env'} {h : Hs} {R : D → Hs → Prop} {E : En} {pw : Program × World}
end
end Kb

/-! An own dict whose keys are nested tuples: len(d), isinstance(d, dict). -/
namespace Kb
open PySem PySem.Spec PyProof.Rows L2
section
variable {K : PySem.W.Frag} {Θ : Ctx} {env : Env'} {h : Hs} {R : D → Hs → Prop} {pw : Program × World}
end
end Kb

/-! An own dict whose keys are nested tuples, read while it is walked: d[k], k in d. -/
namespace Kb
open PySem PySem.Spec PyProof.Rows L2
section
variable {X : Cx} {o i : Expr} {pos : Pos} {td ty : TE}
end
section
variable {K : PySem.W.Frag} {Θ : Ctx} {env : Env'} {h : Hs} {R : D → Hs → Prop} {pw : Program × World}
end
end Kb

/-! An expression read in one of many ways: a def as a value, one of a family. -/
namespace Kb
open PySem PySem.Spec PyProof.Rows L2
end Kb

/-! xs.count(y) over plain data. -/
namespace Kb
open PySem PySem.Spec PyProof.Rows L2
section
variable {X : Cx}
end
section
variable {K : PySem.W.Frag} {Θ : Ctx} {h : Hs} {R : D → Hs → Prop}
end
end Kb

/-! str of a number, a text, a truth, None. -/
namespace Kb
open PySem PySem.Spec PyProof.Rows L2
section
variable {X : Cx}
def rStrB : List V → Hp → VK → Prop := fun xs H Q => ∃ b : Bool, xs = [.bl b] ∧ Q (.str (if b = true then Str.ofString "True" else Str.ofString "False")) H
def rStrN : List V → Hp → VK → Prop := fun xs H Q => xs = [.non] ∧ Q (.str (Str.ofString "None")) H
def rStrA : List V → Hp → VK → Prop := fun xs H Q => rStrU xs H Q ∨ rStrB xs H Q ∨ rStrN xs H Q
theorem call_strB : CallR X (.type "str") rStrB := fun pins s σ H xs us Q I rv h => by
  obtain ⟨b, rfl, q⟩ := h
  obtain ⟨u, rfl, ru⟩ := rv.one
  obtain rfl : u = Value.bool b := ru
  exact PySem.P.str_of_bool ⟨.str _, H, I.tok _, ⟨_, rfl⟩, q⟩
theorem call_strN : CallR X (.type "str") rStrN := fun pins s σ H xs us Q I rv h => by
  obtain ⟨rfl, q⟩ := h
  obtain ⟨u, rfl, ru⟩ := rv.one
  obtain rfl : u = Value.none := ru
  exact PySem.P.str_of_none ⟨.str _, H, I.tok _, ⟨_, rfl⟩, q⟩
theorem call_strA : CallR X (.type "str") rStrA := call_strU.or (call_strB.or call_strN)
end
/-- str of a plain value -/
def strP : P → Str
  | .int i => toString i
  | .str s => s
  | .bl b => if b = true then Str.ofString "True" else Str.ofString "False"
  | _ => Str.ofString "None"
def strOk : P → Prop
  | .int i => i.natAbs.log2 < 1920
  | .str _ => True
  | .bl _ => True
  | .non => True
  | _ => False
section
variable {K : PySem.W.Frag} {Θ : Ctx} {h : Hs} {R : D → Hs → Prop}
theorem vc_strA {p : P} (ok : strOk p) (q : R (dS (strP p)) h) : VC K Θ rStrA [.p p] h R := fun F ρ H vs Q rl a k => by
  have kk := k _ h _ F ρ H (Same.refl _) (Pre.refl _) rl (.p (.str _)) q
  cases a with
  | cons a b =>
    cases b
    cases a with
    | p a =>
      cases p with
      | int i => cases a; exact .inl (.inl ⟨_, rfl, ok, kk⟩)
      | str s => cases a; exact .inl (.inr ⟨_, rfl, kk⟩)
      | bl b => cases a; exact .inr (.inl ⟨_, rfl, kk⟩)
      | non => cases a; exact .inr (.inr ⟨rfl, kk⟩)
      | _ => exact ok.elim
end
end Kb

/-! o.f op= e for an own instance. -/
namespace Kb
open PySem PySem.Spec PyProof.Rows L2
section
variable {X : Cx} {K : PySem.W.Frag}
theorem ps_fldaugK {o value : Expr} {f : Str} {pos tpos : Pos} {ta tv : TE} {op : Operator} {rd : V → V → Hp → VK → Prop} (hK : X.K = K) (ho : PE X o ta) (hv : PE X value tv) (hop : InOp X op rd) : PS X (.AugAssign (.Attribute o f tpos) op value pos) (sFldAug K ta tv rd f) := hK ▸ ps_fldaug ho hv hop
end
section
variable {K : PySem.W.Frag} {Θ : Ctx} {env : Env'} {h : Hs} {E : En}
theorem vs_fldaug {f : Str} {ta tv : TE} {rd : R2} (q : VE K Θ ta env h fun x h1 => ∃ n C fs d0, x = .own n ∧ h1[n]? = some (some (.ins C fs)) ∧ Cls K C ∧ NoAttr K C f ∧ fs.length < 1000 ∧ fs.lookup f = some d0 ∧
    VE K Θ tv env h1 fun y h2 => h2 = h1 ∧ V2 K Θ rd d0 y h2 fun w h3 => h3 = h2 ∧ E.nx env (h3.set n (some (.ins C (putD f w fs))))) : VS K Θ (sFldAug K ta tv rd f) E env h := fun F ρ σ H D' rl e k =>
  q F ρ σ H _ rl e fun x h1 vx F1 ρ1 H1 s1 p1 r1 dx q1 => by
    obtain ⟨n, C, fs, d0, rfl, hx, c, na, hl, hf, q1⟩ := q1
    cases dx with
    | own ho =>
      obtain ⟨a, u, e1, e2, e3, dx, gs, e4, e5⟩ := r1.own _ _ hx
      rw [ho] at e1; cases e1
      subst e4
      obtain ⟨v, l1, l2⟩ := e5.look hf
      refine ⟨_, C, dx, gs, v, rfl, e3, c, na, l1, ?_⟩
      refine q1 F1 ρ1 σ H1 _ r1 (e.mono s1 p1) fun y h2 vy F2 ρ2 H2 s2 p2 r2 dy q2 => ?_
      obtain ⟨rfl, q2⟩ := q2
      refine q2 F2 ρ2 H2 v vy _ r2 (l2.mono s2 p2) dy fun w h3 vw F3 ρ3 H3 s3 p3 r3 dw q3 => ?_
      obtain ⟨rfl, q3⟩ := q3
      have ho3 := p3 _ _ (p2 _ _ ho)
      obtain ⟨a3, u3, g1, g2, g3, dx3, gs3, g4, g5⟩ := r3.own _ _ hx
      rw [ho3] at g1; cases g1
      subst g4
      refine ⟨dx3, gs3, g3, by rw [← g5.len]; exact hl, ?_⟩
      have s := s1.trans (s2.trans s3)
      have p := p1.trans (p2.trans p3)
      exact k.nx env _ F3 ρ3 σ _ s p (r3.put (o' := .ins C (putD f w fs)) hx ho3 ⟨dx3, _, rfl, RF.put dw g5⟩) (e.mono s p) q3
theorem v2_rAdd {i j : Int} {R : D → Hs → Prop} (q : R (dI (i + j)) h) : V2 K Θ rAdd (dI i) (dI j) h R := fun F ρ H vx vy Q rl a b k => by
  obtain rfl := a.int
  obtain rfl := b.int
  exact ⟨i, j, rfl, rfl, k _ h _ F ρ H (Same.refl _) (Pre.refl _) rl (.p (.int _)) q⟩
theorem v2_rSub {i j : Int} {R : D → Hs → Prop} (q : R (dI (i - j)) h) : V2 K Θ rSub (dI i) (dI j) h R := fun F ρ H vx vy Q rl a b k => by
  obtain rfl := a.int
  obtain rfl := b.int
  exact ⟨i, j, rfl, rfl, k _ h _ F ρ H (Same.refl _) (Pre.refl _) rl (.p (.int _)) q⟩
end
end Kb

/-! What was made on the way and is left behind is dropped, what was there may have changed. -/
namespace Kb
open PySem PySem.Spec PyProof.Rows L2
section
variable {K : PySem.W.Frag} {Θ : Ctx}
theorem RD.lowG {F : Hp} {ρ ρ' : List Addr} (p : Pre ρ ρ') {d : D} {v : V} (l : lowD ρ.length d) (b : RD K F ρ' d v) : RD K F ρ d v := by
  cases b with
  | p b => exact .p b
  | own b =>
    have hl : _ < ρ.length := l
    have z := p _ _ (List.getElem?_eq_getElem hl)
    rw [b] at z
    cases z
    exact .own (List.getElem?_eq_getElem hl)
theorem RA.lowG {F : Hp} {ρ ρ' : List Addr} (p : Pre ρ ρ') {ds : List D} {vs : List V} (b : RA K F ρ' ds vs) : (∀ x ∈ ds, lowD ρ.length x) → RA K F ρ ds vs := by
  induction b with
  | nil => exact fun _ => .nil
  | cons b _ ih => exact fun l => .cons (b.lowG p (l _ List.mem_cons_self)) (ih fun x hx => l x (List.mem_cons_of_mem _ hx))
theorem RF.lowG {F : Hp} {ρ ρ' : List Addr} (p : Pre ρ ρ') {ds : List (Str × D)} {vs : List (Str × V)} (b : RF K F ρ' ds vs) : (∀ x ∈ ds, lowD ρ.length x.2) → RF K F ρ ds vs := by
  induction b with
  | nil => exact fun _ => .nil
  | cons b _ ih => exact fun l => .cons (b.lowG p (l _ List.mem_cons_self)) (ih fun x hx => l x (List.mem_cons_of_mem _ hx))
theorem RK.lowG {κ : Type} {F : Hp} {ρ ρ' : List Addr} (p : Pre ρ ρ') {ds : List (κ × D)} {vs : List (κ × V)} (b : RK K F ρ' ds vs) : (∀ x ∈ ds, lowD ρ.length x.2) → RK K F ρ ds vs := by
  induction b with
  | nil => exact fun _ => .nil
  | cons b _ ih => exact fun l => .cons (b.lowG p (l _ List.mem_cons_self)) (ih fun x hx => l x (List.mem_cons_of_mem _ hx))
theorem RO.lowG {a : Addr} {F : Hp} {ρ ρ' : List Addr} (p : Pre ρ ρ') {o : OO} {u : HO} (l : lowO ρ.length o) (b : RO K a F ρ' o u) : RO K a F ρ o u := by
  cases o with
  | lst xs =>
    obtain ⟨vs, e, r⟩ := b
    exact ⟨vs, e, r.lowG p l⟩
  | ins C fs =>
    obtain ⟨dx, gs, e, r⟩ := b
    exact ⟨dx, gs, e, r.lowG p l⟩
  | dK kvs =>
    obtain ⟨gs, e, r⟩ := b
    exact ⟨gs, e, r.lowG p l⟩
  | dT kvs =>
    obtain ⟨gs, e, r⟩ := b
    exact ⟨gs, e, r.lowG p l⟩
  | dN pw kvs =>
    obtain ⟨gs, e, q, r⟩ := b
    exact ⟨gs, e, q, r.lowG p fun x hx => by
      obtain ⟨y, hy, rfl⟩ := List.mem_map.mp hx
      exact l y hy⟩
  | dL pw od gs kvs =>
    obtain ⟨e, q, r⟩ := b
    exact ⟨e, q, r.lowG p fun x hx => by
      obtain ⟨y, hy, rfl⟩ := List.mem_map.mp hx
      exact l y hy⟩
theorem Rel.trim {F F' : Hp} {ρ ρ' : List Addr} {h h1 junk : Hs} {H H' : Hp} (r0 : Rel K Θ F ρ h H) (s : Same F F') (p : Pre ρ ρ') (hl : h1.length = h.length) (lo : lowH h h1) (r : Rel K Θ F' ρ' (h1 ++ junk) H') : Rel K Θ F' ρ h1 H' := by
  have lt : ∀ (i : Nat) (o' : OO), h1[i]? = some (some o') → i < h1.length := fun i o' e => (List.getElem?_eq_some_iff.mp e).1
  have up : ∀ (i : Nat) (o' : OO), h1[i]? = some (some o') → (h1 ++ junk)[i]? = some (some o') := fun i o' e => by rw [List.getElem?_append_left (lt i o' e)]; exact e
  refine ⟨⟨r.same, r0.len.trans hl.symm, fun i o' hi => ?_, fun i j o1 o2 a hi hj ha hb => r.inj i j o1 o2 a (up i o1 hi) (up j o2 hj) (p _ _ ha) (p _ _ hb), r.tab, r.lam⟩, r0.wish.mono s (Pre.refl _)⟩
  obtain ⟨a, u, e1, e2, e3, e4⟩ := r.own i o' (up i o' hi)
  have il : i < ρ.length := by have := lt i o' hi; rw [r0.len, ← hl]; exact this
  have z := p _ _ (List.getElem?_eq_getElem il)
  rw [e1] at z
  cases z
  refine ⟨_, u, List.getElem?_eq_getElem il, e2, e3, ?_⟩
  rcases lo i o' hi with g | g
  · obtain ⟨a0, u0, g1, g2, g3, g4⟩ := r0.own i o' g
    rw [List.getElem?_eq_getElem il] at g1
    cases g1
    exact g4.lowP p e4
  · exact e4.lowG p (by rw [r0.len]; exact g)
/-- what is behind the end is dropped -/
def Trim (h : Hs) (R : D → Hs → Prop) (d : D) (h' : Hs) : Prop := ∃ h1 junk, h' = h1 ++ junk ∧ h1.length = h.length ∧ lowH h h1 ∧ ∃ p, d = .p p ∧ R (.p p) h1
theorem vs_trim {t : TS} {R : D → Hs → Prop} {env : Env'} {h : Hs} (q : VS K Θ t { nx := fun _ h' => Trim h R dN h', rt := Trim h R } env h) : VS K Θ t { nx := fun _ h' => R dN h', rt := R } env h := fun F ρ σ H D' rl e k => by
  refine q F ρ σ H ⟨fun σ' H' => D'.nx σ' H', fun v H' => D'.rt v H', D'.bk, D'.ct⟩ rl e ⟨fun env' h' F' ρ' σ' H' s p r e' f => ?_, fun d h' v F' ρ' H' s p r dv f => ?_, fun _ _ _ _ _ _ _ _ _ _ z => z.elim, fun _ _ _ _ _ _ _ _ _ _ z => z.elim⟩
  · obtain ⟨h1, junk, rfl, hl, lo, x, ex, q1⟩ := f
    cases ex
    refine k.nx (List.replicate σ'.length none) _ F' ρ σ' H' s (Pre.refl _) (rl.trim s p hl lo r) ⟨by simp, fun i d z => ?_⟩ q1
    rw [List.getElem?_replicate] at z
    split at z <;> cases z
  · obtain ⟨h1, junk, rfl, hl, lo, x, rfl, q1⟩ := f
    cases dv with
    | p dv => exact k.rt _ _ v F' ρ H' s (Pre.refl _) (rl.trim s p hl lo r) (.p dv) q1
end
end Kb

/-! [x] * n, the result stays. -/
namespace Kb
open PySem PySem.Spec PyProof.Rows L2
section
variable {K : PySem.W.Frag} {Θ : Ctx} {h : Hs} {R : D → Hs → Prop}
theorem v2_repF {n : Nat} {xs : List P} {j : Int} (hn : h[n]? = some (some (.lst (xs.map D.p)))) (h1 : -(2 ^ 63) ≤ j ∧ j < 2 ^ 63) (hl : xs.length * j.toNat ≤ sizeLine) (q : R (dL (List.replicate j.toNat xs).flatten) h) : V2 K Θ rRep (.own n) (dI j) h R := fun F ρ H vx vy Q rl a b k => by
  obtain rfl := b.int
  cases a with
  | own a =>
    obtain ⟨p, u, e1, e2, e3, vs, e4, e5⟩ := rl.own _ _ hn
    rw [a] at e1; cases e1
    subst e4
    have rr : ∀ m : Nat, RA K F ρ ((List.replicate m xs).flatten.map D.p) (List.replicate m vs).flatten := fun m => by
      induction m with
      | zero => exact .nil
      | succ m ih =>
        rw [List.replicate_succ, List.replicate_succ, List.flatten_cons, List.flatten_cons, List.map_append]
        exact e5.append ih
    have el := e5.len
    rw [List.length_map] at el
    refine ⟨_, j, vs, rfl, rfl, e3, h1.1, h1.2, by rw [← el]; exact hl, fun p hp => ?_⟩
    have sn := fun o => same_new (o := o) (rl.free hp)
    exact k _ h (.ref p) _ ρ _ (sn _) (Pre.refl _) (rl.frz hp) (.p (.lst (.of upd_same) ((rr _).pure.mono (sn _)))) q
end
end Kb

section
open PySem PySem.Spec PyProof.Rows L2 Kb
local macro_rules | `(tactic| k_clsL) => `(tactic| first | assumption | decide | omega)
local macro_rules | `(tactic| k_subL) => `(tactic| first
      | (with_reducible refine vg_name ?_)
      | (with_reducible refine v1_U ?_)
      | (with_reducible refine ite_nrefl ?_)
      | (with_reducible refine ite_refl ?_)
      | ((with_reducible refine ite_tt ?hc ?_); (case hc => first | decide | exact rfl))
      | ((with_reducible refine ite_ff ?hc ?_); (case hc => first | decide | exact rfl)))
local macro_rules | `(tactic| k_subL) => `(tactic| ((with_reducible show Exists _); first
      | ((with_reducible refine isi2_i (T := "tuple") ?hT ?hm ?hn ?_); (case hT => exact rfl); (case hm => decide); (case hn => decide))
      | ((with_reducible refine isi2_i (T := "list") ?hT ?hm ?hn ?_); (case hT => exact rfl); (case hm => decide); (case hn => decide))
      | ((with_reducible refine isi2_i (T := "int") ?hT ?hm ?hn ?_); (case hT => exact rfl); (case hm => decide); (case hn => decide))
      | ((with_reducible refine isi2_i (T := "bool") ?hT ?hm ?hn ?_); (case hT => exact rfl); (case hm => decide); (case hn => decide))
      | ((with_reducible refine isi2_i (T := "str") ?hT ?hm ?hn ?_); (case hT => exact rfl); (case hm => decide); (case hn => decide))
      | ((with_reducible refine isi2_i (T := "NoneType") ?hT ?hm ?hn ?_); (case hT => exact rfl); (case hm => decide); (case hn => decide))
      | (with_reducible refine bool_ans ?_)
      | (with_reducible refine tru_bl ?_)
      | ((with_reducible refine tup_j ?hl ?_); (case hl => exact rfl))))
local macro_rules | `(tactic| k_subL) => `(tactic| ((with_reducible show Kb.VC _ _ _ _ _ _); first
      | ((with_reducible refine vc_isi (T := "NoneType") ?hT ?hn ?_); (case hT => first | exact rfl | exact ⟨rfl, _, by first | assumption | simp⟩); (case hn => decide))
      | (with_reducible refine vc_lenL ?_)
      | (with_reducible refine vc_lenT ?_)))
local macro_rules | `(tactic| k_subL) => `(tactic| ((with_reducible show Kb.VC _ _ _ _ _ _); first
      | (with_reducible refine vc_intI ?_)
      | (with_reducible refine vc_intB ?_)
      | (with_reducible refine vc_abs ?_)
      | (with_reducible refine vc_min2 ?_)
      | (with_reducible refine vc_max2 ?_)
      | ((with_reducible refine vc_isi (T := "tuple") ?hT ?hn ?_); (case hT => first | exact rfl | exact ⟨rfl, _, by first | assumption | simp⟩); (case hn => decide))
      | ((with_reducible refine vc_isi (T := "list") ?hT ?hn ?_); (case hT => first | exact rfl | exact ⟨rfl, _, by first | assumption | simp⟩); (case hn => decide))
      | ((with_reducible refine vc_isi (T := "int") ?hT ?hn ?_); (case hT => first | exact rfl | exact ⟨rfl, _, by first | assumption | simp⟩); (case hn => decide))
      | ((with_reducible refine vc_isi (T := "bool") ?hT ?hn ?_); (case hT => first | exact rfl | exact ⟨rfl, _, by first | assumption | simp⟩); (case hn => decide))
      | ((with_reducible refine vc_isi (T := "str") ?hT ?hn ?_); (case hT => first | exact rfl | exact ⟨rfl, _, by first | assumption | simp⟩); (case hn => decide))))
local macro_rules | `(tactic| k_subL) => `(tactic| ((with_reducible show Kb.V2 _ _ _ _ _ _ _); first
      | (with_reducible refine v2_ltS ?_)
      | ((with_reducible refine v2_divW ?hm ?_); case hm => (constructor <;> k_clsL))
      | ((with_reducible refine v2_mulU ?hm ?_); case hm => first | exact cmul_small (by k_clsL) (by k_clsL) | exact cmul_wide (by k_clsL) (by k_clsL))
      | ((with_reducible refine v2_mod ?hm ?_); case hm => k_clsL)
      | ((with_reducible refine v2_div ?hm ?_); case hm => (constructor <;> k_clsL))
      | ((with_reducible refine v2_mul ?hm ?_); case hm => first | exact cmul_small (by k_clsL) (by k_clsL) | exact cmul_wide (by k_clsL) (by k_clsL))))
local macro_rules | `(tactic| k_subL) => `(tactic| ((with_reducible show Kb.V2 _ _ _ _ _ _ _); first
      | (with_reducible refine v2_neS ?_)
      | (with_reducible refine v2_neB ?_)
      | (with_reducible refine v2_isN ?_)
      | (with_reducible refine v2_notN ?_)
      | (with_reducible refine v2_isNU ?_)
      | ((with_reducible refine v2_isBl ?hx ?_); (case hx => exact rfl))
      | (with_reducible refine v2_addVI ?_)
      | (with_reducible refine v2_addWI ?_)
      | (with_reducible refine v2_ltI ?_)
      | (with_reducible refine v2_ltB ?_)))
local macro_rules | `(tactic| k_subL) => `(tactic| ((with_reducible show Kb.V2 _ _ _ _ _ _ _); first
      | (with_reducible refine v2_addI ?_)
      | (with_reducible refine v2_sub ?_)
      | (with_reducible refine v2_lt ?_)
      | (with_reducible refine v2_le ?_)
      | (with_reducible refine v2_gt ?_)
      | (with_reducible refine v2_ge ?_)
      | (with_reducible refine v2_eqI ?_)
      | (with_reducible refine v2_eqS ?_)
      | (with_reducible refine v2_eqB ?_)
      | (with_reducible refine v2_neI ?_)))
local macro_rules | `(tactic| k_subL) => `(tactic| ((with_reducible show Kb.VT _ _ _ _ _ _); first
      | (with_reducible refine vt_test ?_)
      | (with_reducible refine vt_B ?_)
      | (with_reducible refine vt_and ?_)
      | (with_reducible refine vt_or ?_)
      | (with_reducible refine vt_not ?_)
      | (with_reducible refine vt_truth ?_)))
local macro_rules | `(tactic| k_subL) => `(tactic| ((with_reducible show Kb.VA _ _ _ _ _ _); first
      | (with_reducible refine va_cons ?_)
      | (with_reducible refine va_nil ?_)))
local macro_rules | `(tactic| k_subL) => `(tactic| ((with_reducible show Kb.VS _ _ _ _ _ _); first
      | (with_reducible refine vs_seq ?_)
      | (with_reducible refine vs_asg ?_)
      | (with_reducible refine vs_ret ?_)
      | (with_reducible refine vs_if ?_)
      | (with_reducible refine vs_next ?_)
      | (with_reducible refine vs_drop ?_)))
local macro_rules | `(tactic| k_subL) => `(tactic| ((with_reducible show Kb.VE _ _ _ _ _ _); first
      | (with_reducible refine ve_and ?_)
      | (with_reducible refine ve_or ?_)
      | (with_reducible refine ve_not ?_)
      | (with_reducible refine ve_chain ?_)
      | (with_reducible refine ve_un ?_)
      | (with_reducible refine ve_if ?_)
      | (with_reducible refine ve_tup ?_)))
local macro_rules | `(tactic| k_subL) => `(tactic| ((with_reducible show Kb.VE _ _ _ _ _ _); first
      | (with_reducible refine ve_op ?_)
      | (with_reducible refine ve_isi2 ?_)
      | (with_reducible refine ve_cb ?_)
      | (with_reducible refine ve_call ?_)
      | (with_reducible refine ve_int ?_)
      | (with_reducible refine ve_str ?_)
      | (with_reducible refine ve_bl ?_)
      | (with_reducible refine ve_non ?_)
      | (with_reducible refine ve_ty ?_)
      | (refine ve_var (by exact rfl) ?_)))
local macro_rules | `(tactic| k_places) => `(tactic| repeat k_subL)
local macro_rules | `(tactic| k_offL) => `(tactic| repeat ((fail_if_success (with_reducible refine vs_seq ?_)); k_subL))
namespace Law
open PySem PySem.Spec PyProof.Rows L2 Kb
def topS (i : Nat) : Stmt := PySem.Challenge.pw_kithbase_k24_operators_bind.main.body.getD i (.Pass ⟨0, 0, 0, 0⟩)
-- the steps that are tried: k_clsL a side condition; k_subL one step; k_places steps as long as one fits
section
variable {Pg : Program} {w : World} {K : PySem.W.Frag} {Θ : Tbs} {mg : Str → Option Value} {base : Heap}
/-- the state of the draws -/
def stO (ns : List Int) (a b c : Int) : OO := .lst [dL (ns.map P.int), dI a, dI b, dI c]
structure OkSt (ns : List Int) (a b c : Int) : Prop where
  len : ns.length ≤ 63
  a0 : 0 ≤ a
  al : a ≤ ns.length
  b0 : 0 ≤ b
  c0 : 0 ≤ c
  cl : c < 2147483647
theorem set_same {α : Type} {h : List α} {n : Nat} {o : α} (e : h[n]? = some o) : h.set n o = h := by
  refine List.ext_getElem? fun i => ?_
  by_cases hi : n = i
  · subst hi
    rw [List.getElem?_set_self (List.getElem?_eq_some_iff.mp e).1, e]
  · rw [List.getElem?_set_ne hi]
theorem get_set {α : Type} {h : List α} {n : Nat} {o u : α} (e : h[n]? = some o) : (h.set n u)[n]? = some u := List.getElem?_set_self (List.getElem?_eq_some_iff.mp e).1
abbrev st_next : Stmt := (topS 66)
theorem sc_next : FnScope ["state", "limit", "cell", "value"] ["state", "limit"] (defScope st_next) := ⟨rfl, rfl, rfl, by decide +kernel, rfl, by decide +kernel, by decide +kernel⟩
def W_next : Spc := fun ds h R => ∃ (n : Nat) (ns : List Int) (a b c limit : Int), ds = [.own n, dI limit] ∧ h[n]? = some (some (stO ns a b c)) ∧ OkSt ns a b c ∧ 0 < limit ∧ limit.natAbs.log2 < 9000 ∧
  ∀ v a' b' c' : Int, OkSt ns a' b' c' → 0 ≤ v → v < limit → R (dI v) (h.set n (some (stO ns a' b' c')))
theorem ok_next (A : DefAt K mg "_law_next" st_next ["state", "limit"]) (m_int : mg "int" = none) (m_len : mg "len" = none) : HasF Pg w K mg base CX0 1 "_law_next" ["state", "limit"] (spD K Θ W_next) := by
  have sc := sc_next
  refine A.okD sc W_next (fun ds h R ⟨_, _, _, _, _, _, e, _⟩ => by rw [e]; rfl) fun f cdv A outer s H E hr => ?_
  refine ⟨_, (pss_cons (ps_if (PW.pt (pw_and (pt_cmpR (op_eqUK (K := K) (by rfl) hr.units) (pe_ix (ix_seqK (K := K) (by rfl)) (pv 0) pe_int (fun _ _ => rfl)) pe_int (nomark _)) (pw_and1 (pt_cmpR op_lt (pe_ix (ix_seqK (K := K) (by rfl)) (pv 0) pe_int (fun _ _ => rfl)) (pe_callB (call_lenK (K := K) (by rfl)) (by rfl) m_len (by decide +kernel) (pa_cons (pe_ix (ix_seqK (K := K) (by rfl)) (pv 0) pe_int (fun _ _ => rfl)) pa_nil)) (nomark _))))) (pss_cons (ps_set (i := 2) sc.nd rfl (.inl rfl) (pe_ix (ix_seqK (K := K) (by rfl)) (pe_ix (ix_seqK (K := K) (by rfl)) (pv 0) pe_int (fun _ _ => rfl)) (pe_ix (ix_seqK (K := K) (by rfl)) (pv 0) pe_int (fun _ _ => rfl)) (fun _ _ => rfl)))
  (pss_cons (ps_augS (pv 0) pe_int (pget_listK (K := K) (by rfl)) pe_int ip_add set_list)
  (pss_one (ps_if (pt_cmpR op_ge (pv 2) (pe_op op_pow pe_int pe_int) (nomark _)) (pss_one (ps_asg (pv 2) (pg_sub (pv 0) pe_int set_list))) (pss_one (ps_asg (pe_op op_mod (pe_callTy call_intU (by rfl) m_int (by decide +kernel) (pa_cons (pe_op (op_addWK (K := K) (by rfl)) (pe_op (op_addWK (K := K) (by rfl)) (pe_op op_mulU (pe_ix (ix_seqK (K := K) (by rfl)) (pv 0) pe_int (fun _ _ => rfl)) pe_int) (pe_op op_mod (pe_callTy call_intU (by rfl) m_int (by decide +kernel) (pa_cons (pv 2) pa_nil)) pe_int)) pe_int) pa_nil)) pe_int) (pg_sub (pv 0) pe_int set_list))))))) pss_nil)
  (pss_cons (ps_if (pt_cmpR op_gt (pe_ix (ix_seqK (K := K) (by rfl)) (pv 0) pe_int (fun _ _ => rfl)) pe_int (nomark _)) (pss_cons (ps_set (i := 3) sc.nd rfl (.inl rfl) (pe_op op_mod (pe_callTy call_intU (by rfl) m_int (by decide +kernel) (pa_cons (pe_ix (ix_seqK (K := K) (by rfl)) (pv 0) pe_int (fun _ _ => rfl)) pa_nil)) (pv 1)))
  (pss_cons (ps_asg (pe_op op_fdivW (pe_ix (ix_seqK (K := K) (by rfl)) (pv 0) pe_int (fun _ _ => rfl)) (pv 1)) (pg_sub (pv 0) pe_int set_list))
  (pss_one (ps_ret (pv 3))))) pss_nil)
  (pss_cons (ps_asg (pe_op op_mod (pe_callTy call_intU (by rfl) m_int (by decide +kernel) (pa_cons (pe_op (op_addWK (K := K) (by rfl)) (pe_op op_mulU (pe_ix (ix_seqK (K := K) (by rfl)) (pv 0) pe_int (fun _ _ => rfl)) pe_int) pe_int) pa_nil)) pe_int) (pg_sub (pv 0) pe_int set_list))
  (pss_one (ps_ret (pe_op op_mod (pe_callTy call_intU (by rfl) m_int (by decide +kernel) (pa_cons (pe_op op_fdivW (pe_ix (ix_seqK (K := K) (by rfl)) (pv 0) pe_int (fun _ _ => rfl)) pe_int) pa_nil)) (pv 1))))))), ?_⟩
  try dsimp only [cxOf]
  rintro ds h R ⟨n, ns, a, b, c, limit, rfl, hn, ok, hl0, hl, q⟩
  obtain ⟨hlen, a0, al, b0, c0, cl⟩ := ok
  refine vs_cut (fun env' h' => ∃ (a b c : Int) (o2 o3 : Option D), env' = [some (.own n), some (dI limit), o2, o3] ∧ h' = h.set n (some (stO ns a b c)) ∧ OkSt ns a b c) ?_ ?_
  · have stay : ∃ (a b c : Int) (o2 o3 : Option D), startD ["state", "limit", "cell", "value"] [.own n, dI limit] = [some (.own n), some (dI limit), o2, o3] ∧ h = h.set n (some (stO ns a b c)) ∧ OkSt ns a b c :=
      ⟨a, b, c, none, none, rfl, (set_same hn).symm, hlen, a0, al, b0, c0, cl⟩
    k_places
    refine v2_ixO hn rfl ?_
    k_places
    refine ite_dec (fun e1 => ?_) (fun e1 => ?_)
    · k_places
      refine v2_ixO hn rfl ?_
      k_places
      refine v2_ixO hn rfl ?_
      k_places
      rw [List.length_map]
      refine ite_dec (fun e2 => ?_) (fun e2 => ?_)
      · k_places
        refine v2_ixO hn rfl ?_
        k_places
        refine v2_ixO hn rfl ?_
        have hi : a.toNat < ns.length := by omega
        refine v2_ixL (at_nat a.toNat (by omega) (by rw [List.getElem?_map, List.getElem?_eq_getElem hi]; rfl)) ?_
        k_places
        refine vs_augS ?_
        k_places
        refine ⟨n, 1, _, 1, dI a, rfl, rfl, hn, rfl, rfl, ?_⟩
        k_places
        refine ⟨rfl, v2_ip (g := fun i j => i + j) ⟨rfl, ?_⟩⟩
        have hn2 := get_set (u := some (stO ns (a + 1) b c)) hn
        k_places
        refine v2_pow (by decide) ?_
        k_places
        refine ite_dec (fun e3 => ?_) (fun e3 => ?_)
        · k_places
          refine vg_sub ?_
          k_places
          refine ⟨n, 2, _, 2, rfl, rfl, hn2, rfl, ?_⟩
          refine ⟨a + 1, ns[a.toNat], c, _, _, rfl, List.set_set _, hlen, by omega, by omega, ?_, c0, cl⟩
          have e4 : (10 : Int) ^ (18 : Int).toNat = 1000000000000000000 := rfl
          rw [e4] at e3
          omega
        · k_places
          refine v2_ixO hn2 rfl ?_
          k_places
          refine vg_sub ?_
          k_places
          refine ⟨n, 3, _, 3, rfl, rfl, hn2, rfl, ?_⟩
          refine ⟨a + 1, b, _, _, _, rfl, List.set_set _, hlen, by omega, by omega, b0, ?_, ?_⟩
          · exact Int.emod_nonneg _ (by decide)
          · exact Int.emod_lt_of_pos _ (by decide)
      · k_places
        exact stay
    · k_places
      exact stay
  · rintro env' h' ⟨a, b, c, o2, o3, rfl, rfl, ok⟩
    obtain ⟨hlen, a0, al, b0, c0, cl⟩ := ok
    have hn2 := get_set (u := some (stO ns a b c)) hn
    k_places
    refine v2_ixO hn2 rfl ?_
    k_places
    refine ite_dec (fun e1 => ?_) (fun e1 => ?_)
    · k_places
      refine v2_ixO hn2 rfl ?_
      k_places
      refine v2_ixO hn2 rfl ?_
      k_places
      refine vg_sub ?_
      k_places
      refine ⟨n, 2, _, 2, rfl, rfl, hn2, rfl, ?_⟩
      k_places
      rw [List.set_set]
      exact q _ _ _ _ ⟨hlen, a0, al, Int.ediv_nonneg b0 (by omega), c0, cl⟩ (Int.emod_nonneg _ (by omega)) (Int.emod_lt_of_pos _ hl0)
    · k_places
      refine v2_ixO hn2 rfl ?_
      k_places
      refine vg_sub ?_
      k_places
      refine ⟨n, 3, _, 3, rfl, rfl, hn2, rfl, ?_⟩
      have hn3 := get_set (u := some (stO ns a b ((c * 69621 + 12345) % 2147483647))) hn
      rw [List.set_set]
      k_places
      refine v2_ixO hn3 rfl ?_
      k_places
      exact q _ _ _ _ ⟨hlen, a0, al, b0, Int.emod_nonneg _ (by decide), Int.emod_lt_of_pos _ (by decide)⟩ (Int.emod_nonneg _ (by omega)) (Int.emod_lt_of_pos _ hl0)
end
end Law

namespace Law
open PySem PySem.Spec PyProof.Rows L2 Kb
-- the steps that are tried: k_clsL a side condition; k_subL one step; k_places steps as long as one fits
section
variable {Pg : Program} {w : World} {K : PySem.W.Frag} {Θ : Tbs} {mg : Str → Option Value} {base : Heap}
/-- characters that a text may have -/
def CharOk (c : Nat) : Prop := (c = 10 ∨ (32 ≤ c ∧ c ≤ 126)) ∧ c ≠ 37
instance (c : Nat) : Decidable (CharOk c) := by unfold CharOk; infer_instance
/-- the same, the kinds of all parts the same -/
noncomputable def eqB (a b : P) : Bool := @decide (a = b) (Classical.propDecidable _)
theorem eqB_ne {a b : P} (h : a ≠ b) : eqB a b = false := @decide_eq_false _ (Classical.propDecidable _) h
theorem eqB_eq {a b : P} (h : a = b) : eqB a b = true := @decide_eq_true _ (Classical.propDecidable _) h
theorem eqB_iff {a b : P} : eqB a b = true ↔ a = b := ⟨fun h => @of_decide_eq_true _ (Classical.propDecidable _) h, eqB_eq⟩
theorem eqB_of {a b : P} {c : Bool} (h : a = b ↔ c = true) : eqB a b = c := by
  cases c with
  | true => exact eqB_eq (h.mpr rfl)
  | false => exact eqB_ne fun z => Bool.noConfusion (h.mp z)
theorem eqB_bl {x y : Bool} : eqB (.bl x) (.bl y) = decide (x = y) := eqB_of ⟨fun e => decide_eq_true (P.bl.inj e), fun e => congrArg P.bl (of_decide_eq_true e)⟩
theorem eqB_int {x y : Int} : eqB (.int x) (.int y) = decide (x = y) := eqB_of ⟨fun e => decide_eq_true (P.int.inj e), fun e => congrArg P.int (of_decide_eq_true e)⟩
theorem eqB_str {x y : Str} : eqB (.str x) (.str y) = decide (x = y) := eqB_of ⟨fun e => decide_eq_true (P.str.inj e), fun e => congrArg P.str (of_decide_eq_true e)⟩
end
end Law

namespace Law
open PySem PySem.Spec PyProof.Rows L2 Kb TL
-- the steps that are tried: k_clsL a side condition; k_subL one step; k_places steps as long as one fits
section
variable {Pg : Program} {w : World} {K : PySem.W.Frag} {Θ : Tbs} {mg : Str → Option Value} {base : Heap}
theorem stO_low {n : Nat} {ns : List Int} {a b c : Int} : lowO n (stO ns a b c) := fun x hx => by
  simp only [List.mem_cons, List.mem_nil_iff, or_false] at hx
  rcases hx with rfl | rfl | rfl | rfl <;> trivial
theorem joinL_nil : ∀ ps : List (List Nat), joinL [] ps = ps.flatten
  | [] => rfl
  | [p] => by simp [joinL]
  | p :: q :: r => by rw [joinL, joinL_nil (q :: r)]; simp
/-- a draw, the heap told from its beginning -/
theorem next_i {n : Nat} {ns : List Int} {a b c limit : Int} {h0 : Hs} {R : D → Hs → Prop} (hl : n < h0.length) (ok : OkSt ns a b c) (p0 : 0 < limit) (p1 : limit.natAbs.log2 < 9000)
    (q : ∀ v a' b' c' : Int, OkSt ns a' b' c' → 0 ≤ v → v < limit → R (dI v) (h0.set n (some (stO ns a' b' c')))) : W_next [.own n, dI limit] (h0.set n (some (stO ns a b c))) R :=
  ⟨n, ns, a, b, c, limit, rfl, List.getElem?_set_self hl, ok, p0, p1, fun v a' b' c' ok' v0 v1 => by rw [List.set_set]; exact q v a' b' c' ok' v0 v1⟩
end
end Law

namespace Law
open PySem PySem.Spec PyProof.Rows L2 Kb
-- the steps that are tried: k_clsL a side condition; k_subL one step; k_places steps as long as one fits
section
variable {Pg : Program} {w : World} {K : PySem.W.Frag} {Θ : Tbs} {mg : Str → Option Value} {base : Heap}
/-- plain data, no tuple of a program's top among them -/
def plainU : P → Bool
  | .non => true
  | .bl _ => true
  | .int _ => true
  | .str _ => true
  | .tup xs => plainUs xs
  | .lst xs => plainUs xs
  | _ => false
where plainUs : List P → Bool
  | [] => true
  | x :: xs => plainU x && plainUs xs
theorem plainUs_mem : ∀ {xs : List P}, plainU.plainUs xs = true → ∀ x ∈ xs, plainU x = true
  | [], _, x, hx => by simp at hx
  | y :: ys, h, x, hx => by
    unfold plainU.plainUs at h
    rw [Bool.and_eq_true] at h
    rcases List.mem_cons.mp hx with rfl | hx
    · exact h.1
    · exact plainUs_mem h.2 x hx
theorem plainUs_of : ∀ {xs : List P}, (∀ x ∈ xs, plainU x = true) → plainU.plainUs xs = true
  | [], _ => rfl
  | x :: xs, h => by
    unfold plainU.plainUs
    rw [h x List.mem_cons_self, plainUs_of fun y hy => h y (List.mem_cons_of_mem _ hy)]
    rfl
abbrev st_same : Stmt := (topS 67)
theorem sc_same : FnScope ["actual", "expected", "k"] ["actual", "expected"] (defScope st_same) := ⟨rfl, rfl, rfl, by decide +kernel, rfl, by decide +kernel, by decide +kernel⟩
def W_same : Nat → Spc
  | 0 => fun _ _ _ => False
  | n + 1 => fun ds h R => ∃ a b : P, ds = [.p a, .p b] ∧ plainU a = true ∧ okP n b = true ∧ R (dB (eqB a b)) h
theorem ok_same (A : DefAt K mg "_law_same" st_same ["actual", "expected"]) (m_int : mg "int" = none) (m_bool : mg "bool" = none) (m_str : mg "str" = none) (m_list : mg "list" = none) (m_tuple : mg "tuple" = none) (m_len : mg "len" = none) (m_range : mg "range" = none) (m_isinstance : mg "isinstance" = none) :
    ∀ n : Nat, HasF Pg w K mg base CX0 (n + 1) "_law_same" ["actual", "expected"] (spD K Θ (W_same n))
  | 0 => .never A sc_same fun _ _ _ h => h
  | n + 1 => by
    have sc := sc_same
    have h__law_same := ok_same A m_int m_bool m_str m_list m_tuple m_len m_range m_isinstance n
    refine A.okD sc (W_same (n + 1)) (fun ds h R ⟨a, b, e, _⟩ => by rw [e]; rfl) fun f cdv A outer s H E hr => ?_
    refine ⟨_, (pss_cons (ps_if (pt_cmpR op_isU (pv 1) pe_non (nomark _)) (pss_one (ps_ret (pe_cmpR op_isU (pv 0) pe_non (nomark _)))) pss_nil)
  (pss_cons (ps_if (pt_val (pe_callB (call_isiUK (K := K) (by rfl)) (by rfl) m_isinstance (by decide +kernel) (pa_cons (pv 1) (pa_cons (pe_bltn (v := .ty "bool") rfl m_bool (by decide +kernel) rfl) pa_nil)))) (pss_one (ps_ret (pe_and (pe_callB (call_isiUK (K := K) (by rfl)) (by rfl) m_isinstance (by decide +kernel) (pa_cons (pv 0) (pa_cons (pe_bltn (v := .ty "bool") rfl m_bool (by decide +kernel) rfl) pa_nil))) (pe_one (pe_cmpR (op_eqUK (K := K) (by rfl) hr.units) (pv 0) (pv 1) (nomark _)))))) pss_nil)
  (pss_cons (ps_if (pt_val (pe_callB (call_isiUK (K := K) (by rfl)) (by rfl) m_isinstance (by decide +kernel) (pa_cons (pv 1) (pa_cons (pe_bltn (v := .ty "int") rfl m_int (by decide +kernel) rfl) pa_nil)))) (pss_one (ps_ret (pe_and (pe_callB (call_isiUK (K := K) (by rfl)) (by rfl) m_isinstance (by decide +kernel) (pa_cons (pv 0) (pa_cons (pe_bltn (v := .ty "int") rfl m_int (by decide +kernel) rfl) pa_nil))) (pe_and (pe_not (pe_callB (call_isiUK (K := K) (by rfl)) (by rfl) m_isinstance (by decide +kernel) (pa_cons (pv 0) (pa_cons (pe_bltn (v := .ty "bool") rfl m_bool (by decide +kernel) rfl) pa_nil)))) (pe_one (pe_cmpR (op_eqUK (K := K) (by rfl) hr.units) (pv 0) (pv 1) (nomark _))))))) pss_nil)
  (pss_cons (ps_if (pt_val (pe_callB (call_isiUK (K := K) (by rfl)) (by rfl) m_isinstance (by decide +kernel) (pa_cons (pv 1) (pa_cons (pe_bltn (v := .ty "str") rfl m_str (by decide +kernel) rfl) pa_nil)))) (pss_one (ps_ret (pe_and (pe_callB (call_isiUK (K := K) (by rfl)) (by rfl) m_isinstance (by decide +kernel) (pa_cons (pv 0) (pa_cons (pe_bltn (v := .ty "str") rfl m_str (by decide +kernel) rfl) pa_nil))) (pe_one (pe_cmpR (op_eqUK (K := K) (by rfl) hr.units) (pv 0) (pv 1) (nomark _)))))) pss_nil)
  (pss_cons (ps_if (PW.pt (pw_and (pt_val (pe_callB (call_isiUK (K := K) (by rfl)) (by rfl) m_isinstance (by decide +kernel) (pa_cons (pv 1) (pa_cons (pe_bltn (v := .ty "tuple") rfl m_tuple (by decide +kernel) rfl) pa_nil)))) (pw_and1 (pt_not (pt_val (pe_callB (call_isiUK (K := K) (by rfl)) (by rfl) m_isinstance (by decide +kernel) (pa_cons (pv 0) (pa_cons (pe_bltn (v := .ty "tuple") rfl m_tuple (by decide +kernel) rfl) pa_nil)))))))) (pss_one (ps_ret pe_bl)) pss_nil)
  (pss_cons (ps_if (PW.pt (pw_and (pt_val (pe_callB (call_isiUK (K := K) (by rfl)) (by rfl) m_isinstance (by decide +kernel) (pa_cons (pv 1) (pa_cons (pe_bltn (v := .ty "list") rfl m_list (by decide +kernel) rfl) pa_nil)))) (pw_and1 (pt_not (pt_val (pe_callB (call_isiUK (K := K) (by rfl)) (by rfl) m_isinstance (by decide +kernel) (pa_cons (pv 0) (pa_cons (pe_bltn (v := .ty "list") rfl m_list (by decide +kernel) rfl) pa_nil)))))))) (pss_one (ps_ret pe_bl)) pss_nil)
  (pss_cons (ps_if (pt_cmpR (op_neUK (K := K) (by rfl) hr.units) (pe_callB (call_lenK (K := K) (by rfl)) (by rfl) m_len (by decide +kernel) (pa_cons (pv 0) pa_nil)) (pe_callB (call_lenK (K := K) (by rfl)) (by rfl) m_len (by decide +kernel) (pa_cons (pv 1) pa_nil)) (nomark _)) (pss_one (ps_ret pe_bl)) pss_nil)
  (pss_cons (ps_for PassesOwn.never rfl (pi_range1 rfl m_range (pa_cons (pe_callB (call_lenK (K := K) (by rfl)) (by rfl) m_len (by decide +kernel) (pa_cons (pv 1) pa_nil)) pa_nil)) (pg_name (i := 2) sc.nd rfl (.inl rfl))
  (pss_one (ps_if (pt_not (pt_val (h__law_same.call (hr.mono (by first | decide | omega)) rfl pass0 (pa_cons (pe_ix (ix_seqK (K := K) (by rfl)) (pv 0) (pv 2) (fun _ _ => rfl)) (pa_cons (pe_ix (ix_seqK (K := K) (by rfl)) (pv 1) (pv 2) (fun _ _ => rfl)) pa_nil))))) (pss_one (ps_ret pe_bl)) pss_nil)))
  (pss_one (ps_ret pe_bl)))))))))), ?_⟩
    try dsimp only [cxOf]
    rintro ds h R ⟨a, b, rfl, ha, hb, q⟩
    refine vs_fin ?_
    cases b with
    | ty _ => simp [okP] at hb
    | cls _ => simp [okP] at hb
    | ktp _ => simp [okP] at hb
    | ins _ _ => simp [okP] at hb
    | non =>
      cases a with
      | non => k_places; exact fin_p0 (by rw [eqB_eq rfl] at q; exact q)
      | ty _ => cases ha
      | cls _ => cases ha
      | ktp _ => cases ha
      | ins _ _ => cases ha
      | _ => k_places; exact fin_p0 (by rw [eqB_ne (by intro z; cases z)] at q; exact q)
    | bl y =>
      cases a with
      | bl x => k_places; exact fin_p0 (by rw [eqB_bl] at q; exact q)
      | ty _ => cases ha
      | cls _ => cases ha
      | ktp _ => cases ha
      | ins _ _ => cases ha
      | _ => k_places; exact fin_p0 (by rw [eqB_ne (by intro z; cases z)] at q; exact q)
    | int y =>
      cases a with
      | int x => k_places; exact fin_p0 (by rw [eqB_int] at q; exact q)
      | ty _ => cases ha
      | cls _ => cases ha
      | ktp _ => cases ha
      | ins _ _ => cases ha
      | _ => k_places; exact fin_p0 (by rw [eqB_ne (by intro z; cases z)] at q; exact q)
    | str y =>
      cases a with
      | str x => k_places; exact fin_p0 (by rw [eqB_str] at q; exact q)
      | ty _ => cases ha
      | cls _ => cases ha
      | ktp _ => cases ha
      | ins _ _ => cases ha
      | _ => k_places; exact fin_p0 (by rw [eqB_ne (by intro z; cases z)] at q; exact q)
    | tup ys =>
      cases a with
      | ty _ => cases ha
      | cls _ => cases ha
      | ktp _ => cases ha
      | ins _ _ => cases ha
      | tup xs =>
        obtain ⟨m, rfl, hl, hy⟩ := okP_tup hb
        have hx := plainUs_mem (xs := xs) (by unfold plainU at ha; exact ha)
        k_places
        refine ite_ndec (fun hne => ?_) (fun heq => ?_)
        · k_places
          exact fin_p0 (by rw [eqB_ne (fun z => hne (by cases z; rfl))] at q; exact q)
        k_places
        refine vs_for (vi_range1 ?_)
        k_places
        refine ⟨_, rfl, by omega, by omega, ?_⟩
        refine ⟨fun i env h' => (∃ o, env = [some (dT xs), some (dT ys), o]) ∧ h' = h ∧ ∀ j, j < i → xs[j]? = ys[j]?, ?_, ?_, ?_, ?_⟩
        · exact ⟨⟨none, rfl⟩, rfl, fun j hj => absurd hj (Nat.not_lt_zero _)⟩
        · exact fun _ _ _ _ => trivial
        · rintro i d env h' hd ⟨⟨o, rfl⟩, rfl, hpre⟩
          obtain ⟨hi, rfl⟩ := rng_get hd
          have hiy : i < ys.length := by omega
          have hix : i < xs.length := by omega
          k_places
          refine v2_ixT (at_nat i (by omega) (List.getElem?_eq_getElem hix)) ?_
          k_places
          refine v2_ixT (at_nat i (by omega) (List.getElem?_eq_getElem hiy)) ?_
          k_places
          refine ⟨_, _, rfl, hx _ (List.getElem_mem hix), hy _ (List.getElem_mem hiy), ?_⟩
          k_places
          refine ite_nb (fun e => ?_) (fun e => ?_)
          · k_places
            refine fin_p0 ?_
            rw [eqB_ne (fun z => ?_)] at q
            · exact q
            · cases z
              rw [eqB_eq rfl] at e
              cases e
          · k_places
            refine ⟨⟨_, rfl⟩, rfl, fun j hj => ?_⟩
            rcases Nat.lt_succ_iff_lt_or_eq.mp hj with hj | rfl
            · exact hpre j hj
            · rw [List.getElem?_eq_getElem hix, List.getElem?_eq_getElem hiy, eqB_iff.mp e]
        · rintro env h' ⟨⟨o, rfl⟩, rfl, hpre⟩
          rw [rng_len] at hpre
          k_places
          refine fin_p0 ?_
          have e : xs = ys := by
            refine List.ext_getElem? fun j => ?_
            by_cases hj : j < ys.length
            · exact hpre j (by omega)
            · rw [List.getElem?_eq_none_iff.mpr (by omega), List.getElem?_eq_none_iff.mpr (by omega)]
          rw [eqB_eq (congrArg P.tup e)] at q
          exact q
      | _ => k_places; exact fin_p0 (by rw [eqB_ne (by intro z; cases z)] at q; exact q)
    | lst ys =>
      cases a with
      | ty _ => cases ha
      | cls _ => cases ha
      | ktp _ => cases ha
      | ins _ _ => cases ha
      | lst xs =>
        obtain ⟨m, rfl, hl, hy⟩ := okP_lst hb
        have hx := plainUs_mem (xs := xs) (by unfold plainU at ha; exact ha)
        k_places
        refine ite_ndec (fun hne => ?_) (fun heq => ?_)
        · k_places
          exact fin_p0 (by rw [eqB_ne (fun z => hne (by cases z; rfl))] at q; exact q)
        k_places
        refine vs_for (vi_range1 ?_)
        k_places
        refine ⟨_, rfl, by omega, by omega, ?_⟩
        refine ⟨fun i env h' => (∃ o, env = [some (dL xs), some (dL ys), o]) ∧ h' = h ∧ ∀ j, j < i → xs[j]? = ys[j]?, ?_, ?_, ?_, ?_⟩
        · exact ⟨⟨none, rfl⟩, rfl, fun j hj => absurd hj (Nat.not_lt_zero _)⟩
        · exact fun _ _ _ _ => trivial
        · rintro i d env h' hd ⟨⟨o, rfl⟩, rfl, hpre⟩
          obtain ⟨hi, rfl⟩ := rng_get hd
          have hiy : i < ys.length := by omega
          have hix : i < xs.length := by omega
          k_places
          refine v2_ixL (at_nat i (by omega) (List.getElem?_eq_getElem hix)) ?_
          k_places
          refine v2_ixL (at_nat i (by omega) (List.getElem?_eq_getElem hiy)) ?_
          k_places
          refine ⟨_, _, rfl, hx _ (List.getElem_mem hix), hy _ (List.getElem_mem hiy), ?_⟩
          k_places
          refine ite_nb (fun e => ?_) (fun e => ?_)
          · k_places
            refine fin_p0 ?_
            rw [eqB_ne (fun z => ?_)] at q
            · exact q
            · cases z
              rw [eqB_eq rfl] at e
              cases e
          · k_places
            refine ⟨⟨_, rfl⟩, rfl, fun j hj => ?_⟩
            rcases Nat.lt_succ_iff_lt_or_eq.mp hj with hj | rfl
            · exact hpre j hj
            · rw [List.getElem?_eq_getElem hix, List.getElem?_eq_getElem hiy, eqB_iff.mp e]
        · rintro env h' ⟨⟨o, rfl⟩, rfl, hpre⟩
          rw [rng_len] at hpre
          k_places
          refine fin_p0 ?_
          have e : xs = ys := by
            refine List.ext_getElem? fun j => ?_
            by_cases hj : j < ys.length
            · exact hpre j (by omega)
            · rw [List.getElem?_eq_none_iff.mpr (by omega), List.getElem?_eq_none_iff.mpr (by omega)]
          rw [eqB_eq (congrArg P.lst e)] at q
          exact q
      | _ => k_places; exact fin_p0 (by rw [eqB_ne (by intro z; cases z)] at q; exact q)
end
end Law

namespace Law
open PySem PySem.Spec PyProof.Rows L2 Kb
-- the steps that are tried: k_clsL a side condition; k_subL one step; k_places steps as long as one fits
/-- a def that draws a value by the state -/
def W_draw (S : P → Prop) : Spc := fun ds h R => ∃ (n : Nat) (ns : List Int) (a b c : Int), ds = [.own n] ∧ h[n]? = some (some (stO ns a b c)) ∧ OkSt ns a b c ∧
  ∀ (v : P) (a' b' c' : Int), OkSt ns a' b' c' → S v → R (.p v) (h.set n (some (stO ns a' b' c')))
def W_law : Spc := fun ds h R => ∃ ns : List Int, ds = [dL (ns.map P.int)] ∧ h = [] ∧ ns.length ≤ 63 ∧ ∀ h', R (dB true) h'
abbrev h0 : Hs := [none]
abbrev hst (ns : List Int) (a b c : Int) : Hs := List.set h0 0 (some (stO ns a b c))
theorem ok_start {ns : List Int} (hl : ns.length ≤ 63) : OkSt ns 0 0 1 := ⟨hl, by decide, by omega, by decide, by decide, by decide⟩
theorem draw_i {S : P → Prop} {n : Nat} {h0 : Hs} {ns : List Int} {a b c : Int} {R : D → Hs → Prop} (hl : n < h0.length) (ok : OkSt ns a b c) (q : ∀ (v : P) (a b c : Int), OkSt ns a b c → S v → R (.p v) (h0.set n (some (stO ns a b c)))) : W_draw S [.own n] (h0.set n (some (stO ns a b c))) R :=
  ⟨n, ns, a, b, c, rfl, List.getElem?_set_self hl, ok, fun v a b c ok hv => by rw [List.set_set]; exact q v a b c ok hv⟩
end Law

namespace Law
open PySem PySem.Spec PyProof.Rows L2 Kb
-- the steps that are tried: k_clsL a side condition; k_subL one step; k_places steps as long as one fits
section
variable {K : PySem.W.Frag} {Θ : Tbs}
/-- the turns of a comprehension each of which draws a value: e(i, acc, what follows) -/
theorem draws_of {S : P → Prop} {te : TE} {kk n m : Nat} {env : Env'} {h0 : Hs} {Z : List P → Hs → Prop} {ns : List Int} {a b c : Int} (hl : n < h0.length) (ok : OkSt ns a b c) (hm : m < sizeLine)
    (turn : ∀ (i : Nat) (acc : List P) (a b c : Int) (T : D → Hs → Prop), OkSt ns a b c → (∀ (p : P) (a b c : Int), OkSt ns a b c → S p → T (.p p) (h0.set n (some (stO ns a b c)) ++ [accO acc])) →
      VE K Θ te ((env.set kk none).set kk (some (dI (0 + (i : Int))))) (h0.set n (some (stO ns a b c)) ++ [accO acc]) T)
    (q : ∀ (acc : List P) (a b c : Int), acc.length = m → (∀ p ∈ acc, S p) → OkSt ns a b c → Z acc (h0.set n (some (stO ns a b c)))) :
    ∃ Inv : Nat → List P → Hs → Prop, (rng 0 m).length < sizeLine ∧ Inv 0 [] (h0.set n (some (stO ns a b c))) ∧
      (∀ i acc h', Inv i acc h' → h'.length = (h0.set n (some (stO ns a b c))).length ∧ lowH (h0.set n (some (stO ns a b c))) h' ∧ (fun _ => True) (h' ++ [accO acc])) ∧
      (∀ i d acc h', (rng 0 m)[i]? = some d → Inv i acc h' → VG K Θ (gName kk) d (wipeD env [kk]) (h' ++ [accO acc]) fun env' h2 => VT K Θ tYes env' h2 fun b h3 => if b = true then VE K Θ te env' h3 (fun y h4 => ∃ p h5, y = .p p ∧ h4 = h5 ++ [accO acc] ∧ Inv (i + 1) (acc ++ [p]) h5) else ∃ h5, h3 = h5 ++ [accO acc] ∧ Inv (i + 1) acc h5) ∧
      (∀ acc h', Inv (rng 0 m).length acc h' → Z acc h') := by
  refine ⟨fun i acc h' => ∃ a b c : Int, acc.length = i ∧ (∀ p ∈ acc, S p) ∧ h' = h0.set n (some (stO ns a b c)) ∧ OkSt ns a b c, by rw [rng_len]; exact hm, ⟨a, b, c, rfl, fun _ z => by simp at z, rfl, ok⟩, ?_, ?_, ?_⟩
  · rintro i acc h' ⟨a2, b2, c2, hi, hs, rfl, ok2⟩
    refine ⟨by simp, ?_, trivial⟩
    have z := (lowH.refl (h0.set n (some (stO ns a b c)))).set (n := n) (o := stO ns a2 b2 c2) stO_low
    rw [List.set_set] at z
    exact z
  · rintro i d acc h' hd ⟨a2, b2, c2, hi, hs, rfl, ok2⟩
    obtain ⟨_, rfl⟩ := rng_get hd
    refine vg_name (vt_yes (ite_t ?_))
    refine turn i acc a2 b2 c2 _ ok2 fun p a3 b3 c3 ok3 hp => ⟨p, _, rfl, rfl, a3, b3, c3, by simp [hi], fun x hx => ?_, rfl, ok3⟩
    rcases List.mem_append.mp hx with hx | hx
    · exact hs x hx
    · rw [List.mem_singleton.mp hx]; exact hp
  · rintro acc h' ⟨a2, b2, c2, hi, hs, rfl, ok2⟩
    rw [rng_len] at hi
    exact q acc a2 b2 c2 hi hs ok2
theorem app_assoc' {h0 : Hs} {n : Nat} {x y : Option OO} (hl : n < h0.length) : h0.set n x ++ [y] = (h0 ++ [y]).set n x := (List.set_append_left _ _ hl).symm
end
end Law

namespace Law
open PySem PySem.Spec PyProof.Rows L2 Kb SX
-- the steps that are tried: k_clsL a side condition; k_subL one step; k_places steps as long as one fits
/-- what the tokens' constants are -/
structure TokC (K : PySem.W.Frag) (mg : Str → Option Value) (aK aL : Addr) : Prop where
  lets : ∃ t, mg "LETTERS" = some (.str Tz.lets t)
  digs : ∃ t, mg "DIGITS" = some (.str Tz.digs t)
  ofws : ∃ t, mg "OF_WORDS" = some (.str Tz.ofws t)
  blks : ∃ t, mg "BLANKS" = some (.str Tz.blks t)
  shorts : ∃ t, mg "SHORT_SIGNS" = some (.str Tz.shorts t)
  md : ∃ t, mg "MOST_DIGITS" = some (.int 30 t)
  mc : ∃ t, mg "MOST_CHARACTERS" = some (.int 2000 t)
  gk : mg "KEYWORDS" = some (.ref aK)
  gl : mg "LONG_SIGNS" = some (.ref aL)
  kk : KTup K aK (Tz.kws.map V.str)
  kl : KTup K aL (Tz.longs.map V.str)
abbrev st_rini : Stmt := (inClass (topS 3) 0)
theorem sc_rini : FnScope ["self", "position"] ["self", "position"] (defScope st_rini) := ⟨rfl, rfl, rfl, by decide +kernel, rfl, by decide +kernel, by decide +kernel⟩
/-- the error's class -/
structure RefC (K : PySem.W.Frag) (mg : Str → Option Value) (C : Addr) : Prop where
  oe : OexC K C
  xf : XfC K C
  ec : ExcC K C
  no : PySem.W.findIn K (.ref C) "position" = some none
  ini : ∃ fI fd, Fun K "__init__" "RefusedText.__init__" st_rini fI fd ∧ PySem.W.findIn K (.ref C) "__init__" = some (some (.ref fI)) ∧ PySem.W.typeIn K (.ref fI) = some (.type "function") ∧ Binds K fd ["self", "position"] []
  at_ : mg "RefusedText" = some (.ref C)
section
variable {Pg : Program} {w : World} {K : PySem.W.Frag} {Θ : Tbs} {mg : Str → Option Value} {base : Heap} {C aK aL : Addr}
theorem ref_init (Z : RefC K mg C) : ∃ fI fd, FnOk Pg w K mg base CX0 1 fI fd ["self", "position"] (spInit1 C "position") ∧ PySem.W.findIn K (.ref C) "__init__" = some (some (.ref fI)) ∧ PySem.W.typeIn K (.ref fI) = some (.type "function") ∧ Binds K fd ["self", "position"] [] := by
  obtain ⟨fI, fd, F, i1, i2, b⟩ := Z.ini
  have sc := sc_rini
  exact ⟨fI, fd, fn_init1 (k := 0) F sc rfl Z.oe Z.no fun cdv A outer s H E => (pss_one (ps_ost (pv 0) (pv 1))), i1, i2, b⟩
abbrev st_run : Stmt := (topS 16)
theorem sc_run : FnScope ["text", "at", "characters"] ["text", "at", "characters"] (defScope st_run) := ⟨rfl, rfl, rfl, by decide +kernel, rfl, by decide +kernel, by decide +kernel⟩
def W_run : Spc := fun ds h R => ∃ (L : List Nat) (a : Nat) (z : Str), ds = [dS (S L), dI a, dS z] ∧ a ≤ L.length ∧ L.length ≤ sizeLine ∧ R (dI (a + (Tz.run z (L.drop a)).length : Nat)) h
theorem run_get {z : Str} {u : List Nat} {i : Nat} (hi : i < (Tz.run z u).length) : ∃ c, u[i]? = some c ∧ Tz.inS z c = true := by
  have e : (Tz.run z u)[i]? = u[i]? := by
    have z1 := Tz.run_take (z := z) (u := u)
    rw [← z1, List.getElem?_take, if_pos hi]
  rw [List.getElem?_eq_getElem hi] at e
  exact ⟨_, e.symm, Tz.run_in _ (List.getElem_mem hi)⟩
theorem run_end {z : Str} {u : List Nat} {c : Nat} (h : u[(Tz.run z u).length]? = some c) : Tz.inS z c = false := by
  induction u with
  | nil => simp at h
  | cons d u ih =>
    unfold Tz.run at h ih
    rw [List.takeWhile_cons] at h
    cases e : Tz.inS z d with
    | false => rw [e] at h; cases h; exact e
    | true =>
      rw [e, if_pos rfl, List.length_cons, List.getElem?_cons_succ] at h
      exact ih h
theorem ok_run (A : DefAt K mg "_end_of_run" st_run ["text", "at", "characters"]) (m_len : mg "len" = none) : HasF Pg w K mg base CX0 1 "_end_of_run" ["text", "at", "characters"] (spD K Θ W_run) := by
  have sc := sc_run
  refine A.okD sc W_run (fun ds h R ⟨_, _, _, e, _⟩ => by rw [e]; rfl) fun f cdv A outer s H E hr => ?_
  refine ⟨_, (pss_cons (ps_while PassesOwn.never (PW.pt (pw_and (pt_cmpR op_lt (pv 1) (pe_callB (call_lenK (K := K) (by rfl)) (by rfl) m_len (by decide +kernel) (pa_cons (pv 0) pa_nil)) (nomark _)) (pw_and1 (pt_cmpR (op_inUK (K := K) (by rfl)) (pe_ix (ix_seqK (K := K) (by rfl)) (pv 0) (pv 1) (fun _ _ => rfl)) (pv 2) (by rfl)))))
  (pss_one (ps_aug (i := 1) sc.nd rfl (.inl rfl) pe_int ip_add)))
  (pss_one (ps_ret (pv 1)))), ?_⟩
  try dsimp only [cxOf]
  rintro ds h R ⟨L, a, z, rfl, ha, hl, q⟩
  have rl := Tz.run_le z (L.drop a)
  rw [List.length_drop] at rl
  refine vs_seq ?_
  refine vs_while (fun env' h' => ∃ i : Nat, i ≤ (Tz.run z (L.drop a)).length ∧ env' = [some (dS (S L)), some (dI (a + i : Nat)), some (dS z)] ∧ h' = h) (fun env' _ => match env' with | [_, some (.p (.int x)), _] => (L.length - x.toNat) | _ => 0) ⟨0, Nat.zero_le _, rfl, rfl⟩ ?_
  rintro env' h' ⟨i, hi, rfl, rfl⟩
  k_places
  refine vc_len (n := L.length) ⟨by rw [S_len]; exact hl, S_len L⟩ ?_
  k_places
  by_cases c1 : a + i < L.length
  · refine ite_tt (decide_eq_true (by exact_mod_cast c1)) ?_
    k_places
    refine v2_ixS (by rw [S_len]; exact hl) (at_nat (a + i) (by omega) (List.getElem?_eq_getElem c1)) ?_
    k_places
    refine v2_inC ?_
    have eg : (L.drop a)[i]? = some L[a + i] := by rw [List.getElem?_drop, List.getElem?_eq_getElem c1]
    by_cases c2 : i < (Tz.run z (L.drop a)).length
    · obtain ⟨c, e1, e2⟩ := run_get c2
      rw [eg] at e1
      cases e1
      refine ⟨_, rfl, ite_tt e2 ?_⟩
      refine vs_aug rfl ?_
      k_places
      refine v2_ip (g := fun i j => i + j) ?_
      refine ⟨⟨i + 1, by omega, by rw [show (a + (i + 1) : Nat) = a + i + 1 from rfl]; rfl, rfl⟩, ?_⟩
      show L.length - ((a + i : Nat) + 1 : Int).toNat < L.length - ((a + i : Nat) : Int).toNat
      omega
    · have e : i = (Tz.run z (L.drop a)).length := by omega
      subst e
      have z1 := run_end eg
      refine ⟨_, rfl, ite_ff z1 ?_⟩
      k_places
      exact q
  · refine ite_ff (decide_eq_false (by exact_mod_cast c1)) ?_
    k_places
    have e : i = (Tz.run z (L.drop a)).length := by omega
    subst e
    exact q
end
end Law

namespace Law
open PySem PySem.Spec PyProof.Rows L2 Kb SX
-- the steps that are tried: k_clsL a side condition; k_subL one step; k_places steps as long as one fits
theorem cutS_S (L : List Nat) (a b : Nat) (h : a ≤ b) : cutS (S L) (some (a : Int)) (some (b : Int)) = S ((L.drop a).take (b - a)) := by
  have e : cutS (S L) (some (a : Int)) (some (b : Int)) = S (cutP L (some (a : Int)) (some (b : Int))) := rfl
  rw [e]
  congr 1
  unfold cutP
  have e1 : HT.sIx L.length 0 (some (a : Int)) = min a L.length := by
    unfold HT.sIx
    simp only []
    split <;> omega
  have e2 : HT.sIx L.length L.length (some (b : Int)) = min b L.length := by
    unfold HT.sIx
    simp only []
    split <;> omega
  rw [e1, e2]
  by_cases c : a ≤ L.length
  · rw [Nat.min_eq_left c, List.take_eq_take_iff, List.length_drop]
    omega
  · have d1 : L.drop (min a L.length) = [] := List.drop_eq_nil_of_le (by omega)
    have d2 : L.drop a = [] := List.drop_eq_nil_of_le (by omega)
    rw [d1, d2, List.take_nil, List.take_nil]
/-- the text from a place on, cut -/
theorem ve_cutS {env : Env'} {K : PySem.W.Frag} {Θ : Kb.Ctx} {h : Hs} {R : D → Hs → Prop} {te : TE} {tl th : TO} (q : VE K Θ te env h fun x h1 => VO K Θ tl env h1 fun lo h2 => VO K Θ th env h2 fun hi h3 => ∃ (L : List Nat) (a b : Nat), x = dS (S L) ∧ lo = some (a : Int) ∧ hi = some (b : Int) ∧ a ≤ b ∧ L.length ≤ sizeLine ∧ R (dS (S ((L.drop a).take (b - a)))) h3) :
    VE K Θ (tSl rSlS te tl th) env h R := ve_slS (fun F ρ σ H Q rl e k => q F ρ σ H Q rl e fun x h1 v F1 ρ1 H1 s1 p1 r1 dx q1 => k x h1 v F1 ρ1 H1 s1 p1 r1 dx (fun F ρ σ H Q rl e k => q1 F ρ σ H Q rl e fun lo h2 F2 ρ2 H2 s2 p2 r2 q2 => k lo h2 F2 ρ2 H2 s2 p2 r2 (fun F ρ σ H Q rl e k => q2 F ρ σ H Q rl e fun hi h3 F3 ρ3 H3 s3 p3 r3 q3 => k hi h3 F3 ρ3 H3 s3 p3 r3 (by
      obtain ⟨L, a, b, rfl, rfl, rfl, hab, hl, q3⟩ := q3
      exact ⟨S L, rfl, by rw [S_len]; exact hl, by rw [cutS_S L a b hab]; exact q3⟩))))
section
variable {Pg : Program} {w : World} {K : PySem.W.Frag} {Θ : Tbs} {mg : Str → Option Value} {base : Heap} {C aK aL : Addr}
abbrev st_word : Stmt := (topS 17)
theorem sc_word : FnScope ["text", "at", "end", "word"] ["text", "at"] (defScope st_word) := ⟨rfl, rfl, rfl, by decide +kernel, rfl, by decide +kernel, by decide +kernel⟩
def W_word : Spc := fun ds h R => ∃ (L : List Nat) (a : Nat), ds = [dS (S L), dI a] ∧ a < L.length ∧ L.length ≤ sizeLine ∧ R (dT [.str (Tz.kindW (Tz.run Tz.ofws (L.drop a))), .str (S (Tz.run Tz.ofws (L.drop a))), .int (a + (Tz.run Tz.ofws (L.drop a)).length : Nat)]) h
theorem ok_word (A : DefAt K mg "_word_at" st_word ["text", "at"]) (T : TokC K mg aK aL)
    (h__end_of_run : HasF Pg w K mg base CX0 1 "_end_of_run" ["text", "at", "characters"] (spD K Θ W_run)) : HasF Pg w K mg base CX0 2 "_word_at" ["text", "at"] (spD K Θ W_word) := by
  have sc := sc_word
  obtain ⟨t1, g_OF_WORDS⟩ := T.ofws
  have g_KEYWORDS := T.gk
  refine A.okD sc W_word (fun ds h R ⟨_, _, e, _⟩ => by rw [e]; rfl) fun f cdv A outer s H E hr => ?_
  refine ⟨_, (pss_cons (ps_set (i := 2) sc.nd rfl (.inl rfl) (h__end_of_run.call (hr.mono (by first | decide | omega)) rfl pass0 (pa_cons (pv 0) (pa_cons (pv 1) (pa_cons (pe_glob (v := .str Tz.ofws) rfl g_OF_WORDS ⟨_, rfl⟩) pa_nil)))))
  (pss_cons (ps_set (i := 3) sc.nd rfl (.inl rfl) (pe_slice sl_str (pv 0) (po_some (pv 1)) (po_some (pv 2))))
  (pss_one (ps_ret (pe_tup (pa_cons (pe_ifExp (pt_cmpR (op_inUK (K := K) (by rfl)) (pv 3) (pe_glob (v := .ref aK) rfl g_KEYWORDS rfl) (by rfl)) pe_str pe_str) (pa_cons (pv 3) (pa_cons (pv 2) pa_nil)))))))), ?_⟩
  try dsimp only [cxOf]
  rintro ds h R ⟨L, a, rfl, ha, hl, q⟩
  have rl := Tz.run_le Tz.ofws (L.drop a)
  rw [List.length_drop] at rl
  k_places
  refine ⟨L, a, Tz.ofws, rfl, by omega, hl, ?_⟩
  k_places
  refine ve_cutS ?_
  k_places
  refine vo_some ?_
  k_places
  refine ⟨_, rfl, vo_some ?_⟩
  k_places
  refine ⟨_, rfl, L, a, a + (Tz.run Tz.ofws (L.drop a)).length, rfl, rfl, rfl, Nat.le_add_right _ _, hl, ?_⟩
  rw [Nat.add_sub_cancel_left, Tz.run_take]
  k_places
  refine ve_cls ?_
  refine v2_inK T.kk ?_
  k_places
  unfold Tz.kindW at q
  refine ite_b (fun c => ?_) (fun c => ?_)
  · rw [c, if_pos rfl] at q
    k_places
    exact q
  · rw [c, if_neg (by decide)] at q
    k_places
    exact q
/-- what a def that may refuse answers -/
def AnsT (C : Addr) (a : Nat) (o : Option (Str × P × Nat)) (h : Hs) (R : D → Hs → Prop) (RX : Exn → Hs → Prop) : Prop := match o with
  | some (k, v, n) => R (dT [.str k, v, .int (a + n : Nat)]) h
  | none => ∀ junk, RX ⟨C, some [("position", .int a)]⟩ (h ++ junk)
theorem ansT_no {C : Addr} {a : Nat} {o : Option (Str × P × Nat)} {h : Hs} {R : D → Hs → Prop} {RX : Exn → Hs → Prop} (q : AnsT C a o h R RX) (e : o = none) : RX ⟨C, some [("position", .int a)]⟩ h := by
  subst e
  have z : RX ⟨C, some [("position", .int a)]⟩ (h ++ []) := q []
  rwa [List.append_nil] at z
abbrev st_int : Stmt := (topS 18)
theorem sc_int : FnScope ["text", "at", "end"] ["text", "at"] (defScope st_int) := ⟨rfl, rfl, rfl, by decide +kernel, rfl, by decide +kernel, by decide +kernel⟩
def W_int (C : Addr) : SpcX := fun ds h R RX => ∃ (L : List Nat) (a : Nat) (c : Nat) (u : List Nat), ds = [dS (S L), dI a] ∧ L.drop a = c :: u ∧ Tz.inS Tz.lets c = false ∧ Tz.inS Tz.digs c = true ∧ a < L.length ∧ L.length ≤ sizeLine ∧ AnsT C a (Tz.tokR (L.drop a)) h R RX
theorem ok_int (A : DefAt K mg "_integer_at" st_int ["text", "at"]) (T : TokC K mg aK aL) (Z : RefC K mg C) (m_int : mg "int" = none)
    (h__end_of_run : HasF Pg w K mg base CX0 1 "_end_of_run" ["text", "at", "characters"] (spD K Θ W_run)) : HasF Pg w K mg base (L2.CX Pg w) 3 "_integer_at" ["text", "at"] (spDX K Θ (W_int C)) := by
  have sc := sc_int
  obtain ⟨t1, g_DIGITS⟩ := T.digs
  obtain ⟨t2, g_MOST_DIGITS⟩ := T.md
  obtain ⟨fI, fd, fI_RefusedText, iC_RefusedText, tI_RefusedText, bI_RefusedText⟩ := ref_init (Pg := Pg) (w := w) (base := base) Z
  have oe_RefusedText := Z.oe
  have mg_RefusedText := Z.at_
  refine A.okX sc (W_int C) (fun ds h R RX ⟨_, _, _, _, e, _⟩ => by rw [e]; rfl) fun f cdv A outer s H E hr => ?_
  refine ⟨_, (pss_cons (ps_set (i := 2) sc.nd rfl (.inl rfl) (h__end_of_run.call (hr.mono (by first | decide | omega)) rfl pass0 (pa_cons (pv 0) (pa_cons (pv 1) (pa_cons (pe_glob (v := .str Tz.digs) rfl g_DIGITS ⟨_, rfl⟩) pa_nil)))))
  (pss_cons (ps_if (pt_cmpR op_gt (pe_op op_sub (pv 2) (pv 1)) (pe_glob (v := .int 30) rfl g_MOST_DIGITS ⟨_, rfl⟩) (nomark _)) (pss_one (ps_raiseF rfl (takes_of rfl rfl rfl rfl) oe_RefusedText iC_RefusedText tI_RefusedText fI_RefusedText (hr.mono (by first | decide | omega)) bI_RefusedText rfl mg_RefusedText (pa_cons (pv 1) pa_nil))) pss_nil)
  (pss_one (ps_ret (pe_tup (pa_cons pe_str (pa_cons (pe_callTy call_intU (by rfl) m_int (by decide +kernel) (pa_cons (pe_slice sl_str (pv 0) (po_some (pv 1)) (po_some (pv 2))) pa_nil)) (pa_cons (pv 2) pa_nil)))))))), ?_⟩
  try dsimp only [cxOf]
  rintro ds h R RX ⟨L, a, c, u, rfl, eu, c1, c2, ha, hl, q⟩
  have rl := Tz.run_le Tz.digs (L.drop a)
  rw [List.length_drop] at rl
  have et : Tz.tokR (L.drop a) = if 30 < (Tz.run Tz.digs (L.drop a)).length then none else some (("integer" : Str), P.int (NumText.digitsVal (Tz.run Tz.digs (L.drop a)) : Nat), (Tz.run Tz.digs (L.drop a)).length) := by
    rw [eu]
    show Tz.tokC c u = _
    unfold Tz.tokC
    rw [c1, if_neg (by decide), c2, if_pos rfl]
  have r0 : 0 < (Tz.run Tz.digs (L.drop a)).length := by
    rw [eu]
    unfold Tz.run
    rw [List.takeWhile_cons, c2, if_pos rfl]
    simp
  k_places
  refine ⟨L, a, Tz.digs, rfl, by omega, hl, ?_⟩
  k_places
  refine ite_dec (fun e => ?_) (fun e => ?_)
  · have e' : 30 < (Tz.run Tz.digs (L.drop a)).length := by omega
    refine vs_raiseF ?_
    k_places
    rw [if_pos e'] at et
    exact ⟨_, rfl, ansT_no q et⟩
  · have e' : ¬ 30 < (Tz.run Tz.digs (L.drop a)).length := by omega
    rw [if_neg e'] at et
    rw [et] at q
    k_places
    refine ve_cutS ?_
    k_places
    refine vo_some ?_
    k_places
    refine ⟨_, rfl, vo_some ?_⟩
    k_places
    refine ⟨_, rfl, L, a, a + (Tz.run Tz.digs (L.drop a)).length, rfl, rfl, rfl, Nat.le_add_right _ _, hl, ?_⟩
    rw [Nat.add_sub_cancel_left, Tz.run_take]
    k_places
    refine vc_intS (int_S (Tz.dig_ok Tz.run_in) (fun z => by rw [z] at r0; simp at r0) (by omega)) (by rw [S_len]; omega) ?_
    k_places
    exact q
end
end Law

namespace Law
open PySem PySem.Spec PyProof.Rows L2 Kb SX TL
-- the steps that are tried: k_clsL a side condition; k_subL one step; k_places steps as long as one fits
theorem quote_S : ("'" : Str) = ⟨#[39]⟩ := by decide +kernel
theorem getD_S (L : List Nat) (v : Nat) : (S L).cps.getD v 0 = (L[v]?).getD 0 := by
  show L.toArray.getD v 0 = _
  simp [Array.getD, List.getElem?_eq_getElem]
  split <;> simp [*]
theorem find_cases (L : List Nat) {st : Nat} (hs : st ≤ L.length) : (Txt.find3 (S L) "'" (st : Int) = -1 ∧ ∀ c ∈ L.drop st, c ≠ 39) ∨
    ∃ (k : Nat) (u : List Nat), Txt.find3 (S L) "'" (st : Int) = k ∧ st ≤ k ∧ k < L.length ∧ L.drop k = 39 :: u ∧ ∀ c ∈ (L.drop st).take (k - st), c ≠ 39 := by
  have e0 : fromIndex (S L).length (st : Int) = st := by
    unfold fromIndex
    omega
  rw [quote_S]
  rcases StrLaws.find3_spec (S L) 39 (st : Int) with ⟨e, n⟩ | ⟨k, e, h1, h2, h3, n⟩
  · refine .inl ⟨e, fun c hc hx => ?_⟩
    obtain ⟨i, hi, ei⟩ := List.getElem_of_mem hc
    rw [List.length_drop] at hi
    rw [List.getElem_drop] at ei
    have z := n (st + i) (by rw [e0]; omega) (by rw [S_len]; omega)
    rw [getD_S, List.getElem?_eq_getElem (by omega), ei] at z
    exact z hx
  · rw [e0] at h1 n
    rw [S_len] at h2
    rw [getD_S, List.getElem?_eq_getElem h2] at h3
    refine .inr ⟨k, L.drop (k + 1), e, h1, h2, ?_, fun c hc hx => ?_⟩
    · rw [List.drop_eq_getElem_cons h2]
      exact congrArg (· :: L.drop (k + 1)) h3
    · obtain ⟨i, hi, ei⟩ := List.getElem_of_mem hc
      rw [List.length_take, List.length_drop] at hi
      rw [List.getElem_take, List.getElem_drop] at ei
      have z := n (st + i) (by omega) (by omega)
      rw [getD_S, List.getElem?_eq_getElem (by omega), ei] at z
      exact z hx
theorem quo_to {L : List Nat} {st k : Nat} (h1 : st ≤ k) (h2 : k < L.length) (hn : ∀ c ∈ (L.drop st).take (k - st), c ≠ 39) :
    Tz.quo (L.drop st) = (Tz.quo (L.drop k)).map fun q => ((L.drop st).take (k - st) ++ q.1, q.2 + (k - st)) := by
  have e : L.drop st = (L.drop st).take (k - st) ++ L.drop k := by
    have z := (List.take_append_drop (k - st) (L.drop st)).symm
    rw [List.drop_drop, show st + (k - st) = k by omega] at z
    exact z
  have z := Tz.quo_app (u := L.drop k) hn
  rw [← e, List.length_take, List.length_drop, Nat.min_eq_left (by omega)] at z
  exact z
theorem join_S (pcs : List (List Nat)) : Txt.join (Str.ofString "") (pcs.map S) = S pcs.flatten := by
  rw [join_eq]
  have e := TL.tl_join (Str.ofString "") (pcs.map S)
  have e0 : TL.tl (Str.ofString "") = [] := by decide +kernel
  rw [e0, joinL_nil, List.map_map] at e
  have e2 : (TL.tl ∘ S) = (id : List Nat → List Nat) := by funext l; rfl
  rw [e2, List.map_id] at e
  exact TL.ext_tl e
theorem ansT_none {C : Addr} {a : Nat} {o : Option (Str × P × Nat)} {h : Hs} {R : D → Hs → Prop} {RX : Exn → Hs → Prop} (q : AnsT C a o h R RX) (e : o = none) : ∀ junk, RX ⟨C, some [("position", .int a)]⟩ (h ++ junk) := by
  subst e
  exact q
section
variable {Pg : Program} {w : World} {K : PySem.W.Frag} {Θ : Tbs} {mg : Str → Option Value} {base : Heap} {C aK aL : Addr}
abbrev st_txt : Stmt := (topS 19)
theorem sc_txt : FnScope ["text", "at", "parts", "start", "end", "told"] ["text", "at"] (defScope st_txt) := ⟨rfl, rfl, rfl, by decide +kernel, rfl, by decide +kernel, by decide +kernel⟩
def W_txt (C : Addr) : SpcX := fun ds h R RX => ∃ (L : List Nat) (a : Nat) (u : List Nat), ds = [dS (S L), dI a] ∧ L.drop a = 39 :: u ∧ a < L.length ∧ L.length ≤ 10000000 ∧ AnsT C a (Tz.tokR (L.drop a)) h R RX
theorem ok_txt (A : DefAt K mg "_text_at" st_txt ["text", "at"]) (T : TokC K mg aK aL) (Z : RefC K mg C) (m_len : mg "len" = none) : HasF Pg w K mg base (L2.CX Pg w) 3 "_text_at" ["text", "at"] (spDX K Θ (W_txt C)) := by
  have sc := sc_txt
  obtain ⟨t2, g_MOST_CHARACTERS⟩ := T.mc
  obtain ⟨fI, fd, fI_RefusedText, iC_RefusedText, tI_RefusedText, bI_RefusedText⟩ := ref_init (Pg := Pg) (w := w) (base := base) Z
  have oe_RefusedText := Z.oe
  have mg_RefusedText := Z.at_
  refine A.okX sc (W_txt C) (fun ds h R RX ⟨_, _, _, e, _⟩ => by rw [e]; rfl) fun f cdv A outer s H E hr => ?_
  refine ⟨_, (pss_cons (ps_set (i := 2) sc.nd rfl (.inl rfl) (pe_lst pa_nil))
  (pss_cons (ps_set (i := 3) sc.nd rfl (.inl rfl) (pe_op (op_addWK (K := K) (by rfl)) (pv 1) pe_int))
  (pss_cons (ps_set (i := 4) sc.nd rfl (.inl rfl) (pe_bm PySem.F.plainAttrs_str PySem.F.slot_str_find PySem.F.type_str_find mt_find3 (pv 0) (pa_cons pe_str (pa_cons (pv 3) pa_nil))))
  (pss_cons (ps_while (passes_of rfl) (PW.pt (pw_and (pt_cmpR op_ge (pv 4) pe_int (nomark _)) (pw_and1 (pt_cmpR (op_eqUK (K := K) (by rfl) hr.units) (pe_slice sl_str (pv 0) (po_some (pe_op (op_addWK (K := K) (by rfl)) (pv 4) pe_int)) (po_some (pe_op (op_addWK (K := K) (by rfl)) (pv 4) pe_int))) pe_str (nomark _)))))
  (pss_cons (ps_expr (pe_bm PySem.F.plainAttrs_list PySem.F.slot_list_append PySem.F.type_list_append mt_append (pv 2) (pa_cons (pe_slice sl_str (pv 0) (po_some (pv 3)) (po_some (pe_op (op_addWK (K := K) (by rfl)) (pv 4) pe_int))) pa_nil)))
  (pss_cons (ps_set (i := 3) sc.nd rfl (.inl rfl) (pe_op (op_addWK (K := K) (by rfl)) (pv 4) pe_int))
  (pss_one (ps_set (i := 4) sc.nd rfl (.inl rfl) (pe_bm PySem.F.plainAttrs_str PySem.F.slot_str_find PySem.F.type_str_find mt_find3 (pv 0) (pa_cons pe_str (pa_cons (pv 3) pa_nil))))))))
  (pss_cons (ps_if (pt_cmpR op_lt (pv 4) pe_int (nomark _)) (pss_one (ps_raiseF rfl (takes_of rfl rfl rfl rfl) oe_RefusedText iC_RefusedText tI_RefusedText fI_RefusedText (hr.mono (by first | decide | omega)) bI_RefusedText rfl mg_RefusedText (pa_cons (pv 1) pa_nil))) pss_nil)
  (pss_cons (ps_expr (pe_bm PySem.F.plainAttrs_list PySem.F.slot_list_append PySem.F.type_list_append mt_append (pv 2) (pa_cons (pe_slice sl_str (pv 0) (po_some (pv 3)) (po_some (pv 4))) pa_nil)))
  (pss_cons (ps_set (i := 5) sc.nd rfl (.inl rfl) (pe_bm PySem.F.plainAttrs_str PySem.F.slot_str_join PySem.F.type_str_join (mt_joinK (K := K) (by rfl)) pe_str (pa_cons (pv 2) pa_nil)))
  (pss_cons (ps_if (pt_cmpR op_gt (pe_callB (call_lenK (K := K) (by rfl)) (by rfl) m_len (by decide +kernel) (pa_cons (pv 5) pa_nil)) (pe_glob (v := .int 2000) rfl g_MOST_CHARACTERS ⟨_, rfl⟩) (nomark _)) (pss_one (ps_raiseF rfl (takes_of rfl rfl rfl rfl) oe_RefusedText iC_RefusedText tI_RefusedText fI_RefusedText (hr.mono (by first | decide | omega)) bI_RefusedText rfl mg_RefusedText (pa_cons (pv 1) pa_nil))) pss_nil)
  (pss_one (ps_ret (pe_tup (pa_cons pe_str (pa_cons (pv 5) (pa_cons (pe_op (op_addWK (K := K) (by rfl)) (pv 4) pe_int) pa_nil)))))))))))))), ?_⟩
  try dsimp only [cxOf]
  rintro ds h R RX ⟨L, a, u, rfl, eu, ha, hl, q⟩
  have sz := sizeLine_eq
  have et : Tz.tokR (L.drop a) = (match Tz.quo (L.drop (a + 1)) with
      | none => none
      | some (t, n) => if 2000 < t.length then none else some (("text" : Str), P.str (S t), n + 1)) := by
    have e2 : L.drop (a + 1) = u := by
      have z := List.drop_drop (i := 1) (j := a) (l := L)
      rw [eu] at z
      exact z.symm
    rw [eu, e2]
    have e1 : Tz.inS Tz.lets 39 = false := by decide +kernel
    have e3 : Tz.inS Tz.digs 39 = false := by decide +kernel
    show Tz.tokC 39 u = _
    unfold Tz.tokC
    rw [e1, if_neg (by decide), e3, if_neg (by decide), if_pos rfl]
    all_goals (cases Tz.quo u <;> rfl)
  refine vs_fin ?_
  k_places
  refine ve_lstO ?_
  k_places
  refine ⟨by decide, ?_⟩
  k_places
  refine ve_bm ?_
  k_places
  refine ⟨rfl, ?_⟩
  k_places
  refine vm_find3 ?_
  k_places
  refine vs_while (fun env' h' => ∃ (st : Nat) (pcs : List (List Nat)), a + 1 ≤ st ∧ st ≤ L.length ∧ pcs.length ≤ st ∧ pcs.flatten.length ≤ st ∧ Tz.quo (L.drop (a + 1)) = (Tz.quo (L.drop st)).map (fun q => (pcs.flatten ++ q.1, q.2 + (st - (a + 1)))) ∧
    env' = [some (dS (S L)), some (dI a), some (.own h.length), some (dI st), some (dI (Txt.find3 (S L) "'" (st : Int))), none] ∧ h' = h ++ [some (.lst ((pcs.map S).map dS))]) (fun env' _ => match env' with | [_, _, _, some (.p (.int x)), _, _] => (L.length + 2 - x.toNat) | _ => 0)
    ⟨a + 1, [], Nat.le_refl _, ha, by simp, by simp, by cases Tz.quo (L.drop (a + 1)) <;> simp, rfl, rfl⟩ ?_
  rintro env' h' ⟨st, pcs, s0, s1, s2, s3, s4, rfl, rfl⟩
  have hn : (h ++ [some (OO.lst ((pcs.map S).map dS))])[h.length]? = some (some (.lst ((pcs.map S).map dS))) := by simp
  rcases find_cases L s1 with ⟨fe, fn⟩ | ⟨k, v, fe, k1, k2, k3, fn⟩
  · rw [fe]
    rw [Tz.quo_no fn] at s4
    k_places
    have z := ansT_none q (by rw [et, s4]; rfl)
    refine vs_raiseF ?_
    k_places
    exact ⟨_, rfl, z _⟩
  · rw [fe]
    have s5 := quo_to k1 k2 fn
    rw [k3] at s5
    k_places
    refine ve_cutS ?_
    k_places
    refine vo_some ?_
    k_places
    refine ⟨_, rfl, vo_some ?_⟩
    k_places
    refine ⟨_, rfl, L, k + 1, k + 2, rfl, rfl, rfl, by omega, by omega, ?_⟩
    rw [show k + 2 - (k + 1) = 1 by omega]
    k_places
    have d1 : L.drop (k + 1) = v := by
      have z := List.drop_drop (i := 1) (j := k) (l := L)
      rw [k3] at z
      exact z.symm
    rw [d1]
    have seg : ((L.drop st).take (k - st)).length = k - st := by rw [List.length_take, List.length_drop]; omega
    by_cases c2 : v.head? = some 39
    · obtain ⟨v', rfl⟩ : ∃ v', v = 39 :: v' := by
        cases v with
        | nil => cases c2
        | cons x v' => cases c2; exact ⟨v', rfl⟩
      have kl : k + 2 ≤ L.length := by
        have z := congrArg List.length d1
        rw [List.length_drop, List.length_cons] at z
        omega
      have d2 : L.drop (k + 2) = v' := by
        have z := List.drop_drop (i := 1) (j := k + 1) (l := L)
        rw [d1] at z
        exact z.symm
      refine ite_tt (by show decide (S [39] = ("'" : Str)) = true; decide +kernel) ?_
      refine vs_seq ?_
      refine vs_drop ?_
      refine ve_bm ?_
      k_places
      refine ⟨⟨rfl, _, hn⟩, ?_⟩
      k_places
      refine ve_cutS ?_
      k_places
      refine vo_some ?_
      k_places
      refine ⟨_, rfl, vo_some ?_⟩
      k_places
      refine ⟨_, rfl, L, st, k + 1, rfl, rfl, rfl, by omega, by omega, ?_⟩
      k_places
      refine vm_append hn (by simp; omega) ?_
      k_places
      refine ve_bm ?_
      k_places
      refine ⟨rfl, ?_⟩
      k_places
      refine vm_find3 ?_
      k_places
      have pc : (L.drop st).take (k + 1 - st) = (L.drop st).take (k - st) ++ [39] := by
        have e1 : L.drop st = (L.drop st).take (k - st) ++ (39 :: 39 :: v') := by
          have z := (List.take_append_drop (k - st) (L.drop st)).symm
          rw [List.drop_drop, show st + (k - st) = k by omega, k3] at z
          exact z
        rw [e1]
        have e2 : k + 1 - st = ((L.drop st).take (k - st)).length + 1 := by omega
        rw [e2, List.take_length_add_append]
        rw [← e1]
        simp [seg]
      refine ⟨⟨k + 2, pcs ++ [(L.drop st).take (k + 1 - st)], by omega, by omega, by simp; omega, ?_, ?_, rfl, ?_⟩, ?_⟩
      · have e : ([(L.drop st).take (k - st) ++ [39]] : List (List Nat)).flatten = (L.drop st).take (k - st) ++ [39] := by simp
        rw [List.flatten_append, pc, e, List.length_append, List.length_append, seg]
        simp only [List.length_cons, List.length_nil]
        omega
      · rw [s4, s5, Tz.quo_qq, d2, pc]
        cases Tz.quo v' with
        | none => rfl
        | some r =>
          simp [seg]
          omega
      · rw [List.map_append, List.map_append]
        simp
      · show L.length + 2 - ((k : Int) + 2).toNat < L.length + 2 - ((st : Nat) : Int).toNat
        omega
    · have v39 : ∀ c, v.head? = some c → c ≠ 39 := fun c hc e => c2 (by rw [hc, e])
      have no : decide (S (v.take 1) = ("'" : Str)) = false := by
        refine decide_eq_false fun z => ?_
        rw [quote_S] at z
        cases v with
        | nil => exact absurd (congrArg (fun x : Str => x.cps.toList) z) (by simp)
        | cons x v' =>
          have z1 : [x] = [39] := congrArg (fun x : Str => x.cps.toList) z
          cases z1
          exact c2 rfl
      refine ite_ff no ?_
      have e9 : Tz.quo (L.drop (a + 1)) = some (pcs.flatten ++ (L.drop st).take (k - st), k - a) := by
        rw [s4, s5, Tz.quo_q v39]
        simp
        omega
      rw [e9] at et
      have pl : (pcs.flatten ++ (L.drop st).take (k - st)).length ≤ k := by
        rw [List.length_append, seg]; omega
      k_places
      refine ve_bm ?_
      k_places
      refine ⟨⟨rfl, _, hn⟩, ?_⟩
      k_places
      refine ve_cutS ?_
      k_places
      refine vo_some ?_
      k_places
      refine ⟨_, rfl, vo_some ?_⟩
      k_places
      refine ⟨_, rfl, L, st, k, rfl, rfl, rfl, by omega, by omega, ?_⟩
      k_places
      refine vm_append hn (by simp; omega) ?_
      have hs : (h ++ [some (OO.lst ((pcs.map S).map dS))]).set h.length (some (.lst ((pcs.map S).map dS ++ [dS (S ((L.drop st).take (k - st)))]))) = h ++ [some (.lst (((pcs ++ [(L.drop st).take (k - st)]).map S).map dS))] := by
        rw [List.map_append, List.map_append]
        simp
      rw [hs]
      have hn2 : (h ++ [some (OO.lst (((pcs ++ [(L.drop st).take (k - st)]).map S).map dS))])[h.length]? = some (some (.lst (((pcs ++ [(L.drop st).take (k - st)]).map S).map dS))) := by simp
      k_places
      refine ve_bm ?_
      k_places
      refine ⟨rfl, ?_⟩
      k_places
      have jl : ∀ ps : List (List Nat), ((ps.map S).map (·.length)).sum = ps.flatten.length := fun ps => by
        rw [List.length_flatten, List.map_map]
        rfl
      have fl : (pcs ++ [(L.drop st).take (k - st)]).flatten = pcs.flatten ++ (L.drop st).take (k - st) := by simp
      refine vm_joinO hn2 ?_ ?_
      · have e2 : (Str.ofString "").length = 0 := by decide +kernel
        rw [jl, e2, Nat.mul_zero, fl]
        omega
      rw [join_S, fl]
      generalize hh : pcs.flatten ++ (L.drop st).take (k - st) = t at *
      k_places
      refine vc_len (n := t.length) ⟨by rw [S_len]; omega, S_len t⟩ ?_
      k_places
      refine ite_dec (fun e => ?_) (fun e => ?_)
      · have e' : 2000 < t.length := by omega
        have z := ansT_none q (by rw [et]; exact if_pos e')
        refine vs_raiseF ?_
        k_places
        exact ⟨_, rfl, z _⟩
      · have e' : ¬ 2000 < t.length := by omega
        have et2 : Tz.tokR (L.drop a) = some (("text" : Str), P.str (S t), k - a + 1) := by
          rw [et]; exact if_neg e'
        rw [et2] at q
        have q2 : R (dT [.str "text", .str (S t), .int (a + (k - a + 1) : Nat)]) h := q
        rw [show a + (k - a + 1) = k + 1 by omega] at q2
        k_places
        exact fin_p _ q2
end
end Law

namespace Law
open PySem PySem.Spec PyProof.Rows L2 Kb SX TL
-- the steps that are tried: k_clsL a side condition; k_subL one step; k_places steps as long as one fits
theorem drop_1 {L u : List Nat} {a c : Nat} (e : L.drop a = c :: u) : L.drop (a + 1) = u := by
  have z := List.drop_drop (i := 1) (j := a) (l := L)
  rw [e] at z
  exact z.symm
theorem drop_at {L u : List Nat} {a c : Nat} (e : L.drop a = c :: u) : a < L.length ∧ L[a]? = some c := by
  have z : (L.drop a)[0]? = some c := by rw [e]; rfl
  rw [List.getElem?_drop] at z
  exact ⟨(List.getElem?_eq_some_iff.mp z).1, z⟩
section
variable {Pg : Program} {w : World} {K : PySem.W.Frag} {Θ : Tbs} {mg : Str → Option Value} {base : Heap} {C aK aL : Addr}
abbrev st_par : Stmt := (topS 20)
theorem sc_par : FnScope ["text", "at", "end"] ["text", "at"] (defScope st_par) := ⟨rfl, rfl, rfl, by decide +kernel, rfl, by decide +kernel, by decide +kernel⟩
def W_par (C : Addr) : SpcX := fun ds h R RX => ∃ (L : List Nat) (a : Nat) (u : List Nat), ds = [dS (S L), dI a] ∧ L.drop a = 36 :: u ∧ a < L.length ∧ L.length ≤ 10000000 ∧ AnsT C a (Tz.tokR (L.drop a)) h R RX
theorem ok_par (A : DefAt K mg "_parameter_at" st_par ["text", "at"]) (T : TokC K mg aK aL) (Z : RefC K mg C) (m_int : mg "int" = none)
    (h__end_of_run : HasF Pg w K mg base CX0 1 "_end_of_run" ["text", "at", "characters"] (spD K Θ W_run)) : HasF Pg w K mg base (L2.CX Pg w) 3 "_parameter_at" ["text", "at"] (spDX K Θ (W_par C)) := by
  have sc := sc_par
  obtain ⟨t1, g_DIGITS⟩ := T.digs
  obtain ⟨fI, fd, fI_RefusedText, iC_RefusedText, tI_RefusedText, bI_RefusedText⟩ := ref_init (Pg := Pg) (w := w) (base := base) Z
  have oe_RefusedText := Z.oe
  have mg_RefusedText := Z.at_
  refine A.okX sc (W_par C) (fun ds h R RX ⟨_, _, _, e, _⟩ => by rw [e]; rfl) fun f cdv A outer s H E hr => ?_
  refine ⟨_, (pss_cons (ps_set (i := 2) sc.nd rfl (.inl rfl) (h__end_of_run.call (hr.mono (by first | decide | omega)) rfl pass0 (pa_cons (pv 0) (pa_cons (pe_op (op_addWK (K := K) (by rfl)) (pv 1) pe_int) (pa_cons (pe_glob (v := .str Tz.digs) rfl g_DIGITS ⟨_, rfl⟩) pa_nil)))))
  (pss_cons (ps_if (pt_cmpR (op_ninUK (K := K) (by rfl)) (pe_op op_sub (pv 2) (pv 1)) (pe_tup (pa_cons pe_int (pa_cons pe_int pa_nil))) (by rfl)) (pss_one (ps_raiseF rfl (takes_of rfl rfl rfl rfl) oe_RefusedText iC_RefusedText tI_RefusedText fI_RefusedText (hr.mono (by first | decide | omega)) bI_RefusedText rfl mg_RefusedText (pa_cons (pv 1) pa_nil))) pss_nil)
  (pss_one (ps_ret (pe_tup (pa_cons pe_str (pa_cons (pe_callTy call_intU (by rfl) m_int (by decide +kernel) (pa_cons (pe_slice sl_str (pv 0) (po_some (pe_op (op_addWK (K := K) (by rfl)) (pv 1) pe_int)) (po_some (pv 2))) pa_nil)) (pa_cons (pv 2) pa_nil)))))))), ?_⟩
  try dsimp only [cxOf]
  rintro ds h R RX ⟨L, a, u, rfl, eu, ha, hl, q⟩
  have sz := sizeLine_eq
  have eu1 := drop_1 eu
  have rl := Tz.run_le Tz.digs (L.drop (a + 1))
  rw [List.length_drop] at rl
  have et : Tz.tokR (L.drop a) = if (Tz.run Tz.digs (L.drop (a + 1))).length = 1 ∨ (Tz.run Tz.digs (L.drop (a + 1))).length = 2 then some (("parameter" : Str), P.int (NumText.digitsVal (Tz.run Tz.digs (L.drop (a + 1))) : Nat), (Tz.run Tz.digs (L.drop (a + 1))).length + 1) else none := by
    have e1 : Tz.inS Tz.lets 36 = false := by decide +kernel
    have e2 : Tz.inS Tz.digs 36 = false := by decide +kernel
    rw [eu, eu1]
    show Tz.tokC 36 u = _
    unfold Tz.tokC
    rw [e1, if_neg (by decide), e2, if_neg (by decide), if_neg (by decide), if_pos rfl]
  k_places
  refine ⟨L, a + 1, Tz.digs, rfl, by omega, by omega, ?_⟩
  k_places
  refine v2_ninTI (ns := [2, 3]) ?_
  k_places
  refine ite_ndec (fun e => ?_) (fun e => ?_)
  · simp only [List.mem_cons, List.mem_nil_iff, or_false] at e
    rw [if_neg (by omega)] at et
    have z := ansT_none q et
    refine vs_raiseF ?_
    k_places
    have z1 := z []
    rw [List.append_nil] at z1
    exact ⟨_, rfl, z1⟩
  · simp only [List.mem_cons, List.mem_nil_iff, or_false] at e
    rw [if_pos (by omega)] at et
    rw [et] at q
    k_places
    refine ve_cutS ?_
    k_places
    refine vo_some ?_
    k_places
    refine ⟨_, rfl, vo_some ?_⟩
    k_places
    refine ⟨_, rfl, L, a + 1, a + 1 + (Tz.run Tz.digs (L.drop (a + 1))).length, rfl, rfl, rfl, Nat.le_add_right _ _, by omega, ?_⟩
    rw [Nat.add_sub_cancel_left, Tz.run_take]
    k_places
    refine vc_intS (int_S (Tz.dig_ok Tz.run_in) (fun z => by rw [z] at e; simp at e; omega) (by omega)) (by rw [S_len]; omega) ?_
    k_places
    have q2 : R (dT [.str "parameter", .int (NumText.digitsVal (Tz.run Tz.digs (L.drop (a + 1))) : Nat), .int (a + ((Tz.run Tz.digs (L.drop (a + 1))).length + 1) : Nat)]) h := q
    rw [show a + ((Tz.run Tz.digs (L.drop (a + 1))).length + 1) = a + 1 + (Tz.run Tz.digs (L.drop (a + 1))).length by omega] at q2
    exact q2
abbrev st_sgn : Stmt := (topS 21)
theorem sc_sgn : FnScope ["text", "at"] ["text", "at"] (defScope st_sgn) := ⟨rfl, rfl, rfl, by decide +kernel, rfl, by decide +kernel, by decide +kernel⟩
def W_sgn (C : Addr) : SpcX := fun ds h R RX => ∃ (L : List Nat) (a c : Nat) (u : List Nat), ds = [dS (S L), dI a] ∧ L.drop a = c :: u ∧ Tz.inS Tz.lets c = false ∧ Tz.inS Tz.digs c = false ∧ c ≠ 39 ∧ c ≠ 36 ∧ a < L.length ∧ L.length ≤ 10000000 ∧ AnsT C a (Tz.tokR (L.drop a)) h R RX
theorem ok_sgn (A : DefAt K mg "_sign_at" st_sgn ["text", "at"]) (T : TokC K mg aK aL) (Z : RefC K mg C) : HasF Pg w K mg base (L2.CX Pg w) 3 "_sign_at" ["text", "at"] (spDX K Θ (W_sgn C)) := by
  have sc := sc_sgn
  obtain ⟨t1, g_SHORT_SIGNS⟩ := T.shorts
  have g_LONG_SIGNS := T.gl
  obtain ⟨fI, fd, fI_RefusedText, iC_RefusedText, tI_RefusedText, bI_RefusedText⟩ := ref_init (Pg := Pg) (w := w) (base := base) Z
  have oe_RefusedText := Z.oe
  have mg_RefusedText := Z.at_
  refine A.okX sc (W_sgn C) (fun ds h R RX ⟨_, _, _, _, e, _⟩ => by rw [e]; rfl) fun f cdv A outer s H E hr => ?_
  refine ⟨_, (pss_cons (ps_if (pt_cmpR (op_inUK (K := K) (by rfl)) (pe_slice sl_str (pv 0) (po_some (pv 1)) (po_some (pe_op (op_addWK (K := K) (by rfl)) (pv 1) pe_int))) (pe_glob (v := .ref aL) rfl g_LONG_SIGNS rfl) (by rfl)) (pss_one (ps_ret (pe_tup (pa_cons pe_str (pa_cons (pe_slice sl_str (pv 0) (po_some (pv 1)) (po_some (pe_op (op_addWK (K := K) (by rfl)) (pv 1) pe_int))) (pa_cons (pe_op (op_addWK (K := K) (by rfl)) (pv 1) pe_int) pa_nil)))))) pss_nil)
  (pss_cons (ps_if (pt_cmpR (op_inUK (K := K) (by rfl)) (pe_ix (ix_seqK (K := K) (by rfl)) (pv 0) (pv 1) (fun _ _ => rfl)) (pe_glob (v := .str Tz.shorts) rfl g_SHORT_SIGNS ⟨_, rfl⟩) (by rfl)) (pss_one (ps_ret (pe_tup (pa_cons pe_str (pa_cons (pe_ix (ix_seqK (K := K) (by rfl)) (pv 0) (pv 1) (fun _ _ => rfl)) (pa_cons (pe_op (op_addWK (K := K) (by rfl)) (pv 1) pe_int) pa_nil)))))) pss_nil)
  (pss_one (ps_raiseF rfl (takes_of rfl rfl rfl rfl) oe_RefusedText iC_RefusedText tI_RefusedText fI_RefusedText (hr.mono (by first | decide | omega)) bI_RefusedText rfl mg_RefusedText (pa_cons (pv 1) pa_nil))))), ?_⟩
  try dsimp only [cxOf]
  rintro ds h R RX ⟨L, a, c, u, rfl, eu, c1, c2, c3, c4, ha, hl, q⟩
  have sz := sizeLine_eq
  obtain ⟨_, ec⟩ := drop_at eu
  have et : Tz.tokR (L.drop a) = if decide (S ((L.drop a).take 2) ∈ Tz.longs) = true then some (("sign" : Str), P.str (S ((L.drop a).take 2)), 2) else if Tz.inS Tz.shorts c = true then some (("sign" : Str), P.str (S [c]), 1) else none := by
    rw [eu]
    show Tz.tokC c u = _
    unfold Tz.tokC
    rw [c1, if_neg (by decide), c2, if_neg (by decide), if_neg c3, if_neg c4]
  k_places
  refine ve_cutS ?_
  k_places
  refine vo_some ?_
  k_places
  refine ⟨_, rfl, vo_some ?_⟩
  k_places
  refine ⟨_, rfl, L, a, a + 2, rfl, rfl, rfl, by omega, by omega, ?_⟩
  rw [Nat.add_sub_cancel_left]
  k_places
  refine ve_cls ?_
  refine v2_inK T.kl ?_
  k_places
  refine ite_b (fun e => ?_) (fun e => ?_)
  · rw [if_pos e] at et
    rw [et] at q
    k_places
    refine ve_cutS ?_
    k_places
    refine vo_some ?_
    k_places
    refine ⟨_, rfl, vo_some ?_⟩
    k_places
    refine ⟨_, rfl, L, a, a + 2, rfl, rfl, rfl, by omega, by omega, ?_⟩
    rw [Nat.add_sub_cancel_left]
    k_places
    exact q
  · rw [if_neg (by rw [e]; decide)] at et
    k_places
    refine v2_ixS (by rw [S_len]; omega) (at_nat a (by omega) ec) ?_
    k_places
    refine v2_inC ?_
    refine ⟨_, rfl, ite_b (fun e2 => ?_) (fun e2 => ?_)⟩
    · rw [if_pos e2] at et
      rw [et] at q
      k_places
      refine v2_ixS (by rw [S_len]; omega) (at_nat a (by omega) ec) ?_
      k_places
      exact q
    · rw [if_neg (fun z => Bool.noConfusion (e2.symm.trans z))] at et
      k_places
      have z := ansT_none q et
      refine vs_raiseF ?_
      k_places
      have z1 := z []
      rw [List.append_nil] at z1
      exact ⟨_, rfl, z1⟩
abbrev st_tka : Stmt := (topS 15)
theorem sc_tka : FnScope ["text", "at", "first"] ["text", "at"] (defScope st_tka) := ⟨rfl, rfl, rfl, by decide +kernel, rfl, by decide +kernel, by decide +kernel⟩
def W_tka (C : Addr) : SpcX := fun ds h R RX => ∃ (L : List Nat) (a : Nat), ds = [dS (S L), dI a] ∧ a < L.length ∧ L.length ≤ 10000000 ∧ AnsT C a (Tz.tokR (L.drop a)) h R RX
theorem ok_tka (A : DefAt K mg "_token_at" st_tka ["text", "at"]) (T : TokC K mg aK aL) (h__word_at : HasF Pg w K mg base CX0 2 "_word_at" ["text", "at"] (spD K Θ W_word))
    (h__integer_at : HasF Pg w K mg base (L2.CX Pg w) 3 "_integer_at" ["text", "at"] (spDX K Θ (W_int C))) (h__text_at : HasF Pg w K mg base (L2.CX Pg w) 3 "_text_at" ["text", "at"] (spDX K Θ (W_txt C)))
    (h__parameter_at : HasF Pg w K mg base (L2.CX Pg w) 3 "_parameter_at" ["text", "at"] (spDX K Θ (W_par C))) (h__sign_at : HasF Pg w K mg base (L2.CX Pg w) 3 "_sign_at" ["text", "at"] (spDX K Θ (W_sgn C))) :
    HasF Pg w K mg base (L2.CX Pg w) 4 "_token_at" ["text", "at"] (spDX K Θ (W_tka C)) := by
  have sc := sc_tka
  obtain ⟨t1, g_LETTERS⟩ := T.lets
  obtain ⟨t2, g_DIGITS⟩ := T.digs
  refine A.okX sc (W_tka C) (fun ds h R RX ⟨_, _, e, _⟩ => by rw [e]; rfl) fun f cdv A outer s H E hr => ?_
  refine ⟨_, (pss_cons (ps_set (i := 2) sc.nd rfl (.inl rfl) (pe_ix (ix_seqK (K := K) (by rfl)) (pv 0) (pv 1) (fun _ _ => rfl)))
  (pss_cons (ps_if (pt_cmpR (op_inUK (K := K) (by rfl)) (pv 2) (pe_glob (v := .str Tz.lets) rfl g_LETTERS ⟨_, rfl⟩) (by rfl)) (pss_one (ps_ret (h__word_at.call (hr.mono (by first | decide | omega)) rfl pass0 (pa_cons (pv 0) (pa_cons (pv 1) pa_nil))))) pss_nil)
  (pss_cons (ps_if (pt_cmpR (op_inUK (K := K) (by rfl)) (pv 2) (pe_glob (v := .str Tz.digs) rfl g_DIGITS ⟨_, rfl⟩) (by rfl)) (pss_one (ps_ret (h__integer_at.call (hr.mono (by first | decide | omega)) rfl (passes_call (takes_of rfl rfl rfl rfl) fun _ _ _ _ h => h) (pa_cons (pv 0) (pa_cons (pv 1) pa_nil))))) pss_nil)
  (pss_cons (ps_if (pt_cmpR (op_eqUK (K := K) (by rfl) hr.units) (pv 2) pe_str (nomark _)) (pss_one (ps_ret (h__text_at.call (hr.mono (by first | decide | omega)) rfl (passes_call (takes_of rfl rfl rfl rfl) fun _ _ _ _ h => h) (pa_cons (pv 0) (pa_cons (pv 1) pa_nil))))) pss_nil)
  (pss_cons (ps_if (pt_cmpR (op_eqUK (K := K) (by rfl) hr.units) (pv 2) pe_str (nomark _)) (pss_one (ps_ret (h__parameter_at.call (hr.mono (by first | decide | omega)) rfl (passes_call (takes_of rfl rfl rfl rfl) fun _ _ _ _ h => h) (pa_cons (pv 0) (pa_cons (pv 1) pa_nil))))) pss_nil)
  (pss_one (ps_ret (h__sign_at.call (hr.mono (by first | decide | omega)) rfl (passes_call (takes_of rfl rfl rfl rfl) fun _ _ _ _ h => h) (pa_cons (pv 0) (pa_cons (pv 1) pa_nil)))))))))), ?_⟩
  try dsimp only [cxOf]
  rintro ds h R RX ⟨L, a, rfl, ha, hl, q⟩
  have sz := sizeLine_eq
  have eu := List.drop_eq_getElem_cons ha
  have ec := List.getElem?_eq_getElem ha
  generalize hc : L[a] = c at *
  generalize hu : L.drop (a + 1) = u at *
  have one : ∀ d : Nat, (⟨#[c]⟩ : Str) = S [d] ↔ c = d := fun d => ⟨fun z => by
    have z1 : [c] = [d] := congrArg (fun x : Str => x.cps.toList) z
    cases z1; rfl, fun z => by rw [z]⟩
  have s39 : ("'" : Str) = S [39] := by decide +kernel
  have s36 : ("$" : Str) = S [36] := by decide +kernel
  k_places
  refine v2_ixS (by rw [S_len]; omega) (at_nat a (by omega) ec) ?_
  k_places
  refine v2_inC ?_
  refine ⟨_, rfl, ite_b (fun e1 => ?_) (fun e1 => ?_)⟩
  · k_places
    refine ⟨L, a, rfl, ha, by omega, ?_⟩
    have et : Tz.tokR (L.drop a) = some (Tz.kindW (Tz.run Tz.ofws (L.drop a)), .str (S (Tz.run Tz.ofws (L.drop a))), (Tz.run Tz.ofws (L.drop a)).length) := by
      rw [eu]
      show Tz.tokC c u = _
      unfold Tz.tokC
      rw [if_pos e1]
    rw [et] at q
    exact q
  k_places
  refine v2_inC ?_
  refine ⟨_, rfl, ite_b (fun e2 => ?_) (fun e2 => ?_)⟩
  · k_places
    refine ve_callX ?_
    k_places
    exact ⟨L, a, c, u, rfl, eu, e1, e2, ha, by omega, q⟩
  k_places
  refine ite_dec (fun e3 => ?_) (fun e3 => ?_)
  · rw [s39, one] at e3
    subst e3
    k_places
    refine ve_callX ?_
    k_places
    exact ⟨L, a, u, rfl, by rw [eu], ha, hl, q⟩
  k_places
  rw [s39, one] at e3
  refine ite_dec (fun e4 => ?_) (fun e4 => ?_)
  · rw [s36, one] at e4
    subst e4
    k_places
    refine ve_callX ?_
    k_places
    exact ⟨L, a, u, rfl, by rw [eu], ha, hl, q⟩
  rw [s36, one] at e4
  k_places
  refine ve_callX ?_
  k_places
  exact ⟨L, a, c, u, rfl, eu, e1, e2, e3, e4, ha, hl, q⟩
end
end Law

namespace Law
open PySem PySem.Spec PyProof.Rows L2 Kb SX TL
-- the steps that are tried: k_clsL a side condition; k_subL one step; k_places steps as long as one fits
section
variable {Pg : Program} {w : World} {K : PySem.W.Frag} {Θ : Tbs} {mg : Str → Option Value} {base : Heap} {C aK aL : Addr}
abbrev st_tkz : Stmt := (topS 14)
theorem sc_tkz : FnScope ["text", "tokens", "at", "kind", "found", "end"] ["text"] (defScope st_tkz) := ⟨rfl, rfl, rfl, by decide +kernel, rfl, by decide +kernel, by decide +kernel⟩
def AnsZ (C : Addr) (ts : List P) (o : Option Nat) (h : Hs) (R : D → Hs → Prop) (RX : Exn → Hs → Prop) : Prop := match o with
  | none => R (dL ts) h
  | some p => ∀ junk, RX ⟨C, some [("position", .int (p : Nat))]⟩ (h ++ junk)
def W_tkz (C : Addr) : SpcX := fun ds h R RX => ∃ (L : List Nat) (ts : List P) (o : Option Nat), ds = [dS (S L)] ∧ L.length ≤ 10000000 ∧ Tz.Toks L 0 ts o ∧ AnsZ C ts o h R RX
theorem ok_tkz (A : DefAt K mg "tokenize" st_tkz ["text"]) (T : TokC K mg aK aL) (m_len : mg "len" = none)
    (h__token_at : HasF Pg w K mg base (L2.CX Pg w) 4 "_token_at" ["text", "at"] (spDX K Θ (W_tka C))) : HasF Pg w K mg base (L2.CX Pg w) 5 "tokenize" ["text"] (spDX K Θ (W_tkz C)) := by
  have sc := sc_tkz
  obtain ⟨t1, g_BLANKS⟩ := T.blks
  refine A.okX sc (W_tkz C) (fun ds h R RX ⟨_, _, _, e, _⟩ => by rw [e]; rfl) fun f cdv A outer s H E hr => ?_
  refine ⟨_, (pss_cons (ps_set (i := 1) sc.nd rfl (.inl rfl) (pe_lst pa_nil))
  (pss_cons (ps_set (i := 2) sc.nd rfl (.inl rfl) pe_int)
  (pss_cons (ps_while (passes_of rfl) (pt_cmpR op_lt (pv 2) (pe_callB (call_lenK (K := K) (by rfl)) (by rfl) m_len (by decide +kernel) (pa_cons (pv 0) pa_nil)) (nomark _))
  (pss_one (ps_if (pt_cmpR (op_inUK (K := K) (by rfl)) (pe_ix (ix_seqK (K := K) (by rfl)) (pv 0) (pv 2) (fun _ _ => rfl)) (pe_glob (v := .str Tz.blks) rfl g_BLANKS ⟨_, rfl⟩) (by rfl)) (pss_one (ps_aug (i := 2) sc.nd rfl (.inl rfl) pe_int ip_add)) (pss_cons (ps_asg (h__token_at.call (hr.mono (by first | decide | omega)) rfl (passes_call (takes_of rfl rfl rfl rfl) fun _ _ _ _ h => h) (pa_cons (pv 0) (pa_cons (pv 2) pa_nil))) (pg_tupK (K := K) (n := 3) (by rfl) rfl (pgs_cons (pg_name (i := 3) sc.nd rfl (.inl rfl)) (pgs_cons (pg_name (i := 4) sc.nd rfl (.inl rfl)) (pgs_cons (pg_name (i := 5) sc.nd rfl (.inl rfl)) pgs_nil)))))
  (pss_cons (ps_expr (pe_bm PySem.F.plainAttrs_list PySem.F.slot_list_append PySem.F.type_list_append mt_append (pv 1) (pa_cons (pe_tup (pa_cons (pv 3) (pa_cons (pv 4) (pa_cons (pv 2) pa_nil)))) pa_nil)))
  (pss_one (ps_set (i := 2) sc.nd rfl (.inl rfl) (pv 5))))))))
  (pss_one (ps_ret (pv 1)))))), ?_⟩
  try dsimp only [cxOf]
  rintro ds h R RX ⟨L, ts, o, rfl, hl, tk0, q⟩
  have sz := sizeLine_eq
  refine vs_fin ?_
  k_places
  refine ve_lstO ?_
  k_places
  refine ⟨by decide, ?_⟩
  k_places
  refine vs_while (fun env' h' => ∃ (a : Nat) (done rest : List P) (o3 o4 o5 : Option D), a ≤ L.length ∧ Tz.Toks (L.drop a) a rest o ∧ ts = done ++ rest ∧ done.length ≤ a ∧
    env' = [some (dS (S L)), some (.own h.length), some (dI a), o3, o4, o5] ∧ h' = h ++ [some (.lst (done.map D.p))]) (fun env' _ => match env' with | [_, _, some (.p (.int x)), _, _, _] => (L.length - x.toNat) | _ => 0)
    ⟨0, [], ts, none, none, none, Nat.zero_le _, tk0, rfl, Nat.le_refl _, rfl, rfl⟩ ?_
  rintro env' h' ⟨a, done, rest, o3, o4, o5, ha, tk, ets, hd, rfl, rfl⟩
  have hn : (h ++ [some (OO.lst (done.map D.p))])[h.length]? = some (some (.lst (done.map D.p))) := by simp
  k_places
  refine vc_len (n := L.length) ⟨by rw [S_len]; omega, S_len L⟩ ?_
  k_places
  by_cases c1 : a < L.length
  · have eu := List.drop_eq_getElem_cons c1
    have ec := List.getElem?_eq_getElem c1
    refine ite_tt (decide_eq_true (by exact_mod_cast c1)) ?_
    k_places
    refine v2_ixS (by rw [S_len]; omega) (at_nat a (by omega) ec) ?_
    k_places
    refine v2_inC ?_
    generalize hc : L[a] = c at *
    refine ⟨_, rfl, ?_⟩
    rw [eu] at tk
    cases tk with
    | blank hb t =>
      refine ite_tt hb ?_
      refine vs_aug rfl ?_
      k_places
      refine v2_ip (g := fun i j => i + j) ?_
      refine ⟨⟨a + 1, done, rest, o3, o4, o5, c1, t, ets, by omega, rfl, rfl⟩, ?_⟩
      show L.length - ((a : Nat) + 1 : Int).toNat < L.length - ((a : Nat) : Int).toNat
      omega
    | tok hb e n0 n1 t =>
      rename_i n k v rest'
      refine ite_ff hb ?_
      refine vs_seq ?_
      refine vs_asg ?_
      refine ve_callX ?_
      k_places
      refine ⟨L, a, rfl, c1, hl, ?_⟩
      rw [eu, e]
      show VG _ _ _ _ _ _ _
      refine vg_tup rfl ?_
      refine vgs_cons (vg_name (vgs_cons (vg_name (vgs_cons (vg_name (vgs_nil ?_))))))
      k_places
      refine ve_bm ?_
      k_places
      refine ⟨⟨rfl, _, hn⟩, ?_⟩
      k_places
      refine vm_append hn (by simp; omega) ?_
      k_places
      rw [← eu, List.drop_drop] at t
      have n2 : a + n ≤ L.length := by
        have z := congrArg List.length eu
        rw [List.length_drop] at z
        omega
      refine ⟨⟨a + n, done ++ [Tz.tokP k v a], rest', _, _, _, n2, t, by rw [ets, List.append_assoc]; rfl, by simp; omega, rfl, ?_⟩, ?_⟩
      · simp
      · show L.length - ((a + n : Nat) : Int).toNat < L.length - ((a : Nat) : Int).toNat
        omega
    | no hb e =>
      refine ite_ff hb ?_
      refine vs_seq ?_
      refine vs_asg ?_
      refine ve_callX ?_
      k_places
      refine ⟨L, a, rfl, c1, hl, ?_⟩
      rw [eu, e]
      intro junk
      rw [List.append_assoc]
      exact q _
  · have e : a = L.length := by omega
    have ed : L.drop a = [] := List.drop_eq_nil_of_le (by omega)
    rw [ed] at tk
    cases tk
    rw [List.append_nil] at ets
    subst ets
    refine ite_ff (decide_eq_false (by exact_mod_cast c1)) ?_
    k_places
    exact fin_own rfl q
end
end Law

namespace Law
open PySem PySem.Spec PyProof.Rows L2 Kb SX TL
-- the steps that are tried: k_clsL a side condition; k_subL one step; k_places steps as long as one fits
theorem numL_in (n : Nat) : ∀ c ∈ TL.numL n, Tz.inS Tz.digs c = true := fun c hc => by
  have z := TL.numL_digits n
  have z1 := z c hc
  exact Tz.dig_in z1.1 z1.2
section
variable {Pg : Program} {w : World} {K : PySem.W.Frag} {Θ : Tbs} {mg : Str → Option Value} {base : Heap} {C aK aL : Addr}
/-- asked where nothing is refused -/
def W_tkzS : Spc := fun ds h R => ∃ (L : List Nat) (ts : List P), ds = [dS (S L)] ∧ L.length ≤ 10000000 ∧ Tz.Toks L 0 ts none ∧ R (dL ts) h
theorem tkz_calm (H : HasF Pg w K mg base (L2.CX Pg w) 5 "tokenize" ["text"] (spDX K Θ (W_tkz C))) : HasF Pg w K mg base CX0 5 "tokenize" ["text"] (spD K Θ W_tkzS) :=
  H.calm fun ds h R ⟨L, ts, e, hl, t, q⟩ => ⟨L, ts, none, e, hl, t, q⟩
end
end Law

namespace Law
open PySem PySem.Spec PyProof.Rows L2 Kb SX TL
-- the steps that are tried: k_clsL a side condition; k_subL one step; k_places steps as long as one fits
def NameOk (v : P) : Prop := ∃ (c : Nat) (w : List Nat), v = .str (S (c :: w)) ∧ Tz.inS Tz.lets c = true ∧ (∀ d ∈ w, Tz.inS Tz.ofws d = true) ∧ w.length ≤ 5 ∧ S (c :: w) ∉ Tz.kws
theorem in_at {z : Str} {i : Nat} {c : Nat} (h : z.cps.toList[i]? = some c) : Tz.inS z c = true := decide_eq_true (List.mem_of_getElem? h)
theorem lets_lo : ∀ c ∈ Tz.lets.cps.toList, Tz.inS Tz.ofws c = true := by decide +kernel
theorem kw_ok : ∀ s ∈ Tz.kws, ∃ c w, s = S (c :: w) ∧ Tz.inS Tz.lets c = true ∧ (∀ d ∈ w, Tz.inS Tz.ofws d = true) ∧ w.length < 100 := by
  have all : ∀ s ∈ Tz.kws, (match s.cps.toList with | [] => false | c :: w => Tz.inS Tz.lets c && w.all (fun d => Tz.inS Tz.ofws d) && decide (w.length < 100)) = true := by decide +kernel
  intro s hs
  have z := all s hs
  cases e : s.cps.toList with
  | nil => rw [e] at z; cases z
  | cons c w =>
    rw [e] at z
    simp only [Bool.and_eq_true, List.all_eq_true, decide_eq_true_eq] at z
    refine ⟨c, w, ?_, decide_eq_true z.1.1, fun d hd => decide_eq_true (z.1.2 d hd), z.2⟩
    rw [← e, S_tl]
theorem kw_drawn {s : Str} (hs : s ∈ Tz.kws) : ∃ l, s = S l ∧ Tz.Drawn "keyword" (.str s) l := by
  obtain ⟨c, w, rfl, a, b, d⟩ := kw_ok s hs
  have z := Tz.Drawn.word a b d
  have e : Tz.kindW (c :: w) = "keyword" := by
    unfold Tz.kindW
    rw [if_pos (decide_eq_true hs)]
  rw [e] at z
  exact ⟨_, rfl, z⟩
theorem name_drawn {v : P} (h : NameOk v) : ∃ l, v = .str (S l) ∧ Tz.Drawn "name" v l := by
  obtain ⟨c, w, rfl, a, b, d, n⟩ := h
  have z := Tz.Drawn.word a b (by omega : w.length < 100)
  have e : Tz.kindW (c :: w) = "name" := by
    unfold Tz.kindW
    rw [if_neg (by rw [decide_eq_false n]; decide)]
  rw [e] at z
  exact ⟨_, rfl, z⟩
theorem no_kw_ {l : List Nat} : S (l ++ [95]) ∉ Tz.kws := fun h => by
  have all : ∀ s ∈ Tz.kws, s.cps.toList.getLast? ≠ some 95 := by decide +kernel
  exact all _ h (by show (l ++ [95]).getLast? = _; simp)
section
variable {Pg : Program} {w : World} {K : PySem.W.Frag} {Θ : Tbs} {mg : Str → Option Value} {base : Heap} {C aK aL : Addr}
abbrev st_kws : Stmt := (topS 68)
theorem sc_kws : FnScope ["words"] [] (defScope st_kws) := ⟨rfl, rfl, rfl, by decide +kernel, rfl, by decide +kernel, by decide +kernel⟩
def W_kws : Spc := fun ds h R => ds = [] ∧ R (dL (Tz.kws.map P.str)) h
theorem ok_kws (A : DefAt K mg "_law_keywords" st_kws []) : HasF Pg w K mg base CX0 1 "_law_keywords" [] (spD K Θ W_kws) := by
  have sc := sc_kws
  refine A.okD sc W_kws (fun ds h R ⟨e, _⟩ => by rw [e]; rfl) fun f cdv A outer s H E hr => ?_
  refine ⟨_, (pss_cons (ps_set (i := 0) sc.nd rfl (.inl rfl) pe_str)
  (pss_cons (ps_set (i := 0) sc.nd rfl (.inl rfl) (pe_op (op_addWK (K := K) (by rfl)) (pv 0) pe_str))
  (pss_one (ps_ret (pe_bm PySem.F.plainAttrs_str PySem.F.slot_str_split PySem.F.type_str_split mt_split (pv 0) (pa_cons pe_str pa_nil)))))), ?_⟩
  try dsimp only [cxOf]
  rintro ds h R ⟨rfl, q⟩
  k_places
  refine v2_addWS (by decide +kernel) ?_
  k_places
  refine ve_bm ?_
  k_places
  refine ⟨rfl, ?_⟩
  k_places
  refine vm_split (by decide +kernel) (by decide +kernel) ?_
  have e : Txt.split (("select distinct from where group by having order limit as join left on union all except intersect" : Str) ++ (" and or not is null true false in exists case when then else end count sum min max mod desc" : Str)) " " = Tz.kws := by decide +kernel
  rw [e]
  exact q
abbrev st_name : Stmt := (topS 69)
theorem sc_name : FnScope ["state", "letters", "following", "name", "k"] ["state"] (defScope st_name) := ⟨rfl, rfl, rfl, by decide +kernel, rfl, by decide +kernel, by decide +kernel⟩
theorem ok_name (A : DefAt K mg "_law_name" st_name ["state"]) (m_range : mg "range" = none) (h__law_next : HasF Pg w K mg base CX0 1 "_law_next" ["state", "limit"] (spD K Θ W_next))
    (h__law_keywords : HasF Pg w K mg base CX0 1 "_law_keywords" [] (spD K Θ W_kws)) : HasF Pg w K mg base CX0 2 "_law_name" ["state"] (spD K Θ (W_draw NameOk)) := by
  have sc := sc_name
  refine A.okD sc (W_draw NameOk) (fun ds h R ⟨_, _, _, _, _, e, _⟩ => by rw [e]; rfl) fun f cdv A outer s H E hr => ?_
  refine ⟨_, (pss_cons (ps_set (i := 1) sc.nd rfl (.inl rfl) pe_str)
  (pss_cons (ps_set (i := 2) sc.nd rfl (.inl rfl) (pe_op (op_addWK (K := K) (by rfl)) (pv 1) pe_str))
  (pss_cons (ps_set (i := 3) sc.nd rfl (.inl rfl) (pe_ix (ix_seqK (K := K) (by rfl)) (pv 1) (h__law_next.call (hr.mono (by first | decide | omega)) rfl pass0 (pa_cons (pv 0) (pa_cons pe_int pa_nil))) (fun _ _ => rfl)))
  (pss_cons (ps_for PassesOwn.never rfl (pi_range1 rfl m_range (pa_cons (h__law_next.call (hr.mono (by first | decide | omega)) rfl pass0 (pa_cons (pv 0) (pa_cons pe_int pa_nil))) pa_nil)) (pg_name (i := 4) sc.nd rfl (.inl rfl))
  (pss_one (ps_set (i := 3) sc.nd rfl (.inl rfl) (pe_op (op_addWK (K := K) (by rfl)) (pv 3) (pe_ix (ix_seqK (K := K) (by rfl)) (pv 2) (h__law_next.call (hr.mono (by first | decide | omega)) rfl pass0 (pa_cons (pv 0) (pa_cons pe_int pa_nil))) (fun _ _ => rfl))))))
  (pss_cons (ps_if (pt_cmpR (op_inUK (K := K) (by rfl)) (pv 3) (h__law_keywords.call0 (hr.mono (by first | decide | omega)) rfl pass0) (by rfl)) (pss_one (ps_set (i := 3) sc.nd rfl (.inl rfl) (pe_op (op_addWK (K := K) (by rfl)) (pv 3) pe_str))) pss_nil)
  (pss_one (ps_ret (pv 3)))))))), ?_⟩
  try dsimp only [cxOf]
  rintro ds h R ⟨n, ns, a, b, c, rfl, hn, ok, q⟩
  have hl : n < h.length := (List.getElem?_eq_some_iff.mp hn).1
  have sz := sizeLine_eq
  rw [← set_same hn]
  k_places
  refine v2_addWS (by decide +kernel) ?_
  have ef : ("abcdefghijklmnopqrstuvwxyz" : Str) ++ ("0123456789_" : Str) = Tz.ofws := by decide +kernel
  rw [ef]
  k_places
  refine next_i hl ok (by decide) (by decide) fun v a b c ok v0 v1 => ?_
  have ll : Tz.lets.cps.toList.length = 26 := by decide +kernel
  have lo : Tz.ofws.cps.toList.length = 37 := by decide +kernel
  have hv : v.toNat < Tz.lets.cps.toList.length := by rw [ll]; omega
  have g0 := in_at (List.getElem?_eq_getElem hv)
  refine v2_ixS (by decide +kernel) (at_nat v.toNat (by omega) (List.getElem?_eq_getElem hv)) ?_
  generalize Tz.lets.cps.toList[v.toNat] = x at *
  refine vg_name ?_
  refine vs_seq ?_
  refine vs_for (vi_range1 ?_)
  k_places
  refine next_i hl ok (by decide) (by decide) fun m a b c ok m0 m1 => ?_
  k_places
  refine ⟨m, rfl, by omega, by omega, ?_⟩
  refine ⟨fun i env' h' => ∃ (w : List Nat) (o : Option Kb.D) (a b c : Int), env' = [some (.own n), some (dS Tz.lets), some (dS Tz.ofws), some (dS (S (x :: w))), o] ∧ w.length = i ∧ (∀ d ∈ w, Tz.inS Tz.ofws d = true) ∧ OkSt ns a b c ∧ h' = h.set n (some (stO ns a b c)), ?_, ?_, ?_, ?_⟩
  · exact ⟨[], none, a, b, c, rfl, rfl, fun _ z => by simp at z, ok, rfl⟩
  · exact fun _ _ _ _ => trivial
  · rintro i d env' h' hd ⟨w, o, a, b, c, rfl, hw, hi, ok, rfl⟩
    obtain ⟨i1, rfl⟩ := rng_get hd
    k_places
    refine next_i hl ok (by decide) (by decide) fun v a b c ok v0 v1 => ?_
    have hv : v.toNat < Tz.ofws.cps.toList.length := by rw [lo]; omega
    have g1 := in_at (List.getElem?_eq_getElem hv)
    refine v2_ixS (by decide +kernel) (at_nat v.toNat (by omega) (List.getElem?_eq_getElem hv)) ?_
    generalize Tz.ofws.cps.toList[v.toNat] = y at *
    refine v2_addWS ?_ ?_
    · rw [S_len, S_len]; simp; omega
    k_places
    rw [S_cat]
    refine ⟨w ++ [y], _, a, b, c, rfl, by simp [hw], fun d hd => ?_, ok, rfl⟩
    rcases List.mem_append.mp hd with hd | hd
    · exact hi d hd
    · rw [List.mem_singleton.mp hd]; exact g1
  · rintro env' h' ⟨w, o, a, b, c, rfl, hw, hi, ok, rfl⟩
    rw [rng_len] at hw
    k_places
    refine ⟨rfl, ?_⟩
    refine v2_inS ?_
    k_places
    refine ite_dec (fun e => ?_) (fun e => ?_)
    · k_places
      refine v2_addWS ?_ ?_
      · have l1 : ("_" : Str).length = 1 := by decide +kernel
        rw [l1, S_len]; simp; omega
      have e95 : ("_" : Str) = S [95] := by decide +kernel
      rw [e95, S_cat]
      k_places
      refine q _ a b c ok ⟨x, w ++ [95], rfl, g0, fun d hd => ?_, ?_, ?_⟩
      · rcases List.mem_append.mp hd with hd | hd
        · exact hi d hd
        · rw [List.mem_singleton.mp hd]; decide +kernel
      · simp; omega
      · exact no_kw_ (l := x :: w)
    · k_places
      exact q _ a b c ok ⟨x, w, rfl, g0, hi, by omega, e⟩
end
end Law

namespace Law
open PySem PySem.Spec PyProof.Rows L2 Kb
-- the steps that are tried: k_clsL a side condition; k_subL one step; k_places steps as long as one fits
/-- the class Parsing, as the top made it -/
structure ParC (K : PySem.W.Frag) (mg : Str → Option Value) (CP : Addr) : Prop where
  cl : Cls K CP
  n1 : NoAttr K CP "tokens"
  n2 : NoAttr K CP "at"
  n3 : NoAttr K CP "depth"
  mgC : mg "Parsing" = some (.ref CP)
def psF (m i d : Nat) : List (Str × D) := [("tokens", .own m), ("at", dI i), ("depth", dI d)]
def psO (C : Addr) (m i d : Nat) : Option OO := some (.ins C (psF m i d))
theorem fl_tokens {m i d : Nat} : (psF m i d).lookup ("tokens" : Str) = some (.own m) := by kernel_rfl
theorem fl_pat {m i d : Nat} : (psF m i d).lookup ("at" : Str) = some (dI i) := by kernel_rfl
theorem fl_depth {m i d : Nat} : (psF m i d).lookup ("depth" : Str) = some (dI d) := by kernel_rfl
theorem put_pat {m i d j : Nat} : putD ("at" : Str) (dI j) (psF m i d) = psF m j d := by kernel_rfl
theorem put_depth {m i d j : Nat} : putD ("depth" : Str) (dI j) (psF m i d) = psF m i j := by kernel_rfl
theorem put_p1 {d : D} : putD ("tokens" : Str) d [] = [(("tokens" : Str), d)] := by kernel_rfl
theorem put_p2 {m : Nat} : putD ("at" : Str) (dI 0) [(("tokens" : Str), D.own m)] = [(("tokens" : Str), D.own m), ("at", dI 0)] := by kernel_rfl
theorem put_p3 {m : Nat} : putD ("depth" : Str) (dI 0) [(("tokens" : Str), D.own m), ("at", dI 0)] = psF m 0 0 := by kernel_rfl
/-- a token: its kind and its value -/
abbrev Tok' := Str × P
def Tks (ts : List P) (us : List Tok') : Prop := ts.length = us.length ∧ ∀ (j : Nat) (q : Tok'), us[j]? = some q → ∃ a : Nat, ts[j]? = some (Tz.tokP q.1 q.2 a)
/-- keywords and signs are texts -/
def TokV (q : Tok') : Prop := (q.1 = Str.ofString "keyword" ∨ q.1 = Str.ofString "sign") → ∃ s, q.2 = .str s
def seesQ (q : Tok') (w : Str) : Bool := decide (q.1 ∈ ([Str.ofString "keyword", Str.ofString "sign"] : List Str)) && (match q.2 with | .str s => decide (s = w) | _ => false)
/-- where a parsing stands -/
structure PsAt (C : Addr) (h : Hs) (n m : Nat) (us : List Tok') (i d : Nat) : Prop where
  ins : h[n]? = some (psO C m i d)
  lst : ∃ ts : List P, h[m]? = some (some (.lst (ts.map D.p))) ∧ Tks ts us
  ne : n ≠ m
  tv : ∀ q ∈ us, TokV q
  le : us.length ≤ 1000
theorem PsAt.go {C : Addr} {h : Hs} {n m : Nat} {us : List Tok'} {i d : Nat} (p : PsAt C h n m us i d) (j e : Nat) : PsAt C (h.set n (psO C m j e)) n m us j e := by
  obtain ⟨ts, hm, tk⟩ := p.lst
  exact ⟨List.getElem?_set_self (List.getElem?_eq_some_iff.mp p.ins).1, ⟨ts, by rw [List.getElem?_set_ne p.ne]; exact hm, tk⟩, p.ne, p.tv, p.le⟩
theorem PsAt.gogo {C : Addr} {h : Hs} {n m : Nat} {j e j' e' : Nat} : (h.set n (psO C m j e)).set n (psO C m j' e') = h.set n (psO C m j' e') := List.set_set _
theorem PsAt.same {C : Addr} {h : Hs} {n m : Nat} {us : List Tok'} {i d : Nat} (p : PsAt C h n m us i d) : h.set n (psO C m i d) = h := by
  have := set_same p.ins
  exact this
section
variable {Pg : Program} {w : World} {K : PySem.W.Frag} {Θ : Tbs} {mg : Str → Option Value} {base : Heap} {CP : Addr}
theorem fld_tokens {h : Hs} {n m i d : Nat} {us : List Tok'} {S : Kb.D → Prop} (T : ParC K mg CP) (p : PsAt CP h n m us i d) (q : S (.own m)) : ∃ C' d', Cls K C' ∧ NoAttr K C' "tokens" ∧ FldD "tokens" (.own n) h C' d' ∧ S d' := ⟨CP, _, T.cl, T.n1, ⟨_, p.ins, fl_tokens⟩, q⟩
theorem fld_pat {h : Hs} {n m i d : Nat} {us : List Tok'} {S : Kb.D → Prop} (T : ParC K mg CP) (p : PsAt CP h n m us i d) (q : S (dI i)) : ∃ C' d', Cls K C' ∧ NoAttr K C' "at" ∧ FldD "at" (.own n) h C' d' ∧ S d' := ⟨CP, _, T.cl, T.n2, ⟨_, p.ins, fl_pat⟩, q⟩
theorem fld_depth {h : Hs} {n m i d : Nat} {us : List Tok'} {S : Kb.D → Prop} (T : ParC K mg CP) (p : PsAt CP h n m us i d) (q : S (dI d)) : ∃ C' d', Cls K C' ∧ NoAttr K C' "depth" ∧ FldD "depth" (.own n) h C' d' ∧ S d' := ⟨CP, _, T.cl, T.n3, ⟨_, p.ins, fl_depth⟩, q⟩
/-- the next token -/
theorem tok_at {C : Addr} {h : Hs} {n m : Nat} {us : List Tok'} {i d : Nat} {q : Tok'} (p : PsAt C h n m us i d) (e : us[i]? = some q) : ∃ (xs : List D) (a : Nat), h[m]? = some (some (.lst xs)) ∧ atI xs (i : Int) = some (.p (Tz.tokP q.1 q.2 a)) := by
  obtain ⟨ts, hm, tk⟩ := p.lst
  obtain ⟨a, ha⟩ := tk.2 i q e
  exact ⟨_, a, hm, at_nat i rfl (by rw [List.getElem?_map, ha]; rfl)⟩
abbrev st_kind : Stmt := (topS 31)
theorem sc_kind : FnScope ["parsing"] ["parsing"] (defScope st_kind) := ⟨rfl, rfl, rfl, by decide +kernel, rfl, by decide +kernel, by decide +kernel⟩
def W_kind (C : Addr) : Spc := fun ds h R => ∃ (n m : Nat) (us : List Tok') (i d : Nat) (q : Tok'), ds = [.own n] ∧ PsAt C h n m us i d ∧ us[i]? = some q ∧ R (dS q.1) h
theorem ok_kind (A : DefAt K mg "_kind" st_kind ["parsing"]) (T : ParC K mg CP) : HasF Pg w K mg base CX0 1 "_kind" ["parsing"] (spD K Θ (W_kind CP)) := by
  have sc := sc_kind
  refine A.okD sc (W_kind CP) (fun ds h R ⟨_, _, _, _, _, _, e, _⟩ => by rw [e]; rfl) fun f cdv A outer s H E hr => ?_
  refine ⟨_, (pss_one (ps_ret (pe_ix (ix_seqK (K := K) (by rfl)) (pe_ix (ix_seqK (K := K) (by rfl)) (pe_fldK (K := K) (by rfl) (pv 0) rfl) (pe_fldK (K := K) (by rfl) (pv 0) rfl) (fun _ _ => rfl)) pe_int (fun _ _ => rfl)))), ?_⟩
  try dsimp only [cxOf]
  rintro ds h R ⟨n, m, us, i, d, q, rfl, p, e, r⟩
  obtain ⟨xs, a, hm, ha⟩ := tok_at p e
  k_places
  refine ve_fld ?_
  k_places
  refine fld_tokens T p ?_
  k_places
  refine ve_fld ?_
  k_places
  refine fld_pat T p ?_
  k_places
  refine v2_ixO hm ha ?_
  k_places
  refine v2_ixT rfl ?_
  k_places
  exact r
abbrev st_sees : Stmt := (topS 33)
theorem sc_sees : FnScope ["parsing", "word", "kind", "told", "position"] ["parsing", "word"] (defScope st_sees) := ⟨rfl, rfl, rfl, by decide +kernel, rfl, by decide +kernel, by decide +kernel⟩
def W_sees (C : Addr) : Spc := fun ds h R => ∃ (n m : Nat) (us : List Tok') (i d : Nat) (q : Tok') (w : Str), ds = [.own n, dS w] ∧ PsAt C h n m us i d ∧ us[i]? = some q ∧ R (dB (seesQ q w)) h
theorem ok_sees (A : DefAt K mg "_sees" st_sees ["parsing", "word"]) (T : ParC K mg CP) : HasF Pg w K mg base CX0 1 "_sees" ["parsing", "word"] (spD K Θ (W_sees CP)) := by
  have sc := sc_sees
  refine A.okD sc (W_sees CP) (fun ds h R ⟨_, _, _, _, _, _, _, e, _⟩ => by rw [e]; rfl) fun f cdv A outer s H E hr => ?_
  refine ⟨_, (pss_cons (ps_asg (pe_ix (ix_seqK (K := K) (by rfl)) (pe_fldK (K := K) (by rfl) (pv 0) rfl) (pe_fldK (K := K) (by rfl) (pv 0) rfl) (fun _ _ => rfl)) (pg_tupK (K := K) (n := 3) (by rfl) rfl (pgs_cons (pg_name (i := 2) sc.nd rfl (.inl rfl)) (pgs_cons (pg_name (i := 3) sc.nd rfl (.inl rfl)) (pgs_cons (pg_name (i := 4) sc.nd rfl (.inl rfl)) pgs_nil)))))
  (pss_one (ps_ret (pe_and (pe_cmpR (op_inUK (K := K) (by rfl)) (pv 2) (pe_tup (pa_cons pe_str (pa_cons pe_str pa_nil))) (by rfl)) (pe_one (pe_cmpR (op_eqUK (K := K) (by rfl) hr.units) (pv 3) (pv 1) (nomark _))))))), ?_⟩
  try dsimp only [cxOf]
  rintro ds h R ⟨n, m, us, i, d, q, w, rfl, p, e, r⟩
  obtain ⟨xs, a, hm, ha⟩ := tok_at p e
  k_places
  refine ve_fld ?_
  k_places
  refine fld_tokens T p ?_
  k_places
  refine ve_fld ?_
  k_places
  refine fld_pat T p ?_
  k_places
  refine v2_ixO hm ha ?_
  refine vg_tup rfl ?_
  refine vgs_cons (vg_name (vgs_cons (vg_name (vgs_cons (vg_name (vgs_nil ?_))))))
  k_places
  refine v2_inTS (ns := [Str.ofString "keyword", Str.ofString "sign"]) ?_
  k_places
  have tv := p.tv q (List.mem_of_getElem? e)
  unfold seesQ at r
  refine ite_dec (fun c => ?_) (fun c => ?_)
  · obtain ⟨s, es⟩ := tv (by simpa using c)
    rw [es] at r ⊢
    rw [decide_eq_true c, Bool.true_and] at r
    k_places
    exact r
  · rw [decide_eq_false c, Bool.false_and] at r
    exact r
/-- parsing.at += 1 -/
theorem aug_at {tv : TE} {env : Env'} {E : En} {h : Hs} {n m i d : Nat} {us : List Tok'} {to : TE} (T : ParC K mg CP) (p : PsAt CP h n m us i d) (ho : ∀ {R : D → Hs → Prop}, R (.own n) h → VE K Θ to env h R) (hv : ∀ {R : D → Hs → Prop}, R (dI 1) h → VE K Θ tv env h R)
    (q : E.nx env (h.set n (psO CP m (i + 1) d))) : VS K Θ (sFldAug K to tv rAdd "at") E env h :=
  vs_fldaug (ho ⟨n, CP, _, _, rfl, p.ins, T.cl, T.n2, by show 3 < 1000; decide, fl_pat, hv ⟨rfl, v2_rAdd ⟨rfl, by
    have e : putD ("at" : Str) (dI ((i : Int) + 1)) (psF m i d) = psF m (i + 1) d := put_pat (j := i + 1)
    rw [e]
    exact q⟩⟩⟩)
theorem aug_deep {tv : TE} {env : Env'} {E : En} {h : Hs} {n m i d : Nat} {us : List Tok'} {to : TE} (T : ParC K mg CP) (p : PsAt CP h n m us i d) (ho : ∀ {R : D → Hs → Prop}, R (.own n) h → VE K Θ to env h R) (hv : ∀ {R : D → Hs → Prop}, R (dI 1) h → VE K Θ tv env h R)
    (q : E.nx env (h.set n (psO CP m i (d + 1)))) : VS K Θ (sFldAug K to tv rAdd "depth") E env h :=
  vs_fldaug (ho ⟨n, CP, _, _, rfl, p.ins, T.cl, T.n3, by show 3 < 1000; decide, fl_depth, hv ⟨rfl, v2_rAdd ⟨rfl, by
    have e : putD ("depth" : Str) (dI ((d : Int) + 1)) (psF m i d) = psF m i (d + 1) := put_depth (j := d + 1)
    rw [e]
    exact q⟩⟩⟩)
theorem aug_out {tv : TE} {env : Env'} {E : En} {h : Hs} {n m i d : Nat} {us : List Tok'} {to : TE} (T : ParC K mg CP) (p : PsAt CP h n m us i (d + 1)) (ho : ∀ {R : D → Hs → Prop}, R (.own n) h → VE K Θ to env h R) (hv : ∀ {R : D → Hs → Prop}, R (dI 1) h → VE K Θ tv env h R)
    (q : E.nx env (h.set n (psO CP m i d))) : VS K Θ (sFldAug K to tv rSub "depth") E env h :=
  vs_fldaug (ho ⟨n, CP, _, _, rfl, p.ins, T.cl, T.n3, by show 3 < 1000; decide, fl_depth, hv ⟨rfl, v2_rSub ⟨rfl, by
    have e0 : ((d + 1 : Nat) : Int) - 1 = (d : Nat) := by omega
    rw [e0]
    have e : putD ("depth" : Str) (dI ((d : Nat) : Int)) (psF m i (d + 1)) = psF m i d := put_depth (j := d)
    rw [e]
    exact q⟩⟩⟩)
def W_no : Spc := fun _ _ _ => False
abbrev st_take : Stmt := (topS 32)
theorem sc_take : FnScope ["parsing", "kind"] ["parsing", "kind"] (defScope st_take) := ⟨rfl, rfl, rfl, by decide +kernel, rfl, by decide +kernel, by decide +kernel⟩
def W_take (C : Addr) : Spc := fun ds h R => ∃ (n m : Nat) (us : List Tok') (i d : Nat) (q : Tok'), ds = [.own n, dS q.1] ∧ PsAt C h n m us i d ∧ us[i]? = some q ∧ R (.p q.2) (h.set n (psO C m (i + 1) d))
theorem ok_take (A : DefAt K mg "_take" st_take ["parsing", "kind"]) (T : ParC K mg CP) (h__kind : HasF Pg w K mg base CX0 1 "_kind" ["parsing"] (spD K Θ (W_kind CP))) (h__refuse : HasF Pg w K mg base CX0 1 "_refuse" ["parsing"] (spD K Θ W_no)) :
    HasF Pg w K mg base CX0 2 "_take" ["parsing", "kind"] (spD K Θ (W_take CP)) := by
  have sc := sc_take
  refine A.okD sc (W_take CP) (fun ds h R ⟨_, _, _, _, _, _, e, _⟩ => by rw [e]; rfl) fun f cdv A outer s H E hr => ?_
  refine ⟨_, (pss_cons (ps_if (pt_cmpR (op_neUK (K := K) (by rfl) hr.units) (h__kind.call (hr.mono (by first | decide | omega)) rfl pass0 (pa_cons (pv 0) pa_nil)) (pv 1) (nomark _)) (pss_one (ps_expr (h__refuse.call (hr.mono (by first | decide | omega)) rfl pass0 (pa_cons (pv 0) pa_nil)))) pss_nil)
  (pss_cons (ps_fldaugK (K := K) (by rfl) (pv 0) pe_int in_add)
  (pss_one (ps_ret (pe_ix (ix_seqK (K := K) (by rfl)) (pe_ix (ix_seqK (K := K) (by rfl)) (pe_fldK (K := K) (by rfl) (pv 0) rfl) (pe_op op_sub (pe_fldK (K := K) (by rfl) (pv 0) rfl) pe_int) (fun _ _ => rfl)) pe_int (fun _ _ => rfl)))))), ?_⟩
  try dsimp only [cxOf]
  rintro ds h R ⟨n, m, us, i, d, q, rfl, p, e, r⟩
  k_places
  refine ⟨n, m, us, i, d, q, rfl, p, e, ?_⟩
  k_places
  refine aug_at T p (fun r => ve_var rfl r) (fun r => ve_int r) ?_
  have p2 := p.go (i + 1) d
  obtain ⟨xs, a, hm, ha⟩ := tok_at p e
  have hm2 : (h.set n (psO CP m (i + 1) d))[m]? = some (some (.lst xs)) := by rw [List.getElem?_set_ne p.ne]; exact hm
  k_places
  refine ve_fld ?_
  k_places
  refine fld_tokens T p2 ?_
  k_places
  refine ve_fld ?_
  k_places
  refine fld_pat T p2 ?_
  k_places
  have e1 : ((i + 1 : Nat) : Int) - 1 = (i : Nat) := by omega
  rw [e1]
  refine v2_ixO hm2 ha ?_
  k_places
  refine v2_ixT rfl ?_
  exact r
abbrev st_skip : Stmt := (topS 34)
theorem sc_skip : FnScope ["parsing", "word"] ["parsing", "word"] (defScope st_skip) := ⟨rfl, rfl, rfl, by decide +kernel, rfl, by decide +kernel, by decide +kernel⟩
def W_skip (C : Addr) : Spc := fun ds h R => ∃ (n m : Nat) (us : List Tok') (i d : Nat) (q : Tok') (w : Str), ds = [.own n, dS w] ∧ PsAt C h n m us i d ∧ us[i]? = some q ∧ R (dB (seesQ q w)) (h.set n (psO C m (i + (seesQ q w).toNat) d))
theorem ok_skip (A : DefAt K mg "_skip" st_skip ["parsing", "word"]) (T : ParC K mg CP) (h__sees : HasF Pg w K mg base CX0 1 "_sees" ["parsing", "word"] (spD K Θ (W_sees CP))) : HasF Pg w K mg base CX0 2 "_skip" ["parsing", "word"] (spD K Θ (W_skip CP)) := by
  have sc := sc_skip
  refine A.okD sc (W_skip CP) (fun ds h R ⟨_, _, _, _, _, _, _, e, _⟩ => by rw [e]; rfl) fun f cdv A outer s H E hr => ?_
  refine ⟨_, (pss_cons (ps_if (pt_not (pt_val (h__sees.call (hr.mono (by first | decide | omega)) rfl pass0 (pa_cons (pv 0) (pa_cons (pv 1) pa_nil))))) (pss_one (ps_ret pe_bl)) pss_nil)
  (pss_cons (ps_fldaugK (K := K) (by rfl) (pv 0) pe_int in_add)
  (pss_one (ps_ret pe_bl)))), ?_⟩
  try dsimp only [cxOf]
  rintro ds h R ⟨n, m, us, i, d, q, w, rfl, p, e, r⟩
  k_places
  refine ⟨n, m, us, i, d, q, w, rfl, p, e, ?_⟩
  k_places
  refine ite_nb (fun c => ?_) (fun c => ?_)
  · k_places
    rw [c] at r
    have z : h.set n (psO CP m (i + (false : Bool).toNat) d) = h := p.same
    rw [z] at r
    exact r
  · k_places
    refine aug_at T p (fun r => ve_var rfl r) (fun r => ve_int r) ?_
    k_places
    rw [c] at r
    exact r
abbrev st_need : Stmt := (topS 35)
theorem sc_need : FnScope ["parsing", "word"] ["parsing", "word"] (defScope st_need) := ⟨rfl, rfl, rfl, by decide +kernel, rfl, by decide +kernel, by decide +kernel⟩
def W_need (C : Addr) : Spc := fun ds h R => ∃ (n m : Nat) (us : List Tok') (i d : Nat) (q : Tok') (w : Str), ds = [.own n, dS w] ∧ PsAt C h n m us i d ∧ us[i]? = some q ∧ seesQ q w = true ∧ R dN (h.set n (psO C m (i + 1) d))
theorem ok_need (A : DefAt K mg "_need" st_need ["parsing", "word"]) (h__skip : HasF Pg w K mg base CX0 2 "_skip" ["parsing", "word"] (spD K Θ (W_skip CP))) (h__refuse : HasF Pg w K mg base CX0 1 "_refuse" ["parsing"] (spD K Θ W_no)) :
    HasF Pg w K mg base CX0 3 "_need" ["parsing", "word"] (spD K Θ (W_need CP)) := by
  have sc := sc_need
  refine A.okD sc (W_need CP) (fun ds h R ⟨_, _, _, _, _, _, _, e, _⟩ => by rw [e]; rfl) fun f cdv A outer s H E hr => ?_
  refine ⟨_, (pss_one (ps_if (pt_not (pt_val (h__skip.call (hr.mono (by first | decide | omega)) rfl pass0 (pa_cons (pv 0) (pa_cons (pv 1) pa_nil))))) (pss_one (ps_expr (h__refuse.call (hr.mono (by first | decide | omega)) rfl pass0 (pa_cons (pv 0) pa_nil)))) pss_nil)), ?_⟩
  try dsimp only [cxOf]
  rintro ds h R ⟨n, m, us, i, d, q, w, rfl, p, e, sq, r⟩
  k_places
  refine ⟨n, m, us, i, d, q, w, rfl, p, e, ?_⟩
  rw [sq]
  k_places
  exact r
abbrev st_goin : Stmt := (topS 37)
theorem sc_goin : FnScope ["parsing", "word"] ["parsing", "word"] (defScope st_goin) := ⟨rfl, rfl, rfl, by decide +kernel, rfl, by decide +kernel, by decide +kernel⟩
def W_goin (C : Addr) : Spc := fun ds h R => ∃ (n m : Nat) (us : List Tok') (i d : Nat) (q : Tok') (w : Str), ds = [.own n, dS w] ∧ PsAt C h n m us i d ∧ us[i]? = some q ∧ seesQ q w = true ∧ d < 12 ∧ R dN (h.set n (psO C m (i + 1) (d + 1)))
theorem ok_goin {tk : Tok} (A : DefAt K mg "_go_in" st_goin ["parsing", "word"]) (T : ParC K mg CP) (g_MOST_DEPTH : mg "MOST_DEPTH" = some (.int 12 tk)) (h__need : HasF Pg w K mg base CX0 3 "_need" ["parsing", "word"] (spD K Θ (W_need CP))) (h__refuse : HasF Pg w K mg base CX0 1 "_refuse" ["parsing"] (spD K Θ W_no)) :
    HasF Pg w K mg base CX0 4 "_go_in" ["parsing", "word"] (spD K Θ (W_goin CP)) := by
  have sc := sc_goin
  refine A.okD sc (W_goin CP) (fun ds h R ⟨_, _, _, _, _, _, _, e, _⟩ => by rw [e]; rfl) fun f cdv A outer s H E hr => ?_
  refine ⟨_, (pss_cons (ps_if (pt_cmpR op_ge (pe_fldK (K := K) (by rfl) (pv 0) rfl) (pe_glob (v := .int 12) rfl g_MOST_DEPTH ⟨_, rfl⟩) (nomark _)) (pss_one (ps_expr (h__refuse.call (hr.mono (by first | decide | omega)) rfl pass0 (pa_cons (pv 0) pa_nil)))) pss_nil)
  (pss_cons (ps_expr (h__need.call (hr.mono (by first | decide | omega)) rfl pass0 (pa_cons (pv 0) (pa_cons (pv 1) pa_nil))))
  (pss_one (ps_fldaugK (K := K) (by rfl) (pv 0) pe_int in_add)))), ?_⟩
  try dsimp only [cxOf]
  rintro ds h R ⟨n, m, us, i, d, q, w, rfl, p, e, sq, hd, r⟩
  k_places
  refine ve_fld ?_
  k_places
  refine fld_depth T p ?_
  k_places
  refine ite_dec (fun c => absurd c (by omega)) (fun c => ?_)
  k_places
  refine ⟨n, m, us, i, d, q, w, rfl, p, e, sq, ?_⟩
  k_places
  refine aug_deep T (p.go (i + 1) d) (fun r => ve_var rfl r) (fun r => ve_int r) ?_
  rw [PsAt.gogo]
  exact r
abbrev st_goout : Stmt := (topS 38)
theorem sc_goout : FnScope ["parsing", "word"] ["parsing", "word"] (defScope st_goout) := ⟨rfl, rfl, rfl, by decide +kernel, rfl, by decide +kernel, by decide +kernel⟩
def W_goout (C : Addr) : Spc := fun ds h R => ∃ (n m : Nat) (us : List Tok') (i d : Nat) (q : Tok') (w : Str), ds = [.own n, dS w] ∧ PsAt C h n m us i (d + 1) ∧ us[i]? = some q ∧ seesQ q w = true ∧ R dN (h.set n (psO C m (i + 1) d))
theorem ok_goout (A : DefAt K mg "_go_out" st_goout ["parsing", "word"]) (T : ParC K mg CP) (h__need : HasF Pg w K mg base CX0 3 "_need" ["parsing", "word"] (spD K Θ (W_need CP))) :
    HasF Pg w K mg base CX0 4 "_go_out" ["parsing", "word"] (spD K Θ (W_goout CP)) := by
  have sc := sc_goout
  refine A.okD sc (W_goout CP) (fun ds h R ⟨_, _, _, _, _, _, _, e, _⟩ => by rw [e]; rfl) fun f cdv A outer s H E hr => ?_
  refine ⟨_, (pss_cons (ps_expr (h__need.call (hr.mono (by first | decide | omega)) rfl pass0 (pa_cons (pv 0) (pa_cons (pv 1) pa_nil))))
  (pss_one (ps_fldaugK (K := K) (by rfl) (pv 0) pe_int in_sub))), ?_⟩
  try dsimp only [cxOf]
  rintro ds h R ⟨n, m, us, i, d, q, w, rfl, p, e, sq, r⟩
  k_places
  refine ⟨n, m, us, i, d + 1, q, w, rfl, p, e, sq, ?_⟩
  k_places
  refine aug_out T (p.go (i + 1) (d + 1)) (fun r => ve_var rfl r) (fun r => ve_int r) ?_
  rw [PsAt.gogo]
  exact r
abbrev st_sk1 : Stmt := (topS 36)
theorem sc_sk1 : FnScope ["parsing", "words", "word"] ["parsing", "words"] (defScope st_sk1) := ⟨rfl, rfl, rfl, by decide +kernel, rfl, by decide +kernel, by decide +kernel⟩
def optS : Option Str → D
  | none => dN
  | some s => dS s
def W_sk1 (C : Addr) : Spc := fun ds h R => ∃ (n m : Nat) (us : List Tok') (i d : Nat) (q : Tok') (ws : List Str), ds = [.own n, dT (ws.map P.str)] ∧ PsAt C h n m us i d ∧ us[i]? = some q ∧ R (optS (ws.find? (seesQ q))) (h.set n (psO C m (i + (ws.find? (seesQ q)).isSome.toNat) d))
theorem find_none {q : Tok'} {ws : List Str} {j : Nat} {w : Str} (hj : ws[j]? = some w) (h : (ws.take j).find? (seesQ q) = none) (c : seesQ q w = false) : (ws.take (j + 1)).find? (seesQ q) = none := by
  rw [List.take_add_one, hj, List.find?_append, h]
  simp [c]
theorem find_some {q : Tok'} {ws : List Str} {j : Nat} {w : Str} (hj : ws[j]? = some w) (h : (ws.take j).find? (seesQ q) = none) (c : seesQ q w = true) : ws.find? (seesQ q) = some w := by
  have e : ws = ws.take j ++ w :: ws.drop (j + 1) := by
    obtain ⟨hl, e⟩ := List.getElem?_eq_some_iff.mp hj
    rw [← e, ← List.drop_eq_getElem_cons hl, List.take_append_drop]
  rw [e, List.find?_append, h]
  simp [c]
theorem ok_sk1 (A : DefAt K mg "_skip_one" st_sk1 ["parsing", "words"]) (h__skip : HasF Pg w K mg base CX0 2 "_skip" ["parsing", "word"] (spD K Θ (W_skip CP))) : HasF Pg w K mg base CX0 3 "_skip_one" ["parsing", "words"] (spD K Θ (W_sk1 CP)) := by
  have sc := sc_sk1
  refine A.okD sc (W_sk1 CP) (fun ds h R ⟨_, _, _, _, _, _, _, e, _⟩ => by rw [e]; rfl) fun f cdv A outer s H E hr => ?_
  refine ⟨_, (pss_cons (ps_for PassesOwn.never rfl (pi_seqK (K := K) (by rfl) (pv 1)) (pg_name (i := 2) sc.nd rfl (.inl rfl))
  (pss_one (ps_if (pt_val (h__skip.call (hr.mono (by first | decide | omega)) rfl pass0 (pa_cons (pv 0) (pa_cons (pv 2) pa_nil)))) (pss_one (ps_ret (pv 2))) pss_nil)))
  (pss_one (ps_ret pe_non))), ?_⟩
  try dsimp only [cxOf]
  rintro ds h R ⟨n, m, us, i, d, q, ws, rfl, p, e, r⟩
  k_subL
  refine vs_for (vi_seqT ?_)
  k_places
  refine ⟨ws.map P.str, rfl, ?_⟩
  refine ⟨fun j env h' => ∃ o : Option D, env = [some (.own n), some (dT (ws.map P.str)), o] ∧ h' = h ∧ (ws.take j).find? (seesQ q) = none, ?_, ?_, ?_, ?_⟩
  · exact ⟨none, rfl, rfl, by simp⟩
  · exact fun _ _ _ _ => trivial
  · rintro j x env h' hx ⟨o, rfl, rfl, hn⟩
    rw [List.map_map, List.getElem?_map] at hx
    cases ew : ws[j]? with
    | none => rw [ew] at hx; cases hx
    | some w =>
      rw [ew] at hx
      cases hx
      k_places
      refine ⟨n, m, us, i, d, q, w, rfl, p, e, ?_⟩
      k_places
      refine ite_b (fun c => ?_) (fun c => ?_)
      · k_places
        rw [find_some ew hn c] at r
        rw [c]
        exact r
      · k_places
        rw [c]
        have z : h'.set n (psO CP m (i + (false : Bool).toNat) d) = h' := p.same
        exact ⟨_, rfl, z, find_none ew hn c⟩
  · rintro env h' ⟨o, rfl, rfl, hn⟩
    rw [List.length_map, List.length_map, List.take_length] at hn
    rw [hn] at r
    have z : h'.set n (psO CP m (i + (none : Option Str).isSome.toNat) d) = h' := p.same
    rw [z] at r
    k_places
    exact r
end
end Law

namespace Law
open PySem PySem.Spec PyProof.Rows L2 Kb
-- the steps that are tried: k_clsL a side condition; k_subL one step; k_places steps as long as one fits
local macro_rules | `(tactic| k_offL) => `(tactic| repeat ((fail_if_success (with_reducible refine vs_seq ?_)); k_subL))

/-! ### where a parsing stands, told by what is left -/
abbrev stO' (C : Addr) (m : Nat) (us u : List Tok') (d : Nat) : Option OO := psO C m (us.length - u.length) d
structure PsU (C : Addr) (h : Hs) (ob m : Nat) (us u : List Tok') (d : Nat) : Prop where
  at_ : PsAt C h ob m us (us.length - u.length) d
  suf : u <:+ us
theorem suf_head {us u : List Tok'} {q : Tok'} (s : (q :: u) <:+ us) : us[us.length - (q :: u).length]? = some q ∧ us.length - (q :: u).length + 1 = us.length - u.length := by
  obtain ⟨w, rfl⟩ := s
  have e1 : (w ++ q :: u).length - (q :: u).length = w.length := by rw [List.length_append]; omega
  have e2 : (w ++ q :: u).length - u.length = w.length + 1 := by rw [List.length_append, List.length_cons]; omega
  rw [e1, e2]
  exact ⟨by rw [List.getElem?_append_right (Nat.le_refl _), Nat.sub_self]; rfl, rfl⟩
theorem suf_tail {us u : List Tok'} {q : Tok'} (s : (q :: u) <:+ us) : u <:+ us := (List.suffix_cons q u).trans s
theorem PsU.tail {C : Addr} {h : Hs} {ob m d : Nat} {us u : List Tok'} {q : Tok'} (p : PsU C h ob m us (q :: u) d) : u <:+ us := suf_tail p.suf
theorem PsU.go {C : Addr} {h : Hs} {ob m d : Nat} {us u : List Tok'} (p : PsU C h ob m us u d) {v : List Tok'} (s : v <:+ us) (e : Nat) : PsU C (h.set ob (stO' C m us v e)) ob m us v e := ⟨p.at_.go _ _, s⟩
theorem PsU.set {C : Addr} {h : Hs} {ob m d : Nat} {us u : List Tok'} (p : PsU C h ob m us u d) : h.set ob (stO' C m us u d) = h := p.at_.same
theorem PsU.put {h : Hs} {ob : Nat} {x y : Option OO} : (h.set ob x).set ob y = h.set ob y := List.set_set _
section
variable {Pg : Program} {w : World} {K : PySem.W.Frag} {Θ : Tbs} {mg : Str → Option Value} {base : Heap} {CP : Addr}
variable {h : Hs} {ob m d : Nat} {us u : List Tok'} {q : Tok'} {R : D → Hs → Prop} {C : Addr}
theorem sees_u {w : Str} (p : PsU C h ob m us (q :: u) d) (r : R (dB (seesQ q w)) h) : W_sees C [.own ob, dS w] h R := ⟨ob, m, us, _, d, q, w, rfl, p.at_, (suf_head p.suf).1, r⟩
theorem kind_u (p : PsU C h ob m us (q :: u) d) (r : R (dS q.1) h) : W_kind C [.own ob] h R := ⟨ob, m, us, _, d, q, rfl, p.at_, (suf_head p.suf).1, r⟩
theorem take_u {k : Str} {x : P} (p : PsU C h ob m us ((k, x) :: u) d) (r : R (.p x) (h.set ob (stO' C m us u d))) : W_take C [.own ob, dS k] h R := ⟨ob, m, us, _, d, (k, x), rfl, p.at_, (suf_head p.suf).1, by rw [(suf_head p.suf).2]; exact r⟩
theorem skip_t {w : Str} (p : PsU C h ob m us (q :: u) d) (c : seesQ q w = true) (r : R (dB true) (h.set ob (stO' C m us u d))) : W_skip C [.own ob, dS w] h R := ⟨ob, m, us, _, d, q, w, rfl, p.at_, (suf_head p.suf).1, by
  rw [c]; show R (dB true) (h.set ob (psO C m (us.length - (q :: u).length + 1) d)); rw [(suf_head p.suf).2]; exact r⟩
theorem skip_f {w : Str} (p : PsU C h ob m us (q :: u) d) (c : seesQ q w = false) (r : R (dB false) h) : W_skip C [.own ob, dS w] h R := ⟨ob, m, us, _, d, q, w, rfl, p.at_, (suf_head p.suf).1, by
  rw [c]
  have e : h.set ob (psO C m (us.length - (q :: u).length + (false : Bool).toNat) d) = h := p.set
  rw [e]; exact r⟩
theorem need_u {w : Str} (p : PsU C h ob m us (q :: u) d) (c : seesQ q w = true) (r : R dN (h.set ob (stO' C m us u d))) : W_need C [.own ob, dS w] h R := ⟨ob, m, us, _, d, q, w, rfl, p.at_, (suf_head p.suf).1, c, by rw [(suf_head p.suf).2]; exact r⟩
theorem goin_u {w : Str} (p : PsU C h ob m us (q :: u) d) (c : seesQ q w = true) (hd : d < 12) (r : R dN (h.set ob (stO' C m us u (d + 1)))) : W_goin C [.own ob, dS w] h R := ⟨ob, m, us, _, d, q, w, rfl, p.at_, (suf_head p.suf).1, c, hd, by rw [(suf_head p.suf).2]; exact r⟩
theorem goout_u {w : Str} (p : PsU C h ob m us (q :: u) (d + 1)) (c : seesQ q w = true) (r : R dN (h.set ob (stO' C m us u d))) : W_goout C [.own ob, dS w] h R := ⟨ob, m, us, _, d, q, w, rfl, p.at_, (suf_head p.suf).1, c, by rw [(suf_head p.suf).2]; exact r⟩
theorem sk1_t {ws : List Str} {o : Str} (p : PsU C h ob m us (q :: u) d) (c : ws.find? (seesQ q) = some o) (r : R (dS o) (h.set ob (stO' C m us u d))) : W_sk1 C [.own ob, dT (ws.map P.str)] h R := ⟨ob, m, us, _, d, q, ws, rfl, p.at_, (suf_head p.suf).1, by
  rw [c]; show R (dS o) (h.set ob (psO C m (us.length - (q :: u).length + 1) d)); rw [(suf_head p.suf).2]; exact r⟩
theorem sk1_f {ws : List Str} (p : PsU C h ob m us (q :: u) d) (c : ws.find? (seesQ q) = none) (r : R dN h) : W_sk1 C [.own ob, dT (ws.map P.str)] h R := ⟨ob, m, us, _, d, q, ws, rfl, p.at_, (suf_head p.suf).1, by
  rw [c]
  have e : h.set ob (psO C m (us.length - (q :: u).length + (none : Option Str).isSome.toNat) d) = h := p.set
  rw [e]; exact r⟩
/-! ### what is read -/
/-- what is read, at a depth: what stands there, the tree, what is left -/
abbrev Rel' := Nat → List Tok' → P → List Tok' → Prop
def Sufs (X : Rel') : Prop := ∀ d u t v, X d u t v → v <:+ u
def W_rel (C : Addr) (X : Rel') (n : Nat) : Spc := fun ds h R => ∃ (ob m : Nat) (us u v : List Tok') (d : Nat) (t : P), ds = [.own ob] ∧ PsU C h ob m us u d ∧ d ≤ 12 ∧ 12 < d + n ∧ X d u t v ∧ R (.p t) (h.set ob (stO' C m us v d))
inductive LstR (X : Rel') : Nat → List Tok' → List P → List Tok' → Prop
  | one {d u t q v} : X d u t (q :: v) → seesQ q (Str.ofString ",") = false → LstR X d u [t] (q :: v)
  | more {d u t q v ts v'} : X d u t (q :: v) → seesQ q (Str.ofString ",") = true → LstR X d v ts v' → LstR X d u (t :: ts) v'
inductive ChnR (X : Rel') (ops : List Str) : Nat → P → List Tok' → P → List Tok' → Prop
  | nil {d t q v} : ops.find? (seesQ q) = none → ChnR X ops d t (q :: v) t (q :: v)
  | cons {d t q v o t1 v1 t' v'} : ops.find? (seesQ q) = some o → X d v t1 v1 → ChnR X ops d (.tup [.str "binary", .str o, t, t1]) v1 t' v' → ChnR X ops d t (q :: v) t' v'
theorem LstR.suf {X : Rel'} (s : Sufs X) {d : Nat} {u : List Tok'} {ts : List P} {v : List Tok'} (l : LstR X d u ts v) : v <:+ u := by
  induction l with
  | one x c => exact s _ _ _ _ x
  | more x c l ih => exact ih.trans ((List.suffix_cons _ _).trans (s _ _ _ _ x))
theorem LstR.len {X : Rel'} (s : Sufs X) {d : Nat} {u : List Tok'} {ts : List P} {v : List Tok'} (l : LstR X d u ts v) : ts.length + v.length ≤ u.length + 1 := by
  induction l with
  | one x c =>
    have := (s _ _ _ _ x).length_le
    simp only [List.length_cons, List.length_nil] at *
    omega
  | more x c l ih =>
    have := (s _ _ _ _ x).length_le
    simp only [List.length_cons] at *
    omega
def W_lstof (C f : Addr) (X : Rel') (n : Nat) : Spc := fun ds h R => ∃ (ob m : Nat) (us u v : List Tok') (d : Nat) (ts : List P), ds = [.own ob, .p (.cls f)] ∧ PsU C h ob m us u d ∧ us.length ≤ 1000 ∧ d ≤ 12 ∧ 12 < d + n ∧ LstR X d u ts v ∧ R (dT ts) (h.set ob (stO' C m us v d))
abbrev st_lstof : Stmt := (topS 39)
theorem sc_lstof : FnScope ["parsing", "part", "trees"] ["parsing", "part"] (defScope st_lstof) := ⟨rfl, rfl, rfl, by decide +kernel, rfl, by decide +kernel, by decide +kernel⟩
theorem PsU.app {C : Addr} {h : Hs} {ob m d : Nat} {us u : List Tok'} (p : PsU C h ob m us u d) (j : Hs) : PsU C (h ++ j) ob m us u d := by
  obtain ⟨ts, hm, tk⟩ := p.at_.lst
  refine ⟨⟨?_, ⟨ts, ?_, tk⟩, p.at_.ne, p.at_.tv, p.at_.le⟩, p.suf⟩
  · rw [List.getElem?_append_left (List.getElem?_eq_some_iff.mp p.at_.ins).1]; exact p.at_.ins
  · rw [List.getElem?_append_left (List.getElem?_eq_some_iff.mp hm).1]; exact hm
theorem PsU.low {C : Addr} {h : Hs} {ob m d e : Nat} {us u v : List Tok'} (p : PsU C h ob m us u d) : lowH h (h.set ob (stO' C m us v e)) := by
  obtain ⟨ts, hm, _⟩ := p.at_.lst
  have lm : m < h.length := (List.getElem?_eq_some_iff.mp hm).1
  refine (lowH.refl h).set fun x hx => ?_
  simp only [psF, List.mem_cons, List.not_mem_nil, or_false] at hx
  rcases hx with rfl | rfl | rfl
  · exact lm
  · trivial
  · trivial
theorem ok_lstof {k n : Nat} {X : Rel'} {f_part : Addr} (s : Sufs X) (A : DefAt K mg "_list_of" st_lstof ["parsing", "part"]) (m_tuple : mg "tuple" = none) (hV_part : FnAt Pg w K mg base CX0 k f_part [Str.ofString "parsing"] (spD K Θ (W_rel CP X n)))
    (h__skip : HasF Pg w K mg base CX0 2 "_skip" ["parsing", "word"] (spD K Θ (W_skip CP))) (hk : 2 ≤ k) : HasF Pg w K mg base CX0 (k + 1) "_list_of" ["parsing", "part"] (spD K Θ (W_lstof CP f_part X n)) := by
  have sc := sc_lstof
  refine A.okD sc (W_lstof CP f_part X n) (fun ds h R ⟨_, _, _, _, _, _, _, e, _⟩ => by rw [e]; rfl) fun f cdv A outer s' H E hr => ?_
  refine ⟨_, (pss_cons (ps_set (i := 2) sc.nd rfl (.inl rfl) (pe_lst (pa_cons (hV_part.callV (i := 1) (hr.mono (by first | decide | omega)) pass0 rfl (pa_cons (pv 0) pa_nil)) pa_nil)))
  (pss_cons (ps_while PassesOwn.never (pt_val (h__skip.call (hr.mono (by first | decide | omega)) rfl pass0 (pa_cons (pv 0) (pa_cons pe_str pa_nil))))
  (pss_one (ps_expr (pe_bm PySem.F.plainAttrs_list PySem.F.slot_list_append PySem.F.type_list_append mt_append (pv 2) (pa_cons (hV_part.callV (i := 1) (hr.mono (by first | decide | omega)) pass0 rfl (pa_cons (pv 0) pa_nil)) pa_nil)))))
  (pss_one (ps_ret (pe_callTy (call_tuple_ofK (K := K) (by rfl)) (by rfl) m_tuple (by decide +kernel) (pa_cons (pv 2) pa_nil)))))), ?_⟩
  try dsimp only [cxOf]
  rintro ds h R ⟨ob, m, us, u, v, d, ts, rfl, p, hl, d1, d2, l, r⟩
  have sz := sizeLine_eq
  refine vs_trim ?_
  k_subL
  k_places
  refine ve_lstO ?_
  k_places
  refine ve_callV rfl ?_
  k_places
  -- the first one
  have first : ∀ {ts : List P} {u : List Tok'}, LstR X d u ts v → ∃ (t : P) (q : Tok') (v1 : List Tok'), X d u t (q :: v1) ∧ ((seesQ q (Str.ofString ",") = false ∧ ts = [t] ∧ v = q :: v1) ∨ (seesQ q (Str.ofString ",") = true ∧ ∃ ts', ts = t :: ts' ∧ LstR X d v1 ts' v)) := fun l => by
    cases l with
    | one x c => exact ⟨_, _, _, x, .inl ⟨c, rfl, rfl⟩⟩
    | more x c l => exact ⟨_, _, _, x, .inr ⟨c, _, rfl, l⟩⟩
  have hts : ts.length ≤ 1001 := by
    have := l.len s
    have := p.suf.length_le
    omega
  obtain ⟨t, q, v1, x, rest⟩ := first l
  refine ⟨ob, m, us, u, q :: v1, d, t, rfl, p, d1, d2, x, ?_⟩
  have p1 := p.go ((s _ _ _ _ x).trans p.suf) d
  k_places
  refine ⟨by simp; omega, ?_⟩
  have hob := (List.getElem?_eq_some_iff.mp p.at_.ins).1
  k_places
  have ap : ∀ (x y : Option OO), (h.set ob x ++ [y]).set ob = fun z => h.set ob z ++ [y] := fun x y => funext fun z => by
    rw [List.set_append_left _ _ (by rw [List.length_set]; exact hob), List.set_set]
  refine vs_whileN (fun N env' h' => ∃ (done : List P) (q : Tok') (v1 : List Tok'), env' = [some (.own ob), some (.p (.cls f_part)), some (.own h.length)] ∧ h' = h.set ob (stO' CP m us (q :: v1) d) ++ [some (.lst (done.map D.p))] ∧ (q :: v1) <:+ us ∧ done.length ≤ ts.length ∧ ((seesQ q (Str.ofString ",") = false ∧ ts = done ∧ v = q :: v1) ∨ (seesQ q (Str.ofString ",") = true ∧ ∃ ts', ts = done ++ ts' ∧ LstR X d v1 ts' v)) ∧ N = v1.length) ⟨[t], q, v1, by rw [List.length_set]; rfl, rfl, (s _ _ _ _ x).trans p.suf, ?_, ?_, rfl⟩ ?_
  · rcases rest with ⟨_, rfl, _⟩ | ⟨_, ts', rfl, _⟩ <;> simp
  · rcases rest with ⟨c, rfl, e⟩ | ⟨c, ts', rfl, l'⟩
    · exact .inl ⟨c, rfl, e⟩
    · exact .inr ⟨c, ts', rfl, l'⟩
  rintro N env' h' ⟨done, q, v1, rfl, rfl, sf, dl, rest, rfl⟩
  have pd := (p.go sf d).app [some (.lst (done.map D.p))]
  have hn : ∀ x : Option OO, (h.set ob x ++ [some (OO.lst (done.map D.p))])[h.length]? = some (some (.lst (done.map D.p))) := fun x => by
    rw [List.getElem?_append_right (by rw [List.length_set]; omega), List.length_set, Nat.sub_self]; rfl
  k_places
  rcases rest with ⟨c, rfl, e⟩ | ⟨c, ts', rfl, l'⟩
  · refine skip_f pd c ?_
    k_places
    refine vc_tuple (ps := ts) (hn _) ?_
    rw [e] at r
    exact ⟨_, _, rfl, by rw [List.length_set], p.low, _, rfl, r⟩
  · refine skip_t pd c ?_
    obtain ⟨t2, q2, v2, x2, rest2⟩ := first l'
    have sv1 := suf_tail sf
    have sq2 := (s _ _ _ _ x2).trans sv1
    have ln2 := (s _ _ _ _ x2).length_le
    rw [ap]
    have p2 := (p.go sv1 d).app [some (.lst (done.map D.p))]
    k_places
    refine ve_bm ?_
    k_places
    refine ⟨⟨rfl, _, hn _⟩, ?_⟩
    k_places
    refine ve_callV rfl ?_
    k_places
    refine ⟨ob, m, us, v1, q2 :: v2, d, t2, rfl, p2, d1, d2, x2, ?_⟩
    rw [ap]
    k_places
    refine vm_append (hn _) (by rw [List.length_map]; rw [List.length_append] at hts; omega) ?_
    refine ⟨v2.length, by simp only [List.length_cons] at ln2; omega, done ++ [t2], q2, v2, rfl, ?_, sq2, ?_, ?_, rfl⟩
    · rw [List.set_append_right _ _ (by rw [List.length_set]; omega), List.length_set, Nat.sub_self, List.map_append]; rfl
    · rcases rest2 with ⟨_, rfl, _⟩ | ⟨_, ts'', rfl, _⟩ <;> simp
    · rcases rest2 with ⟨c2, rfl, e2⟩ | ⟨c2, ts'', rfl, l''⟩
      · exact .inl ⟨c2, rfl, e2⟩
      · exact .inr ⟨c2, ts'', by rw [List.append_assoc]; rfl, l''⟩
abbrev st_chain : Stmt := (topS 50)
theorem sc_chain : FnScope ["parsing", "operators", "operand", "tree", "operator"] ["parsing", "operators", "operand"] (defScope st_chain) := ⟨rfl, rfl, rfl, by decide +kernel, rfl, by decide +kernel, by decide +kernel⟩
def W_chain (C f : Addr) (X : Rel') (ops : List Str) (n : Nat) : Spc := fun ds h R => ∃ (ob m : Nat) (us u v0 v : List Tok') (d : Nat) (t0 t : P), ds = [.own ob, dT (ops.map P.str), .p (.cls f)] ∧ PsU C h ob m us u d ∧ d ≤ 12 ∧ 12 < d + n ∧ X d u t0 v0 ∧ ChnR X ops d t0 v0 t v ∧ R (.p t) (h.set ob (stO' C m us v d))
/-- what is known when an operator has been looked for -/
def After (X : Rel') (ops : List Str) (d : Nat) (t : P) (v : List Tok') (t' : P) (v' : List Tok') : Option Str → Prop
  | none => t = t' ∧ v = v'
  | some o => ∃ t1 v1, X d v t1 v1 ∧ ChnR X ops d (.tup [.str "binary", .str o, t, t1]) v1 t' v'
theorem ok_chain {k n : Nat} {X : Rel'} {ops : List Str} {f_operand : Addr} (s : Sufs X) (A : DefAt K mg "_chain" st_chain ["parsing", "operators", "operand"]) (hV_operand : FnAt Pg w K mg base CX0 k f_operand [Str.ofString "parsing"] (spD K Θ (W_rel CP X n)))
    (h__skip_one : HasF Pg w K mg base CX0 3 "_skip_one" ["parsing", "words"] (spD K Θ (W_sk1 CP))) (hk : 3 ≤ k) : HasF Pg w K mg base CX0 (k + 1) "_chain" ["parsing", "operators", "operand"] (spD K Θ (W_chain CP f_operand X ops n)) := by
  have sc := sc_chain
  refine A.okD sc (W_chain CP f_operand X ops n) (fun ds h R ⟨_, _, _, _, _, _, _, _, _, e, _⟩ => by rw [e]; rfl) fun f cdv A outer s' H E hr => ?_
  refine ⟨_, (pss_cons (ps_set (i := 3) sc.nd rfl (.inl rfl) (hV_operand.callV (i := 2) (hr.mono (by first | decide | omega)) pass0 rfl (pa_cons (pv 0) pa_nil)))
  (pss_cons (ps_set (i := 4) sc.nd rfl (.inl rfl) (h__skip_one.call (hr.mono (by first | decide | omega)) rfl pass0 (pa_cons (pv 0) (pa_cons (pv 1) pa_nil))))
  (pss_cons (ps_while PassesOwn.never (pt_cmpR op_notN (pv 4) pe_non (nomark _))
  (pss_cons (ps_set (i := 3) sc.nd rfl (.inl rfl) (pe_tup (pa_cons pe_str (pa_cons (pv 4) (pa_cons (pv 3) (pa_cons (hV_operand.callV (i := 2) (hr.mono (by first | decide | omega)) pass0 rfl (pa_cons (pv 0) pa_nil)) pa_nil))))))
  (pss_one (ps_set (i := 4) sc.nd rfl (.inl rfl) (h__skip_one.call (hr.mono (by first | decide | omega)) rfl pass0 (pa_cons (pv 0) (pa_cons (pv 1) pa_nil)))))))
  (pss_one (ps_ret (pv 3)))))), ?_⟩
  try dsimp only [cxOf]
  rintro ds h R ⟨ob, m, us, u, v0, v, d, t0, t, rfl, p, d1, d2, x, l, r⟩
  k_subL
  k_places
  refine ve_callV rfl ?_
  k_places
  refine ⟨ob, m, us, u, v0, d, t0, rfl, p, d1, d2, x, ?_⟩
  have p0 := p.go ((s _ _ _ _ x).trans p.suf) d
  -- the operator is looked for
  have look : ∀ {t0 : P} {v0 : List Tok'} {h1 : Hs} {R' : D → Hs → Prop}, ChnR X ops d t0 v0 t v → PsU CP h1 ob m us v0 d → (∀ (o : Option Str) (v1 : List Tok'), After X ops d t0 v1 t v o → v1 <:+ us → v1.length + (if o.isSome = true then 1 else 0) ≤ v0.length → R' (optS o) (h1.set ob (stO' CP m us v1 d))) → W_sk1 CP [.own ob, dT (ops.map P.str)] h1 R' := fun l p q => by
    cases l with
    | nil c => exact sk1_f p c (by have z := q none _ ⟨rfl, rfl⟩ p.suf (by simp); rw [p.set] at z; exact z)
    | cons c x l => exact sk1_t p c (q (some _) _ ⟨_, _, x, l⟩ p.tail (by simp))
  k_places
  refine look l p0 fun o v1 af sf ln => ?_
  rw [PsU.put]
  k_places
  refine vs_whileN (fun N env' h' => ∃ (t1 : P) (o : Option Str) (v1 : List Tok'), env' = [some (.own ob), some (dT (ops.map P.str)), some (.p (.cls f_operand)), some (.p t1), some (optS o)] ∧ h' = h.set ob (stO' CP m us v1 d) ∧ v1 <:+ us ∧ After X ops d t1 v1 t v o ∧ N = v1.length + (if o.isSome then 1 else 0)) ⟨t0, o, v1, rfl, rfl, sf, af, rfl⟩ ?_
  rintro N env' h' ⟨t1, o, v1, rfl, rfl, sf, af, rfl⟩
  cases o with
  | none =>
    obtain ⟨rfl, rfl⟩ := af
    k_places
    exact r
  | some o =>
    obtain ⟨t2, v2, x2, l2⟩ := af
    have p1 := p.go sf d
    k_places
    refine ve_callV rfl ?_
    k_places
    refine ⟨ob, m, us, v1, v2, d, t2, rfl, p1, d1, d2, x2, ?_⟩
    have sf2 := (s _ _ _ _ x2).trans sf
    have ln2 := (s _ _ _ _ x2).length_le
    rw [PsU.put]
    k_places
    refine ⟨[.str (Str.ofString "binary"), .str o, t1, t2], rfl, by rw [sizeLine_eq]; show 4 ≤ _; omega, ?_⟩
    k_places
    refine look l2 (p.go sf2 d) fun o v3 af sf3 ln3 => ?_
    rw [PsU.put]
    k_places
    have ln2 := (s _ _ _ _ x2).length_le
    refine ⟨_, ?_, _, o, v3, rfl, rfl, sf3, af, rfl⟩
    simp only [Option.isSome_some, if_true]
    omega
end
end Law

namespace Law
open PySem PySem.Spec PyProof.Rows L2 Kb
-- the steps that are tried: k_clsL a side condition; k_subL one step; k_places steps as long as one fits
local macro_rules | `(tactic| k_offL) => `(tactic| repeat ((fail_if_success (with_reducible refine vs_seq ?_)); k_subL))

/-! ### what stands for expressions -/
inductive Cat where
  | ex | cnj | neg | cmp | tot | pro | ngv | pri
def opsOr : List Str := [Str.ofString "or"]
def opsAnd : List Str := [Str.ofString "and"]
def opsTot : List Str := [Str.ofString "+", Str.ofString "-", Str.ofString "||"]
def opsPro : List Str := [Str.ofString "*", Str.ofString "/", Str.ofString "mod"]
def opsCmp : List Str := [Str.ofString "=", Str.ofString "<>", Str.ofString "<", Str.ofString "<=", Str.ofString ">", Str.ofString ">="]
def binT (o : Str) (a b : P) : P := .tup [.str (Str.ofString "binary"), .str o, a, b]
def kwK : Str := Str.ofString "keyword"
def nmK : Str := Str.ofString "name"
def inK : Str := Str.ofString "integer"
def txK : Str := Str.ofString "text"
def paK : Str := Str.ofString "parameter"
mutual
inductive Rd : Cat → Nat → List Tok' → P → List Tok' → Prop
  | ex {d u t0 v0 t v} : Rd .cnj d u t0 v0 → RdC .cnj opsOr d t0 v0 t v → Rd .ex d u t v
  | cnj {d u t0 v0 t v} : Rd .neg d u t0 v0 → RdC .neg opsAnd d t0 v0 t v → Rd .cnj d u t v
  | tot {d u t0 v0 t v} : Rd .pro d u t0 v0 → RdC .pro opsTot d t0 v0 t v → Rd .tot d u t v
  | pro {d u t0 v0 t v} : Rd .ngv d u t0 v0 → RdC .ngv opsPro d t0 v0 t v → Rd .pro d u t v
  | notP {d q u t v} : seesQ q (Str.ofString "not") = true → d < 12 → Rd .neg (d + 1) u t v → Rd .neg d (q :: u) (.tup [.str (Str.ofString "not"), t]) v
  | notN {d q u t v} : seesQ q (Str.ofString "not") = false → Rd .cmp d (q :: u) t v → Rd .neg d (q :: u) t v
  | cmp {d u t0 v0 t v} : Rd .tot d u t0 v0 → RdM d t0 v0 t v → Rd .cmp d u t v
  | ngvP {d q u t v} : seesQ q (Str.ofString "-") = true → d < 12 → Rd .ngv (d + 1) u t v → Rd .ngv d (q :: u) (.tup [.str (Str.ofString "negate"), t]) v
  | ngvN {d q u t v} : seesQ q (Str.ofString "-") = false → Rd .pri d (q :: u) t v → Rd .ngv d (q :: u) t v
  | lit {d k x u} : k = inK ∨ k = txK → Rd .pri d ((k, x) :: u) (.tup [.str (Str.ofString "literal"), x]) u
  | par {d x u} : Rd .pri d ((paK, x) :: u) (.tup [.str (Str.ofString "parameter"), x]) u
  | col1 {d a q u} : seesQ q (Str.ofString ".") = false → Rd .pri d ((nmK, a) :: q :: u) (.tup [.str (Str.ofString "column"), .non, a]) (q :: u)
  | col2 {d a q b u} : seesQ q (Str.ofString ".") = true → Rd .pri d ((nmK, a) :: q :: (nmK, b) :: u) (.tup [.str (Str.ofString "column"), a, b]) u
  | paren {d q q1 u t q2 v} : q.1 ∉ ([inK, txK, paK, nmK] : List Str) → seesQ q (Str.ofString "(") = true → d < 12 → seesQ q1 (Str.ofString "select") = false → Rd .ex (d + 1) (q1 :: u) t (q2 :: v) → seesQ q2 (Str.ofString ")") = true → Rd .pri d (q :: q1 :: u) t v
inductive RdC : Cat → List Str → Nat → P → List Tok' → P → List Tok' → Prop
  | nil {c ops d t q v} : ops.find? (seesQ q) = none → RdC c ops d t (q :: v) t (q :: v)
  | cons {c ops d t q v o t1 v1 t' v'} : ops.find? (seesQ q) = some o → Rd c d v t1 v1 → RdC c ops d (binT o t t1) v1 t' v' → RdC c ops d t (q :: v) t' v'
inductive RdM : Nat → P → List Tok' → P → List Tok' → Prop
  | op {d t q v o t1 v1 t' v'} : opsCmp.find? (seesQ q) = some o → Rd .tot d v t1 v1 → RdM d (binT o t t1) v1 t' v' → RdM d t (q :: v) t' v'
  | isP {d t q q1 q2 v t' v'} : opsCmp.find? (seesQ q) = none → seesQ q (Str.ofString "is") = true → seesQ q1 (Str.ofString "not") = true → seesQ q2 (Str.ofString "null") = true → RdM d (.tup [.str (Str.ofString "is_null"), t, .bl true]) v t' v' → RdM d t (q :: q1 :: q2 :: v) t' v'
  | isN {d t q q1 v t' v'} : opsCmp.find? (seesQ q) = none → seesQ q (Str.ofString "is") = true → seesQ q1 (Str.ofString "not") = false → seesQ q1 (Str.ofString "null") = true → RdM d (.tup [.str (Str.ofString "is_null"), t, .bl false]) v t' v' → RdM d t (q :: q1 :: v) t' v'
  | inP {d t q v t1 v1 t' v'} : opsCmp.find? (seesQ q) = none → seesQ q (Str.ofString "is") = false → (seesQ q (Str.ofString "not") = true ∨ seesQ q (Str.ofString "in") = true) → RdI d t (q :: v) t1 v1 → RdM d t1 v1 t' v' → RdM d t (q :: v) t' v'
  | nil {d t q v} : opsCmp.find? (seesQ q) = none → seesQ q (Str.ofString "is") = false → seesQ q (Str.ofString "not") = false → seesQ q (Str.ofString "in") = false → RdM d t (q :: v) t (q :: v)
inductive RdI : Nat → P → List Tok' → P → List Tok' → Prop
  | yes {d t q q1 q2 u ts q3 v} : seesQ q (Str.ofString "not") = false → seesQ q (Str.ofString "in") = true → seesQ q1 (Str.ofString "(") = true → d < 12 → seesQ q2 (Str.ofString "select") = false → RdL (d + 1) (q2 :: u) ts (q3 :: v) → seesQ q3 (Str.ofString ")") = true → RdI d t (q :: q1 :: q2 :: u) (.tup [.str (Str.ofString "in_list"), t, .tup ts, .bl false]) v
  | no {d t q0 q q1 q2 u ts q3 v} : seesQ q0 (Str.ofString "not") = true → seesQ q (Str.ofString "in") = true → seesQ q1 (Str.ofString "(") = true → d < 12 → seesQ q2 (Str.ofString "select") = false → RdL (d + 1) (q2 :: u) ts (q3 :: v) → seesQ q3 (Str.ofString ")") = true → RdI d t (q0 :: q :: q1 :: q2 :: u) (.tup [.str (Str.ofString "in_list"), t, .tup ts, .bl true]) v
inductive RdL : Nat → List Tok' → List P → List Tok' → Prop
  | one {d u t q v} : Rd .ex d u t (q :: v) → seesQ q (Str.ofString ",") = false → RdL d u [t] (q :: v)
  | more {d u t q v ts v'} : Rd .ex d u t (q :: v) → seesQ q (Str.ofString ",") = true → RdL d v ts v' → RdL d u (t :: ts) v'
end
mutual
theorem Rd.suf : ∀ {c d u t v}, Rd c d u t v → v <:+ u
  | _, _, _, _, _, .ex a b => b.suf.trans a.suf
  | _, _, _, _, _, .cnj a b => b.suf.trans a.suf
  | _, _, _, _, _, .tot a b => b.suf.trans a.suf
  | _, _, _, _, _, .pro a b => b.suf.trans a.suf
  | _, _, _, _, _, .notP _ _ a => a.suf.trans (List.suffix_cons _ _)
  | _, _, _, _, _, .notN _ a => a.suf
  | _, _, _, _, _, .cmp a b => b.suf.trans a.suf
  | _, _, _, _, _, .ngvP _ _ a => a.suf.trans (List.suffix_cons _ _)
  | _, _, _, _, _, .ngvN _ a => a.suf
  | _, _, _, _, _, .lit _ => List.suffix_cons _ _
  | _, _, _, _, _, .par => List.suffix_cons _ _
  | _, _, _, _, _, .col1 _ => List.suffix_cons _ _
  | _, _, _, _, _, .col2 _ => (List.suffix_cons _ _).trans ((List.suffix_cons _ _).trans (List.suffix_cons _ _))
  | _, _, _, _, _, .paren _ _ _ _ a _ => (List.suffix_cons _ _).trans (a.suf.trans (List.suffix_cons _ _))
theorem RdC.suf : ∀ {c ops d t u t' v}, RdC c ops d t u t' v → v <:+ u
  | _, _, _, _, _, _, _, .nil _ => List.suffix_refl _
  | _, _, _, _, _, _, _, .cons _ a b => b.suf.trans (a.suf.trans (List.suffix_cons _ _))
theorem RdM.suf : ∀ {d t u t' v}, RdM d t u t' v → v <:+ u
  | _, _, _, _, _, .op _ a b => b.suf.trans (a.suf.trans (List.suffix_cons _ _))
  | _, _, _, _, _, .isP _ _ _ _ b => b.suf.trans ((List.suffix_cons _ _).trans ((List.suffix_cons _ _).trans (List.suffix_cons _ _)))
  | _, _, _, _, _, .isN _ _ _ _ b => b.suf.trans ((List.suffix_cons _ _).trans (List.suffix_cons _ _))
  | _, _, _, _, _, .inP _ _ _ a b => b.suf.trans a.suf
  | _, _, _, _, _, .nil _ _ _ _ => List.suffix_refl _
theorem RdI.suf : ∀ {d t u t' v}, RdI d t u t' v → v <:+ u
  | _, _, _, _, _, .yes _ _ _ _ _ a _ => (List.suffix_cons _ _).trans (a.suf.trans ((List.suffix_cons _ _).trans (List.suffix_cons _ _)))
  | _, _, _, _, _, .no _ _ _ _ _ a _ => (List.suffix_cons _ _).trans (a.suf.trans ((List.suffix_cons _ _).trans ((List.suffix_cons _ _).trans (List.suffix_cons _ _))))
theorem RdL.suf : ∀ {d u ts v}, RdL d u ts v → v <:+ u
  | _, _, _, _, .one a _ => a.suf
  | _, _, _, _, .more a _ b => b.suf.trans ((List.suffix_cons _ _).trans a.suf)
end
theorem rd_sufs (c : Cat) : Sufs (Rd c) := fun _ _ _ _ h => h.suf
theorem RdL.lst : ∀ {d u ts v}, RdL d u ts v → LstR (Rd .ex) d u ts v
  | _, _, _, _, .one a c => .one a c
  | _, _, _, _, .more a c b => .more a c b.lst
theorem RdC.chn : ∀ {c ops d t u t' v}, RdC c ops d t u t' v → ChnR (Rd c) ops d t u t' v
  | _, _, _, _, _, _, _, .nil c => .nil c
  | _, _, _, _, _, _, _, .cons c a b => .cons c a b.chn
end Law

namespace Law
open PySem PySem.Spec PyProof.Rows L2 Kb
-- the steps that are tried: k_clsL a side condition; k_subL one step; k_places steps as long as one fits
section
variable {Pg : Program} {w : World} {K : PySem.W.Frag} {Θ : Tbs} {mg : Str → Option Value} {base : Heap} {CP : Addr}
/-- one of the words of a tuple of the top -/
def W_sk1K (C : Addr) (ws : List Str) : Spc := fun ds h R => ∃ (n m : Nat) (us : List Tok') (i d : Nat) (q : Tok') (c : Addr), ds = [.own n, .p (.cls c)] ∧ KTup K c (ws.map V.str) ∧ PsAt C h n m us i d ∧ us[i]? = some q ∧ R (optS (ws.find? (seesQ q))) (h.set n (psO C m (i + (ws.find? (seesQ q)).isSome.toNat) d))
theorem ok_sk1K {ws : List Str} (A : DefAt K mg "_skip_one" st_sk1 ["parsing", "words"]) (h__skip : HasF Pg w K mg base CX0 2 "_skip" ["parsing", "word"] (spD K Θ (W_skip CP))) : HasF Pg w K mg base CX0 3 "_skip_one" ["parsing", "words"] (spD K Θ (W_sk1K (K := K) CP ws)) := by
  have sc := sc_sk1
  refine A.okD sc (W_sk1K (K := K) CP ws) (fun ds h R ⟨_, _, _, _, _, _, _, e, _⟩ => by rw [e]; rfl) fun f cdv A outer s H E hr => ?_
  refine ⟨_, (pss_cons (ps_for PassesOwn.never rfl (pi_seqK (K := K) (by rfl) (pv 1)) (pg_name (i := 2) sc.nd rfl (.inl rfl))
  (pss_one (ps_if (pt_val (h__skip.call (hr.mono (by first | decide | omega)) rfl pass0 (pa_cons (pv 0) (pa_cons (pv 2) pa_nil)))) (pss_one (ps_ret (pv 2))) pss_nil)))
  (pss_one (ps_ret pe_non))), ?_⟩
  try dsimp only [cxOf]
  rintro ds h R ⟨n, m, us, i, d, q, c, rfl, kt, p, e, r⟩
  k_subL
  refine vs_for (vi_seqK ?_)
  k_places
  refine ⟨c, ws.map dS, ws.map V.str, rfl, kt, CKs.strs ws, ?_⟩
  refine ⟨fun j env h' => ∃ o : Option D, env = [some (.own n), some (.p (.cls c)), o] ∧ h' = h ∧ (ws.take j).find? (seesQ q) = none, ?_, ?_, ?_, ?_⟩
  · exact ⟨none, rfl, rfl, by simp⟩
  · exact fun _ _ _ _ => trivial
  · rintro j x env h' hx ⟨o, rfl, rfl, hn⟩
    rw [List.getElem?_map] at hx
    cases ew : ws[j]? with
    | none => rw [ew] at hx; cases hx
    | some w =>
      rw [ew] at hx
      cases hx
      k_places
      refine ⟨n, m, us, i, d, q, w, rfl, p, e, ?_⟩
      k_places
      refine ite_b (fun c => ?_) (fun c => ?_)
      · k_places
        rw [find_some ew hn c] at r
        rw [c]
        exact r
      · k_places
        rw [c]
        have z : h'.set n (psO CP m (i + (false : Bool).toNat) d) = h' := p.same
        exact ⟨_, rfl, z, find_none ew hn c⟩
  · rintro env h' ⟨o, rfl, rfl, hn⟩
    rw [List.length_map, List.take_length] at hn
    rw [hn] at r
    have z : h'.set n (psO CP m (i + (none : Option Str).isSome.toNat) d) = h' := p.same
    rw [z] at r
    k_places
    exact r
theorem sk1K_t {h : Hs} {ob m d : Nat} {us u : List Tok'} {q : Tok'} {R : D → Hs → Prop} {C c : Addr} {ws : List Str} {o : Str} (kt : KTup K c (ws.map V.str)) (p : PsU C h ob m us (q :: u) d) (e : ws.find? (seesQ q) = some o) (r : R (dS o) (h.set ob (stO' C m us u d))) : W_sk1K (K := K) C ws [.own ob, .p (.cls c)] h R := ⟨ob, m, us, _, d, q, c, rfl, kt, p.at_, (suf_head p.suf).1, by
  rw [e]; show R (dS o) (h.set ob (psO C m (us.length - (q :: u).length + 1) d)); rw [(suf_head p.suf).2]; exact r⟩
theorem sk1K_f {h : Hs} {ob m d : Nat} {us u : List Tok'} {q : Tok'} {R : D → Hs → Prop} {C c : Addr} {ws : List Str} (kt : KTup K c (ws.map V.str)) (p : PsU C h ob m us (q :: u) d) (e : ws.find? (seesQ q) = none) (r : R dN h) : W_sk1K (K := K) C ws [.own ob, .p (.cls c)] h R := ⟨ob, m, us, _, d, q, c, rfl, kt, p.at_, (suf_head p.suf).1, by
  rw [e]
  have z : h.set ob (psO C m (us.length - (q :: u).length + (none : Option Str).isSome.toNat) d) = h := p.set
  rw [z]; exact r⟩
abbrev st_col : Stmt := (topS 60)
theorem sc_col : FnScope ["parsing", "name"] ["parsing"] (defScope st_col) := ⟨rfl, rfl, rfl, by decide +kernel, rfl, by decide +kernel, by decide +kernel⟩
/-- names of columns -/
inductive ColR : Nat → List Tok' → P → List Tok' → Prop
  | col1 {d a q u} : seesQ q (Str.ofString ".") = false → ColR d ((nmK, a) :: q :: u) (.tup [.str (Str.ofString "column"), .non, a]) (q :: u)
  | col2 {d a q b u} : seesQ q (Str.ofString ".") = true → ColR d ((nmK, a) :: q :: (nmK, b) :: u) (.tup [.str (Str.ofString "column"), a, b]) u
def W_any (C : Addr) (X : Rel') : Spc := fun ds h R => ∃ (ob m : Nat) (us u v : List Tok') (d : Nat) (t : P), ds = [.own ob] ∧ PsU C h ob m us u d ∧ X d u t v ∧ R (.p t) (h.set ob (stO' C m us v d))
theorem ok_col (A : DefAt K mg "_column" st_col ["parsing"]) (h__take : HasF Pg w K mg base CX0 2 "_take" ["parsing", "kind"] (spD K Θ (W_take CP))) (h__skip : HasF Pg w K mg base CX0 2 "_skip" ["parsing", "word"] (spD K Θ (W_skip CP))) : HasF Pg w K mg base CX0 3 "_column" ["parsing"] (spD K Θ (W_any CP ColR)) := by
  have sc := sc_col
  refine A.okD sc (W_any CP ColR) (fun ds h R ⟨_, _, _, _, _, _, _, e, _⟩ => by rw [e]; rfl) fun f cdv A outer s H E hr => ?_
  refine ⟨_, (pss_cons (ps_set (i := 1) sc.nd rfl (.inl rfl) (h__take.call (hr.mono (by first | decide | omega)) rfl pass0 (pa_cons (pv 0) (pa_cons pe_str pa_nil))))
  (pss_cons (ps_if (pt_val (h__skip.call (hr.mono (by first | decide | omega)) rfl pass0 (pa_cons (pv 0) (pa_cons pe_str pa_nil)))) (pss_one (ps_ret (pe_tup (pa_cons pe_str (pa_cons (pv 1) (pa_cons (h__take.call (hr.mono (by first | decide | omega)) rfl pass0 (pa_cons (pv 0) (pa_cons pe_str pa_nil))) pa_nil)))))) pss_nil)
  (pss_one (ps_ret (pe_tup (pa_cons pe_str (pa_cons pe_non (pa_cons (pv 1) pa_nil)))))))), ?_⟩
  try dsimp only [cxOf]
  rintro ds h R ⟨ob, m, us, u, v, d, t, rfl, p, x, r⟩
  cases x with
  | col1 c =>
    k_places
    refine take_u p ?_
    have p1 := p.go p.tail d
    k_places
    refine skip_f p1 c ?_
    k_places
    exact r
  | col2 c =>
    k_places
    refine take_u p ?_
    have p1 := p.go p.tail d
    k_places
    refine skip_t p1 c ?_
    have p2 := p1.go p1.tail d
    k_places
    refine take_u p2 ?_
    rw [PsU.put, PsU.put]
    k_places
    exact r
abbrev st_prn : Stmt := (topS 61)
theorem sc_prn : FnScope ["parsing", "tree"] ["parsing"] (defScope st_prn) := ⟨rfl, rfl, rfl, by decide +kernel, rfl, by decide +kernel, by decide +kernel⟩
/-- an expression in parentheses -/
def ParR : Rel' := fun d u t v => ∃ q q1 u' q2, u = q :: q1 :: u' ∧ seesQ q (Str.ofString "(") = true ∧ d < 12 ∧ seesQ q1 (Str.ofString "select") = false ∧ Rd .ex (d + 1) (q1 :: u') t (q2 :: v) ∧ seesQ q2 (Str.ofString ")") = true
theorem ok_paren {k n : Nat} (A : DefAt K mg "_parentheses" st_prn ["parsing"]) (h__go_in : HasF Pg w K mg base CX0 4 "_go_in" ["parsing", "word"] (spD K Θ (W_goin CP))) (h__go_out : HasF Pg w K mg base CX0 4 "_go_out" ["parsing", "word"] (spD K Θ (W_goout CP)))
    (h__sees : HasF Pg w K mg base CX0 1 "_sees" ["parsing", "word"] (spD K Θ (W_sees CP))) (h__query : HasF Pg w K mg base CX0 1 "_query" ["parsing"] (spD K Θ W_no)) (h__expression : HasF Pg w K mg base CX0 k "_expression" ["parsing"] (spD K Θ (W_rel CP (Rd .ex) n))) (hk : 4 ≤ k) :
    HasF Pg w K mg base CX0 (k + 1) "_parentheses" ["parsing"] (spD K Θ (W_rel CP ParR (n + 1))) := by
  have sc := sc_prn
  refine A.okD sc (W_rel CP ParR (n + 1)) (fun ds h R ⟨_, _, _, _, _, _, _, e, _⟩ => by rw [e]; rfl) fun f cdv A outer s H E hr => ?_
  refine ⟨_, (pss_cons (ps_expr (h__go_in.call (hr.mono (by first | decide | omega)) rfl pass0 (pa_cons (pv 0) (pa_cons pe_str pa_nil))))
  (pss_cons (ps_set (i := 1) sc.nd rfl (.inl rfl) (pe_ifExp (pt_val (h__sees.call (hr.mono (by first | decide | omega)) rfl pass0 (pa_cons (pv 0) (pa_cons pe_str pa_nil)))) (pe_tup (pa_cons pe_str (pa_cons (h__query.call (hr.mono (by first | decide | omega)) rfl pass0 (pa_cons (pv 0) pa_nil)) pa_nil))) (h__expression.call (hr.mono (by first | decide | omega)) rfl pass0 (pa_cons (pv 0) pa_nil))))
  (pss_cons (ps_expr (h__go_out.call (hr.mono (by first | decide | omega)) rfl pass0 (pa_cons (pv 0) (pa_cons pe_str pa_nil))))
  (pss_one (ps_ret (pv 1)))))), ?_⟩
  try dsimp only [cxOf]
  rintro ds h R ⟨ob, m, us, u, v, d, t, rfl, p, d1, d2, ⟨q, q1, u', q2, rfl, c1, hd, c2, x, c3⟩, r⟩
  k_places
  refine goin_u p c1 hd ?_
  have p1 := p.go p.tail (d + 1)
  k_places
  refine sees_u p1 ?_
  rw [c2]
  k_places
  refine ⟨ob, m, us, q1 :: u', q2 :: v, d + 1, t, rfl, p1, by omega, by omega, x, ?_⟩
  rw [PsU.put]
  have p2 := p.go ((rd_sufs _ _ _ _ _ x).trans p.tail) (d + 1)
  k_places
  refine goout_u p2 c3 ?_
  rw [PsU.put]
  k_places
  exact r
abbrev st_pri : Stmt := (topS 59)
theorem sc_pri : FnScope ["parsing", "kind"] ["parsing"] (defScope st_pri) := ⟨rfl, rfl, rfl, by decide +kernel, rfl, by decide +kernel, by decide +kernel⟩
theorem ok_pri {k n : Nat} (A : DefAt K mg "_primary" st_pri ["parsing"]) (h__kind : HasF Pg w K mg base CX0 1 "_kind" ["parsing"] (spD K Θ (W_kind CP))) (h__take : HasF Pg w K mg base CX0 2 "_take" ["parsing", "kind"] (spD K Θ (W_take CP)))
    (h__column : HasF Pg w K mg base CX0 3 "_column" ["parsing"] (spD K Θ (W_any CP ColR))) (h__sees : HasF Pg w K mg base CX0 1 "_sees" ["parsing", "word"] (spD K Θ (W_sees CP)))
    (h__parentheses : HasF Pg w K mg base CX0 (k + 1) "_parentheses" ["parsing"] (spD K Θ (W_rel CP ParR (n + 1)))) (h__worded : HasF Pg w K mg base CX0 1 "_worded" ["parsing"] (spD K Θ W_no)) (hk : 4 ≤ k) :
    HasF Pg w K mg base CX0 (k + 2) "_primary" ["parsing"] (spD K Θ (W_rel CP (Rd .pri) (n + 1))) := by
  have sc := sc_pri
  refine A.okD sc (W_rel CP (Rd .pri) (n + 1)) (fun ds h R ⟨_, _, _, _, _, _, _, e, _⟩ => by rw [e]; rfl) fun f cdv A outer s H E hr => ?_
  refine ⟨_, (pss_cons (ps_set (i := 1) sc.nd rfl (.inl rfl) (h__kind.call (hr.mono (by first | decide | omega)) rfl pass0 (pa_cons (pv 0) pa_nil)))
  (pss_cons (ps_if (pt_cmpR (op_inUK (K := K) (by rfl)) (pv 1) (pe_tup (pa_cons pe_str (pa_cons pe_str pa_nil))) (by rfl)) (pss_one (ps_ret (pe_tup (pa_cons pe_str (pa_cons (h__take.call (hr.mono (by first | decide | omega)) rfl pass0 (pa_cons (pv 0) (pa_cons (pv 1) pa_nil))) pa_nil))))) pss_nil)
  (pss_cons (ps_if (pt_cmpR (op_eqUK (K := K) (by rfl) hr.units) (pv 1) pe_str (nomark _)) (pss_one (ps_ret (pe_tup (pa_cons pe_str (pa_cons (h__take.call (hr.mono (by first | decide | omega)) rfl pass0 (pa_cons (pv 0) (pa_cons (pv 1) pa_nil))) pa_nil))))) pss_nil)
  (pss_cons (ps_if (pt_cmpR (op_eqUK (K := K) (by rfl) hr.units) (pv 1) pe_str (nomark _)) (pss_one (ps_ret (h__column.call (hr.mono (by first | decide | omega)) rfl pass0 (pa_cons (pv 0) pa_nil)))) pss_nil)
  (pss_cons (ps_if (pt_val (h__sees.call (hr.mono (by first | decide | omega)) rfl pass0 (pa_cons (pv 0) (pa_cons pe_str pa_nil)))) (pss_one (ps_ret (h__parentheses.call (hr.mono (by first | decide | omega)) rfl pass0 (pa_cons (pv 0) pa_nil)))) pss_nil)
  (pss_one (ps_ret (h__worded.call (hr.mono (by first | decide | omega)) rfl pass0 (pa_cons (pv 0) pa_nil))))))))), ?_⟩
  try dsimp only [cxOf]
  rintro ds h R ⟨ob, m, us, u, v, d, t, rfl, p, d1, d2, x, r⟩
  cases x with
  | lit c =>
    k_places
    refine kind_u p ?_
    k_places
    refine v2_inTS (ns := [inK, txK]) ?_
    refine ⟨_, rfl, ?_⟩
    refine ite_tt (by rcases c with rfl | rfl; exact (show decide (inK ∈ ([inK, txK] : List Str)) = true by decide +kernel); exact (show decide (txK ∈ ([inK, txK] : List Str)) = true by decide +kernel)) ?_
    k_places
    refine take_u p ?_
    k_places
    exact r
  | par =>
    k_places
    refine kind_u p ?_
    k_places
    refine v2_inTS (ns := [inK, txK]) ?_
    refine ⟨_, rfl, ?_⟩
    refine ite_ff (show decide (paK ∈ ([inK, txK] : List Str)) = false by decide +kernel) ?_
    k_places
    refine take_u p ?_
    k_places
    exact r
  | col1 c =>
    k_places
    refine kind_u p ?_
    k_places
    refine v2_inTS (ns := [inK, txK]) ?_
    refine ⟨_, rfl, ?_⟩
    refine ite_ff (show decide (nmK ∈ ([inK, txK] : List Str)) = false by decide +kernel) ?_
    k_places
    exact ⟨ob, m, us, _, _, d, _, rfl, p, .col1 c, r⟩
  | col2 c =>
    k_places
    refine kind_u p ?_
    k_places
    refine v2_inTS (ns := [inK, txK]) ?_
    refine ⟨_, rfl, ?_⟩
    refine ite_ff (show decide (nmK ∈ ([inK, txK] : List Str)) = false by decide +kernel) ?_
    k_places
    exact ⟨ob, m, us, _, _, d, _, rfl, p, .col2 c, r⟩
  | paren c1 c2 c3 c4 x c5 =>
    have n1 : ∀ z : Str, z ∈ ([inK, txK, paK, nmK] : List Str) → ∀ y : Str, y = z → y ∈ ([inK, txK, paK, nmK] : List Str) := fun z hz y e => by rw [e]; exact hz
    k_places
    refine kind_u p ?_
    k_places
    refine v2_inTS (ns := [inK, txK]) ?_
    refine ⟨_, rfl, ?_⟩
    refine ite_ff (decide_eq_false fun z => c1 (by simp only [List.mem_cons, List.not_mem_nil, or_false] at z ⊢; rcases z with z | z <;> simp [z])) ?_
    k_places
    refine ite_ff (decide_eq_false fun z => c1 (n1 paK (by decide +kernel) _ z)) ?_
    k_places
    refine ite_ff (decide_eq_false fun z => c1 (n1 nmK (by decide +kernel) _ z)) ?_
    k_places
    refine sees_u p ?_
    rw [c2]
    k_places
    exact ⟨ob, m, us, _, _, d, _, rfl, p, d1, d2, ⟨_, _, _, _, rfl, c2, c3, c4, x, c5⟩, r⟩
end
end Law

namespace Law
open PySem PySem.Spec PyProof.Rows L2 Kb
-- the steps that are tried: k_clsL a side condition; k_subL one step; k_places steps as long as one fits
section
variable {Pg : Program} {w : World} {K : PySem.W.Frag} {Θ : Tbs} {mg : Str → Option Value} {base : Heap} {CP : Addr}
abbrev st_pref : Stmt := (topS 52)
theorem sc_pref : FnScope ["parsing", "sign", "word", "operand", "tree"] ["parsing", "sign", "word", "operand"] (defScope st_pref) := ⟨rfl, rfl, rfl, by decide +kernel, rfl, by decide +kernel, by decide +kernel⟩
def W_pref (C f : Addr) (X : Rel') (n : Nat) : Spc := fun ds h R => ∃ (ob m : Nat) (us u v : List Tok') (d : Nat) (t : P) (q : Tok') (s wd : Str), ds = [.own ob, dS s, dS wd, .p (.cls f)] ∧ PsU C h ob m us (q :: u) d ∧ seesQ q s = true ∧ d < 12 ∧ 12 < d + (n + 1) ∧ X (d + 1) u t v ∧ R (.p (.tup [.str wd, t])) (h.set ob (stO' C m us v d))
theorem ok_pref {k n : Nat} {X : Rel'} {f_operand : Addr} (s : Sufs X) (A : DefAt K mg "_prefixed" st_pref ["parsing", "sign", "word", "operand"]) (T : ParC K mg CP) (hV_operand : FnAt Pg w K mg base CX0 k f_operand [Str.ofString "parsing"] (spD K Θ (W_rel CP X n)))
    (h__go_in : HasF Pg w K mg base CX0 4 "_go_in" ["parsing", "word"] (spD K Θ (W_goin CP))) (hk : 4 ≤ k) : HasF Pg w K mg base CX0 (k + 1) "_prefixed" ["parsing", "sign", "word", "operand"] (spD K Θ (W_pref CP f_operand X n)) := by
  have sc := sc_pref
  refine A.okD sc (W_pref CP f_operand X n) (fun ds h R ⟨_, _, _, _, _, _, _, _, _, _, e, _⟩ => by rw [e]; rfl) fun f cdv A outer s' H E hr => ?_
  refine ⟨_, (pss_cons (ps_expr (h__go_in.call (hr.mono (by first | decide | omega)) rfl pass0 (pa_cons (pv 0) (pa_cons (pv 1) pa_nil))))
  (pss_cons (ps_set (i := 4) sc.nd rfl (.inl rfl) (pe_tup (pa_cons (pv 2) (pa_cons (hV_operand.callV (i := 3) (hr.mono (by first | decide | omega)) pass0 rfl (pa_cons (pv 0) pa_nil)) pa_nil))))
  (pss_cons (ps_fldaugK (K := K) (by rfl) (pv 0) pe_int in_sub)
  (pss_one (ps_ret (pv 4)))))), ?_⟩
  try dsimp only [cxOf]
  rintro ds h R ⟨ob, m, us, u, v, d, t, q, sg, wd, rfl, p, c, hd, d2, x, r⟩
  k_places
  refine goin_u p c hd ?_
  have p1 := p.go p.tail (d + 1)
  k_places
  refine ve_callV rfl ?_
  k_places
  refine ⟨ob, m, us, u, v, d + 1, t, rfl, p1, by omega, by omega, x, ?_⟩
  rw [PsU.put]
  have p2 := p.go ((s _ _ _ _ x).trans p.tail) (d + 1)
  k_places
  refine aug_out T p2.at_ (fun r => ve_var rfl r) (fun r => ve_int r) ?_
  rw [PsU.put]
  k_places
  exact r
abbrev st_ngv : Stmt := (topS 58)
theorem sc_ngv : FnScope ["parsing"] ["parsing"] (defScope st_ngv) := ⟨rfl, rfl, rfl, by decide +kernel, rfl, by decide +kernel, by decide +kernel⟩
theorem ok_ngv {k n : Nat} {f__negative : Addr} (A : DefAt K mg "_negative" st_ngv ["parsing"]) (gf__negative : mg "_negative" = some (.ref f__negative)) (h__sees : HasF Pg w K mg base CX0 1 "_sees" ["parsing", "word"] (spD K Θ (W_sees CP)))
    (h__prefixed : HasF Pg w K mg base CX0 (k + 1) "_prefixed" ["parsing", "sign", "word", "operand"] (spD K Θ (W_pref CP f__negative (Rd .ngv) n))) (h__primary : HasF Pg w K mg base CX0 (k + 2) "_primary" ["parsing"] (spD K Θ (W_rel CP (Rd .pri) (n + 1)))) :
    HasF Pg w K mg base CX0 (k + 3) "_negative" ["parsing"] (spD K Θ (W_rel CP (Rd .ngv) (n + 1))) := by
  have sc := sc_ngv
  refine A.okD sc (W_rel CP (Rd .ngv) (n + 1)) (fun ds h R ⟨_, _, _, _, _, _, _, e, _⟩ => by rw [e]; rfl) fun f cdv A outer s' H E hr => ?_
  refine ⟨_, (pss_cons (ps_if (pt_val (h__sees.call (hr.mono (by first | decide | omega)) rfl pass0 (pa_cons (pv 0) (pa_cons pe_str pa_nil)))) (pss_one (ps_ret (h__prefixed.call (hr.mono (by first | decide | omega)) rfl pass0 (pa_cons (pv 0) (pa_cons pe_str (pa_cons pe_str (pa_cons (pe_glob (v := .ref f__negative) rfl gf__negative rfl) pa_nil))))))) pss_nil)
  (pss_one (ps_ret (h__primary.call (hr.mono (by first | decide | omega)) rfl pass0 (pa_cons (pv 0) pa_nil))))), ?_⟩
  try dsimp only [cxOf]
  rintro ds h R ⟨ob, m, us, u, v, d, t, rfl, p, d1, d2, x, r⟩
  cases x with
  | ngvP c hd x =>
    k_places
    refine sees_u p ?_
    rw [c]
    k_places
    refine ve_cls ?_
    k_places
    exact ⟨ob, m, us, _, v, d, _, _, _, _, rfl, p, c, hd, d2, x, r⟩
  | ngvN c x =>
    k_places
    refine sees_u p ?_
    rw [c]
    k_places
    exact ⟨ob, m, us, _, v, d, t, rfl, p, d1, d2, x, r⟩
abbrev st_pro : Stmt := (topS 57)
theorem sc_pro : FnScope ["parsing"] ["parsing"] (defScope st_pro) := ⟨rfl, rfl, rfl, by decide +kernel, rfl, by decide +kernel, by decide +kernel⟩
theorem ok_pro {k n : Nat} {f__negative : Addr} (A : DefAt K mg "_product" st_pro ["parsing"]) (gf__negative : mg "_negative" = some (.ref f__negative)) (h__chain : HasF Pg w K mg base CX0 (k + 4) "_chain" ["parsing", "operators", "operand"] (spD K Θ (W_chain CP f__negative (Rd .ngv) opsPro n))) :
    HasF Pg w K mg base CX0 (k + 5) "_product" ["parsing"] (spD K Θ (W_rel CP (Rd .pro) n)) := by
  have sc := sc_pro
  refine A.okD sc (W_rel CP (Rd .pro) n) (fun ds h R ⟨_, _, _, _, _, _, _, e, _⟩ => by rw [e]; rfl) fun f cdv A outer s' H E hr => ?_
  refine ⟨_, (pss_one (ps_ret (h__chain.call (hr.mono (by first | decide | omega)) rfl pass0 (pa_cons (pv 0) (pa_cons (pe_tup (pa_cons pe_str (pa_cons pe_str (pa_cons pe_str pa_nil)))) (pa_cons (pe_glob (v := .ref f__negative) rfl gf__negative rfl) pa_nil)))))), ?_⟩
  try dsimp only [cxOf]
  rintro ds h R ⟨ob, m, us, u, v, d, t, rfl, p, d1, d2, x, r⟩
  cases x with
  | pro a b =>
    k_places
    refine ve_cls ?_
    k_places
    exact ⟨ob, m, us, u, _, v, d, _, t, rfl, p, d1, d2, a, b.chn, r⟩
abbrev st_tot : Stmt := (topS 56)
theorem sc_tot : FnScope ["parsing"] ["parsing"] (defScope st_tot) := ⟨rfl, rfl, rfl, by decide +kernel, rfl, by decide +kernel, by decide +kernel⟩
theorem ok_tot {k n : Nat} {f__product : Addr} (A : DefAt K mg "_total" st_tot ["parsing"]) (gf__product : mg "_product" = some (.ref f__product)) (h__chain : HasF Pg w K mg base CX0 (k + 6) "_chain" ["parsing", "operators", "operand"] (spD K Θ (W_chain CP f__product (Rd .pro) opsTot n))) :
    HasF Pg w K mg base CX0 (k + 7) "_total" ["parsing"] (spD K Θ (W_rel CP (Rd .tot) n)) := by
  have sc := sc_tot
  refine A.okD sc (W_rel CP (Rd .tot) n) (fun ds h R ⟨_, _, _, _, _, _, _, e, _⟩ => by rw [e]; rfl) fun f cdv A outer s' H E hr => ?_
  refine ⟨_, (pss_one (ps_ret (h__chain.call (hr.mono (by first | decide | omega)) rfl pass0 (pa_cons (pv 0) (pa_cons (pe_tup (pa_cons pe_str (pa_cons pe_str (pa_cons pe_str pa_nil)))) (pa_cons (pe_glob (v := .ref f__product) rfl gf__product rfl) pa_nil)))))), ?_⟩
  try dsimp only [cxOf]
  rintro ds h R ⟨ob, m, us, u, v, d, t, rfl, p, d1, d2, x, r⟩
  cases x with
  | tot a b =>
    k_places
    refine ve_cls ?_
    k_places
    exact ⟨ob, m, us, u, _, v, d, _, t, rfl, p, d1, d2, a, b.chn, r⟩
abbrev st_mem : Stmt := (topS 55)
theorem sc_mem : FnScope ["parsing", "operand", "negated", "tree"] ["parsing", "operand"] (defScope st_mem) := ⟨rfl, rfl, rfl, by decide +kernel, rfl, by decide +kernel, by decide +kernel⟩
def W_mem (C : Addr) (n : Nat) : Spc := fun ds h R => ∃ (ob m : Nat) (us u v : List Tok') (d : Nat) (t0 t : P), ds = [.own ob, .p t0] ∧ PsU C h ob m us u d ∧ us.length ≤ 1000 ∧ d ≤ 12 ∧ 12 < d + (n + 1) ∧ RdI d t0 u t v ∧ R (.p t) (h.set ob (stO' C m us v d))
theorem ok_mem {k n : Nat} {f__expression : Addr} (A : DefAt K mg "_membership" st_mem ["parsing", "operand"]) (gf__expression : mg "_expression" = some (.ref f__expression)) (h__skip : HasF Pg w K mg base CX0 2 "_skip" ["parsing", "word"] (spD K Θ (W_skip CP))) (h__need : HasF Pg w K mg base CX0 3 "_need" ["parsing", "word"] (spD K Θ (W_need CP)))
    (h__go_in : HasF Pg w K mg base CX0 4 "_go_in" ["parsing", "word"] (spD K Θ (W_goin CP))) (h__go_out : HasF Pg w K mg base CX0 4 "_go_out" ["parsing", "word"] (spD K Θ (W_goout CP))) (h__sees : HasF Pg w K mg base CX0 1 "_sees" ["parsing", "word"] (spD K Θ (W_sees CP)))
    (h__query : HasF Pg w K mg base CX0 1 "_query" ["parsing"] (spD K Θ W_no)) (h__list_of : HasF Pg w K mg base CX0 (k + 1) "_list_of" ["parsing", "part"] (spD K Θ (W_lstof CP f__expression (Rd .ex) n))) (hk : 4 ≤ k) :
    HasF Pg w K mg base CX0 (k + 2) "_membership" ["parsing", "operand"] (spD K Θ (W_mem CP n)) := by
  have sc := sc_mem
  refine A.okD sc (W_mem CP n) (fun ds h R ⟨_, _, _, _, _, _, _, _, e, _⟩ => by rw [e]; rfl) fun f cdv A outer s' H E hr => ?_
  refine ⟨_, (pss_cons (ps_set (i := 2) sc.nd rfl (.inl rfl) (h__skip.call (hr.mono (by first | decide | omega)) rfl pass0 (pa_cons (pv 0) (pa_cons pe_str pa_nil))))
  (pss_cons (ps_expr (h__need.call (hr.mono (by first | decide | omega)) rfl pass0 (pa_cons (pv 0) (pa_cons pe_str pa_nil))))
  (pss_cons (ps_expr (h__go_in.call (hr.mono (by first | decide | omega)) rfl pass0 (pa_cons (pv 0) (pa_cons pe_str pa_nil))))
  (pss_cons (ps_if (pt_val (h__sees.call (hr.mono (by first | decide | omega)) rfl pass0 (pa_cons (pv 0) (pa_cons pe_str pa_nil)))) (pss_one (ps_set (i := 3) sc.nd rfl (.inl rfl) (pe_tup (pa_cons pe_str (pa_cons (pv 1) (pa_cons (h__query.call (hr.mono (by first | decide | omega)) rfl pass0 (pa_cons (pv 0) pa_nil)) (pa_cons (pv 2) pa_nil))))))) (pss_one (ps_set (i := 3) sc.nd rfl (.inl rfl) (pe_tup (pa_cons pe_str (pa_cons (pv 1) (pa_cons (h__list_of.call (hr.mono (by first | decide | omega)) rfl pass0 (pa_cons (pv 0) (pa_cons (pe_glob (v := .ref f__expression) rfl gf__expression rfl) pa_nil))) (pa_cons (pv 2) pa_nil))))))))
  (pss_cons (ps_expr (h__go_out.call (hr.mono (by first | decide | omega)) rfl pass0 (pa_cons (pv 0) (pa_cons pe_str pa_nil))))
  (pss_one (ps_ret (pv 3)))))))), ?_⟩
  try dsimp only [cxOf]
  rintro ds h R ⟨ob, m, us, u, v, d, t0, t, rfl, p, hl, d1, d2, x, r⟩
  cases x with
  | yes c0 c1 c2 hd c3 l c4 =>
    k_places
    refine skip_f p c0 ?_
    k_places
    refine need_u p c1 ?_
    have p1 := p.go p.tail d
    k_places
    refine goin_u p1 c2 hd ?_
    have p2 := p1.go p1.tail (d + 1)
    k_places
    refine sees_u p2 ?_
    rw [c3]
    k_places
    refine ve_cls ?_
    k_places
    refine ⟨ob, m, us, _, _, d + 1, _, rfl, p2, hl, by omega, by omega, l.lst, ?_⟩
    have p3 := p2.go (l.suf.trans p2.suf) (d + 1)
    k_places
    refine goout_u p3 c4 ?_
    rw [PsU.put, PsU.put, PsU.put]
    k_places
    exact r
  | no c0 c1 c2 hd c3 l c4 =>
    k_places
    refine skip_t p c0 ?_
    have p0 := p.go p.tail d
    k_places
    refine need_u p0 c1 ?_
    have p1 := p0.go p0.tail d
    k_places
    refine goin_u p1 c2 hd ?_
    have p2 := p1.go p1.tail (d + 1)
    k_places
    refine sees_u p2 ?_
    rw [c3]
    k_places
    refine ve_cls ?_
    k_places
    refine ⟨ob, m, us, _, _, d + 1, _, rfl, p2, hl, by omega, by omega, l.lst, ?_⟩
    have p3 := p2.go (l.suf.trans p2.suf) (d + 1)
    k_places
    refine goout_u p3 c4 ?_
    rw [PsU.put, PsU.put, PsU.put, PsU.put]
    k_places
    exact r
abbrev st_cnj : Stmt := (topS 51)
theorem sc_cnj : FnScope ["parsing"] ["parsing"] (defScope st_cnj) := ⟨rfl, rfl, rfl, by decide +kernel, rfl, by decide +kernel, by decide +kernel⟩
theorem ok_cnj {k n : Nat} {f__negation : Addr} (A : DefAt K mg "_conjunction" st_cnj ["parsing"]) (gf__negation : mg "_negation" = some (.ref f__negation)) (h__chain : HasF Pg w K mg base CX0 (k + 10) "_chain" ["parsing", "operators", "operand"] (spD K Θ (W_chain CP f__negation (Rd .neg) opsAnd n))) :
    HasF Pg w K mg base CX0 (k + 11) "_conjunction" ["parsing"] (spD K Θ (W_rel CP (Rd .cnj) n)) := by
  have sc := sc_cnj
  refine A.okD sc (W_rel CP (Rd .cnj) n) (fun ds h R ⟨_, _, _, _, _, _, _, e, _⟩ => by rw [e]; rfl) fun f cdv A outer s' H E hr => ?_
  refine ⟨_, (pss_one (ps_ret (h__chain.call (hr.mono (by first | decide | omega)) rfl pass0 (pa_cons (pv 0) (pa_cons (pe_tup (pa_cons pe_str pa_nil)) (pa_cons (pe_glob (v := .ref f__negation) rfl gf__negation rfl) pa_nil)))))), ?_⟩
  try dsimp only [cxOf]
  rintro ds h R ⟨ob, m, us, u, v, d, t, rfl, p, d1, d2, x, r⟩
  cases x with
  | cnj a b =>
    k_places
    refine ve_cls ?_
    k_places
    exact ⟨ob, m, us, u, _, v, d, _, t, rfl, p, d1, d2, a, b.chn, r⟩
abbrev st_expr : Stmt := (topS 49)
theorem sc_expr : FnScope ["parsing"] ["parsing"] (defScope st_expr) := ⟨rfl, rfl, rfl, by decide +kernel, rfl, by decide +kernel, by decide +kernel⟩
theorem ok_expr {k n : Nat} {f__conjunction : Addr} (A : DefAt K mg "_expression" st_expr ["parsing"]) (gf__conjunction : mg "_conjunction" = some (.ref f__conjunction)) (h__chain : HasF Pg w K mg base CX0 (k + 12) "_chain" ["parsing", "operators", "operand"] (spD K Θ (W_chain CP f__conjunction (Rd .cnj) opsOr n))) :
    HasF Pg w K mg base CX0 (k + 13) "_expression" ["parsing"] (spD K Θ (W_rel CP (Rd .ex) n)) := by
  have sc := sc_expr
  refine A.okD sc (W_rel CP (Rd .ex) n) (fun ds h R ⟨_, _, _, _, _, _, _, e, _⟩ => by rw [e]; rfl) fun f cdv A outer s' H E hr => ?_
  refine ⟨_, (pss_one (ps_ret (h__chain.call (hr.mono (by first | decide | omega)) rfl pass0 (pa_cons (pv 0) (pa_cons (pe_tup (pa_cons pe_str pa_nil)) (pa_cons (pe_glob (v := .ref f__conjunction) rfl gf__conjunction rfl) pa_nil)))))), ?_⟩
  try dsimp only [cxOf]
  rintro ds h R ⟨ob, m, us, u, v, d, t, rfl, p, d1, d2, x, r⟩
  cases x with
  | ex a b =>
    k_places
    refine ve_cls ?_
    k_places
    exact ⟨ob, m, us, u, _, v, d, _, t, rfl, p, d1, d2, a, b.chn, r⟩
abbrev st_neg : Stmt := (topS 53)
theorem sc_neg : FnScope ["parsing"] ["parsing"] (defScope st_neg) := ⟨rfl, rfl, rfl, by decide +kernel, rfl, by decide +kernel, by decide +kernel⟩
theorem ok_neg {k n : Nat} {f__negation : Addr} (A : DefAt K mg "_negation" st_neg ["parsing"]) (gf__negation : mg "_negation" = some (.ref f__negation)) (h__sees : HasF Pg w K mg base CX0 1 "_sees" ["parsing", "word"] (spD K Θ (W_sees CP)))
    (h__prefixed : HasF Pg w K mg base CX0 (k + 1) "_prefixed" ["parsing", "sign", "word", "operand"] (spD K Θ (W_pref CP f__negation (Rd .neg) n))) (h__comparison : HasF Pg w K mg base CX0 (k + 8) "_comparison" ["parsing"] (spD K Θ (W_rel CP (Rd .cmp) (n + 1)))) :
    HasF Pg w K mg base CX0 (k + 9) "_negation" ["parsing"] (spD K Θ (W_rel CP (Rd .neg) (n + 1))) := by
  have sc := sc_neg
  refine A.okD sc (W_rel CP (Rd .neg) (n + 1)) (fun ds h R ⟨_, _, _, _, _, _, _, e, _⟩ => by rw [e]; rfl) fun f cdv A outer s' H E hr => ?_
  refine ⟨_, (pss_cons (ps_if (pt_val (h__sees.call (hr.mono (by first | decide | omega)) rfl pass0 (pa_cons (pv 0) (pa_cons pe_str pa_nil)))) (pss_one (ps_ret (h__prefixed.call (hr.mono (by first | decide | omega)) rfl pass0 (pa_cons (pv 0) (pa_cons pe_str (pa_cons pe_str (pa_cons (pe_glob (v := .ref f__negation) rfl gf__negation rfl) pa_nil))))))) pss_nil)
  (pss_one (ps_ret (h__comparison.call (hr.mono (by first | decide | omega)) rfl pass0 (pa_cons (pv 0) pa_nil))))), ?_⟩
  try dsimp only [cxOf]
  rintro ds h R ⟨ob, m, us, u, v, d, t, rfl, p, d1, d2, x, r⟩
  cases x with
  | notP c hd x =>
    k_places
    refine sees_u p ?_
    rw [c]
    k_places
    refine ve_cls ?_
    k_places
    exact ⟨ob, m, us, _, v, d, _, _, _, _, rfl, p, c, hd, d2, x, r⟩
  | notN c x =>
    k_places
    refine sees_u p ?_
    rw [c]
    k_places
    exact ⟨ob, m, us, _, v, d, t, rfl, p, d1, d2, x, r⟩
end
end Law

namespace Law
open PySem PySem.Spec PyProof.Rows L2 Kb
-- the steps that are tried: k_clsL a side condition; k_subL one step; k_places steps as long as one fits
section
variable {Pg : Program} {w : World} {K : PySem.W.Frag} {Θ : Tbs} {mg : Str → Option Value} {base : Heap} {CP : Addr}
abbrev st_cmp : Stmt := (topS 54)
theorem sc_cmp : FnScope ["parsing", "tree", "operator", "negated"] ["parsing"] (defScope st_cmp) := ⟨rfl, rfl, rfl, by decide +kernel, rfl, by decide +kernel, by decide +kernel⟩
theorem ok_cmp {k n : Nat} {c_COMPARISONS : Addr} (A : DefAt K mg "_comparison" st_cmp ["parsing"]) (g_COMPARISONS : mg "COMPARISONS" = some (.ref c_COMPARISONS)) (kt : KTup K c_COMPARISONS (opsCmp.map V.str))
    (h__total : HasF Pg w K mg base CX0 (k + 7) "_total" ["parsing"] (spD K Θ (W_rel CP (Rd .tot) (n + 1)))) (h__skip_one : HasF Pg w K mg base CX0 3 "_skip_one" ["parsing", "words"] (spD K Θ (W_sk1K (K := K) CP opsCmp)))
    (h__skip : HasF Pg w K mg base CX0 2 "_skip" ["parsing", "word"] (spD K Θ (W_skip CP))) (h__need : HasF Pg w K mg base CX0 3 "_need" ["parsing", "word"] (spD K Θ (W_need CP))) (h__sees : HasF Pg w K mg base CX0 1 "_sees" ["parsing", "word"] (spD K Θ (W_sees CP)))
    (h__membership : HasF Pg w K mg base CX0 (k + 2) "_membership" ["parsing", "operand"] (spD K Θ (W_mem CP n))) : HasF Pg w K mg base CX0 (k + 8) "_comparison" ["parsing"] (spD K Θ (W_rel CP (Rd .cmp) (n + 1))) := by
  have sc := sc_cmp
  refine A.okD sc (W_rel CP (Rd .cmp) (n + 1)) (fun ds h R ⟨_, _, _, _, _, _, _, e, _⟩ => by rw [e]; rfl) fun f cdv A outer s' H E hr => ?_
  refine ⟨_, (pss_cons (ps_set (i := 1) sc.nd rfl (.inl rfl) (h__total.call (hr.mono (by first | decide | omega)) rfl pass0 (pa_cons (pv 0) pa_nil)))
  (pss_one (ps_while PassesOwn.never (pt_truth pe_bl (by intro _; rfl))
  (pss_cons (ps_set (i := 2) sc.nd rfl (.inl rfl) (h__skip_one.call (hr.mono (by first | decide | omega)) rfl pass0 (pa_cons (pv 0) (pa_cons (pe_glob (v := .ref c_COMPARISONS) rfl g_COMPARISONS rfl) pa_nil))))
  (pss_one (ps_if (pt_cmpR op_notN (pv 2) pe_non (nomark _)) (pss_one (ps_set (i := 1) sc.nd rfl (.inl rfl) (pe_tup (pa_cons pe_str (pa_cons (pv 2) (pa_cons (pv 1) (pa_cons (h__total.call (hr.mono (by first | decide | omega)) rfl pass0 (pa_cons (pv 0) pa_nil)) pa_nil))))))) (pss_one (ps_if (pt_val (h__skip.call (hr.mono (by first | decide | omega)) rfl pass0 (pa_cons (pv 0) (pa_cons pe_str pa_nil)))) (pss_cons (ps_set (i := 3) sc.nd rfl (.inl rfl) (h__skip.call (hr.mono (by first | decide | omega)) rfl pass0 (pa_cons (pv 0) (pa_cons pe_str pa_nil))))
  (pss_cons (ps_expr (h__need.call (hr.mono (by first | decide | omega)) rfl pass0 (pa_cons (pv 0) (pa_cons pe_str pa_nil))))
  (pss_one (ps_set (i := 1) sc.nd rfl (.inl rfl) (pe_tup (pa_cons pe_str (pa_cons (pv 1) (pa_cons (pv 3) pa_nil)))))))) (pss_one (ps_if (PW.pt (pw_or (pt_val (h__sees.call (hr.mono (by first | decide | omega)) rfl pass0 (pa_cons (pv 0) (pa_cons pe_str pa_nil)))) (pw_or1 (pt_val (h__sees.call (hr.mono (by first | decide | omega)) rfl pass0 (pa_cons (pv 0) (pa_cons pe_str pa_nil))))))) (pss_one (ps_set (i := 1) sc.nd rfl (.inl rfl) (h__membership.call (hr.mono (by first | decide | omega)) rfl pass0 (pa_cons (pv 0) (pa_cons (pv 1) pa_nil))))) (pss_one (ps_ret (pv 1))))))))))))), ?_⟩
  try dsimp only [cxOf]
  rintro ds h R ⟨ob, m, us, u, v, d, t, rfl, p, d1, d2, x, r⟩
  cases x with
  | @cmp _ _ t0 v0 _ _ a b =>
  k_subL
  k_places
  refine ⟨ob, m, us, u, v0, d, t0, rfl, p, d1, d2, a, ?_⟩
  have sf0 := a.suf.trans p.suf
  k_places
  refine vs_whileN (fun N env' h' => ∃ (t1 : P) (v1 : List Tok') (o2 o3 : Option D), env' = [some (.own ob), some (.p t1), o2, o3] ∧ h' = h.set ob (stO' CP m us v1 d) ∧ v1 <:+ us ∧ RdM d t1 v1 t v ∧ N = v1.length) ⟨t0, v0, none, none, rfl, rfl, sf0, b, rfl⟩ ?_
  rintro N env' h' ⟨t1, v1, o2, o3, rfl, rfl, sf, b, rfl⟩
  have p1 := p.go sf d
  cases b with
  | @op _ _ q v2 o t2 v3 _ _ c x b =>
    k_places
    refine ve_cls ?_
    k_places
    refine sk1K_t kt p1 c ?_
    have p2 := p1.go p1.tail d
    k_places
    refine ⟨ob, m, us, v2, v3, d, t2, rfl, p2, d1, d2, x, ?_⟩
    rw [PsU.put, PsU.put]
    have ln := x.suf.length_le
    k_places
    exact ⟨v3.length, by simp only [List.length_cons]; omega, _, v3, _, _, rfl, rfl, x.suf.trans p1.tail, b, rfl⟩
  | @isP _ _ q q1 q2 v2 _ _ c c1 c2 c3 b =>
    k_places
    refine ve_cls ?_
    k_places
    refine sk1K_f kt p1 c ?_
    k_places
    refine skip_t p1 c1 ?_
    have p2 := p1.go p1.tail d
    k_places
    refine skip_t p2 c2 ?_
    have p3 := p2.go p2.tail d
    k_places
    refine need_u p3 c3 ?_
    rw [PsU.put, PsU.put, PsU.put]
    k_places
    exact ⟨v2.length, by simp only [List.length_cons]; omega, _, v2, _, _, rfl, rfl, p3.tail, b, rfl⟩
  | @isN _ _ q q1 v2 _ _ c c1 c2 c3 b =>
    k_places
    refine ve_cls ?_
    k_places
    refine sk1K_f kt p1 c ?_
    k_places
    refine skip_t p1 c1 ?_
    have p2 := p1.go p1.tail d
    k_places
    refine skip_f p2 c2 ?_
    k_places
    refine need_u p2 c3 ?_
    rw [PsU.put, PsU.put]
    k_places
    exact ⟨v2.length, by simp only [List.length_cons]; omega, _, v2, _, _, rfl, rfl, p2.tail, b, rfl⟩
  | @inP _ _ q v2 t2 v3 _ _ c c1 c2 x b =>
    have ln := x.suf.length_le
    have ln2 : v3.length < (q :: v2).length := by
      cases x with
      | yes _ _ _ _ _ l _ => have := l.suf.length_le; simp only [List.length_cons] at *; omega
      | no _ _ _ _ _ l _ => have := l.suf.length_le; simp only [List.length_cons] at *; omega
    k_places
    refine ve_cls ?_
    k_places
    refine sk1K_f kt p1 c ?_
    k_places
    refine skip_f p1 c1 ?_
    k_places
    refine sees_u p1 ?_
    cases cn : seesQ q (Str.ofString "not") with
    | true =>
      k_places
      refine ⟨ob, m, us, _, v3, d, t1, t2, rfl, p1, p1.at_.le, d1, d2, x, ?_⟩
      rw [PsU.put]
      k_places
      exact ⟨v3.length, ln2, _, v3, _, _, rfl, rfl, x.suf.trans p1.suf, b, rfl⟩
    | false =>
      k_places
      refine sees_u p1 ?_
      have ci : seesQ q (Str.ofString "in") = true := c2.resolve_left (by rw [cn]; exact Bool.false_ne_true)
      rw [ci]
      k_places
      refine ⟨ob, m, us, _, v3, d, t1, t2, rfl, p1, p1.at_.le, d1, d2, x, ?_⟩
      rw [PsU.put]
      k_places
      exact ⟨v3.length, ln2, _, v3, _, _, rfl, rfl, x.suf.trans p1.suf, b, rfl⟩
  | @nil _ _ q v2 c c1 c2 c3 =>
    k_places
    refine ve_cls ?_
    k_places
    refine sk1K_f kt p1 c ?_
    k_places
    refine skip_f p1 c1 ?_
    k_places
    refine sees_u p1 ?_
    rw [c2]
    k_places
    refine sees_u p1 ?_
    rw [c3]
    k_places
    exact r
/-! ### all of them, by how deep they may still go -/
structure ParA (K : PySem.W.Frag) (mg : Str → Option Value) (CP c_COMPARISONS f__negative f__product f__expression f__negation f__conjunction : Addr) : Prop where
  T : ParC K mg CP
  kt : KTup K c_COMPARISONS (opsCmp.map V.str)
  g1 : mg "_negative" = some (.ref f__negative)
  g2 : mg "_product" = some (.ref f__product)
  g3 : mg "_expression" = some (.ref f__expression)
  g4 : mg "_negation" = some (.ref f__negation)
  g5 : mg "_conjunction" = some (.ref f__conjunction)
  g6 : mg "COMPARISONS" = some (.ref c_COMPARISONS)
  md : ∃ tk, mg "MOST_DEPTH" = some (.int 12 tk)
  a1 : DefAt K mg "_kind" st_kind ["parsing"]
  a2 : DefAt K mg "_take" st_take ["parsing", "kind"]
  a3 : DefAt K mg "_sees" st_sees ["parsing", "word"]
  a4 : DefAt K mg "_skip" st_skip ["parsing", "word"]
  a5 : DefAt K mg "_need" st_need ["parsing", "word"]
  a6 : DefAt K mg "_skip_one" st_sk1 ["parsing", "words"]
  a7 : DefAt K mg "_go_in" st_goin ["parsing", "word"]
  a8 : DefAt K mg "_go_out" st_goout ["parsing", "word"]
  a9 : DefAt K mg "_list_of" st_lstof ["parsing", "part"]
  b1 : DefAt K mg "_expression" st_expr ["parsing"]
  b2 : DefAt K mg "_chain" st_chain ["parsing", "operators", "operand"]
  b3 : DefAt K mg "_conjunction" st_cnj ["parsing"]
  b4 : DefAt K mg "_prefixed" st_pref ["parsing", "sign", "word", "operand"]
  b5 : DefAt K mg "_negation" st_neg ["parsing"]
  b6 : DefAt K mg "_comparison" st_cmp ["parsing"]
  b7 : DefAt K mg "_membership" st_mem ["parsing", "operand"]
  b8 : DefAt K mg "_total" st_tot ["parsing"]
  b9 : DefAt K mg "_product" st_pro ["parsing"]
  c1 : DefAt K mg "_negative" st_ngv ["parsing"]
  c2 : DefAt K mg "_primary" st_pri ["parsing"]
  c3 : DefAt K mg "_column" st_col ["parsing"]
  c4 : DefAt K mg "_parentheses" st_prn ["parsing"]
  mt : mg "tuple" = none
  n1 : DefAt K mg "_refuse" (topS 30) ["parsing"]
  n2 : DefAt K mg "_query" (topS 42) ["parsing"]
  n3 : DefAt K mg "_worded" (topS 62) ["parsing"]
theorem sc_refuse : FnScope ["parsing"] ["parsing"] (defScope (topS 30)) := ⟨rfl, rfl, rfl, by decide +kernel, rfl, by decide +kernel, by decide +kernel⟩
theorem sc_query0 : FnScope ["parsing", "tree", "operator"] ["parsing"] (defScope (topS 42)) := ⟨rfl, rfl, rfl, by decide +kernel, rfl, by decide +kernel, by decide +kernel⟩
theorem sc_worded0 : FnScope ["parsing", "word", "function"] ["parsing"] (defScope (topS 62)) := ⟨rfl, rfl, rfl, by decide +kernel, rfl, by decide +kernel, by decide +kernel⟩
/-- what is asked of expressions -/
structure Fam (Pg : Program) (w : World) (K : PySem.W.Frag) (mg : Str → Option Value) (base : Heap) (Θ : Tbs) (CP f__negative f__negation : Addr) (n : Nat) : Prop where
  ex : HasF Pg w K mg base CX0 (13 * n + 5) "_expression" ["parsing"] (spD K Θ (W_rel CP (Rd .ex) n))
  ng : FnAt Pg w K mg base CX0 (13 * n + 5) f__negative [Str.ofString "parsing"] (spD K Θ (W_rel CP (Rd .ngv) n))
  nt : FnAt Pg w K mg base CX0 (13 * n + 5) f__negation [Str.ofString "parsing"] (spD K Θ (W_rel CP (Rd .neg) n))
theorem fam {c_COMPARISONS f__negative f__product f__expression f__negation f__conjunction : Addr} (Z : ParA K mg CP c_COMPARISONS f__negative f__product f__expression f__negation f__conjunction) : ∀ n, Fam Pg w K mg base Θ CP f__negative f__negation n
  | 0 => by
    have no : ∀ (X : Rel') ds h R, ¬ W_rel CP X 0 ds h R := fun X ds h R ⟨_, _, _, _, _, _, _, _, _, d1, d2, _⟩ => by omega
    exact ⟨.never Z.b1 sc_expr (no _), (HasF.never (k := 4) Z.c1 sc_ngv (no _)).at_ Z.g1, (HasF.never (k := 4) Z.b5 sc_neg (no _)).at_ Z.g4⟩
  | n + 1 => by
    have F := fam Z n
    generalize ek : 13 * n + 5 = k at *
    have Fe := F.ex; have Fg := F.ng; have Ft := F.nt
    rw [ek] at Fe Fg Ft
    have k4 : 4 ≤ k := by omega
    obtain ⟨tk, md⟩ := Z.md
    have h1 := ok_kind (Pg := Pg) (w := w) (base := base) (Θ := Θ) Z.a1 Z.T
    have hr : HasF Pg w K mg base CX0 1 "_refuse" ["parsing"] (spD K Θ W_no) := .never Z.n1 sc_refuse fun _ _ _ h => h
    have hq : HasF Pg w K mg base CX0 1 "_query" ["parsing"] (spD K Θ W_no) := .never Z.n2 sc_query0 fun _ _ _ h => h
    have hw : HasF Pg w K mg base CX0 1 "_worded" ["parsing"] (spD K Θ W_no) := .never Z.n3 sc_worded0 fun _ _ _ h => h
    have h2 := ok_take (Pg := Pg) (w := w) (base := base) (Θ := Θ) Z.a2 Z.T h1 hr
    have h3 := ok_sees (Pg := Pg) (w := w) (base := base) (Θ := Θ) Z.a3 Z.T
    have h4 := ok_skip (Pg := Pg) (w := w) (base := base) (Θ := Θ) Z.a4 Z.T h3
    have h5 := ok_need (Pg := Pg) (w := w) (base := base) (Θ := Θ) Z.a5 h4 hr
    have h6 := ok_sk1 (Pg := Pg) (w := w) (base := base) (Θ := Θ) Z.a6 h4
    have h6K := ok_sk1K (Pg := Pg) (w := w) (base := base) (Θ := Θ) (ws := opsCmp) Z.a6 h4
    have h7 := ok_goin (Pg := Pg) (w := w) (base := base) (Θ := Θ) Z.a7 Z.T md h5 hr
    have h8 := ok_goout (Pg := Pg) (w := w) (base := base) (Θ := Θ) Z.a8 Z.T h5
    have col := ok_col (Pg := Pg) (w := w) (base := base) (Θ := Θ) Z.c3 h2 h4
    have prn := ok_paren (Pg := Pg) (w := w) (base := base) (Θ := Θ) Z.c4 h7 h8 h3 hq Fe k4
    have pri := ok_pri (Pg := Pg) (w := w) (base := base) (Θ := Θ) Z.c2 h1 h2 col h3 prn hw k4
    have pfg := ok_pref (Pg := Pg) (w := w) (base := base) (Θ := Θ) (rd_sufs .ngv) Z.b4 Z.T Fg h7 k4
    have ngv := ok_ngv (Pg := Pg) (w := w) (base := base) (Θ := Θ) Z.c1 Z.g1 h3 pfg pri
    have chp := ok_chain (Pg := Pg) (w := w) (base := base) (Θ := Θ) (ops := opsPro) (rd_sufs .ngv) Z.b2 (ngv.at_ Z.g1) h6 (by omega)
    have pro := ok_pro (Pg := Pg) (w := w) (base := base) (Θ := Θ) Z.b9 Z.g1 chp
    have cht := ok_chain (Pg := Pg) (w := w) (base := base) (Θ := Θ) (ops := opsTot) (rd_sufs .pro) Z.b2 (pro.at_ Z.g2) h6 (by omega)
    have tot := ok_tot (Pg := Pg) (w := w) (base := base) (Θ := Θ) Z.b8 Z.g2 cht
    have lst := ok_lstof (Pg := Pg) (w := w) (base := base) (Θ := Θ) (rd_sufs .ex) Z.a9 Z.mt (Fe.at_ Z.g3) h4 (by omega)
    have mem := ok_mem (Pg := Pg) (w := w) (base := base) (Θ := Θ) Z.b7 Z.g3 h4 h5 h7 h8 h3 hq lst k4
    have cmp := ok_cmp (Pg := Pg) (w := w) (base := base) (Θ := Θ) Z.b6 Z.g6 Z.kt tot h6K h4 h5 h3 mem
    have pft := ok_pref (Pg := Pg) (w := w) (base := base) (Θ := Θ) (rd_sufs .neg) Z.b4 Z.T Ft h7 k4
    have neg := ok_neg (Pg := Pg) (w := w) (base := base) (Θ := Θ) Z.b5 Z.g4 h3 pft cmp
    have chc := ok_chain (Pg := Pg) (w := w) (base := base) (Θ := Θ) (ops := opsAnd) (rd_sufs .neg) Z.b2 (neg.at_ Z.g4) h6 (by omega)
    have cnj := ok_cnj (Pg := Pg) (w := w) (base := base) (Θ := Θ) Z.b3 Z.g4 chc
    have che := ok_chain (Pg := Pg) (w := w) (base := base) (Θ := Θ) (ops := opsOr) (rd_sufs .cnj) Z.b2 (cnj.at_ Z.g5) h6 (by omega)
    have exp := ok_expr (Pg := Pg) (w := w) (base := base) (Θ := Θ) Z.b1 Z.g5 che
    have e2 : 13 * (n + 1) + 5 = k + 13 := by omega
    refine ⟨?_, ?_, ?_⟩
    · rw [e2]; exact exp
    · rw [e2]; exact (ngv.at_ Z.g1).mono (by omega)
    · rw [e2]; exact (neg.at_ Z.g4).mono (by omega)
end
end Law

namespace Law
open PySem PySem.Spec PyProof.Rows L2 Kb TL
-- the steps that are tried: k_clsL a side condition; k_subL one step; k_places steps as long as one fits
section
variable {Pg : Program} {w : World} {K : PySem.W.Frag} {Θ : Tbs} {mg : Str → Option Value} {base : Heap} {CP : Addr}
/-- an item without a name -/
inductive ItmR : Rel'
  | mk {d u t q v} : Rd .ex d u t (q :: v) → seesQ q (Str.ofString "as") = false → ItmR d u (.tup [t, .non]) (q :: v)
theorem itm_sufs : Sufs ItmR := fun d u t v h => by cases h with | mk a _ => exact a.suf
abbrev st_itm : Stmt := (topS 46)
theorem sc_itm : FnScope ["parsing", "tree"] ["parsing"] (defScope st_itm) := ⟨rfl, rfl, rfl, by decide +kernel, rfl, by decide +kernel, by decide +kernel⟩
theorem ok_itm {k n : Nat} (A : DefAt K mg "_item" st_itm ["parsing"]) (h__take : HasF Pg w K mg base CX0 2 "_take" ["parsing", "kind"] (spD K Θ (W_take CP))) (h__skip : HasF Pg w K mg base CX0 2 "_skip" ["parsing", "word"] (spD K Θ (W_skip CP)))
    (h__expression : HasF Pg w K mg base CX0 k "_expression" ["parsing"] (spD K Θ (W_rel CP (Rd .ex) n))) (hk : 4 ≤ k) : HasF Pg w K mg base CX0 (k + 1) "_item" ["parsing"] (spD K Θ (W_rel CP ItmR n)) := by
  have sc := sc_itm
  refine A.okD sc (W_rel CP ItmR n) (fun ds h R ⟨_, _, _, _, _, _, _, e, _⟩ => by rw [e]; rfl) fun f cdv A outer s' H E hr => ?_
  refine ⟨_, (pss_cons (ps_set (i := 1) sc.nd rfl (.inl rfl) (h__expression.call (hr.mono (by first | decide | omega)) rfl pass0 (pa_cons (pv 0) pa_nil)))
  (pss_one (ps_ret (pe_tup (pa_cons (pv 1) (pa_cons (pe_ifExp (pt_val (h__skip.call (hr.mono (by first | decide | omega)) rfl pass0 (pa_cons (pv 0) (pa_cons pe_str pa_nil)))) (h__take.call (hr.mono (by first | decide | omega)) rfl pass0 (pa_cons (pv 0) (pa_cons pe_str pa_nil))) pe_non) pa_nil)))))), ?_⟩
  try dsimp only [cxOf]
  rintro ds h R ⟨ob, m, us, u, v, d, t, rfl, p, d1, d2, x, r⟩
  cases x with
  | @mk _ _ t1 q v1 a c =>
  k_places
  refine ⟨ob, m, us, u, q :: v1, d, t1, rfl, p, d1, d2, a, ?_⟩
  have p1 := p.go (a.suf.trans p.suf) d
  k_places
  refine skip_f p1 c ?_
  k_places
  exact r
/-- the words behind the list of a select that are not there -/
structure NoMore (q : Tok') : Prop where
  n1 : seesQ q (Str.ofString "from") = false
  n2 : seesQ q (Str.ofString "where") = false
  n3 : seesQ q (Str.ofString "group") = false
  n4 : seesQ q (Str.ofString "having") = false
inductive SelR : Rel'
  | mk {d q0 q1 u ts q v} : seesQ q0 (Str.ofString "select") = true → seesQ q1 (Str.ofString "distinct") = false → seesQ q1 (Str.ofString "*") = false → LstR ItmR d (q1 :: u) ts (q :: v) → NoMore q →
      SelR d (q0 :: q1 :: u) (.tup [.str (Str.ofString "select"), .bl false, .tup ts, .non, .non, .non, .non]) (q :: v)
theorem sel_sufs : Sufs SelR := fun d u t v h => by cases h with | mk _ _ _ l _ => exact (l.suf itm_sufs).trans (List.suffix_cons _ _)
abbrev st_sel : Stmt := (topS 45)
theorem sc_sel : FnScope ["parsing", "distinct", "items", "sources", "where", "group", "having"] ["parsing"] (defScope st_sel) := ⟨rfl, rfl, rfl, by decide +kernel, rfl, by decide +kernel, by decide +kernel⟩
theorem ok_sel {k n : Nat} {f__item f__expression : Addr} (A : DefAt K mg "_select" st_sel ["parsing"]) (gf__item : mg "_item" = some (.ref f__item)) (gf__expression : mg "_expression" = some (.ref f__expression))
    (h__need : HasF Pg w K mg base CX0 3 "_need" ["parsing", "word"] (spD K Θ (W_need CP))) (h__skip : HasF Pg w K mg base CX0 2 "_skip" ["parsing", "word"] (spD K Θ (W_skip CP))) (h__sources : HasF Pg w K mg base CX0 1 "_sources" ["parsing"] (spD K Θ W_no))
    (h__expression : HasF Pg w K mg base CX0 k "_expression" ["parsing"] (spD K Θ (W_rel CP (Rd .ex) n))) (h__list_of : HasF Pg w K mg base CX0 (k + 2) "_list_of" ["parsing", "part"] (spD K Θ (W_lstof CP f__item ItmR n))) (hk : 4 ≤ k) : HasF Pg w K mg base CX0 (k + 3) "_select" ["parsing"] (spD K Θ (W_rel CP SelR n)) := by
  have sc := sc_sel
  refine A.okD sc (W_rel CP SelR n) (fun ds h R ⟨_, _, _, _, _, _, _, e, _⟩ => by rw [e]; rfl) fun f cdv A outer s' H E hr => ?_
  refine ⟨_, (pss_cons (ps_expr (h__need.call (hr.mono (by first | decide | omega)) rfl pass0 (pa_cons (pv 0) (pa_cons pe_str pa_nil))))
  (pss_cons (ps_set (i := 1) sc.nd rfl (.inl rfl) (h__skip.call (hr.mono (by first | decide | omega)) rfl pass0 (pa_cons (pv 0) (pa_cons pe_str pa_nil))))
  (pss_cons (ps_set (i := 2) sc.nd rfl (.inl rfl) (pe_ifExp (pt_val (h__skip.call (hr.mono (by first | decide | omega)) rfl pass0 (pa_cons (pv 0) (pa_cons pe_str pa_nil)))) pe_non (h__list_of.call (hr.mono (by first | decide | omega)) rfl pass0 (pa_cons (pv 0) (pa_cons (pe_glob (v := .ref f__item) rfl gf__item rfl) pa_nil)))))
  (pss_cons (ps_set (i := 3) sc.nd rfl (.inl rfl) (pe_ifExp (pt_val (h__skip.call (hr.mono (by first | decide | omega)) rfl pass0 (pa_cons (pv 0) (pa_cons pe_str pa_nil)))) (h__sources.call (hr.mono (by first | decide | omega)) rfl pass0 (pa_cons (pv 0) pa_nil)) pe_non))
  (pss_cons (ps_set (i := 4) sc.nd rfl (.inl rfl) (pe_ifExp (pt_val (h__skip.call (hr.mono (by first | decide | omega)) rfl pass0 (pa_cons (pv 0) (pa_cons pe_str pa_nil)))) (h__expression.call (hr.mono (by first | decide | omega)) rfl pass0 (pa_cons (pv 0) pa_nil)) pe_non))
  (pss_cons (ps_set (i := 5) sc.nd rfl (.inl rfl) pe_non)
  (pss_cons (ps_if (pt_val (h__skip.call (hr.mono (by first | decide | omega)) rfl pass0 (pa_cons (pv 0) (pa_cons pe_str pa_nil)))) (pss_cons (ps_expr (h__need.call (hr.mono (by first | decide | omega)) rfl pass0 (pa_cons (pv 0) (pa_cons pe_str pa_nil))))
  (pss_one (ps_set (i := 5) sc.nd rfl (.inl rfl) (h__list_of.call (hr.mono (by first | decide | omega)) rfl pass0 (pa_cons (pv 0) (pa_cons (pe_glob (v := .ref f__expression) rfl gf__expression rfl) pa_nil)))))) pss_nil)
  (pss_cons (ps_set (i := 6) sc.nd rfl (.inl rfl) (pe_ifExp (pt_val (h__skip.call (hr.mono (by first | decide | omega)) rfl pass0 (pa_cons (pv 0) (pa_cons pe_str pa_nil)))) (h__expression.call (hr.mono (by first | decide | omega)) rfl pass0 (pa_cons (pv 0) pa_nil)) pe_non))
  (pss_one (ps_ret (pe_tup (pa_cons pe_str (pa_cons (pv 1) (pa_cons (pv 2) (pa_cons (pv 3) (pa_cons (pv 4) (pa_cons (pv 5) (pa_cons (pv 6) pa_nil)))))))))))))))))), ?_⟩
  try dsimp only [cxOf]
  rintro ds h R ⟨ob, m, us, u, v, d, t, rfl, p, d1, d2, x, r⟩
  cases x with
  | @mk _ q0 q1 u1 ts q v1 c0 c1 c2 l nm =>
  k_places
  refine need_u p c0 ?_
  have p1 := p.go p.tail d
  k_places
  refine skip_f p1 c1 ?_
  k_places
  refine skip_f p1 c2 ?_
  k_places
  refine ve_cls ?_
  k_places
  refine ⟨ob, m, us, _, _, d, ts, rfl, p1, p1.at_.le, d1, d2, l, ?_⟩
  rw [PsU.put]
  have p2 := p.go ((l.suf itm_sufs).trans p.tail) d
  k_places
  refine skip_f p2 nm.n1 ?_
  k_places
  refine skip_f p2 nm.n2 ?_
  k_places
  refine skip_f p2 nm.n3 ?_
  k_places
  refine skip_f p2 nm.n4 ?_
  k_places
  exact r
abbrev st_prt : Stmt := (topS 43)
theorem sc_prt : FnScope ["parsing"] ["parsing"] (defScope st_prt) := ⟨rfl, rfl, rfl, by decide +kernel, rfl, by decide +kernel, by decide +kernel⟩
theorem ok_prt {k n : Nat} (A : DefAt K mg "_part" st_prt ["parsing"]) (h__sees : HasF Pg w K mg base CX0 1 "_sees" ["parsing", "word"] (spD K Θ (W_sees CP))) (h__query_in_parentheses : HasF Pg w K mg base CX0 1 "_query_in_parentheses" ["parsing"] (spD K Θ W_no))
    (h__select : HasF Pg w K mg base CX0 (k + 3) "_select" ["parsing"] (spD K Θ (W_rel CP SelR n))) : HasF Pg w K mg base CX0 (k + 4) "_part" ["parsing"] (spD K Θ (W_rel CP SelR n)) := by
  have sc := sc_prt
  refine A.okD sc (W_rel CP SelR n) (fun ds h R ⟨_, _, _, _, _, _, _, e, _⟩ => by rw [e]; rfl) fun f cdv A outer s' H E hr => ?_
  refine ⟨_, (pss_cons (ps_if (pt_val (h__sees.call (hr.mono (by first | decide | omega)) rfl pass0 (pa_cons (pv 0) (pa_cons pe_str pa_nil)))) (pss_one (ps_ret (h__query_in_parentheses.call (hr.mono (by first | decide | omega)) rfl pass0 (pa_cons (pv 0) pa_nil)))) pss_nil)
  (pss_one (ps_ret (h__select.call (hr.mono (by first | decide | omega)) rfl pass0 (pa_cons (pv 0) pa_nil))))), ?_⟩
  try dsimp only [cxOf]
  rintro ds h R ⟨ob, m, us, u, v, d, t, rfl, p, d1, d2, x, r⟩
  have x' := x
  cases x with
  | @mk _ q0 q1 u1 ts q v1 c0 c1 c2 l nm =>
  have cp : seesQ q0 (Str.ofString "(") = false := by
    unfold seesQ at c0 ⊢
    rw [Bool.and_eq_true] at c0
    obtain ⟨a, b⟩ := c0
    rw [a, Bool.true_and]
    cases e : q0.2 <;> rw [e] at b <;> first | (cases b; done) | skip
    rename_i s
    have es : s = Str.ofString "select" := of_decide_eq_true b
    rw [es]
    decide +kernel
  k_places
  refine sees_u p ?_
  rw [cp]
  k_places
  exact ⟨ob, m, us, _, _, d, _, rfl, p, d1, d2, x', r⟩
abbrev st_qry : Stmt := (topS 42)
theorem sc_qry : FnScope ["parsing", "tree", "operator"] ["parsing"] (defScope st_qry) := ⟨rfl, rfl, rfl, by decide +kernel, rfl, by decide +kernel, by decide +kernel⟩
def opsSet : List Str := [Str.ofString "union", Str.ofString "except", Str.ofString "intersect"]
inductive QryR : Rel'
  | mk {d u t q v} : SelR d u t (q :: v) → opsSet.find? (seesQ q) = none → QryR d u t (q :: v)
theorem ok_qry {k n : Nat} (A : DefAt K mg "_query" st_qry ["parsing"]) (h__part : HasF Pg w K mg base CX0 (k + 4) "_part" ["parsing"] (spD K Θ (W_rel CP SelR n))) (h__skip_one : HasF Pg w K mg base CX0 3 "_skip_one" ["parsing", "words"] (spD K Θ (W_sk1 CP)))
    (h__skip : HasF Pg w K mg base CX0 2 "_skip" ["parsing", "word"] (spD K Θ (W_skip CP))) : HasF Pg w K mg base CX0 (k + 5) "_query" ["parsing"] (spD K Θ (W_rel CP QryR n)) := by
  have sc := sc_qry
  refine A.okD sc (W_rel CP QryR n) (fun ds h R ⟨_, _, _, _, _, _, _, e, _⟩ => by rw [e]; rfl) fun f cdv A outer s' H E hr => ?_
  refine ⟨_, (pss_cons (ps_set (i := 1) sc.nd rfl (.inl rfl) (h__part.call (hr.mono (by first | decide | omega)) rfl pass0 (pa_cons (pv 0) pa_nil)))
  (pss_cons (ps_set (i := 2) sc.nd rfl (.inl rfl) (h__skip_one.call (hr.mono (by first | decide | omega)) rfl pass0 (pa_cons (pv 0) (pa_cons (pe_tup (pa_cons pe_str (pa_cons pe_str (pa_cons pe_str pa_nil)))) pa_nil))))
  (pss_cons (ps_while PassesOwn.never (pt_cmpR op_notN (pv 2) pe_non (nomark _))
  (pss_cons (ps_if (PW.pt (pw_and (pt_cmpR (op_eqUK (K := K) (by rfl) hr.units) (pv 2) pe_str (nomark _)) (pw_and1 (pt_val (h__skip.call (hr.mono (by first | decide | omega)) rfl pass0 (pa_cons (pv 0) (pa_cons pe_str pa_nil))))))) (pss_one (ps_set (i := 2) sc.nd rfl (.inl rfl) pe_str)) pss_nil)
  (pss_cons (ps_set (i := 1) sc.nd rfl (.inl rfl) (pe_tup (pa_cons pe_str (pa_cons (pv 2) (pa_cons (pv 1) (pa_cons (h__part.call (hr.mono (by first | decide | omega)) rfl pass0 (pa_cons (pv 0) pa_nil)) pa_nil))))))
  (pss_one (ps_set (i := 2) sc.nd rfl (.inl rfl) (h__skip_one.call (hr.mono (by first | decide | omega)) rfl pass0 (pa_cons (pv 0) (pa_cons (pe_tup (pa_cons pe_str (pa_cons pe_str (pa_cons pe_str pa_nil)))) pa_nil))))))))
  (pss_one (ps_ret (pv 1)))))), ?_⟩
  try dsimp only [cxOf]
  rintro ds h R ⟨ob, m, us, u, v, d, t, rfl, p, d1, d2, x, r⟩
  cases x with
  | @mk _ _ _ q v1 x c =>
  k_places
  refine ⟨ob, m, us, _, _, d, _, rfl, p, d1, d2, x, ?_⟩
  have p1 := p.go ((sel_sufs _ _ _ _ x).trans p.suf) d
  k_places
  refine sk1_f (ws := opsSet) p1 c ?_
  k_places
  refine vs_whileN (fun N env' h' => env' = [some (.own ob), some (.p t), some dN] ∧ h' = h.set ob (stO' CP m us (q :: v1) d)) (n0 := 0) ⟨rfl, rfl⟩ ?_
  rintro N env' h' ⟨rfl, rfl⟩
  k_places
  exact r
abbrev st_qst : Stmt := (topS 40)
theorem sc_qst : FnScope ["parsing", "query", "order", "limit"] ["parsing"] (defScope st_qst) := ⟨rfl, rfl, rfl, by decide +kernel, rfl, by decide +kernel, by decide +kernel⟩
inductive QstR : Rel'
  | mk {d u t q v} : QryR d u t (q :: v) → seesQ q (Str.ofString "order") = false → seesQ q (Str.ofString "limit") = false → QstR d u (.tup [.str (Str.ofString "question"), t, .tup [], .non]) (q :: v)
theorem ok_qst {k n : Nat} {f__order_key : Addr} (A : DefAt K mg "_question" st_qst ["parsing"]) (gf__order_key : mg "_order_key" = some (.ref f__order_key)) (h__query : HasF Pg w K mg base CX0 (k + 5) "_query" ["parsing"] (spD K Θ (W_rel CP QryR n))) (h__skip : HasF Pg w K mg base CX0 2 "_skip" ["parsing", "word"] (spD K Θ (W_skip CP)))
    (h__need : HasF Pg w K mg base CX0 3 "_need" ["parsing", "word"] (spD K Θ (W_need CP))) (h__take : HasF Pg w K mg base CX0 2 "_take" ["parsing", "kind"] (spD K Θ (W_take CP))) (h__list_of : HasF Pg w K mg base CX0 1 "_list_of" ["parsing", "part"] (spD K Θ W_no)) : HasF Pg w K mg base CX0 (k + 6) "_question" ["parsing"] (spD K Θ (W_rel CP QstR n)) := by
  have sc := sc_qst
  refine A.okD sc (W_rel CP QstR n) (fun ds h R ⟨_, _, _, _, _, _, _, e, _⟩ => by rw [e]; rfl) fun f cdv A outer s' H E hr => ?_
  refine ⟨_, (pss_cons (ps_set (i := 1) sc.nd rfl (.inl rfl) (h__query.call (hr.mono (by first | decide | omega)) rfl pass0 (pa_cons (pv 0) pa_nil)))
  (pss_cons (ps_set (i := 2) sc.nd rfl (.inl rfl) (pe_tup pa_nil))
  (pss_cons (ps_set (i := 3) sc.nd rfl (.inl rfl) pe_non)
  (pss_cons (ps_if (pt_val (h__skip.call (hr.mono (by first | decide | omega)) rfl pass0 (pa_cons (pv 0) (pa_cons pe_str pa_nil)))) (pss_cons (ps_expr (h__need.call (hr.mono (by first | decide | omega)) rfl pass0 (pa_cons (pv 0) (pa_cons pe_str pa_nil))))
  (pss_one (ps_set (i := 2) sc.nd rfl (.inl rfl) (h__list_of.call (hr.mono (by first | decide | omega)) rfl pass0 (pa_cons (pv 0) (pa_cons (pe_glob (v := .ref f__order_key) rfl gf__order_key rfl) pa_nil)))))) pss_nil)
  (pss_cons (ps_if (pt_val (h__skip.call (hr.mono (by first | decide | omega)) rfl pass0 (pa_cons (pv 0) (pa_cons pe_str pa_nil)))) (pss_one (ps_set (i := 3) sc.nd rfl (.inl rfl) (h__take.call (hr.mono (by first | decide | omega)) rfl pass0 (pa_cons (pv 0) (pa_cons pe_str pa_nil))))) pss_nil)
  (pss_one (ps_ret (pe_tup (pa_cons pe_str (pa_cons (pv 1) (pa_cons (pv 2) (pa_cons (pv 3) pa_nil)))))))))))), ?_⟩
  try dsimp only [cxOf]
  rintro ds h R ⟨ob, m, us, u, v, d, t, rfl, p, d1, d2, x, r⟩
  cases x with
  | @mk _ _ t1 q v1 x c1 c2 =>
  k_places
  refine ⟨ob, m, us, _, _, d, _, rfl, p, d1, d2, x, ?_⟩
  have sx : (q :: v1) <:+ u := by cases x with | mk x _ => exact sel_sufs _ _ _ _ x
  have p1 := p.go (sx.trans p.suf) d
  k_places
  refine skip_f p1 c1 ?_
  k_places
  refine skip_f p1 c2 ?_
  k_places
  exact r
end
end Law

namespace Law
open PySem PySem.Spec PyProof.Rows L2 Kb SX TL
-- the steps that are tried: k_clsL a side condition; k_subL one step; k_places steps as long as one fits
section
variable {Pg : Program} {w : World} {K : PySem.W.Frag} {Θ : Tbs} {mg : Str → Option Value} {base : Heap} {CP : Addr}
def enK : Str := Str.ofString "end"
abbrev st_pin : Stmt := (inClass (topS 28) 0)
theorem sc_pin : FnScope ["self", "text", "tokens"] ["self", "text"] (defScope st_pin) := ⟨rfl, rfl, rfl, by decide +kernel, rfl, by decide +kernel, by decide +kernel⟩
def W_pin (C : Addr) : Spc := fun ds h R => ∃ (i : Nat) (L : List Nat) (ts : List P), ds = [.own i, dS (S L)] ∧ h[i]? = some (some (.ins C [])) ∧ L.length ≤ 10000000 ∧ Tz.Toks L 0 ts none ∧ ts.length ≤ 120 ∧
  R dN (h.set i (psO C h.length 0 0) ++ [some (.lst ((ts ++ [Tz.tokP enK (.str (Str.ofString "")) L.length]).map D.p))])
theorem cut_all {ts : List P} (h : ts.length ≤ 120) : cutP ts none (some 120) = ts := by
  unfold cutP
  have e : HT.sIx ts.length ts.length (some 120) = min 120 ts.length := rfl
  have e0 : HT.sIx ts.length 0 none = 0 := rfl
  rw [e, e0, List.drop_zero, Nat.sub_zero]
  exact List.take_of_length_le (by omega)
theorem ok_pin {tk : Tok} (A : InitAt K CP "Parsing.__init__" st_pin ["self", "text"]) (T : ParC K mg CP) (m_len : mg "len" = none) (g_MOST_TOKENS : mg "MOST_TOKENS" = some (.int 120 tk)) (h_tokenize : HasF Pg w K mg base CX0 5 "tokenize" ["text"] (spD K Θ W_tkzS)) : HasMk Pg w K mg base CX0 6 "Parsing" CP ["self", "text"] (spD K Θ (W_pin CP)) := by
  have sc := sc_pin
  refine A.okD T.mgC sc (W_pin CP) (fun ds h R ⟨_, _, _, e, _⟩ => by rw [e]; rfl) fun f cdv A outer s H E hr => ?_
  refine ⟨_, (pss_cons (ps_set (i := 2) sc.nd rfl (.inl rfl) (h_tokenize.call (hr.mono (by first | decide | omega)) rfl pass0 (pa_cons (pv 1) pa_nil)))
  (pss_cons (ps_fld (pv 0) (pe_slice (sl_listK (K := K) (by rfl)) (pv 2) po_none (po_some (pe_glob (v := .int 120) rfl g_MOST_TOKENS ⟨_, rfl⟩))) rfl)
  (pss_cons (ps_fld (pv 0) pe_int rfl)
  (pss_cons (ps_fld (pv 0) pe_int rfl)
  (pss_one (ps_if (pt_cmpR op_gt (pe_callB (call_lenK (K := K) (by rfl)) (by rfl) m_len (by decide +kernel) (pa_cons (pv 2) pa_nil)) (pe_glob (v := .int 120) rfl g_MOST_TOKENS ⟨_, rfl⟩) (nomark _)) (pss_one (ps_expr (pe_bm PySem.F.plainAttrs_list PySem.F.slot_list_append PySem.F.type_list_append mt_append (pe_fldK (K := K) (by rfl) (pv 0) rfl) (pa_cons (pe_tup (pa_cons pe_str (pa_cons pe_str (pa_cons (pe_ix (ix_seqK (K := K) (by rfl)) (pe_ix (ix_seqK (K := K) (by rfl)) (pv 2) (pe_glob (v := .int 120) rfl g_MOST_TOKENS ⟨_, rfl⟩) (fun _ _ => rfl)) pe_int (fun _ _ => rfl)) pa_nil)))) pa_nil)))) (pss_one (ps_expr (pe_bm PySem.F.plainAttrs_list PySem.F.slot_list_append PySem.F.type_list_append mt_append (pe_fldK (K := K) (by rfl) (pv 0) rfl) (pa_cons (pe_tup (pa_cons pe_str (pa_cons pe_str (pa_cons (pe_callB (call_lenK (K := K) (by rfl)) (by rfl) m_len (by decide +kernel) (pa_cons (pv 1) pa_nil)) pa_nil)))) pa_nil)))))))))), ?_⟩
  try dsimp only [cxOf]
  rintro ds h R ⟨i, L, ts, rfl, hi, hl, tk, lt, q⟩
  have sz := sizeLine_eq
  have il : i < h.length := (List.getElem?_eq_some_iff.mp hi).1
  k_subL
  k_places
  refine ⟨L, ts, rfl, hl, tk, ?_⟩
  refine vg_name ?_
  refine vs_seq ?_
  refine vs_fld ?_
  refine ve_slLO ?_
  k_places
  refine vo_none (vo_some ?_)
  k_places
  refine ⟨_, rfl, ts, rfl, ?_⟩
  rw [cut_all lt]
  have at1 : ∀ x : List (Str × D), ((h ++ [some (OO.lst (ts.map D.p))]).set i (some (.ins CP x)))[i]? = some (some (.ins CP x)) := fun x => List.getElem?_set_self (by rw [List.length_append]; omega)
  k_places
  refine ⟨i, CP, [], rfl, by rw [List.getElem?_append_left il]; exact hi, T.cl, T.n1, by decide, ?_⟩
  rw [put_p1]
  k_places
  refine vs_fld ?_
  k_places
  refine ⟨i, CP, _, rfl, at1 _, T.cl, T.n2, (by show 1 < 1000; decide), ?_⟩
  rw [put_p2, List.set_set]
  k_places
  refine vs_fld ?_
  k_places
  refine ⟨i, CP, _, rfl, at1 _, T.cl, T.n3, (by show 2 < 1000; decide), ?_⟩
  rw [put_p3, List.set_set]
  have em : (h ++ [some (OO.lst (ts.map D.p))]).set i (some (.ins CP (psF h.length 0 0))) = h.set i (psO CP h.length 0 0) ++ [some (OO.lst (ts.map D.p))] := List.set_append_left _ _ il
  rw [em]
  have gi : (h.set i (psO CP h.length 0 0) ++ [some (OO.lst (ts.map D.p))])[i]? = some (some (.ins CP (psF h.length 0 0))) := by
    rw [List.getElem?_append_left (by rw [List.length_set]; exact il)]; exact List.getElem?_set_self il
  have gm : (h.set i (psO CP h.length 0 0) ++ [some (OO.lst (ts.map D.p))])[h.length]? = some (some (.lst (ts.map D.p))) := by
    rw [List.getElem?_append_right (by rw [List.length_set]; omega), List.length_set, Nat.sub_self]; rfl
  k_places
  refine ite_dec (fun c => absurd c (by omega)) (fun c => ?_)
  k_places
  refine ve_bm ?_
  k_places
  refine ve_fld ?_
  k_places
  refine ⟨CP, _, T.cl, T.n1, ⟨_, gi, fl_tokens⟩, ?_⟩
  refine ⟨⟨rfl, _, gm⟩, ?_⟩
  k_places
  refine vc_len (n := L.length) ⟨by rw [S_len]; omega, S_len L⟩ ?_
  k_places
  refine vm_append gm (by rw [List.length_map]; omega) ?_
  rw [List.set_append_right _ _ (by rw [List.length_set]; omega), List.length_set, Nat.sub_self]
  rw [List.map_append] at q
  exact q
/-! ### parse -/
abbrev st_prs : Stmt := (topS 29)
theorem sc_prs : FnScope ["text", "parsing", "tree"] ["text"] (defScope st_prs) := ⟨rfl, rfl, rfl, by decide +kernel, rfl, by decide +kernel, by decide +kernel⟩
def endT : Tok' := (enK, .str (Str.ofString ""))
def W_prs : Spc := fun ds h R => ∃ (L : List Nat) (ts : List P) (us : List Tok') (t : P), ds = [dS (S L)] ∧ L.length ≤ 10000000 ∧ Tz.Toks L 0 ts none ∧ ts.length ≤ 120 ∧ Tks ts us ∧ (∀ q ∈ us, TokV q) ∧ QstR 0 (us ++ [endT]) t [endT] ∧ R (.p t) h
theorem tks_end {ts : List P} {us : List Tok'} (h : Tks ts us) (n : Nat) : Tks (ts ++ [Tz.tokP enK (.str (Str.ofString "")) n]) (us ++ [endT]) := by
  refine ⟨by rw [List.length_append, List.length_append, h.1]; rfl, fun j q e => ?_⟩
  by_cases hj : j < us.length
  · rw [List.getElem?_append_left hj] at e
    rw [List.getElem?_append_left (by rw [h.1]; exact hj)]
    exact h.2 j q e
  · rw [List.getElem?_append_right (by omega)] at e
    rw [List.getElem?_append_right (by rw [h.1]; omega), h.1]
    cases k : j - us.length with
    | zero => rw [k] at e; cases e; exact ⟨n, rfl⟩
    | succ m => rw [k] at e; simp at e
theorem ok_prs {k : Nat} (A : DefAt K mg "parse" st_prs ["text"]) (c_Parsing : HasMk Pg w K mg base CX0 6 "Parsing" CP ["self", "text"] (spD K Θ (W_pin CP))) (h__question : HasF Pg w K mg base CX0 (k + 6) "_question" ["parsing"] (spD K Θ (W_rel CP QstR 13)))
    (h__take : HasF Pg w K mg base CX0 2 "_take" ["parsing", "kind"] (spD K Θ (W_take CP))) (hk : 4 ≤ k) : HasF Pg w K mg base CX0 (k + 7) "parse" ["text"] (spD K Θ W_prs) := by
  have sc := sc_prs
  refine A.okD sc W_prs (fun ds h R ⟨_, _, _, _, e, _⟩ => by rw [e]; rfl) fun f cdv A outer s' H E hr => ?_
  refine ⟨_, (pss_cons (ps_set (i := 1) sc.nd rfl (.inl rfl) (c_Parsing.make (hr.mono (by first | decide | omega)) rfl pass0 (pa_cons (pv 0) pa_nil)))
  (pss_cons (ps_set (i := 2) sc.nd rfl (.inl rfl) (h__question.call (hr.mono (by first | decide | omega)) rfl pass0 (pa_cons (pv 1) pa_nil)))
  (pss_cons (ps_expr (h__take.call (hr.mono (by first | decide | omega)) rfl pass0 (pa_cons (pv 1) (pa_cons pe_str pa_nil))))
  (pss_one (ps_ret (pv 2)))))), ?_⟩
  try dsimp only [cxOf]
  rintro ds h R ⟨L, ts, us, t, rfl, hl, tk, lt, ks, tv, x, r⟩
  refine vs_fin ?_
  k_subL
  k_places
  refine ve_makeO ?_
  k_places
  refine ⟨h.length, L, ts, rfl, by simp, hl, tk, lt, rfl, ?_⟩
  have e1 : (h ++ [some (OO.ins CP [])]).set h.length (psO CP (h ++ [some (OO.ins CP [])]).length 0 0) = h ++ [psO CP (h.length + 1) 0 0] := by
    rw [List.set_append_right _ _ (Nat.le_refl _), Nat.sub_self, List.length_append]; rfl
  rw [e1, List.append_assoc]
  have lu : us.length ≤ 120 := by rw [← ks.1]; exact lt
  have p : PsU CP (h ++ ([psO CP (h.length + 1) 0 0] ++ [some (OO.lst ((ts ++ [Tz.tokP enK (.str (Str.ofString "")) L.length]).map D.p))])) h.length (h.length + 1) (us ++ [endT]) (us ++ [endT]) 0 := by
    refine ⟨⟨?_, ⟨_, ?_, tks_end ks L.length⟩, Nat.ne_of_lt (Nat.lt_succ_self _), fun q hq => ?_, by rw [List.length_append]; simp; omega⟩, List.suffix_refl _⟩
    · rw [Nat.sub_self, List.getElem?_append_right (Nat.le_refl _), Nat.sub_self]; rfl
    · rw [List.getElem?_append_right (by omega)]
      have e : h.length + 1 - h.length = 1 := by omega
      rw [e]; rfl
    · rcases List.mem_append.mp hq with hq | hq
      · exact tv q hq
      · rw [List.mem_singleton.mp hq]
        intro z
        exact absurd z (by decide +kernel)
  k_places
  refine ⟨h.length, h.length + 1, us ++ [endT], us ++ [endT], [endT], 0, t, rfl, p, by decide, by decide, x, ?_⟩
  have p1 := p.go (v := [endT]) ⟨us, rfl⟩ 0
  k_places
  refine take_u p1 ?_
  rw [PsU.put]
  k_places
  have e2 : ∀ (X : Option OO) (ys : Hs), (h ++ ([psO CP (h.length + 1) 0 0] ++ ys)).set h.length X = h ++ ([X] ++ ys) := fun X ys => by
    rw [List.set_append_right _ _ (Nat.le_refl _), Nat.sub_self]; rfl
  rw [e2]
  exact fin_p _ r
end
end Law

namespace Law
open PySem PySem.Spec PyProof.Rows L2 Kb SX TL
section
variable {Pg : Program} {w : World} {K : PySem.W.Frag} {Θ : Tbs} {mg : Str → Option Value} {base : Heap} {CP : Addr}
theorem sc_src0 : FnScope ["parsing", "tree", "first", "right"] ["parsing"] (defScope (topS 47)) := ⟨rfl, rfl, rfl, by decide +kernel, rfl, by decide +kernel, by decide +kernel⟩
theorem sc_qip0 : FnScope ["parsing", "tree"] ["parsing"] (defScope (topS 44)) := ⟨rfl, rfl, rfl, by decide +kernel, rfl, by decide +kernel, by decide +kernel⟩
theorem prs_all {c_COMPARISONS f__negative f__product f__expression f__negation f__conjunction f__item f__order_key : Addr} {tk : Tok} (Z : ParA K mg CP c_COMPARISONS f__negative f__product f__expression f__negation f__conjunction)
    (gi : mg "_item" = some (.ref f__item)) (go : mg "_order_key" = some (.ref f__order_key)) (A1 : DefAt K mg "_item" st_itm ["parsing"]) (A2 : DefAt K mg "_select" st_sel ["parsing"]) (A3 : DefAt K mg "_part" st_prt ["parsing"]) (A5 : DefAt K mg "_question" st_qst ["parsing"]) (A6 : DefAt K mg "parse" st_prs ["text"])
    (A7 : InitAt K CP "Parsing.__init__" st_pin ["self", "text"]) (N1 : DefAt K mg "_sources" (topS 47) ["parsing"]) (N2 : DefAt K mg "_query_in_parentheses" (topS 44) ["parsing"]) (mtk : mg "MOST_TOKENS" = some (.int 120 tk)) (m_len : mg "len" = none)
    (h_tokenize : HasF Pg w K mg base CX0 5 "tokenize" ["text"] (spD K Θ W_tkzS)) : HasF Pg w K mg base CX0 (174 + 7) "parse" ["text"] (spD K Θ W_prs) := by
  have F := fam (Pg := Pg) (w := w) (base := base) (Θ := Θ) Z 13
  have Fe : HasF Pg w K mg base CX0 174 "_expression" ["parsing"] (spD K Θ (W_rel CP (Rd .ex) 13)) := F.ex
  have h1 := ok_kind (Pg := Pg) (w := w) (base := base) (Θ := Θ) Z.a1 Z.T
  have hr : HasF Pg w K mg base CX0 1 "_refuse" ["parsing"] (spD K Θ W_no) := .never Z.n1 sc_refuse fun _ _ _ h => h
  have h2 := ok_take (Pg := Pg) (w := w) (base := base) (Θ := Θ) Z.a2 Z.T h1 hr
  have h3 := ok_sees (Pg := Pg) (w := w) (base := base) (Θ := Θ) Z.a3 Z.T
  have h4 := ok_skip (Pg := Pg) (w := w) (base := base) (Θ := Θ) Z.a4 Z.T h3
  have h5 := ok_need (Pg := Pg) (w := w) (base := base) (Θ := Θ) Z.a5 h4 hr
  have h6 := ok_sk1 (Pg := Pg) (w := w) (base := base) (Θ := Θ) Z.a6 h4
  have hs : HasF Pg w K mg base CX0 1 "_sources" ["parsing"] (spD K Θ W_no) := .never N1 sc_src0 fun _ _ _ h => h
  have hq : HasF Pg w K mg base CX0 1 "_query_in_parentheses" ["parsing"] (spD K Θ W_no) := .never N2 sc_qip0 fun _ _ _ h => h
  have hl : HasF Pg w K mg base CX0 1 "_list_of" ["parsing", "part"] (spD K Θ W_no) := .never Z.a9 sc_lstof fun _ _ _ h => h
  have itm := ok_itm (Pg := Pg) (w := w) (base := base) (Θ := Θ) A1 h2 h4 Fe (by omega)
  have lst := ok_lstof (Pg := Pg) (w := w) (base := base) (Θ := Θ) itm_sufs Z.a9 Z.mt (itm.at_ gi) h4 (by omega)
  have sel := ok_sel (Pg := Pg) (w := w) (base := base) (Θ := Θ) A2 gi Z.g3 h5 h4 hs Fe lst (by omega)
  have prt := ok_prt (Pg := Pg) (w := w) (base := base) (Θ := Θ) A3 h3 hq sel
  have qry := ok_qry (Pg := Pg) (w := w) (base := base) (Θ := Θ) Z.n2 prt h6 h4
  have qst := ok_qst (Pg := Pg) (w := w) (base := base) (Θ := Θ) A5 go qry h4 h5 h2 hl
  have pin := ok_pin (Pg := Pg) (w := w) (base := base) (Θ := Θ) A7 Z.T m_len mtk h_tokenize
  exact ok_prs (Pg := Pg) (w := w) (base := base) (Θ := Θ) A6 pin qst h2 (by omega)
end
end Law

namespace Law
open PySem PySem.Spec PyProof.Rows L2 Kb
/-! ### words that continue -/
def sgK : Str := Str.ofString "sign"
def kw (s : Str) : Tok' := (kwK, .str s)
def sg (s : Str) : Tok' := (sgK, .str s)
def wdQ (q : Tok') : Option Str := if q.1 ∈ ([kwK, sgK] : List Str) then (match q.2 with | .str s => some s | _ => none) else none
theorem sees_wd (q : Tok') (w : Str) : seesQ q w = decide (wdQ q = some w) := by
  unfold seesQ wdQ
  by_cases h : q.1 ∈ ([kwK, sgK] : List Str)
  · rw [if_pos h]
    have h' : q.1 ∈ ([Str.ofString "keyword", Str.ofString "sign"] : List Str) := h
    rw [decide_eq_true h', Bool.true_and]
    cases q.2 <;> simp
  · rw [if_neg h]
    have h' : q.1 ∉ ([Str.ofString "keyword", Str.ofString "sign"] : List Str) := h
    rw [decide_eq_false h', Bool.false_and]
    simp
theorem wd_kw (s : Str) : wdQ (kw s) = some s := by
  have h : kwK ∈ ([kwK, sgK] : List Str) := List.mem_cons_self
  show (if kwK ∈ ([kwK, sgK] : List Str) then _ else _) = _
  rw [if_pos h]
  rfl
theorem wd_sg (s : Str) : wdQ (sg s) = some s := by
  have h : sgK ∈ ([kwK, sgK] : List Str) := List.mem_cons_of_mem _ List.mem_cons_self
  show (if sgK ∈ ([kwK, sgK] : List Str) then _ else _) = _
  rw [if_pos h]
  rfl
def opsPst : List Str := [Str.ofString "is", Str.ofString "not", Str.ofString "in"]
/-- how loose a word binds what stands ahead of it; 0 where it ends it -/
def lvS (s : Str) : Nat := if s ∈ opsOr then 1 else if s ∈ opsAnd then 2 else if s ∈ opsCmp ++ opsPst then 4 else if s ∈ opsTot then 5 else if s ∈ opsPro then 6 else if s = Str.ofString "." then 9 else 0
def lvQ (q : Tok') : Nat := match wdQ q with
  | some s => lvS s
  | none => 0
theorem lv_or : ∀ s ∈ opsOr, lvS s = 1 := by decide +kernel
theorem lv_and : ∀ s ∈ opsAnd, lvS s = 2 := by decide +kernel
theorem lv_cmp : ∀ s ∈ opsCmp ++ opsPst, lvS s = 4 := by decide +kernel
theorem lv_tot : ∀ s ∈ opsTot, lvS s = 5 := by decide +kernel
theorem lv_pro : ∀ s ∈ opsPro, lvS s = 6 := by decide +kernel
theorem lv_sees {q : Tok'} {w : Str} (h : lvQ q ≠ lvS w) : seesQ q w = false := by
  rw [sees_wd]
  refine decide_eq_false fun e => h ?_
  unfold lvQ
  rw [e]
theorem no_find {ops : List Str} {l : Nat} (ho : ∀ s ∈ ops, lvS s = l) {q : Tok'} (h : lvQ q ≠ l) : ops.find? (seesQ q) = none := by
  rw [List.find?_eq_none]
  intro s hs e
  rw [lv_sees (by rw [ho s hs]; exact h)] at e
  cases e
theorem find_op {ops : List Str} {q : Tok'} {o : Str} (e : wdQ q = some o) (h : o ∈ ops) : ops.find? (seesQ q) = some o := by
  cases f : ops.find? (seesQ q) with
  | none =>
    rw [List.find?_eq_none] at f
    exact absurd (by rw [sees_wd, e]; simp) (f o h)
  | some s =>
    have z := List.find?_some f
    rw [sees_wd, e] at z
    have := of_decide_eq_true z
    cases this
    rfl
/-! ### what is written -/
def cat : Nat → Cat
  | 1 => .ex
  | 2 => .cnj
  | 3 => .neg
  | 4 => .cmp
  | 5 => .tot
  | 6 => .pro
  | 7 => .ngv
  | _ => .pri
def Cont : Nat → Nat → P → List Tok' → P → List Tok' → Prop
  | 1, d, t, u, t', v => RdC .cnj opsOr d t u t' v
  | 2, d, t, u, t', v => RdC .neg opsAnd d t u t' v
  | 4, d, t, u, t', v => RdM d t u t' v
  | 5, d, t, u, t', v => RdC .pro opsTot d t u t' v
  | 6, d, t, u, t', v => RdC .ngv opsPro d t u t' v
  | _, _, t, u, t', v => t' = t ∧ v = u
/-- read at this level, whatever goes on there -/
def Pl (L d : Nat) (t : P) (w : List Tok') : Prop := ∀ q v t' v', lvQ q ≤ L → Cont L d t (q :: v) t' v' → Rd (cat L) d (w ++ q :: v) t' v'
def notT (a : P) : P := .tup [.str (Str.ofString "not"), a]
def ngT (a : P) : P := .tup [.str (Str.ofString "negate"), a]
def isT (a : P) (b : Bool) : P := .tup [.str (Str.ofString "is_null"), a, .bl b]
def inT (a : P) (ts : List P) (b : Bool) : P := .tup [.str (Str.ofString "in_list"), a, .tup ts, .bl b]
def orN (b : Bool) : List Tok' := if b then [kw (Str.ofString "not")] else []
def comT : Tok' := sg (Str.ofString ",")
def opnT : Tok' := sg (Str.ofString "(")
def clsT : Tok' := sg (Str.ofString ")")
inductive Atm : P → List Tok' → Prop
  | int (x : P) : Atm (.tup [.str (Str.ofString "literal"), x]) [(inK, x)]
  | col (a : P) : Atm (.tup [.str (Str.ofString "column"), .non, a]) [(nmK, a)]
  | col2 (a b : P) : Atm (.tup [.str (Str.ofString "column"), a, b]) [(nmK, a), sg (Str.ofString "."), (nmK, b)]
def isOp (o : Str) : Prop := o ∈ opsOr ++ opsAnd ++ opsCmp ++ opsTot ++ opsPro
mutual
inductive Wr : Nat → Nat → P → List Tok' → Prop
  | bin {L d o q a b wa wb} : isOp o → wdQ q = some o → L ≤ lvS o → Wr (lvS o) d a wa → Wr (lvS o + 1) d b wb → Wr L d (binT o a b) (wa ++ q :: wb)
  | not {L d a wa} : L ≤ 3 → d < 12 → Wr 3 (d + 1) a wa → Wr L d (notT a) (kw (Str.ofString "not") :: wa)
  | neg {L d a wa} : L ≤ 7 → d < 12 → Wr 7 (d + 1) a wa → Wr L d (ngT a) (sg (Str.ofString "-") :: wa)
  | isN {L d a wa b} : L ≤ 4 → Wr 4 d a wa → Wr L d (isT a b) (wa ++ kw (Str.ofString "is") :: (orN b ++ [kw (Str.ofString "null")]))
  | inL {L d a wa b ts wl} : L ≤ 4 → d < 12 → Wr 4 d a wa → WrL (d + 1) ts wl → Wr L d (inT a ts b) (wa ++ (orN b ++ kw (Str.ofString "in") :: opnT :: (wl ++ [clsT])))
  | atm {L d t w} : L ≤ 8 → Atm t w → Wr L d t w
  | par {L d t w} : L ≤ 8 → d < 12 → Wr 1 (d + 1) t w → Wr L d t (opnT :: (w ++ [clsT]))
inductive WrL : Nat → List P → List Tok' → Prop
  | one {d t w} : Wr 1 d t w → WrL d [t] w
  | more {d t w ts w'} : Wr 1 d t w → WrL d ts w' → WrL d (t :: ts) (w ++ comT :: w')
end
/-- how what is written begins -/
structure Hd (L : Nat) (w : List Tok') : Prop where
  ex : ∃ q w', w = q :: w' ∧ seesQ q (Str.ofString "select") = false ∧ seesQ q (Str.ofString "distinct") = false ∧ seesQ q (Str.ofString "*") = false ∧ (4 ≤ L → seesQ q (Str.ofString "not") = false) ∧ (8 ≤ L → seesQ q (Str.ofString "-") = false)
theorem Hd.app {L : Nat} {w : List Tok'} (h : Hd L w) (v : List Tok') : Hd L (w ++ v) := by
  obtain ⟨q, w', rfl, r⟩ := h.ex
  exact ⟨q, w' ++ v, rfl, r⟩
theorem Hd.le {L M : Nat} {w : List Tok'} (h : Hd M w) (hl : L ≤ M) : Hd L w := by
  obtain ⟨q, w', rfl, a, b, c, e, f⟩ := h.ex
  exact ⟨q, w', rfl, a, b, c, fun z => e (by omega), fun z => f (by omega)⟩
theorem sees_ne {q : Tok'} {s w : Str} (e : wdQ q = some s) (h : s ≠ w) : seesQ q w = false := by
  rw [sees_wd, e]
  exact decide_eq_false fun z => h (Option.some.inj z)
theorem sees_no {q : Tok'} {w : Str} (e : wdQ q = none) : seesQ q w = false := by
  rw [sees_wd, e]
  simp
theorem atm_hd {t : P} {w : List Tok'} (h : Atm t w) : Hd 8 w := by
  cases h with
  | int x =>
    have e : wdQ (inK, x) = none := by unfold wdQ; rw [if_neg (show inK ∉ ([kwK, sgK] : List Str) by decide +kernel)]
    exact ⟨_, _, rfl, sees_no e, sees_no e, sees_no e, fun _ => sees_no e, fun _ => sees_no e⟩
  | col x =>
    have e : wdQ (nmK, x) = none := by unfold wdQ; rw [if_neg (show nmK ∉ ([kwK, sgK] : List Str) by decide +kernel)]
    exact ⟨_, _, rfl, sees_no e, sees_no e, sees_no e, fun _ => sees_no e, fun _ => sees_no e⟩
  | col2 x =>
    have e : wdQ (nmK, x) = none := by unfold wdQ; rw [if_neg (show nmK ∉ ([kwK, sgK] : List Str) by decide +kernel)]
    exact ⟨_, _, rfl, sees_no e, sees_no e, sees_no e, fun _ => sees_no e, fun _ => sees_no e⟩
theorem wd_hd {L : Nat} {q : Tok'} {s : Str} (w : List Tok') (e : wdQ q = some s) (h1 : s ≠ Str.ofString "select") (h2 : s ≠ Str.ofString "distinct") (h3 : s ≠ Str.ofString "*") (h4 : 4 ≤ L → s ≠ Str.ofString "not") (h5 : 8 ≤ L → s ≠ Str.ofString "-") : Hd L (q :: w) :=
  ⟨q, w, rfl, sees_ne e h1, sees_ne e h2, sees_ne e h3, fun z => sees_ne e (h4 z), fun z => sees_ne e (h5 z)⟩
theorem lv_le : ∀ o ∈ opsOr ++ opsAnd ++ opsCmp ++ opsTot ++ opsPro, 1 ≤ lvS o ∧ lvS o ≤ 6 ∧ lvS o ≠ 3 := by decide +kernel
theorem Wr.hd : ∀ {L d t w}, Wr L d t w → Hd L w
  | _, _, _, _, .bin _ _ hl a _ => (a.hd.le hl).app _
  | _, _, _, _, .not hl _ _ => wd_hd _ (wd_kw _) (by decide +kernel) (by decide +kernel) (by decide +kernel) (fun z => by omega) (fun z => by omega)
  | _, _, _, _, .neg hl _ _ => wd_hd _ (wd_sg _) (by decide +kernel) (by decide +kernel) (by decide +kernel) (fun z => by decide +kernel) (fun z => by omega)
  | _, _, _, _, .isN hl a => (a.hd.le hl).app _
  | _, _, _, _, .inL hl _ a _ => (a.hd.le hl).app _
  | _, _, _, _, .atm hl a => (atm_hd a).le hl
  | _, _, _, _, .par hl _ _ => wd_hd _ (wd_sg _) (by decide +kernel) (by decide +kernel) (by decide +kernel) (fun z => by decide +kernel) (fun z => by decide +kernel)
/-! ### from a level to a looser one -/
theorem pl_87 {d : Nat} {t : P} {w : List Tok'} (h : Hd 8 w) (p : Pl 8 d t w) : Pl 7 d t w := fun q v t' v' lq c => by
  obtain ⟨rfl, rfl⟩ := c
  have z := p q v t' _ (by omega) ⟨rfl, rfl⟩
  obtain ⟨q0, w', rfl, _, _, _, _, hm⟩ := h.ex
  exact .ngvN (hm (by omega)) z
theorem pl_76 {d : Nat} {t : P} {w : List Tok'} (p : Pl 7 d t w) : Pl 6 d t w := fun q v t' v' lq c => .pro (p q v t _ (by omega) ⟨rfl, rfl⟩) c
theorem pl_65 {d : Nat} {t : P} {w : List Tok'} (p : Pl 6 d t w) : Pl 5 d t w := fun q v t' v' lq c => .tot (p q v t (q :: v) (by omega) (RdC.nil (no_find lv_pro (by omega)))) c
theorem pl_54 {d : Nat} {t : P} {w : List Tok'} (p : Pl 5 d t w) : Pl 4 d t w := fun q v t' v' lq c => .cmp (p q v t (q :: v) (by omega) (RdC.nil (no_find lv_tot (by omega)))) c
theorem rdm_nil {d : Nat} {t : P} {q : Tok'} {v : List Tok'} (h : lvQ q ≠ 4) : RdM d t (q :: v) t (q :: v) := by
  refine .nil (no_find (l := 4) (fun s hs => lv_cmp s (List.mem_append_left _ hs)) h) (lv_sees ?_) (lv_sees ?_) (lv_sees ?_)
  · rw [lv_cmp _ (by decide +kernel)]; exact h
  · rw [lv_cmp _ (by decide +kernel)]; exact h
  · rw [lv_cmp _ (by decide +kernel)]; exact h
theorem pl_43 {d : Nat} {t : P} {w : List Tok'} (h : Hd 4 w) (p : Pl 4 d t w) : Pl 3 d t w := fun q v t' v' lq c => by
  obtain ⟨rfl, rfl⟩ := c
  have z := p q v t' (q :: v) (by omega) (rdm_nil (by omega))
  obtain ⟨q0, w', rfl, _, _, _, hm, _⟩ := h.ex
  exact .notN (hm (by omega)) z
theorem pl_32 {d : Nat} {t : P} {w : List Tok'} (p : Pl 3 d t w) : Pl 2 d t w := fun q v t' v' lq c => .cnj (p q v t _ (by omega) ⟨rfl, rfl⟩) c
theorem pl_21 {d : Nat} {t : P} {w : List Tok'} (p : Pl 2 d t w) : Pl 1 d t w := fun q v t' v' lq c => .ex (p q v t (q :: v) (by omega) (RdC.nil (no_find lv_and (by omega)))) c
theorem pl_down {d : Nat} {t : P} {w : List Tok'} : ∀ {M L : Nat}, M ≤ 8 → Hd M w → Pl M d t w → 1 ≤ L → L ≤ M → Pl L d t w := fun {M L} hM h p h1 hl => by
  by_cases e : L = M
  · rw [e]; exact p
  · have hk : Pl (M - 1) d t w := by
      have hc : M = 2 ∨ M = 3 ∨ M = 4 ∨ M = 5 ∨ M = 6 ∨ M = 7 ∨ M = 8 := by omega
      rcases hc with rfl | rfl | rfl | rfl | rfl | rfl | rfl
      · exact pl_21 p
      · exact pl_32 p
      · exact pl_43 h p
      · exact pl_54 p
      · exact pl_65 p
      · exact pl_76 p
      · exact pl_87 h p
    exact pl_down (M := M - 1) (by omega) (h.le (by omega)) hk h1 (by omega)
termination_by M => M
theorem lv_cls : lvQ clsT = 0 := by decide +kernel
theorem lv_com : lvQ comT = 0 := by decide +kernel
theorem sees_it (s : Str) : seesQ (kw s) s = true := by rw [sees_wd, wd_kw]; simp
theorem sees_is (s : Str) : seesQ (sg s) s = true := by rw [sees_wd, wd_sg]; simp
/-- the operators of a level -/
def opsOf : Nat → List Str
  | 1 => opsOr
  | 2 => opsAnd
  | 4 => opsCmp
  | 5 => opsTot
  | _ => opsPro
theorem op_of : ∀ o ∈ opsOr ++ opsAnd ++ opsCmp ++ opsTot ++ opsPro, o ∈ opsOf (lvS o) := by decide +kernel
theorem cont_cons {o : Str} (ho : isOp o) {d : Nat} {q : Tok'} (hq : wdQ q = some o) {t t1 : P} {v : List Tok'} {v1 : List Tok'} {t' : P} {v' : List Tok'} (x : Rd (cat (lvS o + 1)) d v t1 v1) (c : Cont (lvS o) d (binT o t t1) v1 t' v') : Cont (lvS o) d t (q :: v) t' v' := by
  have hm := op_of o ho
  have hl := lv_le o ho
  have hc : lvS o = 1 ∨ lvS o = 2 ∨ lvS o = 4 ∨ lvS o = 5 ∨ lvS o = 6 := by omega
  rcases hc with e | e | e | e | e <;> rw [e] at hm x c ⊢
  · exact RdC.cons (find_op hq hm) x c
  · exact RdC.cons (find_op hq hm) x c
  · exact RdM.op (find_op hq hm) x c
  · exact RdC.cons (find_op hq hm) x c
  · exact RdC.cons (find_op hq hm) x c
theorem cont_nil {L d : Nat} {t : P} {q : Tok'} {v : List Tok'} (h : lvQ q < L) (hL : L ≤ 8) : Cont L d t (q :: v) t (q :: v) := by
  have hc : L = 1 ∨ L = 2 ∨ L = 3 ∨ L = 4 ∨ L = 5 ∨ L = 6 ∨ L = 7 ∨ L = 8 := by omega
  rcases hc with rfl | rfl | rfl | rfl | rfl | rfl | rfl | rfl
  · exact RdC.nil (no_find lv_or (by omega))
  · exact RdC.nil (no_find lv_and (by omega))
  · exact ⟨rfl, rfl⟩
  · exact rdm_nil (by omega)
  · exact RdC.nil (no_find lv_tot (by omega))
  · exact RdC.nil (no_find lv_pro (by omega))
  · exact ⟨rfl, rfl⟩
  · exact ⟨rfl, rfl⟩
theorem atm_pl {d : Nat} {t : P} {w : List Tok'} (h : Atm t w) : Pl 8 d t w := fun q v t' v' lq c => by
  obtain ⟨rfl, rfl⟩ := c
  cases h with
  | int x => exact .lit (.inl rfl)
  | col a => exact .col1 (lv_sees (by have e : lvS (Str.ofString ".") = 9 := by decide +kernel
                                      omega))
  | col2 a b => exact .col2 (sees_is _)
mutual
theorem Wr.pl : ∀ {L d t w}, Wr L d t w → 1 ≤ L → Pl L d t w
  | L, d, _, _, .bin (o := o) (q := q0) (a := a) (b := b) (wa := wa) (wb := wb) ho hq hl x y, h1 => by
    have hv := lv_le o ho
    have px := x.pl hv.1
    have py := y.pl (by omega)
    refine pl_down (M := lvS o) (by omega) (Wr.bin (L := lvS o) ho hq (Nat.le_refl _) x y).hd ?_ h1 hl
    intro q v t' v' lq c
    have e0 : lvQ q0 = lvS o := by unfold lvQ; rw [hq]
    have z := py q v b (q :: v) (by omega) (cont_nil (by omega) (by omega))
    have z2 := px q0 (wb ++ q :: v) t' v' (by omega) (cont_cons ho hq z c)
    rw [List.append_assoc]
    exact z2
  | L, d, _, _, .not hl hd x, h1 => by
    have px := x.pl (by omega)
    refine pl_down (M := 3) (by omega) (Wr.not (L := 3) (by omega) hd x).hd ?_ h1 hl
    intro q v t' v' lq c
    obtain ⟨rfl, rfl⟩ := c
    exact .notP (sees_it _) hd (px q v _ _ lq ⟨rfl, rfl⟩)
  | L, d, _, _, .neg hl hd x, h1 => by
    have px := x.pl (by omega)
    refine pl_down (M := 7) (by omega) (Wr.neg (L := 7) (by omega) hd x).hd ?_ h1 hl
    intro q v t' v' lq c
    obtain ⟨rfl, rfl⟩ := c
    exact .ngvP (sees_is _) hd (px q v _ _ lq ⟨rfl, rfl⟩)
  | L, d, _, _, .isN (a := a) (wa := wa) (b := b) hl x, h1 => by
    have px := x.pl (by omega)
    refine pl_down (M := 4) (by omega) (Wr.isN (L := 4) (by omega) x).hd ?_ h1 hl
    intro q v t' v' lq c
    have e1 : lvQ (kw (Str.ofString "is")) = 4 := by decide +kernel
    have n1 : opsCmp.find? (seesQ (kw (Str.ofString "is"))) = none := by decide +kernel
    have z := px (kw (Str.ofString "is")) (orN b ++ kw (Str.ofString "null") :: q :: v) t' v' (by omega) (by
      cases b with
      | true => exact RdM.isP n1 (sees_it _) (sees_it _) (sees_it _) c
      | false => exact RdM.isN n1 (sees_it _) (by decide +kernel) (sees_it _) c)
    have e : wa ++ kw (Str.ofString "is") :: (orN b ++ [kw (Str.ofString "null")]) ++ q :: v = wa ++ kw (Str.ofString "is") :: (orN b ++ kw (Str.ofString "null") :: q :: v) := by simp
    rw [e]
    exact z
  | L, d, _, _, .inL (a := a) (wa := wa) (b := b) (ts := ts) (wl := wl) hl hd x y, h1 => by
    have px := x.pl (by omega)
    refine pl_down (M := 4) (by omega) (Wr.inL (L := 4) (by omega) hd x y).hd ?_ h1 hl
    intro q v t' v' lq c
    obtain ⟨q2, w2, e2, hs2, _⟩ := y.hd'
    have zl := y.rl (v := q :: v)
    have e : wa ++ (orN b ++ kw (Str.ofString "in") :: opnT :: (wl ++ [clsT])) ++ q :: v = wa ++ (orN b ++ kw (Str.ofString "in") :: opnT :: (wl ++ clsT :: q :: v)) := by simp
    rw [e]
    have e3 : wl ++ clsT :: q :: v = q2 :: (w2 ++ clsT :: q :: v) := by rw [e2]; rfl
    rw [e3] at zl ⊢
    cases b with
    | true =>
      exact px (kw (Str.ofString "not")) _ t' v' (by decide +kernel) (RdM.inP (by decide +kernel) (by decide +kernel) (.inl (sees_it _)) (.no (sees_it _) (sees_it _) (sees_is _) hd hs2 zl (sees_is _)) c)
    | false =>
      exact px (kw (Str.ofString "in")) _ t' v' (by decide +kernel) (RdM.inP (by decide +kernel) (by decide +kernel) (.inr (sees_it _)) (.yes (by decide +kernel) (sees_it _) (sees_is _) hd hs2 zl (sees_is _)) c)
  | L, d, _, _, .atm hl a, h1 => pl_down (M := 8) (by omega) (atm_hd a) (atm_pl a) h1 hl
  | L, d, _, _, .par (t := t) (w := w) hl hd x, h1 => by
    have px := x.pl (by omega)
    refine pl_down (M := 8) (by omega) (Wr.par (L := 8) (by omega) hd x).hd ?_ h1 hl
    intro q v t' v' lq c
    obtain ⟨rfl, rfl⟩ := c
    obtain ⟨q1, w', e, hs, _⟩ := x.hd.ex
    have z := px clsT (q :: v) t' (clsT :: q :: v) (by rw [lv_cls]; omega) (cont_nil (by rw [lv_cls]; omega) (by omega))
    have e2 : opnT :: (w ++ [clsT]) ++ q :: v = opnT :: (w ++ clsT :: q :: v) := by simp
    rw [e2]
    subst e
    exact .paren (by decide +kernel) (sees_is _) hd hs z (sees_is _)
theorem WrL.rl : ∀ {d ts w}, WrL d ts w → ∀ {v : List Tok'}, RdL d (w ++ clsT :: v) ts (clsT :: v)
  | d, _, _, .one x, v => .one (x.pl (by omega) clsT v _ _ (by rw [lv_cls]; omega) (cont_nil (by rw [lv_cls]; omega) (by omega))) (by decide +kernel)
  | d, _, _, .more (w := w) (w' := w') x y, v => by
    have e : w ++ comT :: w' ++ clsT :: v = w ++ comT :: (w' ++ clsT :: v) := by simp
    rw [e]
    exact .more (x.pl (by omega) comT _ _ _ (by rw [lv_com]; omega) (cont_nil (by rw [lv_com]; omega) (by omega))) (sees_is _) y.rl
theorem WrL.hd' : ∀ {d ts w}, WrL d ts w → ∃ q w', w = q :: w' ∧ seesQ q (Str.ofString "select") = false ∧ True
  | _, _, _, .one x => by obtain ⟨q, w', e, h, _⟩ := x.hd.ex; exact ⟨q, w', e, h, trivial⟩
  | _, _, _, .more x y => by obtain ⟨q, w', e, h, _⟩ := x.hd.ex; exact ⟨q, _, by rw [e]; rfl, h, trivial⟩
end
end Law

namespace Law
open PySem PySem.Spec PyProof.Rows L2 Kb
/-! ### the whole question -/
def qstT (t : P) : P := .tup [.str (Str.ofString "question"), .tup [.str (Str.ofString "select"), .bl false, .tup [.tup [t, .non]], .non, .non, .non, .non], .tup [], .non]
theorem wd_end : wdQ endT = none := by
  unfold wdQ endT
  rw [if_neg (show enK ∉ ([kwK, sgK] : List Str) by decide +kernel)]
theorem lv_end : lvQ endT = 0 := by unfold lvQ; rw [wd_end]
theorem qst_of {t : P} {w : List Tok'} (h : Wr 1 0 t w) : QstR 0 (kw (Str.ofString "select") :: (w ++ [endT])) (qstT t) [endT] := by
  obtain ⟨q, w', e, _, h2, h3, _⟩ := h.hd.ex
  have z := h.pl (by omega) endT [] t [endT] (by rw [lv_end]; omega) (cont_nil (by rw [lv_end]; omega) (by omega))
  have no : ∀ s, seesQ endT s = false := fun s => sees_no wd_end
  subst e
  refine .mk (.mk (.mk (sees_it _) h2 h3 (.one (.mk z (no _)) (no _)) ⟨no _, no _, no _, no _⟩) ?_) (no _) (no _)
  rw [List.find?_eq_none]
  intro s _ c
  rw [no] at c
  cases c
/-! ### the flat list -/
inductive It where
  | pre (n : Bool)
  | atom (t : P)
  | isI (b : Bool)
  | inI (b : Bool) (ts : List P)
  | op (o : Str)
def opTok (o : Str) : Tok' := if o ∈ ([Str.ofString "or", Str.ofString "and", Str.ofString "mod"] : List Str) then kw o else sg o
theorem wd_op (o : Str) : wdQ (opTok o) = some o := by
  unfold opTok
  split
  · exact wd_kw o
  · exact wd_sg o
def tokA : P → List Tok'
  | .tup [.str _, x] => [(inK, x)]
  | .tup [.str _, .non, a] => [(nmK, a)]
  | .tup [.str _, a, b] => [(nmK, a), sg (Str.ofString "."), (nmK, b)]
  | _ => []
def litT (n : Int) : P := .tup [.str (Str.ofString "literal"), .int n]
def colT (a : P) : P := .tup [.str (Str.ofString "column"), .non, a]
def col2T (a b : P) : P := .tup [.str (Str.ofString "column"), a, b]
inductive AtOk : P → Prop
  | int {n : Int} : 0 ≤ n → n < 1000 → AtOk (litT n)
  | col {a : P} : NameOk a → AtOk (colT a)
  | col2 {a b : P} : NameOk a → NameOk b → AtOk (col2T a b)
theorem AtOk.atm {t : P} (h : AtOk t) : Atm t (tokA t) := by
  cases h with
  | int _ _ => exact .int _
  | col _ => exact .col _
  | col2 ha _ =>
    obtain ⟨c, w, rfl, _⟩ := ha
    exact .col2 _ _
def lstT : List P → List Tok'
  | [] => []
  | [t] => tokA t
  | t :: ts => tokA t ++ comT :: lstT ts
theorem lst_wr {d : Nat} : ∀ {ts : List P}, ts ≠ [] → (∀ t ∈ ts, AtOk t) → WrL d ts (lstT ts)
  | [], h, _ => absurd rfl h
  | [t], _, h => .one (.atm (by omega) (h t List.mem_cons_self).atm)
  | t :: u :: ts, _, h => .more (.atm (by omega) (h t List.mem_cons_self).atm) (lst_wr (by simp) fun x hx => h x (List.mem_cons_of_mem _ hx))
def toksI : It → List Tok'
  | .pre true => [kw (Str.ofString "not")]
  | .pre false => [sg (Str.ofString "-")]
  | .atom t => tokA t
  | .isI b => kw (Str.ofString "is") :: (orN b ++ [kw (Str.ofString "null")])
  | .inI b ts => orN b ++ kw (Str.ofString "in") :: opnT :: (lstT ts ++ [clsT])
  | .op o => [opTok o]
def lineI : It → Nat
  | .op o => lvS o
  | .isI _ => 4
  | .inI _ _ => 4
  | _ => 9
/-- what a flat list looks like: 0 not may stand here, 1 a minus sign may, 2 an operand must, 3 behind an operand, 4 behind is or in -/
def okI : Nat → List It → Prop
  | s, [] => s = 3 ∨ s = 4
  | s, .pre true :: r => s = 0 ∧ okI 1 r
  | s, .pre false :: r => s ≤ 1 ∧ okI 2 r
  | s, .atom t :: r => s ≤ 2 ∧ AtOk t ∧ okI 3 r
  | s, .isI _ :: r => (s = 3 ∨ s = 4) ∧ okI 4 r
  | s, .inI _ ts :: r => (s = 3 ∨ s = 4) ∧ ts ≠ [] ∧ ts.length ≤ 2 ∧ (∀ t ∈ ts, AtOk t) ∧ okI 4 r
  | s, .op o :: r => (s = 3 ∨ (s = 4 ∧ lvS o ≤ 4)) ∧ isOp o ∧ okI (if lvS o ≤ 2 then 0 else 1) r
theorem ok_split {o : Str} {r : List It} : ∀ {l : List It} {s : Nat}, okI s (l ++ .op o :: r) → okI s l ∧ isOp o ∧ okI (if lvS o ≤ 2 then 0 else 1) r
  | [], s, h => by
    obtain ⟨h1, h2, h3⟩ := h
    exact ⟨h1.elim .inl fun z => .inr z.1, h2, h3⟩
  | .pre true :: l, s, h => by obtain ⟨a, b⟩ := h; obtain ⟨c, e⟩ := ok_split b; exact ⟨⟨a, c⟩, e⟩
  | .pre false :: l, s, h => by obtain ⟨a, b⟩ := h; obtain ⟨c, e⟩ := ok_split b; exact ⟨⟨a, c⟩, e⟩
  | .atom t :: l, s, h => by obtain ⟨a, a2, b⟩ := h; obtain ⟨c, e⟩ := ok_split b; exact ⟨⟨a, a2, c⟩, e⟩
  | .isI _ :: l, s, h => by obtain ⟨a, b⟩ := h; obtain ⟨c, e⟩ := ok_split b; exact ⟨⟨a, c⟩, e⟩
  | .inI _ _ :: l, s, h => by obtain ⟨a, a2, a3, a4, b⟩ := h; obtain ⟨c, e⟩ := ok_split b; exact ⟨⟨a, a2, a3, a4, c⟩, e⟩
  | .op _ :: l, s, h => by obtain ⟨a, a2, b⟩ := h; obtain ⟨c, e⟩ := ok_split b; exact ⟨⟨a, a2, c⟩, e⟩
theorem ok_splitP {x : It} {r : List It} (hx : lineI x = 4) (hn : ∀ o, x ≠ .op o) : ∀ {l : List It} {s : Nat}, okI s (l ++ x :: r) → okI s l ∧ okI 4 r ∧ (∀ b ts, x = .inI b ts → ts ≠ [] ∧ ts.length ≤ 2 ∧ ∀ t ∈ ts, AtOk t)
  | [], s, h => by
    cases x with
    | pre n => cases hx
    | atom t => cases hx
    | isI b => exact ⟨h.1, h.2, fun _ _ e => by cases e⟩
    | inI b ts => obtain ⟨a, a2, a3, a4, b⟩ := h; exact ⟨a, b, fun _ _ e => by cases e; exact ⟨a2, a3, a4⟩⟩
    | op o => exact absurd rfl (hn o)
  | .pre true :: l, s, h => by obtain ⟨a, b⟩ := h; obtain ⟨c, e⟩ := ok_splitP hx hn b; exact ⟨⟨a, c⟩, e⟩
  | .pre false :: l, s, h => by obtain ⟨a, b⟩ := h; obtain ⟨c, e⟩ := ok_splitP hx hn b; exact ⟨⟨a, c⟩, e⟩
  | .atom t :: l, s, h => by obtain ⟨a, a2, b⟩ := h; obtain ⟨c, e⟩ := ok_splitP hx hn b; exact ⟨⟨a, a2, c⟩, e⟩
  | .isI _ :: l, s, h => by obtain ⟨a, b⟩ := h; obtain ⟨c, e⟩ := ok_splitP hx hn b; exact ⟨⟨a, c⟩, e⟩
  | .inI _ _ :: l, s, h => by obtain ⟨a, a2, a3, a4, b⟩ := h; obtain ⟨c, e⟩ := ok_splitP hx hn b; exact ⟨⟨a, a2, a3, a4, c⟩, e⟩
  | .op _ :: l, s, h => by obtain ⟨a, a2, b⟩ := h; obtain ⟨c, e⟩ := ok_splitP hx hn b; exact ⟨⟨a, a2, c⟩, e⟩
/-- the last place of a line -/
def lastAt (l : Nat) : List It → Option Nat
  | [] => none
  | x :: xs => match lastAt l xs with
    | some k => some (k + 1)
    | none => if lineI x = l then some 0 else none
theorem last_none {l : Nat} : ∀ {xs : List It}, lastAt l xs = none → ∀ x ∈ xs, lineI x ≠ l
  | [], _, x, hx => by simp at hx
  | y :: xs, h, x, hx => by
    unfold lastAt at h
    cases e : lastAt l xs with
    | some k => rw [e] at h; cases h
    | none =>
      rw [e] at h
      rcases List.mem_cons.mp hx with rfl | hx
      · intro z; simp [z] at h
      · exact last_none e x hx
theorem last_some {l : Nat} : ∀ {xs : List It} {k : Nat}, lastAt l xs = some k → ∃ x, xs = xs.take k ++ x :: xs.drop (k + 1) ∧ xs[k]? = some x ∧ lineI x = l ∧ ∀ y ∈ xs.drop (k + 1), lineI y ≠ l
  | [], k, h => by cases h
  | y :: xs, k, h => by
    unfold lastAt at h
    cases e : lastAt l xs with
    | some j =>
      rw [e] at h
      cases h
      obtain ⟨x, h1, h2, h3, h4⟩ := last_some e
      exact ⟨x, by rw [List.take_succ_cons, List.drop_succ_cons, List.cons_append, ← h1], by rw [List.getElem?_cons_succ]; exact h2, h3, by rw [List.drop_succ_cons]; exact h4⟩
    | none =>
      rw [e] at h
      by_cases c : lineI y = l
      · simp [c] at h
        subst h
        exact ⟨y, rfl, rfl, c, fun z hz => last_none e z (by simpa using hz)⟩
      · simp [c] at h
/-- divided at an item -/
def joinI (a : P) (b : P) : It → P
  | .op o => binT o a b
  | .isI n => isT a n
  | .inI n ts => inT a ts n
  | _ => .non
def headNot : List It → Bool
  | .pre true :: _ => true
  | _ => false
def firstLine (ls : List Nat) (xs : List It) : Option Nat := ls.findSome? fun l => lastAt l xs
/-- the tree of a flat list -/
def divF : Nat → List It → P
  | 0, _ => .non
  | n + 1, xs =>
    let go := fun k => match xs[k]? with
      | some x => joinI (divF n (xs.take k)) (divF n (xs.drop (k + 1))) x
      | none => .non
    match firstLine [1, 2] xs with
    | some k => go k
    | none => if headNot xs then notT (divF n xs.tail) else match firstLine [4, 5, 6] xs with
      | some k => go k
      | none => match xs with
        | .pre _ :: r => ngT (divF n r)
        | .atom t :: _ => t
        | _ => .non
def toks (xs : List It) : List Tok' := xs.flatMap toksI
theorem toks_app (a b : List It) : toks (a ++ b) = toks a ++ toks b := by unfold toks; rw [List.flatMap_append]
theorem toks_cons (x : It) (b : List It) : toks (x :: b) = toksI x ++ toks b := rfl
theorem ok_lift : ∀ {xs : List It} {s : Nat}, okI s xs → headNot xs = false → s ≤ 2 → okI (max s 1) xs
  | [], s, h, _, hs => by cases h <;> omega
  | .pre true :: r, s, _, h, _ => by cases h
  | .pre false :: r, s, h, _, _ => ⟨by have := h.1; omega, h.2⟩
  | .atom t :: r, s, h, _, _ => ⟨by have := h.1; omega, h.2⟩
  | .isI _ :: r, s, h, _, hs => by have := h.1; omega
  | .inI _ _ :: r, s, h, _, hs => by have := h.1; omega
  | .op _ :: r, s, h, _, hs => by have := h.1; omega
theorem head_take {xs : List It} {k : Nat} (h : headNot xs = false) : headNot (xs.take k) = false := by
  cases k with
  | zero => rfl
  | succ k => cases xs with
    | nil => rfl
    | cons x xs => cases x with
      | pre n => cases n <;> first | rfl | cases h
      | _ => rfl
/-- the operators counted -/
def cntI : List It → Nat
  | [] => 0
  | .atom _ :: r => cntI r
  | _ :: r => cntI r + 1
theorem cnt_app : ∀ (a b : List It), cntI (a ++ b) = cntI a + cntI b
  | [], b => by simp [cntI]
  | x :: a, b => by cases x <;> simp only [List.cons_append, cntI, cnt_app a b] <;> omega
/-- trees by their operators -/
inductive Tr : Nat → P → Prop
  | atm {t} : AtOk t → Tr 0 t
  | bin {j k o a b} : isOp o → Tr j a → Tr k b → Tr (j + k + 1) (binT o a b)
  | not {k a} : Tr k a → Tr (k + 1) (notT a)
  | neg {k a} : Tr k a → Tr (k + 1) (ngT a)
  | isN {k a b} : Tr k a → Tr (k + 1) (isT a b)
  | inL {k a ts b} : Tr k a → ts ≠ [] → ts.length ≤ 2 → (∀ t ∈ ts, AtOk t) → Tr (k + 1) (inT a ts b)
  | le {j k t} : j ≤ k → Tr j t → Tr k t
theorem ok4_nil {r : List It} (h : okI 4 r) (hl : ∀ x ∈ r, 4 < lineI x ∨ lineI x = 0) (h9 : ∀ x ∈ r, lineI x ≠ 0) : r = [] := by
  cases r with
  | nil => rfl
  | cons x r =>
    have h1 := hl x List.mem_cons_self
    have h2 := h9 x List.mem_cons_self
    cases x with
    | pre n => cases n <;> have := h.1 <;> omega
    | atom t => have := h.1; omega
    | isI b => simp [lineI] at h1
    | inI b ts => simp [lineI] at h1
    | op o =>
      rcases h.1 with z | z
      · omega
      · simp only [lineI] at h1 h2; omega
end Law

namespace Law
open PySem PySem.Spec PyProof.Rows L2 Kb
theorem first_cons (l : Nat) (ls : List Nat) (xs : List It) : firstLine (l :: ls) xs = (match lastAt l xs with | some k => some k | none => firstLine ls xs) := by
  unfold firstLine
  rw [List.findSome?_cons]
  cases lastAt l xs <;> rfl
theorem first_nil (xs : List It) : firstLine [] xs = none := rfl
theorem ok_lines : ∀ {xs : List It} {s : Nat}, okI s xs → ∀ x ∈ xs, lineI x = 1 ∨ lineI x = 2 ∨ lineI x = 4 ∨ lineI x = 5 ∨ lineI x = 6 ∨ lineI x = 9
  | [], _, _, x, hx => by simp at hx
  | y :: r, s, h, x, hx => by
    rcases List.mem_cons.mp hx with rfl | hx2
    · cases x with
      | op o =>
        have := lv_le o h.2.1
        show lvS o = 1 ∨ lvS o = 2 ∨ lvS o = 4 ∨ lvS o = 5 ∨ lvS o = 6 ∨ lvS o = 9
        omega
      | _ => simp [lineI]
    · cases y with
      | pre n => cases n <;> exact ok_lines h.2 x hx2
      | atom t => exact ok_lines h.2.2 x hx2
      | isI b => exact ok_lines h.2 x hx2
      | inI b ts => exact ok_lines h.2.2.2.2 x hx2
      | op o => exact ok_lines h.2.2 x hx2
/-- where a list is divided -/
def PlAt (xs : List It) (k : Nat) : Prop := firstLine [1, 2] xs = some k ∨ (firstLine [1, 2] xs = none ∧ headNot xs = false ∧ firstLine [4, 5, 6] xs = some k)
inductive DivR : Nat → List It → P → Prop
  | op {n xs k o a b} : PlAt xs k → xs[k]? = some (.op o) → DivR n (xs.take k) a → DivR n (xs.drop (k + 1)) b → DivR (n + 1) xs (binT o a b)
  | isI {n xs k m a} : PlAt xs k → xs[k]? = some (.isI m) → DivR n (xs.take k) a → DivR (n + 1) xs (isT a m)
  | inI {n xs k m ts a} : PlAt xs k → xs[k]? = some (.inI m ts) → DivR n (xs.take k) a → DivR (n + 1) xs (inT a ts m)
  | not {n r a} : firstLine [1, 2] (.pre true :: r) = none → DivR n r a → DivR (n + 1) (.pre true :: r) (notT a)
  | neg {n r a} : firstLine [1, 2] (.pre false :: r) = none → firstLine [4, 5, 6] (.pre false :: r) = none → DivR n r a → DivR (n + 1) (.pre false :: r) (ngT a)
  | atm {n t r} : firstLine [1, 2] (.atom t :: r) = none → firstLine [4, 5, 6] (.atom t :: r) = none → DivR (n + 1) (.atom t :: r) t
theorem div_wr : ∀ (n : Nat) (xs : List It) (s L d : Nat), xs.length ≤ n → okI s xs → s ≤ 2 → 1 ≤ L → L ≤ 7 → (4 ≤ L → 1 ≤ s) → (1 ≤ s → 3 ≤ L) → (2 ≤ s → 7 ≤ L) → d + (3 - s) ≤ 12 → (∀ x ∈ xs, L ≤ lineI x) →
    Wr L d (divF n xs) (toks xs) ∧ Tr (cntI xs) (divF n xs) ∧ DivR n xs (divF n xs)
  | 0, xs, s, L, d, hl, ok, hs, _, _, _, _, _, _, _ => by
    have : xs = [] := List.length_eq_zero_iff.mp (by omega)
    subst this
    rcases ok with z | z <;> omega
  | n + 1, xs, s, L, d, hl, ok, hs, h1, h7, c1, c2, c3, hd, hL => by
    have ih := div_wr n
    have ln := ok_lines ok
    -- divided at an operator, or at is, in
    have step : ∀ l k, lastAt l xs = some k → (∀ x ∈ xs, l ≤ lineI x) → (l = 1 ∨ l = 2 ∨ l = 4 ∨ l = 5 ∨ l = 6) → (4 ≤ l → headNot xs = false) → PlAt xs k →
        Wr L d (match xs[k]? with | some x => joinI (divF n (xs.take k)) (divF n (xs.drop (k + 1))) x | none => .non) (toks xs) ∧ Tr (cntI xs) (match xs[k]? with | some x => joinI (divF n (xs.take k)) (divF n (xs.drop (k + 1))) x | none => .non) ∧ DivR (n + 1) xs (match xs[k]? with | some x => joinI (divF n (xs.take k)) (divF n (xs.drop (k + 1))) x | none => .non) := by
      intro l k hk hl2 hc hh hpl
      obtain ⟨x, e, ek, ex, hB⟩ := last_some hk
      rw [ek]
      have hkl : k < xs.length := (List.getElem?_eq_some_iff.mp ek).1
      have lA : (xs.take k).length ≤ n := by rw [List.length_take]; omega
      have lB : (xs.drop (k + 1)).length ≤ n := by rw [List.length_drop]; omega
      have hLl : L ≤ l := by rw [← ex]; exact hL x (List.mem_of_getElem? ek)
      have hA : ∀ y ∈ xs.take k, l ≤ lineI y := fun y hy => hl2 y (List.mem_of_mem_take hy)
      have hB2 : ∀ y ∈ xs.drop (k + 1), l + 1 ≤ lineI y := fun y hy => by
        have a := hl2 y (List.mem_of_mem_drop hy)
        have b := hB y hy
        omega
      have et : toks xs = toks (xs.take k) ++ (toksI x ++ toks (xs.drop (k + 1))) := by
        conv => lhs; rw [e]
        rw [toks_app, toks_cons]
      have ec : cntI xs = cntI (xs.take k) + cntI (x :: xs.drop (k + 1)) := by
        conv => lhs; rw [e]
        rw [cnt_app]
      rw [et, ec]
      rw [e] at ok
      cases x with
      | pre m => simp [lineI] at ex; omega
      | atom t => simp [lineI] at ex; omega
      | op o =>
        obtain ⟨okA, ho, okB⟩ := ok_split ok
        have ex : lvS o = l := ex
        rw [ex] at okB
        have a : Wr l d (divF n (xs.take k)) (toks (xs.take k)) ∧ Tr (cntI (xs.take k)) (divF n (xs.take k)) ∧ DivR n (xs.take k) (divF n (xs.take k)) := by
          by_cases h4 : 4 ≤ l
          · exact ih (xs.take k) (max s 1) l d lA (ok_lift okA (head_take (hh h4)) hs) (by omega) (by omega) (by omega) (by omega) (by omega) (by omega) (by omega) hA
          · exact ih (xs.take k) s l d lA okA hs (by omega) (by omega) (by omega) (by omega) (by omega) hd hA
        have b : Wr (l + 1) d (divF n (xs.drop (k + 1))) (toks (xs.drop (k + 1))) ∧ Tr (cntI (xs.drop (k + 1))) (divF n (xs.drop (k + 1))) ∧ DivR n (xs.drop (k + 1)) (divF n (xs.drop (k + 1))) := by
          by_cases h2 : l ≤ 2
          · rw [if_pos h2] at okB
            exact ih _ 0 (l + 1) d lB okB (by omega) (by omega) (by omega) (by omega) (by omega) (by omega) (by omega) hB2
          · rw [if_neg h2] at okB
            exact ih _ 1 (l + 1) d lB okB (by omega) (by omega) (by omega) (by omega) (by omega) (by omega) (by omega) hB2
        refine ⟨.bin ho (wd_op o) (by rw [ex]; exact hLl) (by rw [ex]; exact a.1) (by rw [ex]; exact b.1), ?_, .op hpl ek a.2.2 b.2.2⟩
        exact .le (by simp only [cntI]; omega) (.bin ho a.2.1 b.2.1)
      | isI m =>
        obtain ⟨okA, okB, _⟩ := ok_splitP rfl (fun _ z => by cases z) ok
        have ex : 4 = l := ex
        subst ex
        have a := ih (xs.take k) (max s 1) 4 d lA (ok_lift okA (head_take (hh (by omega))) hs) (by omega) (by omega) (by omega) (by omega) (by omega) (by omega) (by omega) hA
        have eB : xs.drop (k + 1) = [] := ok4_nil okB (fun y hy => .inl (by have := hB2 y hy; omega)) fun y hy => by have := hB2 y hy; omega
        refine ⟨?_, Tr.le (by rw [eB]; simp [cntI]) (Tr.isN (b := m) a.2.1), DivR.isI hpl ek a.2.2⟩
        show Wr L d (isT (divF n (xs.take k)) m) _
        rw [eB]
        have z := Wr.isN (L := L) (b := m) hLl a.1
        simpa [toks, toksI] using z
      | inI m ts =>
        obtain ⟨okA, okB, hts⟩ := ok_splitP rfl (fun _ z => by cases z) ok
        obtain ⟨t0, t1, t2⟩ := hts m ts rfl
        have ex : 4 = l := ex
        subst ex
        have a := ih (xs.take k) (max s 1) 4 d lA (ok_lift okA (head_take (hh (by omega))) hs) (by omega) (by omega) (by omega) (by omega) (by omega) (by omega) (by omega) hA
        have eB : xs.drop (k + 1) = [] := ok4_nil okB (fun y hy => .inl (by have := hB2 y hy; omega)) fun y hy => by have := hB2 y hy; omega
        refine ⟨?_, Tr.le (by rw [eB]; simp [cntI]) (Tr.inL (b := m) a.2.1 t0 t1 t2), DivR.inI hpl ek a.2.2⟩
        show Wr L d (inT (divF n (xs.take k)) ts m) _
        rw [eB]
        have z := Wr.inL (L := L) (b := m) hLl (by omega) a.1 (lst_wr (d := d + 1) t0 t2)
        simpa [toks, toksI] using z
    have f12 : firstLine [1, 2] xs = (match lastAt 1 xs with | some k => some k | none => match lastAt 2 xs with | some k => some k | none => none) := by simp only [first_cons, first_nil]
    have f456 : firstLine [4, 5, 6] xs = (match lastAt 4 xs with | some k => some k | none => match lastAt 5 xs with | some k => some k | none => match lastAt 6 xs with | some k => some k | none => none) := by simp only [first_cons, first_nil]
    unfold divF
    simp only [first_cons, first_nil]
    cases e1 : lastAt 1 xs with
    | some k => exact step 1 k e1 (fun x hx => by have := ln x hx; omega) (by omega) (by omega) (.inl (by rw [f12, e1]))
    | none =>
      have n1 := last_none e1
      cases e2 : lastAt 2 xs with
      | some k => exact step 2 k e2 (fun x hx => by have := ln x hx; have := n1 x hx; omega) (by omega) (by omega) (.inl (by rw [f12, e1, e2]))
      | none =>
        have n2 := last_none e2
        dsimp only
        by_cases hh : headNot xs = true
        · rw [if_pos hh]
          cases xs with
          | nil => cases hh
          | cons x r => cases x with
            | pre m => cases m with
              | true =>
                obtain ⟨s0, okr⟩ := ok
                subst s0
                have a := ih r 1 3 (d + 1) (by simp at hl; omega) okr (by omega) (by omega) (by omega) (by omega) (by omega) (by omega) (by omega) (fun y hy => by
                  have := ln y (List.mem_cons_of_mem _ hy); have := n1 y (List.mem_cons_of_mem _ hy); have := n2 y (List.mem_cons_of_mem _ hy); omega)
                exact ⟨.not (by omega) (by omega) a.1, .not a.2.1, .not (by rw [f12, e1, e2]) a.2.2⟩
              | false => cases hh
            | _ => cases hh
        · have hh : headNot xs = false := by simpa using hh
          rw [if_neg (by rw [hh]; exact Bool.false_ne_true)]
          cases e4 : lastAt 4 xs with
          | some k => exact step 4 k e4 (fun x hx => by have := ln x hx; have := n1 x hx; have := n2 x hx; omega) (by omega) (fun _ => hh) (.inr ⟨by rw [f12, e1, e2], hh, by rw [f456, e4]⟩)
          | none =>
            have n4 := last_none e4
            cases e5 : lastAt 5 xs with
            | some k => exact step 5 k e5 (fun x hx => by have := ln x hx; have := n1 x hx; have := n2 x hx; have := n4 x hx; omega) (by omega) (fun _ => hh) (.inr ⟨by rw [f12, e1, e2], hh, by rw [f456, e4, e5]⟩)
            | none =>
              have n5 := last_none e5
              cases e6 : lastAt 6 xs with
              | some k => exact step 6 k e6 (fun x hx => by have := ln x hx; have := n1 x hx; have := n2 x hx; have := n4 x hx; have := n5 x hx; omega) (by omega) (fun _ => hh) (.inr ⟨by rw [f12, e1, e2], hh, by rw [f456, e4, e5, e6]⟩)
              | none =>
                have n6 := last_none e6
                have h9 : ∀ x ∈ xs, lineI x = 9 := fun x hx => by have := ln x hx; have := n1 x hx; have := n2 x hx; have := n4 x hx; have := n5 x hx; have := n6 x hx; omega
                cases xs with
                | nil => rcases ok with z | z <;> omega
                | cons x r => cases x with
                  | pre m => cases m with
                    | true => cases hh
                    | false =>
                      obtain ⟨s1, okr⟩ := ok
                      have a := ih r 2 7 (d + 1) (by simp at hl; omega) okr (by omega) (by omega) (by omega) (by omega) (by omega) (by omega) (by omega) (fun y hy => by have := h9 y (List.mem_cons_of_mem _ hy); omega)
                      exact ⟨.neg (by omega) (by omega) a.1, .neg a.2.1, .neg (by rw [f12, e1, e2]) (by rw [f456, e4, e5, e6]) a.2.2⟩
                  | atom t =>
                    obtain ⟨_, ha, okr⟩ := ok
                    have er : r = [] := by
                      cases r with
                      | nil => rfl
                      | cons y r =>
                        have := h9 y (by simp)
                        cases y with
                        | pre m => cases m <;> have := okr.1 <;> omega
                        | atom t => have := okr.1; omega
                        | isI b => simp [lineI] at this
                        | inI b ts => simp [lineI] at this
                        | op o => have z := lv_le o okr.2.1; simp [lineI] at this; omega
                    refine ⟨?_, Tr.le (Nat.zero_le _) (Tr.atm ha), .atm (by rw [f12, e1, e2]) (by rw [f456, e4, e5, e6])⟩
                    subst er
                    have z := Wr.atm (L := L) (d := d) (by omega) ha.atm
                    simpa [toks, toksI] using z
                  | isI b => have := h9 _ List.mem_cons_self; simp [lineI] at this
                  | inI b ts => have := h9 _ List.mem_cons_self; simp [lineI] at this
                  | op o => have z := lv_le o ok.2.1; have := h9 _ List.mem_cons_self; simp [lineI] at this; omega
end Law

namespace Law
open PySem PySem.Spec PyProof.Rows L2 Kb SX TL
/-! ### every operator in parentheses -/
mutual
inductive Fb : Nat → P → List Tok' → Prop
  | bin {n o a b wa wb} : isOp o → Fw n a wa → Fw n b wb → Fb (n + 1) (binT o a b) (wa ++ opTok o :: wb)
  | not {n a wa} : Fw n a wa → Fb (n + 1) (notT a) (kw (Str.ofString "not") :: wa)
  | neg {n a wa} : Fw n a wa → Fb (n + 1) (ngT a) (sg (Str.ofString "-") :: wa)
  | isN {n a wa b} : Fw n a wa → Fb (n + 1) (isT a b) (wa ++ kw (Str.ofString "is") :: (orN b ++ [kw (Str.ofString "null")]))
  | inL {n a wa b ts} : Fw n a wa → ts ≠ [] → ts.length ≤ 2 → (∀ t ∈ ts, AtOk t) → Fb (n + 1) (inT a ts b) (wa ++ (orN b ++ kw (Str.ofString "in") :: opnT :: (lstT ts ++ [clsT])))
inductive Fw : Nat → P → List Tok' → Prop
  | atm {n t} : AtOk t → Fw n t (tokA t)
  | par {n t w} : Fb n t w → Fw n t (opnT :: (w ++ [clsT]))
end
mutual
theorem Fb.le : ∀ {m t w}, Fb m t w → ∀ {n}, m ≤ n → Fb n t w
  | _, _, _, .bin ho a b, n + 1, h => .bin ho (a.le (by omega)) (b.le (by omega))
  | _, _, _, .not a, n + 1, h => .not (a.le (by omega))
  | _, _, _, .neg a, n + 1, h => .neg (a.le (by omega))
  | _, _, _, .isN a, n + 1, h => .isN (a.le (by omega))
  | _, _, _, .inL a h0 h1 h2, n + 1, h => .inL (a.le (by omega)) h0 h1 h2
  | _, _, _, .bin _ _ _, 0, h => by omega
  | _, _, _, .not _, 0, h => by omega
  | _, _, _, .neg _, 0, h => by omega
  | _, _, _, .isN _, 0, h => by omega
  | _, _, _, .inL _ _ _ _, 0, h => by omega
theorem Fw.le : ∀ {m t w}, Fw m t w → ∀ {n}, m ≤ n → Fw n t w
  | _, _, _, .atm h, n, _ => .atm h
  | _, _, _, .par a, n, h => .par (a.le h)
end
theorem tokA_len {t : P} (h : AtOk t) : (tokA t).length ≤ 3 := by
  cases h with
  | int _ _ => exact Nat.le_of_ble_eq_true rfl
  | col _ => exact Nat.le_of_ble_eq_true rfl
  | col2 ha _ =>
    obtain ⟨c, w, rfl, _⟩ := ha
    exact Nat.le_of_ble_eq_true rfl
theorem lstT_len : ∀ {ts : List P}, (∀ t ∈ ts, AtOk t) → (lstT ts).length ≤ 4 * ts.length
  | [], _ => Nat.le_refl _
  | [t], h => by have := tokA_len (h t List.mem_cons_self); show (tokA t).length ≤ 4; omega
  | t :: u :: ts, h => by
    have a := tokA_len (h t List.mem_cons_self)
    have b := lstT_len (ts := u :: ts) fun x hx => h x (List.mem_cons_of_mem _ hx)
    show (tokA t ++ comT :: lstT (u :: ts)).length ≤ _
    rw [List.length_append, List.length_cons]
    simp only [List.length_cons] at *
    omega
theorem orN_len (b : Bool) : (orN b).length ≤ 1 := by cases b <;> exact Nat.le_of_ble_eq_true rfl
theorem fw_of {k : Nat} {t : P} (h : Tr k t) : ∃ w, Fw k t w ∧ w.length ≤ 18 * k + 3 ∧ ∀ d L, d + 2 * k ≤ 11 → L ≤ 8 → Wr L d t w := by
  induction h with
  | atm h => exact ⟨_, .atm h, by have := tokA_len h; omega, fun d L _ hl => .atm hl h.atm⟩
  | @bin j k o a b ho _ _ ia ib =>
    obtain ⟨wa, fa, la, ra⟩ := ia
    obtain ⟨wb, fb, lb, rb⟩ := ib
    have hv := lv_le o ho
    refine ⟨_, .par (.bin ho (fa.le (by omega)) (fb.le (by omega))), ?_, fun d L hd hl => .par hl (by omega) (.bin ho (wd_op o) (by omega) (ra (d + 1) _ (by omega) (by omega)) (rb (d + 1) _ (by omega) (by omega)))⟩
    simp only [List.length_cons, List.length_append, List.length_nil]
    omega
  | @not k a _ ia =>
    obtain ⟨wa, fa, la, ra⟩ := ia
    refine ⟨_, .par (.not fa), ?_, fun d L hd hl => .par hl (by omega) (.not (by omega) (by omega) (ra (d + 2) _ (by omega) (by omega)))⟩
    simp only [List.length_cons, List.length_append, List.length_nil]
    omega
  | @neg k a _ ia =>
    obtain ⟨wa, fa, la, ra⟩ := ia
    refine ⟨_, .par (.neg fa), ?_, fun d L hd hl => .par hl (by omega) (.neg (by omega) (by omega) (ra (d + 2) _ (by omega) (by omega)))⟩
    simp only [List.length_cons, List.length_append, List.length_nil]
    omega
  | @isN k a b _ ia =>
    obtain ⟨wa, fa, la, ra⟩ := ia
    refine ⟨_, .par (.isN (b := b) fa), ?_, fun d L hd hl => .par hl (by omega) (.isN (by omega) (ra (d + 1) _ (by omega) (by omega)))⟩
    have := orN_len b
    simp only [List.length_cons, List.length_append, List.length_nil]
    omega
  | @inL k a ts b _ h0 h1 h2 ia =>
    obtain ⟨wa, fa, la, ra⟩ := ia
    refine ⟨_, .par (.inL (b := b) fa h0 h1 h2), ?_, fun d L hd hl => .par hl (by omega) (.inL (by omega) (by omega) (ra (d + 1) _ (by omega) (by omega)) (lst_wr h0 h2))⟩
    have := orN_len b
    have := lstT_len h2
    simp only [List.length_cons, List.length_append, List.length_nil]
    omega
  | le hj _ ia =>
    obtain ⟨w, f, l, r⟩ := ia
    exact ⟨w, f.le hj, by omega, fun d L hd hl => r d L (by omega) hl⟩
/-! ### trees as data -/
theorem okP_up : ∀ {n : Nat} {p : P}, okP n p = true → okP (n + 1) p = true
  | n, .tup xs, h => by
    cases n with
    | zero => simp [okP] at h
    | succ n =>
      simp only [okP, Bool.and_eq_true, decide_eq_true_eq, List.all_eq_true] at h ⊢
      exact ⟨h.1, fun x hx => okP_up (h.2 x hx)⟩
  | n, .lst xs, h => by
    cases n with
    | zero => simp [okP] at h
    | succ n =>
      simp only [okP, Bool.and_eq_true, decide_eq_true_eq, List.all_eq_true] at h ⊢
      exact ⟨h.1, fun x hx => okP_up (h.2 x hx)⟩
  | n, .non, h => by simp [okP]
  | n, .bl _, h => by simp [okP]
  | n, .int _, h => by simp [okP]
  | n, .str s, h => by cases n <;> (simp only [okP] at h ⊢; exact h)
  | n, .ty _, h => by cases n <;> simp [okP] at h
  | n, .cls _, h => by cases n <;> simp [okP] at h
  | n, .ktp _, h => by cases n <;> simp [okP] at h
  | n, .ins _ _, h => by cases n <;> simp [okP] at h
theorem okP_le {m n : Nat} {p : P} (h : okP m p = true) (hl : m ≤ n) : okP n p = true := by
  induction hl with
  | refl => exact h
  | step _ ih => exact okP_up ih
def Pln (n : Nat) (p : P) : Prop := plainU p = true ∧ okP n p = true
theorem pln_tup {n : Nat} {xs : List P} (hl : xs.length ≤ 100) (h : ∀ x ∈ xs, Pln n x) : Pln (n + 1) (.tup xs) := by
  constructor
  · unfold plainU; exact plainUs_of fun x hx => (h x hx).1
  · simp only [okP, Bool.and_eq_true, decide_eq_true_eq, List.all_eq_true]
    exact ⟨by omega, fun x hx => (h x hx).2⟩
theorem Pln.le {m n : Nat} {p : P} (h : Pln m p) (hl : m ≤ n) : Pln n p := ⟨h.1, okP_le h.2 hl⟩
theorem pln_str {n : Nat} {s : Str} (h : s.length ≤ 100000) : Pln n (.str s) := ⟨rfl, by cases n <;> (simp only [okP]; exact decide_eq_true h)⟩
theorem pln_name {n : Nat} {a : P} (h : NameOk a) : Pln n a := by
  obtain ⟨c, w, rfl, _, _, hl, _⟩ := h
  exact pln_str (by rw [S_len]; simp; omega)
theorem at_pln {t : P} (h : AtOk t) : Pln 1 t := by
  cases h with
  | int _ _ => exact ⟨rfl, rfl⟩
  | col ha =>
    exact pln_tup (by simp) fun x hx => by
      simp only [List.mem_cons, List.not_mem_nil, or_false] at hx
      rcases hx with rfl | rfl | rfl
      · exact pln_str (by decide +kernel)
      · exact ⟨rfl, rfl⟩
      · exact pln_name ha
  | col2 ha hb =>
    exact pln_tup (by simp) fun x hx => by
      simp only [List.mem_cons, List.not_mem_nil, or_false] at hx
      rcases hx with rfl | rfl | rfl
      · exact pln_str (by decide +kernel)
      · exact pln_name ha
      · exact pln_name hb
theorem op_len : ∀ o ∈ opsOr ++ opsAnd ++ opsCmp ++ opsTot ++ opsPro, o.length ≤ 100000 := by decide +kernel
theorem tr_pln {k : Nat} {t : P} (h : Tr k t) : Pln (k + 3) t := by
  induction h with
  | atm h => exact (at_pln h).le (by omega)
  | @bin j k o a b ho _ _ ia ib =>
    exact pln_tup (n := j + k + 3) (by simp) fun x hx => by
      simp only [List.mem_cons, List.not_mem_nil, or_false] at hx
      rcases hx with rfl | rfl | rfl | rfl
      · exact pln_str (by decide +kernel)
      · exact pln_str (op_len o ho)
      · exact ia.le (by omega)
      · exact ib.le (by omega)
  | @not k a _ ia =>
    exact pln_tup (n := k + 3) (by simp) fun x hx => by
      simp only [List.mem_cons, List.not_mem_nil, or_false] at hx
      rcases hx with rfl | rfl
      · exact pln_str (by decide +kernel)
      · exact ia
  | @neg k a _ ia =>
    exact pln_tup (n := k + 3) (by simp) fun x hx => by
      simp only [List.mem_cons, List.not_mem_nil, or_false] at hx
      rcases hx with rfl | rfl
      · exact pln_str (by decide +kernel)
      · exact ia
  | @isN k a b _ ia =>
    exact pln_tup (n := k + 3) (by simp) fun x hx => by
      simp only [List.mem_cons, List.not_mem_nil, or_false] at hx
      rcases hx with rfl | rfl | rfl
      · exact pln_str (by decide +kernel)
      · exact ia
      · exact ⟨rfl, rfl⟩
  | @inL k a ts b _ h0 h1 h2 ia =>
    exact pln_tup (n := k + 3) (by simp) fun x hx => by
      simp only [List.mem_cons, List.not_mem_nil, or_false] at hx
      rcases hx with rfl | rfl | rfl | rfl
      · exact pln_str (by decide +kernel)
      · exact ia
      · exact (pln_tup (n := 1) (by omega) fun t ht => at_pln (h2 t ht)).le (by omega)
      · exact ⟨rfl, rfl⟩
  | le hj _ ia => exact ia.le (by omega)
theorem qst_pln {k : Nat} {t : P} (h : Pln k t) : Pln (k + 4) (qstT t) := by
  refine pln_tup (n := k + 3) (by simp) fun x hx => ?_
  simp only [List.mem_cons, List.not_mem_nil, or_false] at hx
  rcases hx with rfl | rfl | rfl | rfl
  · exact pln_str (by decide +kernel)
  · refine pln_tup (n := k + 2) (by simp) fun x hx => ?_
    simp only [List.mem_cons, List.not_mem_nil, or_false] at hx
    rcases hx with rfl | rfl | rfl | rfl | rfl | rfl | rfl
    · exact pln_str (by decide +kernel)
    · exact ⟨rfl, rfl⟩
    · refine pln_tup (n := k + 1) (by simp) fun x hx => ?_
      simp only [List.mem_cons, List.not_mem_nil, or_false] at hx
      subst hx
      refine pln_tup (n := k) (by simp) fun x hx => ?_
      simp only [List.mem_cons, List.not_mem_nil, or_false] at hx
      rcases hx with rfl | rfl
      · exact h
      · exact ⟨rfl, by cases k <;> rfl⟩
    all_goals exact ⟨rfl, rfl⟩
  · exact ⟨rfl, by simp [okP]⟩
  · exact ⟨rfl, rfl⟩
/-! ### the words of tokens -/
def wordT : Tok' → Str
  | (_, .str s) => s
  | (_, .int n) => ((toString n : String) : Str)
  | _ => Str.ofString ""
def cq (q : Tok') : List Nat := tl (wordT q)
def DrQ (q : Tok') : Prop := Tz.Drawn q.1 q.2 (cq q)
theorem dr_kw {s : Str} (h : s ∈ Tz.kws) : DrQ (kw s) := by
  obtain ⟨l, rfl, d⟩ := kw_drawn h
  exact d
theorem dr_sg : ∀ s ∈ [Str.ofString "(", Str.ofString ")", Str.ofString ",", Str.ofString ".", Str.ofString "+", Str.ofString "-", Str.ofString "*", Str.ofString "/", Str.ofString "=", Str.ofString "<>", Str.ofString "<", Str.ofString "<=", Str.ofString ">", Str.ofString ">=", Str.ofString "||"], DrQ (sg s) := by
  have all : ∀ s ∈ [Str.ofString "(", Str.ofString ")", Str.ofString ",", Str.ofString ".", Str.ofString "+", Str.ofString "-", Str.ofString "*", Str.ofString "/", Str.ofString "=", Str.ofString "<>", Str.ofString "<", Str.ofString "<=", Str.ofString ">", Str.ofString ">=", Str.ofString "||"], tl s ∈ ([[40], [41], [44], [46], [43], [45], [42], [47], [61], [60, 62], [60], [60, 61], [62], [62, 61], [124, 124]] : List (List Nat)) := by decide +kernel
  intro s hs
  have z := Tz.Drawn.sign (all s hs)
  rw [S_tl] at z
  exact z
theorem dr_op : ∀ o ∈ opsOr ++ opsAnd ++ opsCmp ++ opsTot ++ opsPro, DrQ (opTok o) := fun o ho => by
  have all : ∀ o ∈ opsOr ++ opsAnd ++ opsCmp ++ opsTot ++ opsPro, (o ∈ ([Str.ofString "or", Str.ofString "and", Str.ofString "mod"] : List Str) ∧ o ∈ Tz.kws) ∨ (o ∉ ([Str.ofString "or", Str.ofString "and", Str.ofString "mod"] : List Str) ∧ o ∈ [Str.ofString "(", Str.ofString ")", Str.ofString ",", Str.ofString ".", Str.ofString "+", Str.ofString "-", Str.ofString "*", Str.ofString "/", Str.ofString "=", Str.ofString "<>", Str.ofString "<", Str.ofString "<=", Str.ofString ">", Str.ofString ">=", Str.ofString "||"]) := by decide +kernel
  unfold opTok
  rcases all o ho with ⟨a, b⟩ | ⟨a, b⟩
  · rw [if_pos a]; exact dr_kw b
  · rw [if_neg a]; exact dr_sg o b
theorem num_small : ∀ k : Fin 1000, TL.numL k.val ≠ [] ∧ (TL.numL k.val).length ≤ 30 := by decide +kernel
theorem dr_int {n : Int} (h0 : 0 ≤ n) (h1 : n < 1000) : DrQ (inK, .int n) := by
  obtain ⟨k, rfl⟩ := Int.eq_ofNat_of_zero_le h0
  have hk : k < 1000 := by omega
  have e : wordT (inK, .int (k : Int)) = S (TL.numL k) := SX.num_S k
  unfold DrQ cq
  rw [e]
  have z := Tz.Drawn.int (w := TL.numL k) ?_ (numL_in k) ?_
  · rw [TL.numL_val] at z
    exact z
  · exact (num_small ⟨k, hk⟩).1
  · exact (num_small ⟨k, hk⟩).2
theorem dr_name {a : P} (h : NameOk a) : DrQ (nmK, a) := by
  obtain ⟨l, rfl, d⟩ := name_drawn h
  exact d
theorem dr_atom {t : P} (h : AtOk t) : ∀ q ∈ tokA t, DrQ q := by
  cases h with
  | int h0 h1 => intro q hq; rw [List.mem_singleton.mp hq]; exact dr_int h0 h1
  | col ha => intro q hq; rw [List.mem_singleton.mp hq]; exact dr_name ha
  | col2 ha hb =>
    obtain ⟨c, w, rfl, r⟩ := ha
    intro q hq
    have hq : q ∈ [(nmK, P.str (S (c :: w))), sg (Str.ofString "."), (nmK, _)] := hq
    simp only [List.mem_cons, List.not_mem_nil, or_false] at hq
    rcases hq with rfl | rfl | rfl
    · exact dr_name ⟨c, w, rfl, r⟩
    · exact dr_sg _ (by decide +kernel)
    · exact dr_name hb
theorem dr_lst : ∀ {ts : List P}, (∀ t ∈ ts, AtOk t) → ∀ q ∈ lstT ts, DrQ q
  | [], _, q, hq => by simp [lstT] at hq
  | [t], h, q, hq => dr_atom (h t List.mem_cons_self) q hq
  | t :: u :: ts, h, q, hq => by
    have hq : q ∈ tokA t ++ comT :: lstT (u :: ts) := hq
    rcases List.mem_append.mp hq with hq | hq
    · exact dr_atom (h t List.mem_cons_self) q hq
    · rcases List.mem_cons.mp hq with rfl | hq
      · exact dr_sg _ (by decide +kernel)
      · exact dr_lst (fun x hx => h x (List.mem_cons_of_mem _ hx)) q hq
theorem dr_orN (b : Bool) : ∀ q ∈ orN b, DrQ q := by
  cases b with
  | false => intro q hq; simp [orN] at hq
  | true => intro q hq; rw [List.mem_singleton.mp hq]; exact dr_kw (by decide +kernel)
theorem dr_is (b : Bool) : ∀ q ∈ kw (Str.ofString "is") :: (orN b ++ [kw (Str.ofString "null")]), DrQ q := fun q hq => by
  rcases List.mem_cons.mp hq with rfl | hq
  · exact dr_kw (by decide +kernel)
  · rcases List.mem_append.mp hq with hq | hq
    · exact dr_orN b q hq
    · rw [List.mem_singleton.mp hq]; exact dr_kw (by decide +kernel)
theorem dr_in (b : Bool) {ts : List P} (h : ∀ t ∈ ts, AtOk t) : ∀ q ∈ orN b ++ kw (Str.ofString "in") :: opnT :: (lstT ts ++ [clsT]), DrQ q := fun q hq => by
  rcases List.mem_append.mp hq with hq | hq
  · exact dr_orN b q hq
  · rcases List.mem_cons.mp hq with rfl | hq
    · exact dr_kw (by decide +kernel)
    · rcases List.mem_cons.mp hq with rfl | hq
      · exact dr_sg _ (by decide +kernel)
      · rcases List.mem_append.mp hq with hq | hq
        · exact dr_lst h q hq
        · rw [List.mem_singleton.mp hq]; exact dr_sg _ (by decide +kernel)
theorem dr_toks : ∀ {xs : List It} {s : Nat}, okI s xs → ∀ q ∈ toks xs, DrQ q
  | [], _, _, q, hq => by simp [toks] at hq
  | x :: r, s, h, q, hq => by
    rw [toks_cons] at hq
    rcases List.mem_append.mp hq with hq1 | hq2
    · cases x with
      | pre n => cases n with
        | true => rw [List.mem_singleton.mp hq1]; exact dr_kw (by decide +kernel)
        | false => rw [List.mem_singleton.mp hq1]; exact dr_sg _ (by decide +kernel)
      | atom t => exact dr_atom h.2.1 q hq1
      | isI b => exact dr_is b q hq1
      | inI b ts => exact dr_in b h.2.2.2.1 q hq1
      | op o => rw [List.mem_singleton.mp hq1]; exact dr_op o h.2.1
    · cases x with
      | pre n => cases n <;> exact dr_toks h.2 q hq2
      | atom t => exact dr_toks h.2.2 q hq2
      | isI b => exact dr_toks h.2 q hq2
      | inI b ts => exact dr_toks h.2.2.2.2 q hq2
      | op o => exact dr_toks h.2.2 q hq2
mutual
theorem Fb.dr : ∀ {n t w}, Fb n t w → ∀ q ∈ w, DrQ q
  | _, _, _, .bin ho a b, q, hq => by
    rcases List.mem_append.mp hq with hq | hq
    · exact a.dr q hq
    · rcases List.mem_cons.mp hq with rfl | hq
      · exact dr_op _ ho
      · exact b.dr q hq
  | _, _, _, .not a, q, hq => by
    rcases List.mem_cons.mp hq with rfl | hq
    · exact dr_kw (by decide +kernel)
    · exact a.dr q hq
  | _, _, _, .neg a, q, hq => by
    rcases List.mem_cons.mp hq with rfl | hq
    · exact dr_sg _ (by decide +kernel)
    · exact a.dr q hq
  | _, _, _, .isN a, q, hq => by
    rcases List.mem_append.mp hq with hq | hq
    · exact a.dr q hq
    · exact dr_is _ q hq
  | _, _, _, .inL a _ _ h, q, hq => by
    rcases List.mem_append.mp hq with hq | hq
    · exact a.dr q hq
    · exact dr_in _ h q hq
theorem Fw.dr : ∀ {n t w}, Fw n t w → ∀ q ∈ w, DrQ q
  | _, _, _, .atm h, q, hq => dr_atom h q hq
  | _, _, _, .par a, q, hq => by
    rcases List.mem_cons.mp hq with rfl | hq
    · exact dr_sg _ (by decide +kernel)
    · rcases List.mem_append.mp hq with hq | hq
      · exact a.dr q hq
      · rw [List.mem_singleton.mp hq]; exact dr_sg _ (by decide +kernel)
end
theorem dr_tv {q : Tok'} (h : DrQ q) : TokV q := by
  obtain ⟨k, v⟩ := q
  intro z
  unfold DrQ at h
  generalize cq (k, v) = l at h
  cases h with
  | word _ _ _ => exact ⟨_, rfl⟩
  | int _ _ _ => exact absurd z (show ¬ (Str.ofString "integer" = Str.ofString "keyword" ∨ Str.ofString "integer" = Str.ofString "sign") by decide +kernel)
  | text _ => exact ⟨_, rfl⟩
  | par _ _ _ => exact absurd z (show ¬ (Str.ofString "parameter" = Str.ofString "keyword" ∨ Str.ofString "parameter" = Str.ofString "sign") by decide +kernel)
  | sign _ => exact ⟨_, rfl⟩
/-! ### the text -/
theorem tks_cons {t : P} {ts : List P} {q : Tok'} {us : List Tok'} {a : Nat} (e : t = Tz.tokP q.1 q.2 a) (h : Tks ts us) : Tks (t :: ts) (q :: us) := by
  refine ⟨by simp [h.1], fun j p hj => ?_⟩
  cases j with
  | zero => cases hj; exact ⟨a, by rw [e]; rfl⟩
  | succ j => exact h.2 j p hj
theorem grown_list {g : List Nat} (hg : ∀ c ∈ g, Tz.inS Tz.blks c = true) (g0 : g ≠ []) : ∀ {us : List Tok'}, (∀ q ∈ us, DrQ q) → ∀ {p l : List Nat} {ts : List P}, Tz.Grown p l ts → ∃ p' ts', Tz.Grown p' (l ++ us.flatMap fun q => g ++ cq q) (ts ++ ts') ∧ Tks ts' us
  | [], _, p, l, ts, G => ⟨p, [], by simpa using G, rfl, fun j q e => by simp at e⟩
  | q :: us, h, p, l, ts, G => by
    have G2 := G.tok (h q List.mem_cons_self) hg fun _ => g0
    obtain ⟨p', ts', G3, k⟩ := grown_list hg g0 (us := us) (fun x hx => h x (List.mem_cons_of_mem _ hx)) G2
    refine ⟨p', Tz.tokP q.1 q.2 (l ++ g).length :: ts', ?_, tks_cons rfl k⟩
    simpa using G3
def selC : List Nat := cq (kw (Str.ofString "select"))
theorem toks_text {g : List Nat} (hg : ∀ c ∈ g, Tz.inS Tz.blks c = true) (g0 : g ≠ []) {us : List Tok'} (h : ∀ q ∈ us, DrQ q) : ∃ ts, Tz.Toks (selC ++ us.flatMap fun q => g ++ cq q) 0 ts none ∧ Tks ts (kw (Str.ofString "select") :: us) := by
  have G0 : Tz.Grown [] [] [] := Tz.grown_gap (g := []) (fun c hc => by simp at hc) []
  have ds : DrQ (kw (Str.ofString "select")) := dr_kw (by decide +kernel)
  have G1 := G0.tok ds (g := []) (fun c hc => by simp at hc) (fun z => by exact absurd z (by decide +kernel))
  obtain ⟨p', ts', G2, k⟩ := grown_list hg g0 h G1
  have z := G2.blanks (g := []) fun c hc => by simp at hc
  refine ⟨_, ?_, tks_cons (a := 0) rfl k⟩
  simpa [selC] using z
theorem joinL_cons (g c : List Nat) : ∀ cs : List (List Nat), joinL g (c :: cs) = c ++ cs.flatMap fun x => g ++ x
  | [] => by simp [joinL]
  | d :: cs => by
    have ih := joinL_cons g d cs
    rw [joinL, ih]
    simp
theorem join_words {g : List Nat} {us : List Tok'} (h : us ≠ []) : Txt.join (S g) (us.map wordT) = S (joinL g (us.map cq)) := by
  rw [join_eq]
  refine TL.ext_tl ?_
  rw [TL.tl_join, List.map_map]
  rfl
theorem text_eq {g : List Nat} {us : List Tok'} (h : us ≠ []) : selC ++ g ++ joinL g (us.map cq) = selC ++ us.flatMap fun q => g ++ cq q := by
  cases us with
  | nil => exact absurd rfl h
  | cons q us =>
    rw [List.map_cons, joinL_cons, List.flatMap_cons, List.append_assoc]
    simp [List.flatMap_map]
theorem text_len {g : List Nat} (hg : g.length ≤ 2) : ∀ {us : List Tok'}, (∀ q ∈ us, DrQ q) → (us.flatMap fun q => g ++ cq q).length ≤ 4004 * us.length
  | [], _ => by simp
  | q :: us, h => by
    have a := text_len hg (us := us) fun x hx => h x (List.mem_cons_of_mem _ hx)
    have b := (h q List.mem_cons_self).len
    rw [List.flatMap_cons, List.length_append, List.length_append, List.length_cons]
    omega
end Law

namespace Law
open PySem PySem.Spec PyProof.Rows L2 Kb SX TL
-- the steps that are tried: k_clsL a side condition; k_subL one step; k_places steps as long as one fits
section
variable {Pg : Program} {w : World} {K : PySem.W.Frag} {Θ : Tbs} {mg : Str → Option Value} {base : Heap}
abbrev st_atom : Stmt := (topS 79)
theorem sc_atom : FnScope ["state", "pick"] ["state"] (defScope st_atom) := ⟨rfl, rfl, rfl, by decide +kernel, rfl, by decide +kernel, by decide +kernel⟩
theorem ok_atom (A : DefAt K mg "_law_atom" st_atom ["state"]) (h__law_next : HasF Pg w K mg base CX0 1 "_law_next" ["state", "limit"] (spD K Θ W_next)) (h__law_name : HasF Pg w K mg base CX0 2 "_law_name" ["state"] (spD K Θ (W_draw NameOk))) :
    HasF Pg w K mg base CX0 3 "_law_atom" ["state"] (spD K Θ (W_draw AtOk)) := by
  have sc := sc_atom
  refine A.okD sc (W_draw AtOk) (fun ds h R ⟨_, _, _, _, _, e, _⟩ => by rw [e]; rfl) fun f cdv A outer s H E hr => ?_
  refine ⟨_, (pss_cons (ps_set (i := 1) sc.nd rfl (.inl rfl) (h__law_next.call (hr.mono (by first | decide | omega)) rfl pass0 (pa_cons (pv 0) (pa_cons pe_int pa_nil))))
  (pss_cons (ps_if (pt_cmpR (op_eqUK (K := K) (by rfl) hr.units) (pv 1) pe_int (nomark _)) (pss_one (ps_ret (pe_tup (pa_cons pe_str (pa_cons (h__law_next.call (hr.mono (by first | decide | omega)) rfl pass0 (pa_cons (pv 0) (pa_cons pe_int pa_nil))) pa_nil))))) pss_nil)
  (pss_cons (ps_if (pt_cmpR (op_eqUK (K := K) (by rfl) hr.units) (pv 1) pe_int (nomark _)) (pss_one (ps_ret (pe_tup (pa_cons pe_str (pa_cons (h__law_name.call (hr.mono (by first | decide | omega)) rfl pass0 (pa_cons (pv 0) pa_nil)) (pa_cons (h__law_name.call (hr.mono (by first | decide | omega)) rfl pass0 (pa_cons (pv 0) pa_nil)) pa_nil)))))) pss_nil)
  (pss_one (ps_ret (pe_tup (pa_cons pe_str (pa_cons pe_non (pa_cons (h__law_name.call (hr.mono (by first | decide | omega)) rfl pass0 (pa_cons (pv 0) pa_nil)) pa_nil))))))))), ?_⟩
  try dsimp only [cxOf]
  rintro ds h R ⟨n, ns, a, b, c, rfl, hn, ok, q⟩
  have hl : n < h.length := (List.getElem?_eq_some_iff.mp hn).1
  rw [← set_same hn]
  k_places
  refine next_i hl ok (by decide) (by decide) fun z a b c ok z0 z1 => ?_
  k_places
  refine ite_dec (fun e1 => ?_) (fun e1 => ?_)
  · k_places
    refine next_i hl ok (by decide) (by decide) fun v a b c ok v0 v1 => ?_
    k_places
    exact q _ _ _ _ ok (.int v0 v1)
  k_places
  refine ite_dec (fun e2 => ?_) (fun e2 => ?_)
  · k_places
    refine draw_i hl ok fun v1 a b c ok h1 => ?_
    k_places
    refine draw_i hl ok fun v2 a b c ok h2 => ?_
    k_places
    exact q _ _ _ _ ok (.col2 h1 h2)
  k_places
  refine draw_i hl ok fun v1 a b c ok h1 => ?_
  k_places
  exact q _ _ _ _ ok (.col h1)
def opsL : List Str := [Str.ofString "or", Str.ofString "and", Str.ofString "=", Str.ofString "<>", Str.ofString "<", Str.ofString "<=", Str.ofString ">", Str.ofString ">=", Str.ofString "+", Str.ofString "-", Str.ofString "||", Str.ofString "*", Str.ofString "/", Str.ofString "mod"]
theorem opsL_ok : ∀ o ∈ opsL, o ∈ opsOr ++ opsAnd ++ opsCmp ++ opsTot ++ opsPro := by decide +kernel
theorem opsL_8 : ∀ i : Fin 8, lvS (opsL.getD i.val (Str.ofString "or")) ≤ 4 := by decide +kernel
abbrev st_oper : Stmt := (topS 80)
theorem sc_oper : FnScope ["state", "postfix", "operators"] ["state", "postfix"] (defScope st_oper) := ⟨rfl, rfl, rfl, by decide +kernel, rfl, by decide +kernel, by decide +kernel⟩
def W_oper : Spc := fun ds h R => ∃ (n : Nat) (ns : List Int) (a b c : Int) (p : Bool), ds = [.own n, dB p] ∧ h[n]? = some (some (stO ns a b c)) ∧ OkSt ns a b c ∧
  ∀ (o : Str) (a' b' c' : Int), OkSt ns a' b' c' → isOp o → (p = true → lvS o ≤ 4) → R (dS o) (h.set n (some (stO ns a' b' c')))
theorem ok_oper (A : DefAt K mg "_law_operator" st_oper ["state", "postfix"]) (h__law_next : HasF Pg w K mg base CX0 1 "_law_next" ["state", "limit"] (spD K Θ W_next)) : HasF Pg w K mg base CX0 2 "_law_operator" ["state", "postfix"] (spD K Θ W_oper) := by
  have sc := sc_oper
  refine A.okD sc W_oper (fun ds h R ⟨_, _, _, _, _, _, e, _⟩ => by rw [e]; rfl) fun f cdv A outer s H E hr => ?_
  refine ⟨_, (pss_cons (ps_set (i := 2) sc.nd rfl (.inl rfl) (pe_lst (pa_cons pe_str (pa_cons pe_str (pa_cons pe_str (pa_cons pe_str (pa_cons pe_str (pa_cons pe_str (pa_cons pe_str (pa_cons pe_str (pa_cons pe_str (pa_cons pe_str (pa_cons pe_str (pa_cons pe_str (pa_cons pe_str (pa_cons pe_str pa_nil))))))))))))))))
  (pss_cons (ps_if (pt_truth (pv 1) (by intro _; rfl)) (pss_one (ps_ret (pe_ix (ix_seqK (K := K) (by rfl)) (pv 2) (h__law_next.call (hr.mono (by first | decide | omega)) rfl pass0 (pa_cons (pv 0) (pa_cons pe_int pa_nil))) (fun _ _ => rfl)))) pss_nil)
  (pss_one (ps_ret (pe_ix (ix_seqK (K := K) (by rfl)) (pv 2) (h__law_next.call (hr.mono (by first | decide | omega)) rfl pass0 (pa_cons (pv 0) (pa_cons pe_int pa_nil))) (fun _ _ => rfl)))))), ?_⟩
  try dsimp only [cxOf]
  rintro ds h R ⟨n, ns, a, b, c, p, rfl, hn, ok, q⟩
  have hl : n < h.length := (List.getElem?_eq_some_iff.mp hn).1
  rw [← set_same hn]
  have pick : ∀ i : Int, 0 ≤ i → i < 14 → ∃ o ∈ opsL, atI (opsL.map P.str) i = some (.str o) ∧ o = opsL.getD i.toNat (Str.ofString "or") := fun i i0 i1 => by
    have hk2 : i.toNat < opsL.length := by show i.toNat < 14; omega
    refine ⟨opsL[i.toNat], List.getElem_mem hk2, at_nat i.toNat (by omega) (by rw [List.getElem?_map, List.getElem?_eq_getElem hk2]; rfl), ?_⟩
    rw [List.getD_eq_getElem?_getD, List.getElem?_eq_getElem hk2]
    rfl
  k_places
  refine ve_lst ?_
  k_places
  refine ite_b (fun e => ?_) (fun e => ?_)
  · k_places
    refine next_i hl ok (by decide) (by decide) fun i a b c ok i0 i1 => ?_
    obtain ⟨o, ho, hat, eo⟩ := pick i i0 (by omega)
    refine v2_ixL hat ?_
    k_places
    refine q o a b c ok (opsL_ok o ho) fun _ => ?_
    rw [eo]
    exact opsL_8 ⟨i.toNat, by omega⟩
  · k_places
    refine next_i hl ok (by decide) (by decide) fun i a b c ok i0 i1 => ?_
    obtain ⟨o, ho, hat, eo⟩ := pick i i0 (by omega)
    refine v2_ixL hat ?_
    k_places
    exact q o a b c ok (opsL_ok o ho) fun z => by rw [e] at z; cases z
def itP : It → P
  | .pre true => .tup [.str (Str.ofString "prefix"), .str (Str.ofString "not")]
  | .pre false => .tup [.str (Str.ofString "prefix"), .str (Str.ofString "-")]
  | .atom t => .tup [.str (Str.ofString "atom"), t]
  | .isI b => .tup [.str (Str.ofString "is"), .bl b]
  | .inI b ts => .tup [.str (Str.ofString "in"), .bl b, .tup ts]
  | .op o => .tup [.str (Str.ofString "operator"), .str o]
/-- is, in -/
def PostOk (p : P) : Prop := ∃ x, p = itP x ∧ ((∃ b, x = .isI b) ∨ ∃ b ts, x = .inI b ts ∧ ts ≠ [] ∧ ts.length ≤ 2 ∧ ∀ t ∈ ts, AtOk t)
abbrev st_post : Stmt := (topS 81)
theorem sc_post : FnScope ["state", "pick", "items", "k"] ["state"] (defScope st_post) := ⟨rfl, rfl, rfl, by decide +kernel, rfl, by decide +kernel, by decide +kernel⟩
theorem ok_post (A : DefAt K mg "_law_postfix" st_post ["state"]) (m_range : mg "range" = none) (m_tuple : mg "tuple" = none) (h__law_next : HasF Pg w K mg base CX0 1 "_law_next" ["state", "limit"] (spD K Θ W_next)) (h__law_atom : HasF Pg w K mg base CX0 3 "_law_atom" ["state"] (spD K Θ (W_draw AtOk))) :
    HasF Pg w K mg base CX0 4 "_law_postfix" ["state"] (spD K Θ (W_draw PostOk)) := by
  have sc := sc_post
  refine A.okD sc (W_draw PostOk) (fun ds h R ⟨_, _, _, _, _, e, _⟩ => by rw [e]; rfl) fun f cdv A outer s H E hr => ?_
  refine ⟨_, (pss_cons (ps_set (i := 1) sc.nd rfl (.inl rfl) (h__law_next.call (hr.mono (by first | decide | omega)) rfl pass0 (pa_cons (pv 0) (pa_cons pe_int pa_nil))))
  (pss_cons (ps_if (pt_cmpR op_lt (pv 1) pe_int (nomark _)) (pss_one (ps_ret (pe_tup (pa_cons pe_str (pa_cons (pe_cmpR (op_eqUK (K := K) (by rfl) hr.units) (pv 1) pe_int (nomark _)) pa_nil))))) pss_nil)
  (pss_cons (ps_set (i := 2) sc.nd rfl (.inl rfl) (pe_callTy (call_tuple_ofK (K := K) (by rfl)) (by rfl) m_tuple (by decide +kernel) (pa_cons (pe_lc (own := [("k", 3)]) rfl sc.nd (pi_range1 rfl m_range (pa_cons (pe_op (op_addWK (K := K) (by rfl)) pe_int (h__law_next.call (hr.mono (by first | decide | omega)) rfl pass0 (pa_cons (pv 0) (pa_cons pe_int pa_nil)))) pa_nil)) (blkOk_by (N := ["state", "pick", "items", "k"]) (sc := defScope (topS 81)) (by decide +kernel)) (fun _ _ _ _ _ => (pg_name (i := 3) sc.nd rfl (.inl rfl))) (fun _ _ _ _ _ => pts_nil) (fun _ _ _ _ _ => (h__law_atom.call (hr.mono (by first | decide | omega)) rfl pass0 (pa_cons (pv 0) pa_nil)))) pa_nil)))
  (pss_one (ps_ret (pe_tup (pa_cons pe_str (pa_cons (pe_cmpR (op_eqUK (K := K) (by rfl) hr.units) (pv 1) pe_int (nomark _)) (pa_cons (pv 2) pa_nil))))))))), ?_⟩
  try dsimp only [cxOf]
  rintro ds h R ⟨n, ns, a, b, c, rfl, hn, ok, q⟩
  have hl : n < h.length := (List.getElem?_eq_some_iff.mp hn).1
  have sz := sizeLine_eq
  rw [← set_same hn]
  k_places
  refine next_i hl ok (by decide) (by decide) fun z a b c ok z0 z1 => ?_
  k_places
  refine ite_dec (fun e1 => ?_) (fun e1 => ?_)
  · k_places
    exact q _ _ _ _ ok ⟨.isI (decide (z = 1)), rfl, .inl ⟨_, rfl⟩⟩
  k_places
  refine ve_lcI tg_name ?_
  refine vi_range1 ?_
  k_places
  refine next_i hl ok (by decide) (by decide) fun m a b c ok m0 m1 => ?_
  k_places
  refine ⟨_, rfl, by omega, by omega, ?_⟩
  refine draws_of (S := AtOk) (n := n) (h0 := h) (m := (1 + m).toNat) hl ok (by omega) (fun i acc a b c T ok hT => ?_) fun vs a b c vl vok ok => ?_
  · have hl2 : n < (h ++ [accO acc]).length := by rw [List.length_append]; omega
    rw [app_assoc' hl]
    k_places
    refine draw_i hl2 ok fun v a b c ok hv => ?_
    rw [← app_assoc' hl]
    exact hT v a b c ok hv
  · k_places
    refine vc_tuple rfl ?_
    k_places
    refine q _ a b c ok ⟨.inI (decide (z = 3)) vs, rfl, .inr ⟨_, _, rfl, ?_, by omega, vok⟩⟩
    intro e
    rw [e] at vl
    simp at vl
    omega
end
end Law

namespace Law
open PySem PySem.Spec PyProof.Rows L2 Kb SX TL
-- the steps that are tried: k_clsL a side condition; k_subL one step; k_places steps as long as one fits
section
variable {Pg : Program} {w : World} {K : PySem.W.Frag} {Θ : Tbs} {mg : Str → Option Value} {base : Heap}
/-- tokens as words -/
def wdP (us : List Tok') : List P := us.map fun q => P.str (wordT q)
theorem wdP_app (a b : List Tok') : wdP (a ++ b) = wdP a ++ wdP b := by unfold wdP; rw [List.map_append]
theorem wdP_len (a : List Tok') : (wdP a).length = a.length := by unfold wdP; rw [List.length_map]
abbrev st_prw : Stmt := (topS 74)
theorem sc_prw : FnScope ["node", "full", "words"] ["node", "full"] (defScope st_prw) := ⟨rfl, rfl, rfl, by decide +kernel, rfl, by decide +kernel, by decide +kernel⟩
def W_prw : Spc := fun ds h R => ∃ (t : P) (b : Bool), ds = [.p t, dB b] ∧ AtOk t ∧ R (dL (wdP (tokA t))) h
theorem ok_prw (A : DefAt K mg "_law_primary_words" st_prw ["node", "full"]) (m_isinstance : mg "isinstance" = none) (m_str : mg "str" = none) : HasF Pg w K mg base CX0 1 "_law_primary_words" ["node", "full"] (spD K Θ W_prw) := by
  have sc := sc_prw
  refine A.okD sc W_prw (fun ds h R ⟨_, _, e, _⟩ => by rw [e]; rfl) fun f cdv A outer s H E hr => ?_
  refine ⟨_, (pss_cons (ps_if (pt_cmpR (op_eqUK (K := K) (by rfl) hr.units) (pe_ix (ix_seqK (K := K) (by rfl)) (pv 0) pe_int (fun _ _ => rfl)) pe_str (nomark _)) (pss_cons (ps_if (pt_val (pe_callB (call_isiUK (K := K) (by rfl)) (by rfl) m_isinstance (by decide +kernel) (pa_cons (pe_ix (ix_seqK (K := K) (by rfl)) (pv 0) pe_int (fun _ _ => rfl)) (pa_cons (pe_bltn (v := .ty "str") rfl m_str (by decide +kernel) rfl) pa_nil)))) pss_never pss_nil)
  (pss_cons (ps_if (PW.pt (pw_or (pt_cmpR op_isU (pe_ix (ix_seqK (K := K) (by rfl)) (pv 0) pe_int (fun _ _ => rfl)) pe_non (nomark _)) (pw_or (pt_cmpR op_isU (pe_ix (ix_seqK (K := K) (by rfl)) (pv 0) pe_int (fun _ _ => rfl)) pe_bl (nomark _)) (pw_or1 (pt_cmpR op_isU (pe_ix (ix_seqK (K := K) (by rfl)) (pv 0) pe_int (fun _ _ => rfl)) pe_bl (nomark _)))))) pss_never pss_nil)
  (pss_one (ps_ret (pe_lst (pa_cons (pe_callTy call_strA (by rfl) m_str (by decide +kernel) (pa_cons (pe_ix (ix_seqK (K := K) (by rfl)) (pv 0) pe_int (fun _ _ => rfl)) pa_nil)) pa_nil)))))) pss_nil)
  (pss_cons (ps_if (pt_cmpR (op_eqUK (K := K) (by rfl) hr.units) (pe_ix (ix_seqK (K := K) (by rfl)) (pv 0) pe_int (fun _ _ => rfl)) pe_str (nomark _)) pss_never pss_nil)
  (pss_cons (ps_if (pt_cmpR (op_eqUK (K := K) (by rfl) hr.units) (pe_ix (ix_seqK (K := K) (by rfl)) (pv 0) pe_int (fun _ _ => rfl)) pe_str (nomark _)) (pss_cons (ps_if (pt_cmpR op_isU (pe_ix (ix_seqK (K := K) (by rfl)) (pv 0) pe_int (fun _ _ => rfl)) pe_non (nomark _)) (pss_one (ps_ret (pe_lst (pa_cons (pe_ix (ix_seqK (K := K) (by rfl)) (pv 0) pe_int (fun _ _ => rfl)) pa_nil)))) pss_nil)
  (pss_one (ps_ret (pe_lst (pa_cons (pe_ix (ix_seqK (K := K) (by rfl)) (pv 0) pe_int (fun _ _ => rfl)) (pa_cons pe_str (pa_cons (pe_ix (ix_seqK (K := K) (by rfl)) (pv 0) pe_int (fun _ _ => rfl)) pa_nil))))))) pss_nil)
  (pss_cons (ps_if (pt_cmpR (op_eqUK (K := K) (by rfl) hr.units) (pe_ix (ix_seqK (K := K) (by rfl)) (pv 0) pe_int (fun _ _ => rfl)) pe_str (nomark _)) pss_never pss_nil)
  (pss_cons (ps_if (pt_cmpR (op_eqUK (K := K) (by rfl) hr.units) (pe_ix (ix_seqK (K := K) (by rfl)) (pv 0) pe_int (fun _ _ => rfl)) pe_str (nomark _)) pss_never pss_nil)
  (pss_cons (ps_if (pt_cmpR (op_eqUK (K := K) (by rfl) hr.units) (pe_ix (ix_seqK (K := K) (by rfl)) (pv 0) pe_int (fun _ _ => rfl)) pe_str (nomark _)) pss_never pss_nil)
  pss_never)))))), ?_⟩
  try dsimp only [cxOf]
  rintro ds h R ⟨t, b, rfl, ht, q⟩
  have sz := sizeLine_eq
  cases ht with
  | @int n h0 h1 =>
    k_places
    refine v2_ixT (at_nat 0 rfl rfl) ?_
    k_places
    refine v2_ixT (at_nat 1 rfl rfl) ?_
    k_places
    refine v2_ixT (at_nat 1 rfl rfl) ?_
    k_places
    refine v2_ixT (at_nat 1 rfl rfl) ?_
    k_places
    refine v2_ixT (at_nat 1 rfl rfl) ?_
    k_places
    refine ve_lst ?_
    k_places
    refine v2_ixT (at_nat 1 rfl rfl) ?_
    k_places
    refine vc_strA (p := .int n) (Nat.lt_trans (log2_small (n := n.natAbs) (by
      have e : (2 : Nat) ^ 200 = 1606938044258990275541962092341162602522202993782792835301376 := by decide +kernel
      rw [e]
      omega)) (by decide)) ?_
    k_places
    exact q
  | @col a ha =>
    k_places
    refine v2_ixT (at_nat 0 rfl rfl) ?_
    k_places
    refine v2_ixT (at_nat 0 rfl rfl) ?_
    k_places
    refine v2_ixT (at_nat 0 rfl rfl) ?_
    k_places
    refine v2_ixT (at_nat 1 rfl rfl) ?_
    k_places
    refine ve_lst ?_
    k_places
    refine v2_ixT (at_nat 2 rfl rfl) ?_
    obtain ⟨c, w, rfl, _⟩ := ha
    k_places
    exact q
  | @col2 a b ha hb =>
    obtain ⟨c, w, rfl, _⟩ := ha
    obtain ⟨c2, w2, rfl, _⟩ := hb
    k_places
    refine v2_ixT (at_nat 0 rfl rfl) ?_
    k_places
    refine v2_ixT (at_nat 0 rfl rfl) ?_
    k_places
    refine v2_ixT (at_nat 0 rfl rfl) ?_
    k_places
    refine v2_ixT (at_nat 1 rfl rfl) ?_
    k_places
    refine ve_lst ?_
    k_places
    refine v2_ixT (at_nat 1 rfl rfl) ?_
    k_places
    refine v2_ixT (at_nat 2 rfl rfl) ?_
    k_places
    exact q
/-! ### lists with commas -/
def joinCom : List (List P) → List P
  | [] => []
  | x :: xs => x ++ xs.flatMap fun y => P.str (Str.ofString ",") :: y
theorem joinCom_snoc (x : List P) (xs : List (List P)) (y : List P) : joinCom (x :: (xs ++ [y])) = joinCom (x :: xs) ++ P.str (Str.ofString ",") :: y := by
  simp [joinCom]
theorem joinCom_toks : ∀ ts : List P, joinCom (ts.map fun t => wdP (tokA t)) = wdP (lstT ts)
  | [] => rfl
  | [t] => by simp [joinCom, lstT]
  | t :: u :: ts => by
    have ih := joinCom_toks (u :: ts)
    have e : lstT (t :: u :: ts) = tokA t ++ comT :: lstT (u :: ts) := rfl
    have ec : wdP (comT :: lstT (u :: ts)) = P.str (Str.ofString ",") :: wdP (lstT (u :: ts)) := rfl
    rw [e, wdP_app, ec, ← ih]
    simp [joinCom]
abbrev st_lsd : Stmt := (topS 71)
theorem sc_lsd : FnScope ["lists", "words", "k"] ["lists"] (defScope st_lsd) := ⟨rfl, rfl, rfl, by decide +kernel, rfl, by decide +kernel, by decide +kernel⟩
def W_lsd : Spc := fun ds h R => ∃ (xs : List (List P)), ds = [dL (xs.map P.lst)] ∧ xs ≠ [] ∧ xs.length ≤ 10 ∧ (∀ x ∈ xs, x.length ≤ 1000) ∧ R (dL (joinCom xs)) h
theorem ok_lsd (A : DefAt K mg "_law_listed" st_lsd ["lists"]) (m_range : mg "range" = none) (m_len : mg "len" = none) : HasF Pg w K mg base CX0 1 "_law_listed" ["lists"] (spD K Θ W_lsd) := by
  have sc := sc_lsd
  refine A.okD sc W_lsd (fun ds h R ⟨_, e, _⟩ => by rw [e]; rfl) fun f cdv A outer s H E hr => ?_
  refine ⟨_, (pss_cons (ps_set (i := 1) sc.nd rfl (.inl rfl) (pe_ix (ix_seqK (K := K) (by rfl)) (pv 0) pe_int (fun _ _ => rfl)))
  (pss_cons (ps_for PassesOwn.never rfl (pi_range2 rfl m_range (pa_cons pe_int (pa_cons (pe_callB (call_lenK (K := K) (by rfl)) (by rfl) m_len (by decide +kernel) (pa_cons (pv 0) pa_nil)) pa_nil))) (pg_name (i := 2) sc.nd rfl (.inl rfl))
  (pss_one (ps_set (i := 1) sc.nd rfl (.inl rfl) (pe_op (op_addWK (K := K) (by rfl)) (pe_op (op_addWK (K := K) (by rfl)) (pv 1) (pe_lst (pa_cons pe_str pa_nil))) (pe_ix (ix_seqK (K := K) (by rfl)) (pv 0) (pv 2) (fun _ _ => rfl))))))
  (pss_one (ps_ret (pv 1))))), ?_⟩
  try dsimp only [cxOf]
  rintro ds h R ⟨xs, rfl, h0, hl, hx, q⟩
  have sz := sizeLine_eq
  cases xs with
  | nil => exact absurd rfl h0
  | cons x xs =>
  k_places
  refine v2_ixL (at_nat 0 rfl rfl) ?_
  refine vg_name ?_
  refine vs_seq ?_
  refine vs_for (vi_range2 ?_)
  k_places
  have jl : ∀ j, (joinCom (x :: xs.take j)).length ≤ 20000 := fun j => by
    have e : ∀ ys : List (List P), ys.length ≤ 10 → (∀ y ∈ ys, y.length ≤ 1000) → (ys.flatMap fun y => P.str (Str.ofString ",") :: y).length ≤ 1001 * ys.length := fun ys => by
      induction ys with
      | nil => intro _ _; simp
      | cons y ys ih =>
        intro l h
        have a := ih (by simp at l; omega) fun z hz => h z (List.mem_cons_of_mem _ hz)
        have b := h y List.mem_cons_self
        rw [List.flatMap_cons, List.length_append, List.length_cons, List.length_cons]
        omega
    simp only [List.length_cons] at hl
    have a := e (xs.take j) (by rw [List.length_take]; omega) fun y hy => hx y (List.mem_cons_of_mem _ (List.mem_of_mem_take hy))
    have b := hx x List.mem_cons_self
    have c : (xs.take j).length ≤ 9 := by rw [List.length_take]; omega
    unfold joinCom
    rw [List.length_append]
    omega
  have lx : (List.map P.lst (x :: xs)).length = xs.length + 1 := by simp
  simp only [List.length_cons] at hl
  rw [lx]
  refine ⟨1, _, rfl, by omega, ?_⟩
  refine ⟨fun j env h' => ∃ o : Option D, env = [some (dL ((x :: xs).map P.lst)), some (dL (joinCom (x :: xs.take j))), o] ∧ h' = h, ?_, ?_, ?_, ?_⟩
  · refine ⟨none, ?_, rfl⟩
    have e : joinCom (x :: xs.take 0) = x := by simp [joinCom]
    rw [e]
    rfl
  · exact fun _ _ _ _ => trivial
  · rintro j d env h' hd ⟨o, rfl, rfl⟩
    obtain ⟨hj, rfl⟩ := rng_get hd
    have hj2 : j < xs.length := by omega
    have g1 : atI ((x :: xs).map P.lst) (1 + (j : Int)) = some (.lst xs[j]) := at_nat (j + 1) (by omega) (by rw [List.getElem?_map, List.getElem?_cons_succ, List.getElem?_eq_getElem hj2]; rfl)
    have b1 := jl j
    have b2 := hx xs[j] (List.mem_cons_of_mem _ (List.getElem_mem hj2))
    k_places
    refine ve_lst ?_
    k_places
    refine v2_addWL (by simp; omega) ?_
    k_places
    refine v2_ixL g1 ?_
    refine v2_addWL (by simp; omega) ?_
    k_places
    refine ⟨some (dI (1 + (j : Int))), ?_, rfl⟩
    rw [List.take_add_one, List.getElem?_eq_getElem hj2]
    show _ = [_, some (dL (joinCom (x :: (xs.take j ++ [xs[j]])))), _]
    rw [joinCom_snoc, List.append_assoc]
    rfl
  · rintro env h' ⟨o, rfl, rfl⟩
    rw [rng_len]
    have e : xs.take ((((xs.length + 1 : Nat) : Int) - 1).toNat) = xs := List.take_of_length_le (by omega)
    rw [e]
    k_places
    exact q
/-! ### an item as words -/
abbrev st_itx : Stmt := (topS 83)
theorem sc_itx : FnScope ["item", "atoms", "atom"] ["item"] (defScope st_itx) := ⟨rfl, rfl, rfl, by decide +kernel, rfl, by decide +kernel, by decide +kernel⟩
/-- items whose parts are as they should be -/
inductive ItOk : It → Prop
  | pre {n} : ItOk (.pre n)
  | atom {t} : AtOk t → ItOk (.atom t)
  | isI {b} : ItOk (.isI b)
  | inI {b ts} : ts ≠ [] → ts.length ≤ 2 → (∀ t ∈ ts, AtOk t) → ItOk (.inI b ts)
  | op {o} : isOp o → ItOk (.op o)
theorem ok_items : ∀ {xs : List It} {s : Nat}, okI s xs → ∀ x ∈ xs, ItOk x
  | [], _, _, x, hx => by simp at hx
  | y :: r, s, h, x, hx => by
    rcases List.mem_cons.mp hx with rfl | hx2
    · cases x with
      | pre n => exact .pre
      | atom t => exact .atom h.2.1
      | isI b => exact .isI
      | inI b ts => exact .inI h.2.1 h.2.2.1 h.2.2.2.1
      | op o => exact .op h.2.1
    · cases y with
      | pre n => cases n <;> exact ok_items h.2 x hx2
      | atom t => exact ok_items h.2.2 x hx2
      | isI b => exact ok_items h.2 x hx2
      | inI b ts => exact ok_items h.2.2.2.2 x hx2
      | op o => exact ok_items h.2.2 x hx2
theorem fm_map {α β : Type} (f : α → β) : ∀ xs : List α, (List.range xs.length).filterMap (fun i => (xs[i]?).map f) = xs.map f
  | [] => rfl
  | x :: xs => by
    rw [List.length_cons, List.range_succ_eq_map, List.filterMap_cons]
    simp only [List.getElem?_cons_zero, List.filterMap_map]
    have ih := fm_map f xs
    have e : ((fun i => ((x :: xs)[i]?).map f) ∘ Nat.succ) = fun i => (xs[i]?).map f := rfl
    rw [e, ih]
    rfl
def W_itx : Spc := fun ds h R => ∃ x : It, ds = [.p (itP x)] ∧ ItOk x ∧ R (dL (wdP (toksI x))) h
theorem ok_itx (A : DefAt K mg "_law_item_text" st_itx ["item"]) (m_int : mg "int" = none) (h__law_primary_words : HasF Pg w K mg base CX0 1 "_law_primary_words" ["node", "full"] (spD K Θ W_prw)) (h__law_listed : HasF Pg w K mg base CX0 1 "_law_listed" ["lists"] (spD K Θ W_lsd)) :
    HasF Pg w K mg base CX0 2 "_law_item_text" ["item"] (spD K Θ W_itx) := by
  have sc := sc_itx
  refine A.okD sc W_itx (fun ds h R ⟨_, e, _⟩ => by rw [e]; rfl) fun f cdv A outer s H E hr => ?_
  refine ⟨_, (pss_cons (ps_if (pt_cmpR (op_eqUK (K := K) (by rfl) hr.units) (pe_ix (ix_seqK (K := K) (by rfl)) (pv 0) pe_int (fun _ _ => rfl)) pe_str (nomark _)) (pss_one (ps_ret (h__law_primary_words.call (hr.mono (by first | decide | omega)) rfl pass0 (pa_cons (pe_ix (ix_seqK (K := K) (by rfl)) (pv 0) pe_int (fun _ _ => rfl)) (pa_cons pe_bl pa_nil))))) pss_nil)
  (pss_cons (ps_if (pt_cmpR (op_eqUK (K := K) (by rfl) hr.units) (pe_ix (ix_seqK (K := K) (by rfl)) (pv 0) pe_int (fun _ _ => rfl)) pe_str (nomark _)) (pss_one (ps_ret (pe_op (op_addWK (K := K) (by rfl)) (pe_op (op_addWK (K := K) (by rfl)) (pe_lst (pa_cons pe_str pa_nil)) (pe_op op_rep (pe_lst (pa_cons pe_str pa_nil)) (pe_callTy call_intU (by rfl) m_int (by decide +kernel) (pa_cons (pe_ix (ix_seqK (K := K) (by rfl)) (pv 0) pe_int (fun _ _ => rfl)) pa_nil)))) (pe_lst (pa_cons pe_str pa_nil))))) pss_nil)
  (pss_cons (ps_if (pt_cmpR (op_eqUK (K := K) (by rfl) hr.units) (pe_ix (ix_seqK (K := K) (by rfl)) (pv 0) pe_int (fun _ _ => rfl)) pe_str (nomark _)) (pss_cons (ps_set (i := 1) sc.nd rfl (.inl rfl) (h__law_listed.call (hr.mono (by first | decide | omega)) rfl pass0 (pa_cons (pe_lc (own := [("atom", 2)]) rfl sc.nd (pi_seqK (K := K) (by rfl) (pe_ix (ix_seqK (K := K) (by rfl)) (pv 0) pe_int (fun _ _ => rfl))) (blkOk_by (N := ["item", "atoms", "atom"]) (sc := defScope (topS 83)) (by decide +kernel)) (fun _ _ _ _ _ => (pg_name (i := 2) sc.nd rfl (.inl rfl))) (fun _ _ _ _ _ => pts_nil) (fun _ _ _ _ _ => (h__law_primary_words.call (hr.mono (by first | decide | omega)) rfl pass0 (pa_cons (pv 2) (pa_cons pe_bl pa_nil))))) pa_nil)))
  (pss_one (ps_ret (pe_op (op_addWK (K := K) (by rfl)) (pe_op (op_addWK (K := K) (by rfl)) (pe_op (op_addWK (K := K) (by rfl)) (pe_op op_rep (pe_lst (pa_cons pe_str pa_nil)) (pe_callTy call_intU (by rfl) m_int (by decide +kernel) (pa_cons (pe_ix (ix_seqK (K := K) (by rfl)) (pv 0) pe_int (fun _ _ => rfl)) pa_nil))) (pe_lst (pa_cons pe_str (pa_cons pe_str pa_nil)))) (pv 1)) (pe_lst (pa_cons pe_str pa_nil)))))) pss_nil)
  (pss_one (ps_ret (pe_lst (pa_cons (pe_ix (ix_seqK (K := K) (by rfl)) (pv 0) pe_int (fun _ _ => rfl)) pa_nil))))))), ?_⟩
  try dsimp only [cxOf]
  rintro ds h R ⟨x, rfl, hx, q⟩
  have sz := sizeLine_eq
  refine vs_fin ?_
  have rep : ∀ b : Bool, (List.replicate ((if b = true then 1 else 0 : Int)).toNat [P.str (Str.ofString "not")]).flatten = wdP (orN b) := fun b => by cases b <;> rfl
  cases hx with
  | atom ht =>
    k_places
    refine v2_ixT (at_nat 0 rfl rfl) ?_
    k_places
    refine v2_ixT (at_nat 1 rfl rfl) ?_
    k_places
    exact ⟨_, false, rfl, ht, fin_p0 q⟩
  | @isI b =>
    k_places
    refine v2_ixT (at_nat 0 rfl rfl) ?_
    k_places
    refine v2_ixT (at_nat 0 rfl rfl) ?_
    k_places
    refine ve_lst ?_
    k_places
    refine ve_lstO ?_
    k_places
    refine ⟨by simp; omega, ?_⟩
    k_places
    refine v2_ixT (at_nat 1 rfl rfl) ?_
    k_places
    refine v2_repF (xs := [P.str (Str.ofString "not")]) (by simp) (by cases b <;> decide) (by cases b <;> simp <;> omega) ?_
    rw [rep]
    have lo := orN_len b
    refine v2_addWL (by rw [wdP_len]; simp; omega) ?_
    k_places
    refine ve_lst ?_
    k_places
    refine v2_addWL (by rw [List.length_append, wdP_len]; simp; omega) ?_
    k_places
    have e : [P.str (Str.ofString "is")] ++ wdP (orN b) ++ [P.str (Str.ofString "null")] = wdP (toksI (.isI b)) := by
      show _ = wdP (kw (Str.ofString "is") :: (orN b ++ [kw (Str.ofString "null")]))
      have e2 : ∀ (q : Tok') (us : List Tok'), wdP (q :: us) = P.str (wordT q) :: wdP us := fun _ _ => rfl
      rw [e2, wdP_app]
      rfl
    rw [e]
    exact fin_p _ q
  | @inI b ts h0 h1 h2 =>
    k_places
    refine v2_ixT (at_nat 0 rfl rfl) ?_
    k_places
    refine v2_ixT (at_nat 0 rfl rfl) ?_
    k_places
    refine v2_ixT (at_nat 0 rfl rfl) ?_
    k_places
    refine ve_lc tg_name ?_
    refine vi_seqT ?_
    k_places
    refine v2_ixT (at_nat 2 rfl rfl) ?_
    refine ⟨ts, rfl, fun i => (ts[i]?).map fun t => P.lst (wdP (tokA t)), ?_, fun _ => trivial, ?_, ?_⟩
    · rw [List.length_map]; omega
    · intro i d acc hd
      rw [List.getElem?_map] at hd
      cases e : ts[i]? with
      | none => rw [e] at hd; cases hd
      | some t =>
        rw [e] at hd; cases hd
        refine vg_name ⟨rfl, vt_yes ⟨rfl, ite_t ?_⟩⟩
        k_places
        refine ⟨t, false, rfl, h2 t (List.mem_of_getElem? e), ?_⟩
        exact ⟨rfl, _, rfl, by show (ts[i]?).map _ = _; rw [e]; rfl⟩
    · rw [List.length_map]
      have em : (List.range ts.length).filterMap (fun i => (ts[i]?).map fun t => P.lst (wdP (tokA t))) = (ts.map fun t => wdP (tokA t)).map P.lst := by
        rw [fm_map]
        rw [List.map_map]; rfl
      rw [em]
      k_places
      refine ⟨_, rfl, by simpa using h0, by rw [List.length_map]; omega, fun x hx => ?_, ?_⟩
      · obtain ⟨t, ht, rfl⟩ := List.mem_map.mp hx
        have := tokA_len (h2 t ht)
        rw [wdP_len]; omega
      rw [joinCom_toks]
      k_places
      refine ve_lstO ?_
      k_places
      refine ⟨by simp; omega, ?_⟩
      k_places
      refine v2_ixT (at_nat 1 rfl rfl) ?_
      k_places
      refine v2_repF (xs := [P.str (Str.ofString "not")]) (by simp) (by cases b <;> decide) (by cases b <;> simp <;> omega) ?_
      rw [rep]
      have lo := orN_len b
      have ll := lstT_len h2
      k_places
      refine ve_lst ?_
      k_places
      refine v2_addWL (by rw [wdP_len]; simp; omega) ?_
      k_places
      refine v2_addWL (by rw [List.length_append, wdP_len, wdP_len]; simp; omega) ?_
      k_places
      refine ve_lst ?_
      k_places
      refine v2_addWL (by rw [List.length_append, List.length_append, wdP_len, wdP_len]; simp; omega) ?_
      k_places
      have e : wdP (orN b) ++ [P.str (Str.ofString "in"), P.str (Str.ofString "(")] ++ wdP (lstT ts) ++ [P.str (Str.ofString ")")] = wdP (toksI (.inI b ts)) := by
        show _ = wdP (orN b ++ kw (Str.ofString "in") :: opnT :: (lstT ts ++ [clsT]))
        have e2 : ∀ (q : Tok') (us : List Tok'), wdP (q :: us) = P.str (wordT q) :: wdP us := fun _ _ => rfl
        rw [wdP_app, e2, e2, wdP_app]
        simp only [List.append_assoc, List.cons_append, List.nil_append]
        rfl
      rw [e]
      exact fin_p _ q
  | @pre n =>
    cases n
    · k_places
      refine v2_ixT (at_nat 0 rfl rfl) ?_
      k_places
      refine v2_ixT (at_nat 0 rfl rfl) ?_
      k_places
      refine v2_ixT (at_nat 0 rfl rfl) ?_
      k_places
      refine ve_lst ?_
      k_places
      refine v2_ixT (at_nat 1 rfl rfl) ?_
      k_places
      exact fin_p0 q
    · k_places
      refine v2_ixT (at_nat 0 rfl rfl) ?_
      k_places
      refine v2_ixT (at_nat 0 rfl rfl) ?_
      k_places
      refine v2_ixT (at_nat 0 rfl rfl) ?_
      k_places
      refine ve_lst ?_
      k_places
      refine v2_ixT (at_nat 1 rfl rfl) ?_
      k_places
      exact fin_p0 q
  | @op o ho =>
    k_places
    refine v2_ixT (at_nat 0 rfl rfl) ?_
    k_places
    refine v2_ixT (at_nat 0 rfl rfl) ?_
    k_places
    refine v2_ixT (at_nat 0 rfl rfl) ?_
    k_places
    refine ve_lst ?_
    k_places
    refine v2_ixT (at_nat 1 rfl rfl) ?_
    k_places
    have e : wordT (opTok o) = o := by unfold opTok; split <;> rfl
    have e3 : wdP (toksI (.op o)) = [P.str o] := by show [P.str (wordT (opTok o))] = _; rw [e]
    rw [e3] at q
    exact fin_p0 q
end
end Law

namespace Law
open PySem PySem.Spec PyProof.Rows L2 Kb SX TL
-- the steps that are tried: k_clsL a side condition; k_subL one step; k_places steps as long as one fits
section
variable {Pg : Program} {w : World} {K : PySem.W.Frag} {Θ : Tbs} {mg : Str → Option Value} {base : Heap}
abbrev st_fws : Stmt := (topS 84)
theorem sc_fws : FnScope ["items", "words", "item"] ["items"] (defScope st_fws) := ⟨rfl, rfl, rfl, by decide +kernel, rfl, by decide +kernel, by decide +kernel⟩
def ItsAt (d : D) (h : Hs) (xs : List It) : Prop := (∃ n, d = .own n ∧ h[n]? = some (some (.lst ((xs.map itP).map D.p)))) ∨ d = dL (xs.map itP)
def W_fws : Spc := fun ds h R => ∃ (d : D) (xs : List It), ds = [d] ∧ ItsAt d h xs ∧ (∀ x ∈ xs, ItOk x) ∧ (toks xs).length ≤ 100000 ∧ R (dL (wdP (toks xs))) h
theorem toks_take_le (xs : List It) (j : Nat) : (toks (xs.take j)).length ≤ (toks xs).length := by
  have e : toks xs = toks (xs.take j) ++ toks (xs.drop j) := by rw [← toks_app, List.take_append_drop]
  rw [e, List.length_append]; omega
theorem ok_fws (A : DefAt K mg "_law_flat_words" st_fws ["items"]) (h__law_item_text : HasF Pg w K mg base CX0 2 "_law_item_text" ["item"] (spD K Θ W_itx)) : HasF Pg w K mg base CX0 3 "_law_flat_words" ["items"] (spD K Θ W_fws) := by
  have sc := sc_fws
  refine A.okD sc W_fws (fun ds h R ⟨_, _, e, _⟩ => by rw [e]; rfl) fun f cdv A outer s H E hr => ?_
  refine ⟨_, (pss_cons (ps_set (i := 1) sc.nd rfl (.inl rfl) (pe_lst pa_nil))
  (pss_cons (ps_for PassesOwn.never rfl (pi_seqK (K := K) (by rfl) (pv 0)) (pg_name (i := 2) sc.nd rfl (.inl rfl))
  (pss_one (ps_set (i := 1) sc.nd rfl (.inl rfl) (pe_op (op_addWK (K := K) (by rfl)) (pv 1) (h__law_item_text.call (hr.mono (by first | decide | omega)) rfl pass0 (pa_cons (pv 2) pa_nil))))))
  (pss_one (ps_ret (pv 1))))), ?_⟩
  try dsimp only [cxOf]
  rintro ds h R ⟨d, xs, rfl, hd, hx, hl, q⟩
  have sz := sizeLine_eq
  k_subL
  k_places
  refine ve_lst ?_
  k_places
  refine vs_for (vi_seqOL ?_)
  k_places
  refine ⟨xs.map itP, hd, ?_⟩
  refine ⟨fun j env h' => ∃ o : Option D, env = [some d, some (dL (wdP (toks (xs.take j)))), o] ∧ h' = h, ?_, ?_, ?_, ?_⟩
  · exact ⟨none, rfl, rfl⟩
  · rintro j env h' ⟨o, _, rfl⟩ n e
    rcases hd with ⟨m, e2, hm⟩ | e2
    · rw [e2] at e; cases e; exact hm
    · rw [e2] at e; cases e
  · rintro j y env h' hy ⟨o, rfl, rfl⟩
    rw [List.map_map, List.getElem?_map] at hy
    cases ex : xs[j]? with
    | none => rw [ex] at hy; cases hy
    | some x =>
      rw [ex] at hy; cases hy
      have en : toks (xs.take (j + 1)) = toks (xs.take j) ++ toksI x := by
        rw [List.take_add_one, ex, toks_app]
        show _ ++ (toksI x ++ []) = _
        rw [List.append_nil]
      have l1 := toks_take_le xs (j + 1)
      rw [en, List.length_append] at l1
      k_places
      refine ⟨x, rfl, hx x (List.mem_of_getElem? ex), ?_⟩
      refine v2_addWL (by rw [wdP_len, wdP_len]; omega) ?_
      k_places
      exact ⟨_, by rw [en, wdP_app]; rfl, rfl⟩
  · rintro env h' ⟨o, rfl, rfl⟩
    have e : xs.take ((xs.map itP).map D.p).length = xs := by rw [List.length_map, List.length_map, List.take_length]
    rw [e]
    k_places
    exact q
/-! ### lines -/
inductive LvR : P → Nat → Prop
  | bin2 {o} : isOp o → LvR (.tup [.str (Str.ofString "binary"), .str o]) (lvS o)
  | bin {o a b} : isOp o → LvR (binT o a b) (lvS o)
  | isN {a b} : LvR (isT a b) 4
  | inL {a ts b} : LvR (inT a ts b) 4
  | not {a} : LvR (notT a) 3
  | neg {a} : LvR (ngT a) 7
  | atm {t} : AtOk t → LvR t 8
theorem lv_cases : ∀ o ∈ opsOr ++ opsAnd ++ opsCmp ++ opsTot ++ opsPro, (o ∈ ([Str.ofString "or", Str.ofString "and"] : List Str) ∧ (lvS o : Int) = 1 + (if decide (o = Str.ofString "and") = true then 1 else 0)) ∨
    (o ∉ ([Str.ofString "or", Str.ofString "and"] : List Str) ∧ o ∈ ([Str.ofString "+", Str.ofString "-", Str.ofString "||", Str.ofString "*", Str.ofString "/", Str.ofString "mod"] : List Str) ∧ (lvS o : Int) = 5 + (if decide (o ∈ ([Str.ofString "*", Str.ofString "/", Str.ofString "mod"] : List Str)) = true then 1 else 0)) ∨
    (o ∉ ([Str.ofString "or", Str.ofString "and"] : List Str) ∧ o ∉ ([Str.ofString "+", Str.ofString "-", Str.ofString "||", Str.ofString "*", Str.ofString "/", Str.ofString "mod"] : List Str) ∧ (lvS o : Int) = 4) := by decide +kernel
abbrev st_lvl : Stmt := (topS 70)
theorem sc_lvl : FnScope ["node"] ["node"] (defScope st_lvl) := ⟨rfl, rfl, rfl, by decide +kernel, rfl, by decide +kernel, by decide +kernel⟩
def W_lvl : Spc := fun ds h R => ∃ (t : P) (l : Nat), ds = [.p t] ∧ LvR t l ∧ R (dI l) h
theorem ok_lvl (A : DefAt K mg "_law_level" st_lvl ["node"]) (m_int : mg "int" = none) : HasF Pg w K mg base CX0 1 "_law_level" ["node"] (spD K Θ W_lvl) := by
  have sc := sc_lvl
  refine A.okD sc W_lvl (fun ds h R ⟨_, _, e, _⟩ => by rw [e]; rfl) fun f cdv A outer s H E hr => ?_
  refine ⟨_, (pss_cons (ps_if (pt_cmpR (op_eqUK (K := K) (by rfl) hr.units) (pe_ix (ix_seqK (K := K) (by rfl)) (pv 0) pe_int (fun _ _ => rfl)) pe_str (nomark _)) (pss_cons (ps_if (pt_cmpR (op_inUK (K := K) (by rfl)) (pe_ix (ix_seqK (K := K) (by rfl)) (pv 0) pe_int (fun _ _ => rfl)) (pe_lst (pa_cons pe_str (pa_cons pe_str pa_nil))) (by rfl)) (pss_one (ps_ret (pe_op (op_addWK (K := K) (by rfl)) pe_int (pe_callTy call_intU (by rfl) m_int (by decide +kernel) (pa_cons (pe_cmpR (op_eqUK (K := K) (by rfl) hr.units) (pe_ix (ix_seqK (K := K) (by rfl)) (pv 0) pe_int (fun _ _ => rfl)) pe_str (nomark _)) pa_nil))))) pss_nil)
  (pss_cons (ps_if (pt_cmpR (op_inUK (K := K) (by rfl)) (pe_ix (ix_seqK (K := K) (by rfl)) (pv 0) pe_int (fun _ _ => rfl)) (pe_lst (pa_cons pe_str (pa_cons pe_str (pa_cons pe_str (pa_cons pe_str (pa_cons pe_str (pa_cons pe_str pa_nil))))))) (by rfl)) (pss_one (ps_ret (pe_op (op_addWK (K := K) (by rfl)) pe_int (pe_callTy call_intU (by rfl) m_int (by decide +kernel) (pa_cons (pe_cmpR (op_inUK (K := K) (by rfl)) (pe_ix (ix_seqK (K := K) (by rfl)) (pv 0) pe_int (fun _ _ => rfl)) (pe_lst (pa_cons pe_str (pa_cons pe_str (pa_cons pe_str pa_nil)))) (by rfl)) pa_nil))))) pss_nil)
  (pss_one (ps_ret pe_int)))) pss_nil)
  (pss_cons (ps_if (pt_cmpR (op_inUK (K := K) (by rfl)) (pe_ix (ix_seqK (K := K) (by rfl)) (pv 0) pe_int (fun _ _ => rfl)) (pe_lst (pa_cons pe_str (pa_cons pe_str (pa_cons pe_str pa_nil)))) (by rfl)) (pss_one (ps_ret pe_int)) pss_nil)
  (pss_cons (ps_if (pt_cmpR (op_inUK (K := K) (by rfl)) (pe_ix (ix_seqK (K := K) (by rfl)) (pv 0) pe_int (fun _ _ => rfl)) (pe_lst (pa_cons pe_str (pa_cons pe_str pa_nil))) (by rfl)) (pss_one (ps_ret (pe_op (op_addWK (K := K) (by rfl)) pe_int (pe_op op_mulU pe_int (pe_callTy call_intU (by rfl) m_int (by decide +kernel) (pa_cons (pe_cmpR (op_eqUK (K := K) (by rfl) hr.units) (pe_ix (ix_seqK (K := K) (by rfl)) (pv 0) pe_int (fun _ _ => rfl)) pe_str (nomark _)) pa_nil)))))) pss_nil)
  (pss_one (ps_ret pe_int))))), ?_⟩
  try dsimp only [cxOf]
  rintro ds h R ⟨t, l, rfl, ht, q⟩
  have sz := sizeLine_eq
  have split : (∃ o r, isOp o ∧ t = .tup (.str (Str.ofString "binary") :: .str o :: r) ∧ l = lvS o) ∨ (∃ k r, t = .tup (.str k :: r) ∧ k ∈ ([Str.ofString "is_null", Str.ofString "in_list"] : List Str) ∧ l = 4) ∨ (∃ k r, t = .tup (.str k :: r) ∧ ((k = Str.ofString "not" ∧ l = 3) ∨ (k = Str.ofString "negate" ∧ l = 7))) ∨ (∃ k r, t = .tup (.str k :: r) ∧ k ∈ ([Str.ofString "literal", Str.ofString "column"] : List Str) ∧ l = 8) := by
    cases ht with
    | bin2 ho => exact .inl ⟨_, _, ho, rfl, rfl⟩
    | bin ho => exact .inl ⟨_, _, ho, rfl, rfl⟩
    | isN => exact .inr (.inl ⟨_, _, rfl, by decide +kernel, rfl⟩)
    | inL => exact .inr (.inl ⟨_, _, rfl, by decide +kernel, rfl⟩)
    | not => exact .inr (.inr (.inl ⟨_, _, rfl, .inl ⟨rfl, rfl⟩⟩))
    | neg => exact .inr (.inr (.inl ⟨_, _, rfl, .inr ⟨rfl, rfl⟩⟩))
    | atm ha =>
      refine .inr (.inr (.inr ?_))
      cases ha with
      | int _ _ => exact ⟨_, _, rfl, by decide +kernel, rfl⟩
      | col _ => exact ⟨_, _, rfl, by decide +kernel, rfl⟩
      | col2 _ _ => exact ⟨_, _, rfl, by decide +kernel, rfl⟩
  have nb : ∀ k ∈ ([Str.ofString "is_null", Str.ofString "in_list", Str.ofString "not", Str.ofString "negate", Str.ofString "literal", Str.ofString "column"] : List Str), decide (k = Str.ofString "binary") = false := by decide +kernel
  have nl : ∀ k ∈ ([Str.ofString "not", Str.ofString "negate", Str.ofString "literal", Str.ofString "column"] : List Str), decide (k ∈ ([Str.ofString "is_null", Str.ofString "in_list", Str.ofString "in_query"] : List Str)) = false := by decide +kernel
  clear ht
  rcases split with ⟨o, r, ho, rfl, rfl⟩ | ⟨k, r, rfl, hk, rfl⟩ | ⟨k, r, rfl, hk⟩ | ⟨k, r, rfl, hk, rfl⟩
  · skip
    k_places
    refine v2_ixT (at_nat 0 rfl rfl) ?_
    k_places
    refine v2_ixT (at_nat 1 rfl rfl) ?_
    k_places
    refine ve_lst ?_
    k_places
    refine v2_inS (ns := [Str.ofString "or", Str.ofString "and"]) ?_
    refine ⟨_, rfl, ?_⟩
    rcases lv_cases o ho with ⟨a, e⟩ | ⟨a, b, e⟩ | ⟨a, b, e⟩
    · refine ite_tt (decide_eq_true a) ?_
      k_places
      refine v2_ixT (at_nat 1 rfl rfl) ?_
      k_places
      rw [← e]
      exact q
    · refine ite_ff (decide_eq_false a) ?_
      k_places
      refine v2_ixT (at_nat 1 rfl rfl) ?_
      k_places
      refine ve_lst ?_
      k_places
      refine v2_inS (ns := [Str.ofString "+", Str.ofString "-", Str.ofString "||", Str.ofString "*", Str.ofString "/", Str.ofString "mod"]) ?_
      refine ⟨_, rfl, ?_⟩
      refine ite_tt (decide_eq_true b) ?_
      k_places
      refine v2_ixT (at_nat 1 rfl rfl) ?_
      k_places
      refine ve_lst ?_
      k_places
      refine v2_inS (ns := [Str.ofString "*", Str.ofString "/", Str.ofString "mod"]) ?_
      k_places
      rw [← e]
      exact q
    · refine ite_ff (decide_eq_false a) ?_
      k_places
      refine v2_ixT (at_nat 1 rfl rfl) ?_
      k_places
      refine ve_lst ?_
      k_places
      refine v2_inS (ns := [Str.ofString "+", Str.ofString "-", Str.ofString "||", Str.ofString "*", Str.ofString "/", Str.ofString "mod"]) ?_
      refine ⟨_, rfl, ?_⟩
      refine ite_ff (decide_eq_false b) ?_
      k_places
      rw [e] at q
      exact q
  · k_places
    refine v2_ixT (at_nat 0 rfl rfl) ?_
    k_places
    rw [nb k (by simp only [List.mem_cons, List.not_mem_nil, or_false] at hk; rcases hk with rfl | rfl <;> decide +kernel)]
    k_places
    refine v2_ixT (at_nat 0 rfl rfl) ?_
    k_places
    refine ve_lst ?_
    k_places
    refine v2_inS (ns := [Str.ofString "is_null", Str.ofString "in_list", Str.ofString "in_query"]) ?_
    refine ⟨_, rfl, ?_⟩
    refine ite_tt (decide_eq_true (by simp only [List.mem_cons, List.not_mem_nil, or_false] at hk; rcases hk with rfl | rfl <;> decide +kernel)) ?_
    k_places
    exact q
  · have hk1 : k ∈ ([Str.ofString "not", Str.ofString "negate"] : List Str) := by rcases hk with ⟨rfl, _⟩ | ⟨rfl, _⟩ <;> decide +kernel
    k_places
    refine v2_ixT (at_nat 0 rfl rfl) ?_
    k_places
    rw [nb k (by simp only [List.mem_cons, List.not_mem_nil, or_false] at hk1; rcases hk1 with rfl | rfl <;> decide +kernel)]
    k_places
    refine v2_ixT (at_nat 0 rfl rfl) ?_
    k_places
    refine ve_lst ?_
    k_places
    refine v2_inS (ns := [Str.ofString "is_null", Str.ofString "in_list", Str.ofString "in_query"]) ?_
    refine ⟨_, rfl, ?_⟩
    refine ite_ff (nl k (by simp only [List.mem_cons, List.not_mem_nil, or_false] at hk1; rcases hk1 with rfl | rfl <;> decide +kernel)) ?_
    k_places
    refine v2_ixT (at_nat 0 rfl rfl) ?_
    k_places
    refine ve_lst ?_
    k_places
    refine v2_inS (ns := [Str.ofString "not", Str.ofString "negate"]) ?_
    refine ⟨_, rfl, ?_⟩
    refine ite_tt (decide_eq_true hk1) ?_
    k_places
    refine v2_ixT (at_nat 0 rfl rfl) ?_
    k_places
    rcases hk with ⟨rfl, rfl⟩ | ⟨rfl, rfl⟩
    · exact q
    · exact q
  · k_places
    refine v2_ixT (at_nat 0 rfl rfl) ?_
    k_places
    rw [nb k (by simp only [List.mem_cons, List.not_mem_nil, or_false] at hk; rcases hk with rfl | rfl <;> decide +kernel)]
    k_places
    refine v2_ixT (at_nat 0 rfl rfl) ?_
    k_places
    refine ve_lst ?_
    k_places
    refine v2_inS (ns := [Str.ofString "is_null", Str.ofString "in_list", Str.ofString "in_query"]) ?_
    refine ⟨_, rfl, ?_⟩
    refine ite_ff (nl k (by simp only [List.mem_cons, List.not_mem_nil, or_false] at hk; rcases hk with rfl | rfl <;> decide +kernel)) ?_
    k_places
    refine v2_ixT (at_nat 0 rfl rfl) ?_
    k_places
    refine ve_lst ?_
    k_places
    refine v2_inS (ns := [Str.ofString "not", Str.ofString "negate"]) ?_
    refine ⟨_, rfl, ?_⟩
    have n3 : ∀ k ∈ ([Str.ofString "literal", Str.ofString "column"] : List Str), decide (k ∈ ([Str.ofString "not", Str.ofString "negate"] : List Str)) = false := by decide +kernel
    refine ite_ff (n3 k hk) ?_
    k_places
    exact q
end
end Law

namespace Law
open PySem PySem.Spec PyProof.Rows L2 Kb SX TL
-- the steps that are tried: k_clsL a side condition; k_subL one step; k_places steps as long as one fits
section
variable {Pg : Program} {w : World} {K : PySem.W.Frag} {Θ : Tbs} {mg : Str → Option Value} {base : Heap}
abbrev st_line : Stmt := (topS 85)
theorem sc_line : FnScope ["item"] ["item"] (defScope st_line) := ⟨rfl, rfl, rfl, by decide +kernel, rfl, by decide +kernel, by decide +kernel⟩
def W_line : Spc := fun ds h R => ∃ x : It, ds = [.p (itP x)] ∧ ItOk x ∧ R (dI (lineI x)) h
theorem ok_line (A : DefAt K mg "_law_line" st_line ["item"]) (h__law_level : HasF Pg w K mg base CX0 1 "_law_level" ["node"] (spD K Θ W_lvl)) : HasF Pg w K mg base CX0 2 "_law_line" ["item"] (spD K Θ W_line) := by
  have sc := sc_line
  refine A.okD sc W_line (fun ds h R ⟨_, e, _⟩ => by rw [e]; rfl) fun f cdv A outer s H E hr => ?_
  refine ⟨_, (pss_cons (ps_if (pt_cmpR (op_eqUK (K := K) (by rfl) hr.units) (pe_ix (ix_seqK (K := K) (by rfl)) (pv 0) pe_int (fun _ _ => rfl)) pe_str (nomark _)) (pss_one (ps_ret (h__law_level.call (hr.mono (by first | decide | omega)) rfl pass0 (pa_cons (pe_tup (pa_cons pe_str (pa_cons (pe_ix (ix_seqK (K := K) (by rfl)) (pv 0) pe_int (fun _ _ => rfl)) pa_nil))) pa_nil)))) pss_nil)
  (pss_cons (ps_if (pt_cmpR (op_inUK (K := K) (by rfl)) (pe_ix (ix_seqK (K := K) (by rfl)) (pv 0) pe_int (fun _ _ => rfl)) (pe_lst (pa_cons pe_str (pa_cons pe_str pa_nil))) (by rfl)) (pss_one (ps_ret pe_int)) pss_nil)
  (pss_one (ps_ret pe_int)))), ?_⟩
  try dsimp only [cxOf]
  rintro ds h R ⟨x, rfl, hx, q⟩
  have sz := sizeLine_eq
  have n1 : ∀ k ∈ ([Str.ofString "is", Str.ofString "in"] : List Str), decide (k ∈ ([Str.ofString "is", Str.ofString "in"] : List Str)) = true := by decide +kernel
  have n2 : ∀ k ∈ ([Str.ofString "prefix", Str.ofString "atom"] : List Str), decide (k ∈ ([Str.ofString "is", Str.ofString "in"] : List Str)) = false := by decide +kernel
  cases hx with
  | @op o ho =>
    k_places
    refine v2_ixT (at_nat 0 rfl rfl) ?_
    k_places
    refine v2_ixT (at_nat 1 rfl rfl) ?_
    k_places
    exact ⟨_, _, rfl, .bin2 ho, q⟩
  | isI =>
    k_places
    refine v2_ixT (at_nat 0 rfl rfl) ?_
    k_places
    refine v2_ixT (at_nat 0 rfl rfl) ?_
    k_places
    refine ve_lst ?_
    k_places
    refine v2_inS (ns := [Str.ofString "is", Str.ofString "in"]) ?_
    refine ⟨_, rfl, ?_⟩
    refine ite_tt (n1 _ (by decide +kernel)) ?_
    k_places
    exact q
  | inI =>
    k_places
    refine v2_ixT (at_nat 0 rfl rfl) ?_
    k_places
    refine v2_ixT (at_nat 0 rfl rfl) ?_
    k_places
    refine ve_lst ?_
    k_places
    refine v2_inS (ns := [Str.ofString "is", Str.ofString "in"]) ?_
    refine ⟨_, rfl, ?_⟩
    refine ite_tt (n1 _ (by decide +kernel)) ?_
    k_places
    exact q
  | atom =>
    k_places
    refine v2_ixT (at_nat 0 rfl rfl) ?_
    k_places
    refine v2_ixT (at_nat 0 rfl rfl) ?_
    k_places
    refine ve_lst ?_
    k_places
    refine v2_inS (ns := [Str.ofString "is", Str.ofString "in"]) ?_
    refine ⟨_, rfl, ?_⟩
    refine ite_ff (n2 _ (by decide +kernel)) ?_
    k_places
    exact q
  | @pre n =>
    cases n
    · k_places
      refine v2_ixT (at_nat 0 rfl rfl) ?_
      k_places
      refine v2_ixT (at_nat 0 rfl rfl) ?_
      k_places
      refine ve_lst ?_
      k_places
      refine v2_inS (ns := [Str.ofString "is", Str.ofString "in"]) ?_
      refine ⟨_, rfl, ?_⟩
      refine ite_ff (n2 _ (by decide +kernel)) ?_
      k_places
      exact q
    · k_places
      refine v2_ixT (at_nat 0 rfl rfl) ?_
      k_places
      refine v2_ixT (at_nat 0 rfl rfl) ?_
      k_places
      refine ve_lst ?_
      k_places
      refine v2_inS (ns := [Str.ofString "is", Str.ofString "in"]) ?_
      refine ⟨_, rfl, ?_⟩
      refine ite_ff (n2 _ (by decide +kernel)) ?_
      k_places
      exact q
/-! ### the last place of a line -/
theorem last_of {l : Nat} : ∀ {xs : List It} {k : Nat} {x : It}, xs[k]? = some x → lineI x = l → (∀ y ∈ xs.drop (k + 1), lineI y ≠ l) → lastAt l xs = some k
  | [], k, x, h, _, _ => by simp at h
  | y :: xs, 0, x, h, hx, hd => by
    have e : lastAt l xs = none := by
      cases e : lastAt l xs with
      | none => rfl
      | some j =>
        obtain ⟨z, _, e2, e3, _⟩ := last_some e
        exact absurd e3 (hd z (by simpa using List.mem_of_getElem? e2))
    unfold lastAt
    rw [e]
    cases h
    simp [hx]
  | y :: xs, k + 1, x, h, hx, hd => by
    unfold lastAt
    rw [last_of (xs := xs) (k := k) (by simpa using h) hx (by simpa using hd)]
theorem last_no {l : Nat} {xs : List It} (h : ∀ x ∈ xs, lineI x ≠ l) : lastAt l xs = none := by
  cases e : lastAt l xs with
  | none => rfl
  | some j =>
    obtain ⟨z, _, e2, e3, _⟩ := last_some e
    exact absurd e3 (h z (List.mem_of_getElem? e2))
def optI : Option Nat → Int
  | some k => k
  | none => -1
abbrev st_last : Stmt := (topS 86)
theorem sc_last : FnScope ["items", "line", "k"] ["items", "line"] (defScope st_last) := ⟨rfl, rfl, rfl, by decide +kernel, rfl, by decide +kernel, by decide +kernel⟩
def W_last : Spc := fun ds h R => ∃ (xs : List It) (l : Nat), ds = [dL (xs.map itP), dI l] ∧ (∀ x ∈ xs, ItOk x) ∧ xs.length ≤ 1000 ∧ R (dI (optI (lastAt l xs))) h
theorem ok_last (A : DefAt K mg "_law_last" st_last ["items", "line"]) (m_range : mg "range" = none) (m_len : mg "len" = none) (h__law_line : HasF Pg w K mg base CX0 2 "_law_line" ["item"] (spD K Θ W_line)) : HasF Pg w K mg base CX0 3 "_law_last" ["items", "line"] (spD K Θ W_last) := by
  have sc := sc_last
  refine A.okD sc W_last (fun ds h R ⟨_, _, e, _⟩ => by rw [e]; rfl) fun f cdv A outer s H E hr => ?_
  refine ⟨_, (pss_cons (ps_for PassesOwn.never rfl (pi_range1 rfl m_range (pa_cons (pe_callB (call_lenK (K := K) (by rfl)) (by rfl) m_len (by decide +kernel) (pa_cons (pv 0) pa_nil)) pa_nil)) (pg_name (i := 2) sc.nd rfl (.inl rfl))
  (pss_one (ps_if (pt_cmpR (op_eqUK (K := K) (by rfl) hr.units) (h__law_line.call (hr.mono (by first | decide | omega)) rfl pass0 (pa_cons (pe_ix (ix_seqK (K := K) (by rfl)) (pv 0) (pe_op op_sub (pe_op op_sub (pe_callB (call_lenK (K := K) (by rfl)) (by rfl) m_len (by decide +kernel) (pa_cons (pv 0) pa_nil)) pe_int) (pv 2)) (fun _ _ => rfl)) pa_nil)) (pv 1) (nomark _)) (pss_one (ps_ret (pe_op op_sub (pe_op op_sub (pe_callB (call_lenK (K := K) (by rfl)) (by rfl) m_len (by decide +kernel) (pa_cons (pv 0) pa_nil)) pe_int) (pv 2)))) pss_nil)))
  (pss_one (ps_ret (pe_un un_neg pe_int)))), ?_⟩
  try dsimp only [cxOf]
  rintro ds h R ⟨xs, l, rfl, hx, hl, q⟩
  have sz := sizeLine_eq
  have lx : (xs.map itP).length = xs.length := List.length_map _
  k_subL
  refine vs_for (vi_range1 ?_)
  k_places
  rw [lx]
  refine ⟨_, rfl, by omega, by omega, ?_⟩
  refine ⟨fun j env h' => ∃ o : Option D, env = [some (dL (xs.map itP)), some (dI l), o] ∧ h' = h ∧ ∀ i, xs.length - j ≤ i → ∀ y, xs[i]? = some y → lineI y ≠ l, ?_, ?_, ?_, ?_⟩
  · refine ⟨none, rfl, rfl, fun i hi y hy => ?_⟩
    rw [List.getElem?_eq_none (by omega)] at hy
    cases hy
  · exact fun _ _ _ _ => trivial
  · rintro j d env h' hd ⟨o, rfl, rfl, hn⟩
    obtain ⟨hj, rfl⟩ := rng_get hd
    have hi : xs.length - 1 - j < xs.length := by omega
    have hat : atI (xs.map itP) ((xs.length : Int) - 1 - (0 + (j : Int))) = some (itP xs[xs.length - 1 - j]) := at_nat (xs.length - 1 - j) (by omega) (by rw [List.getElem?_map, List.getElem?_eq_getElem hi]; rfl)
    k_places
    rw [lx]
    refine v2_ixL hat ?_
    k_places
    refine ⟨_, rfl, hx _ (List.getElem_mem hi), ?_⟩
    k_places
    refine ite_dec (fun e => ?_) (fun e => ?_)
    · k_places
      rw [lx]
      have e2 : lastAt l xs = some (xs.length - 1 - j) := last_of (List.getElem?_eq_getElem hi) (by exact_mod_cast e) fun y hy => by
        obtain ⟨i, hy⟩ := List.mem_iff_getElem?.mp hy
        rw [List.getElem?_drop] at hy
        exact hn _ (by omega) y hy
      rw [e2] at q
      have e3 : optI (some (xs.length - 1 - j)) = (xs.length : Int) - 1 - (0 + (j : Int)) := by
        show ((xs.length - 1 - j : Nat) : Int) = _
        omega
      rw [e3] at q
      exact q
    · k_places
      refine ⟨_, rfl, rfl, fun i hi2 y hy => ?_⟩
      by_cases c : i = xs.length - 1 - j
      · subst c
        rw [List.getElem?_eq_getElem hi] at hy
        cases hy
        intro z
        exact e (by exact_mod_cast z)
      · exact hn i (by omega) y hy
  · rintro env h' ⟨o, rfl, rfl, hn⟩
    rw [rng_len] at hn
    have e2 : lastAt l xs = none := last_no fun y hy => by
      obtain ⟨i, hy⟩ := List.mem_iff_getElem?.mp hy
      exact hn i (by omega) y hy
    rw [e2] at q
    k_places
    exact q
end
end Law

namespace Law
open PySem PySem.Spec PyProof.Rows L2 Kb SX TL
-- the steps that are tried: k_clsL a side condition; k_subL one step; k_places steps as long as one fits
section
variable {Pg : Program} {w : World} {K : PySem.W.Frag} {Θ : Tbs} {mg : Str → Option Value} {base : Heap}
theorem pl_unique {xs : List It} {j k : Nat} (a : PlAt xs j) (b : PlAt xs k) : j = k := by
  rcases a with a | ⟨a1, _, a2⟩ <;> rcases b with b | ⟨b1, _, b2⟩
  · rw [a] at b; cases b; rfl
  · rw [a] at b1; cases b1
  · rw [b] at a1; cases a1
  · rw [a2] at b2; cases b2; rfl
theorem DivR.at_ {n : Nat} {xs : List It} {t : P} {k : Nat} (h : DivR (n + 1) xs t) (p : PlAt xs k) :
    (∃ o a b, xs[k]? = some (.op o) ∧ t = binT o a b ∧ DivR n (xs.take k) a ∧ DivR n (xs.drop (k + 1)) b) ∨ (∃ m a, xs[k]? = some (.isI m) ∧ t = isT a m ∧ DivR n (xs.take k) a) ∨ ∃ m ts a, xs[k]? = some (.inI m ts) ∧ t = inT a ts m ∧ DivR n (xs.take k) a := by
  cases h with
  | op q e a b => have := pl_unique p q; subst this; exact .inl ⟨_, _, _, e, rfl, a, b⟩
  | isI q e a => have := pl_unique p q; subst this; exact .inr (.inl ⟨_, _, e, rfl, a⟩)
  | inI q e a => have := pl_unique p q; subst this; exact .inr (.inr ⟨_, _, _, e, rfl, a⟩)
  | not f a =>
    rcases p with p | ⟨_, p, _⟩
    · rw [f] at p; cases p
    · cases p
  | neg f g a =>
    rcases p with p | ⟨_, _, p⟩
    · rw [f] at p; cases p
    · rw [g] at p; cases p
  | atm f g =>
    rcases p with p | ⟨_, _, p⟩
    · rw [f] at p; cases p
    · rw [g] at p; cases p
theorem DivR.hd {n : Nat} {xs : List It} {t : P} (h : DivR (n + 1) xs t) (f : firstLine [1, 2] xs = none) (hh : headNot xs = true) : ∃ r a, xs = .pre true :: r ∧ t = notT a ∧ DivR n r a := by
  have nop : ∀ k, ¬ PlAt xs k := fun k p => by
    rcases p with p | ⟨_, p, _⟩
    · rw [f] at p; cases p
    · rw [hh] at p; cases p
  cases h with
  | op q _ _ _ => exact absurd q (nop _)
  | isI q _ _ => exact absurd q (nop _)
  | inI q _ _ => exact absurd q (nop _)
  | not _ a => exact ⟨_, _, rfl, rfl, a⟩
  | neg _ _ _ => cases hh
  | atm _ _ => cases hh
theorem DivR.end_ {n : Nat} {xs : List It} {t : P} (h : DivR (n + 1) xs t) (f : firstLine [1, 2] xs = none) (hh : headNot xs = false) (g : firstLine [4, 5, 6] xs = none) : (∃ r a, xs = .pre false :: r ∧ t = ngT a ∧ DivR n r a) ∨ ∃ r, xs = .atom t :: r := by
  have nop : ∀ k, ¬ PlAt xs k := fun k p => by
    rcases p with p | ⟨_, _, p⟩
    · rw [f] at p; cases p
    · rw [g] at p; cases p
  cases h with
  | op q _ _ _ => exact absurd q (nop _)
  | isI q _ _ => exact absurd q (nop _)
  | inI q _ _ => exact absurd q (nop _)
  | not _ a => cases hh
  | neg _ _ a => exact .inl ⟨_, _, rfl, rfl, a⟩
  | atm _ _ => exact .inr ⟨_, rfl⟩
theorem DivR.ne {n : Nat} {xs : List It} {t : P} (h : DivR n xs t) : xs ≠ [] := by
  cases h with
  | op _ e _ _ => intro z; rw [z] at e; simp at e
  | isI _ e _ => intro z; rw [z] at e; simp at e
  | inI _ e _ => intro z; rw [z] at e; simp at e
  | not _ _ => simp
  | neg _ _ _ => simp
  | atm _ _ => simp
theorem cut_take {α : Type} (xs : List α) (i : Nat) (h : i ≤ xs.length) : cutP xs none (some ((i : Nat) : Int)) = xs.take i := by
  unfold cutP
  have e1 : HT.sIx xs.length 0 none = 0 := rfl
  have e2 : HT.sIx xs.length xs.length (some ((i : Nat) : Int)) = i := by
    show (if ((i : Nat) : Int) < 0 then (((i : Nat) : Int) + (xs.length : Int)).toNat else min ((i : Nat) : Int).toNat xs.length) = _
    rw [if_neg (by omega)]
    omega
  rw [e1, e2, List.drop_zero, Nat.sub_zero]
theorem cut_drop {α : Type} (xs : List α) (i : Nat) (h : i ≤ xs.length) : cutP xs (some ((i : Nat) : Int)) none = xs.drop i := by
  unfold cutP
  have e1 : HT.sIx xs.length xs.length none = xs.length := rfl
  have e2 : HT.sIx xs.length 0 (some ((i : Nat) : Int)) = i := by
    show (if ((i : Nat) : Int) < 0 then (((i : Nat) : Int) + (xs.length : Int)).toNat else min ((i : Nat) : Int).toNat xs.length) = _
    rw [if_neg (by omega)]
    omega
  rw [e1, e2]
  exact List.take_of_length_le (by rw [List.length_drop]; exact Nat.le_refl _)
/-! ### items compared -/
theorem name_flat {a : P} (h : NameOk a) : Kb.Flat 0 a := by
  obtain ⟨c, w, rfl, hc, hw, _, _⟩ := h
  have lo : ∀ d ∈ Tz.ofws.cps.toList, d ≤ 122 := by decide +kernel
  have ok : PyData.strOk (S (c :: w)) = true := by
    unfold PyData.strOk
    rw [Array.all_eq_true]
    intro i hi
    have hm : (S (c :: w)).cps[i] ∈ (c :: w) := by
      have : (S (c :: w)).cps[i] ∈ (S (c :: w)).cps.toList := by simp
      simpa using this
    have : (S (c :: w)).cps[i] ≤ 122 := by
      rcases List.mem_cons.mp hm with e | e
      · rw [e]; exact lo c (of_decide_eq_true (lets_lo c (of_decide_eq_true hc)))
      · exact lo _ (of_decide_eq_true (hw _ e))
    exact decide_eq_true (by omega)
  exact ⟨by simp [pyOf, PyData.canLay0, ok], Nat.zero_le _, rfl⟩
theorem str_flat {n : Nat} {s : Str} (h : PyData.strOk s = true) : Kb.Flat n (.str s) := ⟨by simp [pyOf, PyData.canLay0, h], Nat.zero_le _, rfl⟩
theorem at_flat {t : P} (h : AtOk t) : Kb.Flat 1 t := by
  cases h with
  | int _ _ =>
    exact .tup fun x hx => by
      simp only [List.mem_cons, List.not_mem_nil, or_false] at hx
      rcases hx with rfl | rfl
      · exact str_flat (by decide +kernel)
      · exact .int _
  | col ha =>
    exact .tup fun x hx => by
      simp only [List.mem_cons, List.not_mem_nil, or_false] at hx
      rcases hx with rfl | rfl | rfl
      · exact str_flat (by decide +kernel)
      · exact .non
      · exact name_flat ha
  | col2 ha hb =>
    exact .tup fun x hx => by
      simp only [List.mem_cons, List.not_mem_nil, or_false] at hx
      rcases hx with rfl | rfl | rfl
      · exact str_flat (by decide +kernel)
      · exact name_flat ha
      · exact name_flat hb
theorem Flat.up {m n : Nat} {p : P} (h : Kb.Flat m p) (hl : m ≤ n) : Kb.Flat n p := ⟨h.lay, Nat.le_trans h.dep hl, h.pl⟩
theorem op_str : ∀ o ∈ opsOr ++ opsAnd ++ opsCmp ++ opsTot ++ opsPro, PyData.strOk o = true := by decide +kernel
theorem it_flat {x : It} (h : ItOk x) : Kb.Flat 3 (itP x) := by
  cases h with
  | @pre n =>
    cases n <;> exact .tup fun x hx => by
      simp only [List.mem_cons, List.not_mem_nil, or_false] at hx
      rcases hx with rfl | rfl <;> exact str_flat (by decide +kernel)
  | atom ht =>
    exact .tup fun x hx => by
      simp only [List.mem_cons, List.not_mem_nil, or_false] at hx
      rcases hx with rfl | rfl
      · exact str_flat (by decide +kernel)
      · exact Flat.up (at_flat ht) (by omega)
  | isI =>
    exact .tup fun x hx => by
      simp only [List.mem_cons, List.not_mem_nil, or_false] at hx
      rcases hx with rfl | rfl
      · exact str_flat (by decide +kernel)
      · exact .bl _
  | inI _ _ h2 =>
    exact .tup fun x hx => by
      simp only [List.mem_cons, List.not_mem_nil, or_false] at hx
      rcases hx with rfl | rfl | rfl
      · exact str_flat (by decide +kernel)
      · exact .bl _
      · exact .tup fun t ht => at_flat (h2 t ht)
  | op ho =>
    exact .tup fun x hx => by
      simp only [List.mem_cons, List.not_mem_nil, or_false] at hx
      rcases hx with rfl | rfl
      · exact str_flat (by decide +kernel)
      · exact str_flat (op_str _ ho)
def isNeg : It → Bool
  | .pre false => true
  | _ => false
def isNot : It → Bool
  | .pre true => true
  | _ => false
theorem eqv_not (x : It) : PyData.eqv (pyOf (itP x)) (pyOf (itP (.pre true))) = isNot x := by
  cases x with
  | pre n => cases n <;> (simp [itP, pyOf, pyOf.pyOfs, PyData.eqv, PyData.eqvAll, isNot]; try decide +kernel)
  | atom t => simp [itP, pyOf, pyOf.pyOfs, PyData.eqv, PyData.eqvAll, isNot]; intro z; exact absurd z (by decide +kernel)
  | isI b => simp [itP, pyOf, pyOf.pyOfs, PyData.eqv, PyData.eqvAll, isNot]
  | inI b ts => simp [itP, pyOf, pyOf.pyOfs, PyData.eqv, PyData.eqvAll, isNot]
  | op o => simp [itP, pyOf, pyOf.pyOfs, PyData.eqv, PyData.eqvAll, isNot]; intro z; exact absurd z (by decide +kernel)
theorem eqv_neg (x : It) : PyData.eqv (pyOf (itP x)) (pyOf (itP (.pre false))) = isNeg x := by
  cases x with
  | pre n => cases n <;> (simp [itP, pyOf, pyOf.pyOfs, PyData.eqv, PyData.eqvAll, isNeg]; try decide +kernel)
  | atom t => simp [itP, pyOf, pyOf.pyOfs, PyData.eqv, PyData.eqvAll, isNeg]; intro z; exact absurd z (by decide +kernel)
  | isI b => simp [itP, pyOf, pyOf.pyOfs, PyData.eqv, PyData.eqvAll, isNeg]
  | inI b ts => simp [itP, pyOf, pyOf.pyOfs, PyData.eqv, PyData.eqvAll, isNeg]
  | op o => simp [itP, pyOf, pyOf.pyOfs, PyData.eqv, PyData.eqvAll, isNeg]; intro z; exact absurd z (by decide +kernel)
abbrev st_divd : Stmt := (topS 87)
theorem sc_divd : FnScope ["items", "line", "place", "first", "item"] ["items"] (defScope st_divd) := ⟨rfl, rfl, rfl, by decide +kernel, rfl, by decide +kernel, by decide +kernel⟩
def W_divd (n : Nat) : Spc := fun ds h R => ∃ (xs : List It) (t : P), ds = [dL (xs.map itP)] ∧ DivR n xs t ∧ (∀ x ∈ xs, ItOk x) ∧ xs.length ≤ 1000 ∧ R (.p t) h
theorem ok_divd (A : DefAt K mg "_law_divided" st_divd ["items"]) (h__law_last : HasF Pg w K mg base CX0 3 "_law_last" ["items", "line"] (spD K Θ W_last)) : ∀ n : Nat, HasF Pg w K mg base CX0 (n + 4) "_law_divided" ["items"] (spD K Θ (W_divd n))
  | 0 => .never A sc_divd fun ds h R ⟨_, _, _, d, _⟩ => by cases d
  | n + 1 => by
    have sc := sc_divd
    have h__law_divided := ok_divd A h__law_last n
    refine A.okD sc (W_divd (n + 1)) (fun ds h R ⟨_, _, e, _⟩ => by rw [e]; rfl) fun f cdv A outer s H E hr => ?_
    refine ⟨_, (pss_cons (ps_for PassesOwn.never rfl (pi_seqK (K := K) (by rfl) (pe_lst (pa_cons pe_int (pa_cons pe_int (pa_cons pe_int (pa_cons pe_int (pa_cons pe_int (pa_cons pe_int pa_nil)))))))) (pg_name (i := 1) sc.nd rfl (.inl rfl))
  (pss_cons (ps_set (i := 2) sc.nd rfl (.inl rfl) (h__law_last.call (hr.mono (by first | decide | omega)) rfl pass0 (pa_cons (pv 0) (pa_cons (pv 1) pa_nil))))
  (pss_cons (ps_if (PW.pt (pw_and (pt_cmpR (op_eqUK (K := K) (by rfl) hr.units) (pv 1) pe_int (nomark _)) (pw_and1 (pt_cmpR (op_eqUK (K := K) (by rfl) hr.units) (pe_ix (ix_seqK (K := K) (by rfl)) (pv 0) pe_int (fun _ _ => rfl)) (pe_tup (pa_cons pe_str (pa_cons pe_str pa_nil))) (nomark _))))) (pss_one (ps_ret (pe_tup (pa_cons pe_str (pa_cons (h__law_divided.call (hr.mono (by first | decide | omega)) rfl pass0 (pa_cons (pe_slice (sl_listK (K := K) (by rfl)) (pv 0) (po_some pe_int) po_none) pa_nil)) pa_nil))))) pss_nil)
  (pss_one (ps_if (pt_cmpR op_ge (pv 2) pe_int (nomark _)) (pss_cons (ps_set (i := 3) sc.nd rfl (.inl rfl) (h__law_divided.call (hr.mono (by first | decide | omega)) rfl pass0 (pa_cons (pe_slice (sl_listK (K := K) (by rfl)) (pv 0) po_none (po_some (pv 2))) pa_nil)))
  (pss_cons (ps_set (i := 4) sc.nd rfl (.inl rfl) (pe_ix (ix_seqK (K := K) (by rfl)) (pv 0) (pv 2) (fun _ _ => rfl)))
  (pss_cons (ps_if (pt_cmpR (op_eqUK (K := K) (by rfl) hr.units) (pe_ix (ix_seqK (K := K) (by rfl)) (pv 4) pe_int (fun _ _ => rfl)) pe_str (nomark _)) (pss_one (ps_ret (pe_tup (pa_cons pe_str (pa_cons (pv 3) (pa_cons (pe_ix (ix_seqK (K := K) (by rfl)) (pv 4) pe_int (fun _ _ => rfl)) pa_nil)))))) pss_nil)
  (pss_cons (ps_if (pt_cmpR (op_eqUK (K := K) (by rfl) hr.units) (pe_ix (ix_seqK (K := K) (by rfl)) (pv 4) pe_int (fun _ _ => rfl)) pe_str (nomark _)) (pss_one (ps_ret (pe_tup (pa_cons pe_str (pa_cons (pv 3) (pa_cons (pe_ix (ix_seqK (K := K) (by rfl)) (pv 4) pe_int (fun _ _ => rfl)) (pa_cons (pe_ix (ix_seqK (K := K) (by rfl)) (pv 4) pe_int (fun _ _ => rfl)) pa_nil))))))) pss_nil)
  (pss_one (ps_ret (pe_tup (pa_cons pe_str (pa_cons (pe_ix (ix_seqK (K := K) (by rfl)) (pv 4) pe_int (fun _ _ => rfl)) (pa_cons (pv 3) (pa_cons (h__law_divided.call (hr.mono (by first | decide | omega)) rfl pass0 (pa_cons (pe_slice (sl_listK (K := K) (by rfl)) (pv 0) (po_some (pe_op (op_addWK (K := K) (by rfl)) (pv 2) pe_int)) po_none) pa_nil)) pa_nil))))))))))) pss_nil)))))
  (pss_cons (ps_if (pt_cmpR (op_eqUK (K := K) (by rfl) hr.units) (pe_ix (ix_seqK (K := K) (by rfl)) (pv 0) pe_int (fun _ _ => rfl)) (pe_tup (pa_cons pe_str (pa_cons pe_str pa_nil))) (nomark _)) (pss_one (ps_ret (pe_tup (pa_cons pe_str (pa_cons (h__law_divided.call (hr.mono (by first | decide | omega)) rfl pass0 (pa_cons (pe_slice (sl_listK (K := K) (by rfl)) (pv 0) (po_some pe_int) po_none) pa_nil)) pa_nil))))) pss_nil)
  (pss_one (ps_ret (pe_ix (ix_seqK (K := K) (by rfl)) (pe_ix (ix_seqK (K := K) (by rfl)) (pv 0) pe_int (fun _ _ => rfl)) pe_int (fun _ _ => rfl)))))), ?_⟩
    try dsimp only [cxOf]
    rintro ds h R ⟨xs, t, rfl, dv, hx, hl, q⟩
    have sz := sizeLine_eq
    have lx : (xs.map itP).length = xs.length := List.length_map _
    have n3 : lastAt 3 xs = none := last_no fun y hy => by
      have := hx y hy
      cases this with
      | op ho => have := lv_le _ ho; show lvS _ ≠ 3; omega
      | _ => simp [lineI]
    obtain ⟨x0, r0, e0⟩ : ∃ x0 r0, xs = x0 :: r0 := by
      cases xs with
      | nil => exact absurd rfl dv.ne
      | cons x r => exact ⟨x, r, rfl⟩
    have at0 : atI (xs.map itP) 0 = some (itP x0) := by rw [e0]; exact at_nat 0 rfl rfl
    have fl := it_flat (hx x0 (by rw [e0]; exact List.mem_cons_self))
    have en : isNot x0 = headNot xs := by
      rw [e0]
      cases x0 with
      | pre m => cases m <;> rfl
      | _ => rfl
    have tail : ∀ {r : List It} {x : It}, xs = x :: r → cutP (xs.map itP) (some 1) none = r.map itP := fun e => by
      have z := cut_drop (xs.map itP) 1 (by rw [e]; simp)
      rw [e] at z ⊢
      exact z
    k_subL
    refine vs_for (vi_seqL ?_)
    refine ve_lst ?_
    k_places
    refine ⟨_, rfl, ?_⟩
    refine ⟨fun j env h' => ∃ o1 o2 o3 o4 : Option D, env = [some (dL (xs.map itP)), o1, o2, o3, o4] ∧ h' = h ∧ (∀ l, 1 ≤ l → l ≤ j → lastAt l xs = none) ∧ (3 ≤ j → headNot xs = false), ?_, ?_, ?_, ?_⟩
    · exact ⟨none, none, none, none, rfl, rfl, fun l a b => by omega, fun z => by omega⟩
    · exact fun _ _ _ _ => trivial
    · rintro j d env h' hd ⟨o1, o2, o3, o4, rfl, rfl, hn, hh⟩
      obtain ⟨hj, rfl⟩ : j < 6 ∧ d = dI ((j + 1 : Nat) : Int) := by
        have hc : j = 0 ∨ j = 1 ∨ j = 2 ∨ j = 3 ∨ j = 4 ∨ j = 5 ∨ 6 ≤ j := by omega
        rcases hc with rfl | rfl | rfl | rfl | rfl | rfl | hc
        · cases hd; exact ⟨by omega, rfl⟩
        · cases hd; exact ⟨by omega, rfl⟩
        · cases hd; exact ⟨by omega, rfl⟩
        · cases hd; exact ⟨by omega, rfl⟩
        · cases hd; exact ⟨by omega, rfl⟩
        · cases hd; exact ⟨by omega, rfl⟩
        · rw [List.getElem?_eq_none (by simpa using hc)] at hd; cases hd
      have f12 : 2 ≤ j → firstLine [1, 2] xs = none := fun z => by
        simp only [first_cons, first_nil]
        rw [hn 1 (by omega) (by omega), hn 2 (by omega) (by omega)]
      k_places
      refine ⟨xs, j + 1, rfl, hx, hl, ?_⟩
      k_places
      refine ite_dec (fun c3 => ?_) (fun c3 => ?_)
      · have ej : j = 2 := by omega
        subst ej
        k_places
        refine v2_ixL at0 ?_
        k_places
        refine v2_eqP fl.pl rfl (fl.shaped (by decide)) ((it_flat (x := .pre true) .pre).shaped (by decide)) ?_
        have e1 : PyData.eqv (pyOf (itP x0)) (pyOf (.tup [.str (Str.ofString "prefix"), .str (Str.ofString "not")])) = headNot xs := (eqv_not x0).trans en
        rw [e1]
        refine ⟨_, rfl, ?_⟩
        refine ite_b (fun c => ?_) (fun c => ?_)
        · obtain ⟨r, a, er, rfl, da⟩ := dv.hd (f12 (by omega)) c
          k_places
          refine ve_slL ?_
          k_places
          refine vo_some ?_
          k_places
          refine ⟨_, rfl, vo_none ?_⟩
          refine ⟨xs.map itP, rfl, ?_⟩
          rw [tail er]
          k_places
          refine ⟨r, a, rfl, da, fun y hy => hx y (by rw [er]; exact List.mem_cons_of_mem _ hy), by rw [er] at hl; simp at hl; omega, ?_⟩
          k_places
          exact q
        · have e3 : optI (lastAt (2 + 1) xs) = -1 := by rw [n3]; rfl
          rw [e3]
          k_places
          refine ⟨_, _, _, _, rfl, rfl, fun l a b => ?_, fun _ => c⟩
          have hc : l ≤ 2 ∨ l = 3 := by omega
          rcases hc with z | rfl
          · exact hn l a z
          · exact n3
      · refine ite_ff rfl ?_
        cases ek : lastAt (j + 1) xs with
        | none =>
          have e3 : optI none = -1 := rfl
          rw [e3]
          k_places
          refine ⟨_, _, _, _, rfl, rfl, fun l a b => ?_, fun z => ?_⟩
          · by_cases c : l = j + 1
            · rw [c]; exact ek
            · exact hn l a (by omega)
          · exact hh (by omega)
        | some k =>
          obtain ⟨x, _, ex, _, _⟩ := last_some ek
          have hk : k < xs.length := (List.getElem?_eq_some_iff.mp ex).1
          have hpl : PlAt xs k := by
            have hc : j = 0 ∨ j = 1 ∨ j = 3 ∨ j = 4 ∨ j = 5 := by omega
            rcases hc with rfl | rfl | rfl | rfl | rfl
            · exact .inl (by simp only [first_cons, first_nil]; rw [ek])
            · exact .inl (by simp only [first_cons, first_nil]; rw [hn 1 (by omega) (by omega), ek])
            · exact .inr ⟨f12 (by omega), hh (by omega), by simp only [first_cons, first_nil]; rw [ek]⟩
            · exact .inr ⟨f12 (by omega), hh (by omega), by simp only [first_cons, first_nil]; rw [hn 4 (by omega) (by omega), ek]⟩
            · exact .inr ⟨f12 (by omega), hh (by omega), by simp only [first_cons, first_nil]; rw [hn 4 (by omega) (by omega), hn 5 (by omega) (by omega), ek]⟩
          have e3 : optI (some k) = (k : Int) := rfl
          have ct : cutP (xs.map itP) none (some (k : Int)) = (xs.take k).map itP := by rw [cut_take _ _ (by rw [lx]; omega), List.map_take]
          have cd : cutP (xs.map itP) (some ((k : Int) + 1)) none = (xs.drop (k + 1)).map itP := by
            have z := cut_drop (xs.map itP) (k + 1) (by rw [lx]; omega)
            rw [List.map_drop]
            exact z
          have atk : ∀ {y : It}, xs[k]? = some y → atI (xs.map itP) (k : Int) = some (itP y) := fun e => at_nat k rfl (by rw [List.getElem?_map, e]; rfl)
          have lt : (xs.take k).length ≤ 1000 := by rw [List.length_take]; omega
          have ld : (xs.drop (k + 1)).length ≤ 1000 := by rw [List.length_drop]; omega
          rw [e3]
          k_places
          refine ve_slL ?_
          k_places
          refine vo_none (vo_some ?_)
          k_places
          refine ⟨_, rfl, xs.map itP, rfl, ?_⟩
          rw [ct]
          k_places
          rcases dv.at_ hpl with ⟨o, a, b, e, rfl, da, db⟩ | ⟨m, a, e, rfl, da⟩ | ⟨m, ts, a, e, rfl, da⟩
          · refine ⟨_, a, rfl, da, fun y hy => hx y (List.mem_of_mem_take hy), lt, ?_⟩
            k_places
            refine v2_ixL (atk e) ?_
            k_places
            refine v2_ixT (at_nat 0 rfl rfl) ?_
            k_places
            refine v2_ixT (at_nat 0 rfl rfl) ?_
            k_places
            refine v2_ixT (at_nat 1 rfl rfl) ?_
            k_places
            refine ve_slL ?_
            k_places
            refine vo_some ?_
            k_places
            refine ⟨_, rfl, vo_none ?_⟩
            refine ⟨xs.map itP, rfl, ?_⟩
            rw [cd]
            k_places
            refine ⟨_, b, rfl, db, fun y hy => hx y (List.mem_of_mem_drop hy), ld, ?_⟩
            k_places
            exact q
          · refine ⟨_, a, rfl, da, fun y hy => hx y (List.mem_of_mem_take hy), lt, ?_⟩
            k_places
            refine v2_ixL (atk e) ?_
            k_places
            refine v2_ixT (at_nat 0 rfl rfl) ?_
            k_places
            refine v2_ixT (at_nat 1 rfl rfl) ?_
            k_places
            exact q
          · refine ⟨_, a, rfl, da, fun y hy => hx y (List.mem_of_mem_take hy), lt, ?_⟩
            k_places
            refine v2_ixL (atk e) ?_
            k_places
            refine v2_ixT (at_nat 0 rfl rfl) ?_
            k_places
            refine v2_ixT (at_nat 0 rfl rfl) ?_
            k_places
            refine v2_ixT (at_nat 2 rfl rfl) ?_
            k_places
            refine v2_ixT (at_nat 1 rfl rfl) ?_
            k_places
            exact q
    · rintro env h' ⟨o1, o2, o3, o4, rfl, rfl, hn, hh⟩
      have hn : ∀ l, 1 ≤ l → l ≤ 6 → lastAt l xs = none := hn
      have f12 : firstLine [1, 2] xs = none := by
        simp only [first_cons, first_nil]
        rw [hn 1 (by omega) (by omega), hn 2 (by omega) (by omega)]
      have f456 : firstLine [4, 5, 6] xs = none := by
        simp only [first_cons, first_nil]
        rw [hn 4 (by omega) (by omega), hn 5 (by omega) (by omega), hn 6 (by omega) (by omega)]
      have hh : headNot xs = false := hh (by show 3 ≤ 6; omega)
      k_places
      refine v2_ixL at0 ?_
      k_places
      refine v2_eqP fl.pl rfl (fl.shaped (by decide)) ((it_flat (x := .pre false) .pre).shaped (by decide)) ?_
      have e1 : PyData.eqv (pyOf (itP x0)) (pyOf (.tup [.str (Str.ofString "prefix"), .str (Str.ofString "-")])) = isNeg x0 := eqv_neg x0
      rw [e1]
      refine ⟨_, rfl, ?_⟩
      rcases dv.end_ f12 hh f456 with ⟨r, a, er, rfl, da⟩ | ⟨r, er⟩
      · have ex : x0 = .pre false := by rw [e0] at er; cases er; rfl
        rw [ex]
        refine ite_tt rfl ?_
        k_places
        refine ve_slL ?_
        k_places
        refine vo_some ?_
        k_places
        refine ⟨_, rfl, vo_none ?_⟩
        refine ⟨xs.map itP, rfl, ?_⟩
        rw [tail er]
        k_places
        refine ⟨r, a, rfl, da, fun y hy => hx y (by rw [er]; exact List.mem_cons_of_mem _ hy), by rw [er] at hl; simp at hl; omega, ?_⟩
        k_places
        exact q
      · have ex : x0 = .atom t := by rw [e0] at er; cases er; rfl
        rw [ex] at at0 ⊢
        refine ite_ff rfl ?_
        k_places
        refine v2_ixL at0 ?_
        k_places
        refine v2_ixT (at_nat 1 rfl rfl) ?_
        exact q
end
end Law

namespace Law
open PySem PySem.Spec PyProof.Rows L2 Kb SX TL
-- the steps that are tried: k_clsL a side condition; k_subL one step; k_places steps as long as one fits
section
variable {Pg : Program} {w : World} {K : PySem.W.Frag} {Θ : Tbs} {mg : Str → Option Value} {base : Heap}
abbrev st_wrds : Stmt := (topS 72)
theorem sc_wrds : FnScope ["node", "level", "full"] ["node", "level", "full"] (defScope st_wrds) := ⟨rfl, rfl, rfl, by decide +kernel, rfl, by decide +kernel, by decide +kernel⟩
abbrev st_bare : Stmt := (topS 73)
theorem sc_bare : FnScope ["node", "full", "level", "words", "item"] ["node", "full"] (defScope st_bare) := ⟨rfl, rfl, rfl, by decide +kernel, rfl, by decide +kernel, by decide +kernel⟩
def W_wrds : Nat → Spc
  | 0 => fun _ _ _ => False
  | n + 1 => fun ds h R => ∃ (t : P) (l : Nat) (u : List Tok'), ds = [.p t, dI l, dB true] ∧ l ≤ 8 ∧ Fw n t u ∧ u.length ≤ 10000 ∧ R (dL (wdP u)) h
def W_bare (n : Nat) : Spc := fun ds h R => ∃ (t : P) (u : List Tok'), ds = [.p t, dB true] ∧ (Fb n t u ∨ (AtOk t ∧ u = tokA t)) ∧ u.length ≤ 10000 ∧ R (dL (wdP u)) h
theorem fb_lv {n : Nat} {t : P} {u : List Tok'} (h : Fb n t u) : ∃ l, LvR t l ∧ l < 8 := by
  cases h with
  | bin ho _ _ => exact ⟨_, .bin ho, by have := lv_le _ ho; omega⟩
  | not _ => exact ⟨_, .not, by omega⟩
  | neg _ => exact ⟨_, .neg, by omega⟩
  | isN _ => exact ⟨_, .isN, by omega⟩
  | inL _ _ _ _ => exact ⟨_, .inL, by omega⟩
theorem ok_wrds1 {n : Nat} (A : DefAt K mg "_law_words" st_wrds ["node", "level", "full"]) (h__law_level : HasF Pg w K mg base CX0 1 "_law_level" ["node"] (spD K Θ W_lvl)) (h__law_bare : HasF Pg w K mg base CX0 (2 * n + 2) "_law_bare" ["node", "full"] (spD K Θ (W_bare n))) :
    HasF Pg w K mg base CX0 (2 * n + 3) "_law_words" ["node", "level", "full"] (spD K Θ (W_wrds (n + 1))) := by
  have sc := sc_wrds
  refine A.okD sc (W_wrds (n + 1)) (fun ds h R ⟨_, _, _, e, _⟩ => by rw [e]; rfl) fun f cdv A outer s H E hr => ?_
  refine ⟨_, (pss_cons (ps_if (PW.pt (pw_or (pt_cmpR op_lt (h__law_level.call (hr.mono (by first | decide | omega)) rfl pass0 (pa_cons (pv 0) pa_nil)) (pv 1) (nomark _)) (pw_or1 (PW.pt (pw_and (pt_truth (pv 2) (by intro _; rfl)) (pw_and1 (pt_cmpR op_lt (h__law_level.call (hr.mono (by first | decide | omega)) rfl pass0 (pa_cons (pv 0) pa_nil)) pe_int (nomark _)))))))) (pss_one (ps_ret (pe_op (op_addWK (K := K) (by rfl)) (pe_op (op_addWK (K := K) (by rfl)) (pe_lst (pa_cons pe_str pa_nil)) (h__law_bare.call (hr.mono (by first | decide | omega)) rfl pass0 (pa_cons (pv 0) (pa_cons (pv 2) pa_nil)))) (pe_lst (pa_cons pe_str pa_nil))))) pss_nil)
  (pss_one (ps_ret (h__law_bare.call (hr.mono (by first | decide | omega)) rfl pass0 (pa_cons (pv 0) (pa_cons (pv 2) pa_nil)))))), ?_⟩
  try dsimp only [cxOf]
  rintro ds h R ⟨t, l, u, rfl, hl, hw, hu, q⟩
  have sz := sizeLine_eq
  cases hw with
  | atm ht =>
    k_places
    refine ⟨t, 8, rfl, .atm ht, ?_⟩
    k_places
    refine ite_ff (decide_eq_false (by omega)) ?_
    k_places
    refine ⟨t, 8, rfl, .atm ht, ?_⟩
    k_places
    exact ⟨t, _, rfl, .inr ⟨ht, rfl⟩, hu, q⟩
  | @par _ _ u2 hb =>
    obtain ⟨lv, hlv, l8⟩ := fb_lv hb
    simp only [List.length_cons, List.length_append, List.length_nil] at hu
    have e : wdP (opnT :: (u2 ++ [clsT])) = [P.str (Str.ofString "(")] ++ wdP u2 ++ [P.str (Str.ofString ")")] := by
      have e2 : wdP (opnT :: (u2 ++ [clsT])) = P.str (wordT opnT) :: wdP (u2 ++ [clsT]) := rfl
      rw [e2, wdP_app]
      rfl
    rw [e] at q
    k_places
    refine ⟨t, lv, rfl, hlv, ?_⟩
    k_places
    refine ite_dec (fun c => ?_) (fun c => ?_)
    · k_places
      refine ve_lst ?_
      k_places
      refine ⟨t, u2, rfl, .inl hb, by omega, ?_⟩
      refine v2_addWL (by rw [wdP_len]; simp; omega) ?_
      k_places
      refine ve_lst ?_
      k_places
      refine v2_addWL (by rw [List.length_append, wdP_len]; simp; omega) ?_
      k_places
      exact q
    · k_places
      refine ⟨t, lv, rfl, hlv, ?_⟩
      k_places
      refine ite_tt (decide_eq_true (by omega)) ?_
      k_places
      refine ve_lst ?_
      k_places
      refine ⟨t, u2, rfl, .inl hb, by omega, ?_⟩
      refine v2_addWL (by rw [wdP_len]; simp; omega) ?_
      k_places
      refine ve_lst ?_
      k_places
      refine v2_addWL (by rw [List.length_append, wdP_len]; simp; omega) ?_
      k_places
      exact q
theorem ok_bare1 {n : Nat} (A : DefAt K mg "_law_bare" st_bare ["node", "full"]) (m_int : mg "int" = none) (h__law_level : HasF Pg w K mg base CX0 1 "_law_level" ["node"] (spD K Θ W_lvl)) (h__law_listed : HasF Pg w K mg base CX0 1 "_law_listed" ["lists"] (spD K Θ W_lsd))
    (h__law_primary_words : HasF Pg w K mg base CX0 1 "_law_primary_words" ["node", "full"] (spD K Θ W_prw)) (h__law_words : HasF Pg w K mg base CX0 (2 * n + 1) "_law_words" ["node", "level", "full"] (spD K Θ (W_wrds n))) :
    HasF Pg w K mg base CX0 (2 * n + 2) "_law_bare" ["node", "full"] (spD K Θ (W_bare n)) := by
  have sc := sc_bare
  refine A.okD sc (W_bare n) (fun ds h R ⟨_, _, e, _⟩ => by rw [e]; rfl) fun f cdv A outer s H E hr => ?_
  refine ⟨_, (pss_cons (ps_set (i := 2) sc.nd rfl (.inl rfl) (h__law_level.call (hr.mono (by first | decide | omega)) rfl pass0 (pa_cons (pv 0) pa_nil)))
  (pss_cons (ps_if (pt_cmpR (op_eqUK (K := K) (by rfl) hr.units) (pe_ix (ix_seqK (K := K) (by rfl)) (pv 0) pe_int (fun _ _ => rfl)) pe_str (nomark _)) (pss_one (ps_ret (pe_op (op_addWK (K := K) (by rfl)) (pe_op (op_addWK (K := K) (by rfl)) (h__law_words.call (hr.mono (by first | decide | omega)) rfl pass0 (pa_cons (pe_ix (ix_seqK (K := K) (by rfl)) (pv 0) pe_int (fun _ _ => rfl)) (pa_cons (pv 2) (pa_cons (pv 1) pa_nil)))) (pe_lst (pa_cons (pe_ix (ix_seqK (K := K) (by rfl)) (pv 0) pe_int (fun _ _ => rfl)) pa_nil))) (h__law_words.call (hr.mono (by first | decide | omega)) rfl pass0 (pa_cons (pe_ix (ix_seqK (K := K) (by rfl)) (pv 0) pe_int (fun _ _ => rfl)) (pa_cons (pe_op (op_addWK (K := K) (by rfl)) (pv 2) pe_int) (pa_cons (pv 1) pa_nil))))))) pss_nil)
  (pss_cons (ps_if (pt_cmpR (op_eqUK (K := K) (by rfl) hr.units) (pe_ix (ix_seqK (K := K) (by rfl)) (pv 0) pe_int (fun _ _ => rfl)) pe_str (nomark _)) (pss_one (ps_ret (pe_op (op_addWK (K := K) (by rfl)) (pe_lst (pa_cons pe_str pa_nil)) (h__law_words.call (hr.mono (by first | decide | omega)) rfl pass0 (pa_cons (pe_ix (ix_seqK (K := K) (by rfl)) (pv 0) pe_int (fun _ _ => rfl)) (pa_cons pe_int (pa_cons (pv 1) pa_nil))))))) pss_nil)
  (pss_cons (ps_if (pt_cmpR (op_eqUK (K := K) (by rfl) hr.units) (pe_ix (ix_seqK (K := K) (by rfl)) (pv 0) pe_int (fun _ _ => rfl)) pe_str (nomark _)) (pss_one (ps_ret (pe_op (op_addWK (K := K) (by rfl)) (pe_lst (pa_cons pe_str pa_nil)) (h__law_words.call (hr.mono (by first | decide | omega)) rfl pass0 (pa_cons (pe_ix (ix_seqK (K := K) (by rfl)) (pv 0) pe_int (fun _ _ => rfl)) (pa_cons pe_int (pa_cons (pv 1) pa_nil))))))) pss_nil)
  (pss_cons (ps_if (pt_cmpR (op_eqUK (K := K) (by rfl) hr.units) (pe_ix (ix_seqK (K := K) (by rfl)) (pv 0) pe_int (fun _ _ => rfl)) pe_str (nomark _)) (pss_one (ps_ret (pe_op (op_addWK (K := K) (by rfl)) (pe_op (op_addWK (K := K) (by rfl)) (pe_op (op_addWK (K := K) (by rfl)) (h__law_words.call (hr.mono (by first | decide | omega)) rfl pass0 (pa_cons (pe_ix (ix_seqK (K := K) (by rfl)) (pv 0) pe_int (fun _ _ => rfl)) (pa_cons pe_int (pa_cons (pv 1) pa_nil)))) (pe_lst (pa_cons pe_str pa_nil))) (pe_op op_rep (pe_lst (pa_cons pe_str pa_nil)) (pe_callTy call_intU (by rfl) m_int (by decide +kernel) (pa_cons (pe_ix (ix_seqK (K := K) (by rfl)) (pv 0) pe_int (fun _ _ => rfl)) pa_nil)))) (pe_lst (pa_cons pe_str pa_nil))))) pss_nil)
  (pss_cons (ps_if (pt_cmpR (op_inUK (K := K) (by rfl)) (pe_ix (ix_seqK (K := K) (by rfl)) (pv 0) pe_int (fun _ _ => rfl)) (pe_lst (pa_cons pe_str (pa_cons pe_str pa_nil))) (by rfl)) (pss_cons (ps_set (i := 3) sc.nd rfl (.inl rfl) (pe_op (op_addWK (K := K) (by rfl)) (pe_op (op_addWK (K := K) (by rfl)) (h__law_words.call (hr.mono (by first | decide | omega)) rfl pass0 (pa_cons (pe_ix (ix_seqK (K := K) (by rfl)) (pv 0) pe_int (fun _ _ => rfl)) (pa_cons pe_int (pa_cons (pv 1) pa_nil)))) (pe_op op_rep (pe_lst (pa_cons pe_str pa_nil)) (pe_callTy call_intU (by rfl) m_int (by decide +kernel) (pa_cons (pe_ix (ix_seqK (K := K) (by rfl)) (pv 0) pe_int (fun _ _ => rfl)) pa_nil)))) (pe_lst (pa_cons pe_str (pa_cons pe_str pa_nil)))))
  (pss_cons (ps_if (pt_cmpR (op_eqUK (K := K) (by rfl) hr.units) (pe_ix (ix_seqK (K := K) (by rfl)) (pv 0) pe_int (fun _ _ => rfl)) pe_str (nomark _)) pss_never pss_nil)
  (pss_one (ps_ret (pe_op (op_addWK (K := K) (by rfl)) (pe_op (op_addWK (K := K) (by rfl)) (pv 3) (h__law_listed.call (hr.mono (by first | decide | omega)) rfl pass0 (pa_cons (pe_lc (own := [("item", 4)]) rfl sc.nd (pi_seqK (K := K) (by rfl) (pe_ix (ix_seqK (K := K) (by rfl)) (pv 0) pe_int (fun _ _ => rfl))) (blkOk_by (N := ["node", "full", "level", "words", "item"]) (sc := defScope (topS 73)) (by decide +kernel)) (fun _ _ _ _ _ => (pg_name (i := 4) sc.nd rfl (.inl rfl))) (fun _ _ _ _ _ => pts_nil) (fun _ _ _ _ _ => (h__law_words.call (hr.mono (by first | decide | omega)) rfl pass0 (pa_cons (pv 4) (pa_cons pe_int (pa_cons (pv 1) pa_nil)))))) pa_nil))) (pe_lst (pa_cons pe_str pa_nil))))))) pss_nil)
  (pss_one (ps_ret (h__law_primary_words.call (hr.mono (by first | decide | omega)) rfl pass0 (pa_cons (pv 0) (pa_cons (pv 1) pa_nil))))))))))), ?_⟩
  try dsimp only [cxOf]
  rintro ds h R ⟨t, u, rfl, hb, hu, q⟩
  have sz := sizeLine_eq
  refine vs_fin ?_
  have rep : ∀ b : Bool, (List.replicate ((if b = true then 1 else 0 : Int)).toNat [P.str (Str.ofString "not")]).flatten = wdP (orN b) := fun b => by cases b <;> rfl
  have wc : ∀ (q : Tok') (us : List Tok'), wdP (q :: us) = P.str (wordT q) :: wdP us := fun _ _ => rfl
  rcases hb with hb | ⟨ht, rfl⟩
  · cases hb with
    | @bin m o a b wa wb ho fa fb =>
      simp only [List.length_cons, List.length_append] at hu
      have hv := lv_le o ho
      have eo : wordT (opTok o) = o := by unfold opTok; split <;> rfl
      have e : wdP (wa ++ opTok o :: wb) = wdP wa ++ [P.str o] ++ wdP wb := by
        rw [wdP_app, wc, eo, List.append_assoc]; rfl
      rw [e] at q
      k_places
      refine ⟨_, lvS o, rfl, .bin ho, ?_⟩
      k_places
      refine v2_ixT (at_nat 0 rfl rfl) ?_
      k_places
      refine v2_ixT (at_nat 2 rfl rfl) ?_
      k_places
      refine ⟨a, lvS o, wa, rfl, by omega, fa, by omega, ?_⟩
      k_places
      refine ve_lst ?_
      k_places
      refine v2_ixT (at_nat 1 rfl rfl) ?_
      k_places
      refine v2_addWL (by rw [wdP_len]; simp; omega) ?_
      k_places
      refine v2_ixT (at_nat 3 rfl rfl) ?_
      k_places
      refine ⟨b, lvS o + 1, wb, rfl, by omega, fb, by omega, ?_⟩
      refine v2_addWL (by rw [List.length_append, wdP_len, wdP_len]; simp; omega) ?_
      k_places
      exact fin_p0 q
    | @not m a wa fa =>
      simp only [List.length_cons] at hu
      k_places
      refine ⟨_, 3, rfl, .not, ?_⟩
      k_places
      refine v2_ixT (at_nat 0 rfl rfl) ?_
      k_places
      refine v2_ixT (at_nat 0 rfl rfl) ?_
      k_places
      refine ve_lst ?_
      k_places
      refine v2_ixT (at_nat 1 rfl rfl) ?_
      k_places
      refine ⟨a, 3, wa, rfl, by omega, fa, by omega, ?_⟩
      refine v2_addWL (by rw [wdP_len]; simp; omega) ?_
      k_places
      exact fin_p0 q
    | @neg m a wa fa =>
      simp only [List.length_cons] at hu
      k_places
      refine ⟨_, 7, rfl, .neg, ?_⟩
      k_places
      refine v2_ixT (at_nat 0 rfl rfl) ?_
      k_places
      refine v2_ixT (at_nat 0 rfl rfl) ?_
      k_places
      refine v2_ixT (at_nat 0 rfl rfl) ?_
      k_places
      refine ve_lst ?_
      k_places
      refine v2_ixT (at_nat 1 rfl rfl) ?_
      k_places
      refine ⟨a, 7, wa, rfl, by omega, fa, by omega, ?_⟩
      refine v2_addWL (by rw [wdP_len]; simp; omega) ?_
      k_places
      exact fin_p0 q
    | @isN m a wa b fa =>
      have lo := orN_len b
      simp only [List.length_cons, List.length_append, List.length_nil] at hu
      have e : wdP (wa ++ kw (Str.ofString "is") :: (orN b ++ [kw (Str.ofString "null")])) = wdP wa ++ [P.str (Str.ofString "is")] ++ wdP (orN b) ++ [P.str (Str.ofString "null")] := by
        rw [wdP_app, wc, wdP_app, List.append_assoc, List.append_assoc]; rfl
      rw [e] at q
      k_places
      refine ⟨_, 4, rfl, .isN, ?_⟩
      k_places
      refine v2_ixT (at_nat 0 rfl rfl) ?_
      k_places
      refine v2_ixT (at_nat 0 rfl rfl) ?_
      k_places
      refine v2_ixT (at_nat 0 rfl rfl) ?_
      k_places
      refine v2_ixT (at_nat 0 rfl rfl) ?_
      k_places
      refine v2_ixT (at_nat 1 rfl rfl) ?_
      k_places
      refine ⟨a, 4, wa, rfl, by omega, fa, by omega, ?_⟩
      k_places
      refine ve_lst ?_
      k_places
      refine v2_addWL (by rw [wdP_len]; simp; omega) ?_
      k_places
      refine ve_lstO ?_
      k_places
      refine ⟨by simp; omega, ?_⟩
      k_places
      refine v2_ixT (at_nat 2 rfl rfl) ?_
      k_places
      refine v2_repF (xs := [P.str (Str.ofString "not")]) (by simp) (by cases b <;> decide) (by cases b <;> simp <;> omega) ?_
      rw [rep]
      refine v2_addWL (by rw [List.length_append, wdP_len, wdP_len]; simp; omega) ?_
      k_places
      refine ve_lst ?_
      k_places
      refine v2_addWL (by rw [List.length_append, List.length_append, wdP_len, wdP_len]; simp; omega) ?_
      k_places
      exact fin_p _ q
    | @inL m a wa b ts fa h0 h1 h2 =>
      have lo := orN_len b
      have ll := lstT_len h2
      simp only [List.length_cons, List.length_append, List.length_nil] at hu
      have e : wdP (wa ++ (orN b ++ kw (Str.ofString "in") :: opnT :: (lstT ts ++ [clsT]))) = wdP wa ++ wdP (orN b) ++ [P.str (Str.ofString "in"), P.str (Str.ofString "(")] ++ wdP (lstT ts) ++ [P.str (Str.ofString ")")] := by
        rw [wdP_app, wdP_app, wc, wc, wdP_app]
        simp only [List.append_assoc, List.cons_append, List.nil_append]
        rfl
      rw [e] at q
      have n1 : decide (Str.ofString "in_list" ∈ ([Str.ofString "in_list", Str.ofString "in_query"] : List Str)) = true := by decide +kernel
      k_places
      refine ⟨_, 4, rfl, .inL, ?_⟩
      k_places
      refine v2_ixT (at_nat 0 rfl rfl) ?_
      k_places
      refine v2_ixT (at_nat 0 rfl rfl) ?_
      k_places
      refine v2_ixT (at_nat 0 rfl rfl) ?_
      k_places
      refine v2_ixT (at_nat 0 rfl rfl) ?_
      k_places
      refine v2_ixT (at_nat 0 rfl rfl) ?_
      k_places
      refine ve_lst ?_
      k_places
      refine v2_inS (ns := [Str.ofString "in_list", Str.ofString "in_query"]) ?_
      refine ⟨_, rfl, ?_⟩
      refine ite_tt n1 ?_
      k_places
      refine v2_ixT (at_nat 1 rfl rfl) ?_
      k_places
      refine ⟨a, 4, wa, rfl, by omega, fa, by omega, ?_⟩
      k_places
      refine ve_lstO ?_
      k_places
      refine ⟨by simp; omega, ?_⟩
      k_places
      refine v2_ixT (at_nat 3 rfl rfl) ?_
      k_places
      refine v2_repF (xs := [P.str (Str.ofString "not")]) (by simp) (by cases b <;> decide) (by cases b <;> simp <;> omega) ?_
      rw [rep]
      refine v2_addWL (by rw [wdP_len, wdP_len]; omega) ?_
      k_places
      refine ve_lst ?_
      k_places
      refine v2_addWL (by rw [List.length_append, wdP_len, wdP_len]; simp; omega) ?_
      k_places
      refine v2_ixT (at_nat 0 rfl rfl) ?_
      k_places
      refine ve_lc tg_name ?_
      refine vi_seqT ?_
      k_places
      refine v2_ixT (at_nat 2 rfl rfl) ?_
      refine ⟨ts, rfl, fun i => (ts[i]?).map fun t => P.lst (wdP (tokA t)), ?_, fun _ => trivial, ?_, ?_⟩
      · rw [List.length_map]; omega
      · intro i d acc hd
        rw [List.getElem?_map] at hd
        cases ei : ts[i]? with
        | none => rw [ei] at hd; cases hd
        | some t =>
          rw [ei] at hd; cases hd
          have ht := h2 t (List.mem_of_getElem? ei)
          have := tokA_len ht
          refine vg_name ⟨rfl, vt_yes ⟨rfl, ite_t ?_⟩⟩
          k_places
          refine ⟨t, 1, tokA t, rfl, by omega, .atm ht, by omega, ?_⟩
          exact ⟨rfl, _, rfl, by show (ts[i]?).map _ = _; rw [ei]; rfl⟩
      · rw [List.length_map]
        have em : (List.range ts.length).filterMap (fun i => (ts[i]?).map fun t => P.lst (wdP (tokA t))) = (ts.map fun t => wdP (tokA t)).map P.lst := by
          rw [fm_map]
          rw [List.map_map]; rfl
        rw [em]
        k_places
        refine ⟨_, rfl, by simpa using h0, by rw [List.length_map]; omega, fun x hx => ?_, ?_⟩
        · obtain ⟨t, ht, rfl⟩ := List.mem_map.mp hx
          have := tokA_len (h2 t ht)
          rw [wdP_len]; omega
        rw [joinCom_toks]
        refine v2_addWL (by rw [List.length_append, List.length_append, wdP_len, wdP_len, wdP_len]; simp; omega) ?_
        k_places
        refine ve_lst ?_
        k_places
        refine v2_addWL (by rw [List.length_append, List.length_append, List.length_append, wdP_len, wdP_len, wdP_len]; simp; omega) ?_
        k_places
        exact fin_p _ q
  · have n2 : ∀ k ∈ ([Str.ofString "literal", Str.ofString "column"] : List Str), decide (k = Str.ofString "binary") = false ∧ decide (k = Str.ofString "not") = false ∧ decide (k = Str.ofString "negate") = false ∧ decide (k = Str.ofString "is_null") = false ∧ decide (k ∈ ([Str.ofString "in_list", Str.ofString "in_query"] : List Str)) = false := by decide +kernel
    have ht2 := ht
    obtain ⟨k, r, et, hk⟩ : ∃ k r, t = .tup (.str k :: r) ∧ k ∈ ([Str.ofString "literal", Str.ofString "column"] : List Str) := by
      cases ht with
      | int _ _ => exact ⟨_, _, rfl, by decide +kernel⟩
      | col _ => exact ⟨_, _, rfl, by decide +kernel⟩
      | col2 _ _ => exact ⟨_, _, rfl, by decide +kernel⟩
    obtain ⟨a1, a2, a3, a4, a5⟩ := n2 k hk
    k_places
    refine ⟨t, 8, rfl, .atm ht2, ?_⟩
    subst et
    k_places
    refine v2_ixT (at_nat 0 rfl rfl) ?_
    k_places
    rw [a1]
    k_places
    refine v2_ixT (at_nat 0 rfl rfl) ?_
    k_places
    rw [a2]
    k_places
    refine v2_ixT (at_nat 0 rfl rfl) ?_
    k_places
    rw [a3]
    k_places
    refine v2_ixT (at_nat 0 rfl rfl) ?_
    k_places
    rw [a4]
    k_places
    refine v2_ixT (at_nat 0 rfl rfl) ?_
    k_places
    refine ve_lst ?_
    k_places
    refine v2_inS (ns := [Str.ofString "in_list", Str.ofString "in_query"]) ?_
    refine ⟨_, rfl, ?_⟩
    refine ite_ff a5 ?_
    k_places
    exact ⟨_, true, rfl, ht2, fin_p0 q⟩
theorem ok_wrds (A : DefAt K mg "_law_words" st_wrds ["node", "level", "full"]) (B : DefAt K mg "_law_bare" st_bare ["node", "full"]) (m_int : mg "int" = none) (h__law_level : HasF Pg w K mg base CX0 1 "_law_level" ["node"] (spD K Θ W_lvl)) (h__law_listed : HasF Pg w K mg base CX0 1 "_law_listed" ["lists"] (spD K Θ W_lsd))
    (h__law_primary_words : HasF Pg w K mg base CX0 1 "_law_primary_words" ["node", "full"] (spD K Θ W_prw)) : ∀ n : Nat, HasF Pg w K mg base CX0 (2 * n + 1) "_law_words" ["node", "level", "full"] (spD K Θ (W_wrds n))
  | 0 => .never A sc_wrds fun _ _ _ h => h
  | n + 1 => ok_wrds1 A h__law_level (ok_bare1 B m_int h__law_level h__law_listed h__law_primary_words (ok_wrds A B m_int h__law_level h__law_listed h__law_primary_words n))
abbrev st_tree : Stmt := (topS 88)
theorem sc_tree : FnScope ["expression"] ["expression"] (defScope st_tree) := ⟨rfl, rfl, rfl, by decide +kernel, rfl, by decide +kernel, by decide +kernel⟩
def W_tree : Spc := fun ds h R => ∃ t : P, ds = [.p t] ∧ R (.p (qstT t)) h
theorem ok_tree (A : DefAt K mg "_law_tree" st_tree ["expression"]) : HasF Pg w K mg base CX0 1 "_law_tree" ["expression"] (spD K Θ W_tree) := by
  have sc := sc_tree
  refine A.okD sc W_tree (fun ds h R ⟨_, e, _⟩ => by rw [e]; rfl) fun f cdv A outer s H E hr => ?_
  refine ⟨_, (pss_one (ps_ret (pe_tup (pa_cons pe_str (pa_cons (pe_tup (pa_cons pe_str (pa_cons pe_bl (pa_cons (pe_tup (pa_cons (pe_tup (pa_cons (pv 0) (pa_cons pe_non pa_nil))) pa_nil)) (pa_cons pe_non (pa_cons pe_non (pa_cons pe_non (pa_cons pe_non pa_nil)))))))) (pa_cons (pe_tup pa_nil) (pa_cons pe_non pa_nil))))))), ?_⟩
  try dsimp only [cxOf]
  rintro ds h R ⟨t, rfl, q⟩
  k_places
  exact q
end
end Law

namespace Law
open PySem PySem.Spec PyProof.Rows L2 Kb SX TL
-- the steps that are tried: k_clsL a side condition; k_subL one step; k_places steps as long as one fits
section
variable {Pg : Program} {w : World} {K : PySem.W.Frag} {Θ : Tbs} {mg : Str → Option Value} {base : Heap}
/-! ### a flat list grows -/
def Gr (xs : List It) (s : Nat) : Prop := ∀ r, okI s r → okI 0 (xs ++ r)
theorem ok_10 : ∀ {r : List It}, okI 1 r → okI 0 r
  | [], h => by cases h <;> omega
  | .pre true :: r, h => by have := h.1; omega
  | .pre false :: r, h => ⟨by omega, h.2⟩
  | .atom t :: r, h => ⟨by omega, h.2⟩
  | .isI _ :: r, h => by have := h.1; omega
  | .inI _ _ :: r, h => by have := h.1; omega
  | .op _ :: r, h => by have := h.1; omega
theorem ok_21 : ∀ {r : List It}, okI 2 r → okI 1 r
  | [], h => by cases h <;> omega
  | .pre true :: r, h => by have := h.1; omega
  | .pre false :: r, h => by have := h.1; omega
  | .atom t :: r, h => ⟨by omega, h.2⟩
  | .isI _ :: r, h => by have := h.1; omega
  | .inI _ _ :: r, h => by have := h.1; omega
  | .op _ :: r, h => by have := h.1; omega
theorem Gr.step {xs : List It} {s s' : Nat} {ys : List It} (g : Gr xs s) (h : ∀ r, okI s' r → okI s (ys ++ r)) : Gr (xs ++ ys) s' := fun r hr => by
  rw [List.append_assoc]
  exact g _ (h r hr)
theorem gr_nil : Gr [] 0 := fun r h => h
theorem Gr.end_ {xs : List It} {s : Nat} (g : Gr xs s) (hs : s = 3 ∨ s = 4) : okI 0 xs := by
  have z := g [] (by rcases hs with rfl | rfl <;> simp [okI])
  rwa [List.append_nil] at z
theorem lst_len2 {ts : List P} (h : ∀ t ∈ ts, AtOk t) (hl : ts.length ≤ 2) : (lstT ts).length ≤ 7 := by
  cases ts with
  | nil => exact Nat.zero_le _
  | cons t ts => cases ts with
    | nil => have := tokA_len (h t List.mem_cons_self); show (tokA t).length ≤ 7; omega
    | cons u ts => cases ts with
      | nil =>
        have a := tokA_len (h t List.mem_cons_self)
        have b := tokA_len (h u (List.mem_cons_of_mem _ List.mem_cons_self))
        show (tokA t ++ comT :: tokA u).length ≤ 7
        rw [List.length_append, List.length_cons]
        omega
      | cons _ _ => simp at hl
theorem post_len {x : It} (h : (∃ b, x = .isI b) ∨ ∃ b ts, x = .inI b ts ∧ ts ≠ [] ∧ ts.length ≤ 2 ∧ ∀ t ∈ ts, AtOk t) : (toksI x).length ≤ 11 := by
  rcases h with ⟨b, rfl⟩ | ⟨b, ts, rfl, _, h1, h2⟩
  · have := orN_len b
    show (kw (Str.ofString "is") :: (orN b ++ [kw (Str.ofString "null")])).length ≤ 11
    simp only [List.length_cons, List.length_append, List.length_nil]
    omega
  · have := orN_len b
    have := lst_len2 h2 h1
    show (orN b ++ kw (Str.ofString "in") :: opnT :: (lstT ts ++ [clsT])).length ≤ 11
    simp only [List.length_cons, List.length_append, List.length_nil]
    omega
theorem post_ok {x : It} (h : (∃ b, x = .isI b) ∨ ∃ b ts, x = .inI b ts ∧ ts ≠ [] ∧ ts.length ≤ 2 ∧ ∀ t ∈ ts, AtOk t) {s : Nat} (hs : s = 3 ∨ s = 4) : ∀ r, okI 4 r → okI s ([x] ++ r) := fun r hr => by
  rcases h with ⟨b, rfl⟩ | ⟨b, ts, rfl, h0, h1, h2⟩
  · exact ⟨hs, hr⟩
  · exact ⟨hs, h0, h1, h2, hr⟩
theorem toks_snoc (xs : List It) (x : It) : (toks (xs ++ [x])).length = (toks xs).length + (toksI x).length := by
  rw [toks_app, List.length_append]
  show _ + (toksI x ++ []).length = _
  rw [List.append_nil]
abbrev st_flat : Stmt := (topS 82)
theorem sc_flat : FnScope ["state", "count", "items", "operator", "postfix"] ["state", "count"] (defScope st_flat) := ⟨rfl, rfl, rfl, by decide +kernel, rfl, by decide +kernel, by decide +kernel⟩
def W_flat : Spc := fun ds h R => ∃ (n : Nat) (ns : List Int) (a b c cnt : Int), ds = [.own n, dI cnt] ∧ h[n]? = some (some (stO ns a b c)) ∧ OkSt ns a b c ∧ 1 ≤ cnt ∧ cnt ≤ 100 ∧
  ∀ (xs : List It) (a' b' c' : Int), OkSt ns a' b' c' → okI 0 xs → (toks xs).length ≤ 119 → R (dL (xs.map itP)) (h.set n (some (stO ns a' b' c')))
/-- the heap while the list grows -/
abbrev gH (h junk : Hs) (n : Nat) (ns : List Int) (a b c : Int) : Hs := (h ++ junk).set n (some (stO ns a b c))
theorem gh_push {h junk : Hs} {n : Nat} {ns : List Int} {a b c : Int} (hl : n < h.length) (y : Option OO) : gH h junk n ns a b c ++ [y] = gH h (junk ++ [y]) n ns a b c := by
  show (h ++ junk).set n _ ++ [y] = (h ++ (junk ++ [y])).set n _
  rw [← List.append_assoc]
  exact (List.set_append_left _ _ (by rw [List.length_append]; omega)).symm
theorem gh_get {h junk : Hs} {n : Nat} {ns : List Int} {a b c : Int} (hl : n < h.length) (j : Nat) : (gH h junk n ns a b c)[h.length + j]? = junk[j]? := by
  show ((h ++ junk).set n _)[h.length + j]? = _
  rw [List.getElem?_set_ne (by omega), List.getElem?_append_right (by omega), Nat.add_sub_cancel_left]
theorem gh_set {h junk : Hs} {n : Nat} {ns : List Int} {a b c : Int} (hl : n < h.length) (j : Nat) (y : Option OO) : (gH h junk n ns a b c).set (h.length + j) y = gH h (junk.set j y) n ns a b c := by
  show ((h ++ junk).set n _).set (h.length + j) y = (h ++ junk.set j y).set n _
  rw [List.set_comm _ _ (by omega), List.set_append_right _ _ (by omega), Nat.add_sub_cancel_left]
theorem gh_len {h junk : Hs} {n : Nat} {ns : List Int} {a b c : Int} : (gH h junk n ns a b c).length = h.length + junk.length := by
  show ((h ++ junk).set n _).length = _
  rw [List.length_set, List.length_append]
abbrev itO (xs : List It) : Option OO := some (.lst ((xs.map itP).map D.p))
theorem gh_hl {h junk : Hs} {n : Nat} (hl : n < h.length) : n < (h ++ junk).length := by rw [List.length_append]; omega
theorem op_or : isOp (Str.ofString "or") := show _ ∈ _ by decide +kernel
/-- items + [p] * (draw // 2) -/
theorem pre_step {b : Bool} {wd : Str} (hw : itP (.pre b) = .tup [.str (Str.ofString "prefix"), .str wd]) {E : En} {h junk : Hs} {n j : Nat} {ns : List Int} {a b' c cnt : Int} {o : Str} {pf : Option D} {xs : List It} (hl : n < h.length) (ok : OkSt ns a b' c) (hj : junk[j]? = some (itO xs)) (xl : xs.length ≤ 2000)
    (q : ∀ (junk' : Hs) (j' : Nat) (xs' : List It) (a b' c : Int), OkSt ns a b' c → junk'[j']? = some (itO xs') → (xs' = xs ∨ xs' = xs ++ [.pre b]) → E.nx [some (.own n), some (dI cnt), some (.own (h.length + j')), some (dS o), pf] (gH h junk' n ns a b' c)) :
    VS K (Ctx.plain Θ) (tAsg (tOp (rAddW K) (tVar 2) (tOp rRep (tLst (tCons (tTup (tCons (tC (V.str (Str.ofString "prefix"))) (tCons (tC (V.str wd)) tNil))) tNil)) (tOp (rI CDivW fun i j => V.int (i / j)) (tCall (spD K Θ W_next) [] E0 (tCons (tVar 0) (tCons (tC (V.int 4)) tNil))) (tC (V.int 2))))) (gName 2)) E
      [some (.own n), some (dI cnt), some (.own (h.length + j)), some (dS o), pf] (gH h junk n ns a b' c) := by
  have sz := sizeLine_eq
  have jl : j < junk.length := (List.getElem?_eq_some_iff.mp hj).1
  k_places
  refine ve_lstO ?_
  k_places
  refine ⟨by simp; omega, ?_⟩
  rw [gh_push hl]
  k_places
  refine next_i (gh_hl hl) ok (by decide) (by decide) fun v a b' c ok v0 v1 => ?_
  k_places
  have hv : v / 2 = 0 ∨ v / 2 = 1 := by omega
  have g1 : (gH h (junk ++ [some (OO.lst [D.p (.tup [.str (Str.ofString "prefix"), .str wd])])]) n ns a b' c)[h.length + junk.length]? = some (some (.lst ([P.tup [.str (Str.ofString "prefix"), .str wd]].map D.p))) := by
    rw [gh_get hl, List.getElem?_append_right (Nat.le_refl _), Nat.sub_self]; rfl
  have g2 : SeqL (.own (h.length + j)) (gH h (junk ++ [some (OO.lst [D.p (.tup [.str (Str.ofString "prefix"), .str wd])])]) n ns a b' c) (xs.map itP) := by
    show (gH h _ n ns a b' c)[h.length + j]? = _
    rw [gh_get hl, List.getElem?_append_left jl]
    exact hj
  rw [gh_len]
  refine v2_repF (xs := [P.tup [.str (Str.ofString "prefix"), .str wd]]) g1 (by omega) (by simp; omega) ?_
  refine v2_addWMO g2 rfl (by rw [List.length_map]; rcases hv with e | e <;> rw [e] <;> simp <;> omega) ?_
  rw [gh_push hl, gh_len]
  refine vg_name ?_
  refine q _ _ (xs ++ List.replicate (v / 2).toNat (.pre b)) a b' c ok ?_ ?_
  · rw [List.getElem?_append_right (by omega), Nat.sub_self]
    show some (some (OO.lst _)) = _
    rcases hv with e | e <;> rw [e]
    · simp
    · simp [hw]
  · rcases hv with e | e <;> rw [e]
    · exact .inl (by simp)
    · exact .inr (by simp)
theorem ok_flat (A : DefAt K mg "_law_flat" st_flat ["state", "count"]) (m_len : mg "len" = none) (h__law_next : HasF Pg w K mg base CX0 1 "_law_next" ["state", "limit"] (spD K Θ W_next)) (h__law_atom : HasF Pg w K mg base CX0 3 "_law_atom" ["state"] (spD K Θ (W_draw AtOk)))
    (h__law_postfix : HasF Pg w K mg base CX0 4 "_law_postfix" ["state"] (spD K Θ (W_draw PostOk))) (h__law_operator : HasF Pg w K mg base CX0 2 "_law_operator" ["state", "postfix"] (spD K Θ W_oper)) (h__law_flat_words : HasF Pg w K mg base CX0 3 "_law_flat_words" ["items"] (spD K Θ W_fws)) :
    HasF Pg w K mg base CX0 5 "_law_flat" ["state", "count"] (spD K Θ W_flat) := by
  have sc := sc_flat
  refine A.okD sc W_flat (fun ds h R ⟨_, _, _, _, _, _, e, _⟩ => by rw [e]; rfl) fun f cdv A outer s H E hr => ?_
  refine ⟨_, (pss_cons (ps_set (i := 2) sc.nd rfl (.inl rfl) (pe_lst pa_nil))
  (pss_cons (ps_set (i := 3) sc.nd rfl (.inl rfl) pe_str)
  (pss_cons (ps_while PassesOwn.never (pt_cmpR op_gt (pv 1) pe_int (nomark _))
  (pss_cons (ps_aug (i := 1) sc.nd rfl (.inl rfl) pe_int ip_sub)
  (pss_cons (ps_if (pt_cmpR (op_inUK (K := K) (by rfl)) (pv 3) (pe_lst (pa_cons pe_str (pa_cons pe_str pa_nil))) (by rfl)) (pss_one (ps_set (i := 2) sc.nd rfl (.inl rfl) (pe_op (op_addWK (K := K) (by rfl)) (pv 2) (pe_op op_rep (pe_lst (pa_cons (pe_tup (pa_cons pe_str (pa_cons pe_str pa_nil))) pa_nil)) (pe_op op_fdivW (h__law_next.call (hr.mono (by first | decide | omega)) rfl pass0 (pa_cons (pv 0) (pa_cons pe_int pa_nil))) pe_int))))) pss_nil)
  (pss_cons (ps_set (i := 2) sc.nd rfl (.inl rfl) (pe_op (op_addWK (K := K) (by rfl)) (pv 2) (pe_op op_rep (pe_lst (pa_cons (pe_tup (pa_cons pe_str (pa_cons pe_str pa_nil))) pa_nil)) (pe_op op_fdivW (h__law_next.call (hr.mono (by first | decide | omega)) rfl pass0 (pa_cons (pv 0) (pa_cons pe_int pa_nil))) pe_int))))
  (pss_cons (ps_expr (pe_bm PySem.F.plainAttrs_list PySem.F.slot_list_append PySem.F.type_list_append mt_append (pv 2) (pa_cons (pe_tup (pa_cons pe_str (pa_cons (h__law_atom.call (hr.mono (by first | decide | omega)) rfl pass0 (pa_cons (pv 0) pa_nil)) pa_nil))) pa_nil)))
  (pss_cons (ps_set (i := 4) sc.nd rfl (.inl rfl) (pe_cmpR (op_eqUK (K := K) (by rfl) hr.units) (h__law_next.call (hr.mono (by first | decide | omega)) rfl pass0 (pa_cons (pv 0) (pa_cons pe_int pa_nil))) pe_int (nomark _)))
  (pss_cons (ps_if (pt_truth (pv 4) (by intro _; rfl)) (pss_cons (ps_expr (pe_bm PySem.F.plainAttrs_list PySem.F.slot_list_append PySem.F.type_list_append mt_append (pv 2) (pa_cons (h__law_postfix.call (hr.mono (by first | decide | omega)) rfl pass0 (pa_cons (pv 0) pa_nil)) pa_nil)))
  (pss_one (ps_if (pt_cmpR (op_eqUK (K := K) (by rfl) hr.units) (h__law_next.call (hr.mono (by first | decide | omega)) rfl pass0 (pa_cons (pv 0) (pa_cons pe_int pa_nil))) pe_int (nomark _)) (pss_one (ps_expr (pe_bm PySem.F.plainAttrs_list PySem.F.slot_list_append PySem.F.type_list_append mt_append (pv 2) (pa_cons (h__law_postfix.call (hr.mono (by first | decide | omega)) rfl pass0 (pa_cons (pv 0) pa_nil)) pa_nil)))) pss_nil))) pss_nil)
  (pss_one (ps_if (PW.pt (pw_and (pt_cmpR op_gt (pv 1) pe_int (nomark _)) (pw_and1 (pt_cmpR op_lt (pe_callB (call_lenK (K := K) (by rfl)) (by rfl) m_len (by decide +kernel) (pa_cons (h__law_flat_words.call (hr.mono (by first | decide | omega)) rfl pass0 (pa_cons (pv 2) pa_nil)) pa_nil)) pe_int (nomark _))))) (pss_cons (ps_set (i := 3) sc.nd rfl (.inl rfl) (h__law_operator.call (hr.mono (by first | decide | omega)) rfl pass0 (pa_cons (pv 0) (pa_cons (pv 4) pa_nil))))
  (pss_one (ps_expr (pe_bm PySem.F.plainAttrs_list PySem.F.slot_list_append PySem.F.type_list_append mt_append (pv 2) (pa_cons (pe_tup (pa_cons pe_str (pa_cons (pv 3) pa_nil))) pa_nil))))) (pss_one (ps_set (i := 1) sc.nd rfl (.inl rfl) pe_int)))))))))))
  (pss_one (ps_ret (pv 2)))))), ?_⟩
  try dsimp only [cxOf]
  rintro ds h R ⟨n, ns, a, b, c, cnt, rfl, hn, ok, cn1, cn2, q⟩
  have hl : n < h.length := (List.getElem?_eq_some_iff.mp hn).1
  have sz := sizeLine_eq
  refine vs_trim ?_
  k_subL
  k_places
  refine ve_lstO ?_
  k_places
  refine ⟨by simp, ?_⟩
  k_places
  -- what is known at the head of the loop
  have st0 : h ++ [some (OO.lst [])] = gH h [itO []] n ns a b c := by
    show _ = (h ++ [itO []]).set n _
    rw [List.set_append_left _ _ hl, set_same hn]
    rfl
  rw [st0]
  refine vs_mid (fun env' h' => ∃ (junk : Hs) (j : Nat) (xs : List It) (a b c : Int) (o : Str) (pf : Option D), env' = [some (.own n), some (dI 0), some (.own (h.length + j)), some (dS o), pf] ∧ h' = gH h junk n ns a b c ∧ junk[j]? = some (itO xs) ∧ OkSt ns a b c ∧ okI 0 xs ∧ (toks xs).length ≤ 119) ?_ ?_
  rotate_left
  · rintro env' h' ⟨junk, j, xs, a, b, c, o, pf, rfl, rfl, hj, ok, okx, tl⟩
    refine vs_freeze (i := 2) (n := h.length + j) (ps := xs.map itP) rfl ((gh_get (ns := ns) (a := a) (b := b) (c := c) hl j).trans hj) ?_
    rw [gh_set hl]
    k_places
    refine ⟨h.set n (some (stO ns a b c)), junk.set j none, List.set_append_left _ _ hl, by rw [List.length_set], ?_, _, rfl, q xs a b c ok okx tl⟩
    exact (lowH.refl h).set stO_low
  refine vs_whileN (fun N env' h' => ∃ (junk : Hs) (j : Nat) (xs : List It) (a b c cnt : Int) (o : Str) (pf : Option D), env' = [some (.own n), some (dI cnt), some (.own (h.length + j)), some (dS o), pf] ∧ h' = gH h junk n ns a b c ∧ junk[j]? = some (itO xs) ∧ OkSt ns a b c ∧
    ((1 ≤ cnt ∧ isOp o ∧ Gr xs (if lvS o ≤ 2 then 0 else 1) ∧ (toks xs).length ≤ 92 ∧ (xs.length : Int) ≤ 10 * (100 - cnt)) ∨ (cnt = 0 ∧ okI 0 xs ∧ (toks xs).length ≤ 119)) ∧ cnt ≤ 100 ∧ N = cnt.toNat) ⟨[itO []], 0, [], a, b, c, cnt, Str.ofString "or", none, rfl, rfl, rfl, ok, .inl ⟨cn1, op_or, gr_nil, Nat.zero_le _, by show 0 ≤ _; omega⟩, cn2, rfl⟩ ?_
  clear st0 ok
  rintro N env' h' ⟨junk, j, xs, a, b, c, cnt, o, pf, rfl, rfl, hj, ok, cond, c2, rfl⟩
  rcases cond with ⟨c1, ho, g, tl, xl⟩ | ⟨rfl, okx, tl⟩
  · have xl2 : xs.length ≤ 1000 := by omega
    k_places
    refine ite_tt (decide_eq_true (by omega)) ?_
    refine vs_seq ?_
    refine vs_aug rfl ?_
    k_places
    refine v2_ip ?_
    have hin : decide (o ∈ ([Str.ofString "or", Str.ofString "and"] : List Str)) = decide (lvS o ≤ 2) := by
      have all : ∀ o ∈ opsOr ++ opsAnd ++ opsCmp ++ opsTot ++ opsPro, decide (o ∈ ([Str.ofString "or", Str.ofString "and"] : List Str)) = decide (lvS o ≤ 2) := by decide +kernel
      exact all o ho
    refine vs_cut (fun env' h' => ∃ (junk : Hs) (j : Nat) (xs : List It) (a b c : Int), env' = [some (.own n), some (dI (cnt - 1)), some (.own (h.length + j)), some (dS o), pf] ∧ h' = gH h junk n ns a b c ∧ junk[j]? = some (itO xs) ∧ OkSt ns a b c ∧ Gr xs 1 ∧ (toks xs).length ≤ 93 ∧ (xs.length : Int) ≤ 10 * (100 - cnt) + 1) ?_ ?_
    · k_places
      refine ve_lst ?_
      k_places
      refine v2_inS (ns := [Str.ofString "or", Str.ofString "and"]) ?_
      refine ⟨_, rfl, ?_⟩
      rw [hin]
      by_cases hv : lvS o ≤ 2
      · rw [if_pos hv] at g
        refine ite_tt (decide_eq_true hv) ?_
        refine pre_step (b := true) rfl hl ok hj (by omega) fun junk' j' xs' a b c ok hj' hx => ⟨junk', j', xs', a, b, c, rfl, rfl, hj', ok, ?_⟩
        rcases hx with rfl | rfl
        · exact ⟨fun r hr => g r (ok_10 hr), by omega, by omega⟩
        · refine ⟨g.step fun r hr => ⟨rfl, hr⟩, ?_, by rw [List.length_append]; simp; omega⟩
          rw [toks_snoc]
          show _ + 1 ≤ _
          omega
      · rw [if_neg hv] at g
        refine ite_ff (decide_eq_false hv) ?_
        k_places
        exact ⟨junk, j, xs, a, b, c, rfl, rfl, hj, ok, g, by omega, by omega⟩
    clear hj ok g tl xl xl2
    rintro env' h' ⟨junk, j, xs, a, b, c, rfl, rfl, hj, ok, g, tl, xl⟩
    refine vs_seq ?_
    refine pre_step (b := false) rfl hl ok hj (by omega) fun junk' j' xs' a b c ok hj' hx => ?_
    have st : Gr xs' 2 ∧ (toks xs').length ≤ 94 ∧ (xs'.length : Int) ≤ 10 * (100 - cnt) + 2 := by
      rcases hx with rfl | rfl
      · exact ⟨fun r hr => g r (ok_21 hr), by omega, by omega⟩
      · refine ⟨g.step fun r hr => ⟨by omega, hr⟩, ?_, by rw [List.length_append]; simp; omega⟩
        rw [toks_snoc]
        show _ + 1 ≤ _
        omega
    clear hj g tl xl hx
    obtain ⟨g, tl, xl⟩ := st
    have jl : j' < junk'.length := (List.getElem?_eq_some_iff.mp hj').1
    have gm : ∀ a b c, (gH h junk' n ns a b c)[h.length + j']? = some (some (.lst ((xs'.map itP).map D.p))) := fun a b c => by rw [gh_get hl]; exact hj'
    k_places
    refine ve_bm ?_
    k_places
    refine ⟨⟨rfl, _, gm a b c⟩, ?_⟩
    k_places
    refine draw_i (gh_hl hl) ok fun v a b c ok hv => ?_
    k_places
    refine vm_append (gm a b c) (by rw [List.length_map, List.length_map]; omega) ?_
    rw [gh_set hl]
    have e1 : some (OO.lst ((xs'.map itP).map D.p ++ [D.p (.tup [.str (Str.ofString "atom"), v])])) = itO (xs' ++ [.atom v]) := by
      show _ = some (OO.lst _)
      rw [List.map_append, List.map_append]
      rfl
    rw [e1]
    have hv3 := tokA_len hv
    have st : Gr (xs' ++ [.atom v]) 3 ∧ (toks (xs' ++ [.atom v])).length ≤ 97 ∧ ((xs' ++ [It.atom v]).length : Int) ≤ 10 * (100 - cnt) + 3 := by
      refine ⟨g.step fun r hr => ⟨by omega, hv, hr⟩, ?_, by rw [List.length_append]; simp; omega⟩
      rw [toks_snoc]
      show _ + (tokA v).length ≤ _
      omega
    have hj2 : (junk'.set j' (itO (xs' ++ [.atom v])))[j']? = some (itO (xs' ++ [.atom v])) := List.getElem?_set_self jl
    clear gm e1 hv3 g tl xl hj'
    generalize xs' ++ [It.atom v] = xs1 at st hj2 ⊢
    generalize junk'.set j' (itO xs1) = junk1 at hj2 ⊢
    obtain ⟨g, tl, xl⟩ := st
    k_places
    refine next_i (gh_hl hl) ok (by decide) (by decide) fun v5 a b c ok v50 v51 => ?_
    k_offL
    refine vs_cut (fun env' h' => ∃ (junk : Hs) (j : Nat) (xs : List It) (s : Nat) (a b c : Int), env' = [some (.own n), some (dI (cnt - 1)), some (.own (h.length + j)), some (dS o), some (dB (decide (v5 = 0)))] ∧ h' = gH h junk n ns a b c ∧ junk[j]? = some (itO xs) ∧ OkSt ns a b c ∧ Gr xs s ∧ (s = 3 ∨ s = 4) ∧ (s = 4 → v5 = 0) ∧ (v5 = 0 → s = 4) ∧ (toks xs).length ≤ 119 ∧ (xs.length : Int) ≤ 10 * (100 - cnt) + 5) ?_ ?_
    · k_places
      refine ite_dec (fun e5 => ?_) (fun e5 => ?_)
      · have jl : j' < junk1.length := (List.getElem?_eq_some_iff.mp hj2).1
        have gm : ∀ a b c, (gH h junk1 n ns a b c)[h.length + j']? = some (some (.lst ((xs1.map itP).map D.p))) := fun a b c => by rw [gh_get hl]; exact hj2
        k_places
        refine ve_bm ?_
        k_places
        refine ⟨⟨rfl, _, gm a b c⟩, ?_⟩
        k_places
        refine draw_i (gh_hl hl) ok fun p a b c ok hp => ?_
        obtain ⟨x, rfl, hx⟩ := hp
        have lx := post_len hx
        k_places
        refine vm_append (gm a b c) (by rw [List.length_map, List.length_map]; omega) ?_
        rw [gh_set hl]
        have e1 : some (OO.lst ((xs1.map itP).map D.p ++ [D.p (itP x)])) = itO (xs1 ++ [x]) := by
          show _ = some (OO.lst _)
          rw [List.map_append, List.map_append]
          rfl
        rw [e1]
        have st : Gr (xs1 ++ [x]) 4 ∧ (toks (xs1 ++ [x])).length ≤ 108 ∧ ((xs1 ++ [x]).length : Int) ≤ 10 * (100 - cnt) + 4 := by
          refine ⟨g.step (post_ok hx (.inl rfl)), ?_, by rw [List.length_append]; simp; omega⟩
          rw [toks_snoc]
          omega
        have hj3 : (junk1.set j' (itO (xs1 ++ [x])))[j']? = some (itO (xs1 ++ [x])) := List.getElem?_set_self jl
        clear gm e1 lx hx g tl xl hj2
        generalize xs1 ++ [x] = xs2 at st hj3 ⊢
        generalize junk1.set j' (itO xs2) = junk2 at hj3 ⊢
        obtain ⟨g, tl, xl⟩ := st
        k_places
        refine next_i (gh_hl hl) ok (by decide) (by decide) fun v6 a b c ok v60 v61 => ?_
        k_places
        refine ite_dec (fun e6 => ?_) (fun e6 => ?_)
        · have jl : j' < junk2.length := (List.getElem?_eq_some_iff.mp hj3).1
          have gm : ∀ a b c, (gH h junk2 n ns a b c)[h.length + j']? = some (some (.lst ((xs2.map itP).map D.p))) := fun a b c => by rw [gh_get hl]; exact hj3
          k_places
          refine ve_bm ?_
          k_places
          refine ⟨⟨rfl, _, gm a b c⟩, ?_⟩
          k_places
          refine draw_i (gh_hl hl) ok fun p a b c ok hp => ?_
          obtain ⟨x, rfl, hx⟩ := hp
          have lx := post_len hx
          k_places
          refine vm_append (gm a b c) (by rw [List.length_map, List.length_map]; omega) ?_
          rw [gh_set hl]
          have e1 : some (OO.lst ((xs2.map itP).map D.p ++ [D.p (itP x)])) = itO (xs2 ++ [x]) := by
            show _ = some (OO.lst _)
            rw [List.map_append, List.map_append]
            rfl
          rw [e1]
          refine ⟨junk2.set j' (itO (xs2 ++ [x])), j', xs2 ++ [x], 4, a, b, c, rfl, rfl, List.getElem?_set_self jl, ok, g.step (post_ok hx (.inr rfl)), .inr rfl, fun _ => e5, fun _ => rfl, ?_, by rw [List.length_append]; simp; omega⟩
          rw [toks_snoc]
          omega
        · k_places
          exact ⟨junk2, j', xs2, 4, a, b, c, rfl, rfl, hj3, ok, g, .inr rfl, fun _ => e5, fun _ => rfl, by omega, by omega⟩
      · k_places
        exact ⟨junk1, j', xs1, 3, a, b, c, rfl, rfl, hj2, ok, g, .inl rfl, fun z => by omega, fun z => absurd z e5, by omega, by omega⟩
    clear hj2 ok g tl xl
    rintro env' h' ⟨junk2, j2, xs2, s, a, b, c, rfl, rfl, hj2, ok, g, hs, s4, s4', tl, xl⟩
    have jl : j2 < junk2.length := (List.getElem?_eq_some_iff.mp hj2).1
    have gm : ∀ a b c, (gH h junk2 n ns a b c)[h.length + j2]? = some (some (.lst ((xs2.map itP).map D.p))) := fun a b c => by rw [gh_get hl]; exact hj2
    have okx := g.end_ hs
    have done : ∀ a b c : Int, OkSt ns a b c → ∃ m, m < cnt.toNat ∧ ∃ (junk : Hs) (j : Nat) (xs : List It) (a' b' c' cnt' : Int) (o' : Str) (pf' : Option D), [some (.own n), some (dI 0), some (.own (h.length + j2)), some (dS o), some (dB (decide (v5 = 0)))] = [some (.own n), some (dI cnt'), some (.own (h.length + j)), some (dS o'), pf'] ∧ gH h junk2 n ns a b c = gH h junk n ns a' b' c' ∧ junk[j]? = some (itO xs) ∧ OkSt ns a' b' c' ∧
        ((1 ≤ cnt' ∧ isOp o' ∧ Gr xs (if lvS o' ≤ 2 then 0 else 1) ∧ (toks xs).length ≤ 92 ∧ (xs.length : Int) ≤ 10 * (100 - cnt')) ∨ (cnt' = 0 ∧ okI 0 xs ∧ (toks xs).length ≤ 119)) ∧ cnt' ≤ 100 ∧ m = cnt'.toNat := fun a b c ok =>
      ⟨0, by omega, junk2, j2, xs2, a, b, c, 0, o, _, rfl, rfl, hj2, ok, .inr ⟨rfl, okx, tl⟩, by omega, rfl⟩
    k_places
    refine ite_dec (fun c1' => ?_) (fun c1' => ?_)
    · k_places
      refine ⟨_, xs2, rfl, .inl ⟨_, rfl, gm a b c⟩, ok_items okx, by omega, ?_⟩
      k_places
      rw [wdP_len]
      refine ite_dec (fun c92 => ?_) (fun c92 => ?_)
      · k_places
        refine ⟨n, ns, a, b, c, _, rfl, List.getElem?_set_self (gh_hl hl), ok, fun o2 a b c ok ho2 l4 => ?_⟩
        rw [List.set_set]
        k_places
        refine ve_bm ?_
        k_places
        refine ⟨⟨rfl, _, gm a b c⟩, ?_⟩
        k_places
        refine vm_append (gm a b c) (by rw [List.length_map, List.length_map]; omega) ?_
        rw [gh_set hl]
        have e1 : some (OO.lst ((xs2.map itP).map D.p ++ [D.p (.tup [.str (Str.ofString "operator"), .str o2])])) = itO (xs2 ++ [.op o2]) := by
          show _ = some (OO.lst _)
          rw [List.map_append, List.map_append]
          rfl
        rw [e1]
        refine ⟨(cnt - 1).toNat, by omega, junk2.set j2 (itO (xs2 ++ [.op o2])), j2, xs2 ++ [.op o2], a, b, c, cnt - 1, o2, _, rfl, rfl, List.getElem?_set_self jl, ok, .inl ⟨by omega, ho2, g.step fun r hr => ?_, ?_, by rw [List.length_append]; simp; omega⟩, by omega, rfl⟩
        · refine ⟨?_, ho2, hr⟩
          rcases hs with z | z
          · exact .inl z
          · exact .inr ⟨z, l4 (decide_eq_true (s4 z))⟩
        · rw [toks_snoc]
          show _ + 1 ≤ _
          omega
      · k_places
        exact done a b c ok
    · k_places
      exact done a b c ok
  · k_places
    exact ⟨junk, j, xs, a, b, c, o, pf, rfl, rfl, hj, ok, okx, tl⟩
end
end Law

namespace Law
open PySem PySem.Spec PyProof.Rows L2 Kb
def strsV : List Value → Option (List Str)
  | [] => some []
  | .str s _ :: r => (strsV r).map (s :: ·)
  | _ => none
theorem strsV_vals : ∀ {us : List Value} {ss : List Str}, strsV us = some ss → Vals (ss.map V.str) us ∧ us.length = ss.length
  | [], ss, h => by cases h; exact ⟨.nil, rfl⟩
  | u :: us, ss, h => by
    cases u with
    | str s t =>
      simp only [strsV] at h
      cases e : strsV us with
      | none => rw [e] at h; cases h
      | some r =>
        rw [e] at h
        cases h
        obtain ⟨a, b⟩ := strsV_vals e
        exact ⟨.cons ⟨t, rfl⟩ a, by simp [b]⟩
    | _ => cases h
theorem ktup_mk {K : PySem.W.Frag} {a : Addr} {od : Option Addr} {its : Array Value} {n : Nat} {sl : Array (Option Value)} {ss : List Str} (l : K.lookup a = some ⟨.type "tuple", od, .seq its n, sl⟩) (h : strsV its.toList = some ss) (hl : ss.length ≤ sizeLine) : KTup K a (ss.map V.str) := by
  obtain ⟨v, e⟩ := strsV_vals h
  exact ⟨_, its, n, l, rfl, rfl, by rw [← Array.length_toList, e]; exact hl, v⟩
theorem rini_mk {K : PySem.W.Frag} {C f : Addr} {oc : Value} {od an : Option Addr} {osl : Array (Option Value)} {kV doc pm cdv ct : Value}
    (hb : ∀ (kV doc pm : Value) (an : Option Addr) (cdv ct : Value) (us : List Value), us.length = (["self", "position"] : List Str).length → bindArgs (PySem.W.fnOf "__init__" "RefusedText.__init__" (defArgs st_rini) (defBody st_rini) (defScope st_rini) .none kV doc pm an cdv ct) ⟨us, []⟩ = pure ((["self", "position"] : List Str).zip us))
    (a : PySem.W.findIn K (.ref C) "__init__" = some (some (.ref f))) (ty : PySem.W.typeIn K (.ref f) = some (.type "function"))
    (l : K.lookup f = some ⟨oc, od, .func (PySem.W.fnOf "__init__" "RefusedText.__init__" (defArgs st_rini) (defBody st_rini) (defScope st_rini) .none kV doc pm an cdv ct), osl⟩) (c : PySem.W.codeIn K cdv "RefusedText.__init__" = true) (k : PySem.W.keepIn K (.ref f) = true) :
    ∃ fI fd, Fun K "__init__" "RefusedText.__init__" st_rini fI fd ∧ PySem.W.findIn K (.ref C) "__init__" = some (some (.ref fI)) ∧ PySem.W.typeIn K (.ref fI) = some (.type "function") ∧ Binds K fd ["self", "position"] [] := by
  have F := fun_mk (st := st_rini) l c k
  exact ⟨f, _, F, a, ty, F.binds hb⟩
end Law

namespace Law
open PySem PySem.Spec PyProof.Rows L2 Kb SX TL
-- the steps that are tried: k_clsL a side condition; k_subL one step; k_places steps as long as one fits
section
variable {Pg : Program} {w : World} {K : PySem.W.Frag} {Θ : Tbs} {mg : Str → Option Value} {base : Heap}
theorem toksI_pos {x : It} (h : ItOk x) : 1 ≤ (toksI x).length := by
  cases h with
  | @pre n => cases n <;> exact Nat.le_refl 1
  | atom ht =>
    cases ht with
    | int _ _ => exact Nat.le_refl 1
    | col _ => exact Nat.le_refl 1
    | col2 ha _ =>
      obtain ⟨c, w, rfl, _⟩ := ha
      exact Nat.le_of_ble_eq_true rfl
  | isI => show 1 ≤ (_ :: _ : List Tok').length; simp
  | inI _ _ _ => show 1 ≤ (orN _ ++ _ :: _).length; rw [List.length_append, List.length_cons]; omega
  | op _ => exact Nat.le_refl 1
theorem len_toks : ∀ {xs : List It}, (∀ x ∈ xs, ItOk x) → xs.length ≤ (toks xs).length
  | [], _ => Nat.zero_le _
  | x :: xs, h => by
    have a := len_toks (xs := xs) fun y hy => h y (List.mem_cons_of_mem _ hy)
    have b := toksI_pos (h x List.mem_cons_self)
    rw [toks_cons, List.length_append, List.length_cons]
    omega
def isAtm : It → Bool
  | .atom _ => true
  | _ => false
theorem cnt_filter : ∀ xs : List It, (xs.filter fun x => !isAtm x).length = cntI xs
  | [] => rfl
  | x :: xs => by
    have ih := cnt_filter xs
    cases x with
    | pre n => cases n <;> (rw [List.filter_cons]; show (_ :: _ : List It).length = cntI xs + 1; rw [List.length_cons, ih])
    | atom t => rw [List.filter_cons]; show (xs.filter _).length = cntI xs; exact ih
    | isI b => rw [List.filter_cons]; show (_ :: _ : List It).length = cntI xs + 1; rw [List.length_cons, ih]
    | inI b ts => rw [List.filter_cons]; show (_ :: _ : List It).length = cntI xs + 1; rw [List.length_cons, ih]
    | op o => rw [List.filter_cons]; show (_ :: _ : List It).length = cntI xs + 1; rw [List.length_cons, ih]
theorem flt_bind {α β : Type} (p : α → Bool) (f : α → β) : ∀ xs : List α, ((List.range xs.length).filterMap fun i => (xs[i]?).bind fun x => if p x = true then some (f x) else none).length = (xs.filter p).length
  | [] => rfl
  | x :: xs => by
    have ih := flt_bind p f xs
    rw [List.length_cons, List.range_succ_eq_map, List.filterMap_cons]
    simp only [List.getElem?_cons_zero, List.filterMap_map]
    have e : ((fun i => ((x :: xs)[i]?).bind fun x => if p x = true then some (f x) else none) ∘ Nat.succ) = fun i => (xs[i]?).bind fun x => if p x = true then some (f x) else none := rfl
    rw [e, List.filter_cons]
    by_cases h : p x = true
    · simp only [Option.bind_some, if_pos h]
      show (_ :: _ : List β).length = (_ :: _ : List α).length
      rw [List.length_cons, List.length_cons, ih]
    · simp only [Option.bind_some, if_neg h]
      exact ih
theorem sum_words : ∀ {us : List Tok'}, (∀ q ∈ us, DrQ q) → ((us.map wordT).map (·.length)).sum ≤ 4002 * us.length
  | [], _ => Nat.le_refl _
  | q :: us, h => by
    have a := sum_words (us := us) fun x hx => h x (List.mem_cons_of_mem _ hx)
    have b := (h q List.mem_cons_self).len
    have e : (wordT q).length = (cq q).length := by
      unfold cq
      exact (Array.length_toList ..).symm
    rw [List.map_cons, List.map_cons, List.sum_cons, List.length_cons]
    omega
theorem join_len (g : List Nat) (hg : g.length ≤ 2) {us : List Tok'} (hu : us ≠ []) (h : ∀ q ∈ us, DrQ q) : (selC ++ g ++ joinL g (us.map cq)).length ≤ 6 + 4004 * us.length := by
  rw [text_eq hu, List.length_append]
  have := text_len hg h
  have e : selC.length = 6 := by decide +kernel
  omega
theorem wdP_eq (us : List Tok') : wdP us = (us.map wordT).map P.str := by unfold wdP; rw [List.map_map]; rfl
/-- parse of the words with blanks between them -/
theorem prs_of {g : List Nat} (hg : ∀ c ∈ g, Tz.inS Tz.blks c = true) (g0 : g ≠ []) (g2 : g.length ≤ 2) {us : List Tok'} {t : P} (hw : Wr 1 0 t us) (hd : ∀ q ∈ us, DrQ q) (hl : us.length ≤ 119) {h : Hs} {R : D → Hs → Prop} (r : R (.p (qstT t)) h) : W_prs [dS (S (selC ++ g ++ joinL g (us.map cq)))] h R := by
  obtain ⟨q, w', e, _⟩ := hw.hd.ex
  have u0 : us ≠ [] := by rw [e]; simp
  obtain ⟨ts, h1, h2⟩ := toks_text hg g0 hd
  rw [text_eq u0]
  have ll := text_len g2 hd
  have es : selC.length = 6 := by decide +kernel
  refine ⟨_, ts, kw (Str.ofString "select") :: us, qstT t, rfl, by rw [List.length_append]; omega, h1, by rw [h2.1, List.length_cons]; omega, h2, fun q hq => ?_, qst_of hw, r⟩
  rcases List.mem_cons.mp hq with rfl | hq
  · exact dr_tv (dr_kw (by decide +kernel))
  · exact dr_tv (hd q hq)
abbrev st_law : Stmt := (topS 89)
theorem sc_law : FnScope ["script", "state", "count", "items", "expression", "gap", "words", "item"] ["script"] (defScope st_law) := ⟨rfl, rfl, rfl, by decide +kernel, rfl, by decide +kernel, by decide +kernel⟩
theorem ok_law {f : Addr} {fd : FuncData} (F : Fun K "law" "law" st_law f fd) (m_list : mg "list" = none) (m_len : mg "len" = none)
    (h__law_next : HasF Pg w K mg base CX0 1 "_law_next" ["state", "limit"] (spD K Θ W_next)) (h__law_flat : HasF Pg w K mg base CX0 5 "_law_flat" ["state", "count"] (spD K Θ W_flat)) (h__law_divided : HasF Pg w K mg base CX0 (120 + 4) "_law_divided" ["items"] (spD K Θ (W_divd 120)))
    (h__law_flat_words : HasF Pg w K mg base CX0 3 "_law_flat_words" ["items"] (spD K Θ W_fws)) (h__law_tree : HasF Pg w K mg base CX0 1 "_law_tree" ["expression"] (spD K Θ W_tree)) (h__law_words : HasF Pg w K mg base CX0 (2 * 6 + 1) "_law_words" ["node", "level", "full"] (spD K Θ (W_wrds 6)))
    (h_parse : HasF Pg w K mg base CX0 (174 + 7) "parse" ["text"] (spD K Θ W_prs)) (h__law_same : HasF Pg w K mg base CX0 151 "_law_same" ["actual", "expected"] (spD K Θ (W_same 150))) : FnOk Pg w K mg base CX0 182 f fd ["script"] (spD K Θ W_law) := by
  have sc := sc_law
  refine fnD F sc W_law (fun ds h R ⟨_, e, _⟩ => by rw [e]; rfl) fun cdv A outer s H E hr => ?_
  refine ⟨_, (pss_cons (ps_set (i := 1) sc.nd rfl (.inl rfl) (pe_lst (pa_cons (pe_callTy (call_list_ofK (K := K) (by rfl)) (by rfl) m_list (by decide +kernel) (pa_cons (pv 0) pa_nil)) (pa_cons pe_int (pa_cons pe_int (pa_cons pe_int pa_nil))))))
  (pss_cons (ps_set (i := 2) sc.nd rfl (.inl rfl) (pe_op (op_addWK (K := K) (by rfl)) pe_int (h__law_next.call (hr.mono (by first | decide | omega)) rfl pass0 (pa_cons (pv 1) (pa_cons pe_int pa_nil)))))
  (pss_cons (ps_if (pt_cmpR (op_eqUK (K := K) (by rfl) hr.units) (h__law_next.call (hr.mono (by first | decide | omega)) rfl pass0 (pa_cons (pv 1) (pa_cons pe_int pa_nil))) pe_int (nomark _)) (pss_one (ps_set (i := 2) sc.nd rfl (.inl rfl) (pe_op (op_addWK (K := K) (by rfl)) pe_int (h__law_next.call (hr.mono (by first | decide | omega)) rfl pass0 (pa_cons (pv 1) (pa_cons pe_int pa_nil)))))) pss_nil)
  (pss_cons (ps_set (i := 3) sc.nd rfl (.inl rfl) (h__law_flat.call (hr.mono (by first | decide | omega)) rfl pass0 (pa_cons (pv 1) (pa_cons (pv 2) pa_nil))))
  (pss_cons (ps_set (i := 4) sc.nd rfl (.inl rfl) (h__law_divided.call (hr.mono (by first | decide | omega)) rfl pass0 (pa_cons (pv 3) pa_nil)))
  (pss_cons (ps_set (i := 5) sc.nd rfl (.inl rfl) (pe_ix (ix_seqK (K := K) (by rfl)) (pe_lst (pa_cons pe_str (pa_cons pe_str (pa_cons pe_str pa_nil)))) (h__law_next.call (hr.mono (by first | decide | omega)) rfl pass0 (pa_cons (pv 1) (pa_cons pe_int pa_nil))) (fun _ _ => rfl)))
  (pss_cons (ps_if (pt_not (pt_val (h__law_same.call (hr.mono (by first | decide | omega)) rfl pass0 (pa_cons (h_parse.call (hr.mono (by first | decide | omega)) rfl pass0 (pa_cons (pe_op (op_addWK (K := K) (by rfl)) (pe_op (op_addWK (K := K) (by rfl)) pe_str (pv 5)) (pe_bm PySem.F.plainAttrs_str PySem.F.slot_str_join PySem.F.type_str_join (mt_joinK (K := K) (by rfl)) (pv 5) (pa_cons (h__law_flat_words.call (hr.mono (by first | decide | omega)) rfl pass0 (pa_cons (pv 3) pa_nil)) pa_nil))) pa_nil)) (pa_cons (h__law_tree.call (hr.mono (by first | decide | omega)) rfl pass0 (pa_cons (pv 4) pa_nil)) pa_nil))))) (pss_one (ps_ret pe_bl)) pss_nil)
  (pss_cons (ps_if (pt_cmpR op_gt (pe_callB (call_lenK (K := K) (by rfl)) (by rfl) m_len (by decide +kernel) (pa_cons (pe_lc (own := [("item", 7)]) rfl sc.nd (pi_seqK (K := K) (by rfl) (pv 3)) (blkOk_by (N := ["script", "state", "count", "items", "expression", "gap", "words", "item"]) (sc := defScope (topS 89)) (by decide +kernel)) (fun _ _ _ _ _ => (pg_name (i := 7) sc.nd rfl (.inl rfl))) (fun _ _ _ _ _ => (pts_one (pt_cmpR (op_neUK (K := K) (by rfl) hr.units) (pe_ix (ix_seqK (K := K) (by rfl)) (pv 7) pe_int (fun _ _ => rfl)) pe_str (nomark _)))) (fun _ _ _ _ _ => (pv 7))) pa_nil)) pe_int (nomark _)) (pss_one (ps_ret pe_bl)) pss_nil)
  (pss_cons (ps_set (i := 6) sc.nd rfl (.inl rfl) (h__law_words.call (hr.mono (by first | decide | omega)) rfl pass0 (pa_cons (pv 4) (pa_cons pe_int (pa_cons pe_bl pa_nil)))))
  (pss_one (ps_ret (h__law_same.call (hr.mono (by first | decide | omega)) rfl pass0 (pa_cons (h_parse.call (hr.mono (by first | decide | omega)) rfl pass0 (pa_cons (pe_op (op_addWK (K := K) (by rfl)) pe_str (pe_bm PySem.F.plainAttrs_str PySem.F.slot_str_join PySem.F.type_str_join (mt_joinK (K := K) (by rfl)) pe_str (pa_cons (pv 6) pa_nil))) pa_nil)) (pa_cons (h__law_tree.call (hr.mono (by first | decide | omega)) rfl pass0 (pa_cons (pv 4) pa_nil)) pa_nil)))))))))))))), ?_⟩
  try dsimp only [cxOf]
  rintro ds h R ⟨ns, rfl, rfl, hl, q⟩
  have sz := sizeLine_eq
  refine vs_cut (fun env' h' => env' = (startD ["script", "state", "count", "items", "expression", "gap", "words", "item"] [dL (ns.map P.int)]).set 1 (some (.own 0)) ∧ h' = hst ns 0 0 1) ?_ ?_
  · k_places
    refine ve_lstO ?_
    k_places
    refine vc_list rfl ?_
    k_places
    refine ⟨sz_le (Nat.le_of_ble_eq_true rfl), ?_⟩
    k_places
    exact ⟨rfl, rfl⟩
  rintro env' h' ⟨rfl, rfl⟩
  k_places
  refine next_i (by decide) (ok_start hl) (by decide) (by decide) fun v a b c ok v0 v1 => ?_
  k_offL
  refine vs_cut (fun env' h' => ∃ (cnt a b c : Int), env' = ((startD ["script", "state", "count", "items", "expression", "gap", "words", "item"] [dL (ns.map P.int)]).set 1 (some (.own 0))).set 2 (some (dI cnt)) ∧ h' = hst ns a b c ∧ OkSt ns a b c ∧ 1 ≤ cnt ∧ cnt ≤ 100) ?_ ?_
  · k_places
    refine next_i (by decide) ok (by decide) (by decide) fun v2 a b c ok v20 v21 => ?_
    k_places
    refine ite_dec (fun e => ?_) (fun e => ?_)
    · k_places
      refine next_i (by decide) ok (by decide) (by decide) fun v3 a b c ok v30 v31 => ?_
      k_places
      exact ⟨_, a, b, c, rfl, rfl, ok, by omega, by omega⟩
    · k_places
      exact ⟨_, a, b, c, rfl, rfl, ok, by omega, by omega⟩
  clear ok
  rintro env' h' ⟨cnt, a, b, c, rfl, rfl, ok, c1, c2⟩
  k_places
  refine ⟨0, ns, a, b, c, cnt, rfl, rfl, ok, c1, c2, fun xs a b c ok okx tl => ?_⟩
  have its := ok_items okx
  have xl := len_toks its
  obtain ⟨wr, tr, dv⟩ := div_wr 120 xs 0 1 0 (by omega) okx (by omega) (by omega) (by omega) (by omega) (by omega) (by omega) (by omega) fun x hx => by have := ok_lines okx x hx; omega
  generalize divF 120 xs = t at wr tr dv
  have x0 : xs ≠ [] := dv.ne
  have pl := qst_pln (tr_pln tr)
  have cl : cntI xs ≤ 119 := by rw [← cnt_filter]; have := List.length_filter_le (fun x => !isAtm x) xs; omega
  have dr := dr_toks okx
  k_places
  refine ⟨xs, t, rfl, dv, its, by omega, ?_⟩
  k_places
  refine ve_lst ?_
  k_places
  refine next_i (h0 := h0) (by decide) ok (by decide) (by decide) fun gi a b c ok g0 g3 => ?_
  obtain ⟨g, hat, hg, gn, gl⟩ : ∃ g : List Nat, atI ([P.str (Str.ofString " "), .str (Str.ofString "\n"), .str (Str.ofString "  ")]) gi = some (.str (S g)) ∧ (∀ c ∈ g, Tz.inS Tz.blks c = true) ∧ g ≠ [] ∧ g.length ≤ 2 := by
    have hc : gi = 0 ∨ gi = 1 ∨ gi = 2 := by omega
    rcases hc with rfl | rfl | rfl
    · exact ⟨[32], by show some (P.str _) = some (.str _); rw [show Str.ofString " " = S [32] by decide +kernel], by decide +kernel, by simp, by simp⟩
    · exact ⟨[10], by show some (P.str _) = some (.str _); rw [show Str.ofString "\n" = S [10] by decide +kernel], by decide +kernel, by simp, by simp⟩
    · exact ⟨[32, 32], by show some (P.str _) = some (.str _); rw [show Str.ofString "  " = S [32, 32] by decide +kernel], by decide +kernel, by simp, by simp⟩
  refine v2_ixL hat ?_
  k_places
  refine v2_addWS ?_ ?_
  · have e : (S g).length = g.length := by rfl
    have e6 : (Str.ofString "select").length = 6 := by decide +kernel
    omega
  k_places
  refine ve_bm ?_
  k_places
  refine ⟨rfl, va_cons ?_⟩
  k_places
  refine ⟨_, xs, rfl, .inr rfl, its, by omega, ?_⟩
  refine va_nil ?_
  rw [wdP_eq]
  have u0 : toks xs ≠ [] := fun z => by rw [z] at xl; cases xs with | nil => exact x0 rfl | cons _ _ => exact absurd xl (by simp)
  have sw := sum_words dr
  have jl := join_len g gl u0 dr
  refine vm_join ?_ ?_
  · have e : (S g).length = g.length := by rfl
    rw [e, List.length_map]
    have := Nat.mul_le_mul tl gl
    omega
  rw [join_words u0]
  have es : ∀ z : List Nat, (S z).length = z.length := fun _ => rfl
  have e6 : (Str.ofString "select").length = 6 := by decide +kernel
  have e7 : selC.length = 6 := by decide +kernel
  refine v2_addWS ?_ ?_
  · have e9 : (Str.ofString "select" ++ S g).length = 6 + g.length := by rw [show Str.ofString "select" = S selC by decide +kernel, S_cat, es, List.length_append, e7]
    rw [e9, es]
    rw [List.length_append, List.length_append] at jl
    omega
  have e8 : Str.ofString "select" ++ S g ++ S (joinL g ((toks xs).map cq)) = S (selC ++ g ++ joinL g ((toks xs).map cq)) := by
    rw [show Str.ofString "select" = S selC by decide +kernel, S_cat, S_cat]
  rw [e8]
  k_places
  refine prs_of hg gn gl wr dr tl ?_
  have sm : eqB (qstT t) (qstT t) = true := eqB_eq rfl
  refine va_cons ?_
  k_places
  refine ⟨t, rfl, ?_⟩
  refine va_nil ?_
  refine ⟨qstT t, qstT t, rfl, pl.1, okP_le pl.2 (by show _ ≤ (149 : Nat); omega), ?_⟩
  rw [sm]
  refine ⟨true, rfl, ?_⟩
  refine ite_ff rfl ?_
  k_places
  refine ve_lc tg_name ?_
  refine vi_seqL ?_
  k_places
  refine ⟨xs.map itP, rfl, fun i => (xs[i]?).bind fun o => if (!isAtm o) = true then some (itP o) else none, ?_, fun _ => trivial, ?_, ?_⟩
  · rw [List.length_map, List.length_map]; omega
  · intro i2 d acc hd
    rw [List.getElem?_map, List.getElem?_map] at hd
    cases e : xs[i2]? with
    | none => rw [e] at hd; cases hd
    | some o =>
      rw [e] at hd; cases hd
      have hm := List.mem_of_getElem? e
      have e0 : ((xs[i2]?).bind fun o => if (!isAtm o) = true then some (itP o) else none) = if (!isAtm o) = true then some (itP o) else none := by rw [e]; rfl
      have hx : ∃ k r, itP o = .tup (.str k :: r) ∧ (!decide (k = Str.ofString "atom")) = !isAtm o := by
        cases o with
        | pre n => cases n <;> exact ⟨_, _, rfl, by decide +kernel⟩
        | atom t => exact ⟨_, _, rfl, by show (!decide (Str.ofString "atom" = Str.ofString "atom")) = false; decide +kernel⟩
        | isI b => exact ⟨_, _, rfl, by show (!decide (Str.ofString "is" = Str.ofString "atom")) = true; decide +kernel⟩
        | inI b ts => exact ⟨_, _, rfl, by show (!decide (Str.ofString "in" = Str.ofString "atom")) = true; decide +kernel⟩
        | op o => exact ⟨_, _, rfl, by show (!decide (Str.ofString "operator" = Str.ofString "atom")) = true; decide +kernel⟩
      refine vg_name ⟨rfl, ?_⟩
      k_places
      obtain ⟨k, r, e1, e2⟩ := hx
      rw [e1]
      refine v2_ixT (p := .str k) (at_nat 0 rfl rfl) ?_
      k_places
      refine ⟨rfl, ?_⟩
      rw [e2]
      refine ite_b (fun c => ?_) (fun c => ?_)
      · k_places
        exact ⟨rfl, _, rfl, (e0.trans (if_pos c)).trans (by rw [e1])⟩
      · exact e0.trans (if_neg (by rw [c]; exact Bool.false_ne_true))
  · rw [List.length_map, List.length_map]
    k_places
    have fb := flt_bind (fun o => !isAtm o) itP xs
    rw [cnt_filter] at fb
    rw [fb]
    refine ite_dec (fun h5 => ?_) (fun h5 => ?_)
    · k_places
      exact q _
    · obtain ⟨u, fu, lu, wu⟩ := fw_of (Tr.le (by omega : cntI xs ≤ 5) tr)
      have wu1 := wu 0 1 (by omega) (by omega)
      have du := fu.dr
      obtain ⟨q', w', eu, _⟩ := wu1.hd.ex
      have u1 : u ≠ [] := by rw [eu]; simp
      have sw2 := sum_words du
      have jl2 := join_len [32] (by simp) u1 du
      k_places
      refine ⟨t, 1, u, rfl, by omega, fu, by omega, ?_⟩
      k_places
      refine ve_bm ?_
      k_places
      refine ⟨rfl, va_cons ?_⟩
      k_places
      rw [wdP_eq]
      rw [show Str.ofString " " = S [32] by decide +kernel]
      refine vm_join ?_ ?_
      · rw [es, List.length_map]
        rw [show ([32] : List Nat).length = 1 from rfl, Nat.mul_one]
        omega
      rw [join_words u1]
      rw [show Str.ofString "select " = S (selC ++ [32]) by decide +kernel]
      refine v2_addWS ?_ ?_
      · rw [es, es]
        rw [List.length_append] at jl2
        omega
      rw [S_cat]
      k_places
      refine prs_of (g := [32]) (by decide +kernel) (by simp) (by simp) wu1 du (by omega) ?_
      refine va_cons ?_
      k_places
      refine ⟨t, rfl, ?_⟩
      refine va_nil ?_
      refine ⟨qstT t, qstT t, rfl, pl.1, okP_le pl.2 (by show _ ≤ (149 : Nat); omega), ?_⟩
      rw [sm]
      exact q _
end
end Law

namespace Law
open PySem PySem.Spec PyProof.Rows L2 Kb
theorem law_all {l : PySem.W.OpenLaw} {w : World} {K : PySem.W.Frag} {Θ : Tbs} {h : Heap} {mg : Str → Option Value} {fa fl CP C aK aL aP x_negative x_product x_expression x_negation x_conjunction x_item x_order_key : Addr} (X : K.In h) (G : h.Ns mainGlobals mg) (hfa : mg "law" = some (.ref fa))
    {od1 od2 od3 : Option Addr} {its1 its2 its3 : Array Value} {n1 n2 n3 : Nat} {sl1 sl2 sl3 : Array (Option Value)} {xnm xq : Str} {xN : Addr} {xbs xbm : List Value} {xsn : List Str} {xsub : List Value} {xab : Bool} {xcol : Option Bool} {xdd : Option Addr} {xk0 xk1 xk2 xk3 xk5 : Option Value}
    {od an : Option Addr} {sl : Array (Option Value)} {oc kV dc pm cd ct : Value} {t1 : Tok} {t2 : Tok} {t3 : Tok} {t4 : Tok} {t5 : Tok} {t6 : Tok} {t7 : Tok} {t8 : Tok} {t9 : Tok}
    (aCP : PySem.W.nsIn K mainGlobals "Parsing" = some (some (.ref CP)))
    (pgCP : PySem.W.plainGet K CP Str.empty = true)
    (hdCP : PySem.W.hasDictIn K CP = true)
    (poCP : PySem.W.plainOver K CP = true)
    (saCP : PySem.W.findIn K (.ref CP) "__setattr__" = some (some (.builtin "object.__setattr__")))
    (nCP1 : PySem.W.findIn K (.ref CP) "tokens" = some none)
    (nCP2 : PySem.W.findIn K (.ref CP) "at" = some none)
    (nCP3 : PySem.W.findIn K (.ref CP) "depth" = some none)
    (d_next : DefAt K mg "_law_next" st_next ["state", "limit"])
    (d_same : DefAt K mg "_law_same" st_same ["actual", "expected"])
    (d_run : DefAt K mg "_end_of_run" st_run ["text", "at", "characters"])
    (d_word : DefAt K mg "_word_at" st_word ["text", "at"])
    (d_int : DefAt K mg "_integer_at" st_int ["text", "at"])
    (d_txt : DefAt K mg "_text_at" st_txt ["text", "at"])
    (d_par : DefAt K mg "_parameter_at" st_par ["text", "at"])
    (d_sgn : DefAt K mg "_sign_at" st_sgn ["text", "at"])
    (d_tka : DefAt K mg "_token_at" st_tka ["text", "at"])
    (d_tkz : DefAt K mg "tokenize" st_tkz ["text"])
    (d_kind : DefAt K mg "_kind" st_kind ["parsing"])
    (d_take : DefAt K mg "_take" st_take ["parsing", "kind"])
    (d_sees : DefAt K mg "_sees" st_sees ["parsing", "word"])
    (d_skip : DefAt K mg "_skip" st_skip ["parsing", "word"])
    (d_need : DefAt K mg "_need" st_need ["parsing", "word"])
    (d_sk1 : DefAt K mg "_skip_one" st_sk1 ["parsing", "words"])
    (d_goin : DefAt K mg "_go_in" st_goin ["parsing", "word"])
    (d_goout : DefAt K mg "_go_out" st_goout ["parsing", "word"])
    (d_lstof : DefAt K mg "_list_of" st_lstof ["parsing", "part"])
    (d_expr : DefAt K mg "_expression" st_expr ["parsing"])
    (d_chain : DefAt K mg "_chain" st_chain ["parsing", "operators", "operand"])
    (d_cnj : DefAt K mg "_conjunction" st_cnj ["parsing"])
    (d_pref : DefAt K mg "_prefixed" st_pref ["parsing", "sign", "word", "operand"])
    (d_neg : DefAt K mg "_negation" st_neg ["parsing"])
    (d_cmp : DefAt K mg "_comparison" st_cmp ["parsing"])
    (d_mem : DefAt K mg "_membership" st_mem ["parsing", "operand"])
    (d_tot : DefAt K mg "_total" st_tot ["parsing"])
    (d_pro : DefAt K mg "_product" st_pro ["parsing"])
    (d_ngv : DefAt K mg "_negative" st_ngv ["parsing"])
    (d_pri : DefAt K mg "_primary" st_pri ["parsing"])
    (d_col : DefAt K mg "_column" st_col ["parsing"])
    (d_prn : DefAt K mg "_parentheses" st_prn ["parsing"])
    (d_rfs : DefAt K mg "_refuse" (topS 30) ["parsing"])
    (d_qry0 : DefAt K mg "_query" (topS 42) ["parsing"])
    (d_wdd : DefAt K mg "_worded" (topS 62) ["parsing"])
    (d_itm : DefAt K mg "_item" st_itm ["parsing"])
    (d_sel : DefAt K mg "_select" st_sel ["parsing"])
    (d_prt : DefAt K mg "_part" st_prt ["parsing"])
    (d_qst : DefAt K mg "_question" st_qst ["parsing"])
    (d_prs0 : DefAt K mg "parse" st_prs ["text"])
    (d_src : DefAt K mg "_sources" (topS 47) ["parsing"])
    (d_qip : DefAt K mg "_query_in_parentheses" (topS 44) ["parsing"])
    (d_pin : InitAt K CP "Parsing.__init__" st_pin ["self", "text"])
    (d_kws : DefAt K mg "_law_keywords" st_kws [])
    (d_name : DefAt K mg "_law_name" st_name ["state"])
    (d_atom : DefAt K mg "_law_atom" st_atom ["state"])
    (d_oper : DefAt K mg "_law_operator" st_oper ["state", "postfix"])
    (d_post : DefAt K mg "_law_postfix" st_post ["state"])
    (d_prw : DefAt K mg "_law_primary_words" st_prw ["node", "full"])
    (d_lsd : DefAt K mg "_law_listed" st_lsd ["lists"])
    (d_itx : DefAt K mg "_law_item_text" st_itx ["item"])
    (d_fws : DefAt K mg "_law_flat_words" st_fws ["items"])
    (d_lvl : DefAt K mg "_law_level" st_lvl ["node"])
    (d_line : DefAt K mg "_law_line" st_line ["item"])
    (d_last : DefAt K mg "_law_last" st_last ["items", "line"])
    (d_divd : DefAt K mg "_law_divided" st_divd ["items"])
    (d_wrds : DefAt K mg "_law_words" st_wrds ["node", "level", "full"])
    (d_bare : DefAt K mg "_law_bare" st_bare ["node", "full"])
    (d_tree : DefAt K mg "_law_tree" st_tree ["expression"])
    (d_flat : DefAt K mg "_law_flat" st_flat ["state", "count"])
    (z1 : PySem.W.nsIn K mainGlobals "int" = some none)
    (z2 : PySem.W.nsIn K mainGlobals "len" = some none)
    (z3 : PySem.W.nsIn K mainGlobals "bool" = some none)
    (z4 : PySem.W.nsIn K mainGlobals "str" = some none)
    (z5 : PySem.W.nsIn K mainGlobals "list" = some none)
    (z6 : PySem.W.nsIn K mainGlobals "tuple" = some none)
    (z7 : PySem.W.nsIn K mainGlobals "range" = some none)
    (z8 : PySem.W.nsIn K mainGlobals "isinstance" = some none)
    (q1 : PySem.W.nsIn K mainGlobals "LETTERS" = some (some (.str Tz.lets t1)))
    (q2 : PySem.W.nsIn K mainGlobals "DIGITS" = some (some (.str Tz.digs t2)))
    (q3 : PySem.W.nsIn K mainGlobals "OF_WORDS" = some (some (.str Tz.ofws t3)))
    (q4 : PySem.W.nsIn K mainGlobals "BLANKS" = some (some (.str Tz.blks t4)))
    (q5 : PySem.W.nsIn K mainGlobals "SHORT_SIGNS" = some (some (.str Tz.shorts t5)))
    (q6 : PySem.W.nsIn K mainGlobals "MOST_DIGITS" = some (some (.int 30 t6)))
    (q7 : PySem.W.nsIn K mainGlobals "MOST_CHARACTERS" = some (some (.int 2000 t7)))
    (gK : PySem.W.nsIn K mainGlobals "KEYWORDS" = some (some (.ref aK)))
    (gL : PySem.W.nsIn K mainGlobals "LONG_SIGNS" = some (some (.ref aL)))
    (lK : K.lookup aK = some ⟨.type "tuple", od1, .seq its1 n1, sl1⟩)
    (lL : K.lookup aL = some ⟨.type "tuple", od2, .seq its2 n2, sl2⟩)
    (vK : strsV its1.toList = some Tz.kws)
    (vL : strsV its2.toList = some Tz.longs)
    (aC : PySem.W.nsIn K mainGlobals "RefusedText" = some (some (.ref C)))
    (lC : K.lookup C = some (excClassObj xnm xq C xN xbs xbm true xsn xsub xab xcol xdd xk0 xk1 xk2 xk3 xk5 "ValueError.__new__"))
    (rC : PySem.HandSPX.refsVE xbm = true)
    (saC : PySem.W.findIn K (.ref C) "__setattr__" = some (some (.builtin "object.__setattr__")))
    (bC : PySem.W.subIn K (.ref C) (.type "BaseException") = some true)
    (tC : PySem.W.typeIn K (.ref C) = some (.type "type"))
    (kC : PySem.W.keepIn K (.ref C) = true)
    (hg : PySem.W.findIn K (.ref C) "__getattribute__" = some (some (.builtin "BaseException.__getattribute__")))
    (hk : PySem.W.findIn K (.ref C) "__getattr__" = some none)
    (hdC : PySem.W.hasDictIn K C = true)
    (ha : PySem.W.findIn K (.ref C) "__class__" = some (some (.builtin "object.__class__")))
    (hn : PySem.W.specialIn K (.builtin "object.__class__") "__get__" = some (some (.builtin "getset_descriptor.__get__")))
    (ht : PySem.W.takesIn K (.builtin "object.__class__") = some true)
    (hm : PySem.W.mroIn K C (.type "object") = some true)
    (noC : PySem.W.findIn K (.ref C) "position" = some none)
    (ini : ∃ fI fd, Fun K "__init__" "RefusedText.__init__" st_rini fI fd ∧ PySem.W.findIn K (.ref C) "__init__" = some (some (.ref fI)) ∧ PySem.W.typeIn K (.ref fI) = some (.type "function") ∧ Binds K fd ["self", "position"] [])
    (t8x : PySem.W.nsIn K mainGlobals "MOST_DEPTH" = some (some (.int 12 t8)))
    (t9x : PySem.W.nsIn K mainGlobals "MOST_TOKENS" = some (some (.int 120 t9)))
    (gP : PySem.W.nsIn K mainGlobals "COMPARISONS" = some (some (.ref aP)))
    (lP : K.lookup aP = some ⟨.type "tuple", od3, .seq its3 n3, sl3⟩)
    (vP : strsV its3.toList = some opsCmp)
    (g_negative : PySem.W.nsIn K mainGlobals "_negative" = some (some (.ref x_negative)))
    (g_product : PySem.W.nsIn K mainGlobals "_product" = some (some (.ref x_product)))
    (g_expression : PySem.W.nsIn K mainGlobals "_expression" = some (some (.ref x_expression)))
    (g_negation : PySem.W.nsIn K mainGlobals "_negation" = some (some (.ref x_negation)))
    (g_conjunction : PySem.W.nsIn K mainGlobals "_conjunction" = some (some (.ref x_conjunction)))
    (g_item : PySem.W.nsIn K mainGlobals "_item" = some (some (.ref x_item)))
    (g_order_key : PySem.W.nsIn K mainGlobals "_order_key" = some (some (.ref x_order_key)))
    (al : PySem.W.nsIn K mainGlobals "law" = some (some (.ref fl)))
    (ll : K.lookup fl = some ⟨oc, od, .func (PySem.W.fnOf "law" "law" (defArgs st_law) (defBody st_law) (defScope st_law) .none kV dc pm an cd ct), sl⟩)
    (cl : PySem.W.codeIn K cd "law" = true)
    (kl : PySem.W.keepIn K (.ref fl) = true) :
    ∃ fd : FuncData, (∀ (s : Shared) (v : Value), BindsTo s fd ⟨[v], []⟩ [("script", v)]) ∧ ∀ base : Heap, K.In base → base.Ns mainGlobals mg → FnOk l.prog w K mg base CX0 182 fa fd ["script"] (spD K Θ W_law) := by
  have e := hfa.symm.trans (PySem.W.mg_of X G al)
  cases e
  have F := fun_mk (st := st_law) ll cl kl
  have m : ∀ {x : Str}, PySem.W.nsIn K mainGlobals x = some none → mg x = none := fun z => PySem.W.mg_none_of X G z
  have TCP : ParC K mg CP := ⟨⟨pgCP, hdCP, poCP, saCP⟩, nCP1, nCP2, nCP3, PySem.W.mg_of X G aCP⟩
  refine ⟨PySem.W.fnOf "law" "law" (defArgs st_law) (defBody st_law) (defScope st_law) .none kV dc pm an cd ct, fun s v => .of_eq rfl, fun base _ _ => ?_⟩
  have T : TokC K mg aK aL := ⟨⟨_, PySem.W.mg_of X G q1⟩, ⟨_, PySem.W.mg_of X G q2⟩, ⟨_, PySem.W.mg_of X G q3⟩, ⟨_, PySem.W.mg_of X G q4⟩, ⟨_, PySem.W.mg_of X G q5⟩, ⟨_, PySem.W.mg_of X G q6⟩, ⟨_, PySem.W.mg_of X G q7⟩, PySem.W.mg_of X G gK, PySem.W.mg_of X G gL, ktup_mk lK vK (by decide), ktup_mk lL vL (by decide)⟩
  have Z : RefC K mg C := ⟨⟨⟨_, _, _, _, _, _, _, _, _, _, _, _, _, _, _, lC, rC⟩, saC, bC, tC, kC⟩, ⟨hg, hk, bC, hdC⟩, ⟨hg, hk, bC, hdC, ha, hn, ht, hm⟩, noC, ini, PySem.W.mg_of X G aC⟩
  have h_next := ok_next (Pg := l.prog) (w := w) (base := base) (Θ := Θ) d_next  (m z1) (m z2) 
  have h_same := ok_same (Pg := l.prog) (w := w) (base := base) (Θ := Θ) d_same  (m z1) (m z3) (m z4) (m z5) (m z6) (m z2) (m z7) (m z8) 
  have h_same150 := h_same 150 
  have h_run := ok_run (Pg := l.prog) (w := w) (base := base) (Θ := Θ) d_run  (m z2) 
  have h_word := ok_word (Pg := l.prog) (w := w) (base := base) (Θ := Θ) d_word  T h_run
  have h_int := ok_int (Pg := l.prog) (w := w) (base := base) (Θ := Θ) d_int  T Z (m z1) h_run
  have h_txt := ok_txt (Pg := l.prog) (w := w) (base := base) (Θ := Θ) d_txt  T Z (m z2) 
  have h_par := ok_par (Pg := l.prog) (w := w) (base := base) (Θ := Θ) d_par  T Z (m z1) h_run
  have h_sgn := ok_sgn (Pg := l.prog) (w := w) (base := base) (Θ := Θ) d_sgn  T Z 
  have h_tka := ok_tka (Pg := l.prog) (w := w) (base := base) (Θ := Θ) d_tka  T h_word h_int h_txt h_par h_sgn
  have h_tkz := ok_tkz (Pg := l.prog) (w := w) (base := base) (Θ := Θ) d_tkz  T (m z2) h_tka
  have h_tkzS := tkz_calm h_tkz
  have h_prs := prs_all (Pg := l.prog) (w := w) (base := base) (Θ := Θ) ⟨TCP, ktup_mk lP vP (by decide), (PySem.W.mg_of X G g_negative), (PySem.W.mg_of X G g_product), (PySem.W.mg_of X G g_expression), (PySem.W.mg_of X G g_negation), (PySem.W.mg_of X G g_conjunction), (PySem.W.mg_of X G gP), ⟨_, (PySem.W.mg_of X G t8x)⟩, d_kind, d_take, d_sees, d_skip, d_need, d_sk1, d_goin, d_goout, d_lstof, d_expr, d_chain, d_cnj, d_pref, d_neg, d_cmp, d_mem, d_tot, d_pro, d_ngv, d_pri, d_col, d_prn, (m z6), d_rfs, d_qry0, d_wdd⟩ (PySem.W.mg_of X G g_item) (PySem.W.mg_of X G g_order_key) d_itm d_sel d_prt d_qst d_prs0 d_pin d_src d_qip (PySem.W.mg_of X G t9x) (m z2) h_tkzS
  have h_kws := ok_kws (Pg := l.prog) (w := w) (base := base) (Θ := Θ) d_kws   
  have h_name := ok_name (Pg := l.prog) (w := w) (base := base) (Θ := Θ) d_name  (m z7) h_next h_kws
  have h_atom := ok_atom (Pg := l.prog) (w := w) (base := base) (Θ := Θ) d_atom   h_next h_name
  have h_oper := ok_oper (Pg := l.prog) (w := w) (base := base) (Θ := Θ) d_oper   h_next
  have h_post := ok_post (Pg := l.prog) (w := w) (base := base) (Θ := Θ) d_post  (m z7) (m z6) h_next h_atom
  have h_prw := ok_prw (Pg := l.prog) (w := w) (base := base) (Θ := Θ) d_prw  (m z8) (m z4) 
  have h_lsd := ok_lsd (Pg := l.prog) (w := w) (base := base) (Θ := Θ) d_lsd  (m z7) (m z2) 
  have h_itx := ok_itx (Pg := l.prog) (w := w) (base := base) (Θ := Θ) d_itx  (m z1) h_prw h_lsd
  have h_fws := ok_fws (Pg := l.prog) (w := w) (base := base) (Θ := Θ) d_fws   h_itx
  have h_lvl := ok_lvl (Pg := l.prog) (w := w) (base := base) (Θ := Θ) d_lvl  (m z1) 
  have h_line := ok_line (Pg := l.prog) (w := w) (base := base) (Θ := Θ) d_line   h_lvl
  have h_last := ok_last (Pg := l.prog) (w := w) (base := base) (Θ := Θ) d_last  (m z7) (m z2) h_line
  have h_divd := ok_divd (Pg := l.prog) (w := w) (base := base) (Θ := Θ) d_divd   h_last
  have h_divd120 := h_divd 120 
  have h_wrds6 := (fun a b c => ok_wrds (Pg := l.prog) (w := w) (base := base) (Θ := Θ) d_wrds d_bare (m z1) a b c 6) h_lvl h_lsd h_prw
  have h_tree := ok_tree (Pg := l.prog) (w := w) (base := base) (Θ := Θ) d_tree   
  have h_flat := ok_flat (Pg := l.prog) (w := w) (base := base) (Θ := Θ) d_flat  (m z2) h_next h_atom h_post h_oper h_fws
  exact ok_law F  (m z5) (m z2) h_next h_flat h_divd120 h_fws h_tree h_wrds6 h_prs h_same150
end Law

end
open PySem PySem.W PyProof.Rows
set_option maxRecDepth 100000 in
set_option maxHeartbeats 0 in
theorem PySem.Challenge.cw_kithbase_k24_operators_bind_holds : PySem.Challenge.rw_kithbase_k24_operators_bind.Holds := by
  w_on; o_law; k_head; (case hw => w_witness2)
  k_fill
  refine Kb.walkD (l := PySem.Challenge.rw_kithbase_k24_operators_bind) (k := 182) (W := Law.W_law) rfl rfl ⟨rfl, by decide, by decide⟩ (fun w h Y => PySem.W.kIn_of Y) (fun ns hl hb => ⟨ns, rfl, rfl, hl, fun _ => rfl⟩) ?F
  case F =>
    intro w mg fa h KX G hmg
    refine' Law.law_all KX G hmg ?aCP ?pgCP ?hdCP ?poCP ?saCP ?nCP1 ?nCP2 ?nCP3 ?d_next ?d_same ?d_run ?d_word ?d_int ?d_txt ?d_par ?d_sgn ?d_tka ?d_tkz ?d_kind ?d_take ?d_sees ?d_skip ?d_need ?d_sk1 ?d_goin ?d_goout ?d_lstof ?d_expr ?d_chain ?d_cnj ?d_pref ?d_neg ?d_cmp ?d_mem ?d_tot ?d_pro ?d_ngv ?d_pri ?d_col ?d_prn ?d_rfs ?d_qry0 ?d_wdd ?d_itm ?d_sel ?d_prt ?d_qst ?d_prs0 ?d_src ?d_qip ?d_pin ?d_kws ?d_name ?d_atom ?d_oper ?d_post ?d_prw ?d_lsd ?d_itx ?d_fws ?d_lvl ?d_line ?d_last ?d_divd ?d_wrds ?d_bare ?d_tree ?d_flat ?z1 ?z2 ?z3 ?z4 ?z5 ?z6 ?z7 ?z8 ?q1 ?q2 ?q3 ?q4 ?q5 ?q6 ?q7 ?gK ?gL ?lK ?lL ?vK ?vL ?aC ?lC ?rC ?saC ?bC ?tC ?kC ?hg ?hk ?hdC ?ha ?hn ?ht ?hm ?noC ?ini ?t8x ?t9x ?gP ?lP ?vP ?g_negative ?g_product ?g_expression ?g_negation ?g_conjunction ?g_item ?g_order_key ?al ?ll ?cl ?kl
    (case aCP => k_is)
    (case pgCP => k_is)
    (case hdCP => k_is)
    (case poCP => k_is)
    (case saCP => k_is)
    (case nCP1 => k_is)
    (case nCP2 => k_is)
    (case nCP3 => k_is)
    (case d_next => (refine' Kb.defAt_mk KX G ?b ?a ?l ?c ?k; (case b => exact fun _ _ _ _ _ _ us hl => match us, hl with | [_, _], _ => rfl); (case a => k_is); (case l => k_is); (case c => k_is); (case k => k_is)))
    (case d_same => (refine' Kb.defAt_mk KX G ?b ?a ?l ?c ?k; (case b => exact fun _ _ _ _ _ _ us hl => match us, hl with | [_, _], _ => rfl); (case a => k_is); (case l => k_is); (case c => k_is); (case k => k_is)))
    (case d_run => (refine' Kb.defAt_mk KX G ?b ?a ?l ?c ?k; (case b => exact fun _ _ _ _ _ _ us hl => match us, hl with | [_, _, _], _ => rfl); (case a => k_is); (case l => k_is); (case c => k_is); (case k => k_is)))
    (case d_word => (refine' Kb.defAt_mk KX G ?b ?a ?l ?c ?k; (case b => exact fun _ _ _ _ _ _ us hl => match us, hl with | [_, _], _ => rfl); (case a => k_is); (case l => k_is); (case c => k_is); (case k => k_is)))
    (case d_int => (refine' Kb.defAt_mk KX G ?b ?a ?l ?c ?k; (case b => exact fun _ _ _ _ _ _ us hl => match us, hl with | [_, _], _ => rfl); (case a => k_is); (case l => k_is); (case c => k_is); (case k => k_is)))
    (case d_txt => (refine' Kb.defAt_mk KX G ?b ?a ?l ?c ?k; (case b => exact fun _ _ _ _ _ _ us hl => match us, hl with | [_, _], _ => rfl); (case a => k_is); (case l => k_is); (case c => k_is); (case k => k_is)))
    (case d_par => (refine' Kb.defAt_mk KX G ?b ?a ?l ?c ?k; (case b => exact fun _ _ _ _ _ _ us hl => match us, hl with | [_, _], _ => rfl); (case a => k_is); (case l => k_is); (case c => k_is); (case k => k_is)))
    (case d_sgn => (refine' Kb.defAt_mk KX G ?b ?a ?l ?c ?k; (case b => exact fun _ _ _ _ _ _ us hl => match us, hl with | [_, _], _ => rfl); (case a => k_is); (case l => k_is); (case c => k_is); (case k => k_is)))
    (case d_tka => (refine' Kb.defAt_mk KX G ?b ?a ?l ?c ?k; (case b => exact fun _ _ _ _ _ _ us hl => match us, hl with | [_, _], _ => rfl); (case a => k_is); (case l => k_is); (case c => k_is); (case k => k_is)))
    (case d_tkz => (refine' Kb.defAt_mk KX G ?b ?a ?l ?c ?k; (case b => exact fun _ _ _ _ _ _ us hl => match us, hl with | [_], _ => rfl); (case a => k_is); (case l => k_is); (case c => k_is); (case k => k_is)))
    (case d_kind => (refine' Kb.defAt_mk KX G ?b ?a ?l ?c ?k; (case b => exact fun _ _ _ _ _ _ us hl => match us, hl with | [_], _ => rfl); (case a => k_is); (case l => k_is); (case c => k_is); (case k => k_is)))
    (case d_take => (refine' Kb.defAt_mk KX G ?b ?a ?l ?c ?k; (case b => exact fun _ _ _ _ _ _ us hl => match us, hl with | [_, _], _ => rfl); (case a => k_is); (case l => k_is); (case c => k_is); (case k => k_is)))
    (case d_sees => (refine' Kb.defAt_mk KX G ?b ?a ?l ?c ?k; (case b => exact fun _ _ _ _ _ _ us hl => match us, hl with | [_, _], _ => rfl); (case a => k_is); (case l => k_is); (case c => k_is); (case k => k_is)))
    (case d_skip => (refine' Kb.defAt_mk KX G ?b ?a ?l ?c ?k; (case b => exact fun _ _ _ _ _ _ us hl => match us, hl with | [_, _], _ => rfl); (case a => k_is); (case l => k_is); (case c => k_is); (case k => k_is)))
    (case d_need => (refine' Kb.defAt_mk KX G ?b ?a ?l ?c ?k; (case b => exact fun _ _ _ _ _ _ us hl => match us, hl with | [_, _], _ => rfl); (case a => k_is); (case l => k_is); (case c => k_is); (case k => k_is)))
    (case d_sk1 => (refine' Kb.defAt_mk KX G ?b ?a ?l ?c ?k; (case b => exact fun _ _ _ _ _ _ us hl => match us, hl with | [_, _], _ => rfl); (case a => k_is); (case l => k_is); (case c => k_is); (case k => k_is)))
    (case d_goin => (refine' Kb.defAt_mk KX G ?b ?a ?l ?c ?k; (case b => exact fun _ _ _ _ _ _ us hl => match us, hl with | [_, _], _ => rfl); (case a => k_is); (case l => k_is); (case c => k_is); (case k => k_is)))
    (case d_goout => (refine' Kb.defAt_mk KX G ?b ?a ?l ?c ?k; (case b => exact fun _ _ _ _ _ _ us hl => match us, hl with | [_, _], _ => rfl); (case a => k_is); (case l => k_is); (case c => k_is); (case k => k_is)))
    (case d_lstof => (refine' Kb.defAt_mk KX G ?b ?a ?l ?c ?k; (case b => exact fun _ _ _ _ _ _ us hl => match us, hl with | [_, _], _ => rfl); (case a => k_is); (case l => k_is); (case c => k_is); (case k => k_is)))
    (case d_expr => (refine' Kb.defAt_mk KX G ?b ?a ?l ?c ?k; (case b => exact fun _ _ _ _ _ _ us hl => match us, hl with | [_], _ => rfl); (case a => k_is); (case l => k_is); (case c => k_is); (case k => k_is)))
    (case d_chain => (refine' Kb.defAt_mk KX G ?b ?a ?l ?c ?k; (case b => exact fun _ _ _ _ _ _ us hl => match us, hl with | [_, _, _], _ => rfl); (case a => k_is); (case l => k_is); (case c => k_is); (case k => k_is)))
    (case d_cnj => (refine' Kb.defAt_mk KX G ?b ?a ?l ?c ?k; (case b => exact fun _ _ _ _ _ _ us hl => match us, hl with | [_], _ => rfl); (case a => k_is); (case l => k_is); (case c => k_is); (case k => k_is)))
    (case d_pref => (refine' Kb.defAt_mk KX G ?b ?a ?l ?c ?k; (case b => exact fun _ _ _ _ _ _ us hl => match us, hl with | [_, _, _, _], _ => rfl); (case a => k_is); (case l => k_is); (case c => k_is); (case k => k_is)))
    (case d_neg => (refine' Kb.defAt_mk KX G ?b ?a ?l ?c ?k; (case b => exact fun _ _ _ _ _ _ us hl => match us, hl with | [_], _ => rfl); (case a => k_is); (case l => k_is); (case c => k_is); (case k => k_is)))
    (case d_cmp => (refine' Kb.defAt_mk KX G ?b ?a ?l ?c ?k; (case b => exact fun _ _ _ _ _ _ us hl => match us, hl with | [_], _ => rfl); (case a => k_is); (case l => k_is); (case c => k_is); (case k => k_is)))
    (case d_mem => (refine' Kb.defAt_mk KX G ?b ?a ?l ?c ?k; (case b => exact fun _ _ _ _ _ _ us hl => match us, hl with | [_, _], _ => rfl); (case a => k_is); (case l => k_is); (case c => k_is); (case k => k_is)))
    (case d_tot => (refine' Kb.defAt_mk KX G ?b ?a ?l ?c ?k; (case b => exact fun _ _ _ _ _ _ us hl => match us, hl with | [_], _ => rfl); (case a => k_is); (case l => k_is); (case c => k_is); (case k => k_is)))
    (case d_pro => (refine' Kb.defAt_mk KX G ?b ?a ?l ?c ?k; (case b => exact fun _ _ _ _ _ _ us hl => match us, hl with | [_], _ => rfl); (case a => k_is); (case l => k_is); (case c => k_is); (case k => k_is)))
    (case d_ngv => (refine' Kb.defAt_mk KX G ?b ?a ?l ?c ?k; (case b => exact fun _ _ _ _ _ _ us hl => match us, hl with | [_], _ => rfl); (case a => k_is); (case l => k_is); (case c => k_is); (case k => k_is)))
    (case d_pri => (refine' Kb.defAt_mk KX G ?b ?a ?l ?c ?k; (case b => exact fun _ _ _ _ _ _ us hl => match us, hl with | [_], _ => rfl); (case a => k_is); (case l => k_is); (case c => k_is); (case k => k_is)))
    (case d_col => (refine' Kb.defAt_mk KX G ?b ?a ?l ?c ?k; (case b => exact fun _ _ _ _ _ _ us hl => match us, hl with | [_], _ => rfl); (case a => k_is); (case l => k_is); (case c => k_is); (case k => k_is)))
    (case d_prn => (refine' Kb.defAt_mk KX G ?b ?a ?l ?c ?k; (case b => exact fun _ _ _ _ _ _ us hl => match us, hl with | [_], _ => rfl); (case a => k_is); (case l => k_is); (case c => k_is); (case k => k_is)))
    (case d_rfs => (refine' Kb.defAt_mk KX G ?b ?a ?l ?c ?k; (case b => exact fun _ _ _ _ _ _ us hl => match us, hl with | [_], _ => rfl); (case a => k_is); (case l => k_is); (case c => k_is); (case k => k_is)))
    (case d_qry0 => (refine' Kb.defAt_mk KX G ?b ?a ?l ?c ?k; (case b => exact fun _ _ _ _ _ _ us hl => match us, hl with | [_], _ => rfl); (case a => k_is); (case l => k_is); (case c => k_is); (case k => k_is)))
    (case d_wdd => (refine' Kb.defAt_mk KX G ?b ?a ?l ?c ?k; (case b => exact fun _ _ _ _ _ _ us hl => match us, hl with | [_], _ => rfl); (case a => k_is); (case l => k_is); (case c => k_is); (case k => k_is)))
    (case d_itm => (refine' Kb.defAt_mk KX G ?b ?a ?l ?c ?k; (case b => exact fun _ _ _ _ _ _ us hl => match us, hl with | [_], _ => rfl); (case a => k_is); (case l => k_is); (case c => k_is); (case k => k_is)))
    (case d_sel => (refine' Kb.defAt_mk KX G ?b ?a ?l ?c ?k; (case b => exact fun _ _ _ _ _ _ us hl => match us, hl with | [_], _ => rfl); (case a => k_is); (case l => k_is); (case c => k_is); (case k => k_is)))
    (case d_prt => (refine' Kb.defAt_mk KX G ?b ?a ?l ?c ?k; (case b => exact fun _ _ _ _ _ _ us hl => match us, hl with | [_], _ => rfl); (case a => k_is); (case l => k_is); (case c => k_is); (case k => k_is)))
    (case d_qst => (refine' Kb.defAt_mk KX G ?b ?a ?l ?c ?k; (case b => exact fun _ _ _ _ _ _ us hl => match us, hl with | [_], _ => rfl); (case a => k_is); (case l => k_is); (case c => k_is); (case k => k_is)))
    (case d_prs0 => (refine' Kb.defAt_mk KX G ?b ?a ?l ?c ?k; (case b => exact fun _ _ _ _ _ _ us hl => match us, hl with | [_], _ => rfl); (case a => k_is); (case l => k_is); (case c => k_is); (case k => k_is)))
    (case d_src => (refine' Kb.defAt_mk KX G ?b ?a ?l ?c ?k; (case b => exact fun _ _ _ _ _ _ us hl => match us, hl with | [_], _ => rfl); (case a => k_is); (case l => k_is); (case c => k_is); (case k => k_is)))
    (case d_qip => (refine' Kb.defAt_mk KX G ?b ?a ?l ?c ?k; (case b => exact fun _ _ _ _ _ _ us hl => match us, hl with | [_], _ => rfl); (case a => k_is); (case l => k_is); (case c => k_is); (case k => k_is)))
    (case d_pin => (refine' Kb.initAt_mk ?b ?a ?i ?l ?c ?k ?mk ?kc; (case b => exact fun _ _ _ _ _ _ us hl => match us, hl with | [_, _], _ => rfl); (case a => k_is); (case i => k_is); (case l => k_is); (case c => k_is); (case k => k_is); (case mk => k_is); (case kc => k_is)))
    (case d_kws => (refine' Kb.defAt_mk KX G ?b ?a ?l ?c ?k; (case b => exact fun _ _ _ _ _ _ us hl => match us, hl with | [], _ => rfl); (case a => k_is); (case l => k_is); (case c => k_is); (case k => k_is)))
    (case d_name => (refine' Kb.defAt_mk KX G ?b ?a ?l ?c ?k; (case b => exact fun _ _ _ _ _ _ us hl => match us, hl with | [_], _ => rfl); (case a => k_is); (case l => k_is); (case c => k_is); (case k => k_is)))
    (case d_atom => (refine' Kb.defAt_mk KX G ?b ?a ?l ?c ?k; (case b => exact fun _ _ _ _ _ _ us hl => match us, hl with | [_], _ => rfl); (case a => k_is); (case l => k_is); (case c => k_is); (case k => k_is)))
    (case d_oper => (refine' Kb.defAt_mk KX G ?b ?a ?l ?c ?k; (case b => exact fun _ _ _ _ _ _ us hl => match us, hl with | [_, _], _ => rfl); (case a => k_is); (case l => k_is); (case c => k_is); (case k => k_is)))
    (case d_post => (refine' Kb.defAt_mk KX G ?b ?a ?l ?c ?k; (case b => exact fun _ _ _ _ _ _ us hl => match us, hl with | [_], _ => rfl); (case a => k_is); (case l => k_is); (case c => k_is); (case k => k_is)))
    (case d_prw => (refine' Kb.defAt_mk KX G ?b ?a ?l ?c ?k; (case b => exact fun _ _ _ _ _ _ us hl => match us, hl with | [_, _], _ => rfl); (case a => k_is); (case l => k_is); (case c => k_is); (case k => k_is)))
    (case d_lsd => (refine' Kb.defAt_mk KX G ?b ?a ?l ?c ?k; (case b => exact fun _ _ _ _ _ _ us hl => match us, hl with | [_], _ => rfl); (case a => k_is); (case l => k_is); (case c => k_is); (case k => k_is)))
    (case d_itx => (refine' Kb.defAt_mk KX G ?b ?a ?l ?c ?k; (case b => exact fun _ _ _ _ _ _ us hl => match us, hl with | [_], _ => rfl); (case a => k_is); (case l => k_is); (case c => k_is); (case k => k_is)))
    (case d_fws => (refine' Kb.defAt_mk KX G ?b ?a ?l ?c ?k; (case b => exact fun _ _ _ _ _ _ us hl => match us, hl with | [_], _ => rfl); (case a => k_is); (case l => k_is); (case c => k_is); (case k => k_is)))
    (case d_lvl => (refine' Kb.defAt_mk KX G ?b ?a ?l ?c ?k; (case b => exact fun _ _ _ _ _ _ us hl => match us, hl with | [_], _ => rfl); (case a => k_is); (case l => k_is); (case c => k_is); (case k => k_is)))
    (case d_line => (refine' Kb.defAt_mk KX G ?b ?a ?l ?c ?k; (case b => exact fun _ _ _ _ _ _ us hl => match us, hl with | [_], _ => rfl); (case a => k_is); (case l => k_is); (case c => k_is); (case k => k_is)))
    (case d_last => (refine' Kb.defAt_mk KX G ?b ?a ?l ?c ?k; (case b => exact fun _ _ _ _ _ _ us hl => match us, hl with | [_, _], _ => rfl); (case a => k_is); (case l => k_is); (case c => k_is); (case k => k_is)))
    (case d_divd => (refine' Kb.defAt_mk KX G ?b ?a ?l ?c ?k; (case b => exact fun _ _ _ _ _ _ us hl => match us, hl with | [_], _ => rfl); (case a => k_is); (case l => k_is); (case c => k_is); (case k => k_is)))
    (case d_wrds => (refine' Kb.defAt_mk KX G ?b ?a ?l ?c ?k; (case b => exact fun _ _ _ _ _ _ us hl => match us, hl with | [_, _, _], _ => rfl); (case a => k_is); (case l => k_is); (case c => k_is); (case k => k_is)))
    (case d_bare => (refine' Kb.defAt_mk KX G ?b ?a ?l ?c ?k; (case b => exact fun _ _ _ _ _ _ us hl => match us, hl with | [_, _], _ => rfl); (case a => k_is); (case l => k_is); (case c => k_is); (case k => k_is)))
    (case d_tree => (refine' Kb.defAt_mk KX G ?b ?a ?l ?c ?k; (case b => exact fun _ _ _ _ _ _ us hl => match us, hl with | [_], _ => rfl); (case a => k_is); (case l => k_is); (case c => k_is); (case k => k_is)))
    (case d_flat => (refine' Kb.defAt_mk KX G ?b ?a ?l ?c ?k; (case b => exact fun _ _ _ _ _ _ us hl => match us, hl with | [_, _], _ => rfl); (case a => k_is); (case l => k_is); (case c => k_is); (case k => k_is)))
    (case z1 => k_is)
    (case z2 => k_is)
    (case z3 => k_is)
    (case z4 => k_is)
    (case z5 => k_is)
    (case z6 => k_is)
    (case z7 => k_is)
    (case z8 => k_is)
    (case q1 => k_is)
    (case q2 => k_is)
    (case q3 => k_is)
    (case q4 => k_is)
    (case q5 => k_is)
    (case q6 => k_is)
    (case q7 => k_is)
    (case gK => k_is)
    (case gL => k_is)
    (case lK => k_is)
    (case lL => k_is)
    (case vK => kernel_rfl)
    (case vL => kernel_rfl)
    (case aC => k_is)
    (case lC => k_is)
    (case rC => kernel_rfl)
    (case saC => k_is)
    (case bC => k_is)
    (case tC => k_is)
    (case kC => k_is)
    (case hg => k_is)
    (case hk => k_is)
    (case hdC => k_is)
    (case ha => k_is)
    (case hn => k_is)
    (case ht => k_is)
    (case hm => k_is)
    (case noC => k_is)
    (case ini => (refine' Law.rini_mk ?b ?a ?ty ?l ?c ?k; (case b => exact fun _ _ _ _ _ _ us hl => match us, hl with | [_, _], _ => rfl); (case a => k_is); (case ty => k_is); (case l => k_is); (case c => k_is); (case k => k_is)))
    (case t8x => k_is)
    (case t9x => k_is)
    (case gP => k_is)
    (case lP => k_is)
    (case vP => kernel_rfl)
    (case g_negative => k_is)
    (case g_product => k_is)
    (case g_expression => k_is)
    (case g_negation => k_is)
    (case g_conjunction => k_is)
    (case g_item => k_is)
    (case g_order_key => k_is)
    (case al => k_is)
    (case ll => k_is)
    (case cl => k_is)
    (case kl => k_is)

