import PyProof.Rows.All
import Wide.All
import OpenK.AllK
import Wide.FinOn
import HandS.ForMost
import HandS.ForExc
import HandS.Wide
import HandS.IsInst
import HandS.EndBits
import HandS.SortKw
import HandS.Flow
import HandS.AnyAll
import HandS.Lambda
import KE.KDictKeyed
import KE.KeyNested
import KE.SortKeyed
import KE.SortData
import HandS.EndTab
import HandS.GenOver
import HandS.Comp
import KE.KNest
import HandS.Zip
import HandS.Style
import HandS.Text
import KE.DataCmp
import HandS.TupAny
import HandS.More
import HandS.RaiseMore
import HandS.ExcIs
import HandS.TryOnly
import HandS.FStr
import HandS.Iter
import HandS.ExcInit
import HandS.ExcField
import KE.KExcIs
import PyProof.DelItemList
import HandS.IterVal
import HandS.Strs
import HandS.ReplaceList
import HandS.StrMore
import HandS.Conv
import HandS.SortOrd
import HandS.Deep
import HandS.Zip0
import PyProof.DictFindH
import KE.GoesMore
import PyProof.Draws
import PyProof.EnumMake
import HandS.TupLen
import HandS.DictComp
import PyProof.DictMoreH
import KE.KDictWalk
import KE.KDictCopyH
import PySem.Challenge.RW_kithbase_k39_change_of_a_join
set_option Elab.async false
set_option linter.all false
set_option maxRecDepth 100000
set_option maxHeartbeats 4000000
namespace Kb
open PySem PySem.Spec PyProof.Rows L2
/-! defs of the text: where they stand, what they promise -/
/-- a def of the top: found by its name, with so many plain parameters -/
structure DefAt (K : PySem.W.Frag) (mg : Str → Option Value) (x : Str) (st : Stmt) (ps : List Str) : Prop where
  ex : ∃ f fd, Fun K x x st f fd ∧ mg x = some (.ref f) ∧ Binds K fd ps []
/-- a def of the top that keeps a promise -/
structure HasF (P : Program) (w : World) (K : PySem.W.Frag) (mg : Str → Option Value) (base : Heap) (CX : CXT) (k : Nat) (x : Str) (ps : List Str) (sp : Sp) : Prop where
  ex : ∃ f fd, FnOk P w K mg base CX k f fd ps sp ∧ mg x = some (.ref f) ∧ PySem.W.keepIn K (.ref f) = true ∧ Binds K fd ps []
section
variable {P : Program} {w : World} {K : PySem.W.Frag} {mg : Str → Option Value} {base : Heap} {x : Str} {st : Stmt} {N ps : List Str} {k : Nat} {sp : Sp}
theorem DefAt.ok (A : DefAt K mg x st ps) (S : FnScope N ps (defScope st)) (len : ∀ vs H Q E, sp vs H Q E → vs.length = ps.length)
    (hbody : ∀ (f : Addr) (cdv : Value) (A : Around) (outer : List Env) (s : Shared) (H : Hp) (vs : List V) (Q : VK) (E : XK), Room k (A.deeper (envOfC x (defScope st) s.heap.objs.size f cdv)) → sp vs H Q E →
      ∃ t, PSs (cxOf CX0 P w K mg base N x (defScope st) f cdv A outer s H E).nox (defBody st) t ∧ t { nx := fun _ H' => Q .non H', rt := Q } (start N vs) H) : HasF P w K mg base CX0 (k + 1) x ps sp := by
  obtain ⟨f, fd, F, hm, hb⟩ := A.ex
  exact ⟨f, fd, F.ok S len (fun cdv A outer s H vs Q E hr h => hbody f cdv A outer s H vs Q E hr h), hm, F.kp, hb⟩
end
section
variable {X : Cx} {CX : CXT} {k : Nat} {x : Str} {ps : List Str} {sp : Sp} {E : XK} {p pos : Pos} {e : Expr} {es : List Expr} {t : TA}
theorem HasF.call (h : HasF X.prog X.w X.K X.mg X.base CX k x ps sp) (hr : Room k X.A) (hg : Gl X x) (hx : Passes CX X E)
    (ha : PA X (e :: es) t) (hdb : (x == ("__debug__" : Str)) = false := by decide) (he : starEach (e :: es) X.env = (false, eval e X.env) :: starEach es X.env := by rfl) (hpl : (backTo pos (starEach es X.env)).any (·.1) = false := by rfl) :
    PE X (.Call (.Name x p) (e :: es) [] pos) (tCall sp [] E t) := by
  obtain ⟨f, fd, F, hm, hk, hb⟩ := h.ex
  exact pe_call F hr hg hm hk hb .nil hx ha hdb he hpl
end
/-! universal operators -/
def CMulX (i j : Int) : Prop := i.natAbs.log2 + j.natAbs.log2 < 100000000
theorem CMulX.ok {i j : Int} (h : CMulX i j) : IntMulOk i j := by
  have bit : ∀ x : Int, Builtin.Int.intBits x ≤ x.natAbs.log2 + 1 := fun x => by
    unfold Builtin.Int.intBits
    split <;> omega
  have g1 := bit i
  have g2 := bit j
  have g3 : i.natAbs.log2 + j.natAbs.log2 < 100000000 := h
  have big : bitsLine = 134217728 := by decide
  intro c
  obtain ⟨_, c2⟩ := Bool.and_eq_true_iff.mp c
  unfold Builtin.Int.intTooBig at c2
  have c3 := of_decide_eq_true c2
  rw [big] at c3
  omega
section
variable {X : Cx}
theorem op_mulX : OpR X (binaryOp .Mult) (rI CMulX fun i j => .int (i * j)) := opI fun _ _ _ _ _ _ _ hc q => mul_int q hc.ok
end
end Kb

/-! A logic over plain data: values D (tuples, lists, instances that no longer change stand inline; what a def still changes is owned, by number). -/
namespace Kb
open PySem PySem.Spec PyProof.Rows L2
/-- data that stay as they are -/
inductive P where
  | non | bl (b : Bool) | int (i : Int) | str (s : Str) | tup (xs : List P) | ktp (xs : List P) | lst (xs : List P) | ins (C : Addr) (fs : List (Str × P)) | ty (n : String) | cls (C : Addr)
/-- a datum, or what is owned, by its number -/
inductive D where
  | p (x : P) | own (i : Nat)
abbrev dN : D := .p .non
abbrev dB (b : Bool) : D := .p (.bl b)
abbrev dI (i : Int) : D := .p (.int i)
abbrev dS (s : Str) : D := .p (.str s)
abbrev dT (xs : List P) : D := .p (.tup xs)
abbrev dL (xs : List P) : D := .p (.lst xs)
/-- what is owned -/
inductive OO where
  | lst (xs : List D) | ins (C : Addr) (fs : List (Str × D)) | dK (kvs : List (Key × D)) | dT (kvs : List (List Key × D)) | dN (pw : Program × World) (kvs : List (P × D)) | dL (pw : Program × World) (od : Obj) (gs : List ((NestedKey × Addr) × V)) (kvs : List (P × D))
abbrev Hs := List (Option OO)
abbrev Env' := List (Option D)
/-- a tuple that stands there -/
def SqU (_ : PySem.W.Frag) (F : Hp) (a : Addr) (vs : List V) : Prop := F a = some (.tup vs)
theorem SqU.of {K : PySem.W.Frag} {F : Hp} {a : Addr} {vs : List V} (h : F a = some (.tup vs)) : SqU K F a vs := h
section
variable (K : PySem.W.Frag)
mutual
inductive RP (F : Hp) : P → V → Prop
  | non : RP F .non .non
  | bl (b : Bool) : RP F (.bl b) (.bl b)
  | int (i : Int) : RP F (.int i) (.int i)
  | str (s : Str) : RP F (.str s) (.str s)
  | tup {a : Addr} {xs : List P} {vs : List V} : SqU K F a vs → RPs F xs vs → RP F (.tup xs) (.ref a)
  | ktp {a : Addr} {xs : List P} {vs : List V} : (∀ H, SqT K H a vs) → RPs F xs vs → RP F (.ktp xs) (.ref a)
  | lst {a : Addr} {xs : List P} {vs : List V} : SqL K F a vs → RPs F xs vs → RP F (.lst xs) (.ref a)
  | ins {a C dx : Addr} {fs : List (Str × P)} {gs : List (Str × V)} : F a = some (.ins C dx gs) → RPf F fs gs → RP F (.ins C fs) (.ref a)
  | ty (n : String) : RP F (.ty n) (.ty n)
  | cls (C : Addr) : RP F (.cls C) (.ref C)
inductive RPs (F : Hp) : List P → List V → Prop
  | nil : RPs F [] []
  | cons {d : P} {v : V} {ds : List P} {vs : List V} : RP F d v → RPs F ds vs → RPs F (d :: ds) (v :: vs)
inductive RPf (F : Hp) : List (Str × P) → List (Str × V) → Prop
  | nil : RPf F [] []
  | cons {f : Str} {d : P} {v : V} {ds : List (Str × P)} {vs : List (Str × V)} : RP F d v → RPf F ds vs → RPf F ((f, d) :: ds) ((f, v) :: vs)
end
inductive RD (F : Hp) (ρ : List Addr) : D → V → Prop
  | p {x : P} {v : V} : RP K F x v → RD F ρ (.p x) v
  | own {a : Addr} {i : Nat} : ρ[i]? = some a → RD F ρ (.own i) (.ref a)
inductive RA (F : Hp) (ρ : List Addr) : List D → List V → Prop
  | nil : RA F ρ [] []
  | cons {d : D} {v : V} {ds : List D} {vs : List V} : RD K F ρ d v → RA F ρ ds vs → RA F ρ (d :: ds) (v :: vs)
inductive RK {κ : Type} (F : Hp) (ρ : List Addr) : List (κ × D) → List (κ × V) → Prop
  | nil : RK F ρ [] []
  | cons {f : κ} {d : D} {v : V} {ds : List (κ × D)} {vs : List (κ × V)} : RD K F ρ d v → RK F ρ ds vs → RK F ρ ((f, d) :: ds) ((f, v) :: vs)
inductive RF (F : Hp) (ρ : List Addr) : List (Str × D) → List (Str × V) → Prop
  | nil : RF F ρ [] []
  | cons {f : Str} {d : D} {v : V} {ds : List (Str × D)} {vs : List (Str × V)} : RD K F ρ d v → RF F ρ ds vs → RF F ρ ((f, d) :: ds) ((f, v) :: vs)
end
/-- a key of a dict: data of tuples, numbers, truths, texts and None -/
def nkP : P → Option NestedKey
  | .non => some .none
  | .bl b => some (.num (if b then 1 else 0))
  | .int i => some (.num i)
  | .str s => some (.text s)
  | .tup xs => (nkPs xs).map .tup
  | _ => none
where nkPs : List P → Option (List NestedKey)
  | [] => some []
  | x :: xs => (nkP x).bind fun k => (nkPs xs).map (k :: ·)
/-- a dict whose keys are nested tuples, by what is true of its one object: its keys, where their tuples stand, its values -/
def NdPhi (pw : Program × World) (a : Addr) (gs : List ((NestedKey × Addr) × V)) : Heap → Prop := fun h =>
  gs.length ≤ sizeLine ∧ (a == sysModules) = false ∧ ∃ xs : List (NestedKey × Addr × Value), Paired (fun (g : (NestedKey × Addr) × V) (x : NestedKey × Addr × Value) => g.1.1 = x.1 ∧ g.1.2 = x.2.1 ∧ RelV g.2 x.2.2) gs xs ∧
  ∃ o es ep, h.get? a = some o ∧ o.ExactDict ∧ o.data = .dict es ep ∧ es.toList = xs.map (entryOfKey (nestedKind pw.1 pw.2)) ∧ (xs.map (·.1)).Nodup
/-- the keys as data: they stand where the dict has them -/
inductive KeyR (K : PySem.W.Frag) (F : Hp) : List P → List (NestedKey × Addr) → Prop
  | nil : KeyR K F [] []
  | cons {p : P} {k : NestedKey} {b : Addr} {ps : List P} {ks : List (NestedKey × Addr)} : RP K F p (.ref b) → nkP p = some k → k.depth ≤ 8 → KeyR K F ps ks → KeyR K F (p :: ps) ((k, b) :: ks)
/-- what is raised: its class, and its fields if it has some that count -/
structure Exn where
  cls : Addr
  fs : Option (List (Str × P))
/-- the tables: of generator expressions, and of lambdas with the names of their code objects -/
structure Tbs where
  g : List Addr
  l : List (Addr × Str)
  dj : ∀ p ∈ l, p.1 ∉ g
  un : ∀ p ∈ l, ∀ q ∈ l, p.1 = q.1 → p.2 = q.2
instance : Membership Addr Tbs := ⟨fun T P => P ∈ T.g⟩
abbrev Tbs.of (g : List Addr) : Tbs := ⟨g, [], fun _ h => absurd h (by simp), fun _ h => absurd h (by simp)⟩
instance : Coe (List Addr) Tbs := ⟨Tbs.of⟩
/-- what a text runs in: tables, the wish, the errors that may be raised -/
structure Ctx where
  tabs : Tbs
  wish : L2.St → XK
  ex : Exn → Env' → Hs → Prop
  fl : Hp := fun _ => none
/-- nothing is raised -/
abbrev Ctx.plain (T : Tbs) : Ctx := ⟨T, fun _ _ _ _ => False, fun _ _ _ => False, fun _ => none⟩
instance : Coe Tbs Ctx := ⟨Ctx.plain⟩
instance : Coe (List Addr) Ctx := ⟨fun g => Ctx.plain (Tbs.of g)⟩
section
variable {K : PySem.W.Frag} {Θ : Ctx} {T : Tbs}
theorem sqU_mono {F F' : Hp} (e : Same F F') {a : Addr} {vs : List V} (h : SqU K F a vs) : SqU K F' a vs := e _ _ h
theorem sqT_mono {F F' : Hp} (e : Same F F') {a : Addr} {vs : List V} (h : SqU K F a vs) : SqT K F' a vs := .of (e _ _ h)
/-- numbers keep their addresses -/
def Pre (ρ ρ' : List Addr) : Prop := ∀ (i : Nat) (a : Addr), ρ[i]? = some a → ρ'[i]? = some a
theorem Pre.refl (ρ : List Addr) : Pre ρ ρ := fun _ _ h => h
theorem Pre.trans {a b c : List Addr} (x : Pre a b) (y : Pre b c) : Pre a c := fun i p h => y i p (x i p h)
theorem Pre.push (ρ : List Addr) (p : Addr) : Pre ρ (ρ ++ [p]) := fun i a h => by
  have hl : i < ρ.length := (List.getElem?_eq_some_iff.mp h).1
  rw [List.getElem?_append_left hl]
  exact h
mutual
theorem RP.mono {F F' : Hp} (e : Same F F') : ∀ {d : P} {v : V}, RP K F d v → RP K F' d v
  | _, _, .non => .non
  | _, _, .bl b => .bl b
  | _, _, .int i => .int i
  | _, _, .str s => .str s
  | _, _, .tup h r => .tup (sqU_mono e h) (RPs.mono e r)
  | _, _, .ktp h r => .ktp h (RPs.mono e r)
  | _, _, .lst h r => .lst (e.seq h) (RPs.mono e r)
  | _, _, .ins h r => .ins (e _ _ h) (RPf.mono e r)
  | _, _, .ty n => .ty n
  | _, _, .cls C => .cls C
theorem RPs.mono {F F' : Hp} (e : Same F F') : ∀ {d : List P} {v : List V}, RPs K F d v → RPs K F' d v
  | _, _, .nil => .nil
  | _, _, .cons h r => .cons (RP.mono e h) (RPs.mono e r)
theorem RPf.mono {F F' : Hp} (e : Same F F') : ∀ {d : List (Str × P)} {v : List (Str × V)}, RPf K F d v → RPf K F' d v
  | _, _, .nil => .nil
  | _, _, .cons h r => .cons (RP.mono e h) (RPf.mono e r)
end
theorem RD.mono {F F' : Hp} {ρ ρ' : List Addr} (e : Same F F') (p : Pre ρ ρ') {d : D} {v : V} (h : RD K F ρ d v) : RD K F' ρ' d v := by
  cases h with
  | p h => exact .p (h.mono e)
  | own h => exact .own (p _ _ h)
theorem RA.mono {F F' : Hp} {ρ ρ' : List Addr} (e : Same F F') (p : Pre ρ ρ') {d : List D} {v : List V} (h : RA K F ρ d v) : RA K F' ρ' d v := by
  induction h with
  | nil => exact .nil
  | cons h _ ih => exact .cons (h.mono e p) ih
theorem RF.mono {F F' : Hp} {ρ ρ' : List Addr} (e : Same F F') (p : Pre ρ ρ') {d : List (Str × D)} {v : List (Str × V)} (h : RF K F ρ d v) : RF K F' ρ' d v := by
  induction h with
  | nil => exact .nil
  | cons h _ ih => exact .cons (h.mono e p) ih
theorem RK.mono {κ : Type} {F F' : Hp} {ρ ρ' : List Addr} (e : Same F F') (p : Pre ρ ρ') {d : List (κ × D)} {v : List (κ × V)} (h : RK K F ρ d v) : RK K F' ρ' d v := by
  induction h with
  | nil => exact .nil
  | cons h _ ih => exact .cons (h.mono e p) ih
theorem KeyR.mono {F F' : Hp} (e : Same F F') {ps : List P} {ks : List (NestedKey × Addr)} (h : KeyR K F ps ks) : KeyR K F' ps ks := by
  induction h with
  | nil => exact .nil
  | cons a b c _ ih => exact .cons (a.mono e) b c ih
theorem RA.len {F : Hp} {ρ : List Addr} {ds : List D} {vs : List V} (h : RA K F ρ ds vs) : ds.length = vs.length := by
  induction h with
  | nil => rfl
  | cons _ _ ih => exact congrArg (· + 1) ih
theorem RPs.len {F : Hp} : ∀ {ds : List P} {vs : List V}, RPs K F ds vs → ds.length = vs.length
  | _, _, .nil => rfl
  | _, _, .cons _ r => congrArg (· + 1) (RPs.len r)
theorem RA.get {F : Hp} {ρ : List Addr} : ∀ {ds : List D} {vs : List V} {i : Nat} {d : D}, RA K F ρ ds vs → ds[i]? = some d → ∃ v, vs[i]? = some v ∧ RD K F ρ d v
  | _, _, _, _, .nil, h => by simp at h
  | _, _, 0, _, .cons q r, h => by
    cases Option.some.inj h
    exact ⟨_, rfl, q⟩
  | _, _, i + 1, d, .cons q r, h => by
    obtain ⟨v, h1, h2⟩ := RA.get (i := i) (d := d) r (by simpa using h)
    exact ⟨v, by simpa using h1, h2⟩
theorem RPs.get {F : Hp} : ∀ {ds : List P} {vs : List V} {i : Nat} {d : P}, RPs K F ds vs → ds[i]? = some d → ∃ v, vs[i]? = some v ∧ RP K F d v
  | _, _, _, _, .nil, h => by simp at h
  | _, _, 0, _, .cons q r, h => by
    cases Option.some.inj h
    exact ⟨_, rfl, q⟩
  | _, _, i + 1, d, .cons q r, h => by
    obtain ⟨v, h1, h2⟩ := RPs.get (i := i) (d := d) r (by simpa using h)
    exact ⟨v, by simpa using h1, h2⟩
theorem RA.append {F : Hp} {ρ : List Addr} : ∀ {ds es : List D} {vs us : List V}, RA K F ρ ds vs → RA K F ρ es us → RA K F ρ (ds ++ es) (vs ++ us)
  | _, _, _, _, .nil, s => s
  | _, _, _, _, .cons q r, s => .cons q (RA.append r s)
theorem RPs.append {F : Hp} : ∀ {ds es : List P} {vs us : List V}, RPs K F ds vs → RPs K F es us → RPs K F (ds ++ es) (vs ++ us)
  | _, _, _, _, .nil, s => s
  | _, _, _, _, .cons q r, s => .cons q (RPs.append r s)
theorem RA.set {F : Hp} {ρ : List Addr} {d : D} {v : V} (q : RD K F ρ d v) : ∀ {ds : List D} {vs : List V} (i : Nat), RA K F ρ ds vs → RA K F ρ (ds.set i d) (vs.set i v)
  | _, _, _, .nil => .nil
  | _, _, 0, .cons _ r => .cons q r
  | _, _, i + 1, .cons p r => .cons p (RA.set q i r)
theorem RPs.take {F : Hp} : ∀ {ds : List P} {vs : List V} (i : Nat), RPs K F ds vs → RPs K F (ds.take i) (vs.take i)
  | _, _, 0, _ => .nil
  | _, _, _ + 1, .nil => .nil
  | _, _, i + 1, .cons p r => .cons p (RPs.take i r)
theorem RPs.drop {F : Hp} : ∀ {ds : List P} {vs : List V} (i : Nat), RPs K F ds vs → RPs K F (ds.drop i) (vs.drop i)
  | _, _, 0, r => r
  | _, _, _ + 1, .nil => .nil
  | _, _, i + 1, .cons p r => RPs.drop i r
theorem RA.pure {F : Hp} {ρ : List Addr} : ∀ {ps : List P} {vs : List V}, RA K F ρ (ps.map D.p) vs → RPs K F ps vs
  | [], _, .nil => .nil
  | _ :: _, _, .cons (.p q) r => .cons q (RA.pure r)
theorem RPs.data {F : Hp} {ρ : List Addr} : ∀ {ps : List P} {vs : List V}, RPs K F ps vs → RA K F ρ (ps.map D.p) vs
  | [], _, .nil => .nil
  | _ :: _, _, .cons q r => .cons (.p q) (RPs.data r)
theorem RPs.of_ints {F : Hp} : ∀ (ns : List Int), RPs K F (ns.map P.int) (ns.map V.int)
  | [] => .nil
  | n :: ns => .cons (.int n) (RPs.of_ints ns)
theorem RF.pure {F : Hp} {ρ : List Addr} : ∀ {fs : List (Str × P)} {vs : List (Str × V)}, RF K F ρ (fs.map fun q => (q.1, D.p q.2)) vs → RPf K F fs vs
  | [], _, .nil => .nil
  | (_, _) :: _, _, .cons (.p q) r => .cons q (RF.pure r)
/-- an owned thing and what stands there -/
def RO (K : PySem.W.Frag) (a : Addr) (F : Hp) (ρ : List Addr) : OO → HO → Prop
  | .lst xs, o => ∃ vs, o = .lst vs ∧ RA K F ρ xs vs
  | .ins C fs, o => ∃ dx gs, o = .ins C dx gs ∧ RF K F ρ fs gs
  | .dK kvs, o => ∃ gs, o = .dK gs ∧ RK K F ρ kvs gs
  | .dT kvs, o => ∃ gs, o = .dT gs ∧ RK K F ρ kvs gs
  | .dN pw kvs, o => ∃ gs, o = .ext (NdPhi pw a gs) ∧ KeyR K F (kvs.map (·.1)) (gs.map (·.1)) ∧ RA K F ρ (kvs.map (·.2)) (gs.map (·.2))
  | .dL pw od gs kvs, o => o = .frz od (.ext (NdPhi pw a gs)) ∧ KeyR K F (kvs.map (·.1)) (gs.map (·.1)) ∧ RA K F ρ (kvs.map (·.2)) (gs.map (·.2))
theorem RO.mono {a : Addr} {F F' : Hp} {ρ ρ' : List Addr} (e : Same F F') (p : Pre ρ ρ') : ∀ {o : OO} {u : HO}, RO K a F ρ o u → RO K a F' ρ' o u
  | .lst _, _, ⟨vs, h, r⟩ => ⟨vs, h, r.mono e p⟩
  | .ins _ _, _, ⟨dx, gs, h, r⟩ => ⟨dx, gs, h, r.mono e p⟩
  | .dK _, _, ⟨gs, h, r⟩ => ⟨gs, h, r.mono e p⟩
  | .dT _, _, ⟨gs, h, r⟩ => ⟨gs, h, r.mono e p⟩
  | .dN _ _, _, ⟨gs, h, q, r⟩ => ⟨gs, h, q.mono e, r.mono e p⟩
  | .dL _ _ _ _, _, ⟨h, q, r⟩ => ⟨h, q.mono e, r.mono e p⟩
/-- the heap H: frozen things F, owned things h at ρ -/
structure Base (K : PySem.W.Frag) (T : Tbs) (F : Hp) (ρ : List Addr) (h : Hs) (H : Hp) : Prop where
  same : Same F H
  len : ρ.length = h.length
  own : ∀ (i : Nat) (o : OO), h[i]? = some (some o) → ∃ a u, ρ[i]? = some a ∧ F a = none ∧ H a = some u ∧ RO K a F ρ o u
  inj : ∀ (i j : Nat) (o u : OO) (a : Addr), h[i]? = some (some o) → h[j]? = some (some u) → ρ[i]? = some a → ρ[j]? = some a → i = j
  tab : ∀ P ∈ T, F P = none ∧ GxR.TabG H P
  lam : ∀ p ∈ T.l, F p.1 = none ∧ LamX.TabS H p.1 p.2
/-- the error's fields -/
def XnAt (K : PySem.W.Frag) (F : Hp) (X : Exn) (d : Option Addr) : Prop := match X.fs with
  | none => d = none
  | some fs => ∃ a gs, d = some a ∧ F a = some (.xd gs) ∧ RPf K F fs gs
structure REnv (K : PySem.W.Frag) (F : Hp) (ρ : List Addr) (env : Env') (σ : L2.St) : Prop where
  len : env.length = σ.length
  get : ∀ (i : Nat) (d : D), env[i]? = some (some d) → ∃ v, σ[i]? = some (some v) ∧ RD K F ρ d v
theorem REnv.mono {F F' : Hp} {ρ ρ' : List Addr} {env : Env'} {σ : L2.St} (e : Same F F') (p : Pre ρ ρ') (r : REnv K F ρ env σ) : REnv K F' ρ' env σ :=
  ⟨r.len, fun i d h => let ⟨v, h1, h2⟩ := r.get i d h; ⟨v, h1, h2.mono e p⟩⟩
theorem REnv.set {F : Hp} {ρ : List Addr} {env : Env'} {σ : L2.St} {i : Nat} {d : D} {v : V} (r : REnv K F ρ env σ) (q : RD K F ρ d v) : REnv K F ρ (env.set i (some d)) (σ.set i (some v)) := by
  refine ⟨by rw [List.length_set, List.length_set]; exact r.len, fun j e h => ?_⟩
  by_cases hj : i = j
  · subst hj
    have hl : i < env.length := by
      have := (List.getElem?_eq_some_iff.mp h).1
      rwa [List.length_set] at this
    rw [List.getElem?_set_self hl] at h
    cases h
    exact ⟨v, by rw [List.getElem?_set_self (by rw [← r.len]; exact hl)], q⟩
  · rw [List.getElem?_set_ne hj] at h ⊢
    exact r.get j e h
theorem REnv.wipe {F : Hp} {ρ : List Addr} {env : Env'} {σ : L2.St} {i : Nat} (r : REnv K F ρ env σ) : REnv K F ρ (env.set i none) (σ.set i none) := by
  refine ⟨by rw [List.length_set, List.length_set]; exact r.len, fun j e h => ?_⟩
  by_cases hj : i = j
  · subst hj
    have hl : i < env.length := by
      have := (List.getElem?_eq_some_iff.mp h).1
      rwa [List.length_set] at this
    rw [List.getElem?_set_self hl] at h
    cases h
  · rw [List.getElem?_set_ne hj] at h ⊢
    exact r.get j e h
/-- from here on these errors keep the wish -/
structure Wish (K : PySem.W.Frag) (Θ : Ctx) (F : Hp) (ρ : List Addr) : Prop where
  run : ∀ (X : Exn) (d : Option Addr) (env : Env') (h' : Hs) (F' : Hp) (ρ' : List Addr) (σ : L2.St) (H' : Hp), Same F F' → Pre ρ ρ' → Base K Θ.tabs F' ρ' h' H' → REnv K F' ρ' env σ → XnAt K F' X d → Θ.ex X env h' → Θ.wish σ (.ref X.cls) d H'
  floor : Same Θ.fl F
theorem Wish.mono {F F' : Hp} {ρ ρ' : List Addr} (w : Wish K Θ F ρ) (s : Same F F') (p : Pre ρ ρ') : Wish K Θ F' ρ' := ⟨fun X d env h' F2 ρ2 σ H' s2 p2 => w.run X d env h' F2 ρ2 σ H' (s.trans s2) (p.trans p2), w.floor.trans s⟩
theorem Wish.plain {F : Hp} {ρ : List Addr} : Wish K (Ctx.plain T) F ρ := ⟨fun _ _ _ _ _ _ _ _ _ _ _ _ _ z => z.elim, fun _ _ z => by cases z⟩
structure Rel (K : PySem.W.Frag) (Θ : Ctx) (F : Hp) (ρ : List Addr) (h : Hs) (H : Hp) : Prop extends Base K Θ.tabs F ρ h H where
  wish : Wish K Θ F ρ
theorem Base.plain {F : Hp} {ρ : List Addr} {h : Hs} {H : Hp} (r : Base K T F ρ h H) : Rel K (Ctx.plain T) F ρ h H := ⟨r, .plain⟩
/-! ### the judgements -/
def VE (K : PySem.W.Frag) (Θ : Ctx) (te : TE) (env : Env') (h : Hs) (R : D → Hs → Prop) : Prop :=
  ∀ (F : Hp) (ρ : List Addr) (σ : L2.St) (H : Hp) (Q : VK), Rel K Θ F ρ h H → REnv K F ρ env σ →
    (∀ (d : D) (h' : Hs) (v : V) (F' : Hp) (ρ' : List Addr) (H' : Hp), Same F F' → Pre ρ ρ' → Rel K Θ F' ρ' h' H' → RD K F' ρ' d v → R d h' → Q v H') → te σ H Q
def VA (K : PySem.W.Frag) (Θ : Ctx) (ta : TA) (env : Env') (h : Hs) (R : List D → Hs → Prop) : Prop :=
  ∀ (F : Hp) (ρ : List Addr) (σ : L2.St) (H : Hp) (Q : List V → Hp → Prop), Rel K Θ F ρ h H → REnv K F ρ env σ →
    (∀ (d : List D) (h' : Hs) (v : List V) (F' : Hp) (ρ' : List Addr) (H' : Hp), Same F F' → Pre ρ ρ' → Rel K Θ F' ρ' h' H' → RA K F' ρ' d v → R d h' → Q v H') → ta σ H Q
def VT (K : PySem.W.Frag) (Θ : Ctx) (tt : TT) (env : Env') (h : Hs) (R : Bool → Hs → Prop) : Prop :=
  ∀ (F : Hp) (ρ : List Addr) (σ : L2.St) (H : Hp) (Q : Bool → Hp → Prop), Rel K Θ F ρ h H → REnv K F ρ env σ →
    (∀ (b : Bool) (h' : Hs) (F' : Hp) (ρ' : List Addr) (H' : Hp), Same F F' → Pre ρ ρ' → Rel K Θ F' ρ' h' H' → R b h' → Q b H') → tt σ H Q
/-- an operation upon values -/
def V2 (K : PySem.W.Frag) (Θ : Ctx) (r : R2) (x y : D) (h : Hs) (R : D → Hs → Prop) : Prop :=
  ∀ (F : Hp) (ρ : List Addr) (H : Hp) (vx vy : V) (Q : VK), Rel K Θ F ρ h H → RD K F ρ x vx → RD K F ρ y vy →
    (∀ (d : D) (h' : Hs) (v : V) (F' : Hp) (ρ' : List Addr) (H' : Hp), Same F F' → Pre ρ ρ' → Rel K Θ F' ρ' h' H' → RD K F' ρ' d v → R d h' → Q v H') → r vx vy H Q
def V1 (K : PySem.W.Frag) (Θ : Ctx) (r : V → Hp → VK → Prop) (x : D) (h : Hs) (R : D → Hs → Prop) : Prop :=
  ∀ (F : Hp) (ρ : List Addr) (H : Hp) (vx : V) (Q : VK), Rel K Θ F ρ h H → RD K F ρ x vx →
    (∀ (d : D) (h' : Hs) (v : V) (F' : Hp) (ρ' : List Addr) (H' : Hp), Same F F' → Pre ρ ρ' → Rel K Θ F' ρ' h' H' → RD K F' ρ' d v → R d h' → Q v H') → r vx H Q
/-- a call upon values -/
def VC (K : PySem.W.Frag) (Θ : Ctx) (r : List V → Hp → VK → Prop) (xs : List D) (h : Hs) (R : D → Hs → Prop) : Prop :=
  ∀ (F : Hp) (ρ : List Addr) (H : Hp) (vs : List V) (Q : VK), Rel K Θ F ρ h H → RA K F ρ xs vs →
    (∀ (d : D) (h' : Hs) (v : V) (F' : Hp) (ρ' : List Addr) (H' : Hp), Same F F' → Pre ρ ρ' → Rel K Θ F' ρ' h' H' → RD K F' ρ' d v → R d h' → Q v H') → r vs H Q
/-- a method upon values -/
def VM (K : PySem.W.Frag) (Θ : Ctx) (r : V → List V → Hp → VK → Prop) (x : D) (xs : List D) (h : Hs) (R : D → Hs → Prop) : Prop :=
  ∀ (F : Hp) (ρ : List Addr) (H : Hp) (vx : V) (vs : List V) (Q : VK), Rel K Θ F ρ h H → RD K F ρ x vx → RA K F ρ xs vs →
    (∀ (d : D) (h' : Hs) (v : V) (F' : Hp) (ρ' : List Addr) (H' : Hp), Same F F' → Pre ρ ρ' → Rel K Θ F' ρ' h' H' → RD K F' ρ' d v → R d h' → Q v H') → r vx vs H Q
structure En where
  nx : Env' → Hs → Prop
  rt : D → Hs → Prop
  bk : Env' → Hs → Prop := fun _ _ => False
  ct : Env' → Hs → Prop := fun _ _ => False
/-- what the reading's ends owe to the data's -/
structure EnOk (K : PySem.W.Frag) (Θ : Ctx) (F : Hp) (ρ : List Addr) (E : En) (D' : Ends) : Prop where
  nx : ∀ (env : Env') (h : Hs) (F' : Hp) (ρ' : List Addr) (σ : L2.St) (H : Hp), Same F F' → Pre ρ ρ' → Rel K Θ F' ρ' h H → REnv K F' ρ' env σ → E.nx env h → D'.nx σ H
  rt : ∀ (d : D) (h : Hs) (v : V) (F' : Hp) (ρ' : List Addr) (H : Hp), Same F F' → Pre ρ ρ' → Rel K Θ F' ρ' h H → RD K F' ρ' d v → E.rt d h → D'.rt v H
  bk : ∀ (env : Env') (h : Hs) (F' : Hp) (ρ' : List Addr) (σ : L2.St) (H : Hp), Same F F' → Pre ρ ρ' → Rel K Θ F' ρ' h H → REnv K F' ρ' env σ → E.bk env h → D'.bk σ H
  ct : ∀ (env : Env') (h : Hs) (F' : Hp) (ρ' : List Addr) (σ : L2.St) (H : Hp), Same F F' → Pre ρ ρ' → Rel K Θ F' ρ' h H → REnv K F' ρ' env σ → E.ct env h → D'.ct σ H
theorem EnOk.mono {F F' : Hp} {ρ ρ' : List Addr} {E : En} {D' : Ends} (e : Same F F') (p : Pre ρ ρ') (k : EnOk K Θ F ρ E D') : EnOk K Θ F' ρ' E D' :=
  ⟨fun env h F2 ρ2 σ H a b => k.nx env h F2 ρ2 σ H (e.trans a) (p.trans b), fun d h v F2 ρ2 H a b => k.rt d h v F2 ρ2 H (e.trans a) (p.trans b),
   fun env h F2 ρ2 σ H a b => k.bk env h F2 ρ2 σ H (e.trans a) (p.trans b), fun env h F2 ρ2 σ H a b => k.ct env h F2 ρ2 σ H (e.trans a) (p.trans b)⟩
def VS (K : PySem.W.Frag) (Θ : Ctx) (t : TS) (E : En) (env : Env') (h : Hs) : Prop :=
  ∀ (F : Hp) (ρ : List Addr) (σ : L2.St) (H : Hp) (D' : Ends), Rel K Θ F ρ h H → REnv K F ρ env σ → EnOk K Θ F ρ E D' → t D' σ H
/-- a target -/
def VG (K : PySem.W.Frag) (Θ : Ctx) (g : TG) (d : D) (env : Env') (h : Hs) (N : Env' → Hs → Prop) : Prop :=
  ∀ (F : Hp) (ρ : List Addr) (σ : L2.St) (H : Hp) (v : V) (Q : L2.St → Hp → Prop), Rel K Θ F ρ h H → REnv K F ρ env σ → RD K F ρ d v →
    (∀ (env' : Env') (h' : Hs) (F' : Hp) (ρ' : List Addr) (σ' : L2.St) (H' : Hp), Same F F' → Pre ρ ρ' → Rel K Θ F' ρ' h' H' → REnv K F' ρ' env' σ' → N env' h' → Q σ' H') → g v σ H Q
def VGs (K : PySem.W.Frag) (Θ : Ctx) (g : TGs) (ds : List D) (env : Env') (h : Hs) (N : Env' → Hs → Prop) : Prop :=
  ∀ (F : Hp) (ρ : List Addr) (σ : L2.St) (H : Hp) (vs : List V) (Q : L2.St → Hp → Prop), Rel K Θ F ρ h H → REnv K F ρ env σ → RA K F ρ ds vs →
    (∀ (env' : Env') (h' : Hs) (F' : Hp) (ρ' : List Addr) (σ' : L2.St) (H' : Hp), Same F F' → Pre ρ ρ' → Rel K Θ F' ρ' h' H' → REnv K F' ρ' env' σ' → N env' h' → Q σ' H') → g vs σ H Q
/-- a promise in data: W args heap what-follows -/
abbrev Spc := List D → Hs → (D → Hs → Prop) → Prop
def spD (K : PySem.W.Frag) (T : Tbs) (W : Spc) : Sp := fun vs H Q _ => ∃ (ds : List D) (h : Hs) (F : Hp) (ρ : List Addr) (R : D → Hs → Prop), Base K T F ρ h H ∧ RA K F ρ ds vs ∧ W ds h R ∧
  ∀ (d : D) (h' : Hs) (v : V) (F' : Hp) (ρ' : List Addr) (H' : Hp), Same F F' → Pre ρ ρ' → Base K T F' ρ' h' H' → RD K F' ρ' d v → R d h' → Q v H'
/-! ### heaps -/
theorem Base.free {F : Hp} {ρ : List Addr} {h : Hs} {H : Hp} (r : Base K T F ρ h H) {p : Addr} (e : H p = none) : F p = none := r.same.free e
theorem same_updB {F H : Hp} {p : Addr} {o : HO} (s : Same F H) : Same (upd F p o) (upd H p o) := fun b u e => by
  by_cases hb : b = p
  · subst hb; rw [upd_same] at e ⊢; exact e
  · rw [upd_ne hb] at e ⊢; exact s b u e
theorem same_new {F : Hp} {p : Addr} {o : HO} (h : F p = none) : Same F (upd F p o) := fun b u e => by
  rw [upd_ne (ne_of_none e h)]; exact e
theorem tab_ne {H : Hp} {P p : Addr} (t : GxR.TabG H P) (e : H p = none) : P ≠ p := by
  obtain ⟨ps, h1, _⟩ := t
  exact ne_of_none h1 e
theorem tab_upd {H : Hp} {P p : Addr} {o : HO} (t : GxR.TabG H P) (n : P ≠ p) : GxR.TabG (upd H p o) P := by
  obtain ⟨ps, h1, h2⟩ := t
  exact ⟨ps, by rw [upd_ne n]; exact h1, h2⟩
theorem RO.notTab {a : Addr} {F : Hp} {ρ : List Addr} {o : OO} {ps : Array Value} (r : RO K a F ρ o (.tbl ps)) : False := by
  cases o with
  | lst xs => obtain ⟨vs, e, _⟩ := r; cases e
  | ins C fs => obtain ⟨dx, gs, e, _⟩ := r; cases e
  | dK kvs => obtain ⟨gs, e, _⟩ := r; cases e
  | dT kvs => obtain ⟨gs, e, _⟩ := r; cases e
  | dN pw kvs => obtain ⟨gs, e, _⟩ := r; cases e
  | dL pw od gs kvs => obtain ⟨e, _⟩ := r; cases e
theorem tab_own {H F : Hp} {ρ : List Addr} {P a : Addr} {o : OO} {u : HO} (t : GxR.TabG H P) (e : H a = some u) (r : RO K a F ρ o u) : P ≠ a := by
  obtain ⟨ps, h1, _⟩ := t
  rintro rfl
  rw [h1] at e
  cases e
  exact r.notTab
theorem lam_upd {H : Hp} {P p : Addr} {q : Str} {o : HO} (t : LamX.TabS H P q) (e : H p = none) : LamX.TabS (upd H p o) P q := t.ext fun b u eb => by rw [upd_ne (ne_of_none eb e)]; exact eb
theorem lam_ne {H : Hp} {P p : Addr} {q : Str} (t : LamX.TabS H P q) (e : H p = none) : P ≠ p := by
  obtain ⟨ps, h1, _⟩ := t
  exact ne_of_none h1 e
theorem lam_neO {H : Hp} {P p : Addr} {q : Str} {o : HO} (t : LamX.TabS H P q) (e : H p = some o) (n : ∀ ps, o ≠ .tbl ps) : P ≠ p := by
  obtain ⟨ps, h1, _⟩ := t
  rintro rfl
  rw [h1] at e
  exact n ps (Option.some.inj e).symm
/-- no dict is a code object -/
theorem NdPhi.notCode {pw : Program × World} {a : Addr} {gs : List ((NestedKey × Addr) × V)} {c : Addr} {q : Str} (e : HO.ext (NdPhi pw a gs) = LamX.CodeO c q) : False := by
  unfold LamX.CodeO at e
  injection e with e
  let ob : Obj := { cls := .none, data := .fields #[.none, .str q 0] }
  let hp : Heap := { objs := (List.replicate (max a c + 1) ob).toArray }
  have g : ∀ b, b ≤ max a c → hp.get? b = some ob := fun b hb => by
    have : hp.objs[b]? = some ob := by
      show (List.replicate (max a c + 1) ob).toArray[b]? = some ob
      rw [List.getElem?_toArray, List.getElem?_replicate, if_pos (Nat.lt_succ_of_le hb)]
    unfold Heap.get?
    rw [this]
  have h1 : (fun h : Heap => ∃ (oc : Obj) (vs : Array Value) (t : Tok), h.get? c = some oc ∧ oc.data = .fields vs ∧ vs[1]? = some (.str q t)) hp := ⟨ob, #[.none, .str q 0], 0, g c (Nat.le_max_right ..), rfl, rfl⟩
  rw [← e] at h1
  obtain ⟨_, _, xs, _, o, es, ep, h2, _, h3, _⟩ := h1
  rw [g a (Nat.le_max_left ..)] at h2
  cases h2
  cases h3
theorem RO.notCode {a : Addr} {F : Hp} {ρ : List Addr} {o : OO} {c : Addr} {q : Str} (r : RO K a F ρ o (LamX.CodeO c q)) : False := by
  cases o with
  | lst xs => obtain ⟨vs, e, _⟩ := r; unfold LamX.CodeO at e; cases e
  | ins C fs => obtain ⟨dx, gs, e, _⟩ := r; unfold LamX.CodeO at e; cases e
  | dK kvs => obtain ⟨gs, e, _⟩ := r; unfold LamX.CodeO at e; cases e
  | dT kvs => obtain ⟨gs, e, _⟩ := r; unfold LamX.CodeO at e; cases e
  | dN pw kvs => obtain ⟨gs, e, _⟩ := r; exact NdPhi.notCode e.symm
  | dL pw od gs kvs => obtain ⟨e, _⟩ := r; unfold LamX.CodeO at e; cases e
theorem lam_own {H F : Hp} {ρ : List Addr} {P a : Addr} {q : Str} {o : OO} {u : HO} (t : LamX.TabS H P q) (e : H a = some u) (r : RO K a F ρ o u) (w : HO) : P ≠ a ∧ LamX.TabS (upd H a w) P q := by
  obtain ⟨ps, h1, h2, h3⟩ := t
  have n : P ≠ a := by
    rintro rfl
    rw [h1] at e
    cases e
    exact r.notTab
  refine ⟨n, ps, by rw [upd_ne n]; exact h1, h2, fun pos cv hc => ?_⟩
  obtain ⟨c, e1, e2⟩ := h3 pos cv hc
  refine ⟨c, e1, ?_⟩
  have n2 : c ≠ a := by
    rintro rfl
    rw [e2] at e
    cases e
    exact r.notCode
  rw [upd_ne n2]
  exact e2
/-- a new frozen thing -/
theorem Base.frz {F : Hp} {ρ : List Addr} {h : Hs} {H : Hp} (r : Base K T F ρ h H) {p : Addr} {o : HO} (e : H p = none) : Base K T (upd F p o) ρ h (upd H p o) := by
  have hF := r.free e
  refine ⟨same_updB r.same, r.len, fun i u hi => ?_, r.inj, fun P hP => ⟨by rw [upd_ne (tab_ne (r.tab P hP).2 e)]; exact (r.tab P hP).1, tab_upd (r.tab P hP).2 (tab_ne (r.tab P hP).2 e)⟩, fun q hq => ⟨by rw [upd_ne (lam_ne (r.lam q hq).2 e)]; exact (r.lam q hq).1, lam_upd (r.lam q hq).2 e⟩⟩
  obtain ⟨a, w, h1, h2, h3, h4⟩ := r.own i u hi
  have ha : a ≠ p := ne_of_none h3 e
  exact ⟨a, w, h1, by rw [upd_ne ha]; exact h2, by rw [upd_ne ha]; exact h3, h4.mono (same_new hF) (Pre.refl _)⟩
/-- a new owned thing -/
theorem Base.push {F : Hp} {ρ : List Addr} {h : Hs} {H : Hp} (r : Base K T F ρ h H) {p : Addr} {o : OO} {u : HO} (e : H p = none) (ro : RO K p F ρ o u) : Base K T F (ρ ++ [p]) (h ++ [some o]) (upd H p u) := by
  have hF := r.free e
  have old : ∀ (i : Nat) (o : OO), h[i]? = some (some o) → ∀ a, ρ[i]? = some a → a ≠ p := fun i o hi a ha => by
    obtain ⟨a', w, h1, h2, h3, h4⟩ := r.own i o hi
    rw [h1] at ha; cases ha
    exact ne_of_none h3 e
  have cs : ∀ (i : Nat) (o' : OO), (h ++ [some o])[i]? = some (some o') → (i < h.length ∧ h[i]? = some (some o')) ∨ (i = h.length ∧ o' = o) := fun i o' hi => by
    by_cases hl : i < h.length
    · rw [List.getElem?_append_left hl] at hi; exact .inl ⟨hl, hi⟩
    · by_cases he : i = h.length
      · subst he
        rw [List.getElem?_append_right (Nat.le_refl _), Nat.sub_self] at hi
        simp at hi
        exact .inr ⟨rfl, hi.symm⟩
      · have : (h ++ [some o]).length ≤ i := by rw [List.length_append]; simp only [List.length_cons, List.length_nil]; omega
        rw [List.getElem?_eq_none_iff.mpr this] at hi; cases hi
  have pl : ∀ (i : Nat), i < h.length → (ρ ++ [p])[i]? = ρ[i]? := fun i hi => List.getElem?_append_left (by rw [r.len]; exact hi)
  have pr : (ρ ++ [p])[h.length]? = some p := by rw [List.getElem?_append_right (by rw [r.len]; exact Nat.le_refl _), r.len, Nat.sub_self]; rfl
  refine ⟨fun b o e' => ?_, by rw [List.length_append, List.length_append, r.len]; rfl, fun i o' hi => ?_, fun i j o1 o2 a hi hj ha hb => ?_, fun P hP => ⟨(r.tab P hP).1, tab_upd (r.tab P hP).2 (tab_ne (r.tab P hP).2 e)⟩, fun q hq => ⟨(r.lam q hq).1, lam_upd (r.lam q hq).2 e⟩⟩
  · rw [upd_ne (ne_of_none (r.same b o e') e)]; exact r.same b o e'
  · rcases cs i o' hi with ⟨hl, hi⟩ | ⟨rfl, rfl⟩
    · obtain ⟨a, w, h1, h2, h3, h4⟩ := r.own i o' hi
      exact ⟨a, w, by rw [pl i hl]; exact h1, h2, by rw [upd_ne (ne_of_none h3 e)]; exact h3, h4.mono (Same.refl _) (Pre.push _ _)⟩
    · exact ⟨p, u, pr, hF, upd_same, ro.mono (Same.refl _) (Pre.push _ _)⟩
  · rcases cs i o1 hi with ⟨hl, hi1⟩ | ⟨hl, _⟩ <;> rcases cs j o2 hj with ⟨hl2, hj1⟩ | ⟨hl2, _⟩
    · rw [pl i hl] at ha
      rw [pl j hl2] at hb
      exact r.inj i j o1 o2 a hi1 hj1 ha hb
    · rw [pl i hl] at ha
      rw [hl2, pr] at hb
      cases hb
      exact absurd rfl (old i o1 hi1 p ha)
    · rw [pl j hl2] at hb
      rw [hl, pr] at ha
      cases ha
      exact absurd rfl (old j o2 hj1 p hb)
    · rw [hl, hl2]
/-- an owned thing changes -/
theorem Base.put {F : Hp} {ρ : List Addr} {h : Hs} {H : Hp} (r : Base K T F ρ h H) {i : Nat} {a : Addr} {o o' : OO} {u : HO} (hi : h[i]? = some (some o)) (ha : ρ[i]? = some a) (ro : RO K a F ρ o' u) : Base K T F ρ (h.set i (some o')) (upd H a u) := by
  obtain ⟨a1, w, h1, h2, h3, h4⟩ := r.own i o hi
  have ea : a1 = a := Option.some.inj (h1.symm.trans ha)
  rw [ea] at h1 h2 h3 h4
  have hil : i < h.length := (List.getElem?_eq_some_iff.mp hi).1
  have cs : ∀ (j : Nat) (o2 : OO), (h.set i (some o'))[j]? = some (some o2) → (j = i ∧ o2 = o') ∨ (j ≠ i ∧ h[j]? = some (some o2)) := fun j o2 hj => by
    by_cases e : j = i
    · subst e; rw [List.getElem?_set_self hil] at hj; simp at hj; exact .inl ⟨rfl, hj.symm⟩
    · rw [List.getElem?_set_ne (Ne.symm e)] at hj; exact .inr ⟨e, hj⟩
  have old : ∀ (j : Nat) (o2 : OO), (h.set i (some o'))[j]? = some (some o2) → ∃ o3, h[j]? = some (some o3) := fun j o2 hj => by
    rcases cs j o2 hj with ⟨e, _⟩ | ⟨_, e⟩
    · rw [e]; exact ⟨o, hi⟩
    · exact ⟨o2, e⟩
  refine ⟨fun b o2 e => ?_, by rw [List.length_set]; exact r.len, fun j o2 hj => ?_, fun j k o1 o2 b hj hk hb hc => ?_, fun P hP => ⟨(r.tab P hP).1, tab_upd (r.tab P hP).2 (tab_own (r.tab P hP).2 h3 h4)⟩, fun q hq => ⟨(r.lam q hq).1, (lam_own (r.lam q hq).2 h3 h4 u).2⟩⟩
  · rw [upd_ne (ne_of_none e h2)]; exact r.same b o2 e
  · rcases cs j o2 hj with ⟨e1, e2⟩ | ⟨hne, hj1⟩
    · rw [e1, e2]; exact ⟨a, u, h1, h2, upd_same, ro⟩
    · obtain ⟨b, w2, g1, g2, g3, g4⟩ := r.own j o2 hj1
      have hb : b ≠ a := fun e => hne (r.inj j i o2 o b hj1 hi g1 (e ▸ h1))
      exact ⟨b, w2, g1, g2, by rw [upd_ne hb]; exact g3, g4⟩
  · obtain ⟨o3, g1⟩ := old j o1 hj
    obtain ⟨o4, g2⟩ := old k o2 hk
    exact r.inj j k o3 o4 b g1 g2 hb hc
/-- an owned thing is frozen from now on -/
theorem Base.freeze {F : Hp} {ρ : List Addr} {h : Hs} {H : Hp} (r : Base K T F ρ h H) {i : Nat} {o : OO} (hi : h[i]? = some (some o)) :
    ∃ a u, ρ[i]? = some a ∧ F a = none ∧ H a = some u ∧ RO K a (upd F a u) ρ o u ∧ Base K T (upd F a u) ρ (h.set i none) H := by
  obtain ⟨a, u, h1, h2, h3, h4⟩ := r.own i o hi
  have hil : i < h.length := (List.getElem?_eq_some_iff.mp hi).1
  refine ⟨a, u, h1, h2, h3, h4.mono (same_new h2) (Pre.refl _), ⟨fun b o2 e => ?_, by rw [List.length_set]; exact r.len, fun j o2 hj => ?_, fun j k o1 o2 b hj hk hb hc => ?_, fun P hP => ⟨by rw [upd_ne (tab_own (r.tab P hP).2 h3 h4)]; exact (r.tab P hP).1, (r.tab P hP).2⟩, fun q hq => ⟨by rw [upd_ne (lam_own (r.lam q hq).2 h3 h4 u).1]; exact (r.lam q hq).1, (r.lam q hq).2⟩⟩⟩
  · by_cases hb : b = a
    · subst hb; rw [upd_same] at e; rw [h3]; exact e
    · rw [upd_ne hb] at e; exact r.same b o2 e
  · by_cases e : j = i
    · subst e; rw [List.getElem?_set_self hil] at hj; simp at hj
    · rw [List.getElem?_set_ne (Ne.symm e)] at hj
      obtain ⟨b, w2, g1, g2, g3, g4⟩ := r.own j o2 hj
      have hb : b ≠ a := fun z => e (r.inj j i o2 o b hj hi g1 (z ▸ h1))
      exact ⟨b, w2, g1, by rw [upd_ne hb]; exact g2, g3, g4.mono (same_new h2) (Pre.refl _)⟩
  · have sub : ∀ (j : Nat) (o2 : OO), (h.set i none)[j]? = some (some o2) → h[j]? = some (some o2) := fun j o2 hj => by
      by_cases e : j = i
      · subst e; rw [List.getElem?_set_self hil] at hj; simp at hj
      · rw [List.getElem?_set_ne (Ne.symm e)] at hj; exact hj
    exact r.inj _ _ _ _ b (sub _ _ hj) (sub _ _ hk) hb hc
theorem Rel.free {F : Hp} {ρ : List Addr} {h : Hs} {H : Hp} (r : Rel K Θ F ρ h H) {p : Addr} (e : H p = none) : F p = none := r.same.free e
theorem Rel.frz {F : Hp} {ρ : List Addr} {h : Hs} {H : Hp} (r : Rel K Θ F ρ h H) {p : Addr} {o : HO} (e : H p = none) : Rel K Θ (upd F p o) ρ h (upd H p o) := ⟨r.toBase.frz e, r.wish.mono (same_new (r.free e)) (Pre.refl _)⟩
theorem Rel.push {F : Hp} {ρ : List Addr} {h : Hs} {H : Hp} (r : Rel K Θ F ρ h H) {p : Addr} {o : OO} {u : HO} (e : H p = none) (ro : RO K p F ρ o u) : Rel K Θ F (ρ ++ [p]) (h ++ [some o]) (upd H p u) := ⟨r.toBase.push e ro, r.wish.mono (Same.refl _) (Pre.push _ _)⟩
theorem Rel.put {F : Hp} {ρ : List Addr} {h : Hs} {H : Hp} (r : Rel K Θ F ρ h H) {i : Nat} {a : Addr} {o o' : OO} {u : HO} (hi : h[i]? = some (some o)) (ha : ρ[i]? = some a) (ro : RO K a F ρ o' u) : Rel K Θ F ρ (h.set i (some o')) (upd H a u) := ⟨r.toBase.put hi ha ro, r.wish⟩
theorem Rel.freeze {F : Hp} {ρ : List Addr} {h : Hs} {H : Hp} (r : Rel K Θ F ρ h H) {i : Nat} {o : OO} (hi : h[i]? = some (some o)) :
    ∃ a u, ρ[i]? = some a ∧ F a = none ∧ H a = some u ∧ RO K a (upd F a u) ρ o u ∧ Rel K Θ (upd F a u) ρ (h.set i none) H := by
  obtain ⟨a, u, h1, h2, h3, h4, h5⟩ := r.toBase.freeze hi
  exact ⟨a, u, h1, h2, h3, h4, h5, r.wish.mono (same_new h2) (Pre.refl _)⟩
end
end Kb

/-! The rules of the logic: expressions, statements. -/
namespace Kb
open PySem PySem.Spec PyProof.Rows L2
/-- a constant as data -/
inductive CD : P → V → Prop
  | non : CD .non .non
  | bl (b : Bool) : CD (.bl b) (.bl b)
  | int (i : Int) : CD (.int i) (.int i)
  | str (s : Str) : CD (.str s) (.str s)
  | ty (n : String) : CD (.ty n) (.ty n)
  | cls (C : Addr) : CD (.cls C) (.ref C)
section
variable {K : PySem.W.Frag} {Θ : Ctx} {env : Env'} {h : Hs} {ta tb te tc : TE} {R : D → Hs → Prop} {x y d : D}
theorem CD.rd {F : Hp} {ρ : List Addr} {d : P} {v : V} (c : CD d v) : RD K F ρ (.p d) v := by
  cases c
  · exact .p .non
  · exact .p (.bl _)
  · exact .p (.int _)
  · exact .p (.str _)
  · exact .p (.ty _)
  · exact .p (.cls _)
theorem RD.bl {F : Hp} {ρ : List Addr} {b : Bool} {v : V} (h : RD K F ρ (dB b) v) : v = .bl b := by
  cases h with
  | p h => cases h; rfl
theorem RD.int {F : Hp} {ρ : List Addr} {b : Int} {v : V} (h : RD K F ρ (dI b) v) : v = .int b := by
  cases h with
  | p h => cases h; rfl
theorem RD.str {F : Hp} {ρ : List Addr} {b : Str} {v : V} (h : RD K F ρ (dS b) v) : v = .str b := by
  cases h with
  | p h => cases h; rfl
theorem RD.non {F : Hp} {ρ : List Addr} {v : V} (h : RD K F ρ dN v) : v = .non := by
  cases h with
  | p h => cases h; rfl
theorem ve_var {i : Nat} (hd : env[i]? = some (some d)) (q : R d h) : VE K Θ (tVar i) env h R := fun F ρ σ H Q r e k => by
  obtain ⟨v, h1, h2⟩ := e.get i d hd
  exact ⟨v, h1, k d h v F ρ H (Same.refl _) (Pre.refl _) r h2 q⟩
theorem ve_c {v : V} {d : P} (c : CD d v) (q : R (.p d) h) : VE K Θ (tC v) env h R := fun F ρ σ H Q r e k => k (.p d) h v F ρ H (Same.refl _) (Pre.refl _) r c.rd q
theorem ve_int {i : Int} (q : R (dI i) h) : VE K Θ (tC (.int i)) env h R := ve_c (.int i) q
theorem ve_bl {b : Bool} (q : R (dB b) h) : VE K Θ (tC (.bl b)) env h R := ve_c (.bl b) q
theorem ve_str {s : Str} (q : R (dS s) h) : VE K Θ (tC (.str s)) env h R := ve_c (.str s) q
theorem ve_non (q : R dN h) : VE K Θ (tC .non) env h R := ve_c .non q
theorem ve_ty {n : String} (q : R (.p (.ty n)) h) : VE K Θ (tC (.ty n)) env h R := ve_c (.ty n) q
theorem ve_cls {C : Addr} (q : R (.p (.cls C)) h) : VE K Θ (tC (.ref C)) env h R := ve_c (.cls C) q
theorem ve_op {r : R2} (q : VE K Θ ta env h fun x h1 => VE K Θ tb env h1 fun y h2 => V2 K Θ r x y h2 R) : VE K Θ (tOp r ta tb) env h R := fun F ρ σ H Q rl e k =>
  q F ρ σ H _ rl e fun x h1 vx F1 ρ1 H1 s1 p1 r1 dx q1 => q1 F1 ρ1 σ H1 _ r1 (e.mono s1 p1) fun y h2 vy F2 ρ2 H2 s2 p2 r2 dy q2 =>
    q2 F2 ρ2 H2 vx vy Q r2 (dx.mono s2 p2) dy fun d h' v F' ρ' H' s3 p3 r3 dv q3 => k d h' v F' ρ' H' (s1.trans (s2.trans s3)) (p1.trans (p2.trans p3)) r3 dv q3
theorem ve_un {r : V → Hp → VK → Prop} (q : VE K Θ ta env h fun x h1 => V1 K Θ r x h1 R) : VE K Θ (tUn r ta) env h R := fun F ρ σ H Q rl e k =>
  q F ρ σ H _ rl e fun x h1 vx F1 ρ1 H1 s1 p1 r1 dx q1 => q1 F1 ρ1 H1 vx Q r1 dx fun d h' v F' ρ' H' s3 p3 r3 dv q3 => k d h' v F' ρ' H' (s1.trans s3) (p1.trans p3) r3 dv q3
theorem va_nil {R : List D → Hs → Prop} (q : R [] h) : VA K Θ tNil env h R := fun F ρ σ H Q r e k => k [] h [] F ρ H (Same.refl _) (Pre.refl _) r .nil q
theorem va_cons {tr : TA} {R : List D → Hs → Prop} (q : VE K Θ ta env h fun x h1 => VA K Θ tr env h1 fun xs h2 => R (x :: xs) h2) : VA K Θ (tCons ta tr) env h R := fun F ρ σ H Q rl e k =>
  q F ρ σ H _ rl e fun x h1 vx F1 ρ1 H1 s1 p1 r1 dx q1 => q1 F1 ρ1 σ H1 _ r1 (e.mono s1 p1) fun xs h2 vs F2 ρ2 H2 s2 p2 r2 dxs q2 =>
    k (x :: xs) h2 (vx :: vs) F2 ρ2 H2 (s1.trans s2) (p1.trans p2) r2 (.cons (dx.mono s2 p2) dxs) q2
theorem sz_le {n : Nat} (h : n ≤ 100000) : n ≤ sizeLine := Nat.le_trans h (by decide)
theorem ve_tup {t : TA} (q : VA K Θ t env h fun xs h1 => ∃ ps, xs = ps.map D.p ∧ xs.length ≤ sizeLine ∧ R (dT ps) h1) : VE K Θ (tTup t) env h R := fun F ρ σ H Q rl e k =>
  q F ρ σ H _ rl e fun xs h1 vs F1 ρ1 H1 s1 p1 r1 dxs q1 => by
    obtain ⟨ps, rfl, hl, q1⟩ := q1
    refine ⟨by rw [← dxs.len]; exact hl, fun p hp => ?_⟩
    exact k (dT ps) h1 (.ref p) (upd F1 p (.tup vs)) ρ1 _ (s1.trans (same_new (r1.free hp))) p1 (r1.frz hp) (.p (.tup (.of upd_same) (dxs.pure.mono (same_new (r1.free hp))))) q1
/-- a list display whose list stays as it is -/
theorem ve_lst {t : TA} (q : VA K Θ t env h fun xs h1 => ∃ ps, xs = ps.map D.p ∧ xs.length ≤ sizeLine ∧ R (dL ps) h1) : VE K Θ (tLst t) env h R := fun F ρ σ H Q rl e k =>
  q F ρ σ H _ rl e fun xs h1 vs F1 ρ1 H1 s1 p1 r1 dxs q1 => by
    obtain ⟨ps, rfl, hl, q1⟩ := q1
    refine ⟨by rw [← dxs.len]; exact hl, fun p hp => ?_⟩
    exact k (dL ps) h1 (.ref p) (upd F1 p (.lst vs)) ρ1 _ (s1.trans (same_new (r1.free hp))) p1 (r1.frz hp) (.p (.lst (.of upd_same) (dxs.pure.mono (same_new (r1.free hp))))) q1
/-- a list display that is owned -/
theorem ve_lstO {t : TA} (q : VA K Θ t env h fun xs h1 => xs.length ≤ sizeLine ∧ R (.own h1.length) (h1 ++ [some (.lst xs)])) : VE K Θ (tLst t) env h R := fun F ρ σ H Q rl e k =>
  q F ρ σ H _ rl e fun xs h1 vs F1 ρ1 H1 s1 p1 r1 dxs q1 => ⟨by rw [← dxs.len]; exact q1.1, fun p hp =>
    k (.own h1.length) (h1 ++ [some (.lst xs)]) (.ref p) F1 (ρ1 ++ [p]) _ s1 (p1.trans (Pre.push _ _)) (r1.push (o := .lst xs) hp ⟨vs, rfl, dxs⟩) (.own (by rw [← r1.len]; simp)) q1.2⟩
theorem ve_cb {r : List V → Hp → VK → Prop} {t : TA} (q : VA K Θ t env h fun xs h1 => VC K Θ r xs h1 R) : VE K Θ (tCB r t) env h R := fun F ρ σ H Q rl e k =>
  q F ρ σ H _ rl e fun xs h1 vs F1 ρ1 H1 s1 p1 r1 dxs q1 => q1 F1 ρ1 H1 vs Q r1 dxs fun d h' v F' ρ' H' s3 p3 r3 dv q3 => k d h' v F' ρ' H' (s1.trans s3) (p1.trans p3) r3 dv q3
theorem ve_call {W : Spc} {E : XK} {t : TA} (q : VA K Θ t env h fun xs h1 => W xs h1 R) : VE K Θ (tCall (spD K Θ.tabs W) [] E t) env h R := fun F ρ σ H Q rl e k =>
  q F ρ σ H _ rl e fun xs h1 vs F1 ρ1 H1 s1 p1 r1 dxs q1 => ⟨xs, h1, F1, ρ1, R, r1.toBase, by rw [List.append_nil]; exact dxs, q1, fun d h' v F' ρ' H' s3 p3 r3 dv q3 => k d h' v F' ρ' H' (s1.trans s3) (p1.trans p3) ⟨r3, r1.wish.mono s3 p3⟩ dv q3⟩
/-- of what built-in type -/
def TyD (T : String) (d : D) (h : Hs) : Prop := match d with
  | .p (.str _) => T = "str"
  | .p (.int _) => T = "int"
  | .p (.lst _) => T = "list"
  | .own i => T = "list" ∧ ∃ xs, h[i]? = some (some (.lst xs))
  | _ => False
theorem TyD.v {T : String} {F : Hp} {ρ : List Addr} {h : Hs} {H : Hp} {d : D} {v : V} (r : Rel K Θ F ρ h H) (q : RD K F ρ d v) (t : TyD T d h) : tyV K T v H := by
  cases q with
  | p q =>
    cases q with
    | str s => exact t
    | int i => exact t
    | lst a b => exact .inl ⟨t, _, r.same.seq a⟩
    | _ => exact t.elim
  | own e =>
    obtain ⟨h1, xs, hx⟩ := t
    obtain ⟨a, u, e1, e2, e3, vs, e4, _⟩ := r.own _ _ hx
    rw [e] at e1; cases e1
    subst e4
    exact .inl ⟨h1, vs, .of e3⟩
theorem ve_bm {T : String} {r : V → List V → Hp → VK → Prop} {to : TE} {t : TA}
    (q : VE K Θ to env h fun x h1 => TyD T x h1 ∧ VA K Θ t env h1 fun xs h2 => VM K Θ r x xs h2 R) : VE K Θ (tBM K T r to t) env h R := fun F ρ σ H Q rl e k =>
  q F ρ σ H _ rl e fun x h1 vx F1 ρ1 H1 s1 p1 r1 dx q1 => ⟨q1.1.v r1 dx, q1.2 F1 ρ1 σ H1 _ r1 (e.mono s1 p1) fun xs h2 vs F2 ρ2 H2 s2 p2 r2 dxs q2 =>
    q2 F2 ρ2 H2 vx vs Q r2 (dx.mono s2 p2) dxs fun d h' v F' ρ' H' s3 p3 r3 dv q3 => k d h' v F' ρ' H' (s1.trans (s2.trans s3)) (p1.trans (p2.trans p3)) r3 dv q3⟩
theorem ve_if {tt : TT} (q : VT K Θ tt env h fun b h1 => if b = true then VE K Θ ta env h1 R else VE K Θ tb env h1 R) : VE K Θ (tIf tt ta tb) env h R := fun F ρ σ H Q rl e k =>
  q F ρ σ H _ rl e fun b h1 F1 ρ1 H1 s1 p1 r1 q1 => by
    cases b with
    | true => exact q1 F1 ρ1 σ H1 Q r1 (e.mono s1 p1) fun d h' v F' ρ' H' s3 p3 r3 dv q3 => k d h' v F' ρ' H' (s1.trans s3) (p1.trans p3) r3 dv q3
    | false => exact q1 F1 ρ1 σ H1 Q r1 (e.mono s1 p1) fun d h' v F' ρ' H' s3 p3 r3 dv q3 => k d h' v F' ρ' H' (s1.trans s3) (p1.trans p3) r3 dv q3
theorem ve_and (q : VE K Θ ta env h fun x h1 => ∃ c, x = dB c ∧ if c = true then VE K Θ tb env h1 R else R (dB false) h1) : VE K Θ (tAndV ta tb) env h R := fun F ρ σ H Q rl e k =>
  q F ρ σ H _ rl e fun x h1 vx F1 ρ1 H1 s1 p1 r1 dx q1 => by
    obtain ⟨c, rfl, q1⟩ := q1
    obtain rfl := dx.bl
    refine ⟨c, rfl, ?_⟩
    cases c with
    | true => exact q1 F1 ρ1 σ H1 Q r1 (e.mono s1 p1) fun d h' v F' ρ' H' s3 p3 r3 dv q3 => k d h' v F' ρ' H' (s1.trans s3) (p1.trans p3) r3 dv q3
    | false => exact k (dB false) h1 (.bl false) F1 ρ1 H1 s1 p1 r1 (.p (.bl false)) q1
theorem ve_or (q : VE K Θ ta env h fun x h1 => ∃ c, x = dB c ∧ if c = true then R (dB true) h1 else VE K Θ tb env h1 R) : VE K Θ (tOrV ta tb) env h R := fun F ρ σ H Q rl e k =>
  q F ρ σ H _ rl e fun x h1 vx F1 ρ1 H1 s1 p1 r1 dx q1 => by
    obtain ⟨c, rfl, q1⟩ := q1
    obtain rfl := dx.bl
    refine ⟨c, rfl, ?_⟩
    cases c with
    | true => exact k (dB true) h1 (.bl true) F1 ρ1 H1 s1 p1 r1 (.p (.bl true)) q1
    | false => exact q1 F1 ρ1 σ H1 Q r1 (e.mono s1 p1) fun d h' v F' ρ' H' s3 p3 r3 dv q3 => k d h' v F' ρ' H' (s1.trans s3) (p1.trans p3) r3 dv q3
theorem ve_not (q : VE K Θ ta env h fun x h1 => ∃ c, x = dB c ∧ R (dB (!c)) h1) : VE K Θ (tNotV ta) env h R := fun F ρ σ H Q rl e k =>
  q F ρ σ H _ rl e fun x h1 vx F1 ρ1 H1 s1 p1 r1 dx q1 => by
    obtain ⟨c, rfl, q1⟩ := q1
    obtain rfl := dx.bl
    exact ⟨c, rfl, k _ h1 _ F1 ρ1 H1 s1 p1 r1 (.p (.bl _)) q1⟩
theorem ve_chain {r r' : R2} (q : VE K Θ ta env h fun x h1 => VE K Θ tb env h1 fun y h2 => V2 K Θ r x y h2 fun z h3 => ∃ c, z = dB c ∧ if c = true then VE K Θ tc env h3 fun w h4 => V2 K Θ r' y w h4 R else R (dB false) h3) : VE K Θ (tChain r r' ta tb tc) env h R := by
  intro F ρ σ H Q rl e k
  refine q F ρ σ H _ rl e fun x h1 vx F1 ρ1 H1 s1 p1 r1 dx q1 => ?_
  refine q1 F1 ρ1 σ H1 _ r1 (e.mono s1 p1) fun y h2 vy F2 ρ2 H2 s2 p2 r2 dy q2 => ?_
  refine q2 F2 ρ2 H2 vx vy _ r2 (dx.mono s2 p2) dy fun z h3 vz F3 ρ3 H3 s3 p3 r3 dz q3 => ?_
  obtain ⟨c, rfl, q3⟩ := q3
  obtain rfl := dz.bl
  refine ⟨c, rfl, ?_⟩
  have s13 := s1.trans (s2.trans s3)
  have p13 := p1.trans (p2.trans p3)
  cases c with
  | true =>
    refine q3 F3 ρ3 σ H3 _ r3 (e.mono s13 p13) fun w h4 vw F4 ρ4 H4 s4 p4 r4 dw q4 => ?_
    exact q4 F4 ρ4 H4 vy vw Q r4 (dy.mono (s3.trans s4) (p3.trans p4)) dw fun d h' v F' ρ' H' s5 p5 r5 dv q5 => k d h' v F' ρ' H' (s13.trans (s4.trans s5)) (p13.trans (p4.trans p5)) r5 dv q5
  | false => exact k (dB false) h3 (.bl false) F3 ρ3 H3 s13 p13 r3 (.p (.bl false)) q3
/-! ### tests -/
variable {tt uu : TT} {B : Bool → Hs → Prop}
theorem vt_test (q : VE K Θ ta env h fun x h1 => ∃ c, x = dB c ∧ B c h1) : VT K Θ (tTest ta) env h B := fun F ρ σ H Q rl e k =>
  q F ρ σ H _ rl e fun x h1 vx F1 ρ1 H1 s1 p1 r1 dx q1 => by
    obtain ⟨c, rfl, q1⟩ := q1
    obtain rfl := dx.bl
    exact ⟨c, rfl, k c h1 F1 ρ1 H1 s1 p1 r1 q1⟩
theorem vt_B (q : VE K Θ ta env h fun x h1 => ∃ c, x = dB c ∧ B c h1) : VT K Θ (tB ta) env h B := fun F ρ σ H Q rl e k =>
  q F ρ σ H _ rl e fun x h1 vx F1 ρ1 H1 s1 p1 r1 dx q1 => by
    obtain ⟨c, rfl, q1⟩ := q1
    obtain rfl := dx.bl
    exact ⟨c, rfl, k c h1 F1 ρ1 H1 s1 p1 r1 q1⟩
theorem vt_and (q : VT K Θ tt env h fun c h1 => if c = true then VT K Θ uu env h1 B else B false h1) : VT K Θ (tAnd tt uu) env h B := fun F ρ σ H Q rl e k =>
  q F ρ σ H _ rl e fun c h1 F1 ρ1 H1 s1 p1 r1 q1 => by
    cases c with
    | true => exact q1 F1 ρ1 σ H1 Q r1 (e.mono s1 p1) fun b h' F' ρ' H' s3 p3 r3 q3 => k b h' F' ρ' H' (s1.trans s3) (p1.trans p3) r3 q3
    | false => exact k false h1 F1 ρ1 H1 s1 p1 r1 q1
theorem vt_or (q : VT K Θ tt env h fun c h1 => if c = true then B true h1 else VT K Θ uu env h1 B) : VT K Θ (tOr tt uu) env h B := fun F ρ σ H Q rl e k =>
  q F ρ σ H _ rl e fun c h1 F1 ρ1 H1 s1 p1 r1 q1 => by
    cases c with
    | true => exact k true h1 F1 ρ1 H1 s1 p1 r1 q1
    | false => exact q1 F1 ρ1 σ H1 Q r1 (e.mono s1 p1) fun b h' F' ρ' H' s3 p3 r3 q3 => k b h' F' ρ' H' (s1.trans s3) (p1.trans p3) r3 q3
theorem vt_not (q : VT K Θ tt env h fun c h1 => B (!c) h1) : VT K Θ (tNot tt) env h B := fun F ρ σ H Q rl e k =>
  q F ρ σ H _ rl e fun c h1 F1 ρ1 H1 s1 p1 r1 q1 => k (!c) h1 F1 ρ1 H1 s1 p1 r1 q1
/-- truth of a datum -/
def TruD (d : D) (h : Hs) (k : Bool) : Prop := match d with
  | .p .non => k = false
  | .p (.bl b) => k = b
  | .p (.int i) => k = (i != 0)
  | .p (.str y) => y.length ≤ sizeLine ∧ k = ((y.length : Int) != 0)
  | .p (.lst xs) => k = !xs.isEmpty
  | .p (.tup xs) => k = !xs.isEmpty
  | .p (.ktp xs) => k = !xs.isEmpty
  | .own i => ∃ xs, h[i]? = some (some (.lst xs)) ∧ k = !xs.isEmpty
  | _ => False
theorem RA.empty {F : Hp} {ρ : List Addr} {xs : List D} {vs : List V} (r : RA K F ρ xs vs) : (!vs.isEmpty) = !xs.isEmpty := by
  cases r <;> rfl
theorem RPs.empty {F : Hp} {xs : List P} {vs : List V} (r : RPs K F xs vs) : (!vs.isEmpty) = !xs.isEmpty := by
  cases r <;> rfl
theorem TruD.v {F : Hp} {ρ : List Addr} {h : Hs} {H : Hp} {d : D} {v : V} {k : Bool} (r : Rel K Θ F ρ h H) (q : RD K F ρ d v) (t : TruD d h k) : TruV K v H k := by
  cases q with
  | p q =>
    cases q with
    | lst a b => exact .inl ⟨_, r.same.seq a, by rw [b.empty]; exact t⟩
    | tup a b => exact .inr (.inl ⟨_, sqT_mono r.same a, by rw [b.empty]; exact t⟩)
    | ktp a b => exact .inr (.inl ⟨_, a _, by rw [b.empty]; exact t⟩)
    | ins => exact t.elim
    | ty => exact t.elim
    | cls => exact t.elim
    | _ => exact t
  | own e =>
    obtain ⟨xs, hx, t⟩ := t
    obtain ⟨a, u, e1, e2, e3, vs, e4, e5⟩ := r.own _ _ hx
    rw [e] at e1; cases e1
    subst e4
    exact .inl ⟨vs, .of e3, by rw [e5.empty]; exact t⟩
theorem vt_truth (q : VE K Θ ta env h fun x h1 => ∃ c, TruD x h1 c ∧ B c h1) : VT K Θ (fun σ H Q => ta σ H fun x H' => ∃ k, TruV K x H' k ∧ Q k H') env h B := fun F ρ σ H Q rl e k =>
  q F ρ σ H _ rl e fun x h1 vx F1 ρ1 H1 s1 p1 r1 dx q1 => by
    obtain ⟨c, t, q1⟩ := q1
    exact ⟨c, t.v r1 dx, k c h1 F1 ρ1 H1 s1 p1 r1 q1⟩
/-! ### statements -/
variable {t1 t2 : TS} {E : En}
theorem vs_seq (q : VS K Θ t1 { E with nx := VS K Θ t2 E } env h) : VS K Θ (tSeq t1 t2) E env h := fun F ρ σ H D' rl e k =>
  q F ρ σ H _ rl e ⟨fun env' h' F' ρ' σ' H' s p r e' q' => q' F' ρ' σ' H' D' r e' (k.mono s p), k.rt, k.bk, k.ct⟩
theorem vs_next (q : E.nx env h) : VS K Θ tNext E env h := fun F ρ σ H D' rl e k => k.nx env h F ρ σ H (Same.refl _) (Pre.refl _) rl e q
theorem vs_asg {g : TG} (q : VE K Θ ta env h fun d h1 => VG K Θ g d env h1 E.nx) : VS K Θ (tAsg ta g) E env h := fun F ρ σ H D' rl e k =>
  q F ρ σ H _ rl e fun x h1 vx F1 ρ1 H1 s1 p1 r1 dx q1 => q1 F1 ρ1 σ H1 vx _ r1 (e.mono s1 p1) dx fun env' h' F' ρ' σ' H' s2 p2 r2 e2 q2 => k.nx env' h' F' ρ' σ' H' (s1.trans s2) (p1.trans p2) r2 e2 q2
theorem vs_if (q : VT K Θ tt env h fun b h1 => if b = true then VS K Θ t1 E env h1 else VS K Θ t2 E env h1) : VS K Θ (tIfS tt t1 t2) E env h := fun F ρ σ H D' rl e k =>
  q F ρ σ H _ rl e fun b h1 F1 ρ1 H1 s1 p1 r1 q1 => by
    cases b with
    | true => exact q1 F1 ρ1 σ H1 D' r1 (e.mono s1 p1) (k.mono s1 p1)
    | false => exact q1 F1 ρ1 σ H1 D' r1 (e.mono s1 p1) (k.mono s1 p1)
theorem vs_ret (q : VE K Θ ta env h E.rt) : VS K Θ (tRet ta) E env h := fun F ρ σ H D' rl e k =>
  q F ρ σ H _ rl e fun d h1 v F1 ρ1 H1 s1 p1 r1 dv q1 => k.rt d h1 v F1 ρ1 H1 s1 p1 r1 dv q1
theorem vs_drop (q : VE K Θ ta env h fun _ h1 => E.nx env h1) : VS K Θ (tDrop ta) E env h := fun F ρ σ H D' rl e k =>
  q F ρ σ H _ rl e fun d h1 v F1 ρ1 H1 s1 p1 r1 dv q1 => k.nx env h1 F1 ρ1 σ H1 s1 p1 r1 (e.mono s1 p1) q1
theorem vg_name {i : Nat} {N : Env' → Hs → Prop} (q : N (env.set i (some d)) h) : VG K Θ (gName i) d env h N := fun F ρ σ H v Q rl e dv k =>
  k (env.set i (some d)) h F ρ (σ.set i (some v)) H (Same.refl _) (Pre.refl _) rl (e.set dv) q
theorem vgs_nil {N : Env' → Hs → Prop} (q : N env h) : VGs K Θ gNil [] env h N := fun F ρ σ H vs Q rl e dv k => by
  cases dv
  exact ⟨rfl, k env h F ρ σ H (Same.refl _) (Pre.refl _) rl e q⟩
theorem vgs_cons {g : TG} {gs : TGs} {ds : List D} {N : Env' → Hs → Prop} (q : VG K Θ g d env h fun env' h' => VGs K Θ gs ds env' h' N) : VGs K Θ (gCons g gs) (d :: ds) env h N := fun F ρ σ H vs Q rl e dv k => by
  cases dv with
  | cons a b =>
    exact ⟨_, _, rfl, q F ρ σ H _ _ rl e a fun env' h' F' ρ' σ' H' s p r e' q' => q' F' ρ' σ' H' _ _ r e' (b.mono s p) fun env2 h2 F2 ρ2 σ2 H2 s2 p2 r2 e2 q2 => k env2 h2 F2 ρ2 σ2 H2 (s.trans s2) (p.trans p2) r2 e2 q2⟩
theorem vg_tup {n : Nat} {gs : TGs} {ds : List P} {N : Env' → Hs → Prop} (hl : ds.length = n) (q : VGs K Θ gs (ds.map D.p) env h N) : VG K Θ (gTup K n gs) (dT ds) env h N := fun F ρ σ H v Q rl e dv k => by
  cases dv with
  | p dv =>
    cases dv with
    | tup a b => exact ⟨_, _, rfl, sqT_mono rl.same a, by rw [← b.len]; exact hl, q F ρ σ H _ Q rl e b.data k⟩
/-- xs[i] = v, the list owned -/
theorem vg_sub {to ti : TE} {N : Env' → Hs → Prop} (q : VE K Θ to env h fun o h1 => VE K Θ ti env h1 fun i h2 => ∃ n z xs j, o = .own n ∧ i = dI z ∧ h2[n]? = some (some (.lst xs)) ∧ ixN xs.length z = some j ∧ N env (h2.set n (some (.lst (xs.set j d))))) :
    VG K Θ (gSub to ti rSetL) d env h N := fun F ρ σ H v Q rl e dv k =>
  q F ρ σ H _ rl e fun o h1 vo F1 ρ1 H1 s1 p1 r1 dlo q1 => q1 F1 ρ1 σ H1 _ r1 (e.mono s1 p1) fun i h2 vi F2 ρ2 H2 s2 p2 r2 di q2 => by
    obtain ⟨n, z, xs, j, rfl, rfl, hx, hj, q2⟩ := q2
    obtain rfl := di.int
    cases dlo with
    | own ho =>
      have ho' := p2 _ _ ho
      obtain ⟨a, u, e1, e2, e3, vs, e4, e5⟩ := r2.own _ _ hx
      rw [ho'] at e1; cases e1
      subst e4
      refine ⟨_, vs, z, j, rfl, rfl, e3, by rw [← e5.len]; exact hj, ?_⟩
      exact k env _ F2 ρ2 σ _ (s1.trans s2) (p1.trans p2) (r2.put (o' := .lst (xs.set j d)) hx ho' ⟨_, rfl, e5.set (dv.mono (s1.trans s2) (p1.trans p2)) j⟩) (e.mono (s1.trans s2) (p1.trans p2)) q2
theorem VS.imp {E' : En} (q : VS K Θ t1 E env h) (w1 : ∀ e h, E.nx e h → E'.nx e h) (w2 : ∀ d h, E.rt d h → E'.rt d h) (w3 : ∀ e h, E.bk e h → E'.bk e h) (w4 : ∀ e h, E.ct e h → E'.ct e h) : VS K Θ t1 E' env h := fun F ρ σ H D' rl e k =>
  q F ρ σ H D' rl e ⟨fun a b c d e f g h i j l => k.nx a b c d e f g h i j (w1 _ _ l), fun a b c d e f g h i j l => k.rt a b c d e f g h i j (w2 _ _ l) , fun a b c d e f g h i j l => k.bk a b c d e f g h i j (w3 _ _ l), fun a b c d e f g h i j l => k.ct a b c d e f g h i j (w4 _ _ l)⟩
end
end Kb

/-! Loops, comprehensions; operations upon data; defs. -/
namespace Kb
open PySem PySem.Spec PyProof.Rows L2
section
variable {K : PySem.W.Frag} {Θ : Ctx} {env : Env'} {h : Hs} {ta tb te tc : TE} {R : D → Hs → Prop} {x y d : D}
/-! ### what is walked -/
/-- J walks ds while C holds of what is owned -/
structure ItOk (K : PySem.W.Frag) (Θ : Ctx) (F : Hp) (ρ : List Addr) (C : Hs → Prop) (ds : List D) (J : It) : Prop where
  stop : ∀ (F' : Hp) (ρ' : List Addr) (h : Hs) (H : Hp), Same F F' → Pre ρ ρ' → Rel K Θ F' ρ' h H → C h → J.stop ds.length H
  go : ∀ (i : Nat) (F' : Hp) (ρ' : List Addr) (h : Hs) (H : Hp), Same F F' → Pre ρ ρ' → Rel K Θ F' ρ' h H → C h → i < ds.length → J.go i H
  yld : ∀ (i : Nat) (d : D) (F' : Hp) (ρ' : List Addr) (h : Hs) (H : Hp) (x : V) (H' : Hp), Same F F' → Pre ρ ρ' → Rel K Θ F' ρ' h H → C h → ds[i]? = some d → J.yld i H x H' →
    ∃ F2 : Hp, Same F' F2 ∧ Rel K Θ F2 ρ' h H' ∧ RD K F2 ρ' d x
def VI (K : PySem.W.Frag) (Θ : Ctx) (wi : TI) (env : Env') (h : Hs) (R : List D → (Hs → Prop) → Hs → Prop) : Prop :=
  ∀ (F : Hp) (ρ : List Addr) (σ : L2.St) (H : Hp) (Q : It → Hp → Prop), Rel K Θ F ρ h H → REnv K F ρ env σ →
    (∀ (ds : List D) (C : Hs → Prop) (h' : Hs) (J : It) (F' : Hp) (ρ' : List Addr) (H' : Hp), Same F F' → Pre ρ ρ' → Rel K Θ F' ρ' h' H' → ItOk K Θ F' ρ' C ds J → R ds C h' → Q J H') → wi σ H Q
/-- the numbers lo, lo + 1, .. -/
def rng (lo : Int) (n : Nat) : List D := (List.range n).map fun (i : Nat) => dI (lo + (i : Int))
theorem rng_len (lo : Int) (n : Nat) : (rng lo n).length = n := by simp [rng]
theorem rng_get {lo : Int} {n i : Nat} {d : D} (hd : (rng lo n)[i]? = some d) : i < n ∧ d = dI (lo + (i : Int)) := by
  have hl : i < (rng lo n).length := (List.getElem?_eq_some_iff.mp hd).1
  rw [rng_len] at hl
  refine ⟨hl, ?_⟩
  unfold rng at hd
  rw [List.getElem?_map, List.getElem?_range hl] at hd
  exact (Option.some.inj hd).symm
theorem itr_ok {F : Hp} {ρ : List Addr} {lo : Int} {n : Nat} : ItOk K Θ F ρ (fun _ => True) (rng lo n) (Itr lo n) :=
  ⟨fun F' ρ' h H s p r c => by rw [rng_len]; exact Nat.le_refl n, fun i F' ρ' h H s p r c hi => by rw [rng_len] at hi; exact hi, fun i d F' ρ' h H x H' s p r c hd hy => by
    obtain ⟨e1, e2⟩ := hy
    subst e1 e2
    rw [(rng_get hd).2]
    exact ⟨F', Same.refl _, r, .p (.int _)⟩⟩
theorem vi_range1 {t : TA} {R : List D → (Hs → Prop) → Hs → Prop} (q : VA K Θ t env h fun xs h1 => ∃ j : Int, xs = [dI j] ∧ -(2 ^ 62) ≤ j ∧ j < 2 ^ 62 ∧ R (rng 0 j.toNat) (fun _ => True) h1) : VI K Θ (iRng1 t) env h R := fun F ρ σ H Q rl e k =>
  q F ρ σ H _ rl e fun xs h1 vs F1 ρ1 H1 s1 p1 r1 dx q1 => by
    obtain ⟨j, rfl, b1, b2, q1⟩ := q1
    cases dx with
    | cons a b =>
      cases b
      obtain rfl := a.int
      exact ⟨j, rfl, b1, b2, k _ _ h1 _ F1 ρ1 H1 s1 p1 r1 itr_ok q1⟩
theorem vs_for {wi : TI} {g : TG} {tb : TS} {E : En} (q : VI K Θ wi env h fun ds C h1 => ∃ Inv : Nat → Env' → Hs → Prop, Inv 0 env h1 ∧ (∀ i env h, Inv i env h → C h) ∧
    (∀ i d env h, ds[i]? = some d → Inv i env h → VG K Θ g d env h fun env' h' => VS K Θ tb { E with nx := Inv (i + 1), ct := Inv (i + 1), bk := E.nx } env' h') ∧ (∀ env h, Inv ds.length env h → E.nx env h)) : VS K Θ (tFor wi g tb) E env h := fun F ρ σ H D' rl e k =>
  q F ρ σ H _ rl e fun ds C h1 J F1 ρ1 H1 s1 p1 r1 it q1 => by
    obtain ⟨Inv, i0, iC, turn, fin⟩ := q1
    have e1 := e.mono s1 p1
    refine ⟨fun i m σ H => m = ds.length - i ∧ i ≤ ds.length ∧ ∃ env h F' ρ', Same F1 F' ∧ Pre ρ1 ρ' ∧ Rel K Θ F' ρ' h H ∧ REnv K F' ρ' env σ ∧ Inv i env h, ⟨ds.length, by simp, Nat.zero_le _, env, h1, F1, ρ1, Same.refl _, Pre.refl _, r1, e1, i0⟩, ?_⟩
    rintro i m σ H ⟨rfl, hi, env, h, F', ρ', s, p, r, e', iv⟩
    have c := iC i env h iv
    by_cases hlt : i < ds.length
    · refine .inr ⟨it.go i F' ρ' h H s p r c hlt, fun σ' H' => ∃ env h F2 ρ2, Same F1 F2 ∧ Pre ρ1 ρ2 ∧ Rel K Θ F2 ρ2 h H' ∧ REnv K F2 ρ2 env σ' ∧ Inv (i + 1) env h, fun σ' H' n => ⟨ds.length - (i + 1), by omega, rfl, hlt, n⟩, fun x H' hy => ?_⟩
      have hd : ds[i]? = some ds[i] := List.getElem?_eq_getElem hlt
      obtain ⟨F2, s2, r2, dx⟩ := it.yld i _ F' ρ' h H x H' s p r c hd hy
      refine turn i _ env h hd iv F2 ρ' σ H' x _ r2 (e'.mono s2 (Pre.refl _)) dx fun env3 h3 F3 ρ3 σ3 H3 s3 p3 r3 e3 q3 => ?_
      have ss : Same F1 F3 := s.trans (s2.trans s3)
      have pp : Pre ρ1 ρ3 := p.trans p3
      have kk := k.mono (s1.trans ss) (p1.trans pp)
      refine q3 F3 ρ3 σ3 H3 _ r3 e3 ⟨fun env4 h4 F4 ρ4 σ4 H4 s4 p4 r4 e4 q4 => ⟨env4, h4, F4, ρ4, ss.trans s4, pp.trans p4, r4, e4, q4⟩, kk.rt, kk.nx, fun env4 h4 F4 ρ4 σ4 H4 s4 p4 r4 e4 q4 => ⟨env4, h4, F4, ρ4, ss.trans s4, pp.trans p4, r4, e4, q4⟩⟩
    · have ei : i = ds.length := by omega
      subst ei
      exact .inl ⟨it.stop F' ρ' h H s p r c, k.nx env h F' ρ' σ H (s1.trans s) (p1.trans p) r e' (fin env h iv)⟩
/-- the target's slots: after the store they are the comprehension's alone -/
def TgOk (g : TG) (vs : List Nat) : Prop := ∀ (x : V) (σ : L2.St) (H : Hp) (Q : L2.St → Hp → Prop), g x (wipe σ vs) H Q → g x (wipe σ vs) H fun σ2 H2 => wipe σ2 vs = wipe σ vs ∧ Q σ2 H2
theorem set_none_none {σ : L2.St} {j : Nat} {x : Option V} : ((σ.set j none).set j x).set j none = σ.set j none := by rw [List.set_set, List.set_set]
theorem tg_name {j : Nat} : TgOk (gName j) [j] := fun x σ H Q q => ⟨set_none_none, q⟩
theorem wipe2 {σ : L2.St} {i j : Nat} {x y : Option V} : wipe (((wipe σ [i, j]).set i x).set j y) [i, j] = wipe σ [i, j] := by
  show (((((σ.set j none).set i none).set i x).set j y).set j none).set i none = (σ.set j none).set i none
  refine List.ext_getElem? fun k => ?_
  simp only [List.getElem?_set, List.length_set]
  by_cases e1 : i = k
  · subst e1
    simp
  · by_cases e2 : j = k
    · subst e2
      simp [e1]
    · simp [e1, e2]
theorem tg_tup2 {K : PySem.W.Frag} {i j : Nat} : TgOk (gTup K 2 (gCons (gName i) (gCons (gName j) gNil))) [i, j] := fun x σ H Q q => by
  obtain ⟨a, xs, e, sq, hl, v, r, e2, v2, r2, e3, e4, q⟩ := q
  exact ⟨a, xs, e, sq, hl, v, r, e2, v2, r2, e3, e4, wipe2, q⟩
/-- own slots of a comprehension forgotten -/
def wipeD (env : Env') : List Nat → Env'
  | [] => env
  | v :: vs => (wipeD env vs).set v none
theorem REnv.wipes {F : Hp} {ρ : List Addr} {σ : L2.St} (r : REnv K F ρ env σ) : ∀ vs : List Nat, REnv K F ρ (wipeD env vs) (L2.wipe σ vs)
  | [] => r
  | v :: vs => (REnv.wipes r vs).wipe
theorem Rel.pop {F : Hp} {ρ : List Addr} {h : Hs} {H : Hp} {p : Addr} {o : Option OO} (r : Rel K Θ F (ρ ++ [p]) (h ++ [o]) H) (hl : ρ.length = h.length) (hw : Wish K Θ F ρ) (w : ∀ (i : Nat) (o : OO) (a : Addr), h[i]? = some (some o) → ρ[i]? = some a → ∀ u, RO K a F (ρ ++ [p]) o u → RO K a F ρ o u) : Rel K Θ F ρ h H := by
  have lt : ∀ (i : Nat) (o' : OO), h[i]? = some (some o') → i < h.length := fun i o' e => (List.getElem?_eq_some_iff.mp e).1
  have up : ∀ (i : Nat) (o' : OO), h[i]? = some (some o') → (h ++ [o])[i]? = some (some o') := fun i o' e => by rw [List.getElem?_append_left (lt i o' e)]; exact e
  have pl : ∀ (i : Nat), i < h.length → (ρ ++ [p])[i]? = ρ[i]? := fun i hi => List.getElem?_append_left (by rw [hl]; exact hi)
  refine ⟨⟨r.same, hl, fun i o' hi => ?_, fun i j o1 o2 a hi hj ha hb => r.inj i j o1 o2 a (up i o1 hi) (up j o2 hj) (by rw [pl i (lt i o1 hi)]; exact ha) (by rw [pl j (lt j o2 hj)]; exact hb), r.tab, r.lam⟩, hw⟩
  obtain ⟨a, u, h1, h2, h3, h4⟩ := r.own i o' (up i o' hi)
  rw [pl i (lt i o' hi)] at h1
  exact ⟨a, u, h1, h2, h3, w i o' a hi h1 u h4⟩
theorem RA.low {F F0 : Hp} {ρ : List Addr} {p : Addr} : ∀ {ds : List D} {vs v0 : List V}, RA K F0 ρ ds v0 → RA K F (ρ ++ [p]) ds vs → RA K F ρ ds vs
  | _, _, _, .nil, .nil => .nil
  | _, _, _, .cons a r, .cons b s => .cons (by
      cases b with
      | p b => exact .p b
      | own b =>
        cases a with
        | own a =>
          have hl := (List.getElem?_eq_some_iff.mp a).1
          rw [List.getElem?_append_left hl] at b
          exact .own b) (RA.low r s)
theorem RF.low {F F0 : Hp} {ρ : List Addr} {p : Addr} : ∀ {ds : List (Str × D)} {vs v0 : List (Str × V)}, RF K F0 ρ ds v0 → RF K F (ρ ++ [p]) ds vs → RF K F ρ ds vs
  | _, _, _, .nil, .nil => .nil
  | _, _, _, .cons a r, .cons b s => .cons (by
      cases b with
      | p b => exact .p b
      | own b =>
        cases a with
        | own a =>
          have hl := (List.getElem?_eq_some_iff.mp a).1
          rw [List.getElem?_append_left hl] at b
          exact .own b) (RF.low r s)
theorem RK.low {κ : Type} {F F0 : Hp} {ρ : List Addr} {p : Addr} : ∀ {ds : List (κ × D)} {vs v0 : List (κ × V)}, RK K F0 ρ ds v0 → RK K F (ρ ++ [p]) ds vs → RK K F ρ ds vs
  | _, _, _, .nil, .nil => .nil
  | _, _, _, .cons a r, .cons b s => .cons (by
      cases b with
      | p b => exact .p b
      | own b =>
        cases a with
        | own a =>
          have hl := (List.getElem?_eq_some_iff.mp a).1
          rw [List.getElem?_append_left hl] at b
          exact .own b) (RK.low r s)
theorem RO.low {a0 : Addr} {F F0 : Hp} {ρ : List Addr} {p : Addr} {o : OO} {u u0 : HO} (a : RO K a0 F0 ρ o u0) (b : RO K a0 F (ρ ++ [p]) o u) : RO K a0 F ρ o u := by
  cases o with
  | lst xs =>
    obtain ⟨v0, _, r0⟩ := a
    obtain ⟨vs, e, r⟩ := b
    exact ⟨vs, e, r0.low r⟩
  | ins C fs =>
    obtain ⟨d0, g0, _, r0⟩ := a
    obtain ⟨dx, gs, e, r⟩ := b
    exact ⟨dx, gs, e, r0.low r⟩
  | dK kvs =>
    obtain ⟨g0, _, r0⟩ := a
    obtain ⟨gs, e, r⟩ := b
    exact ⟨gs, e, r0.low r⟩
  | dT kvs =>
    obtain ⟨g0, _, r0⟩ := a
    obtain ⟨gs, e, r⟩ := b
    exact ⟨gs, e, r0.low r⟩
  | dN pw kvs =>
    obtain ⟨g0, _, _, r0⟩ := a
    obtain ⟨gs, e, q, r⟩ := b
    exact ⟨gs, e, q, r0.low r⟩
  | dL pw od gs kvs =>
    obtain ⟨_, _, r0⟩ := a
    obtain ⟨e, q, r⟩ := b
    exact ⟨e, q, r0.low r⟩
theorem pre_eq {ρ ρ' : List Addr} (p : Pre ρ ρ') (hl : ρ'.length = ρ.length) : ρ' = ρ := by
  refine List.ext_getElem? fun i => ?_
  cases e : ρ[i]? with
  | some a => exact p i a e
  | none =>
    rw [List.getElem?_eq_none_iff] at e ⊢
    omega
theorem filterMap_succ {α : Type} (f : Nat → Option α) (n : Nat) : (List.range (n + 1)).filterMap f = (List.range n).filterMap f ++ (f n).toList := by
  rw [List.range_succ, List.filterMap_append]
  cases e : f n <;> simp [List.filterMap, e]
/-- what one turn of a comprehension must do: the heap as it was, the item fs i or none -/
def LcTurn (K : PySem.W.Frag) (Θ : Ctx) (g : TG) (tt : TT) (te : TE) (env : Env') (d : D) (h : Hs) (o : Option P) : Prop :=
  VG K Θ g d env h fun env' h' => h' = h ∧ VT K Θ tt env' h' fun b h2 => h2 = h' ∧ if b = true then VE K Θ te env' h2 (fun y h3 => h3 = h2 ∧ ∃ p, y = .p p ∧ o = some p) else o = none
theorem lc_run {wi : TI} {g : TG} {tt : TT} {te : TE} {vs : List Nat} (tg : TgOk g vs) {F : Hp} {ρ : List Addr} {σ : L2.St} {H1 : Hp} {ds : List D} {C : Hs → Prop} {h1 : Hs} {J : It} (Q : VK)
    (r1 : Rel K Θ F ρ h1 H1) (e : REnv K F ρ env σ) (it : ItOk K Θ F ρ C ds J) (fs : Nat → Option P) (hl : ds.length < sizeLine) (hC : ∀ acc, C (h1 ++ [some (.lst acc)]))
    (turn : ∀ i d acc, ds[i]? = some d → LcTurn K Θ g tt te (wipeD env vs) d (h1 ++ [some (.lst acc)]) (fs i))
    (fin : ∀ (p : Addr) (F' : Hp) (us : List V) (H : Hp), Same F F' → F' p = none → H p = some (.lst us) → H1 p = none → Rel K Θ F' (ρ ++ [p]) (h1 ++ [some (.lst (((List.range ds.length).filterMap fs).map D.p))]) H → RPs K F' ((List.range ds.length).filterMap fs) us → Rel K Θ F' ρ h1 H → Q (.ref p) H) :
    ∀ D, H1 D = none → ∃ W : Nat → Nat → Hp → Prop, (∃ m, W 0 m (upd H1 D (.lst []))) ∧ ∀ i m H, W i m H → (J.stop i H ∧ Q (.ref D) H) ∨
      (J.go i H ∧ ∃ Nx : Hp → Prop, (∀ H', Nx H' → ∃ m', m' < m ∧ W (i + 1) m' H') ∧ ∀ x H', J.yld i H x H' → g x (wipe σ vs) H' fun σ2 H2 => wipe σ2 vs = wipe σ vs ∧ tt σ2 H2 fun b H3 => if b = true then te σ2 H3 fun y H4 => ∃ acc, H4 D = some (.lst acc) ∧ acc.length < sizeLine ∧ Nx (upd H4 D (.lst (acc ++ [y]))) else Nx H3) := by
  intro p hp
  have hn : (h1 ++ [some (OO.lst [])])[h1.length]? = some (some (.lst [])) := by simp
  refine ⟨fun i m H => m = ds.length - i ∧ i ≤ ds.length ∧ ∃ F', Same F F' ∧ Rel K Θ F' (ρ ++ [p]) (h1 ++ [some (.lst (((List.range i).filterMap fs).map D.p))]) H, ⟨ds.length, by simp, Nat.zero_le _, F, Same.refl _, r1.push (o := .lst []) hp ⟨[], rfl, .nil⟩⟩, ?_⟩
  rintro i m H ⟨rfl, hi, F', s, r⟩
  have hpl : (ρ ++ [p])[h1.length]? = some p := by rw [← r1.len]; simp
  have got : ∀ (F' : Hp) (H : Hp) (xs : List D), Rel K Θ F' (ρ ++ [p]) (h1 ++ [some (.lst xs)]) H → ∃ us, H p = some (.lst us) ∧ F' p = none ∧ RA K F' (ρ ++ [p]) xs us := fun F' H xs r => by
    obtain ⟨a, u, e1, e2, e3, us, e4, e5⟩ := r.own h1.length (.lst xs) (by simp)
    rw [hpl] at e1; cases e1
    subst e4
    exact ⟨us, e3, e2, e5⟩
  by_cases hlt : i < ds.length
  · refine .inr ⟨it.go i F' (ρ ++ [p]) _ H s (Pre.push _ _) r (hC _) hlt, fun H' => ∃ F2, Same F F2 ∧ Rel K Θ F2 (ρ ++ [p]) (h1 ++ [some (.lst (((List.range (i + 1)).filterMap fs).map D.p))]) H', fun H' ⟨F2, s2, r2⟩ => ⟨ds.length - (i + 1), by omega, rfl, hlt, F2, s2, r2⟩, fun x H' hy => ?_⟩
    have hd : ds[i]? = some ds[i] := List.getElem?_eq_getElem hlt
    obtain ⟨F2, s2, r2, dx⟩ := it.yld i _ F' (ρ ++ [p]) _ H x H' s (Pre.push _ _) r (hC _) hd hy
    refine tg x σ H' _ ?_
    refine turn i _ _ hd F2 (ρ ++ [p]) (wipe σ vs) H' x _ r2 ((e.mono (s.trans s2) (Pre.push _ _)).wipes vs) dx fun env3 h3 F3 ρ3 σ3 H3 s3 p3 r3 e3 q3 => ?_
    obtain ⟨rfl, q3⟩ := q3
    have eρ : ρ3 = ρ ++ [p] := pre_eq p3 (by rw [r3.len, r2.len])
    subst eρ
    refine q3 F3 _ σ3 H3 _ r3 e3 fun b h4 F4 ρ4 H4 s4 p4 r4 q4 => ?_
    obtain ⟨rfl, q4⟩ := q4
    have eρ : ρ4 = ρ ++ [p] := pre_eq p4 (by rw [r4.len, r3.len])
    subst eρ
    have ss : Same F F4 := s.trans (s2.trans (s3.trans s4))
    cases b with
    | true =>
      rw [if_pos rfl] at q4 ⊢
      refine q4 F4 _ σ3 H4 _ r4 (e3.mono s4 p4) fun y h5 v F5 ρ5 H5 s5 p5 r5 dv q5 => ?_
      obtain ⟨rfl, pp, rfl, ef⟩ := q5
      have eρ : ρ5 = ρ ++ [p] := pre_eq p5 (by rw [r5.len, r4.len])
      subst eρ
      obtain ⟨us, g1, g2, g3⟩ := got F5 H5 _ r5
      refine ⟨us, g1, ?_, F5, ss.trans s5, ?_⟩
      · rw [← g3.len, List.length_map]
        have := List.length_filterMap_le fs (List.range i)
        rw [List.length_range] at this
        omega
      · have z := r5.put (i := h1.length) (o := .lst (((List.range i).filterMap fs).map D.p)) (o' := .lst (((List.range (i + 1)).filterMap fs).map D.p)) (by simp) hpl ⟨us ++ [v], rfl, by
          rw [filterMap_succ, ef, List.map_append]
          exact g3.append (.cons dv .nil)⟩
        rw [List.set_append_right _ _ (Nat.le_refl _), Nat.sub_self] at z
        exact z
    | false =>
      rw [if_neg Bool.false_ne_true] at q4 ⊢
      refine ⟨F4, ss, ?_⟩
      rw [filterMap_succ, q4]
      simpa using r4
  · have ei : i = ds.length := by omega
    subst ei
    refine .inl ⟨it.stop F' (ρ ++ [p]) _ H s (Pre.push _ _) r (hC _), ?_⟩
    obtain ⟨us, g1, g2, g3⟩ := got F' H _ r
    refine fin p F' us H s g2 g1 hp r g3.pure (r.pop r1.len (r1.wish.mono s (Pre.refl _)) fun i o a hi ha u q => ?_)
    obtain ⟨a0, u0, f1, f2, f3, f4⟩ := r1.own i o hi
    rw [ha] at f1; cases f1
    exact f4.low q
/-- [..]: a new list that stays as it is -/
theorem ve_lc {wi : TI} {g : TG} {tt : TT} {te : TE} {vs : List Nat} (tg : TgOk g vs)
    (q : VI K Θ wi env h fun ds C h1 => ∃ fs : Nat → Option P, ds.length < sizeLine ∧ (∀ acc, C (h1 ++ [some (.lst acc)])) ∧
      (∀ i d acc, ds[i]? = some d → LcTurn K Θ g tt te (wipeD env vs) d (h1 ++ [some (.lst acc)]) (fs i)) ∧ R (dL ((List.range ds.length).filterMap fs)) h1) : VE K Θ (tLc wi g tt te vs) env h R := fun F ρ σ H Q rl e k =>
  q F ρ σ H _ rl e fun ds C h1 J F1 ρ1 H1 s1 p1 r1 it q1 => by
    obtain ⟨fs, hl, hC, turn, q1⟩ := q1
    refine lc_run (wi := wi) tg Q r1 (e.mono s1 p1) it fs hl hC turn fun p F' us H s hn hp hp1 r rp r2 => ?_
    have sn : Same F' (upd F' p (.lst us)) := same_new hn
    refine k _ h1 (.ref p) (upd F' p (.lst us)) ρ1 H (s1.trans (s.trans sn)) p1 ?_ (.p (.lst (.of upd_same) (rp.mono sn))) q1
    have np : ∀ P ∈ Θ.tabs, P ≠ p := fun P hP => by
      obtain ⟨ps, z, _⟩ := (r2.tab P hP).2
      rintro rfl
      rw [hp] at z
      cases z
    refine ⟨⟨fun b o e => ?_, r2.len, fun i o hi => ?_, r2.inj, fun P hP => ⟨by rw [upd_ne (np P hP)]; exact (r2.tab P hP).1, (r2.tab P hP).2⟩, fun q hq => ⟨by rw [upd_ne (lam_neO (r2.lam q hq).2 hp fun _ z => by cases z)]; exact (r2.lam q hq).1, (r2.lam q hq).2⟩⟩, r2.wish.mono sn (Pre.refl _)⟩
    · by_cases hb : b = p
      · subst hb; rw [upd_same] at e; rw [hp]; exact e
      · rw [upd_ne hb] at e; exact r2.same b o e
    · obtain ⟨a, u, f1, f2, f3, f4⟩ := r2.own i o hi
      have ha : a ≠ p := fun z => by
        subst z
        obtain ⟨a0, u0, g1, g2, g3, g4⟩ := r1.own i o hi
        rw [f1] at g1; cases g1
        rw [hp1] at g3; cases g3
      exact ⟨a, u, f1, by rw [upd_ne ha]; exact f2, f3, f4.mono sn (Pre.refl _)⟩
end
end Kb

/-! Operations upon data. -/
namespace Kb
open PySem PySem.Spec PyProof.Rows L2
section
variable {X : Cx}
def rAddS' : R2 := fun x y H Q => ∃ i j, x = .str i ∧ y = .str j ∧ i.length + j.length ≤ sizeLine ∧ Q (.str (i ++ j)) H
def rAddI : R2 := rI0 fun i j => .int (i + j)
def rAddU (K : PySem.W.Frag) : R2 := fun x y H Q => rAddI x y H Q ∨ (rAddS' x y H Q ∨ (rCatT K x y H Q ∨ rCat x y H Q))
def rEqU (K : PySem.W.Frag) : R2 := fun x y H Q => rEq x y H Q ∨ rEqD K x y H Q
def rNeU (K : PySem.W.Frag) : R2 := fun x y H Q => rNe x y H Q ∨ rNeD K x y H Q
theorem op_eqU (hu : X.A.units + 64 < cLine) : OpR X (compareOp .Eq) (rEqU X.K) := op_eq.or (op_eqD hu)
theorem op_neU (hu : X.A.units + 64 < cLine) : OpR X (compareOp .NotEq) (rNeU X.K) := op_ne.or (op_neD hu)
def rInt1 : List V → Hp → VK → Prop := fun xs H Q => (∃ i, xs = [.int i] ∧ Q (.int i) H) ∨ ∃ k, xs = [.bl k] ∧ Q (.int (if k then 1 else 0)) H
def rIntS : List V → Hp → VK → Prop := fun xs H Q => ∃ a n, xs = [.str a] ∧ PySem.intText? a = some n ∧ a.length ≤ 640 ∧ Q (.int n) H
def rIntU : List V → Hp → VK → Prop := fun xs H Q => rInt1 xs H Q ∨ rIntS xs H Q
theorem call_intU : CallR X (.type "int") rIntU := CallR.or (r := rInt1) (r' := rIntS) call_int1 call_int_str
def rIsiU (K : PySem.W.Frag) : List V → Hp → VK → Prop := fun xs H Q => rIsi K xs H Q ∨ rIsiT K xs H Q
theorem call_isiU : CallR X (.builtin "isinstance") (rIsiU X.K) := call_isi.or call_isiT
end
section
variable {K : PySem.W.Frag} {Θ : Ctx} {env : Env'} {h : Hs} {R : D → Hs → Prop} {x y d : D}
/-! ### two operands -/
theorem v2_I {C : Int → Int → Prop} {g : Int → Int → Int} {i j : Int} (c : C i j) (q : R (dI (g i j)) h) : V2 K Θ (rI C fun i j => .int (g i j)) (dI i) (dI j) h R := fun F ρ H vx vy Q rl a b k => by
  obtain rfl := a.int
  obtain rfl := b.int
  exact ⟨i, j, rfl, rfl, c, k _ h _ F ρ H (Same.refl _) (Pre.refl _) rl (.p (.int _)) q⟩
theorem v2_I0 {g : Int → Int → Int} {i j : Int} (q : R (dI (g i j)) h) : V2 K Θ (rI0 fun i j => .int (g i j)) (dI i) (dI j) h R := fun F ρ H vx vy Q rl a b k => by
  obtain rfl := a.int
  obtain rfl := b.int
  exact ⟨i, j, rfl, rfl, k _ h _ F ρ H (Same.refl _) (Pre.refl _) rl (.p (.int _)) q⟩
theorem v2_B0 {g : Int → Int → Bool} {i j : Int} (q : R (dB (g i j)) h) : V2 K Θ (rI0 fun i j => .bl (g i j)) (dI i) (dI j) h R := fun F ρ H vx vy Q rl a b k => by
  obtain rfl := a.int
  obtain rfl := b.int
  exact ⟨i, j, rfl, rfl, k _ h _ F ρ H (Same.refl _) (Pre.refl _) rl (.p (.bl _)) q⟩
theorem v2_ip {g : Int → Int → Int} {i j : Int} (q : R (dI (g i j)) h) : V2 K Θ (ipI g) (dI i) (dI j) h R := fun F ρ H vx vy Q rl a b k => by
  obtain rfl := a.int
  obtain rfl := b.int
  exact ⟨i, j, rfl, rfl, k _ h _ F ρ H (Same.refl _) (Pre.refl _) rl (.p (.int _)) q⟩
theorem v2_or1 {r r' : R2} (q : V2 K Θ r x y h R) : V2 K Θ (fun x y H Q => r x y H Q ∨ r' x y H Q) x y h R := fun F ρ H vx vy Q rl a b k => .inl (q F ρ H vx vy Q rl a b k)
theorem v2_or2 {r r' : R2} (q : V2 K Θ r' x y h R) : V2 K Θ (fun x y H Q => r x y H Q ∨ r' x y H Q) x y h R := fun F ρ H vx vy Q rl a b k => .inr (q F ρ H vx vy Q rl a b k)
theorem v2_addI {i j : Int} (q : R (dI (i + j)) h) : V2 K Θ (rAddU K) (dI i) (dI j) h R := v2_or1 (v2_I0 q)
theorem v2_eqI {i j : Int} (q : R (dB (decide (i = j))) h) : V2 K Θ (rEqU K) (dI i) (dI j) h R := v2_or1 fun F ρ H vx vy Q rl a b k => by
  obtain rfl := a.int
  obtain rfl := b.int
  refine ⟨rfl, ?_⟩
  have e : decide (V.int i = V.int j) = decide (i = j) := decide_eq_decide.mpr ⟨V.int.inj, congrArg V.int⟩
  rw [e]
  exact k _ h _ F ρ H (Same.refl _) (Pre.refl _) rl (.p (.bl _)) q
theorem v2_eqB {i j : Bool} (q : R (dB (decide (i = j))) h) : V2 K Θ (rEqU K) (dB i) (dB j) h R := v2_or1 fun F ρ H vx vy Q rl a b k => by
  obtain rfl := a.bl
  obtain rfl := b.bl
  refine ⟨rfl, ?_⟩
  have e : decide (V.bl i = V.bl j) = decide (i = j) := decide_eq_decide.mpr ⟨V.bl.inj, congrArg V.bl⟩
  rw [e]
  exact k _ h _ F ρ H (Same.refl _) (Pre.refl _) rl (.p (.bl _)) q
theorem v2_eqS {i j : Str} (q : R (dB (decide (i = j))) h) : V2 K Θ (rEqU K) (dS i) (dS j) h R := v2_or1 fun F ρ H vx vy Q rl a b k => by
  obtain rfl := a.str
  obtain rfl := b.str
  refine ⟨rfl, ?_⟩
  have e : decide (V.str i = V.str j) = decide (i = j) := decide_eq_decide.mpr ⟨V.str.inj, congrArg V.str⟩
  rw [e]
  exact k _ h _ F ρ H (Same.refl _) (Pre.refl _) rl (.p (.bl _)) q
theorem v2_neI {i j : Int} (q : R (dB (!decide (i = j))) h) : V2 K Θ (rNeU K) (dI i) (dI j) h R := v2_or1 fun F ρ H vx vy Q rl a b k => by
  obtain rfl := a.int
  obtain rfl := b.int
  refine ⟨rfl, ?_⟩
  have e : decide (V.int i = V.int j) = decide (i = j) := decide_eq_decide.mpr ⟨V.int.inj, congrArg V.int⟩
  rw [e]
  exact k _ h _ F ρ H (Same.refl _) (Pre.refl _) rl (.p (.bl _)) q
theorem v2_neB {i j : Bool} (q : R (dB (!decide (i = j))) h) : V2 K Θ (rNeU K) (dB i) (dB j) h R := v2_or1 fun F ρ H vx vy Q rl a b k => by
  obtain rfl := a.bl
  obtain rfl := b.bl
  refine ⟨rfl, ?_⟩
  have e : decide (V.bl i = V.bl j) = decide (i = j) := decide_eq_decide.mpr ⟨V.bl.inj, congrArg V.bl⟩
  rw [e]
  exact k _ h _ F ρ H (Same.refl _) (Pre.refl _) rl (.p (.bl _)) q
theorem v2_neS {i j : Str} (q : R (dB (!decide (i = j))) h) : V2 K Θ (rNeU K) (dS i) (dS j) h R := v2_or1 fun F ρ H vx vy Q rl a b k => by
  obtain rfl := a.str
  obtain rfl := b.str
  refine ⟨rfl, ?_⟩
  have e : decide (V.str i = V.str j) = decide (i = j) := decide_eq_decide.mpr ⟨V.str.inj, congrArg V.str⟩
  rw [e]
  exact k _ h _ F ρ H (Same.refl _) (Pre.refl _) rl (.p (.bl _)) q
/-- data as the library compares them -/
def pyOf : P → PyData
  | .non => .none
  | .bl b => .bool b
  | .int i => .int i
  | .str s => .str s
  | .tup xs => .tuple (pyOfs xs)
  | .ktp xs => .tuple (pyOfs xs)
  | .lst xs => .list (pyOfs xs)
  | .ins _ _ => .none
  | .ty _ => .none
  | .cls _ => .none
where pyOfs : List P → List PyData
  | [] => []
  | x :: xs => pyOf x :: pyOfs xs
/-- None, bools, ints, texts, tuples and lists of these -/
def plainP : P → Bool
  | .non => true
  | .bl _ => true
  | .int _ => true
  | .str _ => true
  | .tup xs => plainPs xs
  | .ktp xs => plainPs xs
  | .lst xs => plainPs xs
  | _ => false
where plainPs : List P → Bool
  | [] => true
  | x :: xs => plainP x && plainPs xs
mutual
theorem RP.dp {F H : Hp} (s : Same F H) : ∀ {x : P} {v : V}, RP K F x v → plainP x = true → Dp K H v (pyOf x)
  | _, _, .non, _ => .non
  | _, _, .bl b, _ => .bl b
  | _, _, .int i, _ => .int i
  | _, _, .str i, _ => .str i
  | .tup xs, _, .tup a r, c => .tup (sqT_mono s a) (RPs.dp s r (by unfold plainP at c; exact c))
  | .ktp xs, _, .ktp a r, c => .tup (a _) (RPs.dp s r (by unfold plainP at c; exact c))
  | .lst xs, _, .lst a r, c => .lst (s.seq a) (RPs.dp s r (by unfold plainP at c; exact c))
  | _, _, .ins _ _, c => by simp [plainP] at c
  | _, _, .ty _, c => by simp [plainP] at c
  | _, _, .cls _, c => by simp [plainP] at c
theorem RPs.dp {F H : Hp} (s : Same F H) : ∀ {xs : List P} {vs : List V}, RPs K F xs vs → plainP.plainPs xs = true → DpAll K H vs (pyOf.pyOfs xs)
  | _, _, .nil, _ => .nil
  | x :: xs, _, .cons a r, c => by
    unfold plainP.plainPs at c
    rw [Bool.and_eq_true] at c
    exact .cons (RP.dp s a c.1) (RPs.dp s r c.2)
end
theorem v2_neP {x y : P} (hx : plainP x = true) (hy : plainP y = true) (sx : SeqAt.shaped (pyOf x) = true) (sy : SeqAt.shaped (pyOf y) = true) (q : R (dB (!PyData.eqv (pyOf x) (pyOf y))) h) : V2 K Θ (rNeU K) (.p x) (.p y) h R := v2_or2 fun F ρ H vx vy Q rl a b k => by
  cases a with
  | p a =>
    cases b with
    | p b => exact ⟨_, _, a.dp rl.same hx, b.dp rl.same hy, sx, sy, k _ h _ F ρ H (Same.refl _) (Pre.refl _) rl (.p (.bl _)) q⟩
/-- is it None -/
def isNonD : D → Bool
  | .p .non => true
  | _ => false
theorem isNon_v {F : Hp} {ρ : List Addr} {d : D} {v : V} (a : RD K F ρ d v) : decide (v = .non) = isNonD d := by
  cases a with
  | p a => cases a <;> rfl
  | own _ => rfl
theorem v2_isN (q : R (dB (isNonD x)) h) : V2 K Θ (fun x y H Q => y = V.non ∧ Q (.bl (decide (x = .non))) H) x dN h R := fun F ρ H vx vy Q rl a b k => by
  obtain rfl := b.non
  refine ⟨rfl, ?_⟩
  rw [isNon_v a]
  exact k _ h _ F ρ H (Same.refl _) (Pre.refl _) rl (.p (.bl _)) q
theorem v2_notN (q : R (dB (!isNonD x)) h) : V2 K Θ (fun x y H Q => y = V.non ∧ Q (.bl (!decide (x = .non))) H) x dN h R := fun F ρ H vx vy Q rl a b k => by
  obtain rfl := b.non
  refine ⟨rfl, ?_⟩
  rw [isNon_v a]
  exact k _ h _ F ρ H (Same.refl _) (Pre.refl _) rl (.p (.bl _)) q
theorem v1_U {g : Int → Int} {i : Int} (q : R (dI (g i)) h) : V1 K Θ (rU fun i => .int (g i)) (dI i) h R := fun F ρ H vx Q rl a k => by
  obtain rfl := a.int
  exact ⟨i, rfl, k _ h _ F ρ H (Same.refl _) (Pre.refl _) rl (.p (.int _)) q⟩
/-! ### items -/
theorem RPs.at_ {F : Hp} {ds : List P} {vs : List V} {i : Int} {d : P} (r : RPs K F ds vs) (h : atI ds i = some d) : ∃ v, atI vs i = some v ∧ RP K F d v := by
  unfold atI at h ⊢
  rw [← r.len]
  cases e : ixN ds.length i with
  | none => rw [e] at h; cases h
  | some j =>
    rw [e] at h
    exact r.get h
theorem RA.at_ {F : Hp} {ρ : List Addr} {ds : List D} {vs : List V} {i : Int} {d : D} (r : RA K F ρ ds vs) (h : atI ds i = some d) : ∃ v, atI vs i = some v ∧ RD K F ρ d v := by
  unfold atI at h ⊢
  rw [← r.len]
  cases e : ixN ds.length i with
  | none => rw [e] at h; cases h
  | some j =>
    rw [e] at h
    exact r.get h
theorem v2_ixL {xs : List P} {i : Int} {p : P} (ha : atI xs i = some p) (q : R (.p p) h) : V2 K Θ (rIx K) (dL xs) (dI i) h R := fun F ρ H vx vy Q rl a b k => by
  obtain rfl := b.int
  cases a with
  | p a =>
    cases a with
    | lst a r =>
      obtain ⟨v, h1, h2⟩ := r.at_ ha
      exact .inl ⟨_, _, i, v, rfl, rfl, rl.same.seq a, h1, k _ h _ F ρ H (Same.refl _) (Pre.refl _) rl (.p h2) q⟩
theorem v2_ixT {xs : List P} {i : Int} {p : P} (ha : atI xs i = some p) (q : R (.p p) h) : V2 K Θ (rIx K) (dT xs) (dI i) h R := fun F ρ H vx vy Q rl a b k => by
  obtain rfl := b.int
  cases a with
  | p a =>
    cases a with
    | tup a r =>
      obtain ⟨v, h1, h2⟩ := r.at_ ha
      exact .inr (.inl ⟨_, _, i, v, rfl, rfl, sqT_mono rl.same a, h1, k _ h _ F ρ H (Same.refl _) (Pre.refl _) rl (.p h2) q⟩)
theorem v2_ixS {z : Str} {i : Int} {c : Nat} (hl : z.length ≤ sizeLine) (ha : atI z.cps.toList i = some c) (q : R (dS ⟨#[c]⟩) h) : V2 K Θ (rIx K) (dS z) (dI i) h R := fun F ρ H vx vy Q rl a b k => by
  obtain rfl := a.str
  obtain rfl := b.int
  exact .inr (.inr ⟨z, i, c, rfl, rfl, hl, ha, k _ h _ F ρ H (Same.refl _) (Pre.refl _) rl (.p (.str _)) q⟩)
theorem v2_ixO {n : Nat} {xs : List D} {i : Int} (hn : h[n]? = some (some (.lst xs))) (ha : atI xs i = some d) (q : R d h) : V2 K Θ (rIx K) (.own n) (dI i) h R := fun F ρ H vx vy Q rl a b k => by
  obtain rfl := b.int
  cases a with
  | own a =>
    obtain ⟨p, u, e1, e2, e3, vs, e4, e5⟩ := rl.own _ _ hn
    rw [a] at e1; cases e1
    subst e4
    obtain ⟨v, h1, h2⟩ := e5.at_ ha
    exact .inl ⟨_, _, i, v, rfl, rfl, .of e3, h1, k _ h _ F ρ H (Same.refl _) (Pre.refl _) rl h2 q⟩
/-! ### slices -/
def VO (K : PySem.W.Frag) (Θ : Ctx) (to : TO) (env : Env') (h : Hs) (R : Option Int → Hs → Prop) : Prop :=
  ∀ (F : Hp) (ρ : List Addr) (σ : L2.St) (H : Hp) (Q : Option Int → Hp → Prop), Rel K Θ F ρ h H → REnv K F ρ env σ →
    (∀ (d : Option Int) (h' : Hs) (F' : Hp) (ρ' : List Addr) (H' : Hp), Same F F' → Pre ρ ρ' → Rel K Θ F' ρ' h' H' → R d h' → Q d H') → to σ H Q
theorem vo_none {R : Option Int → Hs → Prop} (q : R none h) : VO K Θ tNoPart env h R := fun F ρ σ H Q rl e k => k none h F ρ H (Same.refl _) (Pre.refl _) rl q
theorem vo_some {te : TE} {R : Option Int → Hs → Prop} (q : VE K Θ te env h fun x h1 => ∃ i, x = dI i ∧ R (some i) h1) : VO K Θ (tPart te) env h R := fun F ρ σ H Q rl e k =>
  q F ρ σ H _ rl e fun x h1 v F1 ρ1 H1 s1 p1 r1 dx q1 => by
    obtain ⟨i, rfl, q1⟩ := q1
    obtain rfl := dx.int
    exact ⟨i, rfl, k _ h1 F1 ρ1 H1 s1 p1 r1 q1⟩
def cutP {α : Type} (xs : List α) (lo hi : Option Int) : List α := (xs.drop (HT.sIx xs.length 0 lo)).take (HT.sIx xs.length xs.length hi - HT.sIx xs.length 0 lo)
theorem RPs.cut {F : Hp} {xs : List P} {vs : List V} (r : RPs K F xs vs) (lo hi : Option Int) : RPs K F (cutP xs lo hi) (cutV vs lo hi) := by
  unfold cutP cutV
  rw [r.len]
  exact (r.drop _).take _
theorem ve_slL {te : TE} {tl th : TO} (q : VE K Θ te env h fun x h1 => VO K Θ tl env h1 fun lo h2 => VO K Θ th env h2 fun hi h3 => ∃ xs, x = dL xs ∧ R (dL (cutP xs lo hi)) h3) : VE K Θ (tSl (rSlL K) te tl th) env h R := fun F ρ σ H Q rl e k =>
  q F ρ σ H _ rl e fun x h1 v F1 ρ1 H1 s1 p1 r1 dx q1 => q1 F1 ρ1 σ H1 _ r1 (e.mono s1 p1) fun lo h2 F2 ρ2 H2 s2 p2 r2 q2 => q2 F2 ρ2 σ H2 _ r2 (e.mono (s1.trans s2) (p1.trans p2)) fun hi h3 F3 ρ3 H3 s3 p3 r3 q3 => by
    obtain ⟨xs, rfl, q3⟩ := q3
    have dx3 := dx.mono (s2.trans s3) (p2.trans p3)
    cases dx3 with
    | p a =>
      cases a with
      | lst a r =>
        refine ⟨_, _, rfl, r3.same.seq a, fun p hp => ?_⟩
        have sn := fun o => same_new (o := o) (r3.free hp)
        exact k _ h3 _ _ ρ3 _ ((s1.trans (s2.trans s3)).trans (sn _)) (p1.trans (p2.trans p3)) (r3.frz hp) (.p (.lst (.of upd_same) ((r.cut lo hi).mono (sn _)))) q3
/-! ### calls of built-ins -/
theorem vc_len {n : Nat} (l : match x with | .p (.str y) => y.length ≤ sizeLine ∧ n = y.length | .p (.lst xs) => n = xs.length | .p (.tup xs) => n = xs.length | .own i => ∃ xs, h[i]? = some (some (.lst xs)) ∧ n = xs.length | _ => False) (q : R (dI n) h) :
    VC K Θ (fun xs H Q => ∃ x n, xs = [x] ∧ LenV K x H n ∧ Q (.int n) H) [x] h R := fun F ρ H vs Q rl a k => by
  cases a with
  | cons a b =>
    cases b
    have fin : ∀ v : V, LenV K v H n → ∃ x n, [v] = [x] ∧ LenV K x H n ∧ Q (.int n) H := fun v l => ⟨v, n, rfl, l, k _ h _ F ρ H (Same.refl _) (Pre.refl _) rl (.p (.int _)) q⟩
    cases a with
    | p a =>
      cases a with
      | str s => exact fin _ l
      | lst a r => exact fin _ (.inl ⟨_, rl.same.seq a, by rw [← r.len]; exact l⟩)
      | tup a r => exact fin _ (.inr ⟨_, sqT_mono rl.same a, by rw [← r.len]; exact l⟩)
      | _ => exact l.elim
    | own a =>
      obtain ⟨xs, hn, l⟩ := l
      obtain ⟨p, u, e1, e2, e3, vs, e4, e5⟩ := rl.own _ _ hn
      rw [a] at e1; cases e1
      subst e4
      exact fin _ (.inl ⟨vs, .of e3, by rw [← e5.len]; exact l⟩)
theorem vc_intI {i : Int} (q : R (dI i) h) : VC K Θ rIntU [dI i] h R := fun F ρ H vs Q rl a k => by
  cases a with
  | cons a b =>
    cases b
    obtain rfl := a.int
    exact .inl (.inl ⟨i, rfl, k _ h _ F ρ H (Same.refl _) (Pre.refl _) rl (.p (.int _)) q⟩)
theorem vc_2 {g : Int → Int → Int} {i j : Int} (q : R (dI (g i j)) h) : VC K Θ (fun xs H Q => ∃ i j, xs = [V.int i, V.int j] ∧ Q (.int (g i j)) H) [dI i, dI j] h R := fun F ρ H vs Q rl a k => by
  cases a with
  | cons a b =>
    cases b with
    | cons b c =>
      cases c
      obtain rfl := a.int
      obtain rfl := b.int
      exact ⟨i, j, rfl, k _ h _ F ρ H (Same.refl _) (Pre.refl _) rl (.p (.int _)) q⟩
theorem vc_min2 {i j : Int} (q : R (dI (if j < i then j else i)) h) : VC K Θ (fun xs H Q => ∃ i j, xs = [V.int i, V.int j] ∧ Q (.int (if j < i then j else i)) H) [dI i, dI j] h R := vc_2 (g := fun i j => if j < i then j else i) q
theorem vc_max2 {i j : Int} (q : R (dI (if j > i then j else i)) h) : VC K Θ (fun xs H Q => ∃ i j, xs = [V.int i, V.int j] ∧ Q (.int (if j > i then j else i)) H) [dI i, dI j] h R := vc_2 (g := fun i j => if j > i then j else i) q
/-- the items of a list or tuple -/
def SeqP (d : D) (h : Hs) (ps : List P) : Prop := match d with
  | .p (.lst xs) => xs = ps
  | .p (.tup xs) => xs = ps
  | .own i => h[i]? = some (some (.lst (ps.map D.p)))
  | _ => False
theorem SeqP.v {F : Hp} {ρ : List Addr} {H : Hp} {d : D} {v : V} {ps : List P} (rl : Rel K Θ F ρ h H) (a : RD K F ρ d v) (s : SeqP d h ps) : ∃ p vs, v = .ref p ∧ (SqL K H p vs ∨ SqT K H p vs) ∧ RPs K F ps vs := by
  cases a with
  | p a =>
    cases a with
    | lst a r => cases s; exact ⟨_, _, rfl, .inl (rl.same.seq a), r⟩
    | tup a r => cases s; exact ⟨_, _, rfl, .inr (sqT_mono rl.same a), r⟩
    | _ => exact s.elim
  | own a =>
    obtain ⟨p, u, e1, e2, e3, vs, e4, e5⟩ := rl.own _ _ s
    rw [a] at e1; cases e1
    subst e4
    exact ⟨_, _, rfl, .inl (.of e3), e5.pure⟩
theorem vc_tuple {ps : List P} (s : SeqP x h ps) (q : R (dT ps) h) : VC K Θ (fun xs H Q => ∃ p ys, xs = [V.ref p] ∧ ((SqL K H p ys ∧ ∀ l, H l = none → Q (.ref l) (upd H l (.tup ys))) ∨ (SqT K H p ys ∧ Q (.ref p) H))) [x] h R := fun F ρ H vs Q rl a k => by
  cases a with
  | cons a b =>
    cases b
    cases a with
    | p a =>
      cases a with
      | lst a r =>
        cases s
        refine ⟨_, _, rfl, .inl ⟨rl.same.seq a, fun l hl => ?_⟩⟩
        have sn := fun o => same_new (o := o) (rl.free hl)
        exact k _ h _ _ ρ _ (sn _) (Pre.refl _) (rl.frz hl) (.p (.tup (.of upd_same) (r.mono (sn _)))) q
      | tup a r =>
        cases s
        exact ⟨_, _, rfl, .inr ⟨sqT_mono rl.same a, k _ h _ F ρ H (Same.refl _) (Pre.refl _) rl (.p (.tup a r)) q⟩⟩
      | _ => exact s.elim
    | own a =>
      obtain ⟨p, u, e1, e2, e3, vs, e4, e5⟩ := rl.own _ _ s
      rw [a] at e1; cases e1
      subst e4
      refine ⟨_, _, rfl, .inl ⟨.of e3, fun l hl => ?_⟩⟩
      have sn := fun o => same_new (o := o) (rl.free hl)
      exact k _ h _ _ ρ _ (sn _) (Pre.refl _) (rl.frz hl) (.p (.tup (.of upd_same) (e5.pure.mono (sn _)))) q
/-- list(..): a new list that stays; one that is owned -/
theorem vc_list {ps : List P} (s : SeqP x h ps) (q : R (dL ps) h) : VC K Θ (fun xs H Q => ∃ p ys, xs = [V.ref p] ∧ (SqL K H p ys ∨ SqT K H p ys) ∧ ∀ l, H l = none → Q (.ref l) (upd H l (.lst ys))) [x] h R := fun F ρ H vs Q rl a k => by
  cases a with
  | cons a b =>
    cases b
    obtain ⟨p, us, rfl, sq, r⟩ := s.v rl a
    refine ⟨p, us, rfl, sq, fun l hl => ?_⟩
    have sn := fun o => same_new (o := o) (rl.free hl)
    exact k _ h _ _ ρ _ (sn _) (Pre.refl _) (rl.frz hl) (.p (.lst (.of upd_same) (r.mono (sn _)))) q
end
end Kb

/-! Defs and classes in data. -/
namespace Kb
open PySem PySem.Spec PyProof.Rows L2
def startD (N : List Str) (ds : List D) : Env' := ds.map some ++ List.replicate (N.length - ds.length) none
section
variable {K : PySem.W.Frag} {Θ : Ctx}
theorem renv_start {F : Hp} {ρ : List Addr} {N : List Str} {ds : List D} {vs : List V} (r : RA K F ρ ds vs) : REnv K F ρ (startD N ds) (L2.start N vs) := by
  have hl := r.len
  refine ⟨by unfold startD L2.start; simp [hl], fun i d h => ?_⟩
  unfold startD at h
  unfold L2.start
  by_cases hi : i < ds.length
  · rw [List.getElem?_append_left (by simpa using hi), List.getElem?_map] at h
    cases e : ds[i]? with
    | none => rw [e] at h; cases h
    | some d0 =>
      rw [e] at h; cases h
      obtain ⟨v, h1, h2⟩ := r.get e
      exact ⟨v, by rw [List.getElem?_append_left (by simp; omega), List.getElem?_map, h1]; rfl, h2⟩
  · rw [List.getElem?_append_right (by simp; omega), List.getElem?_replicate] at h
    split at h <;> cases h
/-! ### what a def leaves behind -/
theorem RA.lowP {F F0 : Hp} {ρ ρ' : List Addr} (p : Pre ρ ρ') : ∀ {ds : List D} {vs v0 : List V}, RA K F0 ρ ds v0 → RA K F ρ' ds vs → RA K F ρ ds vs
  | _, _, _, .nil, .nil => .nil
  | _, _, _, .cons a r, .cons b s => .cons (by
      cases b with
      | p b => exact .p b
      | own b =>
        cases a with
        | own a =>
          have z := p _ _ a
          rw [b] at z; cases z
          exact .own a) (RA.lowP p r s)
theorem RF.lowP {F F0 : Hp} {ρ ρ' : List Addr} (p : Pre ρ ρ') : ∀ {ds : List (Str × D)} {vs v0 : List (Str × V)}, RF K F0 ρ ds v0 → RF K F ρ' ds vs → RF K F ρ ds vs
  | _, _, _, .nil, .nil => .nil
  | _, _, _, .cons a r, .cons b s => .cons (by
      cases b with
      | p b => exact .p b
      | own b =>
        cases a with
        | own a =>
          have z := p _ _ a
          rw [b] at z; cases z
          exact .own a) (RF.lowP p r s)
theorem RK.lowP {κ : Type} {F F0 : Hp} {ρ ρ' : List Addr} (p : Pre ρ ρ') : ∀ {ds : List (κ × D)} {vs v0 : List (κ × V)}, RK K F0 ρ ds v0 → RK K F ρ' ds vs → RK K F ρ ds vs
  | _, _, _, .nil, .nil => .nil
  | _, _, _, .cons a r, .cons b s => .cons (by
      cases b with
      | p b => exact .p b
      | own b =>
        cases a with
        | own a =>
          have z := p _ _ a
          rw [b] at z; cases z
          exact .own a) (RK.lowP p r s)
theorem RO.lowP {a0 : Addr} {F F0 : Hp} {ρ ρ' : List Addr} (p : Pre ρ ρ') {o : OO} {u u0 : HO} (a : RO K a0 F0 ρ o u0) (b : RO K a0 F ρ' o u) : RO K a0 F ρ o u := by
  cases o with
  | lst xs =>
    obtain ⟨v0, _, r0⟩ := a
    obtain ⟨vs, e, r⟩ := b
    exact ⟨vs, e, r0.lowP p r⟩
  | ins C fs =>
    obtain ⟨d0, g0, _, r0⟩ := a
    obtain ⟨dx, gs, e, r⟩ := b
    exact ⟨dx, gs, e, r0.lowP p r⟩
  | dK kvs =>
    obtain ⟨g0, _, r0⟩ := a
    obtain ⟨gs, e, r⟩ := b
    exact ⟨gs, e, r0.lowP p r⟩
  | dT kvs =>
    obtain ⟨g0, _, r0⟩ := a
    obtain ⟨gs, e, r⟩ := b
    exact ⟨gs, e, r0.lowP p r⟩
  | dN pw kvs =>
    obtain ⟨g0, _, _, r0⟩ := a
    obtain ⟨gs, e, q, r⟩ := b
    exact ⟨gs, e, q, r0.lowP p r⟩
  | dL pw od gs kvs =>
    obtain ⟨_, _, r0⟩ := a
    obtain ⟨e, q, r⟩ := b
    exact ⟨e, q, r0.lowP p r⟩
theorem Rel.back {F F' : Hp} {ρ ρ' : List Addr} {h junk : Hs} {H H' : Hp} (r0 : Rel K Θ F ρ h H) (s : Same F F') (p : Pre ρ ρ') (r : Rel K Θ F' ρ' (h ++ junk) H') : Rel K Θ F' ρ h H' := by
  have lt : ∀ (i : Nat) (o' : OO), h[i]? = some (some o') → i < h.length := fun i o' e => (List.getElem?_eq_some_iff.mp e).1
  have up : ∀ (i : Nat) (o' : OO), h[i]? = some (some o') → (h ++ junk)[i]? = some (some o') := fun i o' e => by rw [List.getElem?_append_left (lt i o' e)]; exact e
  refine ⟨⟨r.same, r0.len, fun i o' hi => ?_, fun i j o1 o2 a hi hj ha hb => r.inj i j o1 o2 a (up i o1 hi) (up j o2 hj) (p _ _ ha) (p _ _ hb), r.tab, r.lam⟩, r0.wish.mono s (Pre.refl _)⟩
  obtain ⟨a, u, h1, h2, h3, h4⟩ := r.own i o' (up i o' hi)
  obtain ⟨a0, u0, g1, g2, g3, g4⟩ := r0.own i o' hi
  have z := p _ _ g1
  rw [h1] at z; cases z
  exact ⟨a, u, g1, h2, h3, g4.lowP p h4⟩
/-- behind a def that leaves what was owned as it was -/
def Fin (h : Hs) (R : D → Hs → Prop) (d : D) (h' : Hs) : Prop := ∃ junk, h' = h ++ junk ∧
  ((∃ p, d = .p p ∧ R (.p p) h) ∨ (∃ n ps, d = .own n ∧ h.length ≤ n ∧ h'[n]? = some (some (.lst (ps.map D.p))) ∧ R (dL ps) h) ∨
    ∃ n C fs, d = .own n ∧ h.length ≤ n ∧ h'[n]? = some (some (.ins C (fs.map fun q => (q.1, D.p q.2)))) ∧ R (.p (.ins C fs)) h)
theorem fin_p0 {h : Hs} {R : D → Hs → Prop} {p : P} (q : R (.p p) h) : Fin h R (.p p) h := ⟨[], by simp, .inl ⟨p, rfl, q⟩⟩
theorem fin_run {F F' : Hp} {ρ ρ' : List Addr} {h h' : Hs} {H H' : Hp} {R : D → Hs → Prop} {d : D} {v : V} {Q : VK} (r0 : Rel K Θ F ρ h H) (s : Same F F') (p : Pre ρ ρ') (r : Rel K Θ F' ρ' h' H') (dv : RD K F' ρ' d v) (f : Fin h R d h')
    (k : ∀ (d : D) (F2 : Hp), Same F F2 → Rel K Θ F2 ρ h H' → RD K F2 ρ d v → R d h → Q v H') : Q v H' := by
  obtain ⟨junk, rfl, f⟩ := f
  have st : ∀ (n : Nat), h.length ≤ n → (h ++ junk).set n none = h ++ junk.set (n - h.length) none := fun n hn => List.set_append_right _ _ hn
  rcases f with ⟨x, rfl, q⟩ | ⟨n, ps, rfl, hn, hx, q⟩ | ⟨n, C, fs, rfl, hn, hx, q⟩
  · cases dv with
    | p dv => exact k _ F' s (r0.back s p r) (.p dv) q
  · cases dv with
    | own dv =>
      obtain ⟨a, u, e1, e2, e3, e4, r2⟩ := r.freeze hx
      rw [dv] at e1; cases e1
      rw [st n hn] at r2
      obtain ⟨vs, rfl, e5⟩ := e4
      exact k _ _ (s.trans (same_new e2)) (r0.back (s.trans (same_new e2)) p r2) (.p (.lst (.of upd_same) e5.pure)) q
  · cases dv with
    | own dv =>
      obtain ⟨a, u, e1, e2, e3, e4, r2⟩ := r.freeze hx
      rw [dv] at e1; cases e1
      rw [st n hn] at r2
      obtain ⟨dx, gs, rfl, e5⟩ := e4
      exact k _ _ (s.trans (same_new e2)) (r0.back (s.trans (same_new e2)) p r2) (.p (.ins upd_same e5.pure)) q
theorem vs_fin {t : TS} {R : D → Hs → Prop} {env : Env'} {h : Hs} (q : VS K Θ t { nx := fun _ h' => Fin h R dN h', rt := Fin h R } env h) : VS K Θ t { nx := fun _ h' => R dN h', rt := R } env h := fun F ρ σ H D' rl e k => by
  refine q F ρ σ H ⟨fun σ' H' => D'.nx σ' H', fun v H' => D'.rt v H', D'.bk, D'.ct⟩ rl e ⟨fun env' h' F' ρ' σ' H' s p r e' f => ?_, fun d h' v F' ρ' H' s p r dv f => ?_, fun _ _ _ _ _ _ _ _ _ _ z => z.elim, fun _ _ _ _ _ _ _ _ _ _ z => z.elim⟩
  · refine fin_run (v := .non) (Q := fun _ H' => D'.nx σ' H') rl s p r (.p .non) f fun d F2 s2 r2 d2 q2 => ?_
    have ed : d = dN ∨ d ≠ dN := by cases d with
      | own i => exact .inr (fun z => by cases z)
      | p x => cases x <;> first | exact .inl rfl | exact .inr (fun z => by cases z)
    obtain ⟨junk, _, f⟩ := f
    have q3 : R dN h := by
      rcases f with ⟨x, ex, q⟩ | ⟨n, ps, ex, _⟩ | ⟨n, C, fs, ex, _⟩
      · cases ex; exact q
      · cases ex
      · cases ex
    refine k.nx (List.replicate σ'.length none) h F2 ρ σ' H' s2 (Pre.refl _) r2 ⟨by simp, fun i d z => ?_⟩ q3
    rw [List.getElem?_replicate] at z
    split at z <;> cases z
  · exact fin_run rl s p r dv f fun d F2 s2 r2 d2 q2 => k.rt d h v F2 ρ H' s2 (Pre.refl _) r2 d2 q2
variable {P : Program} {w : World} {mg : Str → Option Value} {base : Heap} {x : Str} {st : Stmt} {N ps : List Str} {k : Nat}
/-- a def whose body keeps a promise in data -/
theorem DefAt.okD {T : Tbs} (A : DefAt K mg x st ps) (S : FnScope N ps (defScope st)) (W : Spc) (len : ∀ ds h R, W ds h R → ds.length = ps.length)
    (hbody : ∀ (f : Addr) (cdv : Value) (A : Around) (outer : List Env) (s : Shared) (H : Hp) (E : XK), Room k (A.deeper (envOfC x (defScope st) s.heap.objs.size f cdv)) →
      ∃ t, PSs (cxOf CX0 P w K mg base N x (defScope st) f cdv A outer s H E).nox (defBody st) t ∧ ∀ ds h R, W ds h R → VS K (Ctx.plain T) t { nx := fun _ h' => R dN h', rt := R } (startD N ds) h) : HasF P w K mg base CX0 (k + 1) x ps (spD K T W) := by
  refine A.ok S (fun vs H Q E h => ?_) fun f cdv A outer s H vs Q E hr h => ?_
  · obtain ⟨ds, h, F, ρ, R, rl, ra, hw, _⟩ := h
    rw [← ra.len]
    exact len ds h R hw
  · obtain ⟨ds, h, F, ρ, R, rl, ra, hw, kq⟩ := h
    obtain ⟨t, ht, q⟩ := hbody f cdv A outer s H E hr
    refine ⟨t, ht, q ds h R hw F ρ _ H _ rl.plain (renv_start ra) ⟨fun env' h' F' ρ' σ' H' s p r e q => kq dN h' .non F' ρ' H' s p r.toBase (.p .non) q, fun d h' v F' ρ' H' s p r dv q => kq d h' v F' ρ' H' s p r.toBase dv q, fun _ _ _ _ _ _ _ _ _ _ z => z.elim, fun _ _ _ _ _ _ _ _ _ _ z => z.elim⟩⟩
end
end Kb

/-! The rules in the forms that are tried one after the other. -/
namespace Kb
open PySem PySem.Spec PyProof.Rows L2
section
variable {K : PySem.W.Frag} {Θ : Ctx} {env : Env'} {h : Hs} {R : D → Hs → Prop} {x y d : D} {i j : Int}
theorem log2_small {n : Nat} (h : n < 2 ^ 200) : n.log2 < 200 := PySem.Flt.log2_lt_of (by decide) h
theorem cmul_small (hi : i.natAbs < 2 ^ 200) (hj : j.natAbs < 2 ^ 200) : CMulX i j := by
  have h1 := log2_small hi
  have h2 := log2_small hj
  unfold CMulX
  omega
theorem cmul_wide (hi : i.natAbs.log2 < 2000000) (hj : j.natAbs < 2 ^ 200) : CMulX i j := by
  have h2 := log2_small hj
  unfold CMulX
  omega
theorem v2_mul (c : CMulX i j) (q : R (dI (i * j)) h) : V2 K Θ (rI CMulX fun i j => V.int (i * j)) (dI i) (dI j) h R := v2_I (g := fun i j => i * j) c q
theorem v2_mod (c : 0 < j) (q : R (dI (i % j)) h) : V2 K Θ (rI (fun _ j => 0 < j) fun i j => V.int (i % j)) (dI i) (dI j) h R := v2_I (g := fun i j => i % j) c q
theorem v2_div (c : 0 < j ∧ j < 1073741824) (q : R (dI (i / j)) h) : V2 K Θ (rI CDiv fun i j => V.int (i / j)) (dI i) (dI j) h R := v2_I (g := fun i j => i / j) c q
theorem v2_pow (c : 0 ≤ j ∧ j ≤ 1000000 ∧ i.natAbs < 2 ^ 64) (q : R (dI (i ^ j.toNat)) h) : V2 K Θ (rI CPow fun i j => V.int (i ^ j.toNat)) (dI i) (dI j) h R := v2_I (g := fun i j => i ^ j.toNat) c q
theorem v2_sub (q : R (dI (i - j)) h) : V2 K Θ (rI0 fun i j => V.int (i - j)) (dI i) (dI j) h R := v2_I0 (g := fun i j => i - j) q
theorem v2_lt (q : R (dB (decide (i < j))) h) : V2 K Θ (rI0 fun i j => V.bl (decide (i < j))) (dI i) (dI j) h R := v2_B0 (g := fun i j => decide (i < j)) q
theorem v2_le (q : R (dB (decide (i ≤ j))) h) : V2 K Θ (rI0 fun i j => V.bl (decide (i ≤ j))) (dI i) (dI j) h R := v2_B0 (g := fun i j => decide (i ≤ j)) q
theorem v2_gt (q : R (dB (decide (j < i))) h) : V2 K Θ (rI0 fun i j => V.bl (decide (j < i))) (dI i) (dI j) h R := v2_B0 (g := fun i j => decide (j < i)) q
theorem v2_ge (q : R (dB (decide (j ≤ i))) h) : V2 K Θ (rI0 fun i j => V.bl (decide (j ≤ i))) (dI i) (dI j) h R := v2_B0 (g := fun i j => decide (j ≤ i)) q
/-- the test's answer -/
theorem bool_ans {c : Bool} {B : Bool → Prop} (q : B c) : ∃ c', dB c = dB c' ∧ B c' := ⟨c, rfl, q⟩
theorem tru_bl {c : Bool} {h : Hs} {B : Bool → Prop} (q : B c) : ∃ c', TruD (dB c) h c' ∧ B c' := ⟨c, rfl, q⟩
theorem ite_dec {c : Prop} [Decidable c] {A B : Prop} (h1 : c → A) (h2 : ¬ c → B) : if decide c = true then A else B := by
  by_cases h : c
  · rw [decide_eq_true h, if_pos rfl]; exact h1 h
  · rw [decide_eq_false h, if_neg Bool.false_ne_true]; exact h2 h
theorem ite_ndec {c : Prop} [Decidable c] {A B : Prop} (h1 : ¬ c → A) (h2 : c → B) : if (!decide c) = true then A else B := by
  by_cases h : c
  · rw [decide_eq_true h]; exact h2 h
  · rw [decide_eq_false h]; exact h1 h
theorem ite_b {c : Bool} {A B : Prop} (h1 : c = true → A) (h2 : c = false → B) : if c = true then A else B := by
  cases c with
  | true => exact h1 rfl
  | false => exact h2 rfl
theorem ite_nb {c : Bool} {A B : Prop} (h1 : c = false → A) (h2 : c = true → B) : if (!c) = true then A else B := by
  cases c with
  | true => exact h2 rfl
  | false => exact h1 rfl
theorem ite_t {A B : Prop} (h : A) : if true = true then A else B := by rw [if_pos rfl]; exact h
theorem at_nat {α : Type} {xs : List α} {i : Int} {v : α} (n : Nat) (e : i = (n : Int)) (h : xs[n]? = some v) : atI xs i = some v := by
  rw [e]; exact atI_nat h
end
end Kb

/-! sorted(xs, key=f), f a def of the program. -/
namespace Kb
open PySem PySem.Spec PyProof.Rows L2
open PySem.W (dataLe KeyedOut AllAlike Sortable)
section
variable {X : Cx} {pins : List (Addr × Obj)} {σ : L2.St} {H : Hp} {s : Shared}
end
/-! ### in data -/
section
variable {K : PySem.W.Frag} {Θ : Ctx} {env : Env'} {h : Hs} {R : D → Hs → Prop}
end
end Kb

/-! Classes, isinstance, defs that call themselves. -/
namespace Kb
open PySem PySem.Spec PyProof.Rows L2
section
variable {X : Cx} {CX : CXT} {k : Nat} {x m : Str} {C : Addr} {ps : List Str} {sp : Sp} {E : XK} {p pos apos : Pos} {e o : Expr} {es : List Expr} {t : TA} {ta : TE}
end
section
variable {Pg : Program} {w : World} {K : PySem.W.Frag} {T : Tbs} {mg : Str → Option Value} {base : Heap} {x m qual : Str} {st : Stmt} {N ps : List Str} {k : Nat} {C : Addr}
theorem fnD {x qual : Str} {f : Addr} {fd : FuncData} (F : Fun K x qual st f fd) (S : FnScope N ps (defScope st)) (W : Spc) (len : ∀ ds h R, W ds h R → ds.length = ps.length)
    (hbody : ∀ (cdv : Value) (A : Around) (outer : List Env) (s : Shared) (H : Hp) (E : XK), Room k (A.deeper (envOfC qual (defScope st) s.heap.objs.size f cdv)) →
      ∃ t, PSs (cxOf CX0 Pg w K mg base N qual (defScope st) f cdv A outer s H E).nox (defBody st) t ∧ ∀ ds h R, W ds h R → VS K (Ctx.plain T) t { nx := fun _ h' => R dN h', rt := R } (startD N ds) h) : FnOk Pg w K mg base CX0 (k + 1) f fd ps (spD K T W) := by
  refine F.ok S (fun vs H Q E h => ?_) fun cdv A outer s H vs Q E hr h => ?_
  · obtain ⟨ds, h, F, ρ, R, rl, ra, hw, _⟩ := h
    rw [← ra.len]
    exact len ds h R hw
  · obtain ⟨ds, h, F, ρ, R, rl, ra, hw, kq⟩ := h
    obtain ⟨t, ht, q⟩ := hbody cdv A outer s H E hr
    exact ⟨t, ht, q ds h R hw F ρ _ H _ rl.plain (renv_start ra) ⟨fun env' h' F' ρ' σ' H' s p r e q => kq dN h' .non F' ρ' H' s p r.toBase (.p .non) q, fun d h' v F' ρ' H' s p r dv q => kq d h' v F' ρ' H' s p r.toBase dv q, fun _ _ _ _ _ _ _ _ _ _ z => z.elim, fun _ _ _ _ _ _ _ _ _ _ z => z.elim⟩⟩
/-- a def that nobody may call yet -/
theorem HasF.never (A : DefAt K mg x st ps) (S : FnScope N ps (defScope st)) {W : Spc} (hw : ∀ ds h R, ¬ W ds h R) : HasF Pg w K mg base CX0 (k + 1) x ps (spD K T W) :=
  A.okD S W (fun ds h R q => (hw _ _ _ q).elim) fun f cdv A outer s H E hr => ⟨_, pss_never, fun ds h R q => (hw _ _ _ q).elim⟩
end
section
variable {K : PySem.W.Frag} {Θ : Ctx} {env : Env'} {h : Hs} {R : D → Hs → Prop} {ta : TE} {t : TA} {C : Addr}
/-- the name of the type of what is written data -/
def tyN : P → Option String
  | .non => some "NoneType"
  | .bl _ => some "bool"
  | .int _ => some "int"
  | .str _ => some "str"
  | .tup _ => some "tuple"
  | .ktp _ => some "tuple"
  | .lst _ => some "list"
  | _ => none
def tyD (d : D) (h : Hs) (T : String) : Prop := match d with
  | .p p => tyN p = some T
  | .own i => T = "list" ∧ ∃ xs, h[i]? = some (some (.lst xs))
def isA (a b : String) : Bool := a == b || (a == "bool" && b == "int")
theorem tyD.v {F : Hp} {ρ : List Addr} {H : Hp} {d : D} {v : V} {T : String} (r : Rel K Θ F ρ h H) (q : RD K F ρ d v) (hT : tyD d h T) : TyX K H v (.type T) := by
  cases q with
  | p q =>
    cases q with
    | non => cases hT; exact .base .non
    | bl b => cases hT; exact .base (.bl b)
    | int b => cases hT; exact .base (.int b)
    | str b => cases hT; exact .base (.str b)
    | tup a b =>
      cases hT
      rcases sqT_mono r.same a with (a | ⟨o, a⟩) | ⟨o, its, n, a, c, _⟩
      · exact .base (.tup a)
      · exact .fTuple a
      · exact .kTuple a c
    | ktp a b =>
      cases hT
      rcases a (fun _ => none) with (a | ⟨o, a⟩) | ⟨o, its, n, a, c, _⟩
      · cases a
      · cases a
      · exact .kTuple a c
    | lst a b =>
      cases hT
      rcases r.same.seq a with (a | ⟨o, a⟩) | ⟨o, its, n, a, c, _⟩
      · exact .base (.lst a)
      · exact .base (.frz a)
      · exact .kList a c
    | ins a b => cases hT
    | ty n => cases hT
    | cls n => cases hT
  | own e =>
    obtain ⟨rfl, xs, hx⟩ := hT
    obtain ⟨a, u, e1, e2, e3, vs, e4, _⟩ := r.own _ _ hx
    rw [e] at e1; cases e1
    subst e4
    exact .base (.lst e3)
theorem isA_kit {a b : String} (ha : a ∈ ["NoneType", "bool", "int", "str", "tuple", "list"]) (hb : b ∈ ["bool", "int", "str", "tuple", "list", "dict"]) : PySem.W.kitOne K (.type a) (.type b) = some (isA a b) := by
  refine kit_ty ?_
  have all : ∀ a ∈ ["NoneType", "bool", "int", "str", "tuple", "list"], ∀ b ∈ ["bool", "int", "str", "tuple", "list", "dict"], kitB a b = some (isA a b) := by decide +kernel
  exact all a ha b hb
theorem tyD_mem {d : D} {T : String} (hT : tyD d h T) : T ∈ ["NoneType", "bool", "int", "str", "tuple", "list"] := by
  cases d with
  | p p =>
    cases p <;> first | (cases hT; decide) | cases hT
  | own i => rw [hT.1]; decide
/-- isinstance(x, T) -/
theorem vc_isi {x : D} {T n : String} (hT : tyD x h T) (hn : n ∈ ["bool", "int", "str", "tuple", "list", "dict"]) (q : R (dB (isA T n)) h) : VC K Θ (rIsiU K) [x, .p (.ty n)] h R := fun F ρ H vs Q rl a k => by
  cases a with
  | cons a b =>
    cases b with
    | cons b c =>
      cases c
      cases b with
      | p b =>
        cases b
        exact .inl ⟨_, _, _, _, _, rfl, .ty n, hT.v rl a, isA_kit (tyD_mem hT) hn, k _ h _ F ρ H (Same.refl _) (Pre.refl _) rl (.p (.bl _)) q⟩
/-- isinstance(x, (T, S)) -/
theorem ve_isi2 {m n : String} (q : VE K Θ ta env h fun x h1 => ∃ T, tyD x h1 T ∧ m ∈ ["bool", "int", "str", "tuple", "list", "dict"] ∧ n ∈ ["bool", "int", "str", "tuple", "list", "dict"] ∧ R (dB (isA T m || isA T n)) h1) :
    VE K Θ (tCB (rIsiU K) (tCons ta (tCons (tTup (tCons (tC (.ty m)) (tCons (tC (.ty n)) tNil))) tNil))) env h R := fun F ρ σ H Q rl e k =>
  q F ρ σ H _ rl e fun x h1 vx F1 ρ1 H1 s1 p1 r1 dx q1 => by
    obtain ⟨T, hT, hm, hn, q1⟩ := q1
    refine ⟨by show 2 ≤ sizeLine; exact sz_le (by decide), fun p hp => ?_⟩
    have r2 : Rel K Θ (upd F1 p (.tup [.ty m, .ty n])) ρ1 h1 (upd H1 p (.tup [.ty m, .ty n])) := r1.frz hp
    have sn : Same F1 (upd F1 p (.tup [.ty m, .ty n])) := same_new (r1.free hp)
    refine .inr ⟨vx, p, [.ty m, .ty n], _, [.type m, .type n], isA T m || isA T n, rfl, upd_same, .cons (.ty m) (.cons (.ty n) .nil), hT.v r2 (dx.mono sn (Pre.refl _)), ?_, ?_⟩
    · have e1 := isA_kit (K := K) (tyD_mem hT) hm
      have e2 := isA_kit (K := K) (tyD_mem hT) hn
      refine kitAny_cons e1 (fun z => ?_) fun z => by rw [z]; rfl
      rw [z, Bool.false_or]
      refine kitAny_cons e2 (fun z2 => ?_) fun z2 => z2
      rw [z2]
      rfl
    · exact k _ h1 _ _ ρ1 _ (s1.trans sn) p1 r2 (.p (.bl _)) q1
end
end Kb

/-! What is walked is a list or a tuple; data of bounded depth. -/
namespace Kb
open PySem PySem.Spec PyProof.Rows L2
/-- either kind -/
def iSeq (K : PySem.W.Frag) (tl : TE) : TI := fun σ H R => tl σ H fun x H1 => (∃ a, x = .ref a ∧ (∃ xs, SqL K H1 a xs) ∧ R (Itl K a) H1) ∨ ∃ a, x = .ref a ∧ (∃ xs, SqT K H1 a xs) ∧ R (Itt K a) H1
theorem pi_seq {X : Cx} {tg l : Expr} {tl : TE} (hl : PE X l tl) : PI X tg l (iSeq X.K tl) := by
  refine ⟨fun pins s σ H R I h => ?_⟩
  refine thn (hl.run pins s σ H _ I h) fun v s1 ⟨x, H1, I1, r1, q1⟩ => ?_
  have fin : ∀ b ∈ [s1.heap.objs.size], _ := fun b hb => by
    have e : b = s1.heap.objs.size := by simpa using hb
    subst e
    exact I1.fpOk (Nat.le_refl _) (I1.hok.fresh (Nat.le_refl _))
  rcases q1 with q1 | q1 <;> obtain ⟨a, e, ⟨xs, hq⟩, q⟩ := q1 <;> subst e <;> cases r1
  · obtain ⟨its, rv, p, hz⟩ := I1.list hq
    refine wpAny_pyIter_list p.isList ?_
    exact ⟨s1.heap.objs.size, [s1.heap.objs.size], _, _, H1, rfl, I1.kept (t' := s1.toks) fun b o e => Heap.get?_push_of_some _ e, turn_list a _, ⟨_, Heap.get?_push_size _ rfl, rfl, rfl⟩, fin, q⟩
  · obtain ⟨its, rv, p, hz⟩ := I1.tuple hq
    refine wpAny_pyIter_tuple (show s1.heap.IsTuple a its.toArray from p) ?_
    exact ⟨s1.heap.objs.size, [s1.heap.objs.size], _, _, H1, rfl, I1.kept (t' := s1.toks) fun b o e => Heap.get?_push_of_some _ e, turn_tuple a _, ⟨_, Heap.get?_push_size _ rfl, rfl, rfl⟩, fin, q⟩
section
variable {K : PySem.W.Frag} {Θ : Ctx} {env : Env'} {h : Hs}
theorem vi_seqL {tl : TE} {R : List D → (Hs → Prop) → Hs → Prop} (q : VE K Θ tl env h fun x h1 => ∃ ps, x = dL ps ∧ R (ps.map D.p) (fun _ => True) h1) : VI K Θ (iSeq K tl) env h R := fun F ρ σ H Q rl e k =>
  q F ρ σ H _ rl e fun x h1 vx F1 ρ1 H1 s1 p1 r1 dx q1 => by
    obtain ⟨ps, rfl, q1⟩ := q1
    cases dx with
    | p dx =>
      cases dx with
      | @lst a _ vs ha rp =>
        refine .inl ⟨a, rfl, ⟨vs, r1.same.seq ha⟩, k (ps.map D.p) (fun _ => True) h1 _ F1 ρ1 H1 s1 p1 r1 ⟨fun F' ρ' h' H' s p r _ => ?_, fun i F' ρ' h' H' s p r _ hi => ?_, fun i d F' ρ' h' H' x H2 s p r _ hd hy => ?_⟩ q1⟩
        · exact ⟨vs, r.same.seq (s.seq ha), by rw [List.length_map, rp.len]; exact Nat.le_refl _⟩
        · rw [List.length_map, rp.len] at hi
          exact ⟨vs, vs[i], r.same.seq (s.seq ha), List.getElem?_eq_getElem hi⟩
        · obtain ⟨e1, e2⟩ := hy
          subst e1
          rw [List.getElem?_map] at hd
          cases hp : ps[i]? with
          | none => rw [hp] at hd; cases hd
          | some p0 =>
            rw [hp] at hd; cases hd
            obtain ⟨v, hv, rv⟩ := rp.get hp
            have ev := e2 vs (r.same.seq (s.seq ha))
            rw [hv] at ev; cases ev
            exact ⟨F', Same.refl _, r, .p (rv.mono s)⟩
theorem vc_lenL {xs : List P} {R : D → Hs → Prop} (q : R (dI xs.length) h) : VC K Θ (fun xs H Q => ∃ x n, xs = [x] ∧ LenV K x H n ∧ Q (.int n) H) [dL xs] h R := vc_len (n := xs.length) rfl q
theorem vc_lenT {xs : List P} {R : D → Hs → Prop} (q : R (dI xs.length) h) : VC K Θ (fun xs H Q => ∃ x n, xs = [x] ∧ LenV K x H n ∧ Q (.int n) H) [dT xs] h R := vc_len (n := xs.length) rfl q
theorem vc_lenO {i : Nat} {xs : List D} {R : D → Hs → Prop} (hx : h[i]? = some (some (.lst xs))) (q : R (dI xs.length) h) : VC K Θ (fun xs H Q => ∃ x n, xs = [x] ∧ LenV K x H n ∧ Q (.int n) H) [.own i] h R := vc_len (n := xs.length) ⟨xs, hx, rfl⟩ q
theorem ite_nrefl {α : Type} [DecidableEq α] {a : α} {A B : Prop} (q : B) : if (!decide (a = a)) = true then A else B := by rw [decide_eq_true (rfl : a = a)]; exact q
theorem ite_refl {α : Type} [DecidableEq α] {a : α} {A B : Prop} (q : A) : if decide (a = a) = true then A else B := by rw [decide_eq_true (rfl : a = a)]; exact q
theorem isi2_i {x : D} {T m n : String} {S : String → Prop} (hT : tyD x h T) (hm : m ∈ ["bool", "int", "str", "tuple", "list", "dict"]) (hn : n ∈ ["bool", "int", "str", "tuple", "list", "dict"]) (q : S T) :
    ∃ T, tyD x h T ∧ m ∈ ["bool", "int", "str", "tuple", "list", "dict"] ∧ n ∈ ["bool", "int", "str", "tuple", "list", "dict"] ∧ S T := ⟨T, hT, hm, hn, q⟩
theorem ite_tt {c : Bool} {A B : Prop} (e : c = true) (q : A) : if c = true then A else B := by rw [if_pos e]; exact q
theorem ite_ff {c : Bool} {A B : Prop} (e : c = false) (q : B) : if c = true then A else B := by rw [e, if_neg Bool.false_ne_true]; exact q
theorem vt_yes {B : Bool → Hs → Prop} (q : B true h) : VT K Θ tYes env h B := fun F ρ σ H Q rl e k => k true h F ρ H (Same.refl _) (Pre.refl _) rl q
end
/-- written data of bounded depth and bounded lengths -/
def okP : Nat → P → Bool
  | _, .non => true
  | _, .bl _ => true
  | _, .int _ => true
  | _, .str s => decide (s.length ≤ 100000)
  | n + 1, .tup xs => decide (xs.length ≤ 100000) && xs.all (okP n)
  | n + 1, .lst xs => decide (xs.length ≤ 100000) && xs.all (okP n)
  | _, _ => false
theorem okP_tup {n : Nat} {xs : List P} (h : okP n (.tup xs) = true) : ∃ m, n = m + 1 ∧ xs.length ≤ 100000 ∧ ∀ x ∈ xs, okP m x = true := by
  cases n with
  | zero => simp [okP] at h
  | succ n =>
    simp only [okP, Bool.and_eq_true, decide_eq_true_eq, List.all_eq_true] at h
    exact ⟨n, rfl, h.1, h.2⟩
theorem okP_lst {n : Nat} {xs : List P} (h : okP n (.lst xs) = true) : ∃ m, n = m + 1 ∧ xs.length ≤ 100000 ∧ ∀ x ∈ xs, okP m x = true := by
  cases n with
  | zero => simp [okP] at h
  | succ n =>
    simp only [okP, Bool.and_eq_true, decide_eq_true_eq, List.all_eq_true] at h
    exact ⟨n, rfl, h.1, h.2⟩
end Kb

/-! sum of a list or a tuple; fields; more steps. -/
namespace Kb
open PySem PySem.Spec PyProof.Rows L2
section
variable {prog : Program} {w : World} {A : Around} {E : Value → Shared → Prop} {s : Shared} {l : Addr} {its : List Value} {ns : List Int} {Q : Value → Shared → Prop}
end
section
variable {X : Cx}
end
section
variable {K : PySem.W.Frag} {Θ : Ctx} {env : Env'} {h : Hs} {R : D → Hs → Prop}
class IsPs (xs : List D) (ps : outParam (List P)) : Prop where
  eq : xs = ps.map D.p
instance : IsPs [] [] := ⟨rfl⟩
instance {x : P} {ds : List D} {ps : List P} [h : IsPs ds ps] : IsPs (.p x :: ds) (x :: ps) := ⟨by rw [h.eq]; rfl⟩
theorem tup_j {S : List P → Prop} {xs : List D} {ps : List P} [ex : IsPs xs ps] (hl : Nat.ble xs.length 100000 = true) (q : S ps) : ∃ ps, xs = ps.map D.p ∧ xs.length ≤ sizeLine ∧ S ps := ⟨ps, ex.eq, sz_le (Nat.le_of_ble_eq_true hl), q⟩
end
end Kb

/-! The rules with the kit's part named: they serve in the block of a comprehension too. -/
namespace Kb
open PySem PySem.Spec PyProof.Rows L2
section
variable {X : Cx} {K : PySem.W.Frag}
theorem op_eqUK (hK : X.K = K) (hu : X.A.units + 64 < cLine) : OpR X (compareOp .Eq) (rEqU K) := hK ▸ op_eqU hu
theorem op_neUK (hK : X.K = K) (hu : X.A.units + 64 < cLine) : OpR X (compareOp .NotEq) (rNeU K) := hK ▸ op_neU hu
theorem ix_seqK (hK : X.K = K) : IxR X (rIx K) := hK ▸ ix_seq
theorem sl_listK (hK : X.K = K) : SlR X (rSlL K) := hK ▸ sl_list
theorem call_lenK (hK : X.K = K) : CallR X (.builtin "len") (fun xs H Q => ∃ x n, xs = [x] ∧ LenV K x H n ∧ Q (.int n) H) := hK ▸ call_len
theorem call_isiUK (hK : X.K = K) : CallR X (.builtin "isinstance") (rIsiU K) := hK ▸ call_isiU
theorem call_list_ofK (hK : X.K = K) : CallR X (.type "list") (fun xs H Q => ∃ p ys, xs = [.ref p] ∧ (SqL K H p ys ∨ SqT K H p ys) ∧ ∀ l, H l = none → Q (.ref l) (upd H l (.lst ys))) := hK ▸ call_list_of
theorem call_tuple_ofK (hK : X.K = K) : CallR X (.type "tuple") (fun xs H Q => ∃ p ys, xs = [.ref p] ∧ ((SqL K H p ys ∧ ∀ l, H l = none → Q (.ref l) (upd H l (.tup ys))) ∨ (SqT K H p ys ∧ Q (.ref p) H))) := hK ▸ call_tuple_of
theorem pi_seqK {tg l : Expr} {tl : TE} (hK : X.K = K) (hl : PE X l tl) : PI X tg l (iSeq K tl) := hK ▸ pi_seq hl
end
section
variable {K : PySem.W.Frag} {Θ : Ctx} {env : Env'} {h : Hs} {E : En} {t1 t2 : TS}
/-- what is known between two statements -/
theorem vs_cut (I : Env' → Hs → Prop) (q : VS K Θ t1 { E with nx := I } env h) (k : ∀ env' h', I env' h' → VS K Θ t2 E env' h') : VS K Θ (tSeq t1 t2) E env h :=
  vs_seq (VS.imp q k (fun _ _ x => x) (fun _ _ x => x) fun _ _ x => x)
end
end Kb

/-! Keys of three numbers; lists of pairs of numbers; membership. -/
namespace Kb
open PySem PySem.Spec PyProof.Rows L2
open PySem.W (dataLe dataLt AllAlike Sortable)
section
variable {K : PySem.W.Frag} {Θ : Ctx} {h : Hs} {R : D → Hs → Prop}
end
end Kb

/-! From what the top has written to the defs; from the def of the law to its row. -/
namespace Kb
open PySem PySem.Spec PyProof.Rows L2
section
variable {K : PySem.W.Frag} {Θ : Ctx} {h : Heap} {mg : Str → Option Value} {x m qual : Str} {st : Stmt} {ps : List Str} {f C : Addr} {oc : Value} {od an : Option Addr} {osl : Array (Option Value)} {kV doc pm cdv ct : Value}
theorem defAt_mk (X : K.In h) (G : h.Ns mainGlobals mg) (hb : ∀ (kV doc pm : Value) (an : Option Addr) (cdv ct : Value) (us : List Value), us.length = ps.length → bindArgs (PySem.W.fnOf x x (defArgs st) (defBody st) (defScope st) .none kV doc pm an cdv ct) ⟨us, []⟩ = pure (ps.zip us))
    (a : PySem.W.nsIn K mainGlobals x = some (some (.ref f))) (l : K.lookup f = some ⟨oc, od, .func (PySem.W.fnOf x x (defArgs st) (defBody st) (defScope st) .none kV doc pm an cdv ct), osl⟩) (c : PySem.W.codeIn K cdv x = true) (k : PySem.W.keepIn K (.ref f) = true) : DefAt K mg x st ps :=
  have F := fun_mk (st := st) l c k
  ⟨f, _, F, PySem.W.mg_of X G a, F.binds hb⟩
end
theorem bits_log {z : Int} (h : Builtin.Int.intBits z ≤ 1048576) : z.natAbs.log2 < 2000000 := by
  unfold Builtin.Int.intBits at h
  split at h
  · rename_i e
    have : z = 0 := by simpa using e
    subst this
    decide
  · omega
/-- the law's promise at its own call; Θ: the tables -/
theorem spD_start {K : PySem.W.Frag} {T : Tbs} {W : Spc} {H : Hp} {a : Addr} {ns : List Int} {E : XK} (hT : ∀ P ∈ T, H P = some (.tbl #[])) (hL : ∀ p ∈ T.l, H p.1 = some (.tbl #[])) (sq : SqL K H a (ns.map V.int)) (w : W [dL (ns.map P.int)] [] fun d _ => d = dB true) : spD K T W [.ref a] H (fun v _ => v = .bl true) E := by
  refine ⟨[dL (ns.map P.int)], [], fun b => if b ∈ T.g ∨ b ∈ T.l.map (·.1) then none else H b, [], fun d _ => d = dB true, ⟨fun b o e => ?_, rfl, fun i o h => by simp at h, fun i j o u a h => by simp at h, fun P hP => ⟨if_pos (.inl hP), #[], hT P hP, trivial⟩, fun p hp => ⟨if_pos (.inr (List.mem_map_of_mem hp)), LamX.TabS.nil (hL p hp)⟩⟩, .cons (.p (.lst ?_ (RPs.of_ints ns))) .nil, w, fun d h' v F' ρ' H' s p r dv e => ?_⟩
  · by_cases hb : b ∈ T.g ∨ b ∈ T.l.map (·.1)
    · have e' := (if_pos hb).symm.trans e
      cases e'
    · exact (if_neg hb).symm.trans e
  · have na : ∀ u, H a = some u → (∀ q, u ≠ .tbl q) → ¬(a ∈ T.g ∨ a ∈ T.l.map (·.1)) := fun u e n hm => by
      rcases hm with hm | hm
      · rw [hT a hm] at e
        exact n _ (Option.some.inj e).symm
      · obtain ⟨p, hp, rfl⟩ := List.mem_map.mp hm
        rw [hL p hp] at e
        exact n _ (Option.some.inj e).symm
    rcases sq with (q | ⟨o, q⟩) | q
    · exact .inl (.inl ((if_neg (na _ q fun _ z => by cases z)).trans q))
    · exact .inl (.inr ⟨o, (if_neg (na _ q fun _ z => by cases z)).trans q⟩)
    · exact .inr q
  · subst e
    exact dv.bl
/-- the end of a law without tables -/
theorem walkD {l : PySem.W.OpenLaw} {k : Nat} {q : Program} {loose : List Str} {XP : (Str → Option Value) → Heap → Prop} {YP : World → Heap → Prop} {d : DefRec} {K : Params → PySem.W.Frag} {W : Spc}
    (hn : l.most = some 63) (hdf : d.params.defaults = []) (hr : Room k callerA) (hY : ∀ (w : World) (h : Heap), YP w h → (K w.params).In h)
    (hW : ∀ ns : List Int, ns.length ≤ 63 → (∀ n ∈ ns, n.natAbs.log2 < 2000000) → W [dL (ns.map P.int)] [] fun d _ => d = dB true)
    (F : ∀ (w : World) (mg : Str → Option Value) (fa : Addr) (h : Heap), (K w.params).In h → h.Ns mainGlobals mg → mg d.name = some (.ref fa) →
      ∃ fd : FuncData, (∀ (s : Shared) (u : Value), BindsTo s fd ⟨[u], []⟩ [("script", u)]) ∧ ∀ base : Heap, (K w.params).In base → base.Ns mainGlobals mg → FnOk l.prog w (K w.params) mg base CX0 k fa fd ["script"] (spD (K w.params) (Tbs.of []) W)) :
    PySem.W.WalkO q loose XP YP l.row.toRowW d [] (fun f vs => PySem.call f vs) :=
  L2.walk_ofB (n := 63) (k := k) (x := "script") (CX := fun _ => CX0) (sp := fun w => spD (K w.params) (Tbs.of []) W) hn (by decide) hdf hr hY F
    (fun w H a ns hl hb _ hS => spD_start (fun P hP => absurd (show P ∈ ([] : List Addr) from hP) (by simp)) (fun p hp => by simp at hp) hS (hW ns hl fun n hm => bits_log (hb n hm))) fun _ _ _ _ _ z => z
end Kb

/-! any, all of a generator expression whose test may call defs: the generator's turns. -/
namespace Gx
open PySem PySem.Spec PyProof.Rows L2 GenW
section
variable {X : Cx} {Ag : Around} {elt tg iter : Expr} {scope : Scope} {gpos : Pos} {it : Addr} {fp : List Addr} {tn : Nat → Heap → Prop} {J : It} {g : TG} {te : TE} {vs : List Nat} {pins : List (Addr × Obj)} {σw : L2.St} {W : Nat → Hp → Prop} {N : Nat} {tr : Nat → Bool}
end
end Gx

/-! any, all: they ask the generator. -/
namespace Gx
open PySem PySem.Spec PyProof.Rows L2 GenW
section
variable {X : Cx} {A : Around} {fp : List Addr} {tn : Nat → Heap → Prop} {pins : List (Addr × Obj)} {σw : L2.St} {W : Nat → Hp → Prop} {N : Nat} {tr : Nat → Bool} {a : Addr} {g : Nat} {R : Result → Shared → Prop}
end
end Gx

/-! The context in which a generator expression's test runs. -/
namespace Gx
open PySem PySem.Spec PyProof.Rows L2 GenW
section
variable {X : Cx} {pins0 : List (Addr × Obj)} {σ : L2.St} {H : Hp} {s : Shared} {scope : Scope} {own : List (Str × Nat)} {fp : List Addr} {A : Around} {code : Value} {h' : Heap} {tk : Nat} {gs : Array GenState} {itv : Value} {gob : Obj}
end
end Gx

/-! any(test for x in xs), all(..): the rules. -/
namespace Gx
open PySem PySem.Spec PyProof.Rows L2 GenW GxR
section
variable {X : Cx} {pins : List (Addr × Obj)} {σ : L2.St} {H : Hp} {s : Shared} {elt tg iter : Expr} {scope : Scope} {gpos : Pos} {own : List (Str × Nat)} {wi : TI} {g : TG} {te : TE} {c P : Addr} {k : Nat}
end
end Gx

/-! any(test for x in xs), all(..) in data. -/
namespace Kb
open PySem PySem.Spec PyProof.Rows L2 Gx GxR
section
variable {K : PySem.W.Frag} {Θ : Ctx} {env : Env'} {h : Hs} {R : D → Hs → Prop}
end
end Kb

/-! any, all of a generator expression in data. -/
namespace Kb
open PySem PySem.Spec PyProof.Rows L2 Gx GxR
section
variable {K : PySem.W.Frag} {Θ : Ctx} {env : Env'} {h : Hs} {R : D → Hs → Prop}
end
end Kb

/-! Defs whose code object is known by address; the end with tables, by what the top's text says of them. -/
namespace Kb
open PySem PySem.Spec PyProof.Rows L2
section
variable {K : PySem.W.Frag} {Θ : Ctx} {h : Heap} {mg : Str → Option Value} {x : Str} {st : Stmt} {ps : List Str} {f c : Addr} {oc : Value} {od an : Option Addr} {osl : Array (Option Value)} {kV doc pm ct : Value}
variable {P : Program} {w : World} {base : Heap} {N : List Str} {k : Nat}
end
end Kb

/-! Comprehensions with two sources, in data. -/
namespace Kb
open PySem PySem.Spec PyProof.Rows L2
section
variable {K : PySem.W.Frag} {Θ : Ctx} {env : Env'} {h : Hs} {R : D → Hs → Prop}
end
end Kb

/-! zip of two sequences; a tuple as a target, K named. -/
namespace Kb
open PySem PySem.Spec PyProof.Rows L2 RZ
section
variable {X : Cx} {K : PySem.W.Frag}
theorem pg_tupK {es : List Expr} {k : Nat} {t : TGs} {n : Nat} {pos : Pos} (hK : X.K = K) (hc : X.calm = true) (h : PGs X es t)
    (hn : (assignEach es X.env).length = n := by rfl) (hst : (assignEach es X.env).findIdx? (·.1) = none := by rfl) : PG X (.Tuple es k pos) (gTup K n t) := hK ▸ pg_tup hc h hn hst
end
section
variable {K : PySem.W.Frag} {Θ : Ctx} {env : Env'} {h : Hs}
end
end Kb

/-! xs[i] op= e; comprehensions whose turns change what is owned; more operators. -/
namespace Kb
open PySem PySem.Spec PyProof.Rows L2
section
variable {X : Cx}
theorem pget_list : PGet X (rIxL X.K) := by
  intro pins s σ H o i ov iv Q I ro ri h
  obtain ⟨p, xs, i, z, rfl, rfl, hq, he, q⟩ := h
  cases ro
  obtain ⟨t, rfl⟩ := ri
  obtain ⟨its, r, pl, hz⟩ := I.list hq
  obtain ⟨j, h1, h2, h3, h4, h5⟩ := atI_get he
  obtain ⟨w, ew, rw'⟩ := r.get h2
  have hl := r.length
  have hn := line63
  have fin : EP X pins σ Q w s := ⟨z, H, I, rw', q⟩
  by_cases h0 : 0 ≤ i
  · have hj : i.toNat = j := by
      rw [seqIndex_of h0 h5] at h1
      exact Option.some.inj h1
    exact wpAny_getItem_list pl.isList h0 (by omega) (by rw [hj]; simpa using ew) fin
  · have hj : (i + (its.toArray.size : Int)).toNat = j := by
      rw [seqIndex_neg (by omega) h4] at h1
      rw [List.size_toArray, ← hl]
      exact Option.some.inj h1
    exact wpAny_getItem_list_neg pl.isList (by omega) (by rw [List.size_toArray] <;> omega) (by omega) (by rw [hj]; simpa using ew) fin
theorem pget_listK {K : PySem.W.Frag} (hK : X.K = K) : PGet X (rIxL K) := hK ▸ pget_list
end
section
variable {K : PySem.W.Frag} {Θ : Ctx} {env : Env'} {h : Hs} {R : D → Hs → Prop} {E : En}
/-- xs[i] op= e, the list owned; e changes nothing -/
theorem vs_augS {to ti te : TE} {tip : TIp} (q : VE K Θ to env h fun o h1 => VE K Θ ti env h1 fun i h2 => ∃ n z xs j d0, o = .own n ∧ i = dI z ∧ h2[n]? = some (some (.lst xs)) ∧ ixN xs.length z = some j ∧ xs[j]? = some d0 ∧
    VE K Θ te env h2 fun y h3 => h3 = h2 ∧ V2 K Θ tip d0 y h3 fun w h4 => h4 = h3 ∧ E.nx env (h4.set n (some (.lst (xs.set j w))))) : VS K Θ (tAugS to ti te (rIxL K) tip rSetL) E env h := fun F ρ σ H D' rl e k =>
  q F ρ σ H _ rl e fun o h1 vo F1 ρ1 H1 s1 p1 r1 dlo q1 => q1 F1 ρ1 σ H1 _ r1 (e.mono s1 p1) fun i h2 vi F2 ρ2 H2 s2 p2 r2 di q2 => by
    obtain ⟨n, z, xs, j, d0, rfl, rfl, hx, hj, hd, q2⟩ := q2
    obtain rfl := di.int
    cases dlo with
    | own ho =>
      have ho' := p2 _ _ ho
      obtain ⟨a, u, e1, e2, e3, vs, e4, e5⟩ := r2.own _ _ hx
      rw [ho'] at e1; cases e1
      subst e4
      have hat : atI xs z = some d0 := by unfold atI; rw [hj]; exact hd
      obtain ⟨v0, g1, g2⟩ := e5.at_ hat
      refine ⟨_, vs, z, v0, rfl, rfl, .of e3, g1, ?_⟩
      refine q2 F2 ρ2 σ H2 _ r2 (e.mono (s1.trans s2) (p1.trans p2)) fun y h3 vy F3 ρ3 H3 s3 p3 r3 dy q3 => ?_
      obtain ⟨rfl, q3⟩ := q3
      refine q3 F3 ρ3 H3 v0 vy _ r3 (g2.mono s3 p3) dy fun w h4 vw F4 ρ4 H4 s4 p4 r4 dw q4 => ?_
      obtain ⟨rfl, q4⟩ := q4
      have ho4 := p4 _ _ (p3 _ _ ho')
      obtain ⟨a4, u4, f1, f2, f3, vs4, f4, f5⟩ := r4.own _ _ hx
      rw [ho4] at f1; cases f1
      subst f4
      refine ⟨_, vs4, z, j, rfl, rfl, f3, by rw [← f5.len]; exact hj, ?_⟩
      exact k.nx env _ F4 ρ4 σ _ (s1.trans (s2.trans (s3.trans s4))) (p1.trans (p2.trans (p3.trans p4))) (r4.put (o' := .lst (xs.set j w)) hx ho4 ⟨_, rfl, f5.set dw j⟩) (e.mono (s1.trans (s2.trans (s3.trans s4))) (p1.trans (p2.trans (p3.trans p4)))) q4
/-! ### what is owned names only what is older -/
def lowD (n : Nat) : D → Prop
  | .p _ => True
  | .own i => i < n
def lowO (n : Nat) : OO → Prop
  | .lst xs => ∀ x ∈ xs, lowD n x
  | .ins _ fs => ∀ q ∈ fs, lowD n q.2
  | .dK kvs => ∀ q ∈ kvs, lowD n q.2
  | .dT kvs => ∀ q ∈ kvs, lowD n q.2
  | .dN _ kvs => ∀ q ∈ kvs, lowD n q.2
  | .dL _ _ _ kvs => ∀ q ∈ kvs, lowD n q.2
/-- what stands there was there, or names only what is older -/
def lowH (h1 h : Hs) : Prop := ∀ (i : Nat) (o : OO), h[i]? = some (some o) → h1[i]? = some (some o) ∨ lowO h1.length o
theorem lowH.refl (h : Hs) : lowH h h := fun _ _ e => .inl e
theorem lowH.set {h1 h : Hs} {n : Nat} {o : OO} (l : lowH h1 h) (lo : lowO h1.length o) : lowH h1 (h.set n (some o)) := fun i u e => by
  by_cases hi : n = i
  · subst hi
    have hl : n < h.length := by
      have := (List.getElem?_eq_some_iff.mp e).1
      rwa [List.length_set] at this
    rw [List.getElem?_set_self hl] at e
    cases e
    exact .inr lo
  · rw [List.getElem?_set_ne hi] at e
    exact l i u e
theorem RD.low {F : Hp} {ρ : List Addr} {p : Addr} {d : D} {v : V} (l : lowD ρ.length d) (b : RD K F (ρ ++ [p]) d v) : RD K F ρ d v := by
  cases b with
  | p b => exact .p b
  | own b =>
    have hl : _ < ρ.length := l
    rw [List.getElem?_append_left hl] at b
    exact .own b
theorem RA.low' {F : Hp} {ρ : List Addr} {p : Addr} {ds : List D} {vs : List V} (b : RA K F (ρ ++ [p]) ds vs) : (∀ x ∈ ds, lowD ρ.length x) → RA K F ρ ds vs := by
  induction b with
  | nil => exact fun _ => .nil
  | cons b _ ih => exact fun l => .cons (b.low (l _ List.mem_cons_self)) (ih fun x hx => l x (List.mem_cons_of_mem _ hx))
theorem RF.low' {F : Hp} {ρ : List Addr} {p : Addr} {ds : List (Str × D)} {vs : List (Str × V)} (b : RF K F (ρ ++ [p]) ds vs) : (∀ x ∈ ds, lowD ρ.length x.2) → RF K F ρ ds vs := by
  induction b with
  | nil => exact fun _ => .nil
  | cons b _ ih => exact fun l => .cons (b.low (l _ List.mem_cons_self)) (ih fun x hx => l x (List.mem_cons_of_mem _ hx))
theorem RK.low' {κ : Type} {F : Hp} {ρ : List Addr} {p : Addr} {ds : List (κ × D)} {vs : List (κ × V)} (b : RK K F (ρ ++ [p]) ds vs) : (∀ x ∈ ds, lowD ρ.length x.2) → RK K F ρ ds vs := by
  induction b with
  | nil => exact fun _ => .nil
  | cons b _ ih => exact fun l => .cons (b.low (l _ List.mem_cons_self)) (ih fun x hx => l x (List.mem_cons_of_mem _ hx))
theorem RO.low' {a : Addr} {F : Hp} {ρ : List Addr} {p : Addr} {o : OO} {u : HO} (l : lowO ρ.length o) (b : RO K a F (ρ ++ [p]) o u) : RO K a F ρ o u := by
  cases o with
  | lst xs =>
    obtain ⟨vs, e, r⟩ := b
    exact ⟨vs, e, r.low' l⟩
  | ins C fs =>
    obtain ⟨dx, gs, e, r⟩ := b
    exact ⟨dx, gs, e, r.low' l⟩
  | dK kvs =>
    obtain ⟨gs, e, r⟩ := b
    exact ⟨gs, e, r.low' l⟩
  | dT kvs =>
    obtain ⟨gs, e, r⟩ := b
    exact ⟨gs, e, r.low' l⟩
  | dN pw kvs =>
    obtain ⟨gs, e, q, r⟩ := b
    exact ⟨gs, e, q, r.low' fun x hx => by
      obtain ⟨y, hy, rfl⟩ := List.mem_map.mp hx
      exact l y hy⟩
  | dL pw od gs kvs =>
    obtain ⟨e, q, r⟩ := b
    exact ⟨e, q, r.low' fun x hx => by
      obtain ⟨y, hy, rfl⟩ := List.mem_map.mp hx
      exact l y hy⟩
abbrev accO (acc : List P) : Option OO := some (.lst (acc.map D.p))
theorem lcI_run {wi : TI} {g : TG} {tt : TT} {te : TE} {vs : List Nat} (tg : TgOk g vs) {F : Hp} {ρ : List Addr} {σ : L2.St} {H1 : Hp} {ds : List D} {C : Hs → Prop} {h1 : Hs} {J : It} (Q : VK) (Inv : Nat → List P → Hs → Prop)
    (r1 : Rel K Θ F ρ h1 H1) (e : REnv K F ρ env σ) (it : ItOk K Θ F ρ C ds J) (hl : ds.length < sizeLine) (i0 : Inv 0 [] h1)
    (hI : ∀ i acc h', Inv i acc h' → h'.length = h1.length ∧ lowH h1 h' ∧ C (h' ++ [accO acc]))
    (turn : ∀ i d acc h', ds[i]? = some d → Inv i acc h' → VG K Θ g d (wipeD env vs) (h' ++ [accO acc]) fun env' h2 => VT K Θ tt env' h2 fun b h3 => if b = true then VE K Θ te env' h3 (fun y h4 => ∃ p h5, y = .p p ∧ h4 = h5 ++ [accO acc] ∧ Inv (i + 1) (acc ++ [p]) h5) else ∃ h5, h3 = h5 ++ [accO acc] ∧ Inv (i + 1) acc h5)
    (fin : ∀ (p : Addr) (F' : Hp) (us : List V) (H : Hp) (acc : List P) (h' : Hs), Same F F' → F' p = none → H p = some (.lst us) → H1 p = none → Inv ds.length acc h' → Rel K Θ F' (ρ ++ [p]) (h' ++ [accO acc]) H → RPs K F' acc us → Rel K Θ F' ρ h' H → Q (.ref p) H) :
    ∀ D, H1 D = none → ∃ W : Nat → Nat → Hp → Prop, (∃ m, W 0 m (upd H1 D (.lst []))) ∧ ∀ i m H, W i m H → (J.stop i H ∧ Q (.ref D) H) ∨
      (J.go i H ∧ ∃ Nx : Hp → Prop, (∀ H', Nx H' → ∃ m', m' < m ∧ W (i + 1) m' H') ∧ ∀ x H', J.yld i H x H' → g x (wipe σ vs) H' fun σ2 H2 => wipe σ2 vs = wipe σ vs ∧ tt σ2 H2 fun b H3 => if b = true then te σ2 H3 fun y H4 => ∃ acc, H4 D = some (.lst acc) ∧ acc.length < sizeLine ∧ Nx (upd H4 D (.lst (acc ++ [y]))) else Nx H3) := by
  intro p hp
  refine ⟨fun i m H => m = ds.length - i ∧ i ≤ ds.length ∧ ∃ F' acc h', Same F F' ∧ acc.length ≤ i ∧ Inv i acc h' ∧ Rel K Θ F' (ρ ++ [p]) (h' ++ [accO acc]) H, ⟨ds.length, by simp, Nat.zero_le _, F, [], h1, Same.refl _, Nat.le_refl _, i0, r1.push (o := .lst []) hp ⟨[], rfl, .nil⟩⟩, ?_⟩
  rintro i m H ⟨rfl, hi, F', acc, h', s, hacc, iv, r⟩
  obtain ⟨hlen, hlow, hC⟩ := hI i acc h' iv
  have hpl : (ρ ++ [p])[h1.length]? = some p := by rw [← r1.len]; simp
  have got : ∀ (F' : Hp) (H : Hp) (h' : Hs) (xs : List P), h'.length = h1.length → Rel K Θ F' (ρ ++ [p]) (h' ++ [accO xs]) H → ∃ us, H p = some (.lst us) ∧ F' p = none ∧ RPs K F' xs us := fun F' H h' xs el r => by
    obtain ⟨a, u, e1, e2, e3, us, e4, e5⟩ := r.own h1.length (.lst (xs.map D.p)) (by rw [← el]; simp)
    rw [hpl] at e1; cases e1
    subst e4
    exact ⟨us, e3, e2, e5.pure⟩
  by_cases hlt : i < ds.length
  · refine .inr ⟨it.go i F' (ρ ++ [p]) _ H s (Pre.push _ _) r hC hlt, fun H' => ∃ F2 acc2 h2, Same F F2 ∧ acc2.length ≤ i + 1 ∧ Inv (i + 1) acc2 h2 ∧ Rel K Θ F2 (ρ ++ [p]) (h2 ++ [accO acc2]) H', fun H' ⟨F2, acc2, h2, s2, l2, iv2, r2⟩ => ⟨ds.length - (i + 1), by omega, rfl, hlt, F2, acc2, h2, s2, l2, iv2, r2⟩, fun x H' hy => ?_⟩
    have hd : ds[i]? = some ds[i] := List.getElem?_eq_getElem hlt
    obtain ⟨F2, s2, r2, dx⟩ := it.yld i _ F' (ρ ++ [p]) _ H x H' s (Pre.push _ _) r hC hd hy
    refine tg x σ H' _ ?_
    refine turn i _ acc h' hd iv F2 (ρ ++ [p]) (wipe σ vs) H' x _ r2 ((e.mono (s.trans s2) (Pre.push _ _)).wipes vs) dx fun env3 h3 F3 ρ3 σ3 H3 s3 p3 r3 e3 q3 => ?_
    refine q3 F3 _ σ3 H3 _ r3 e3 fun b h4 F4 ρ4 H4 s4 p4 r4 q4 => ?_
    have ss : Same F F4 := s.trans (s2.trans (s3.trans s4))
    cases b with
    | true =>
      rw [if_pos rfl] at q4 ⊢
      refine q4 F4 _ σ3 H4 _ r4 (e3.mono s4 p4) fun y h5 v F5 ρ5 H5 s5 p5 r5 dv q5 => ?_
      obtain ⟨pp, h6, rfl, rfl, iv6⟩ := q5
      obtain ⟨hlen6, hlow6, hC6⟩ := hI _ _ _ iv6
      have eρ : ρ5 = ρ ++ [p] := pre_eq (p3.trans (p4.trans p5)) (by rw [r5.len, List.length_append, List.length_append, hlen6, r1.len]; rfl)
      subst eρ
      obtain ⟨us, g1, g2, g3⟩ := got F5 H5 h6 _ hlen6 r5
      refine ⟨us, g1, ?_, F5, acc ++ [pp], h6, ss.trans s5, ?_, iv6, ?_⟩
      · rw [← g3.len]; omega
      · rw [List.length_append]; exact Nat.succ_le_succ hacc
      · have z := r5.put (i := h1.length) (o := .lst (acc.map D.p)) (o' := .lst ((acc ++ [pp]).map D.p)) (by rw [← hlen6]; simp) hpl ⟨us ++ [v], rfl, by
          rw [List.map_append]
          exact g3.data.append (.cons dv .nil)⟩
        rw [← hlen6, List.set_append_right _ _ (Nat.le_refl _), Nat.sub_self] at z
        exact z
    | false =>
      rw [if_neg Bool.false_ne_true] at q4 ⊢
      obtain ⟨h6, rfl, iv6⟩ := q4
      obtain ⟨hlen6, hlow6, hC6⟩ := hI _ _ _ iv6
      have eρ : ρ4 = ρ ++ [p] := pre_eq (p3.trans p4) (by rw [r4.len, List.length_append, List.length_append, hlen6, r1.len]; rfl)
      subst eρ
      exact ⟨F4, acc, h6, ss, Nat.le_succ_of_le hacc, iv6, r4⟩
  · have ei : i = ds.length := by omega
    subst ei
    refine .inl ⟨it.stop F' (ρ ++ [p]) _ H s (Pre.push _ _) r hC, ?_⟩
    obtain ⟨us, g1, g2, g3⟩ := got F' H h' _ hlen r
    refine fin p F' us H acc h' s g2 g1 hp iv r g3 (r.pop (by rw [r1.len, hlen]) (r1.wish.mono s (Pre.refl _)) fun i o a hi ha u q => ?_)
    rcases hlow i o hi with z | z
    · obtain ⟨a0, u0, f1, f2, f3, f4⟩ := r1.own i o z
      rw [ha] at f1; cases f1
      exact f4.low q
    · exact q.low' (by rw [r1.len]; exact z)
/-- [..]: a new list that stays; the turns may change what is owned -/
theorem ve_lcI {wi : TI} {g : TG} {tt : TT} {te : TE} {vs : List Nat} (tg : TgOk g vs)
    (q : VI K Θ wi env h fun ds C h1 => ∃ Inv : Nat → List P → Hs → Prop, ds.length < sizeLine ∧ Inv 0 [] h1 ∧ (∀ i acc h', Inv i acc h' → h'.length = h1.length ∧ lowH h1 h' ∧ C (h' ++ [accO acc])) ∧
      (∀ i d acc h', ds[i]? = some d → Inv i acc h' → VG K Θ g d (wipeD env vs) (h' ++ [accO acc]) fun env' h2 => VT K Θ tt env' h2 fun b h3 => if b = true then VE K Θ te env' h3 (fun y h4 => ∃ p h5, y = .p p ∧ h4 = h5 ++ [accO acc] ∧ Inv (i + 1) (acc ++ [p]) h5) else ∃ h5, h3 = h5 ++ [accO acc] ∧ Inv (i + 1) acc h5) ∧
      (∀ acc h', Inv ds.length acc h' → R (dL acc) h')) : VE K Θ (tLc wi g tt te vs) env h R := fun F ρ σ H Q rl e k =>
  q F ρ σ H _ rl e fun ds C h1 J F1 ρ1 H1 s1 p1 r1 it q1 => by
    obtain ⟨Inv, hl, i0, hI, turn, q1⟩ := q1
    refine lcI_run (wi := wi) tg Q Inv r1 (e.mono s1 p1) it hl i0 hI turn fun p F' us H acc h' s hn hp hp1 iv r rp r2 => ?_
    have sn : Same F' (upd F' p (.lst us)) := same_new hn
    refine k _ h' (.ref p) (upd F' p (.lst us)) ρ1 H (s1.trans (s.trans sn)) p1 ?_ (.p (.lst (.of upd_same) (rp.mono sn))) (q1 acc h' iv)
    have np : ∀ P ∈ Θ.tabs, P ≠ p := fun P hP => by
      obtain ⟨ps, z, _⟩ := (r2.tab P hP).2
      rintro rfl
      rw [hp] at z
      cases z
    obtain ⟨hlen, hlow, _⟩ := hI _ _ _ iv
    refine ⟨⟨fun b o e => ?_, r2.len, fun i o hi => ?_, r2.inj, fun P hP => ⟨by rw [upd_ne (np P hP)]; exact (r2.tab P hP).1, (r2.tab P hP).2⟩, fun q hq => ⟨by rw [upd_ne (lam_neO (r2.lam q hq).2 hp fun _ z => by cases z)]; exact (r2.lam q hq).1, (r2.lam q hq).2⟩⟩, r2.wish.mono sn (Pre.refl _)⟩
    · by_cases hb : b = p
      · subst hb; rw [upd_same] at e; rw [hp]; exact e
      · rw [upd_ne hb] at e; exact r2.same b o e
    · obtain ⟨a, u, f1, f2, f3, f4⟩ := r2.own i o hi
      have hil : i < h'.length := (List.getElem?_eq_some_iff.mp hi).1
      have ha : a ≠ p := fun z => by
        subst z
        have n1 : (h' ++ [accO acc])[i]? = some (some o) := by rw [List.getElem?_append_left hil]; exact hi
        have n2 : (h' ++ [accO acc])[h'.length]? = some (accO acc) := by simp
        have a1 : (ρ1 ++ [a])[i]? = some a := by rw [List.getElem?_append_left (by rw [r2.len]; exact hil)]; exact f1
        have a2 : (ρ1 ++ [a])[h'.length]? = some a := by rw [← r2.len]; simp
        exact absurd (r.inj i h'.length _ _ a n1 n2 a1 a2) (by omega)
      exact ⟨a, u, f1, by rw [upd_ne ha]; exact f2, f3, f4.mono sn (Pre.refl _)⟩
end
end Kb

/-! `is` a truth; lists that stay, joined; texts: times, join; `in` a list of texts; great divisors. -/
namespace Kb
open PySem PySem.Spec PyProof.Rows L2
section
variable {X : Cx}
def rIsBl : R2 := fun x y H Q => ∃ b : Bool, y = .bl b ∧ (∀ a, x ≠ .ref a) ∧ Q (.bl (decide (x = .bl b))) H
theorem op_isBlAny : OpR X (compareOp .Is) rIsBl := by
  intro pins s σ H x y v u Q I rx ry h
  obtain ⟨b, rfl, nr, q⟩ := h
  cases (show u = Value.bool b from ry)
  by_cases e : x = .bl b
  · subst e
    cases (show v = Value.bool b from rx)
    exact wpAny_is_self rfl ⟨.bl true, H, I, rfl, by simpa using q⟩
  · have qn : EP X pins σ Q (.bool false) s := ⟨.bl false, H, I, rfl, by simpa [e] using q⟩
    cases x with
    | non => cases rx; exact wpAny_is_other rfl (by intro z; cases z) qn
    | bl c => cases (show v = Value.bool c from rx); exact wpAny_is_other rfl (fun z => e (by rw [Value.bool.inj z])) qn
    | int i => obtain ⟨t, rfl⟩ := rx; exact wpAny_is_other rfl (by intro z; cases z) qn
    | str i => obtain ⟨t, rfl⟩ := rx; exact wpAny_is_other rfl (by intro z; cases z) qn
    | byt i => obtain ⟨t, rfl⟩ := rx; exact wpAny_is_other rfl (by intro z; cases z) qn
    | flt i => obtain ⟨t, rfl⟩ := rx; exact wpAny_is_other rfl (by intro z; cases z) qn
    | ref a => exact absurd rfl (nr a)
    | ty n => cases rx; exact wpAny_is_other rfl (by intro z; cases z) qn
def rIsNG : R2 := fun x y H Q => y = V.non ∧ Q (.bl (decide (x = .non))) H
/-- x is None, x is True, x is False -/
def rIsU : R2 := fun x y H Q => rIsNG x y H Q ∨ rIsBl x y H Q
theorem op_isU : OpR X (compareOp .Is) rIsU := OpR.or (r := rIsNG) op_isN op_isBlAny
/-- lists that stay, one behind the other: a new list -/
def rCatL (K : PySem.W.Frag) : R2 := fun x y H Q => ∃ l b xs zs, x = .ref l ∧ y = .ref b ∧ SqL K H l xs ∧ SqL K H b zs ∧ xs.length + zs.length ≤ sizeLine ∧ ∀ p, H p = none → Q (.ref p) (upd H p (.lst (xs ++ zs)))
theorem op_catL : OpR X (binaryOp .Add) (rCatL X.K) := by
  intro pins s σ H x y v u Q I rx ry h
  obtain ⟨l, b, xs, zs, rfl, rfl, hH, hB, hz, q⟩ := h
  cases rx
  cases ry
  obtain ⟨its, r, pl, _⟩ := I.list hH
  obtain ⟨its2, r2, pl2, _⟩ := I.list hB
  obtain ⟨⟨cls, dd, data, sl⟩, ho, hc, n, hd⟩ := pl.isList
  obtain ⟨⟨cls2, dd2, data2, sl2⟩, ho2, hc2, n2, hd2⟩ := pl2.isList
  simp only at hc hd hc2 hd2
  subst hc hd hc2 hd2
  have e : its.toArray ++ its2.toArray = (its ++ its2).toArray := by simp
  refine concat_meets ⟨_, ho, rfl⟩ ⟨_, ho2, rfl⟩ noFill_list_add seq_list_add PySem.F.slot_list_add PySem.F.entry_list_add (PySem.F.args_list_add_2 _ _) (list_addW l b its.toArray its2.toArray n n2 dd dd2 sl sl2 (by simp only [List.size_toArray]; rw [← r.length, ← r2.length]; exact hz)) ⟨ho, ho2, ?_⟩
  rw [e]
  exact ⟨.ref _, _, I.lnew (t' := s.toks) (r.append r2) (by rw [List.length_append]; exact hz), rfl, q _ I.fresh⟩
def rAddV (K : PySem.W.Frag) : R2 := fun x y H Q => rAddI x y H Q ∨ (rAddS' x y H Q ∨ (rCatT K x y H Q ∨ rCatL K x y H Q))
/-- so many times the text -/
def repS (x : Str) (n : Int) : Str := ⟨(List.replicate n.toNat x.cps).foldl (· ++ ·) #[]⟩
theorem repS_cps (x : Str) (n : Int) : (repS x n).cps.toList = (List.replicate n.toNat x.cps.toList).flatten := by
  unfold repS
  have g : ∀ (k : Nat) (a : Array Nat), ((List.replicate k x.cps).foldl (· ++ ·) a).toList = a.toList ++ (List.replicate k x.cps.toList).flatten := by
    intro k
    induction k with
    | zero => intro a; simp
    | succ k ih => intro a; rw [List.replicate_succ, List.foldl_cons, ih]; simp [List.replicate_succ]
  rw [g]
  simp
theorem repS_len (x : Str) (n : Int) : (repS x n).length = n.toNat * x.length := by
  show (repS x n).cps.size = _
  rw [← Array.length_toList, repS_cps]
  simp [Str.length]
def rMulS : R2 := fun x y H Q => ∃ i j, x = .str i ∧ y = .int j ∧ -(2 ^ 20) ≤ j ∧ j < 2 ^ 20 ∧ i.length ≤ 2 ^ 20 ∧ i.length * j.toNat ≤ sizeLine ∧ Q (.str (repS i j)) H
theorem op_mulS : OpR X (binaryOp .Mult) rMulS := by
  intro pins s σ H x y v u Q I rx ry h
  obtain ⟨i, j, rfl, rfl, h1, h2, h3, h4, q⟩ := h
  obtain ⟨t, rfl⟩ := rx
  obtain ⟨t', rfl⟩ := ry
  refine PySem.P.mul_str ?_ (fun hn _ => ?_) (fun hn _ => ?_) ?_
  · rw [decide_eq_false (by omega), decide_eq_false (by omega)]; rfl
  · intro hgt
    have hj : 0 < j := by omega
    have z : (i.length : Int) * j ≤ 2 ^ 63 - 1 := by
      have : (i.length : Int) * j ≤ 2 ^ 20 * 2 ^ 20 := Int.mul_le_mul (by omega) (by omega) (by omega) (by omega)
      omega
    have := (Int.le_ediv_iff_mul_le hj).mpr z
    omega
  · unfold Builtin.Str.tooLong
    exact decide_eq_false (by have e := sizeLine_eq; omega)
  · have fs : ∀ (m : Str), m = repS i j → EP X pins σ Q (.str m s.toks) { s with toks := s.toks + 1 } := fun m e => by
      subst e
      exact ⟨.str _, H, I.tok _, ⟨_, rfl⟩, q⟩
    by_cases hn : j < 1
    · rw [if_pos hn]
      refine ⟨by decide, fs _ ?_⟩
      have : j.toNat = 0 := by omega
      unfold repS
      rw [this]
      rfl
    · rw [if_neg hn]
      by_cases h1 : (j == 1 || i.length == 0) = true
      · rw [if_pos h1]
        refine ⟨.str i, H, I, ⟨_, rfl⟩, ?_⟩
        have e : repS i j = i := by
          have e0 : (repS i j).cps.toList = i.cps.toList := by
            rw [repS_cps]
            rcases Bool.or_eq_true_iff.mp h1 with z | z
            · have : j = 1 := by simpa using z
              subst this
              simp
            · have hz : i.cps.toList = [] := by
                have : i.cps.size = 0 := by simpa [Str.length] using z
                rw [← List.length_eq_zero_iff, Array.length_toList]; exact this
              rw [hz]
              simp
          have hc := Array.toList_inj.mp e0
          cases hr : repS i j
          cases i
          rw [hr] at hc
          simpa using hc
        rw [← e]; exact q
      · rw [if_neg h1]
        refine ⟨?_, fs _ rfl⟩
        show (repS i j).length ≤ _
        rw [repS_len, Nat.mul_comm]
        exact h4
def rMulI : R2 := rI CMulX fun i j => .int (i * j)
def rMulU : R2 := fun x y H Q => rMulI x y H Q ∨ rMulS x y H Q
theorem op_mulU : OpR X (binaryOp .Mult) rMulU := OpR.or (r := rMulI) op_mulX op_mulS
/-- < of truths, of numbers, of texts -/
def b2n (b : Bool) : Int := if b then 1 else 0
def rLtB : R2 := fun x y H Q => ∃ i j, x = .bl i ∧ y = .bl j ∧ Q (.bl (decide (b2n i < b2n j))) H
theorem op_ltB : OpR X (compareOp .Lt) rLtB := by
  intro pins s σ H x y v u Q I rx ry h
  obtain ⟨i, j, rfl, rfl, q⟩ := h
  cases (show v = Value.bool i from rx)
  cases (show u = Value.bool j from ry)
  exact PyProof.Rows.lt_bool ⟨.bl _, H, I, rfl, by cases i <;> cases j <;> exact q⟩
def rLtI : R2 := rI0 fun i j => .bl (decide (i < j))
def rLtS : R2 := fun x y H Q => ∃ i j, x = .str i ∧ y = .str j ∧ Q (.bl (decide (i.cps.toList < j.cps.toList))) H
def rLtG : R2 := fun x y H Q => rLtI x y H Q ∨ (rLtB x y H Q ∨ rLtS x y H Q)
theorem op_ltG : OpR X (compareOp .Lt) rLtG := OpR.or (r := rLtI) op_lt (OpR.or (r := rLtB) op_ltB op_lt_str)
end
section
variable {K : PySem.W.Frag} {Θ : Ctx} {env : Env'} {h : Hs} {R : D → Hs → Prop} {x y : D}
/-- is it this truth -/
def isBlD (b : Bool) : D → Bool
  | .p (.bl c) => decide (c = b)
  | _ => false
/-- no thing of the heap -/
def flatD : D → Bool
  | .p .non => true
  | .p (.bl _) => true
  | .p (.int _) => true
  | .p (.str _) => true
  | _ => false
theorem v2_isNU (q : R (dB (isNonD x)) h) : V2 K Θ rIsU x dN h R := v2_or1 (v2_isN q)
theorem v2_isBl {b : Bool} (hx : flatD x = true) (q : R (dB (isBlD b x)) h) : V2 K Θ rIsU x (dB b) h R := v2_or2 fun F ρ H vx vy Q rl a c k => by
  obtain rfl := c.bl
  have kk := k _ h _ F ρ H (Same.refl _) (Pre.refl _) rl (.p (.bl _)) q
  cases a with
  | own _ => cases hx
  | p a =>
    cases a with
    | non => exact ⟨b, rfl, (fun _ z => by cases z), kk⟩
    | bl c =>
      refine ⟨b, rfl, (fun _ z => by cases z), ?_⟩
      have e : decide (V.bl c = V.bl b) = decide (c = b) := decide_eq_decide.mpr ⟨V.bl.inj, congrArg V.bl⟩
      rw [e]
      exact kk
    | int c => exact ⟨b, rfl, (fun _ z => by cases z), kk⟩
    | str c => exact ⟨b, rfl, (fun _ z => by cases z), kk⟩
    | tup _ _ => cases hx
    | ktp _ _ => cases hx
    | lst _ _ => cases hx
    | ins _ _ => cases hx
    | ty _ => cases hx
    | cls _ => cases hx
theorem v2_addVI {i j : Int} (q : R (dI (i + j)) h) : V2 K Θ (rAddV K) (dI i) (dI j) h R := v2_or1 (v2_I0 q)
theorem v2_mulU {i j : Int} (c : CMulX i j) (q : R (dI (i * j)) h) : V2 K Θ rMulU (dI i) (dI j) h R := v2_or1 (v2_mul c q)
theorem v2_divW {i j : Int} (c : 0 < j ∧ j.natAbs.log2 < 9000) (q : R (dI (i / j)) h) : V2 K Θ (rI CDivW fun i j => V.int (i / j)) (dI i) (dI j) h R := v2_I (g := fun i j => i / j) c q
theorem v2_ltI {i j : Int} (q : R (dB (decide (i < j))) h) : V2 K Θ rLtG (dI i) (dI j) h R := v2_or1 (v2_lt q)
theorem v2_ltB {i j : Bool} (q : R (dB (decide (b2n i < b2n j))) h) : V2 K Θ rLtG (dB i) (dB j) h R := v2_or2 (v2_or1 fun F ρ H vx vy Q rl a b k => by
  obtain rfl := a.bl
  obtain rfl := b.bl
  exact ⟨i, j, rfl, rfl, k _ h _ F ρ H (Same.refl _) (Pre.refl _) rl (.p (.bl _)) q⟩)
theorem v2_ltS {i j : Str} (q : R (dB (decide (i.cps.toList < j.cps.toList))) h) : V2 K Θ rLtG (dS i) (dS j) h R := v2_or2 (v2_or2 fun F ρ H vx vy Q rl a b k => by
  obtain rfl := a.str
  obtain rfl := b.str
  exact ⟨i, j, rfl, rfl, k _ h _ F ρ H (Same.refl _) (Pre.refl _) rl (.p (.bl _)) q⟩)
end
end Kb

/-! abs. -/
namespace Kb
open PySem PySem.Spec PyProof.Rows L2
section
variable {K : PySem.W.Frag} {Θ : Ctx} {env : Env'} {h : Hs} {R : D → Hs → Prop} {x y : D}
theorem vc_abs {i : Int} (q : R (dI (if i < 0 then -i else i)) h) : VC K Θ (fun xs H Q => ∃ i, xs = [V.int i] ∧ Q (.int (if i < 0 then -i else i)) H) [dI i] h R := fun F ρ H vs Q rl a k => by
  cases a with
  | cons a b =>
    cases b
    obtain rfl := a.int
    exact ⟨i, rfl, k _ h _ F ρ H (Same.refl _) (Pre.refl _) rl (.p (.int _)) q⟩
end
end Kb

/-! t < u, t <= u, t > u, t >= u for tuples of numbers and texts: items behind the first difference may be of any kind. -/
namespace Kb
open PySem PySem.Spec PyProof.Rows L2
section
open PySem.SeqAt
open PySem.AutoSeq1 (wpAny_loadPart')
open PySem.MeetsSeq PySem.MeetsSeq2 PySem.MeetsSeq3
end
end Kb

/-! Keys compared, as rules; int of a truth. -/
namespace Kb
open PySem PySem.Spec PyProof.Rows L2
section
variable {X : Cx} {K : PySem.W.Frag}
end
section
variable {K : PySem.W.Frag} {Θ : Ctx} {h : Hs} {R : D → Hs → Prop}
theorem vc_intB {b : Bool} (q : R (dI (if b then 1 else 0)) h) : VC K Θ rIntU [dB b] h R := fun F ρ H vs Q rl a k => by
  cases a with
  | cons a c =>
    cases c
    obtain rfl := a.bl
    exact .inl (.inr ⟨b, rfl, k _ h _ F ρ H (Same.refl _) (Pre.refl _) rl (.p (.int _)) q⟩)
end
end Kb

/-! Tuples of any length joined and cut; xs.extend(t); an own list made by a comprehension whose turns change what is owned. -/
namespace Kb
open PySem PySem.Spec PyProof.Rows L2
section
open PySem.AutoSeq1 (wpAny_loadPart')
end
section
variable {X : Cx}
def rAddW (K : PySem.W.Frag) : R2 := fun x y H Q => rAddI x y H Q ∨ (rAddS' x y H Q ∨ (rCatA K x y H Q ∨ rCatL K x y H Q))
theorem op_addW : OpR X (binaryOp .Add) (rAddW X.K) := OpR.or (r := rAddI) op_add (OpR.or (r := rAddS') op_add_str (op_catA.or op_catL))
theorem op_addWK {K : PySem.W.Frag} (hK : X.K = K) : OpR X (binaryOp .Add) (rAddW K) := hK ▸ op_addW
end
section
variable {K : PySem.W.Frag} {Θ : Ctx} {env : Env'} {h : Hs} {R : D → Hs → Prop} {x y : D}
theorem v2_addWI {i j : Int} (q : R (dI (i + j)) h) : V2 K Θ (rAddW K) (dI i) (dI j) h R := v2_or1 (v2_I0 q)
theorem v2_addWS {i j : Str} (hl : i.length + j.length ≤ sizeLine) (q : R (dS (i ++ j)) h) : V2 K Θ (rAddW K) (dS i) (dS j) h R := v2_or2 (v2_or1 fun F ρ H vx vy Q rl a b k => by
  obtain rfl := a.str
  obtain rfl := b.str
  exact ⟨i, j, rfl, rfl, hl, k _ h _ F ρ H (Same.refl _) (Pre.refl _) rl (.p (.str _)) q⟩)
theorem v2_addWL {i j : List P} (hl : i.length + j.length ≤ sizeLine) (q : R (dL (i ++ j)) h) : V2 K Θ (rAddW K) (dL i) (dL j) h R := v2_or2 (v2_or2 (v2_or2 fun F ρ H vx vy Q rl a b k => by
  cases a with
  | p a =>
    cases b with
    | p b =>
      cases a with
      | lst a1 a2 =>
        cases b with
        | lst b1 b2 =>
          refine ⟨_, _, _, _, rfl, rfl, rl.same.seq a1, rl.same.seq b1, by rw [← a2.len, ← b2.len]; exact hl, fun p hp => ?_⟩
          have sn := fun o => same_new (o := o) (rl.free hp)
          exact k _ h _ _ ρ _ (sn _) (Pre.refl _) (rl.frz hp) (.p (.lst (.of upd_same) ((a2.append b2).mono (sn _)))) q))
theorem v2_addWT {i j : List P} (hl : i.length + j.length ≤ sizeLine) (q : R (dT (i ++ j)) h) : V2 K Θ (rAddW K) (dT i) (dT j) h R := v2_or2 (v2_or2 (v2_or1 fun F ρ H vx vy Q rl a b k => by
  cases a with
  | p a =>
    cases b with
    | p b =>
      cases a with
      | tup a1 a2 =>
        cases b with
        | tup b1 b2 =>
          refine ⟨_, _, _, _, rfl, rfl, sqT_mono rl.same a1, sqT_mono rl.same b1, by rw [← a2.len, ← b2.len]; exact hl, fun z => ?_, fun _ z => ?_, fun _ _ p hp => ?_⟩
          · subst z; cases a2
            exact k _ h _ F ρ H (Same.refl _) (Pre.refl _) rl (.p (.tup b1 b2)) q
          · subst z; cases b2
            rw [List.append_nil] at q
            exact k _ h _ F ρ H (Same.refl _) (Pre.refl _) rl (.p (.tup a1 a2)) q
          · have sn := fun o => same_new (o := o) (rl.free hp)
            exact k _ h _ _ ρ _ (sn _) (Pre.refl _) (rl.frz hp) (.p (.tup (.of upd_same) ((a2.append b2).mono (sn _)))) q))
/-- [..]: a new list that is owned; the turns may change what is owned -/
theorem ve_lcIO {wi : TI} {g : TG} {tt : TT} {te : TE} {vs : List Nat} (tg : TgOk g vs)
    (q : VI K Θ wi env h fun ds C h1 => ∃ Inv : Nat → List P → Hs → Prop, ds.length < sizeLine ∧ Inv 0 [] h1 ∧ (∀ i acc h', Inv i acc h' → h'.length = h1.length ∧ lowH h1 h' ∧ C (h' ++ [accO acc])) ∧
      (∀ i d acc h', ds[i]? = some d → Inv i acc h' → VG K Θ g d (wipeD env vs) (h' ++ [accO acc]) fun env' h2 => VT K Θ tt env' h2 fun b h3 => if b = true then VE K Θ te env' h3 (fun y h4 => ∃ p h5, y = .p p ∧ h4 = h5 ++ [accO acc] ∧ Inv (i + 1) (acc ++ [p]) h5) else ∃ h5, h3 = h5 ++ [accO acc] ∧ Inv (i + 1) acc h5) ∧
      (∀ acc h', Inv ds.length acc h' → R (.own h'.length) (h' ++ [accO acc]))) : VE K Θ (tLc wi g tt te vs) env h R := fun F ρ σ H Q rl e k =>
  q F ρ σ H _ rl e fun ds C h1 J F1 ρ1 H1 s1 p1 r1 it q1 => by
    obtain ⟨Inv, hl, i0, hI, turn, q1⟩ := q1
    refine lcI_run (wi := wi) tg Q Inv r1 (e.mono s1 p1) it hl i0 hI turn fun p F' us H acc h' s hn hp hp1 iv r rp r2 => ?_
    exact k _ _ (.ref p) F' (ρ1 ++ [p]) H (s1.trans s) (p1.trans (Pre.push _ _)) r (.own (by rw [← r2.len]; simp)) (q1 acc h' iv)
end
end Kb

/-! Dicts that are owned, with keys that are tuples of numbers and texts; xs.insert; own lists read and joined. -/
namespace Kb
open PySem PySem.Spec PyProof.Rows L2
section
variable {κ β : Type} [DecidableEq κ]
end
section
variable {K : PySem.W.Frag} {Θ : Ctx} {env : Env'} {h : Hs} {R : D → Hs → Prop} {E : En} {x y : D}
end
end Kb

/-! What may be raised: defs that raise, raise, try .. except. -/
namespace Kb
open PySem PySem.Spec PyProof.Rows L2
section
variable {P : Program} {w : World} {K : PySem.W.Frag} {mg : Str → Option Value} {base : Heap} {x : Str} {st : Stmt} {N ps : List Str} {k : Nat} {T : Tbs}
end
section
variable {K : PySem.W.Frag} {Θ : Ctx} {env : Env'} {h : Hs} {R : D → Hs → Prop} {ta : TE} {t : TA}
end
section
variable {X : Cx} {C : Addr} {B newId initId : String} {bmB : List Value} {x : Str} {e : Expr} {ta : TE} {p pos pos' : Pos} {E : XK}
end
section
variable {X : Cx} {x n : Str} {c : Value} {i : Nat} {body suite : List Stmt} {b₀ : Stmt} {np pos pos' : Pos} {tb : WX → TS} {ts : Addr → Value → Option Addr → TS}
end
section
variable {X : Cx} {k : Nat} {x : Str} {ps : List Str} {sp : Sp} {p pos : Pos} {e : Expr} {es : List Expr} {t : TA} {W : WX}
end
/-! ### what is known of an error's class -/
section
variable {K : PySem.W.Frag} {N D : Addr} {r : Bool}
end
end Kb

/-! Texts: walked over, split, sliced, put together; what stands in them. -/
namespace Kb
open PySem PySem.Spec PyProof.Rows L2
section
variable {K : PySem.W.Frag} {Θ : Ctx} {env : Env'} {h : Hs} {R : D → Hs → Prop} {te : TE}
end
end Kb

/-! Errors with one field of their own. -/
namespace Kb
open PySem PySem.Spec PyProof.Rows L2
section
variable {K : PySem.W.Frag} {env : Env'} {h : Hs} {t : TA}
end
section
variable {P : Program} {w : World} {K : PySem.W.Frag} {mg : Str → Option Value} {base : Heap} {x qual f : Str} {st : Stmt} {N ps : List Str} {k : Nat} {fI C : Addr} {fd : FuncData}
end
section
variable {X : Cx} {C fI : Addr} {x f : Str} {e : Expr} {es : List Expr} {ta : TA} {p pos pos' : Pos} {E : XK} {k : Nat} {fd : FuncData} {ps : List Str}
end
section
variable {K : PySem.W.Frag} {h : Hs} {R : D → Hs → Prop}
end
end Kb

/-! del xs[a:]; instances that stay owned; dicts with written keys; own lists cut, joined, compared, walked over. -/
namespace Kb
open PySem PySem.Spec PyProof.Rows L2
section
variable {prog : Program} {w : World} {A : Around} {E : Value → Shared → Prop} {s : Shared}
end
section
variable {X : Cx} {o : Expr} {lo : Option Expr} {p2 tpos pos : Pos} {to : TE} {tl : TO}
end
section
variable {X : Cx} {CX : CXT} {k : Nat} {x : Str} {C : Addr} {ps : List Str} {sp : Sp} {E : XK} {p pos : Pos}
end
section
variable {K : PySem.W.Frag} {Θ : Ctx} {env : Env'} {h : Hs} {R : D → Hs → Prop} {E : En} {x y : D} {te : TE} {t : TA} {C : Addr}
/-- a list that stays, or an own one -/
def SeqL (d : D) (h : Hs) (ps : List P) : Prop := match d with
  | .p (.lst xs) => xs = ps
  | .own i => h[i]? = some (some (.lst (ps.map D.p)))
  | _ => False
theorem SeqL.v {F : Hp} {ρ : List Addr} {H : Hp} {d : D} {v : V} {ps : List P} (s : SeqL d h ps) (rl : Rel K Θ F ρ h H) (a : RD K F ρ d v) : ∃ p vs, v = .ref p ∧ SqL K H p vs ∧ RPs K F ps vs := by
  cases a with
  | p a =>
    cases a with
    | lst a r => cases s; exact ⟨_, _, rfl, rl.same.seq a, r⟩
    | _ => exact s.elim
  | own a =>
    obtain ⟨p, u, e1, e2, e3, vs, e4, e5⟩ := rl.own _ _ s
    rw [a] at e1; cases e1
    subst e4
    exact ⟨_, _, rfl, .of e3, e5.pure⟩
/-- plain data, or an own list of such -/
def PyD (d : D) (h : Hs) (p : P) : Prop := match d with
  | .p y => y = p
  | .own i => ∃ ps, p = .lst ps ∧ h[i]? = some (some (.lst (ps.map D.p)))
theorem PyD.dp {F : Hp} {ρ : List Addr} {H : Hp} {d : D} {v : V} {p : P} (s : PyD d h p) (rl : Rel K Θ F ρ h H) (a : RD K F ρ d v) (pl : plainP p = true) : Dp K H v (pyOf p) := by
  cases a with
  | p a => cases s; exact a.dp rl.same pl
  | own a =>
    obtain ⟨ps, rfl, hn⟩ := s
    obtain ⟨q, u, e1, e2, e3, vs, e4, e5⟩ := rl.own _ _ hn
    rw [a] at e1; cases e1
    subst e4
    exact .lst (.of e3) (RPs.dp rl.same e5.pure (by unfold plainP at pl; exact pl))
end
end Kb

/-! Promises that follow from others. -/
namespace Kb
open PySem PySem.Spec PyProof.Rows L2
section
variable {P : Program} {w : World} {K : PySem.W.Frag} {T : Tbs} {mg : Str → Option Value} {base : Heap} {CX : CXT} {k : Nat} {x m : Str} {C : Addr} {ps : List Str} {W W' : Spc}
end
end Kb

/-! Methods that raise; own lists that stay from here on; reversed(xs); lists of either kind joined. -/
namespace Kb
open PySem PySem.Spec PyProof.Rows L2
section
variable {P : Program} {w : World} {K : PySem.W.Frag} {mg : Str → Option Value} {base : Heap} {m qual : Str} {st : Stmt} {N ps : List Str} {k : Nat} {T : Tbs} {C : Addr}
end
section
variable {X : Cx} {k : Nat} {C : Addr} {m : Str} {ps : List Str} {sp : Sp} {pos apos : Pos} {o : Expr} {ta : TE} {W : WX}
end
section
variable {K : PySem.W.Frag} {Θ : Ctx} {env : Env'} {h : Hs} {R : D → Hs → Prop} {E : En} {ta : TE} {ts : TS}
/-- from here on the own list in slot i stays as it is -/
theorem vs_freeze {i n : Nat} {ps : List P} (he : env[i]? = some (some (.own n))) (hn : h[n]? = some (some (.lst (ps.map D.p)))) (q : VS K Θ ts E (env.set i (some (dL ps))) (h.set n none)) : VS K Θ ts E env h := fun F ρ σ H D' rl e k => by
  obtain ⟨a, u, e1, e2, e3, e4, r4⟩ := rl.freeze hn
  obtain ⟨vs, rfl, e5⟩ := e4
  have sn := same_new (o := .lst vs) e2
  obtain ⟨v, g1, g2⟩ := e.get i _ he
  cases g2 with
  | own g2 =>
    rw [e1] at g2; cases g2
    have eσ : σ.set i (some (V.ref a)) = σ := by
      refine List.ext_getElem? fun j => ?_
      by_cases hj : i = j
      · subst hj
        rw [List.getElem?_set_self (List.getElem?_eq_some_iff.mp g1).1, g1]
      · rw [List.getElem?_set_ne hj]
    have z := (e.mono sn (Pre.refl _)).set (i := i) (d := dL ps) (v := .ref a) (.p (.lst (.of upd_same) e5.pure))
    rw [eσ] at z
    exact q _ ρ σ H D' r4 z (k.mono sn (Pre.refl _))
end
end Kb

/-! Numbers as bytes, seven bits in each. -/
namespace Kb
open PySem PySem.Spec PyProof.Rows L2
def val (bs : List Int) : Int := bs.foldr (fun b s => s * 128 + b % 128) 0
section
variable {K : PySem.W.Frag} {Θ : Ctx} {env : Env'} {h : Hs} {E : En} {t : TA} {i j : Nat}
end
end Kb

/-! Plain data of bounded depth, compared. -/
namespace Kb
open PySem PySem.Spec PyProof.Rows L2
structure Flat (n : Nat) (x : P) : Prop where
  lay : PyData.canLay0 (pyOf x) = true
  dep : PyData.depth (pyOf x) ≤ n
  pl : plainP x = true
theorem Flat.int {n : Nat} (i : Int) : Flat n (.int i) := ⟨rfl, Nat.zero_le _, rfl⟩
theorem Flat.bl {n : Nat} (b : Bool) : Flat n (.bl b) := ⟨rfl, Nat.zero_le _, rfl⟩
theorem Flat.non {n : Nat} : Flat n .non := ⟨rfl, Nat.zero_le _, rfl⟩
theorem flats {n : Nat} : ∀ {xs : List P}, (∀ x ∈ xs, Flat n x) → PyData.canLayAll0 (pyOf.pyOfs xs) = true ∧ PyData.depthAll (pyOf.pyOfs xs) ≤ n ∧ plainP.plainPs xs = true
  | [], _ => ⟨rfl, Nat.zero_le _, rfl⟩
  | x :: xs, h => by
    obtain ⟨a, b, c⟩ := h x (List.mem_cons_self ..)
    obtain ⟨a', b', c'⟩ := flats fun y hy => h y (List.mem_cons_of_mem _ hy)
    refine ⟨?_, ?_, ?_⟩
    · simp [pyOf.pyOfs, PyData.canLayAll0, a, a']
    · simp [pyOf.pyOfs, PyData.depthAll]
      omega
    · simp [plainP.plainPs, c, c']
theorem Flat.lst {n : Nat} {xs : List P} (h : ∀ x ∈ xs, Flat n x) : Flat (n + 1) (.lst xs) := by
  obtain ⟨a, b, c⟩ := flats h
  refine ⟨?_, ?_, ?_⟩
  · simpa [pyOf, PyData.canLay0] using a
  · simp [pyOf, PyData.depth]; omega
  · unfold plainP; exact c
theorem Flat.tup {n : Nat} {xs : List P} (h : ∀ x ∈ xs, Flat n x) : Flat (n + 1) (.tup xs) := by
  obtain ⟨a, b, c⟩ := flats h
  refine ⟨?_, ?_, ?_⟩
  · simpa [pyOf, PyData.canLay0] using a
  · simp [pyOf, PyData.depth]; omega
  · unfold plainP; exact c
theorem Flat.shaped {n : Nat} {x : P} (f : Flat n x) (h : n ≤ 64) : SeqAt.shaped (pyOf x) = true := by
  have d := f.dep
  simp only [SeqAt.shaped, f.lay, Bool.true_and, decide_eq_true_eq]
  omega
section
variable {K : PySem.W.Frag} {Θ : Ctx} {h : Hs} {R : D → Hs → Prop} {n : Nat} {x : P}
end
end Kb

/-! Defs as values, called; what the program's top holds: tuples and dicts; a list extended by one that stays. -/
namespace Kb
open PySem PySem.Spec PyProof.Rows L2 RZ
/-- the def at f keeps a promise -/
structure FnAt (P : Program) (w : World) (K : PySem.W.Frag) (mg : Str → Option Value) (base : Heap) (CX : CXT) (k : Nat) (f : Addr) (ps : List Str) (sp : Sp) : Prop where
  ex : ∃ fd, FnOk P w K mg base CX k f fd ps sp ∧ PySem.W.keepIn K (.ref f) = true ∧ Binds K fd ps []
theorem HasF.at_ {P : Program} {w : World} {K : PySem.W.Frag} {mg : Str → Option Value} {base : Heap} {CX : CXT} {k : Nat} {x : Str} {ps : List Str} {sp : Sp} {f : Addr} (h : HasF P w K mg base CX k x ps sp) (hf : mg x = some (.ref f)) : FnAt P w K mg base CX k f ps sp := by
  obtain ⟨g, fd, F, a, b, c⟩ := h.ex
  rw [hf] at a
  cases a
  exact ⟨fd, F, b, c⟩
theorem FnAt.mono {P : Program} {w : World} {K : PySem.W.Frag} {mg : Str → Option Value} {base : Heap} {CX : CXT} {j k : Nat} {f : Addr} {ps : List Str} {sp : Sp} (h : FnAt P w K mg base CX j f ps sp) (hk : j ≤ k) : FnAt P w K mg base CX k f ps sp := by
  obtain ⟨fd, F, b, c⟩ := h.ex
  exact ⟨fd, F.mono hk, b, c⟩
theorem FnAt.callV {X : Cx} {CX : CXT} {k i : Nat} {f : Addr} {ps : List Str} {sp : Sp} {E : XK} {x : Str} {e : Expr} {es : List Expr} {t : TA} {p pos : Pos} (h : FnAt X.prog X.w X.K X.mg X.base CX k f ps sp) (hr : Room k X.A) (hx : Passes CX X E) (hN : X.N[i]? = some x) (ha : PA X (e :: es) t)
    (hv : Vis X.env.scope x := by first | exact Or.inl rfl | exact Or.inr (Or.inl rfl) | exact Or.inr (Or.inr rfl)) (hd : (x == ("__debug__" : Str)) = false := by decide) (hcd : (x == ("__classdict__" : Str)) = false := by decide)
    (he : starEach (e :: es) X.env = (false, eval e X.env) :: starEach es X.env := by rfl) (hpl : (backTo pos (starEach es X.env)).any (·.1) = false := by rfl) : PE X (.Call (.Name x p) (e :: es) [] pos) (ItX.tCallV i f sp E t) := by
  obtain ⟨fd, F, hk, hb⟩ := h.ex
  have G : FnR X.prog X.w X.K X.mg X.base CX k f sp := FnR.imp (F.raw hb .nil) fun vs H Q E q => by rw [List.append_nil]; exact q
  exact ItX.pe_callV G hr hk hx hN hv ha hd hcd he hpl
section
variable {K : PySem.W.Frag} {Θ : Ctx} {env : Env'} {h : Hs} {R : D → Hs → Prop} {E : En} {t : TA}
theorem RD.cls {F : Hp} {ρ : List Addr} {c : Addr} {v : V} (a : RD K F ρ (.p (.cls c)) v) : v = .ref c := by
  cases a with
  | p a => cases a; rfl
theorem ve_callV {i : Nat} {f : Addr} {W : Spc} {E : XK} (hi : env[i]? = some (some (.p (.cls f)))) (q : VA K Θ t env h fun xs h1 => W xs h1 R) : VE K Θ (ItX.tCallV i f (spD K Θ.tabs W) E t) env h R := fun F ρ σ H Q rl e k => by
  obtain ⟨v, h1, h2⟩ := e.get i _ hi
  obtain rfl := h2.cls
  exact ⟨h1, q F ρ σ H _ rl e fun xs h1 vs F1 ρ1 H1 s1 p1 r1 dxs q1 => ⟨xs, h1, F1, ρ1, R, r1.toBase, dxs, q1, fun d h' v F' ρ' H' s3 p3 r3 dv q3 => k d h' v F' ρ' H' (s1.trans s3) (p1.trans p3) ⟨r3, r1.wish.mono s3 p3⟩ dv q3⟩⟩
/-! ### what the top holds -/
end
end Kb

/-! An own list extended by a list of either kind. -/
namespace Kb
open PySem PySem.Spec PyProof.Rows L2 RZ
section
open PySem.AutoSeq1 (wpAny_loadPart')
end
section
variable {X : Cx}
end
section
variable {K : PySem.W.Frag} {Θ : Ctx} {h : Hs} {R : D → Hs → Prop} {x y : D}
end
section
variable {X : Cx} {K : PySem.W.Frag} {w : World}
end
end Kb

/-! Texts read: a tuple of the top as a tuple in data, `in` a tuple, find from a place, replace behind a written text; a promise without errors out of one with errors. -/
namespace Kb
open PySem PySem.Spec PyProof.Rows L2
section
variable {P : Program} {w : World} {K : PySem.W.Frag} {T : Tbs} {mg : Str → Option Value} {base : Heap} {k : Nat} {x : Str} {ps : List Str} {W : SpcX} {W' : Spc}
end
section
variable {X : Cx}
/-- str of a number or of a text -/
def rStr1 : List V → Hp → VK → Prop := fun xs H Q => ∃ i, xs = [.int i] ∧ i.natAbs.log2 < 1920 ∧ Q (.str (toString i)) H
def rStr2 : List V → Hp → VK → Prop := fun xs H Q => ∃ a, xs = [.str a] ∧ Q (.str a) H
def rStrU : List V → Hp → VK → Prop := fun xs H Q => rStr1 xs H Q ∨ rStr2 xs H Q
theorem call_strU : CallR X (.type "str") rStrU := CallR.or (r := rStr1) (r' := rStr2) call_str_int SkE.call_str_str
end
section
variable {K : PySem.W.Frag} {Θ : Ctx} {env : Env'} {h : Hs} {R : D → Hs → Prop} {ta to : TE}
end
end Kb

/-! Tokens of a text: what stands at a place of it. -/
namespace Tz
open PySem PySem.Spec PyProof.Rows L2 Kb SX NumText
abbrev inS (z : Str) (c : Nat) : Bool := decide (c ∈ z.cps.toList)
abbrev run (z : Str) (u : List Nat) : List Nat := u.takeWhile (inS z)
end Tz

/-! A call without arguments; what is drawn, gathered. -/
namespace Kb
open PySem PySem.Spec PyProof.Rows L2
section
variable {X : Cx} {CX : CXT} {k : Nat} {x : Str} {ps : List Str} {sp : Sp} {E : XK} {p pos : Pos}
end
end Kb

/-! A comprehension whose items are owned; an own list repeated. -/
namespace Kb
open PySem PySem.Spec PyProof.Rows L2
section
variable {K : PySem.W.Frag} {Θ : Ctx} {env : Env'} {h : Hs} {R : D → Hs → Prop}
end
end Kb

/-! Dicts with tuple keys: key in d, key not in d, list(d). -/
namespace Kb
open PySem PySem.Spec PyProof.Rows L2
section
variable {X : Cx}
end
section
variable {K : PySem.W.Frag} {Θ : Ctx} {env : Env'} {h : Hs} {R : D → Hs → Prop}
end
end Kb

/-! sorted(xs), xs tuples whose first items are tuples of three ints, all different; in, not in for plain data. -/
namespace Kb
open PySem PySem.Spec PyProof.Rows L2
open PySem.W (dataLt)
abbrev K3 := Int × Int × Int
section
variable {prog : Program} {w : World} {A : Around} {s : Shared}
end
section
variable {X : Cx}
end
section
variable {K : PySem.W.Frag} {Θ : Ctx} {env : Env'} {h : Hs} {R : D → Hs → Prop}
def k3P (c : K3) : P := .tup [.int c.1, .int c.2.1, .int c.2.2]
end
end Kb

/-! The pure world of the store laws: rows, kept capabilities, what is told of a capability, paths. -/
namespace Wd
abbrev Key := Int × Int × Int
abbrev Rts := List (Bool × Bool × Bool)
inductive Pub where
  | grant (h : Int) (r : Rts)
  | revoke (c : Option Key)
  | mark
structure Row where
  a : Int
  n : Int
  hd : List Int
  cap : Option Key
  pub : List Pub
  pt : List Kb.P
structure Ent where
  k : Key
  par : Option Key
  hol : Int
  rts : Rts
structure Wld where
  m : Int
  rows : List Row
  cut : List Int
  caps : List Ent
  kp : List (Option (List Kb.P × List Kb.P × List Kb.P))
abbrev Told := Option Key × Int × Rts
def Pub.told (cap : Option Key) : Pub → Option Told
  | .grant h r => some (cap, h, r)
  | _ => none
def rowOf (w : Wld) (a b : Int) : Option Row := w.rows.find? fun r => decide (r.a = a ∧ r.n = b)
def rowTold (r : Option Row) (p : Int) : Option Told :=
  match r with
  | none => none
  | some r => if 0 ≤ p then (match r.pub[p.toNat]? with | some u => u.told r.cap | none => none) else none
def told (w : Wld) (c : Key) : Option Told :=
  match w.caps.find? fun e => decide (e.k = c) with
  | some e => some (e.par, e.hol, e.rts)
  | none => rowTold (rowOf w c.1 c.2.1) c.2.2
def par (w : Wld) (c : Key) : Option (Option Key) := (told w c).map (·.1)
/-- the chain to None, if it is shorter than that -/
def path (t : Key → Option (Option Key)) : Nat → Option Key → Option (List Key)
  | 0, _ => none
  | _ + 1, none => some []
  | n + 1, some k => (t k).bind fun p => (path t n p).map (k :: ·)
section
variable {t : Key → Option (Option Key)}
end
/-- the chain of a capability -/
def pathW (w : Wld) (c : Option Key) : Option (List Key) := path (par w) 40 c
end Wd

/-! Rows of a world: numbers that follow on each other; what is found by a name. -/
namespace Wd
variable {kp : List (Option (List Kb.P × List Kb.P × List Kb.P))}
def cutA (cut : List Int) (a : Int) : Int := cut[a.toNat]?.getD 0
def CapOk (m : Int) (c : Option Key) : Prop := ∀ k, c = some k → 0 ≤ k.1 ∧ k.1 < m ∧ 1 ≤ k.2.1 ∧ 0 ≤ k.2.2
def pubSum (rows : List Row) : Nat := (rows.map fun r => r.pub.length).sum
theorem pubSum_app (xs ys : List Row) : pubSum (xs ++ ys) = pubSum xs + pubSum ys := by unfold pubSum; rw [List.map_append, List.sum_append_nat]
end Wd

/-! What is kept of rows that are cut away. -/
namespace Wd
variable {kp : List (Option (List Kb.P × List Kb.P × List Kb.P))}
/-- a row that is cut away -/
def isCut (cut : List Int) (r : Row) : Bool := decide (r.n ≤ cutA cut r.a)
def EntOk (m : Int) (e : Ent) : Prop := CapOk m (some e.k) ∧ CapOk m e.par ∧ e.rts.length = 4 ∧ 0 ≤ e.hol ∧ e.hol < 6
structure KInv (m : Int) (rows : List Row) (cut : List Int) (i p : Nat) (L : List Ent) : Prop where
  nd : (L.map (·.k)).Nodup
  src : ∀ e ∈ L, ∃ (j : Nat) (r : Row) (q : Nat), rows[j]? = some r ∧ e.k = (r.a, r.n, (q : Int)) ∧ q < r.pub.length ∧ isCut cut r = true ∧ (j < i ∨ (j = i ∧ q < p)) ∧ EntOk m e
  par : ∀ (x : Nat) (e : Ent), L[x]? = some e → e.par = none ∨ ∃ (y : Nat) (e' : Ent), y < x ∧ L[y]? = some e' ∧ e.par = some e'.k
  len : L.length ≤ pubSum ((rows.take i).filter (isCut cut)) + p
namespace KInv
variable {m : Int} {rows : List Row} {cut : List Int} {i p : Nat} {L : List Ent}
theorem start : KInv m rows cut 0 0 [] := ⟨.nil, (fun e h => by cases h), (fun x e h => by simp at h), by simp⟩
theorem take_succ {r : Row} (h : rows[i]? = some r) : rows.take (i + 1) = rows.take i ++ [r] := by
  rw [List.take_add_one, h]; rfl
theorem next (k : KInv m rows cut i p L) : KInv m rows cut i (p + 1) L := by
  refine ⟨k.nd, fun e he => ?_, k.par, by have := k.len; omega⟩
  obtain ⟨j, r', q, h1, h2, h3, h4, h5, h6⟩ := k.src e he
  exact ⟨j, r', q, h1, h2, h3, h4, by omega, h6⟩
theorem done (k : KInv m rows cut i p L) {r : Row} (h : rows[i]? = some r) (hc : isCut cut r = true) (hp : p ≤ r.pub.length) : KInv m rows cut (i + 1) 0 L := by
  refine ⟨k.nd, fun e he => ?_, k.par, ?_⟩
  · obtain ⟨j, r', q, h1, h2, h3, h4, h5, h6⟩ := k.src e he
    exact ⟨j, r', q, h1, h2, h3, h4, .inl (by omega), h6⟩
  · have := k.len
    rw [take_succ h, List.filter_append, pubSum_app, List.filter_cons_of_pos hc]
    have : pubSum [r] = r.pub.length := by simp [pubSum]
    rw [List.filter_nil, this]
    omega
end KInv
end Wd

/-! What is fit, what is revoked. -/
namespace Wd
def inPast (a b : Int) (r : Row) : Bool := decide (0 ≤ a) && decide (a < (r.hd.length : Nat)) && decide (1 ≤ b) && decide (b ≤ r.hd[a.toNat]?.getD 0)
/-- the path of a capability, with None -/
def pathR (w : Wld) (c : Option Key) : List (Option Key) := match pathW w c with
  | none => []
  | some ks => ks.map some ++ [none]
end Wd

/-! Verdicts taken as given: what is said, what is held, what may be read. -/
namespace Wd
end Wd

/-! Rows whose past is whole; rows that differ in their parts alone. -/
namespace Wd
end Wd

/-! Undos, what is closed, what takes effect. -/
namespace Wd
end Wd

/-! The verdicts: decided from the top downwards. -/
namespace Wd
def rel (r s : Row) : Bool := decide (r.a = s.a ∧ r.n = s.n) || (inPast r.a r.n s || inPast s.a s.n r)
/-- how far from the top -/
def dep (w : Wld) (r : Row) : Nat := (pathR w r.cap).length
end Wd

/-! The verdicts, whatever the order is in which they are decided, those nearer to the top first. -/
namespace Wd
end Wd

/-! A plain row more turns no verdict. -/
namespace Wd
section
variable {w w' : Wld} {r : Row}
end
end Wd

/-! A drawn row more behind a cut. -/
namespace Wd
def more (w : Wld) (r : Row) : Wld := { w with rows := w.rows ++ [r] }
end Wd

/-! What lies in the past of an allowed seal stays as it is, whatever comes later. -/
namespace Wd
section
variable {w w' : Wld} {r : Row}
end
section
variable {w w' : Wld} {r x : Row}
end
end Wd

/-! in, not in for plain data; the store's world as data. -/
namespace Kb
open PySem PySem.Spec PyProof.Rows L2
section
variable {X : Cx} {K : PySem.W.Frag}
theorem _root_.L2.Room.u65 {k : Nat} {A : Around} (r : Room k A) : A.units + 65 < cLine := by have := r.un; omega
end
section
variable {K : PySem.W.Frag} {Θ : Ctx} {env : Env'} {h : Hs} {R : D → Hs → Prop}
theorem pyOfs_map : ∀ ps : List P, pyOf.pyOfs ps = ps.map pyOf
  | [] => rfl
  | p :: ps => by unfold pyOf.pyOfs; rw [pyOfs_map ps]; rfl
theorem plainPs_all : ∀ ps : List P, plainP.plainPs ps = ps.all plainP
  | [] => rfl
  | p :: ps => by unfold plainP.plainPs; rw [plainPs_all ps]; rfl
theorem seq_dp {F : Hp} {ρ : List Addr} {H : Hp} {d : D} {v : V} {ps : List P} (s : SeqL d h ps) (rl : Rel K Θ F ρ h H) (a : RD K F ρ d v) (pl : ps.all plainP = true) : Dp K H v (.list (ps.map pyOf)) := by
  obtain ⟨p, vs, rfl, h1, h2⟩ := s.v rl a
  have z := RPs.dp rl.same h2 (by rw [plainPs_all]; exact pl)
  rw [pyOfs_map] at z
  exact .lst h1 z
end
/-! ### capabilities, acts, rows as data -/
def capP : Option K3 → P
  | none => .non
  | some c => k3P c
section
variable {K : PySem.W.Frag} {Θ : Ctx} {env : Env'} {h : Hs} {R : D → Hs → Prop}
end
def rtP (t : Bool × Bool × Bool) : P := .tup [.bl t.1, .bl t.2.1, .bl t.2.2]
def rtsP (r : Wd.Rts) : P := .tup (r.map rtP)
def pubP : Wd.Pub → P
  | .grant h r => .tup [.str "grant", .int h, rtsP r]
  | .revoke c => .tup [.str "revoke", capP c]
  | .mark => .tup [.str "seal"]
end Kb

/-! Comprehensions, any, all over a list of data given by a function. -/
namespace Kb
open PySem PySem.Spec PyProof.Rows L2 Gx
section
variable {K : PySem.W.Frag} {Θ : Ctx} {env : Env'} {h : Hs} {R : D → Hs → Prop}
end
end Kb

/-! while by a number that falls. -/
namespace Kb
open PySem PySem.Spec PyProof.Rows L2 RZ
section
variable {K : PySem.W.Frag} {Θ : Ctx} {env : Env'} {h : Hs} {R : D → Hs → Prop}
open Classical in
end
end Kb

/-! What is owned: what stays, lists of own lists. -/
namespace Kb
open PySem PySem.Spec PyProof.Rows L2
theorem lt_of_get {h : Hs} {n : Nat} {o : Option OO} (e : h[n]? = some o) : n < h.length := (List.getElem?_eq_some_iff.mp e).1
theorem get_push {h x : Hs} {n : Nat} {o : Option OO} (e : h[n]? = some o) : (h ++ x)[n]? = some o := by rw [List.getElem?_append_left (lt_of_get e)]; exact e
theorem get_put {h : Hs} {n m : Nat} {o x : Option OO} (e : h[n]? = some o) (ne : m ≠ n) : (h.set m x)[n]? = some o := by rw [List.getElem?_set_ne ne]; exact e
section
variable {K : PySem.W.Frag} {Θ : Ctx} {R : D → Hs → Prop}
end
section
variable {K : PySem.W.Frag} {Θ : Ctx} {env : Env'} {h : Hs} {R : D → Hs → Prop}
end
/-- an own list of own lists of ints -/
structure LL (h : Hs) (o : Nat) (js : List Nat) (xss : List (List Int)) : Prop where
  out : h[o]? = some (some (.lst (js.map D.own)))
  len : js.length = xss.length
  inn : ∀ (k j : Nat) (xs : List Int), js[k]? = some j → xss[k]? = some xs → h[j]? = some (some (.lst (xs.map dI)))
  nd : (o :: js).Nodup
namespace LL
variable {h : Hs} {o : Nat} {js : List Nat} {xss : List (List Int)}
theorem push (L : LL h o js xss) (x : Hs) : LL (h ++ x) o js xss := ⟨get_push L.out, L.len, fun k j xs a b => get_push (L.inn k j xs a b), L.nd⟩
theorem put (L : LL h o js xss) {n : Nat} (x : Option OO) (hn : n ≠ o) (hj : n ∉ js) : LL (h.set n x) o js xss :=
  ⟨get_put L.out hn, L.len, fun k j xs a b => get_put (L.inn k j xs a b) fun z => hj (z ▸ List.mem_of_getElem? a), L.nd⟩
theorem ix (L : LL h o js xss) {k : Nat} (hk : k < xss.length) : ∃ j xs, js[k]? = some j ∧ xss[k]? = some xs ∧ (js.map D.own)[k]? = some (.own j) ∧ h[j]? = some (some (.lst (xs.map dI))) := by
  have hj : k < js.length := by rw [L.len]; exact hk
  have e1 := List.getElem?_eq_getElem hj
  have e2 := List.getElem?_eq_getElem hk
  exact ⟨_, _, e1, e2, by rw [List.getElem?_map, e1]; rfl, L.inn k _ _ e1 e2⟩
theorem inj (L : LL h o js xss) {k k' j : Nat} (e : js[k]? = some j) (e' : js[k']? = some j) : k = k' := by
  obtain ⟨h1, h2⟩ := List.getElem?_eq_some_iff.mp e
  obtain ⟨h3, h4⟩ := List.getElem?_eq_some_iff.mp e'
  have z := List.pairwise_iff_getElem.mp (List.nodup_cons.mp L.nd).2
  rcases Nat.lt_trichotomy k k' with g | g | g
  · exact absurd (h2.trans h4.symm) (z k k' h1 h3 g)
  · exact g
  · exact absurd (h4.trans h2.symm) (z k' k h3 h1 g)
theorem lt (L : LL h o js xss) : ∀ j ∈ js, j < h.length := fun j hm => by
  obtain ⟨i, hi, e⟩ := List.getElem_of_mem hm
  have e1 : js[i]? = some j := by rw [List.getElem?_eq_getElem hi, e]
  have hx : i < xss.length := by rw [← L.len]; exact hi
  exact lt_of_get (L.inn i j _ e1 (List.getElem?_eq_getElem hx))
end LL
end Kb

/-! zip(t, l), t a tuple and l a list: the machine's steps, the walk, its rule. -/
namespace Kb
open PySem PySem.Spec PyProof.Rows L2 RZ
section
variable {prog : Program} {w : World} {A : Around} {E : Value → Shared → Prop} {s : Shared}
end
section
variable {K : PySem.W.Frag} {Θ : Ctx} {env : Env'} {h : Hs} {R : D → Hs → Prop}
end
end Kb

/-! Dicts with tuple keys asked for None. -/
namespace Kb
open PySem PySem.Spec PyProof.Rows L2
section
variable {prog : Program} {w : World} {K : Type} [DecidableEq K] {knd : KeyKind prog w K} {A : Around} {E : Value → Shared → Prop} {s : Shared}
end
section
variable {X : Cx}
end
section
variable {K : PySem.W.Frag} {Θ : Ctx} {env : Env'} {h : Hs} {R : D → Hs → Prop}
end
end Kb

/-! zip(l, t), l a list and t a tuple. -/
namespace Kb
open PySem PySem.Spec PyProof.Rows L2 RZ
section
variable {prog : Program} {w : World} {A : Around} {E : Value → Shared → Prop} {s : Shared}
end
section
variable {K : PySem.W.Frag} {Θ : Ctx} {env : Env'} {h : Hs} {R : D → Hs → Prop}
end
end Kb

/-! enumerate(t), t a tuple. -/
namespace Kb
open PySem PySem.Spec PyProof.Rows L2 RZ
section
variable {prog : Program} {w : World} {A : Around} {E : Value → Shared → Prop} {s : Shared}
end
section
variable {K : PySem.W.Frag} {Θ : Ctx} {env : Env'} {h : Hs}
end
end Kb

/-! Comprehensions with two sources, given by functions. -/
namespace Kb
open PySem PySem.Spec PyProof.Rows L2 Gx
section
variable {K : PySem.W.Frag} {Θ : Ctx} {env : Env'} {h : Hs} {R : D → Hs → Prop}
end
end Kb

/-! d[k], d an own dict with tuple keys. -/
namespace Kb
open PySem PySem.Spec PyProof.Rows L2 Gx
section
variable {K : PySem.W.Frag} {Θ : Ctx} {env : Env'} {h : Hs} {R : D → Hs → Prop}
end
end Kb

/-! sorted(xs), xs tuples of three ints: in order. -/
namespace Kb
open PySem PySem.Spec PyProof.Rows L2
section
variable {prog : Program} {w : World} {A : Around} {s : Shared}
end
section
variable {X : Cx}
end
section
variable {K : PySem.W.Frag} {Θ : Ctx} {env : Env'} {h : Hs} {R : D → Hs → Prop}
end
end Kb

/-! len(d), d an own dict with tuple keys. -/
namespace Kb
open PySem PySem.Spec PyProof.Rows L2 Gx
section
variable {K : PySem.W.Frag} {Θ : Ctx} {env : Env'} {h : Hs} {R : D → Hs → Prop}
end
end Kb

/-! Many own lists, one in another, frozen at once. -/
namespace Kb
open PySem PySem.Spec PyProof.Rows L2
section
variable {K : PySem.W.Frag} {Θ : Ctx} {T : Tbs}
open Classical in
end
end Kb

/-! Rows that stand there as own lists, with own parts. -/
namespace Kb
open PySem PySem.Spec PyProof.Rows L2
abbrev RC := Nat × Nat × Wd.Row
def rowI (r : Wd.Row) (p : Nat) : List D := [dI r.a, dI r.n, dL (r.hd.map P.int), .p (capP r.cap), dL (r.pub.map pubP), .own p]
def ixs (o : Nat) (L : List RC) : List Nat := o :: (L.map (fun c => c.1) ++ L.map fun c => c.2.1)
structure RowsAt (h : Hs) (o : Nat) (L : List RC) : Prop where
  out : h[o]? = some (some (OO.lst ((L.map fun c => c.1).map D.own)))
  each : ∀ c ∈ L, h[c.1]? = some (some (OO.lst (rowI c.2.2 c.2.1))) ∧ h[c.2.1]? = some (some (OO.lst (c.2.2.pt.map D.p)))
  nd : (ixs o L).Nodup
section
variable {h : Hs} {o : Nat} {L : List RC}
end
/-! ### a world with own kept lists -/
section
variable {h : Hs} {o i : Nat} {w : Wd.Wld}
end
end Kb

/-! A dict made by a comprehension, its keys tuples. -/
namespace Kb
open PySem PySem.Spec PyProof.Rows L2
section
variable {X : Cx} {tg iter kx vx : Expr} {ifs : List Expr} {scope : Scope} {own : List (Str × Nat)} {pos : Pos} {wi : TI} {g : TG} {tt : TT} {tk tv : TE}
abbrev blkAt (X : Cx) (scope : Scope) (s : Shared) (H : Hp) (C : Addr) (cl : List (Str × Addr)) (fp : List Addr) : Cx := X.blk s H scope (compEnvC scope cl C X.env) fp
end
section
variable {K : PySem.W.Frag} {Θ : Ctx} {env : Env'} {h : Hs} {R : D → Hs → Prop}
end
end Kb

/-! An own dict with tuple keys: isinstance, clear. -/
namespace Kb
open PySem PySem.Spec PyProof.Rows L2
section
variable {K : PySem.W.Frag} {Θ : Ctx} {env : Env'} {h : Hs} {R : D → Hs → Prop}
end
end Kb

/-! x or y, any values. -/
namespace Kb
open PySem PySem.Spec PyProof.Rows L2
section
variable {K : PySem.W.Frag} {Θ : Ctx} {env : Env'} {h : Hs} {R : D → Hs → Prop}
end
end Kb

/-! sorted(range(..), key=lambda x: ..): the lambda's own context, the calls, the sorting. -/
namespace Kb
open PySem PySem.Spec PyProof.Rows L2 LamX
open PySem.W (dataLe KeyedOut AllAlike Sortable)
section
variable {X : Cx} {pins : List (Addr × Obj)} {σ : L2.St} {H HZ : Hp} {s s1 : Shared}
end
end Kb

/-! sorted(range(..), key=lambda x: ..): the sorting. -/
namespace Kb
open PySem PySem.Spec PyProof.Rows L2 LamX
open PySem.W (dataLe KeyedOut AllAlike Sortable)
section
variable {X : Cx} {pins : List (Addr × Obj)} {σ : L2.St} {H : Hp} {s : Shared}
end
end Kb

/-! sorted(range(n), key=lambda x: ..), the whole expression. -/
namespace Kb
open PySem PySem.Spec PyProof.Rows L2 LamX
open PySem.W (dataLe KeyedOut AllAlike Sortable)
section
variable {prog : Program} {w : World} {A : Around} {E : Value → Shared → Prop} {s : Shared}
end
section
variable {X : Cx}
end
end Kb

/-! sorted(range(n), key=lambda x: ..), in data. -/
namespace Kb
open PySem PySem.Spec PyProof.Rows L2 LamX
open PySem.W (AllAlike Sortable)
section
variable {K : PySem.W.Frag} {Θ : Ctx} {env : Env'} {h : Hs} {R : D → Hs → Prop}
end
end Kb

/-! Own dicts with tuple keys: setdefault; get with a default, asked for a tuple or for None. -/
namespace Kb
open PySem PySem.Spec PyProof.Rows L2
section
variable {X : Cx}
end
section
variable {K : PySem.W.Frag} {Θ : Ctx} {env : Env'} {h : Hs} {R : D → Hs → Prop}
end
end Kb

/-! Sorted by one number. -/
namespace Kb
open PySem PySem.Spec PyProof.Rows L2
open PySem.W (dataLe dataLt AllAlike Sortable)
end Kb

/-! A walk over a list that is owned, or stays. -/
namespace Kb
open PySem PySem.Spec PyProof.Rows L2
section
variable {K : PySem.W.Frag} {Θ : Ctx} {env : Env'} {h : Hs}
theorem vi_seqOL {tl : TE} {R : List D → (Hs → Prop) → Hs → Prop} (q : VE K Θ tl env h fun x h1 => ∃ ps, ((∃ n, x = .own n ∧ h1[n]? = some (some (.lst (ps.map D.p)))) ∨ x = dL ps) ∧ R (ps.map D.p) (fun h2 => ∀ n, x = .own n → h2[n]? = some (some (.lst (ps.map D.p)))) h1) : VI K Θ (iSeq K tl) env h R := fun F ρ σ H Q rl e k =>
  q F ρ σ H _ rl e fun x h1 vx F1 ρ1 H1 s1 p1 r1 dx q1 => by
    obtain ⟨ps, c, q1⟩ := q1
    rcases c with ⟨n, rfl, hx⟩ | rfl
    · cases dx with
      | @own a _ ha =>
        have at_ : ∀ (F' : Hp) (ρ' : List Addr) (h' : Hs) (H' : Hp), Pre ρ1 ρ' → Rel K Θ F' ρ' h' H' → h'[n]? = some (some (.lst (ps.map D.p))) → ∃ vs, H' a = some (.lst vs) ∧ RA K F' ρ' (ps.map D.p) vs := fun F' ρ' h' H' p r hn => by
          obtain ⟨a', u, e1, e2, e3, vs, e4, e5⟩ := r.own _ _ hn
          rw [p _ _ ha] at e1; cases e1
          subst e4
          exact ⟨vs, e3, e5⟩
        obtain ⟨vs, hv, _⟩ := at_ F1 ρ1 h1 H1 (Pre.refl _) r1 hx
        refine .inl ⟨a, rfl, ⟨vs, .of hv⟩, k (ps.map D.p) _ h1 _ F1 ρ1 H1 s1 p1 r1 ⟨fun F' ρ' h' H' s p r c => ?_, fun i F' ρ' h' H' s p r c hi => ?_, fun i d F' ρ' h' H' x H2 s p r c hd hy => ?_⟩ q1⟩
        · obtain ⟨vs, hv, rv⟩ := at_ F' ρ' h' H' p r (c n rfl)
          exact ⟨vs, .of hv, by rw [rv.len]; exact Nat.le_refl _⟩
        · obtain ⟨vs, hv, rv⟩ := at_ F' ρ' h' H' p r (c n rfl)
          rw [rv.len] at hi
          exact ⟨vs, vs[i], .of hv, List.getElem?_eq_getElem hi⟩
        · obtain ⟨e1, e2⟩ := hy
          subst e1
          obtain ⟨vs, hv, rv⟩ := at_ F' ρ' h' _ p r (c n rfl)
          obtain ⟨v, h1, h2⟩ := rv.get hd
          have ev := e2 vs (.of hv)
          rw [h1] at ev; cases ev
          exact ⟨F', Same.refl _, r, h2⟩
    · cases dx with
      | p dx =>
        cases dx with
        | @lst a _ vs ha rp =>
          refine .inl ⟨a, rfl, ⟨vs, r1.same.seq ha⟩, k (ps.map D.p) _ h1 _ F1 ρ1 H1 s1 p1 r1 ⟨fun F' ρ' h' H' s p r _ => ?_, fun i F' ρ' h' H' s p r _ hi => ?_, fun i d F' ρ' h' H' x H2 s p r _ hd hy => ?_⟩ q1⟩
          · exact ⟨vs, r.same.seq (s.seq ha), by rw [List.length_map, rp.len]; exact Nat.le_refl _⟩
          · rw [List.length_map, rp.len] at hi
            exact ⟨vs, vs[i], r.same.seq (s.seq ha), List.getElem?_eq_getElem hi⟩
          · obtain ⟨e1, e2⟩ := hy
            subst e1
            rw [List.getElem?_map] at hd
            cases hp : ps[i]? with
            | none => rw [hp] at hd; cases hd
            | some p0 =>
              rw [hp] at hd; cases hd
              obtain ⟨v, hv, rv⟩ := rp.get hp
              have ev := e2 vs (r.same.seq (s.seq ha))
              rw [hv] at ev; cases ev
              exact ⟨F', Same.refl _, r, .p (rv.mono s)⟩
end
end Kb

/-! What an expression gives stays from here on. -/
namespace Kb
open PySem PySem.Spec PyProof.Rows L2
section
variable {K : PySem.W.Frag} {Θ : Ctx} {env : Env'} {h : Hs} {R : D → Hs → Prop}
end
end Kb

/-! An expression whose leavings do not count. -/
namespace Kb
open PySem PySem.Spec PyProof.Rows L2
section
variable {K : PySem.W.Frag} {Θ : Ctx} {env : Env'} {h : Hs} {R : D → Hs → Prop}
end
end Kb

/-! Rows that stand there as own lists, with own parts and own public acts. -/
namespace Kb
open PySem PySem.Spec PyProof.Rows L2
section
variable {h : Hs} {o : Nat} {L : List RQ}
end
end Kb

/-! xs[::-1]: a new list, turned round. -/
namespace Kb
open PySem PySem.Spec PyProof.Rows L2
section
variable {X : Cx} {K : PySem.W.Frag} {e : Expr} {te : TE} {st : Expr} {ts : TO} {pos p2 : Pos}
end
section
variable {K : PySem.W.Frag} {Θ : Ctx} {te : TE} {ts : TO} {env : Env'} {h : Hs} {R : D → Hs → Prop}
end
end Kb

/-! Things that are owned, by name: where each stands, what it is. -/
namespace Kb
open PySem PySem.Spec PyProof.Rows L2
section
variable {τ : Type} [DecidableEq τ]
variable {h h' : Hs} {T : List τ} {ix : τ → Nat} {ct : τ → OO}
end
/-! dicts whose keys are spots -/
end Kb

/-! A method of a tuple of the program's top. -/
namespace Kb
open PySem PySem.Spec PyProof.Rows L2
section
variable {K : PySem.W.Frag} {Θ : Ctx} {env : Env'} {h : Hs} {R : D → Hs → Prop}
end
end Kb

/-! Own dicts whose keys are nested tuples (of numbers, truths, texts, None and such tuples): {}, d[k], k in d, d.get, d[k] = v, d.setdefault. -/
namespace Kb
open PySem PySem.Spec PyProof.Rows L2
/-! ### keys in the heap -/
mutual
inductive NkV (H : Hp) : NestedKey → V → Prop
  | none : NkV H .none .non
  | bl (b : Bool) : NkV H (.num (if b then 1 else 0)) (.bl b)
  | num (i : Int) : NkV H (.num i) (.int i)
  | text (s : Str) : NkV H (.text s) (.str s)
  | tup {a : Addr} {ks : List NestedKey} {vs : List V} : H a = some (.tup vs) → NkVs H ks vs → NkV H (.tup ks) (.ref a)
inductive NkVs (H : Hp) : List NestedKey → List V → Prop
  | nil : NkVs H [] []
  | cons {k : NestedKey} {v : V} {ks : List NestedKey} {vs : List V} : NkV H k v → NkVs H ks vs → NkVs H (k :: ks) (v :: vs)
end
mutual
theorem NkV.mono {H H' : Hp} (e : ∀ b xs, H b = some (.tup xs) → H' b = some (.tup xs)) : ∀ {k : NestedKey} {v : V}, NkV H k v → NkV H' k v
  | _, _, .none => .none
  | _, _, .bl b => .bl b
  | _, _, .num i => .num i
  | _, _, .text s => .text s
  | _, _, .tup h r => .tup (e _ _ h) (NkVs.mono e r)
theorem NkVs.mono {H H' : Hp} (e : ∀ b xs, H b = some (.tup xs) → H' b = some (.tup xs)) : ∀ {ks : List NestedKey} {vs : List V}, NkVs H ks vs → NkVs H' ks vs
  | _, _, .nil => .nil
  | _, _, .cons h r => .cons (NkV.mono e h) (NkVs.mono e r)
end
mutual
theorem NkV.is {P : Program} {w : World} {H : Hp} {h : Heap} (ok : HOk P w H h) : ∀ {k : NestedKey} {v : V} {u : Value}, NkV H k v → RelV v u → NestedIs h k u
  | _, _, _, .none, r => by cases r; exact .none
  | _, _, _, .bl b, r => by
    have r : _ = Value.bool b := r
    subst r; exact .bool rfl
  | _, _, _, .num i, r => by obtain ⟨t, rfl⟩ := r; exact .int i t
  | _, _, _, .text s, r => by obtain ⟨t, rfl⟩ := r; exact .text s t
  | _, _, _, .tup (a := a) (vs := vs) e q, r => by
    have r : _ = Value.ref a := r
    subst r
    obtain ⟨_, its, rv, o, h1, h2, n, h3⟩ := (show ObjOk P w H h a (.tup vs) from ok a _ e)
    exact .tup h1 h2 h3 (by simpa using NkVs.are ok q rv)
theorem NkVs.are {P : Program} {w : World} {H : Hp} {h : Heap} (ok : HOk P w H h) : ∀ {ks : List NestedKey} {vs : List V} {us : List Value}, NkVs H ks vs → Vals vs us → NestedAll h ks us
  | _, _, _, .nil, .nil => .nil
  | _, _, _, .cons a r, .cons b s => .cons (NkV.is ok a b) (NkVs.are ok r s)
end
mutual
theorem RP.nk {K : PySem.W.Frag} {F : Hp} : ∀ {p : P} {v : V} {k : NestedKey}, RP K F p v → nkP p = some k → NkV F k v
  | _, _, _, .non, e => by cases e; exact .none
  | _, _, _, .bl b, e => by cases e; exact .bl b
  | _, _, _, .int i, e => by cases e; exact .num i
  | _, _, _, .str s, e => by cases e; exact .text s
  | .tup xs, _, k, .tup h r, e => by
    simp only [nkP] at e
    cases q : nkP.nkPs xs with
    | none => rw [q] at e; cases e
    | some ks => rw [q] at e; cases e; exact .tup h (RPs.nk r q)
  | _, _, _, .ktp h r, e => by simp [nkP] at e
  | _, _, _, .lst h r, e => by simp [nkP] at e
  | _, _, _, .ins h r, e => by simp [nkP] at e
  | _, _, _, .ty n, e => by simp [nkP] at e
  | _, _, _, .cls C, e => by simp [nkP] at e
theorem RPs.nk {K : PySem.W.Frag} {F : Hp} : ∀ {ps : List P} {vs : List V} {ks : List NestedKey}, RPs K F ps vs → nkP.nkPs ps = some ks → NkVs F ks vs
  | _, _, _, .nil, e => by cases e; exact .nil
  | x :: xs, _, ks, .cons a r, e => by
    simp only [nkP.nkPs] at e
    cases q : nkP x with
    | none => rw [q] at e; cases e
    | some k =>
      rw [q] at e
      simp only [Option.bind_some] at e
      cases q2 : nkP.nkPs xs with
      | none => rw [q2] at e; cases e
      | some ks => rw [q2] at e; cases e; exact .cons (RP.nk a q) (RPs.nk r q2)
end
/-! ### the dict at a -/
abbrev NG := (NestedKey × Addr) × V
abbrev KTN : List NG → List (NestedKey × Addr × Value) → Prop := Paired fun g x => g.1.1 = x.1 ∧ g.1.2 = x.2.1 ∧ RelV g.2 x.2.2
def valN (gs : List NG) (k : NestedKey) : Option V := (gs.find? fun g => decide (g.1.1 = k)).map (·.2)
def putN (gs : List NG) (k : NestedKey) (b : Addr) (v : V) : List NG := if (valN gs k).isSome = true then gs.map (fun g => if g.1.1 = k then (g.1, v) else g) else gs ++ [((k, b), v)]
theorem KTN.val {gs : List NG} {xs : List (NestedKey × Addr × Value)} (r : KTN gs xs) (k : NestedKey) : RelO (valN gs k) ((atKey xs k).map (·.2)) := by
  induction r with
  | nil => exact True.intro
  | @cons p q ps qs h t ih =>
    obtain ⟨h1, _, h2⟩ := h
    by_cases e : p.1.1 = k
    · have e' : q.1 = k := h1.symm.trans e
      have b : atKey (q :: qs) k = some q.2 := by simp [atKey, List.find?_cons, e']
      have c : valN (p :: ps) k = some p.2 := by simp [valN, List.find?_cons, e]
      rw [c, b]; exact h2
    · have e' : ¬ q.1 = k := fun z => e (h1.trans z)
      have b : atKey (q :: qs) k = atKey qs k := by simp [atKey, List.find?_cons, e']
      have c : valN (p :: ps) k = valN ps k := by simp [valN, List.find?_cons, e]
      rw [c, b]; exact ih
theorem KTN.put {gs : List NG} {xs : List (NestedKey × Addr × Value)} (r : KTN gs xs) (k : NestedKey) {b : Addr} {y : V} {u : Value} (ry : RelV y u) : KTN (putN gs k b y) (storedH xs k b u) := by
  have e : (valN gs k).isSome = (atKey xs k).isSome := by rw [(r.val k).isSome_eq, Option.isSome_map]
  unfold putN storedH
  rw [e]
  by_cases q : (atKey xs k).isSome = true
  · rw [if_pos q, if_pos q]
    clear e q
    induction r with
    | nil => exact .nil
    | @cons p q ps qs h t ih =>
      rw [List.map_cons, List.map_cons]
      refine .cons ?_ ih
      obtain ⟨h1, h2, h3⟩ := h
      unfold putAt
      by_cases e : p.1.1 = k
      · rw [if_pos e, if_pos (h1.symm.trans e)]; exact ⟨h1, h2, ry⟩
      · rw [if_neg e, if_neg (fun z => e (h1.trans z))]; exact ⟨h1, h2, h3⟩
  · rw [if_neg q, if_neg q]; exact Paired.snoc r ⟨rfl, rfl, ry⟩
theorem length_putN (gs : List NG) (k : NestedKey) (b : Addr) (v : V) : (putN gs k b v).length ≤ gs.length + 1 := by
  unfold putN
  split
  · rw [List.length_map]; omega
  · rw [List.length_append]; simp
/-- a dict at a, its keys stand in the heap -/
structure NdAt (pw : Program × World) (H : Hp) (a : Addr) (gs : List NG) : Prop where
  at_ : H a = some (.ext (NdPhi pw a gs))
  ks : ∀ g ∈ gs, NkV H g.1.1 (.ref g.1.2) ∧ g.1.1.depth ≤ 8
theorem NdAt.dict {P : Program} {w : World} {H : Hp} {h : Heap} {a : Addr} {gs : List NG} (n : NdAt (P, w) H a gs) (ok : HOk P w H h) : gs.length ≤ sizeLine ∧ (a == sysModules) = false ∧ ∃ xs, KTN gs xs ∧ h.DictOfH (nestedKind P w) a xs := by
  obtain ⟨⟨z, y, xs, r, o, es, ep, h1, h2, h3, h4, h5⟩, _, _⟩ := (show ObjOk P w H h a (.ext (NdPhi (P, w) a gs)) from ok a _ n.at_)
  refine ⟨z, y, xs, r, o, es, ep, h1, h2, h3, h4, fun x hx => ?_, h5⟩
  have all : ∀ {l : List NG} {m : List (NestedKey × Addr × Value)}, KTN l m → (∀ g ∈ l, NkV H g.1.1 (.ref g.1.2) ∧ g.1.1.depth ≤ 8) → ∀ x ∈ m, (nestedKind P w).is h x.1 x.2.1 := by
    intro l m q
    induction q with
    | nil => intro _ x hx; exact nomatch hx
    | @cons p q ps qs hq t ih =>
      intro hk x hx
      rcases List.mem_cons.mp hx with e | hx
      · subst e
        obtain ⟨k1, k2⟩ := hk p (List.mem_cons_self ..)
        rw [hq.1, hq.2.1] at k1
        rw [hq.1] at k2
        exact ⟨k1.is ok rfl, k2⟩
      · exact ih (fun g hg => hk g (List.mem_cons_of_mem _ hg)) x hx
  exact all r n.ks x hx
theorem ndPhi_obj {P : Program} {w : World} {H : Hp} {h : Heap} {a : Addr} {gs : List NG} {xs : List (NestedKey × Addr × Value)} (z : gs.length ≤ sizeLine) (y : (a == sysModules) = false) (r : KTN gs xs) (d : h.DictOfH (nestedKind P w) a xs) : ObjOk P w H h a (.ext (NdPhi (P, w) a gs)) := by
  obtain ⟨o, es, ep, h1, h2, h3, h4, _, h5⟩ := d
  refine ⟨⟨z, y, xs, r, o, es, ep, h1, h2, h3, h4, h5⟩, ⟨o, h1⟩, fun g1 g2 p k => ?_⟩
  obtain ⟨z, y, xs, r, o, es, ep, h1, h2⟩ := p
  exact ⟨z, y, xs, r, o, es, ep, k o h1, h2⟩
/-- a key that is asked for -/
structure NkAt (H : Hp) (k : NestedKey) (b : Addr) : Prop where
  v : NkV H k (.ref b)
  d : k.depth ≤ 8
section
variable {X : Cx} {pins : List (Addr × Obj)} {σ : L2.St} {H : Hp} {s : Shared} {a b : Addr} {y d : V} {u r : Value} {A : Around} {E : Value → Shared → Prop} {gs : List NG} {k : NestedKey}
theorem nk_is (I : Inv X pins σ H s) (q : NkAt H k b) : (nestedKind X.prog X.w).is s.heap k b := ⟨q.v.is I.hok rfl, q.d⟩
theorem nk_room (hu : A.units + 9 < cLine) : (nestedKind X.prog X.w).room A.in1 := by show A.units + 1 + 8 < cLine; omega
theorem nd_getItem {v : V} {Q : Value → Shared → Prop} (hu : A.units + 9 < cLine) (I : Inv X pins σ H s) (n : NdAt (X.prog, X.w) H a gs) (q : NkAt H k b) (l : valN gs k = some v) (h : ∀ w' s', Inv X pins σ H s' → RelV v w' → Q w' s') :
    wpAny (model X.prog X.w) A (getItem (.ref a) (.ref b)) Q E s := by
  obtain ⟨z, hd, xs, rel, dd⟩ := n.dict I.hok
  obtain ⟨w', hw, rw'⟩ := RelO.some_of (v := v) (o := (atKey xs k).map (·.2)) (by rw [← l]; exact rel.val k)
  obtain ⟨p, hp, hp2⟩ := Option.map_eq_some_iff.mp hw
  refine wpAny_getItem_heap (nk_room hu) (nk_is I q) dd hp ?_
  rw [hp2]
  exact h w' _ (I.tok _) rw'
theorem nd_get2 {Q : Value → Shared → Prop} (hu : A.units + 9 < cLine) (I : Inv X pins σ H s) (n : NdAt (X.prog, X.w) H a gs) (q : NkAt H k b) (rd : RelV d r) (h : ∀ w' s', Inv X pins σ H s' → RelV ((valN gs k).getD d) w' → Q w' s') :
    wpAny (model X.prog X.w) A (call (.builtin "dict.get") [.ref a, .ref b, r]) Q E s := by
  obtain ⟨z, hd, xs, rel, dd⟩ := n.dict I.hok
  exact call_meetsIn PySem.F.slot_dict_get dd.typeIs PySem.F.entry_dict_get (PySem.F.args_dict_get_3 _ _ _) (meetsH_dict_get_default (nestedKind X.prog X.w) a b hd r) ⟨nk_room hu, k, xs, nk_is I q, dd, h _ _ (I.tok _) ((rel.val k).getD rd)⟩
theorem nd_setItem {v : V} {Q : Unit → Shared → Prop} (hu : A.units + 9 < cLine) (I : Inv X pins σ H s) (n : NdAt (X.prog, X.w) H a gs) (q : NkAt H k b) (hl : gs.length < sizeLine) (rv : RelV v r) (h : ∀ s', Inv X pins σ (upd H a (.ext (NdPhi (X.prog, X.w) a (putN gs k b v)))) s' → Q () s') :
    wpAny (model X.prog X.w) A (setItem (.ref a) (.ref b) r) Q E s := by
  obtain ⟨z, hd, xs, rel, dd⟩ := n.dict I.hok
  have hz : xs.length ≤ sizeLine := by rw [← Paired.length rel]; exact z
  have hl2 : (putN gs k b v).length ≤ sizeLine := by have := length_putN gs k b v; omega
  refine wpAny_setItem_heap (hsz := hz) (nk_room hu) (nk_is I q) dd fun h' dd' hs => h _ ?_
  obtain ⟨o, _, _, ho, _⟩ := id dd'
  exact d_write I (by rw [n.at_]; exact True.intro) hs ⟨o, ho⟩ (ndPhi_obj hl2 hd (rel.put k rv) dd')
theorem nd_typeIs (I : Inv X pins σ H s) (n : NdAt (X.prog, X.w) H a gs) : s.TypeIs (.ref a) "dict" ∧ (∀ b, Value.ref a = .ref b → ∃ ob, s.heap.get? b = some ob ∧ ob.dict = none) := by
  obtain ⟨_, _, xs, _, dd⟩ := n.dict I.hok
  refine ⟨dd.typeIs, fun b q => ?_⟩
  cases q
  obtain ⟨ob, _, _, h1, h2, _⟩ := dd
  exact ⟨ob, h1, h2.2.1⟩
end
end Kb

/-! Own dicts whose keys are nested tuples: the rules in data. -/
namespace Kb
open PySem PySem.Spec PyProof.Rows L2
/-! ### readings -/
def tNNew (pw : Program × World) : TE := fun _ H Q => ∀ p, H p = none → Q (.ref p) (upd H p (.ext (NdPhi pw p [])))
def tNIx (pw : Program × World) (td ty : TE) : TE := fun σ H Q => td σ H fun x H1 => ty σ H1 fun y H2 => ∃ a b gs k v, x = .ref a ∧ y = .ref b ∧ NdAt pw H2 a gs ∧ NkAt H2 k b ∧ valN gs k = some v ∧ Q v H2
def tNGet2 (pw : Program × World) (td ty tx : TE) : TE := fun σ H Q => td σ H fun x H1 => ∃ a, x = .ref a ∧ (∃ gs, NdAt pw H1 a gs) ∧ ty σ H1 fun y H2 => tx σ H2 fun z H3 => ∃ b gs k, y = .ref b ∧ NdAt pw H3 a gs ∧ NkAt H3 k b ∧ Q ((valN gs k).getD z) H3
def sNPut (pw : Program × World) (td ty tv : TE) : TS := fun D' σ H => tv σ H fun v H1 => td σ H1 fun x H2 => ty σ H2 fun y H3 => ∃ a b gs k, x = .ref a ∧ y = .ref b ∧ NdAt pw H3 a gs ∧ NkAt H3 k b ∧ gs.length < sizeLine ∧ D'.nx σ (upd H3 a (.ext (NdPhi pw a (putN gs k b v))))
section
variable {X : Cx} {o i e f value : Expr} {pos pos' apos cpos : Pos} {td ty tv tx : TE}
theorem pe_nnew : PE X (.Dict [] [] pos) (tNNew (X.prog, X.w)) := ⟨fun pins s σ H Q I h =>
  wpAny_Dict_empty ⟨.ref s.heap.objs.size, _, I.laid (a := s.heap.objs.size) (o := .ext (NdPhi (X.prog, X.w) s.heap.objs.size [])) (t' := s.toks) (fun _ _ q => Heap.get?_push_of_some _ q) (Nat.le_refl _)
    (ndPhi_obj (xs := []) (Nat.zero_le _) (beq_eq_false_iff_ne.mpr (Ne.symm (Nat.ne_of_lt I.big))) .nil (Heap.DictOfH.new s.heap)), rfl, h _ (I.hok.fresh (Nat.le_refl _))⟩⟩
theorem pe_nix (hu : X.A.units + 9 < cLine) (ho : PE X o td) (hi : PE X i ty) (hs : NoSl i) : PE X (.Subscript o i pos) (tNIx (X.prog, X.w) td ty) := by
  refine ⟨fun pins s σ H Q I h => ?_⟩
  refine subD_of PySem.F.slot_dict_getitem.lookup hs (thn (ho.run pins s σ H _ I h) fun u s1 ⟨x, H1, I1, rx, q1⟩ => thn (hi.run pins s1 σ H1 _ I1 q1) fun iv s2 ⟨y, H2, I2, ry, a, b, gs, k, v, ex, ey, n, nk, l, q2⟩ => ?_)
  subst ex ey
  obtain rfl : u = Value.ref a := rx
  obtain rfl : iv = Value.ref b := ry
  exact ⟨(nd_typeIs I2 n).1, nd_getItem hu I2 n nk l fun w' s3 I3 rw' => ⟨v, H2, I3, rw', q2⟩⟩
theorem pe_nget2 (hu : X.A.units + 9 < cLine) (ho : PE X o td) (he : PE X e ty) (hf : PE X f tx) (m : M2 X o "get" apos e f cpos) : PE X (.Call (.Attribute o "get" apos) [e, f] [] cpos) (tNGet2 (X.prog, X.w) td ty tx) := by
  refine ⟨fun pins s σ H Q I h => ?_⟩
  refine wpAny_Call_method m.base m.few m.line PySem.F.plainAttrs_dict PySem.F.slot_dict_get PySem.F.type_dict_get (thn (ho.run pins s σ H _ I h) fun u s1 ⟨x, H1, I1, rx, a, ex, ⟨gs0, n0⟩, q1⟩ => ?_)
  subst ex
  obtain rfl : u = Value.ref a := rx
  obtain ⟨t1, t2⟩ := nd_typeIs I1 n0
  refine ⟨t1, t2, ?_⟩
  rw [m.trees]
  refine Calls.callWith_builtin rfl (Calls.evalArgs_plain (Calls.spliced_cons (thn (he.run pins s1 σ H1 _ I1 q1) fun iv s2 ⟨y, H2, I2, ry, q2⟩ =>
    Calls.spliced_cons (thn (hf.run pins s2 σ H2 _ I2 q2) fun fv s3 ⟨z, H3, I3, rz, b, gs, k, ey, n, nk, q3⟩ => Calls.spliced_nil ?_))))
  subst ey
  obtain rfl : iv = Value.ref b := ry
  exact nd_get2 hu I3 n nk rz fun w' s4 I4 rw' => ⟨_, H3, I4, rw', q3⟩
theorem ps_nput (hu : X.A.units + 9 < cLine) (ho : PE X o td) (hi : PE X i ty) (hv : PE X value tv) (hs : swapsWith value (some (.Subscript o i pos')) pos.line X.env = pure false) :
    PS X (.Assign [.Subscript o i pos'] value pos) (sNPut (X.prog, X.w) td ty tv) := by
  refine ⟨fun pins s σ H D I h => ?_⟩
  refine wpAny_Assign_Subscript (thn (hv.run pins s σ H _ I h) fun r s1 ⟨v, H1, I1, rv, q1⟩ => thn (ho.run pins s1 σ H1 _ I1 q1) fun u s2 ⟨x, H2, I2, rx, q2⟩ => thn (hi.run pins s2 σ H2 _ I2 q2) fun iv s3 ⟨y, H3, I3, ry, a, b, gs, k, ex, ey, n, nk, hl, q3⟩ => ?_) hs
  subst ex ey
  obtain rfl : u = Value.ref a := rx
  obtain rfl : iv = Value.ref b := ry
  exact nd_setItem hu I3 n nk hl rv fun s4 I4 => ⟨σ, _, I4, q3⟩
end
/-! ### in data -/
def vN (kvs : List (P × D)) (k : NestedKey) : Option D := (kvs.find? fun q => decide (nkP q.1 = some k)).map (·.2)
def pN (kvs : List (P × D)) (p : P) (k : NestedKey) (v : D) : List (P × D) := if (vN kvs k).isSome = true then kvs.map (fun q => if nkP q.1 = some k then (q.1, v) else q) else kvs ++ [(p, v)]
/-- a datum that may be a key -/
structure KeyN (p : P) (k : NestedKey) : Prop where
  t : ∃ xs, p = .tup xs
  e : nkP p = some k
  d : k.depth ≤ 8
section
variable {K : PySem.W.Frag} {Θ : Ctx} {env : Env'} {h : Hs} {R : D → Hs → Prop} {E : En} {x y : D} {pw : Program × World}
theorem KeyN.at_ {F : Hp} {ρ : List Addr} {H : Hp} {p : P} {k : NestedKey} {v : V} (c : KeyN p k) (s : Same F H) (q : RD K F ρ (.p p) v) : ∃ b, v = .ref b ∧ RP K F p (.ref b) ∧ NkAt H k b := by
  cases q with
  | p q =>
    obtain ⟨xs, rfl⟩ := c.t
    have z := (q.nk c.e).mono (H' := H) fun b ys e => s _ _ e
    cases q with
    | tup a r => exact ⟨_, rfl, .tup a r, z, c.d⟩
theorem KeyR.nks {F : Hp} : ∀ {ps : List P} {gs : List NG}, KeyR K F ps (gs.map (·.1)) → ∀ g ∈ gs, NkV F g.1.1 (.ref g.1.2) ∧ g.1.1.depth ≤ 8
  | _, [], _, g, hg => by cases hg
  | _, ((k, b), v) :: gs, .cons a c d r, g, hg => by
    rcases List.mem_cons.mp hg with rfl | hg
    · exact ⟨a.nk c, d⟩
    · exact KeyR.nks r g hg
theorem nd_look {F : Hp} {ρ : List Addr} {k : NestedKey} : ∀ {kvs : List (P × D)} {gs : List NG}, KeyR K F (kvs.map (·.1)) (gs.map (·.1)) → RA K F ρ (kvs.map (·.2)) (gs.map (·.2)) → (vN kvs k = none ∧ valN gs k = none) ∨ ∃ d v, vN kvs k = some d ∧ valN gs k = some v ∧ RD K F ρ d v
  | [], [], _, _ => .inl ⟨rfl, rfl⟩
  | [], _ :: _, a, _ => by cases a
  | _ :: _, [], a, _ => by cases a
  | (p, d) :: kvs, ((k', b), v) :: gs, .cons a c e r, .cons q s => by
    by_cases h1 : k' = k
    · have c' : nkP p = some k := by rw [c, h1]
      exact .inr ⟨d, v, by simp [vN, List.find?_cons, c'], by simp [valN, List.find?_cons, h1], q⟩
    · have c' : ¬ nkP p = some k := by rw [c]; exact fun z => h1 (Option.some.inj z)
      have e1 : vN ((p, d) :: kvs) k = vN kvs k := by simp [vN, List.find?_cons, c']
      have e2 : valN (((k', b), v) :: gs) k = valN gs k := by simp [valN, List.find?_cons, h1]
      rw [e1, e2]
      exact nd_look r s
theorem nd_map {F : Hp} {ρ : List Addr} {k : NestedKey} {d : D} {v : V} (q : RD K F ρ d v) : ∀ {kvs : List (P × D)} {gs : List NG}, KeyR K F (kvs.map (·.1)) (gs.map (·.1)) → RA K F ρ (kvs.map (·.2)) (gs.map (·.2)) →
    KeyR K F ((kvs.map fun q => if nkP q.1 = some k then (q.1, d) else q).map (·.1)) ((gs.map fun g => if g.1.1 = k then (g.1, v) else g).map (·.1)) ∧ RA K F ρ ((kvs.map fun q => if nkP q.1 = some k then (q.1, d) else q).map (·.2)) ((gs.map fun g => if g.1.1 = k then (g.1, v) else g).map (·.2))
  | [], [], _, _ => ⟨.nil, .nil⟩
  | [], _ :: _, a, _ => by cases a
  | _ :: _, [], a, _ => by cases a
  | (p, d0) :: kvs, ((k', b), v0) :: gs, .cons a c e r, .cons q0 s => by
    obtain ⟨h2, h3⟩ := nd_map q r s
    by_cases h1 : k' = k
    · have c' : nkP p = some k := by rw [c, h1]
      refine ⟨?_, ?_⟩
      · simp only [List.map_cons, c', h1, if_true]; exact .cons a c' (h1 ▸ e) h2
      · simp only [List.map_cons, c', h1, if_true]; exact .cons q h3
    · have c' : ¬ nkP p = some k := by rw [c]; exact fun z => h1 (Option.some.inj z)
      refine ⟨?_, ?_⟩
      · simp only [List.map_cons, if_neg c', if_neg h1]; exact .cons a c e h2
      · simp only [List.map_cons, if_neg c', if_neg h1]; exact .cons q0 h3
theorem KeyR.app {F : Hp} {p : P} {k : NestedKey} {b : Addr} (a : RP K F p (.ref b)) (c : nkP p = some k) (d : k.depth ≤ 8) : ∀ {ps : List P} {ks : List (NestedKey × Addr)}, KeyR K F ps ks → KeyR K F (ps ++ [p]) (ks ++ [(k, b)])
  | _, _, .nil => .cons a c d .nil
  | _, _, .cons a1 c1 d1 r => .cons a1 c1 d1 (KeyR.app a c d r)
theorem nd_put {F : Hp} {ρ : List Addr} {p : P} {k : NestedKey} {b : Addr} {d : D} {v : V} {kvs : List (P × D)} {gs : List NG} (hp : RP K F p (.ref b)) (c : KeyN p k) (q : RD K F ρ d v) (kr : KeyR K F (kvs.map (·.1)) (gs.map (·.1))) (ra : RA K F ρ (kvs.map (·.2)) (gs.map (·.2))) :
    KeyR K F ((pN kvs p k d).map (·.1)) ((putN gs k b v).map (·.1)) ∧ RA K F ρ ((pN kvs p k d).map (·.2)) ((putN gs k b v).map (·.2)) := by
  unfold pN putN
  rcases nd_look (k := k) kr ra with ⟨l1, l2⟩ | ⟨d', v', l1, l2, l3⟩
  · rw [l1, l2, if_neg (by simp), if_neg (by simp), List.map_append, List.map_append, List.map_append, List.map_append]
    exact ⟨kr.app hp c.e c.d, ra.append (.cons q .nil)⟩
  · rw [l1, l2, if_pos (show (some d').isSome = true from rfl), if_pos (show (some v').isSome = true from rfl)]
    exact nd_map q kr ra
theorem isDN {F : Hp} {ρ : List Addr} {H : Hp} {n : Nat} {a : Addr} {kvs : List (P × D)} (rl : Rel K Θ F ρ h H) (ha : ρ[n]? = some a) (hn : h[n]? = some (some (.dN pw kvs))) : ∃ gs, NdAt pw H a gs ∧ KeyR K F (kvs.map (·.1)) (gs.map (·.1)) ∧ RA K F ρ (kvs.map (·.2)) (gs.map (·.2)) := by
  obtain ⟨b, u, e1, e2, e3, gs, e4, e5, e6⟩ := rl.own _ _ hn
  rw [ha] at e1; cases e1
  subst e4
  exact ⟨gs, ⟨e3, fun g hg => ⟨(e5.nks g hg).1.mono fun b ys e => rl.same _ _ e, (e5.nks g hg).2⟩⟩, e5, e6⟩
theorem nd_len {F : Hp} {ρ : List Addr} {kvs : List (P × D)} {gs : List NG} (ra : RA K F ρ (kvs.map (·.2)) (gs.map (·.2))) : kvs.length = gs.length := by
  have := ra.len
  simpa using this
/-- {} whose keys will be nested tuples -/
theorem ve_nnew (q : R (.own h.length) (h ++ [some (.dN pw [])])) : VE K Θ (tNNew pw) env h R := fun F ρ σ H Q rl e k => fun p hp =>
  k (.own h.length) _ (.ref p) F (ρ ++ [p]) _ (Same.refl _) (Pre.push _ _) (rl.push (o := .dN pw []) hp ⟨[], rfl, .nil, .nil⟩) (.own (by rw [← rl.len]; simp)) q
/-- d[k] -/
theorem ve_nix {td ty : TE} (q : VE K Θ td env h fun x h1 => VE K Θ ty env h1 fun y h2 => ∃ n kvs p k d, x = .own n ∧ y = .p p ∧ KeyN p k ∧ h2[n]? = some (some (.dN pw kvs)) ∧ vN kvs k = some d ∧ R d h2) : VE K Θ (tNIx pw td ty) env h R := fun F ρ σ H Q rl e k =>
  q F ρ σ H _ rl e fun x h1 vx F1 ρ1 H1 s1 p1 r1 dx q1 => q1 F1 ρ1 σ H1 _ r1 (e.mono s1 p1) fun y h2 vy F2 ρ2 H2 s2 p2 r2 dy q2 => by
    obtain ⟨n, kvs, p, kk, d, rfl, rfl, c, hn, hd, q2⟩ := q2
    cases dx with
    | @own a _ ha =>
      obtain ⟨gs, g, kr, ra⟩ := isDN r2 (p2 _ _ ha) hn
      obtain ⟨b, rfl, _, hb⟩ := c.at_ r2.same dy
      rcases nd_look (k := kk) kr ra with ⟨l1, _⟩ | ⟨d', v, l1, l2, l3⟩
      · rw [hd] at l1; cases l1
      · rw [hd] at l1; cases l1
        exact ⟨a, b, gs, kk, v, rfl, rfl, g, hb, l2, k d h2 v F2 ρ2 H2 (s1.trans s2) (p1.trans p2) r2 l3 q2⟩
/-- d.get(k, z) -/
theorem ve_nget2 {td ty tx : TE} (q : VE K Θ td env h fun x h1 => ∃ n kv, x = .own n ∧ h1[n]? = some (some (.dN pw kv)) ∧ VE K Θ ty env h1 fun y h2 => VE K Θ tx env h2 fun z h3 => ∃ kvs p k, y = .p p ∧ KeyN p k ∧ h3[n]? = some (some (.dN pw kvs)) ∧ R ((vN kvs k).getD z) h3) :
    VE K Θ (tNGet2 pw td ty tx) env h R := fun F ρ σ H Q rl e k =>
  q F ρ σ H _ rl e fun x h1 vx F1 ρ1 H1 s1 p1 r1 dx q1 => by
    obtain ⟨n, kv, rfl, hn, q1⟩ := q1
    cases dx with
    | @own a _ ha =>
      obtain ⟨gs0, g0, _⟩ := isDN r1 ha hn
      refine ⟨a, rfl, ⟨gs0, g0⟩, ?_⟩
      refine q1 F1 ρ1 σ H1 _ r1 (e.mono s1 p1) fun y h2 vy F2 ρ2 H2 s2 p2 r2 dy q2 => ?_
      refine q2 F2 ρ2 σ H2 _ r2 (e.mono (s1.trans s2) (p1.trans p2)) fun z h3 vz F3 ρ3 H3 s3 p3 r3 dz q3 => ?_
      obtain ⟨kvs, p, kk, rfl, c, hn3, q3⟩ := q3
      obtain ⟨gs, g, kr, ra⟩ := isDN r3 (p3 _ _ (p2 _ _ ha)) hn3
      obtain ⟨b, rfl, _, hb⟩ := c.at_ r3.same (dy.mono s3 p3)
      refine ⟨b, gs, kk, rfl, g, hb, ?_⟩
      have ss := s1.trans (s2.trans s3)
      have pp := p1.trans (p2.trans p3)
      rcases nd_look (k := kk) kr ra with ⟨l1, l2⟩ | ⟨d, v, l1, l2, l3⟩
      · rw [l2]; rw [l1] at q3
        exact k z h3 vz F3 ρ3 H3 ss pp r3 dz q3
      · rw [l2]; rw [l1] at q3
        exact k d h3 v F3 ρ3 H3 ss pp r3 l3 q3
/-- d[k] = v -/
theorem vs_nput {td ty tv : TE} (q : VE K Θ tv env h fun v h1 => VE K Θ td env h1 fun x h2 => VE K Θ ty env h2 fun y h3 => ∃ n kvs p k, x = .own n ∧ y = .p p ∧ KeyN p k ∧ h3[n]? = some (some (.dN pw kvs)) ∧ kvs.length < sizeLine ∧ E.nx env (h3.set n (some (.dN pw (pN kvs p k v))))) :
    VS K Θ (sNPut pw td ty tv) E env h := fun F ρ σ H D' rl e k =>
  q F ρ σ H _ rl e fun v h1 vv F1 ρ1 H1 s1 p1 r1 dv q1 => q1 F1 ρ1 σ H1 _ r1 (e.mono s1 p1) fun x h2 vx F2 ρ2 H2 s2 p2 r2 dx q2 => q2 F2 ρ2 σ H2 _ r2 (e.mono (s1.trans s2) (p1.trans p2)) fun y h3 vy F3 ρ3 H3 s3 p3 r3 dy q3 => by
    obtain ⟨n, kvs, p, kk, rfl, rfl, c, hn, hl, q3⟩ := q3
    cases dx with
    | @own a _ ha =>
      have ha3 := p3 _ _ ha
      obtain ⟨gs, g, kr, ra⟩ := isDN r3 ha3 hn
      obtain ⟨b, rfl, hpb, hb⟩ := c.at_ r3.same dy
      have ss := s1.trans (s2.trans s3)
      have pp := p1.trans (p2.trans p3)
      obtain ⟨n1, n2⟩ := nd_put hpb c (dv.mono (s2.trans s3) (p2.trans p3)) kr ra
      exact ⟨a, b, gs, kk, rfl, rfl, g, hb, by rw [← nd_len ra]; exact hl, k.nx env _ F3 ρ3 σ _ ss pp (r3.put (o' := .dN pw (pN kvs p kk v)) hn ha3 ⟨_, rfl, n1, n2⟩) (e.mono ss pp) q3⟩
end
end Kb

/-! An own dict whose keys are nested tuples, locked while it is walked: for k in d. -/
namespace Kb
open PySem PySem.Spec PyProof.Rows L2
/-- the keys of the locked dict at d, in their order: the key's own tuple -/
def ItN (d : Addr) (o : Obj) (pw : Program × World) (gs : List NG) : It :=
  ⟨fun i H => H d = some (.frz o (.ext (NdPhi pw d gs))) ∧ i < gs.length, fun i H x H' => H' = H ∧ ∃ g : NG, gs[i]? = some g ∧ x = .ref g.1.2, fun i H => H d = some (.frz o (.ext (NdPhi pw d gs))) ∧ gs.length ≤ i⟩
theorem frzN {X : Cx} {pins : List (Addr × Obj)} {σ : L2.St} {H : Hp} {s : Shared} {d : Addr} {o : Obj} {pw : Program × World} {gs : List NG} (I : Inv X pins σ H s) (h : H d = some (.frz o (.ext (NdPhi pw d gs)))) :
    (d == sysModules) = false ∧ s.heap.get? d = some o ∧ o.ExactDict ∧ ∃ (es : Array DictEntry) (ep : Nat), o.data = .dict es ep ∧ es.size = gs.length ∧ ∀ (i : Nat) (g : NG), gs[i]? = some g → ∃ en : DictEntry, es[i]? = some en ∧ en.key = .ref g.1.2 := by
  obtain ⟨hd, ⟨z, hs, xs, pr, o', es, ep, ho, hx, hdt, he, _⟩, _, _⟩ := I.hok d _ h
  rw [hd] at ho
  cases ho
  refine ⟨hs, hd, hx, es, ep, hdt, ?_, fun i g e => ?_⟩
  · have l1 : es.size = xs.length := size_of_entries he
    have l2 : gs.length = xs.length := Paired.length pr
    omega
  · obtain ⟨b, hb, e1, e2, _⟩ := paired_get pr e
    have q := entry_at he i
    rw [hb] at q
    exact ⟨_, q, by rw [e2]; rfl⟩
section
variable {P : Program} {w : World} {K : PySem.W.Frag} {tg : Expr} {d : Addr} {o : Obj} {es : Array DictEntry} {ep : Nat} {pw : Program × World}
theorem turn_keysN {gs : List NG} (it : Addr) (hod : o.data = .dict es ep) : Turn P w K tg (ItN d o pw gs) [it] it (fun i h => h.IsKeyIter it d i gs.length ep) where
  mem := by simp
  obj := fun i h st b hb => by
    have e : b = it := by simpa using hb
    subst e
    obtain ⟨oi, e, c, dd⟩ := st
    exact ⟨oi, e, fun v z => by rw [dd] at z; cases z⟩
  keep := fun i h h' st k => st.at fun oi e => k it (by simp) oi e
  item := by
    intro X hP hw hK hc i pins s σ H E I hf st hg
    subst hP hw hK
    obtain ⟨hd, hi⟩ := hg
    obtain ⟨f0, f1, f2, f3, f4, f5⟩ := hf it (by simp)
    obtain ⟨hs, hgd, hx, es', ep', hdt, hsz, ent⟩ := frzN I hd
    obtain ⟨rfl, rfl⟩ := dict_ep hod hdt
    have hkv := List.getElem?_eq_getElem hi
    obtain ⟨en, hen, hkey⟩ := ent i _ hkv
    refine next_key_item st hgd hdt hsz hen fun h' st' sb => ?_
    have I1 : Inv X pins σ H { s with heap := h' } := I.turned (t' := s.toks) (fun b ob hb e => (sb.2 b hb).trans e) f0 f1 f3 f4 f5
    obtain ⟨oi, e, c, dd⟩ := id st'
    exact ⟨en.key, rfl, go_of (s := { s with heap := h' }) e c dd (by decide) ⟨.ref gs[i].1.2, H, I1, hkey, ⟨rfl, gs[i], hkv, rfl⟩, st', fun b hb => (hf b hb).1⟩⟩
  done := by
    intro X hP hw hK hc i pins s σ H E I hf st hg
    subst hP hw hK
    obtain ⟨hd, hi⟩ := hg
    obtain ⟨f0, f1, f2, f3, f4, f5⟩ := hf it (by simp)
    obtain ⟨hs, hgd, hx, es', ep', hdt, hsz, ent⟩ := frzN I hd
    obtain ⟨rfl, rfl⟩ := dict_ep hod hdt
    exact next_key_end (I.ok.hd hc) st hgd hdt hsz hi fun h' eb => ⟨rfl, I.turned (t' := s.toks) (fun b ob hb e => eb b ob hb e) f0 f1 f3 f4 f5⟩
  self := fun A i s Q E st h => by
    refine wpAny_pyIter_slot st.typeIs PySem.F.slot_dict_keyiterator_iter (wpAny_call_entry PySem.F.slot_dict_keyiterator_iter st.typeIs PySem.F.entry_dict_keyiterator_iter ?_ (PySem.F.args_dict_keyiterator_iter_1 _))
    show wpAny _ _ (ret (.ref it)) _ _ s
    exact wpAny_pure ⟨_, rfl, "dict_keyiterator", _, st.typeIs, PySem.F.slot_dict_keyiterator_next.lookup, h⟩
end
def iKeysN (pw : Program × World) (td : TE) : TI := fun σ H R => td σ H fun x H1 => ∃ d o gs, x = .ref d ∧ H1 d = some (.frz o (.ext (NdPhi pw d gs))) ∧ R (ItN d o pw gs) H1
theorem pi_keysN {X : Cx} {tg e : Expr} {td : TE} {pw : Program × World} (he : PE X e td) : PI X tg e (iKeysN pw td) := by
  refine ⟨fun pins s σ H R I h => ?_⟩
  refine thn (he.run pins s σ H _ I h) fun u s1 ⟨x, H1, I1, rx, d, o, gs, ex, hd, q⟩ => ?_
  subst ex
  obtain rfl : u = Value.ref d := rx
  obtain ⟨hs, hgd, hx, es, ep, hdt, hsz, ent⟩ := frzN I1 hd
  refine iter_keys hs hgd hx hdt (pi_one (tk := s1.toks) I1 _ (turn_keysN _ hdt) ⟨_, Heap.get?_push_size _ rfl, rfl, ?_⟩ q)
  rw [hsz] <;> rfl
/-! ### in data -/
section
variable {K : PySem.W.Frag} {Θ : Ctx} {env : Env'} {h : Hs} {R : D → Hs → Prop} {E : En} {pw : Program × World}
theorem isDL {F : Hp} {ρ : List Addr} {H : Hp} {n : Nat} {a : Addr} {od : Obj} {gs : List NG} {kvs : List (P × D)} (rl : Rel K Θ F ρ h H) (ha : ρ[n]? = some a) (hn : h[n]? = some (some (.dL pw od gs kvs))) : H a = some (.frz od (.ext (NdPhi pw a gs))) ∧ KeyR K F (kvs.map (·.1)) (gs.map (·.1)) ∧ RA K F ρ (kvs.map (·.2)) (gs.map (·.2)) := by
  obtain ⟨b, u, e1, e2, e3, e4, e5, e6⟩ := rl.own _ _ hn
  rw [ha] at e1; cases e1
  subst e4
  exact ⟨e3, e5, e6⟩
/-- what holds while the dict is locked, for what is to hold behind -/
def unl (pw : Program × World) (n : Nat) (od : Obj) (gs : List NG) (kvs : List (P × D)) (Z : Hs → Prop) (h' : Hs) : Prop := h'[n]? = some (some (.dL pw od gs kvs)) ∧ Z (h'.set n (some (.dN pw kvs)))
theorem unlock {F : Hp} {ρ : List Addr} {H : Hp} {n : Nat} {a : Addr} {od : Obj} {gs : List NG} {kvs : List (P × D)} {Z : Hs → Prop} (rl : Rel K Θ F ρ h H) (ha : ρ[n]? = some a) (u : unl pw n od gs kvs Z h) :
    H a = some (.frz od (.ext (NdPhi pw a gs))) ∧ Rel K Θ F ρ (h.set n (some (.dN pw kvs))) (upd H a (.ext (NdPhi pw a gs))) ∧ Z (h.set n (some (.dN pw kvs))) := by
  obtain ⟨hn, z⟩ := u
  obtain ⟨e1, e2, e3⟩ := isDL rl ha hn
  exact ⟨e1, rl.put (o' := .dN pw kvs) hn ha ⟨gs, rfl, e2, e3⟩, z⟩
/-- a statement that runs while the dict is locked -/
theorem vs_lockN {t : TS} {n : Nat} {kvs : List (P × D)} (hn : h[n]? = some (some (.dN pw kvs))) (q : ∀ od gs, VS K Θ t ⟨fun env' => unl pw n od gs kvs (E.nx env'), fun d => unl pw n od gs kvs (E.rt d), fun env' => unl pw n od gs kvs (E.bk env'), fun env' => unl pw n od gs kvs (E.ct env')⟩ env (h.set n (some (.dL pw od gs kvs)))) :
    VS K Θ (tLock t) E env h := fun F ρ σ H D' rl e k => by
  obtain ⟨a, u, h1, h2, h3, gs, h4, kr, ra⟩ := rl.own _ _ hn
  subst h4
  refine ⟨a, _, h3, True.intro, fun od => ?_⟩
  refine q od gs F ρ σ _ _ (rl.put (o' := .dL pw od gs kvs) hn h1 ⟨rfl, kr, ra⟩) e ⟨fun env' h' F' ρ' σ' H' s p r e' z => ?_, fun d h' v F' ρ' H' s p r dv z => ?_, fun env' h' F' ρ' σ' H' s p r e' z => ?_, fun env' h' F' ρ' σ' H' s p r e' z => ?_⟩
  · obtain ⟨z1, z2, z3⟩ := unlock r (p _ _ h1) z
    exact ⟨z1, k.nx env' _ F' ρ' σ' _ s p z2 e' z3⟩
  · obtain ⟨z1, z2, z3⟩ := unlock r (p _ _ h1) z
    exact ⟨z1, k.rt d _ v F' ρ' _ s p z2 dv z3⟩
  · obtain ⟨z1, z2, z3⟩ := unlock r (p _ _ h1) z
    exact ⟨z1, k.bk env' _ F' ρ' σ' _ s p z2 e' z3⟩
  · obtain ⟨z1, z2, z3⟩ := unlock r (p _ _ h1) z
    exact ⟨z1, k.ct env' _ F' ρ' σ' _ s p z2 e' z3⟩
/-- an expression -/
theorem ve_lockN {t : TE} {n : Nat} {kvs : List (P × D)} (hn : h[n]? = some (some (.dN pw kvs))) (q : ∀ od gs, VE K Θ t env (h.set n (some (.dL pw od gs kvs))) fun d => unl pw n od gs kvs (R d)) : VE K Θ (tLockE t) env h R := fun F ρ σ H Q rl e k => by
  obtain ⟨a, u, h1, h2, h3, gs, h4, kr, ra⟩ := rl.own _ _ hn
  subst h4
  refine ⟨a, _, h3, True.intro, fun od => ?_⟩
  refine q od gs F ρ σ _ _ (rl.put (o' := .dL pw od gs kvs) hn h1 ⟨rfl, kr, ra⟩) e fun d h' v F' ρ' H' s p r dv z => ?_
  obtain ⟨z1, z2, z3⟩ := unlock r (p _ _ h1) z
  exact ⟨z1, k d _ v F' ρ' _ s p z2 dv z3⟩
theorem KeyR.get {F : Hp} {i : Nat} {p : P} : ∀ {ps : List P} {gs : List NG}, KeyR K F ps (gs.map (·.1)) → ps[i]? = some p → ∃ g : NG, gs[i]? = some g ∧ RP K F p (.ref g.1.2)
  | [], _, _, h => by simp at h
  | _ :: _, [], a, _ => by cases a
  | _ :: _, ((k, b), v) :: gs, .cons a c d r, h => by
    cases i with
    | zero => cases h; exact ⟨_, rfl, a⟩
    | succ i =>
      obtain ⟨g, h1, h2⟩ := KeyR.get (i := i) r (by simpa using h)
      exact ⟨g, by simpa using h1, h2⟩
/-- for k in d, d locked -/
theorem vi_keysN {td : TE} {R : List D → (Hs → Prop) → Hs → Prop} (q : VE K Θ td env h fun x h1 => ∃ n od gs kvs, x = .own n ∧ h1[n]? = some (some (.dL pw od gs kvs)) ∧ R (kvs.map fun z => .p z.1) (fun h2 => h2[n]? = some (some (.dL pw od gs kvs))) h1) : VI K Θ (iKeysN pw td) env h R := fun F ρ σ H Q rl e k =>
  q F ρ σ H _ rl e fun x h1 vx F1 ρ1 H1 s1 p1 r1 dx q1 => by
    obtain ⟨n, od, gs, kvs, rfl, hn, q1⟩ := q1
    cases dx with
    | @own a _ ha =>
      obtain ⟨g1, kr, ra⟩ := isDL r1 ha hn
      have hl : kvs.length = gs.length := nd_len ra
      refine ⟨a, od, gs, rfl, g1, k _ _ h1 _ F1 ρ1 H1 s1 p1 r1 ⟨fun F' ρ' h' H' s p r c => ?_, fun i F' ρ' h' H' s p r c hi => ?_, fun i d F' ρ' h' H' x H2 s p r c hd hy => ?_⟩ q1⟩
      · exact ⟨(isDL r (p _ _ ha) c).1, by rw [List.length_map, hl]; exact Nat.le_refl _⟩
      · rw [List.length_map, hl] at hi
        exact ⟨(isDL r (p _ _ ha) c).1, hi⟩
      · obtain ⟨e1, g, e2, e3⟩ := hy
        subst e1 e3
        obtain ⟨_, kr', _⟩ := isDL r (p _ _ ha) c
        rw [List.getElem?_map] at hd
        cases hk : kvs[i]? with
        | none => rw [hk] at hd; cases hd
        | some z =>
          rw [hk] at hd
          cases hd
          obtain ⟨g', e4, e5⟩ := kr'.get (i := i) (p := z.1) (by rw [List.getElem?_map, hk]; rfl)
          rw [e2] at e4; cases e4
          exact ⟨F', Same.refl _, r, .p e5⟩
end
end Kb

/-! A dict made by a comprehension, its keys nested tuples. -/
namespace Kb
open PySem PySem.Spec PyProof.Rows L2
/-- the dict at D takes z at the key y, then N -/
def PutN (pw : Program × World) (D : Addr) (y z : V) (N : Hp → Prop) (H : Hp) : Prop := ∃ (b : Addr) (gs : List NG) (k : NestedKey), y = .ref b ∧ NdAt pw H D gs ∧ NkAt H k b ∧ gs.length < sizeLine ∧ N (upd H D (.ext (NdPhi pw D (putN gs k b z))))
theorem nd_dictSet {X : Cx} {pins : List (Addr × Obj)} {σ : L2.St} {H : Hp} {s : Shared} {E : Value → Shared → Prop} {a b : Addr} {gs : List NG} {k : NestedKey} {r : Value} {v : V} {Q : Unit → Shared → Prop} (hu : X.A.units + 9 < cLine) (I : Inv X pins σ H s) (n : NdAt (X.prog, X.w) H a gs) (q : NkAt H k b) (hl : gs.length < sizeLine) (rv : RelV v r)
    (h : ∀ s', Inv X pins σ (upd H a (.ext (NdPhi (X.prog, X.w) a (putN gs k b v)))) s' → Q () s') : wpAny (model X.prog X.w) X.A (dictSet a (.ref b) r) Q E s := by
  obtain ⟨z, hd, xs, rel, dd⟩ := n.dict I.hok
  have hz : xs.length ≤ sizeLine := by rw [← Paired.length rel]; exact z
  have hl2 : (putN gs k b v).length ≤ sizeLine := by have := length_putN gs k b v; omega
  refine wpAny_dictSet_heap (knd := nestedKind X.prog X.w) (hsz := hz) (by show X.A.units + 8 < cLine; omega) (nk_is I q) dd fun h' dd' hs => h _ ?_
  obtain ⟨o, _, _, ho, _⟩ := id dd'
  exact d_write I (by rw [n.at_]; exact True.intro) hs ⟨o, ho⟩ (ndPhi_obj hl2 hd (rel.put k rv) dd')
theorem putN_run {X : Cx} {pins : List (Addr × Obj)} {σ : L2.St} {H : Hp} {s : Shared} {E : Value → Shared → Prop} {D : Addr} {y z : V} {u r : Value} {N : Hp → Prop} {Q : Unit → Shared → Prop} (hu : X.A.units + 9 < cLine) (I : Inv X pins σ H s) (ry : RelV y u) (rv : RelV z r)
    (p : PutN (X.prog, X.w) D y z N H) (done : ∀ s' H', Inv X pins σ H' s' → N H' → Q () s') : wpAny (model X.prog X.w) X.A (dictSet D u r) Q E s := by
  obtain ⟨b, gs, k, rfl, n, nk, room, nx⟩ := p
  cases (show u = Value.ref b from ry)
  exact nd_dictSet hu I n nk room rv fun s' I' => done s' _ I' nx
/-- one item more -/
def DcTurnN (pw : Program × World) (D : Addr) (g : TG) (tt : TT) (tk tv : TE) (vs : List Nat) (σ : L2.St) (N : Hp → Prop) (x : V) (H : Hp) : Prop :=
  g x (wipe σ vs) H fun σ' H' => wipe σ' vs = wipe σ vs ∧ tt σ' H' fun b Hb => if b = true then tk σ' Hb fun y Hk => tv σ' Hk fun z Hv => PutN pw D y z N Hv else N Hb
def tDcN (pw : Program × World) (wi : TI) (g : TG) (tt : TT) (tk tv : TE) (vs : List Nat) : TE := fun σ H Q => wi σ H fun J H1 => ∀ D, H1 D = none → ∃ W : Nat → Nat → Hp → Prop, (∃ m, W 0 m (upd H1 D (.ext (NdPhi pw D [])))) ∧
  ∀ i m H2, W i m H2 → (J.stop i H2 ∧ Q (.ref D) H2) ∨ (J.go i H2 ∧ ∃ N : Hp → Prop, (∀ H', N H' → ∃ m', m' < m ∧ W (i + 1) m' H') ∧ ∀ x H', J.yld i H2 x H' → DcTurnN pw D g tt tk tv vs σ N x H')
section
variable {X : Cx} {tg iter kx vx : Expr} {ifs : List Expr} {scope : Scope} {own : List (Str × Nat)} {pos : Pos} {wi : TI} {g : TG} {tt : TT} {tk tv : TE}
theorem dcN_run {pins : List (Addr × Obj)} {s : Shared} {σ : L2.St} {H : Hp} {Q : VK} {pos' : Pos} {use : Option (Value → Sem Unit)} {Qf : Value → Shared → Prop} (hu : X.A.units + 9 < cLine) (hc : X.calm = true) (hN : X.N.Nodup) (src : PI X tg iter wi) (ok : BlkOk X.N X.env.scope scope own)
    (pg : ∀ (s : Shared) (H : Hp) (C : Addr) (cl : List (Str × Addr)) (fp : List Addr), PG (blkAt X scope s H C cl fp) tg g)
    (pt : ∀ (s : Shared) (H : Hp) (C : Addr) (cl : List (Str × Addr)) (fp : List Addr), PTs (blkAt X scope s H C cl fp) ifs tt)
    (pk : ∀ (s : Shared) (H : Hp) (C : Addr) (cl : List (Str × Addr)) (fp : List Addr), PE (blkAt X scope s H C cl fp) kx tk)
    (pv : ∀ (s : Shared) (H : Hp) (C : Addr) (cl : List (Str × Addr)) (fp : List Addr), PE (blkAt X scope s H C cl fp) vx tv) (nofold : ∀ x, foldedSetIterable iter X.env x = pure x)
    (I : Inv X pins σ H s) (h : tDcN (X.prog, X.w) wi g tt tk tv (own.map (·.2)) σ H Q)
    (ends : ∀ D C s' m H', Inv X pins σ H' s' → Q (.ref D) H' → s'.heap.Ns C m → FpOk X pins H' C → compPost (model X.prog X.w) X.A X.xe use Qf (.ref D) C (.ok .next) s') :
    wpAny (model X.prog X.w) X.A (comprehension (.DictComp kx vx [⟨tg, iter, ifs, 0⟩] scope pos) scope X.env pos' newDict false (eval iter X.env) use) Qf X.xe s := by
  have cells : ∀ y ∈ scope.names, y.2 = .free → ∃ c, X.env.cells.lookup y.1 = some c := by
    intro y hy e
    exact (ok.free y hy e).elim (fun k => I.ok.has _ (.inl k)) fun k => I.ok.has _ (.inr k)
  refine wpAny_comprehension_free (use := use) rfl nofold (closure_ok cells) ok.kind (fun y hy e => by rw [ok.uniq y hy, e]) (thn (src.run pins s σ H _ I h) fun _ sa begun => thn begun fun _ sb drawn => ?_)
  obtain ⟨it, fp, Tn, J, Hb, rfl, Ib, T, before, free, turns⟩ := drawn
  refine wpAny_newObj_type (newEnv_comp ?_)
  generalize eD : sb.heap.objs.size = D
  have newD : Hb D = none := Ib.hok.fresh (Nat.le_of_eq eD)
  obtain ⟨W, ⟨m0, w0⟩, turn⟩ := turns D newD
  -- the empty dict, then the block's own frame
  have Id : Inv X pins σ (upd Hb D (.ext (NdPhi (X.prog, X.w) D []))) { sb with heap := sb.heap.push { cls := .type "dict", data := .dict #[] } } := by
    have z := Ib.laid (a := sb.heap.objs.size) (o := .ext (NdPhi (X.prog, X.w) sb.heap.objs.size [])) (t' := sb.toks) (fun _ _ q => Heap.get?_push_of_some _ q) (Nat.le_refl _)
      (ndPhi_obj (xs := []) (Nat.zero_le _) (beq_eq_false_iff_ne.mpr (Ne.symm (Nat.ne_of_lt Ib.big))) .nil (Heap.DictOfH.new sb.heap))
    rw [eD] at z
    exact z
  have under : ∀ b ∈ fp, b < sb.heap.objs.size := fun b hb => let ⟨_, e, _⟩ := T.obj _ _ before b hb; Heap.lt_size e
  have ready : Tn 0 (sb.heap.push { cls := .type "dict", data := .dict #[] }) := T.keep _ _ _ before fun _ _ _ e => Heap.get?_push_of_some _ e
  have freeD : ∀ b ∈ fp, FpOk X pins (upd Hb D (.ext (NdPhi (X.prog, X.w) D []))) b ∧ b < (sb.heap.push { cls := .type "dict", data := .dict #[] }).objs.size := fun b hb => by
    have lt := under b hb
    refine ⟨⟨?_, (free b hb).2⟩, by rw [Heap.size_push]; exact Nat.lt_succ_of_lt lt⟩
    rw [upd_ne (by rw [← eD]; exact Nat.ne_of_lt lt)]
    exact (free b hb).1
  generalize eHd : upd Hb D (.ext (NdPhi (X.prog, X.w) D [])) = Hd at Id freeD w0
  generalize esd : ({ sb with heap := sb.heap.push { cls := .type "dict", data := .dict #[] } } : Shared) = sd at Id
  have ehd : sb.heap.push { cls := .type "dict", data := .dict #[] } = sd.heap := by rw [← esd]
  rw [ehd] at ready freeD
  have Iblk := block_start Id ok hN freeD
  generalize ecl : cellsFrom (sd.heap.objs.size + 1) scope.names (cloFrom X.env.cells scope.names []) = cl at Iblk
  have hg := pg sd Hd sd.heap.objs.size cl fp
  have ht := pt sd Hd sd.heap.objs.size cl fp
  have hk := pk sd Hd sd.heap.objs.size cl fp
  have hv := pv sd Hd sd.heap.objs.size cl fp
  have nofp : ∀ b ∈ fp, Hd b = none := fun b hb => (freeD b hb).1.1
  have still : ∀ {σ' : L2.St} {H' : Hp} {s' : Shared}, Inv (blkAt X scope sd Hd sd.heap.objs.size cl fp) [] σ' H' s' → (∀ b ∈ fp, H' b = none) → ∀ b ∈ fp, FpOk (blkAt X scope sd Hd sd.heap.objs.size cl fp) [] H' b := by
    intro σ' H' s' I' no b hb
    have ex := I'.ok.exf b hb
    exact ⟨no b hb, ex.1, I'.ok.exfs b hb, .inl hb, fun x c e => ex.2 x c e, fun p hp => by have : p ∈ ([] : List (Addr × Obj)) ++ [] := hp; simp at this⟩
  let St : Nat → Shared → Prop := fun m s' => ∃ i H', Inv (blkAt X scope sd Hd sd.heap.objs.size cl fp) [] (wipe σ (own.map (·.2))) H' s' ∧ Tn i s'.heap ∧ (∀ b ∈ fp, H' b = none) ∧ W i m H'
  have loop : ∀ se, se.heap = pushCells (sd.heap.push { cls := .type "dict", data := .dict #[] }) scope.names → St m0 se →
      codeAny (model X.prog X.w) X.A (.compLoop (.DictComp kx vx [⟨tg, iter, ifs, 0⟩] scope pos) 0 (.ref it) (.ref D) (compEnvC scope cl sd.heap.objs.size X.env)) (compPost (model X.prog X.w) X.A X.xe use Qf (.ref D) sd.heap.objs.size) se := by
    intro se _ here
    refine compLoop_anyD St ?_ m0 here
    rintro m s5 ⟨i, H5, I5, at5, no5, w5⟩
    rcases turn i m H5 w5 with ⟨stop, got⟩ | ⟨go, N, less, step⟩
    · refine thnF (T.done (blkAt X scope sd Hd sd.heap.objs.size cl fp) rfl rfl rfl hc i [] s5 _ H5 (fun _ _ => False) I5 (still I5 no5) at5 stop) fun _ s6 z => ?_
      obtain ⟨rfl, I6⟩ := z
      have back : Inv X pins σ H5 s6 := Id.call' (ch := fp) I6.os I6.base I6.hok I6.bare fun b hb => let f := (freeD b hb).1.2; ⟨f.2.2.1, f.1, f.2.2.2.1, f.2.2.2.2⟩
      have noC : H5 sd.heap.objs.size = none := I6.free
      obtain ⟨mm, ns, _⟩ := I6.loc
      exact ends D sd.heap.objs.size s6 mm H5 back got ns (Id.fpOk (Nat.le_refl _) noC)
    · refine thnF (T.item (blkAt X scope sd Hd sd.heap.objs.size cl fp) rfl rfl rfl hc i [] s5 _ H5 (fun _ _ => False) I5 (still I5 no5) at5 go) fun _ s6 z => ?_
      obtain ⟨u, rfl, after⟩ := z
      refine thnF after fun _ s7 z => ?_
      obtain ⟨x, H7, I7, rx, yld, at7, no7⟩ := z
      have cellsStand := T.obj _ _ at7
      refine thnF (hg.run _ s7 _ H7 x u _ (I7.pinned (still I7 no7) cellsStand) rx (step x H7 yld)) fun _ s8 z => ?_
      obtain ⟨σ8, H8, I8, same8, z⟩ := z
      refine thnF (ht.run _ s8 σ8 H8 _ I8 z) fun b s9 z => ?_
      obtain ⟨H9, I9, z⟩ := z
      have next : ∀ {s' : Shared} {H' : Hp}, Inv (blkAt X scope sd Hd sd.heap.objs.size cl fp) ([] ++ pinsAt fp s7.heap) σ8 H' s' → N H' → ∃ m', m' < m ∧ St m' s' := by
        intro s' H' I' nx
        obtain ⟨m', lt, w'⟩ := less H' nx
        have held : ∀ b ∈ fp, ∀ o, s7.heap.get? b = some o → s'.heap.get? b = some o ∧ H' b = none := by
          intro b hb o e
          have z := I'.pin (b, o) (List.mem_append_right _ (List.mem_append_right _ (mem_pinsAt hb e)))
          exact ⟨z.1, z.2.1⟩
        refine ⟨m', lt, i + 1, H', (I'.unpinned (pins := [])).weak (by have z := congrArg List.length same8; rw [wipe_length, wipe_length] at z; rw [wipe_length]; exact z.symm) (fun j v e => ?_), T.keep _ _ _ at7 fun b hb o e => (held b hb o e).1, fun b hb => ?_, w'⟩
        · rw [← same8] at e
          exact (wipe_some e).1
        · obtain ⟨o, e, _⟩ := cellsStand b hb
          exact (held b hb o e).2
      by_cases yes : b = true
      · subst yes
        rw [if_pos rfl] at z ⊢
        refine thnF (hk.run _ s9 σ8 H9 _ I9 z) fun _ s10 z => ?_
        obtain ⟨y, H10, I10, ry, z⟩ := z
        refine thnF (hv.run _ s10 σ8 H10 _ I10 z) fun _ s11 z => ?_
        obtain ⟨zv, H11, I11, rz, z⟩ := z
        exact putN_run (X := blkAt X scope sd Hd sd.heap.objs.size cl fp) hu I11 ry rz z fun s12 H12 I12 nx => next I12 nx
      · rw [if_neg yes] at z ⊢
        exact next I9 z
  have blkHeap : Tn 0 (pushCells (sd.heap.push { cls := .type "dict", data := .dict #[] }) scope.names) := T.keep _ _ _ ready fun b _ o e => pushCells_keeps _ _ _ _ (Heap.get?_push_of_some _ e)
  subst ecl
  refine codeAny_compStart_dict (loop _ rfl ⟨0, Hd, Iblk, blkHeap, nofp, w0⟩) (T.self X.A 0 _ _ _ blkHeap (loop _ rfl ⟨0, Hd, Iblk, blkHeap, nofp, w0⟩))
theorem pe_dcN (hu : X.A.units + 9 < cLine) (hc : X.calm = true) (hN : X.N.Nodup) (src : PI X tg iter wi) (ok : BlkOk X.N X.env.scope scope own)
    (pg : ∀ (s : Shared) (H : Hp) (C : Addr) (cl : List (Str × Addr)) (fp : List Addr), PG (blkAt X scope s H C cl fp) tg g)
    (pt : ∀ (s : Shared) (H : Hp) (C : Addr) (cl : List (Str × Addr)) (fp : List Addr), PTs (blkAt X scope s H C cl fp) ifs tt)
    (pk : ∀ (s : Shared) (H : Hp) (C : Addr) (cl : List (Str × Addr)) (fp : List Addr), PE (blkAt X scope s H C cl fp) kx tk)
    (pv : ∀ (s : Shared) (H : Hp) (C : Addr) (cl : List (Str × Addr)) (fp : List Addr), PE (blkAt X scope s H C cl fp) vx tv) (nofold : ∀ x, foldedSetIterable iter X.env x = pure x := by intro _; rfl) :
    PE X (.DictComp kx vx [⟨tg, iter, ifs, 0⟩] scope pos) (tDcN (X.prog, X.w) wi g tt tk tv (own.map (·.2))) := by
  constructor
  intro pins s σ H Q I h
  rw [arm_eval_DictComp]
  refine dcN_run hu hc hN src ok pg pt pk pv nofold I h fun D C s' m H' back got ns fr => ⟨m, ns, fun _ sb' => ?_⟩
  obtain ⟨f0, f1, f2, f3, f4, f5⟩ := fr
  exact ⟨.ref D, H', back.turned (t' := s'.toks) (fun b o hb e => (sb'.2 b hb).trans e) f0 f1 f3 f4 f5, rfl, got⟩
end
section
variable {K : PySem.W.Frag} {Θ : Ctx} {env : Env'} {h : Hs} {R : D → Hs → Prop}
theorem ve_dcN {pw : Program × World} {wi : TI} {g : TG} {tt : TT} {tk tv : TE} {vs : List Nat} (tg : TgOk g vs)
    (q : VI K Θ wi env h fun ds C h1 => ∃ Inv : Nat → List (P × D) → Hs → Prop, ds.length < sizeLine ∧ Inv 0 [] (h1 ++ [some (.dN pw [])]) ∧ (∀ i kvs h', Inv i kvs h' → h'[h1.length]? = some (some (.dN pw kvs)) ∧ C h' ∧ kvs.length ≤ i) ∧
      (∀ i d kvs h', ds[i]? = some d → Inv i kvs h' → VG K Θ g d (wipeD env vs) h' fun env' h2 => VT K Θ tt env' h2 fun b h3 => if b = true then VE K Θ tk env' h3 (fun y h4 => VE K Θ tv env' h4 fun z h5 => ∃ p kk, y = .p p ∧ KeyN p kk ∧ h5[h1.length]? = some (some (.dN pw kvs)) ∧ Inv (i + 1) (pN kvs p kk z) (h5.set h1.length (some (.dN pw (pN kvs p kk z))))) else Inv (i + 1) kvs h3) ∧
      (∀ kvs h', Inv ds.length kvs h' → R (.own h1.length) h')) : VE K Θ (tDcN pw wi g tt tk tv vs) env h R := fun F ρ σ H Q rl e k =>
  q F ρ σ H _ rl e fun ds C h1 J F1 ρ1 H1 s1 p1 r1 it q1 => by
    obtain ⟨Inv, hl, i0, hI, turn, fin⟩ := q1
    have e1 := e.mono s1 p1
    intro p hp
    refine ⟨fun i m H => m = ds.length - i ∧ i ≤ ds.length ∧ ∃ F' ρ' kvs h', Same F1 F' ∧ Pre (ρ1 ++ [p]) ρ' ∧ Inv i kvs h' ∧ Rel K Θ F' ρ' h' H, ⟨ds.length, by simp, Nat.zero_le _, F1, ρ1 ++ [p], [], _, Same.refl _, Pre.refl _, i0, r1.push (o := .dN pw []) hp ⟨[], rfl, .nil, .nil⟩⟩, ?_⟩
    rintro i m H ⟨rfl, hi, F', ρ', kvs, h', s, pp, iv, r⟩
    obtain ⟨hat, hC, hle⟩ := hI i kvs h' iv
    have hpl : ∀ {ρ'' : List Addr}, Pre (ρ1 ++ [p]) ρ'' → ρ''[h1.length]? = some p := fun pr => pr _ _ (by rw [← r1.len]; simp)
    by_cases hlt : i < ds.length
    · refine .inr ⟨it.go i F' ρ' _ H s ((Pre.push _ _).trans pp) r hC hlt, fun H' => ∃ F2 ρ2 kvs2 h2, Same F1 F2 ∧ Pre (ρ1 ++ [p]) ρ2 ∧ Inv (i + 1) kvs2 h2 ∧ Rel K Θ F2 ρ2 h2 H', fun H' ⟨F2, ρ2, kvs2, h2, s2, pp2, iv2, r2⟩ => ⟨ds.length - (i + 1), by omega, rfl, hlt, F2, ρ2, kvs2, h2, s2, pp2, iv2, r2⟩, fun x H' hy => ?_⟩
      have hd : ds[i]? = some ds[i] := List.getElem?_eq_getElem hlt
      obtain ⟨F2, s2, r2, dx⟩ := it.yld i _ F' ρ' _ H x H' s ((Pre.push _ _).trans pp) r hC hd hy
      refine tg x σ H' _ ?_
      refine turn i _ kvs h' hd iv F2 ρ' (wipe σ vs) H' x _ r2 ((e1.mono (s.trans s2) ((Pre.push _ _).trans pp)).wipes vs) dx fun env3 h3 F3 ρ3 σ3 H3 s3 p3 r3 e3 q3 => ?_
      refine q3 F3 _ σ3 H3 _ r3 e3 fun b h4 F4 ρ4 H4 s4 p4 r4 q4 => ?_
      have ss : Same F1 F4 := s.trans (s2.trans (s3.trans s4))
      cases b with
      | true =>
        rw [if_pos rfl] at q4 ⊢
        refine q4 F4 _ σ3 H4 _ r4 (e3.mono s4 p4) fun y h5 v F5 ρ5 H5 s5 p5 r5 dv q5 => ?_
        refine q5 F5 _ σ3 H5 _ r5 (e3.mono (s4.trans s5) (p4.trans p5)) fun z h6 u F6 ρ6 H6 s6 p6 r6 du q6 => ?_
        obtain ⟨pp0, kk, rfl, c, at6, iv7⟩ := q6
        have pr6 : Pre (ρ1 ++ [p]) ρ6 := pp.trans (p3.trans (p4.trans (p5.trans p6)))
        obtain ⟨gs, g1, kr, ra⟩ := isDN r6 (hpl pr6) at6
        obtain ⟨b, rfl, hpb, hb⟩ := c.at_ r6.same (dv.mono s6 p6)
        obtain ⟨n1, n2⟩ := nd_put hpb c du kr ra
        refine ⟨b, gs, kk, rfl, g1, hb, by rw [← nd_len ra]; omega, F6, ρ6, pN kvs pp0 kk z, _, ss.trans (s5.trans s6), pr6, iv7, ?_⟩
        exact r6.put (i := h1.length) (o' := .dN pw (pN kvs pp0 kk z)) at6 (hpl pr6) ⟨_, rfl, n1, n2⟩
      | false =>
        rw [if_neg Bool.false_ne_true] at q4 ⊢
        exact ⟨F4, ρ4, kvs, _, ss, pp.trans (p3.trans p4), q4, r4⟩
    · have ei : i = ds.length := by omega
      subst ei
      refine .inl ⟨it.stop F' ρ' _ H s ((Pre.push _ _).trans pp) r hC, ?_⟩
      exact k _ h' (.ref p) F' ρ' H (s1.trans s) (p1.trans ((Pre.push _ _).trans pp)) r (.own (hpl pp)) (fin kvs h' iv)
end
end Kb

/-! An own dict whose keys are nested tuples: d.items(), len(d), isinstance(d, dict). -/
namespace Kb
open PySem PySem.Spec PyProof.Rows L2
/-- the pairs of the locked dict at d, each a new tuple -/
def ItiN (d : Addr) (o : Obj) (pw : Program × World) (gs : List NG) : It :=
  ⟨fun i H => H d = some (.frz o (.ext (NdPhi pw d gs))) ∧ i < gs.length, fun i H x H' => ∃ (T : Addr) (g : NG), gs[i]? = some g ∧ x = .ref T ∧ H T = none ∧ H' = upd H T (.tup [.ref g.1.2, g.2]), fun i H => H d = some (.frz o (.ext (NdPhi pw d gs))) ∧ gs.length ≤ i⟩
theorem frzNv {X : Cx} {pins : List (Addr × Obj)} {σ : L2.St} {H : Hp} {s : Shared} {d : Addr} {o : Obj} {pw : Program × World} {gs : List NG} (I : Inv X pins σ H s) (h : H d = some (.frz o (.ext (NdPhi pw d gs)))) :
    (d == sysModules) = false ∧ s.heap.get? d = some o ∧ o.ExactDict ∧ ∃ (es : Array DictEntry) (ep : Nat), o.data = .dict es ep ∧ es.size = gs.length ∧ ∀ (i : Nat) (g : NG), gs[i]? = some g → ∃ en : DictEntry, es[i]? = some en ∧ en.key = .ref g.1.2 ∧ RelV g.2 en.val := by
  obtain ⟨hd, ⟨z, hs, xs, pr, o', es, ep, ho, hx, hdt, he, _⟩, _, _⟩ := I.hok d _ h
  rw [hd] at ho
  cases ho
  refine ⟨hs, hd, hx, es, ep, hdt, ?_, fun i g e => ?_⟩
  · have l1 : es.size = xs.length := size_of_entries he
    have l2 : gs.length = xs.length := Paired.length pr
    omega
  · obtain ⟨b, hb, e1, e2, e3⟩ := paired_get pr e
    have q := entry_at he i
    rw [hb] at q
    exact ⟨_, q, by rw [e2]; rfl, e3⟩
section
variable {P : Program} {w : World} {K : PySem.W.Frag} {tg : Expr} {d : Addr} {o : Obj} {es : Array DictEntry} {ep : Nat} {pw : Program × World}
theorem turn_itemsN {gs : List NG} {elts : List Expr} {kk : Nat} {tpos : Pos} (it : Addr) (hod : o.data = .dict es ep) :
    Turn P w K (.Tuple elts kk tpos) (ItiN d o pw gs) [it] it (fun i h => ∃ ok ov, IsItemIter h it d i gs.length ep ok ov) where
  mem := by simp
  obj := fun i h st b hb => by
    have e : b = it := by simpa using hb
    subst e
    obtain ⟨ok, ov, e⟩ := st
    exact ⟨_, e, fun v z => nomatch z⟩
  keep := fun i h h' st k => let ⟨ok, ov, e⟩ := st; ⟨ok, ov, k it (by simp) _ e⟩
  item := by
    intro X hP hw hK hc i pins s σ H E I hf st hg
    subst hP hw hK
    obtain ⟨hd, hi⟩ := hg
    obtain ⟨hs, hgd, hx, es', ep', hdt, hsz, ent⟩ := frzNv I hd
    obtain ⟨rfl, rfl⟩ := dict_ep hod hdt
    have hkv := List.getElem?_eq_getElem hi
    obtain ⟨en, hen, hkey, rv⟩ := ent i _ hkv
    obtain ⟨hi', rfl⟩ := Array.getElem?_eq_some_iff.mp hen
    obtain ⟨ok, ov, he⟩ := st
    rw [← hsz] at he
    have hlt : it < s.heap.objs.size := Heap.lt_size he
    refine wpAny_pyNext_items_item_raw he ⟨o, hgd, hx, hdt⟩ hi' fun h' ho hT hz hk => ?_
    refine ⟨_, rfl, wpAny_letOwnedTupleGo_items (s := { s with heap := h' }) ho fun h'' he' sb => ?_⟩
    have hT2 : h''.get? s.heap.objs.size = some { cls := .type "tuple", data := .seq #[es'[i].key, es'[i].val] } := (sb.2 _ (Nat.ne_of_gt hlt)).trans hT
    have new : ObjOk X.prog X.w (upd H s.heap.objs.size (.tup [.ref gs[i].1.2, gs[i].2])) h'' s.heap.objs.size (.tup [.ref gs[i].1.2, gs[i].2]) :=
      ⟨by show 2 ≤ sizeLine; decide, [es'[i].key, es'[i].val], .cons hkey (.cons rv .nil), ⟨_, hT2, rfl, _, rfl⟩⟩
    have I1 : Inv X pins σ (upd H s.heap.objs.size (.tup [.ref gs[i].1.2, gs[i].2])) { s with heap := h'' } :=
      I.turnedNew (t' := s.toks) (ch := [it]) (fun b ob hb e => (sb.2 b (by simpa using hb)).trans (hk b ob (by simpa using hb) e)) hf (Nat.le_refl _) new
    refine ⟨.ref s.heap.objs.size, _, I1, rfl, ⟨_, gs[i], hkv, rfl, I.hok.fresh (Nat.le_refl _), rfl⟩, ⟨es'[i].key, es'[i].val, ?_⟩, fun b hb => ?_⟩
    · rw [← hsz]; exact he'
    · have e : b = it := by simpa using hb
      rw [e, upd_ne (Nat.ne_of_lt hlt)]
      exact (hf it (by simp)).1
  done := by
    intro X hP hw hK hc i pins s σ H E I hf st hg
    subst hP hw hK
    obtain ⟨hd, hi⟩ := hg
    obtain ⟨f0, f1, f2, f3, f4, f5⟩ := hf it (by simp)
    obtain ⟨hs, hgd, hx, es', ep', hdt, hsz, ent⟩ := frzNv I hd
    obtain ⟨rfl, rfl⟩ := dict_ep hod hdt
    obtain ⟨ok, ov, he⟩ := st
    rw [← hsz] at he
    exact wpAny_pyNext_items_end_raw (I.ok.hd hc) he ⟨o, hgd, hx, hdt⟩ (by omega) fun h' eb => ⟨rfl, I.turned (t' := s.toks) (fun b ob hb e => eb b ob hb e) f0 f1 f3 f4 f5⟩
  self := fun A i s Q E st h => let ⟨_, _, e⟩ := st; PySem.W.kcp_self e h
end
def iItemsN (pw : Program × World) (td : TE) : TI := fun σ H R => td σ H fun x H1 => ∃ d o gs, x = .ref d ∧ H1 d = some (.frz o (.ext (NdPhi pw d gs))) ∧ R (ItiN d o pw gs) H1
theorem pi_itemsN {X : Cx} {e : Expr} {td : TE} {pw : Program × World} {apos cpos : Pos} {elts : List Expr} {kk : Nat} {tpos : Pos} (he : PE X e td) (hbase : attributeBase e "items" X.env (eval e X.env) = eval e X.env := by rfl) (hline : (apos.endLine == cpos.line) = true := by rfl) :
    PI X (.Tuple elts kk tpos) (.Call (.Attribute e "items" apos) [] [] cpos) (iItemsN pw td) := by
  refine ⟨fun pins s σ H R I h => ?_⟩
  refine wpAny_Call_method (T := "dict") (id := "dict.items") hbase rfl hline F.plainAttrs_dict F.slot_dict_items F.type_dict_items (thn (he.run pins s σ H _ I h) fun u s1 ⟨x, H1, I1, rx, d, o, gs, ex, hd, q⟩ => ?_)
  subst ex
  obtain rfl : u = Value.ref d := rx
  obtain ⟨hs, hgd, hx, es, ep, hdt, hsz, ent⟩ := frzNv I1 hd
  have hm : s1.heap.DictRaw d es ep := ⟨o, hgd, hx, hdt⟩
  refine ⟨hm.typeIs, fun b e => ⟨o, (by cases e; exact hgd), hx.2.1⟩, ?_⟩
  have I2 : Inv X pins σ H1 { s1 with heap := s1.heap.push { cls := .type "dict_items", data := .fields #[.ref d] } } := I1.kept (t' := s1.toks) fun b ob q => Heap.get?_push_of_some _ q
  have fin : wpAny (model X.prog X.w) X.A (pyIter (.ref s1.heap.objs.size)) (PIE X pins σ (.Tuple elts kk tpos) R) X.xe { s1 with heap := s1.heap.push { cls := .type "dict_items", data := .fields #[.ref d] } } := by
    refine wpAny_pyIter_items_raw (d := d) ⟨_, Heap.get?_push_size _ rfl, rfl, rfl⟩ (hm.at fun ob q => Heap.get?_push_of_some _ q) (pi_one (tk := s1.toks) I2 _ (turn_itemsN _ hdt) ⟨.none, .none, ?_⟩ q)
    rw [← hsz]
    exact Heap.get?_push_size _ rfl
  show wpAny _ _ (callWith cpos (.builtin "dict.items") [.ref d] [] []) _ X.xe s1
  exact method_meetsIn F.slot_dict_items F.entry_dict_items rfl (PySem.evalArgs_none ⟨rfl, hm.typeIs, F.args_dict_items_1 _, _, meets_dict_items_raw d hs, ⟨es, ep, hm⟩, fin⟩)
section
variable {K : PySem.W.Frag} {Θ : Ctx} {env : Env'} {h : Hs} {R : D → Hs → Prop} {E : En} {pw : Program × World}
theorem KeyR.get2 {F : Hp} {ρ : List Addr} {i : Nat} {p x : P} : ∀ {kvs : List (P × D)} {gs : List NG}, KeyR K F (kvs.map (·.1)) (gs.map (·.1)) → RA K F ρ (kvs.map (·.2)) (gs.map (·.2)) → kvs[i]? = some (p, .p x) → ∃ g : NG, gs[i]? = some g ∧ RP K F p (.ref g.1.2) ∧ RP K F x g.2
  | [], _, _, _, h => by simp at h
  | _ :: _, [], a, _, _ => by cases a
  | (_, _) :: _, ((k, b), v) :: gs, .cons a c d r, .cons q s, h => by
    cases i with
    | zero =>
      cases h
      cases q with
      | p q => exact ⟨_, rfl, a, q⟩
    | succ i =>
      obtain ⟨g, h1, h2⟩ := KeyR.get2 (i := i) r s (by simpa using h)
      exact ⟨g, by simpa using h1, h2⟩
/-- for k, v in d.items(), d locked, its values data that stay -/
theorem vi_itemsN {td : TE} {R : List D → (Hs → Prop) → Hs → Prop} (q : VE K Θ td env h fun x h1 => ∃ n od gs, ∃ kvs : List (P × P), x = .own n ∧ h1[n]? = some (some (.dL pw od gs (kvs.map fun z => (z.1, D.p z.2)))) ∧ R (kvs.map fun z => dT [z.1, z.2]) (fun h2 => h2[n]? = some (some (.dL pw od gs (kvs.map fun z => (z.1, D.p z.2))))) h1) : VI K Θ (iItemsN pw td) env h R := fun F ρ σ H Q rl e k =>
  q F ρ σ H _ rl e fun x h1 vx F1 ρ1 H1 s1 p1 r1 dx q1 => by
    obtain ⟨n, od, gs, kvs, rfl, hn, q1⟩ := q1
    cases dx with
    | @own a _ ha =>
      obtain ⟨g1, kr, ra⟩ := isDL r1 ha hn
      have hl : kvs.length = gs.length := by have z := nd_len ra; rwa [List.length_map] at z
      refine ⟨a, od, gs, rfl, g1, k _ _ h1 _ F1 ρ1 H1 s1 p1 r1 ⟨fun F' ρ' h' H' s p r c => ?_, fun i F' ρ' h' H' s p r c hi => ?_, fun i d F' ρ' h' H' x H2 s p r c hd hy => ?_⟩ q1⟩
      · exact ⟨(isDL r (p _ _ ha) c).1, by rw [List.length_map, hl]; exact Nat.le_refl _⟩
      · rw [List.length_map, hl] at hi
        exact ⟨(isDL r (p _ _ ha) c).1, hi⟩
      · obtain ⟨T, g, e2, e3, hT, e4⟩ := hy
        subst e3 e4
        obtain ⟨_, kr', ra'⟩ := isDL r (p _ _ ha) c
        rw [List.getElem?_map] at hd
        cases hk : kvs[i]? with
        | none => rw [hk] at hd; cases hd
        | some z =>
          rw [hk] at hd
          cases hd
          obtain ⟨g', e5, e6, e7⟩ := KeyR.get2 (i := i) (p := z.1) (x := z.2) kr' ra' (by rw [List.getElem?_map, hk]; rfl)
          rw [e2] at e5; cases e5
          have sn := same_new (o := .tup [.ref g.1.2, g.2]) (r.free hT)
          exact ⟨upd F' T (.tup [.ref g.1.2, g.2]), sn, r.frz hT, .p (.tup (.of upd_same) (.cons (e6.mono sn) (.cons (e7.mono sn) .nil)))⟩
end
end Kb

/-! An own dict whose keys are nested tuples: len(d), isinstance(d, dict). -/
namespace Kb
open PySem PySem.Spec PyProof.Rows L2
def rIsiN (pw : Program × World) (K : PySem.W.Frag) : List V → Hp → VK → Prop := fun xs H Q => ∃ (a : Addr) (gs : List NG) (n : String) (b : Bool), xs = [.ref a, .ty n] ∧ NdAt pw H a gs ∧ PySem.W.kitOne K (.type "dict") (.type n) = some b ∧ Q (.bl b) H
theorem call_isiN {X : Cx} {K : PySem.W.Frag} {pw : Program × World} (hK : X.K = K) (hp : (X.prog, X.w) = pw) : CallR X (.builtin "isinstance") (rIsiN pw K) := by
  subst hK hp
  intro pins s σ H xs us Q I r h
  obtain ⟨a, gs, n, b, rfl, hd, e, q⟩ := h
  obtain ⟨u1, u2, rfl, r1, r2⟩ := vals2 r
  obtain rfl : u1 = .ref a := r1
  obtain rfl : u2 = .type n := r2
  obtain ⟨⟨o, h1, h2⟩, _⟩ := nd_typeIs I hd
  exact PySem.W.kia_one PySem.W.kitx_dict I.kIn ⟨o, h1, h2⟩ e (fun z => nomatch z) fun tk => ⟨.bl b, H, I.tok tk, rfl, q⟩
def rLenN (pw : Program × World) : List V → Hp → VK → Prop := fun xs H Q => ∃ (a : Addr) (gs : List NG), xs = [.ref a] ∧ NdAt pw H a gs ∧ Q (.int ((gs.length : Nat) : Int)) H
theorem call_lenN {X : Cx} {pw : Program × World} (hp : (X.prog, X.w) = pw) : CallR X (.builtin "len") (rLenN pw) := by
  subst hp
  intro pins s σ H xs us Q I r h
  obtain ⟨a, gs, rfl, n, q⟩ := h
  obtain ⟨u, rfl, rx⟩ := vals1 r
  obtain rfl : u = .ref a := rx
  obtain ⟨z, hd, ys, rel, dd⟩ := n.dict I.hok
  have hl : gs.length = ys.length := Paired.length rel
  refine call_len_dictH hd dd (by rw [← hl]; rw [sizeLine_eq] at z; omega) ?_
  rw [← hl]
  exact ⟨.int ((gs.length : Nat) : Int), H, I.tok _, ⟨_, rfl⟩, q⟩
section
variable {K : PySem.W.Frag} {Θ : Ctx} {env : Env'} {h : Hs} {R : D → Hs → Prop} {pw : Program × World}
theorem vc_isiN {n : Nat} {kvs : List (P × D)} {T : String} (hn : h[n]? = some (some (.dN pw kvs))) (hT : T ∈ ["bool", "int", "str", "tuple", "list", "dict"]) (q : R (dB (isA "dict" T)) h) : VC K Θ (rIsiN pw K) [.own n, .p (.ty T)] h R := fun F ρ H vs Q rl a k => by
  cases a with
  | cons a b =>
    cases b with
    | cons b c =>
      cases c
      cases b with
      | p b =>
        cases b
        cases a with
        | own ha =>
          obtain ⟨gs, g1, _⟩ := isDN rl ha hn
          refine ⟨_, gs, _, isA "dict" T, rfl, g1, ?_, k _ h _ F ρ H (Same.refl _) (Pre.refl _) rl (.p (.bl _)) q⟩
          refine kit_ty ?_
          simp only [List.mem_cons, List.mem_singleton, List.not_mem_nil, or_false] at hT
          rcases hT with rfl | rfl | rfl | rfl | rfl | rfl <;> decide +kernel
theorem vc_lenN {n : Nat} {kvs : List (P × D)} (hn : h[n]? = some (some (.dN pw kvs))) (q : R (dI kvs.length) h) : VC K Θ (rLenN pw) [.own n] h R := fun F ρ H vs Q rl a k => by
  cases a with
  | cons a b =>
    cases b
    cases a with
    | own ha =>
      obtain ⟨gs, g1, kr, ra⟩ := isDN rl ha hn
      rw [nd_len ra] at q
      exact ⟨_, gs, rfl, g1, k _ h _ F ρ H (Same.refl _) (Pre.refl _) rl (.p (.int _)) q⟩
end
end Kb

/-! An own dict whose keys are nested tuples, read while it is walked: d[k], k in d. -/
namespace Kb
open PySem PySem.Spec PyProof.Rows L2
theorem nu_of {A : Around} {k : Nat} (hr : Room k A) : A.units + 9 < cLine := by have := hr.un; omega
/-- a locked dict at a, its keys stand in the heap -/
structure NdLk (pw : Program × World) (H : Hp) (a : Addr) (gs : List NG) : Prop where
  at_ : ∃ od, H a = some (.frz od (.ext (NdPhi pw a gs)))
  ks : ∀ g ∈ gs, NkV H g.1.1 (.ref g.1.2) ∧ g.1.1.depth ≤ 8
theorem NdLk.dict {P : Program} {w : World} {H : Hp} {h : Heap} {a : Addr} {gs : List NG} (n : NdLk (P, w) H a gs) (ok : HOk P w H h) : gs.length ≤ sizeLine ∧ (a == sysModules) = false ∧ ∃ xs, KTN gs xs ∧ h.DictOfH (nestedKind P w) a xs := by
  obtain ⟨od, e⟩ := n.at_
  obtain ⟨_, ⟨z, y, xs, r, o, es, ep, h1, h2, h3, h4, h5⟩, _, _⟩ := (show ObjOk P w H h a (.frz od (.ext (NdPhi (P, w) a gs))) from ok a _ e)
  refine ⟨z, y, xs, r, o, es, ep, h1, h2, h3, h4, fun x hx => ?_, h5⟩
  have all : ∀ {l : List NG} {m : List (NestedKey × Addr × Value)}, KTN l m → (∀ g ∈ l, NkV H g.1.1 (.ref g.1.2) ∧ g.1.1.depth ≤ 8) → ∀ x ∈ m, (nestedKind P w).is h x.1 x.2.1 := by
    intro l m q
    induction q with
    | nil => intro _ x hx; exact nomatch hx
    | @cons p q ps qs hq t ih =>
      intro hk x hx
      rcases List.mem_cons.mp hx with e | hx
      · subst e
        obtain ⟨k1, k2⟩ := hk p (List.mem_cons_self ..)
        rw [hq.1, hq.2.1] at k1
        rw [hq.1] at k2
        exact ⟨k1.is ok rfl, k2⟩
      · exact ih (fun g hg => hk g (List.mem_cons_of_mem _ hg)) x hx
  exact all r n.ks x hx
/-- a dict, locked or not -/
def NdAny (pw : Program × World) (H : Hp) (a : Addr) (gs : List NG) : Prop := NdAt pw H a gs ∨ NdLk pw H a gs
theorem NdAny.dict {P : Program} {w : World} {H : Hp} {h : Heap} {a : Addr} {gs : List NG} (n : NdAny (P, w) H a gs) (ok : HOk P w H h) : gs.length ≤ sizeLine ∧ (a == sysModules) = false ∧ ∃ xs, KTN gs xs ∧ h.DictOfH (nestedKind P w) a xs :=
  n.elim (fun n => n.dict ok) fun n => n.dict ok
def tNIxA (pw : Program × World) (td ty : TE) : TE := fun σ H Q => td σ H fun x H1 => ty σ H1 fun y H2 => ∃ a b gs k v, x = .ref a ∧ y = .ref b ∧ NdAny pw H2 a gs ∧ NkAt H2 k b ∧ valN gs k = some v ∧ Q v H2
def rInNA (pw : Program × World) (neg : Bool) : R2 := fun x y H Q => ∃ a b gs k, y = .ref a ∧ x = .ref b ∧ NdAny pw H a gs ∧ NkAt H k b ∧ Q (.bl (if neg then !(valN gs k).isSome else (valN gs k).isSome)) H
section
variable {X : Cx} {o i : Expr} {pos : Pos} {td ty : TE}
theorem pe_nixA (hu : X.A.units + 9 < cLine) (ho : PE X o td) (hi : PE X i ty) (hs : NoSl i) : PE X (.Subscript o i pos) (tNIxA (X.prog, X.w) td ty) := by
  refine ⟨fun pins s σ H Q I h => ?_⟩
  refine subD_of PySem.F.slot_dict_getitem.lookup hs (thn (ho.run pins s σ H _ I h) fun u s1 ⟨x, H1, I1, rx, q1⟩ => thn (hi.run pins s1 σ H1 _ I1 q1) fun iv s2 ⟨y, H2, I2, ry, a, b, gs, k, v, ex, ey, n, nk, l, q2⟩ => ?_)
  subst ex ey
  obtain rfl : u = Value.ref a := rx
  obtain rfl : iv = Value.ref b := ry
  obtain ⟨z, hd, xs, rel, dd⟩ := n.dict I2.hok
  obtain ⟨w', hw, rw'⟩ := RelO.some_of (v := v) (o := (atKey xs k).map (·.2)) (by rw [← l]; exact rel.val k)
  obtain ⟨p, hp, hp2⟩ := Option.map_eq_some_iff.mp hw
  refine ⟨dd.typeIs, wpAny_getItem_heap (nk_room hu) (nk_is I2 nk) dd hp ?_⟩
  rw [hp2]
  exact ⟨v, H2, I2.tok _, rw', q2⟩
theorem op_ninNA (hu : X.A.units + 9 < cLine) : OpR X (compareOp .NotIn) (rInNA (X.prog, X.w) true) := fun pins s σ H x y v u Q I rx ry h => by
  obtain ⟨a, b, gs, k, rfl, rfl, n, nk, q⟩ := h
  obtain rfl : u = Value.ref a := ry
  obtain rfl : v = Value.ref b := rx
  obtain ⟨z, hd, xs, rel, dd⟩ := n.dict I.hok
  refine wpAny_notIn_heap (nk_room hu) (nk_is I nk) hd dd ?_
  have e := (rel.val k).isSome_eq
  rw [Option.isSome_map] at e
  rw [← e]
  exact ⟨.bl _, H, I.tok _, rfl, q⟩
end
section
variable {K : PySem.W.Frag} {Θ : Ctx} {env : Env'} {h : Hs} {R : D → Hs → Prop} {pw : Program × World}
/-- the dict n holds kvs, locked or not -/
def DNat (pw : Program × World) (h : Hs) (n : Nat) (kvs : List (P × D)) : Prop := h[n]? = some (some (.dN pw kvs)) ∨ ∃ od gs, h[n]? = some (some (.dL pw od gs kvs))
theorem isDA {F : Hp} {ρ : List Addr} {H : Hp} {n : Nat} {a : Addr} {kvs : List (P × D)} (rl : Rel K Θ F ρ h H) (ha : ρ[n]? = some a) (hn : DNat pw h n kvs) : ∃ gs, NdAny pw H a gs ∧ KeyR K F (kvs.map (·.1)) (gs.map (·.1)) ∧ RA K F ρ (kvs.map (·.2)) (gs.map (·.2)) := by
  rcases hn with hn | ⟨od, gs, hn⟩
  · obtain ⟨gs, g, kr, ra⟩ := isDN rl ha hn
    exact ⟨gs, .inl g, kr, ra⟩
  · obtain ⟨g, kr, ra⟩ := isDL rl ha hn
    exact ⟨gs, .inr ⟨⟨_, g⟩, fun x hx => ⟨(kr.nks x hx).1.mono fun b ys e => rl.same _ _ e, (kr.nks x hx).2⟩⟩, kr, ra⟩
theorem ve_nixA {td ty : TE} (q : VE K Θ td env h fun x h1 => VE K Θ ty env h1 fun y h2 => ∃ n kvs p k d, x = .own n ∧ y = .p p ∧ KeyN p k ∧ DNat pw h2 n kvs ∧ vN kvs k = some d ∧ R d h2) : VE K Θ (tNIxA pw td ty) env h R := fun F ρ σ H Q rl e k =>
  q F ρ σ H _ rl e fun x h1 vx F1 ρ1 H1 s1 p1 r1 dx q1 => q1 F1 ρ1 σ H1 _ r1 (e.mono s1 p1) fun y h2 vy F2 ρ2 H2 s2 p2 r2 dy q2 => by
    obtain ⟨n, kvs, p, kk, d, rfl, rfl, c, hn, hd, q2⟩ := q2
    cases dx with
    | @own a _ ha =>
      obtain ⟨gs, g, kr, ra⟩ := isDA r2 (p2 _ _ ha) hn
      obtain ⟨b, rfl, _, hb⟩ := c.at_ r2.same dy
      rcases nd_look (k := kk) kr ra with ⟨l1, _⟩ | ⟨d', v, l1, l2, l3⟩
      · rw [hd] at l1; cases l1
      · rw [hd] at l1; cases l1
        exact ⟨a, b, gs, kk, v, rfl, rfl, g, hb, l2, k d h2 v F2 ρ2 H2 (s1.trans s2) (p1.trans p2) r2 l3 q2⟩
theorem v2_inNA {neg : Bool} {n : Nat} {kvs : List (P × D)} {p : P} {kk : NestedKey} (c : KeyN p kk) (hn : DNat pw h n kvs) (q : R (dB (if neg then !(vN kvs kk).isSome else (vN kvs kk).isSome)) h) : V2 K Θ (rInNA pw neg) (.p p) (.own n) h R := fun F ρ H vx vy Q rl a b k => by
  cases b with
  | @own a2 _ hb =>
    obtain ⟨gs, g1, kr, ra⟩ := isDA rl hb hn
    obtain ⟨b, rfl, _, hc⟩ := c.at_ rl.same a
    refine ⟨_, b, gs, kk, rfl, rfl, g1, hc, ?_⟩
    have e : (valN gs kk).isSome = (vN kvs kk).isSome := by
      rcases nd_look (k := kk) kr ra with ⟨l1, l2⟩ | ⟨d, v, l1, l2, l3⟩
      · rw [l1, l2]; rfl
      · rw [l1, l2]; rfl
    rw [e]
    exact k _ h _ F ρ H (Same.refl _) (Pre.refl _) rl (.p (.bl _)) q
end
end Kb

/-! An expression read in one of many ways: a def as a value, one of a family. -/
namespace Kb
open PySem PySem.Spec PyProof.Rows L2
theorem pe_exE {X : Cx} {e : Expr} {ι : Type} {t : ι → TE} (h : ∀ i, PE X e (t i)) : PE X e (fun σ H Q => ∃ i, t i σ H Q) := ⟨fun pins s σ H Q I q => by
  obtain ⟨i, q⟩ := q
  exact (h i).run pins s σ H Q I q⟩
theorem ve_exE {K : PySem.W.Frag} {Θ : Ctx} {env : Env'} {h : Hs} {R : D → Hs → Prop} {ι : Type} {t : ι → TE} (i : ι) (q : VE K Θ (t i) env h R) : VE K Θ (fun σ H Q => ∃ i, t i σ H Q) env h R := fun F ρ σ H Q rl e k => ⟨i, q F ρ σ H Q rl e k⟩
end Kb

/-! xs.count(y) over plain data. -/
namespace Kb
open PySem PySem.Spec PyProof.Rows L2
section
variable {X : Cx}
def rCntD (K : PySem.W.Frag) : V → List V → Hp → VK → Prop := fun x xs H Q => ∃ (a : Addr) (y : V) (d : PyData) (ds : List PyData), x = V.ref a ∧ xs = [y] ∧ Dp K H (V.ref a) (.list ds) ∧ Dp K H y d ∧ SeqAt.shaped d = true ∧ SeqAt.shaped (.list ds) = true ∧ Q (.int ((ds.countP fun z => PyData.eqv z d : Nat) : Int)) H
theorem mt_lcountD (hu : X.A.units + 65 < cLine) : MtR X "list.count" (rCntD X.K) := by
  intro pins s σ H x vs v us Q I rx rv h
  obtain ⟨a, y, d, ds, rfl, rfl, h1, h2, s1, s2, q⟩ := h
  obtain rfl : v = Value.ref a := rx
  obtain ⟨u, rfl, ru⟩ := rv.one
  obtain ⟨as, ra⟩ := Dp.reads I _ _ _ h1 (show RelV (.ref a) (.ref a) from rfl)
  obtain ⟨bs, rb⟩ := Dp.reads I _ _ _ h2 ru
  have l1 := SeqAt.canLay_of_shaped s1
  have l2 := SeqAt.canLay_of_shaped s2
  cases ra with
  | @list _ o vs n _ as ho hc hd hr =>
  obtain ⟨cls, dd, data, sl⟩ := o
  simp only at hc hd
  subst hc hd
  have l3 : PyData.canLayAll0 ds = true := l2
  have dp : d.depth ≤ 64 := by
    have z := s1
    simp only [SeqAt.shaped, Bool.and_eq_true, decide_eq_true_eq] at z
    exact z.2
  refine call_meets PySem.F.slot_list_count ⟨_, ho, rfl⟩ PySem.F.entry_list_count (PySem.F.args_list_count_2 _ _) (SeqAt.list_countAt a vs n dd sl u (fun y => PyData.eqv (SeqAt.readOf s.heap y) d)) ⟨ho, ?_, ?_⟩
  · exact SeqAt.items_eqAt hr rb l3 l1 (by have : min (PyData.depthAll ds) d.depth ≤ d.depth := Nat.min_le_right _ _; omega)
  · have e : vs.toList.countP (fun y => PyData.eqv (SeqAt.readOf s.heap y) d) = ds.countP fun z => PyData.eqv z d := by
      have z := SeqAt.readsAll_map ds vs.toList as l3 hr
      conv => rhs; rw [← z]
      rw [List.countP_map]
      rfl
    refine ⟨.int _, H, I.tok _, ?_, q⟩
    rw [e]
    exact ⟨_, rfl⟩
theorem mt_lcountDK {K : PySem.W.Frag} (hK : X.K = K) (hu : X.A.units + 65 < cLine) : MtR X "list.count" (rCntD K) := hK ▸ mt_lcountD hu
end
section
variable {K : PySem.W.Frag} {Θ : Ctx} {h : Hs} {R : D → Hs → Prop}
theorem vm_countL {ps : List P} {x : D} {p : P} (hx : SeqL x h ps) (lp : plainP p = true) (ls : ps.all plainP = true) (sp : SeqAt.shaped (pyOf p) = true) (ss : SeqAt.shaped (.list (ps.map pyOf)) = true)
    (q : R (dI ((ps.countP fun z => PyData.eqv (pyOf z) (pyOf p) : Nat) : Int)) h) : VM K Θ (rCntD K) x [.p p] h R := fun F ρ H vx vs Q rl a b k => by
  cases b with
  | cons b c =>
    cases c
    have e := seq_dp hx rl a ls
    obtain ⟨p2, ws, rfl, s2, r2⟩ := hx.v rl a
    refine ⟨p2, _, _, _, rfl, rfl, e, (show PyD (.p p) h p from rfl).dp rl b lp, sp, ss, ?_⟩
    refine k _ h _ F ρ H (Same.refl _) (Pre.refl _) rl (.p (.int _)) ?_
    rw [List.countP_map]
    exact q
end
end Kb

/-! str of a number, a text, a truth, None. -/
namespace Kb
open PySem PySem.Spec PyProof.Rows L2
section
variable {X : Cx}
def rStrB : List V → Hp → VK → Prop := fun xs H Q => ∃ b : Bool, xs = [.bl b] ∧ Q (.str (if b = true then Str.ofString "True" else Str.ofString "False")) H
def rStrN : List V → Hp → VK → Prop := fun xs H Q => xs = [.non] ∧ Q (.str (Str.ofString "None")) H
def rStrA : List V → Hp → VK → Prop := fun xs H Q => rStrU xs H Q ∨ rStrB xs H Q ∨ rStrN xs H Q
theorem call_strB : CallR X (.type "str") rStrB := fun pins s σ H xs us Q I rv h => by
  obtain ⟨b, rfl, q⟩ := h
  obtain ⟨u, rfl, ru⟩ := rv.one
  obtain rfl : u = Value.bool b := ru
  exact PySem.P.str_of_bool ⟨.str _, H, I.tok _, ⟨_, rfl⟩, q⟩
theorem call_strN : CallR X (.type "str") rStrN := fun pins s σ H xs us Q I rv h => by
  obtain ⟨rfl, q⟩ := h
  obtain ⟨u, rfl, ru⟩ := rv.one
  obtain rfl : u = Value.none := ru
  exact PySem.P.str_of_none ⟨.str _, H, I.tok _, ⟨_, rfl⟩, q⟩
theorem call_strA : CallR X (.type "str") rStrA := call_strU.or (call_strB.or call_strN)
end
/-- str of a plain value -/
def strP : P → Str
  | .int i => toString i
  | .str s => s
  | .bl b => if b = true then Str.ofString "True" else Str.ofString "False"
  | _ => Str.ofString "None"
def strOk : P → Prop
  | .int i => i.natAbs.log2 < 1920
  | .str _ => True
  | .bl _ => True
  | .non => True
  | _ => False
section
variable {K : PySem.W.Frag} {Θ : Ctx} {h : Hs} {R : D → Hs → Prop}
theorem vc_strA {p : P} (ok : strOk p) (q : R (dS (strP p)) h) : VC K Θ rStrA [.p p] h R := fun F ρ H vs Q rl a k => by
  have kk := k _ h _ F ρ H (Same.refl _) (Pre.refl _) rl (.p (.str _)) q
  cases a with
  | cons a b =>
    cases b
    cases a with
    | p a =>
      cases p with
      | int i => cases a; exact .inl (.inl ⟨_, rfl, ok, kk⟩)
      | str s => cases a; exact .inl (.inr ⟨_, rfl, kk⟩)
      | bl b => cases a; exact .inr (.inl ⟨_, rfl, kk⟩)
      | non => cases a; exact .inr (.inr ⟨rfl, kk⟩)
      | _ => exact ok.elim
end
end Kb

section
open PySem PySem.Spec PyProof.Rows L2 Kb
local macro_rules | `(tactic| k_clsL) => `(tactic| first | assumption | decide | omega)
local macro_rules | `(tactic| k_subL) => `(tactic| first
      | (with_reducible refine vg_name ?_)
      | (with_reducible refine v1_U ?_)
      | (with_reducible refine ite_nrefl ?_)
      | (with_reducible refine ite_refl ?_)
      | ((with_reducible refine ite_tt ?hc ?_); (case hc => first | decide | exact rfl))
      | ((with_reducible refine ite_ff ?hc ?_); (case hc => first | decide | exact rfl)))
local macro_rules | `(tactic| k_subL) => `(tactic| ((with_reducible show Exists _); first
      | ((with_reducible refine isi2_i (T := "tuple") ?hT ?hm ?hn ?_); (case hT => exact rfl); (case hm => decide); (case hn => decide))
      | ((with_reducible refine isi2_i (T := "list") ?hT ?hm ?hn ?_); (case hT => exact rfl); (case hm => decide); (case hn => decide))
      | ((with_reducible refine isi2_i (T := "int") ?hT ?hm ?hn ?_); (case hT => exact rfl); (case hm => decide); (case hn => decide))
      | ((with_reducible refine isi2_i (T := "bool") ?hT ?hm ?hn ?_); (case hT => exact rfl); (case hm => decide); (case hn => decide))
      | ((with_reducible refine isi2_i (T := "str") ?hT ?hm ?hn ?_); (case hT => exact rfl); (case hm => decide); (case hn => decide))
      | ((with_reducible refine isi2_i (T := "NoneType") ?hT ?hm ?hn ?_); (case hT => exact rfl); (case hm => decide); (case hn => decide))
      | (with_reducible refine bool_ans ?_)
      | (with_reducible refine tru_bl ?_)
      | ((with_reducible refine tup_j ?hl ?_); (case hl => exact rfl))))
local macro_rules | `(tactic| k_subL) => `(tactic| ((with_reducible show Kb.VC _ _ _ _ _ _); first
      | ((with_reducible refine vc_isi (T := "NoneType") ?hT ?hn ?_); (case hT => first | exact rfl | exact ⟨rfl, _, by first | assumption | simp⟩); (case hn => decide))
      | (with_reducible refine vc_lenL ?_)
      | (with_reducible refine vc_lenT ?_)))
local macro_rules | `(tactic| k_subL) => `(tactic| ((with_reducible show Kb.VC _ _ _ _ _ _); first
      | (with_reducible refine vc_intI ?_)
      | (with_reducible refine vc_intB ?_)
      | (with_reducible refine vc_abs ?_)
      | (with_reducible refine vc_min2 ?_)
      | (with_reducible refine vc_max2 ?_)
      | ((with_reducible refine vc_isi (T := "tuple") ?hT ?hn ?_); (case hT => first | exact rfl | exact ⟨rfl, _, by first | assumption | simp⟩); (case hn => decide))
      | ((with_reducible refine vc_isi (T := "list") ?hT ?hn ?_); (case hT => first | exact rfl | exact ⟨rfl, _, by first | assumption | simp⟩); (case hn => decide))
      | ((with_reducible refine vc_isi (T := "int") ?hT ?hn ?_); (case hT => first | exact rfl | exact ⟨rfl, _, by first | assumption | simp⟩); (case hn => decide))
      | ((with_reducible refine vc_isi (T := "bool") ?hT ?hn ?_); (case hT => first | exact rfl | exact ⟨rfl, _, by first | assumption | simp⟩); (case hn => decide))
      | ((with_reducible refine vc_isi (T := "str") ?hT ?hn ?_); (case hT => first | exact rfl | exact ⟨rfl, _, by first | assumption | simp⟩); (case hn => decide))))
local macro_rules | `(tactic| k_subL) => `(tactic| ((with_reducible show Kb.V2 _ _ _ _ _ _ _); first
      | (with_reducible refine v2_ltS ?_)
      | ((with_reducible refine v2_divW ?hm ?_); case hm => (constructor <;> k_clsL))
      | ((with_reducible refine v2_mulU ?hm ?_); case hm => first | exact cmul_small (by k_clsL) (by k_clsL) | exact cmul_wide (by k_clsL) (by k_clsL))
      | ((with_reducible refine v2_mod ?hm ?_); case hm => k_clsL)
      | ((with_reducible refine v2_div ?hm ?_); case hm => (constructor <;> k_clsL))
      | ((with_reducible refine v2_mul ?hm ?_); case hm => first | exact cmul_small (by k_clsL) (by k_clsL) | exact cmul_wide (by k_clsL) (by k_clsL))))
local macro_rules | `(tactic| k_subL) => `(tactic| ((with_reducible show Kb.V2 _ _ _ _ _ _ _); first
      | (with_reducible refine v2_neS ?_)
      | (with_reducible refine v2_neB ?_)
      | (with_reducible refine v2_isN ?_)
      | (with_reducible refine v2_notN ?_)
      | (with_reducible refine v2_isNU ?_)
      | ((with_reducible refine v2_isBl ?hx ?_); (case hx => exact rfl))
      | (with_reducible refine v2_addVI ?_)
      | (with_reducible refine v2_addWI ?_)
      | (with_reducible refine v2_ltI ?_)
      | (with_reducible refine v2_ltB ?_)))
local macro_rules | `(tactic| k_subL) => `(tactic| ((with_reducible show Kb.V2 _ _ _ _ _ _ _); first
      | (with_reducible refine v2_addI ?_)
      | (with_reducible refine v2_sub ?_)
      | (with_reducible refine v2_lt ?_)
      | (with_reducible refine v2_le ?_)
      | (with_reducible refine v2_gt ?_)
      | (with_reducible refine v2_ge ?_)
      | (with_reducible refine v2_eqI ?_)
      | (with_reducible refine v2_eqS ?_)
      | (with_reducible refine v2_eqB ?_)
      | (with_reducible refine v2_neI ?_)))
local macro_rules | `(tactic| k_subL) => `(tactic| ((with_reducible show Kb.VT _ _ _ _ _ _); first
      | (with_reducible refine vt_test ?_)
      | (with_reducible refine vt_B ?_)
      | (with_reducible refine vt_and ?_)
      | (with_reducible refine vt_or ?_)
      | (with_reducible refine vt_not ?_)
      | (with_reducible refine vt_truth ?_)))
local macro_rules | `(tactic| k_subL) => `(tactic| ((with_reducible show Kb.VA _ _ _ _ _ _); first
      | (with_reducible refine va_cons ?_)
      | (with_reducible refine va_nil ?_)))
local macro_rules | `(tactic| k_subL) => `(tactic| ((with_reducible show Kb.VS _ _ _ _ _ _); first
      | (with_reducible refine vs_seq ?_)
      | (with_reducible refine vs_asg ?_)
      | (with_reducible refine vs_ret ?_)
      | (with_reducible refine vs_if ?_)
      | (with_reducible refine vs_next ?_)
      | (with_reducible refine vs_drop ?_)))
local macro_rules | `(tactic| k_subL) => `(tactic| ((with_reducible show Kb.VE _ _ _ _ _ _); first
      | (with_reducible refine ve_and ?_)
      | (with_reducible refine ve_or ?_)
      | (with_reducible refine ve_not ?_)
      | (with_reducible refine ve_chain ?_)
      | (with_reducible refine ve_un ?_)
      | (with_reducible refine ve_if ?_)
      | (with_reducible refine ve_tup ?_)))
local macro_rules | `(tactic| k_subL) => `(tactic| ((with_reducible show Kb.VE _ _ _ _ _ _); first
      | (with_reducible refine ve_op ?_)
      | (with_reducible refine ve_isi2 ?_)
      | (with_reducible refine ve_cb ?_)
      | (with_reducible refine ve_call ?_)
      | (with_reducible refine ve_int ?_)
      | (with_reducible refine ve_str ?_)
      | (with_reducible refine ve_bl ?_)
      | (with_reducible refine ve_non ?_)
      | (with_reducible refine ve_ty ?_)
      | (refine ve_var (by exact rfl) ?_)))
local macro_rules | `(tactic| k_places) => `(tactic| repeat k_subL)
local macro_rules | `(tactic| k_offL) => `(tactic| repeat ((fail_if_success (with_reducible refine vs_seq ?_)); k_subL))
namespace Law
open PySem PySem.Spec PyProof.Rows L2 Kb
def topS (i : Nat) : Stmt := PySem.Challenge.pw_kithbase_k39_change_of_a_join.main.body.getD i (.Pass ⟨0, 0, 0, 0⟩)
-- the steps that are tried: k_clsL a side condition; k_subL one step; k_places steps as long as one fits
section
variable {Pg : Program} {w : World} {K : PySem.W.Frag} {Θ : Tbs} {mg : Str → Option Value} {base : Heap}
/-- the state of the draws -/
def stO (ns : List Int) (a b c : Int) : OO := .lst [dL (ns.map P.int), dI a, dI b, dI c]
structure OkSt (ns : List Int) (a b c : Int) : Prop where
  len : ns.length ≤ 63
  a0 : 0 ≤ a
  al : a ≤ ns.length
  b0 : 0 ≤ b
  c0 : 0 ≤ c
  cl : c < 2147483647
theorem set_same {α : Type} {h : List α} {n : Nat} {o : α} (e : h[n]? = some o) : h.set n o = h := by
  refine List.ext_getElem? fun i => ?_
  by_cases hi : n = i
  · subst hi
    rw [List.getElem?_set_self (List.getElem?_eq_some_iff.mp e).1, e]
  · rw [List.getElem?_set_ne hi]
theorem get_set {α : Type} {h : List α} {n : Nat} {o u : α} (e : h[n]? = some o) : (h.set n u)[n]? = some u := List.getElem?_set_self (List.getElem?_eq_some_iff.mp e).1
abbrev st_next : Stmt := (topS 6)
theorem sc_next : FnScope ["state", "limit", "cell", "value"] ["state", "limit"] (defScope st_next) := ⟨rfl, rfl, rfl, by decide +kernel, rfl, by decide +kernel, by decide +kernel⟩
def W_next : Spc := fun ds h R => ∃ (n : Nat) (ns : List Int) (a b c limit : Int), ds = [.own n, dI limit] ∧ h[n]? = some (some (stO ns a b c)) ∧ OkSt ns a b c ∧ 0 < limit ∧ limit.natAbs.log2 < 9000 ∧
  ∀ v a' b' c' : Int, OkSt ns a' b' c' → 0 ≤ v → v < limit → R (dI v) (h.set n (some (stO ns a' b' c')))
theorem ok_next (A : DefAt K mg "_law_next" st_next ["state", "limit"]) (m_int : mg "int" = none) (m_len : mg "len" = none) : HasF Pg w K mg base CX0 1 "_law_next" ["state", "limit"] (spD K Θ W_next) := by
  have sc := sc_next
  refine A.okD sc W_next (fun ds h R ⟨_, _, _, _, _, _, e, _⟩ => by rw [e]; rfl) fun f cdv A outer s H E hr => ?_
  refine ⟨_, (pss_cons (ps_if (PW.pt (pw_and (pt_cmpR (op_eqUK (K := K) (by rfl) hr.units) (pe_ix (ix_seqK (K := K) (by rfl)) (pv 0) pe_int (fun _ _ => rfl)) pe_int (nomark _)) (pw_and1 (pt_cmpR op_lt (pe_ix (ix_seqK (K := K) (by rfl)) (pv 0) pe_int (fun _ _ => rfl)) (pe_callB (call_lenK (K := K) (by rfl)) (by rfl) m_len (by decide +kernel) (pa_cons (pe_ix (ix_seqK (K := K) (by rfl)) (pv 0) pe_int (fun _ _ => rfl)) pa_nil)) (nomark _))))) (pss_cons (ps_set (i := 2) sc.nd rfl (.inl rfl) (pe_ix (ix_seqK (K := K) (by rfl)) (pe_ix (ix_seqK (K := K) (by rfl)) (pv 0) pe_int (fun _ _ => rfl)) (pe_ix (ix_seqK (K := K) (by rfl)) (pv 0) pe_int (fun _ _ => rfl)) (fun _ _ => rfl)))
  (pss_cons (ps_augS (pv 0) pe_int (pget_listK (K := K) (by rfl)) pe_int ip_add set_list)
  (pss_one (ps_if (pt_cmpR op_ge (pv 2) (pe_op op_pow pe_int pe_int) (nomark _)) (pss_one (ps_asg (pv 2) (pg_sub (pv 0) pe_int set_list))) (pss_one (ps_asg (pe_op op_mod (pe_callTy call_intU (by rfl) m_int (by decide +kernel) (pa_cons (pe_op (op_addWK (K := K) (by rfl)) (pe_op (op_addWK (K := K) (by rfl)) (pe_op op_mulU (pe_ix (ix_seqK (K := K) (by rfl)) (pv 0) pe_int (fun _ _ => rfl)) pe_int) (pe_op op_mod (pe_callTy call_intU (by rfl) m_int (by decide +kernel) (pa_cons (pv 2) pa_nil)) pe_int)) pe_int) pa_nil)) pe_int) (pg_sub (pv 0) pe_int set_list))))))) pss_nil)
  (pss_cons (ps_if (pt_cmpR op_gt (pe_ix (ix_seqK (K := K) (by rfl)) (pv 0) pe_int (fun _ _ => rfl)) pe_int (nomark _)) (pss_cons (ps_set (i := 3) sc.nd rfl (.inl rfl) (pe_op op_mod (pe_callTy call_intU (by rfl) m_int (by decide +kernel) (pa_cons (pe_ix (ix_seqK (K := K) (by rfl)) (pv 0) pe_int (fun _ _ => rfl)) pa_nil)) (pv 1)))
  (pss_cons (ps_asg (pe_op op_fdivW (pe_ix (ix_seqK (K := K) (by rfl)) (pv 0) pe_int (fun _ _ => rfl)) (pv 1)) (pg_sub (pv 0) pe_int set_list))
  (pss_one (ps_ret (pv 3))))) pss_nil)
  (pss_cons (ps_asg (pe_op op_mod (pe_callTy call_intU (by rfl) m_int (by decide +kernel) (pa_cons (pe_op (op_addWK (K := K) (by rfl)) (pe_op op_mulU (pe_ix (ix_seqK (K := K) (by rfl)) (pv 0) pe_int (fun _ _ => rfl)) pe_int) pe_int) pa_nil)) pe_int) (pg_sub (pv 0) pe_int set_list))
  (pss_one (ps_ret (pe_op op_mod (pe_callTy call_intU (by rfl) m_int (by decide +kernel) (pa_cons (pe_op op_fdivW (pe_ix (ix_seqK (K := K) (by rfl)) (pv 0) pe_int (fun _ _ => rfl)) pe_int) pa_nil)) (pv 1))))))), ?_⟩
  try dsimp only [cxOf]
  rintro ds h R ⟨n, ns, a, b, c, limit, rfl, hn, ok, hl0, hl, q⟩
  obtain ⟨hlen, a0, al, b0, c0, cl⟩ := ok
  refine vs_cut (fun env' h' => ∃ (a b c : Int) (o2 o3 : Option D), env' = [some (.own n), some (dI limit), o2, o3] ∧ h' = h.set n (some (stO ns a b c)) ∧ OkSt ns a b c) ?_ ?_
  · have stay : ∃ (a b c : Int) (o2 o3 : Option D), startD ["state", "limit", "cell", "value"] [.own n, dI limit] = [some (.own n), some (dI limit), o2, o3] ∧ h = h.set n (some (stO ns a b c)) ∧ OkSt ns a b c :=
      ⟨a, b, c, none, none, rfl, (set_same hn).symm, hlen, a0, al, b0, c0, cl⟩
    k_places
    refine v2_ixO hn rfl ?_
    k_places
    refine ite_dec (fun e1 => ?_) (fun e1 => ?_)
    · k_places
      refine v2_ixO hn rfl ?_
      k_places
      refine v2_ixO hn rfl ?_
      k_places
      rw [List.length_map]
      refine ite_dec (fun e2 => ?_) (fun e2 => ?_)
      · k_places
        refine v2_ixO hn rfl ?_
        k_places
        refine v2_ixO hn rfl ?_
        have hi : a.toNat < ns.length := by omega
        refine v2_ixL (at_nat a.toNat (by omega) (by rw [List.getElem?_map, List.getElem?_eq_getElem hi]; rfl)) ?_
        k_places
        refine vs_augS ?_
        k_places
        refine ⟨n, 1, _, 1, dI a, rfl, rfl, hn, rfl, rfl, ?_⟩
        k_places
        refine ⟨rfl, v2_ip (g := fun i j => i + j) ⟨rfl, ?_⟩⟩
        have hn2 := get_set (u := some (stO ns (a + 1) b c)) hn
        k_places
        refine v2_pow (by decide) ?_
        k_places
        refine ite_dec (fun e3 => ?_) (fun e3 => ?_)
        · k_places
          refine vg_sub ?_
          k_places
          refine ⟨n, 2, _, 2, rfl, rfl, hn2, rfl, ?_⟩
          refine ⟨a + 1, ns[a.toNat], c, _, _, rfl, List.set_set _, hlen, by omega, by omega, ?_, c0, cl⟩
          have e4 : (10 : Int) ^ (18 : Int).toNat = 1000000000000000000 := rfl
          rw [e4] at e3
          omega
        · k_places
          refine v2_ixO hn2 rfl ?_
          k_places
          refine vg_sub ?_
          k_places
          refine ⟨n, 3, _, 3, rfl, rfl, hn2, rfl, ?_⟩
          refine ⟨a + 1, b, _, _, _, rfl, List.set_set _, hlen, by omega, by omega, b0, ?_, ?_⟩
          · exact Int.emod_nonneg _ (by decide)
          · exact Int.emod_lt_of_pos _ (by decide)
      · k_places
        exact stay
    · k_places
      exact stay
  · rintro env' h' ⟨a, b, c, o2, o3, rfl, rfl, ok⟩
    obtain ⟨hlen, a0, al, b0, c0, cl⟩ := ok
    have hn2 := get_set (u := some (stO ns a b c)) hn
    k_places
    refine v2_ixO hn2 rfl ?_
    k_places
    refine ite_dec (fun e1 => ?_) (fun e1 => ?_)
    · k_places
      refine v2_ixO hn2 rfl ?_
      k_places
      refine v2_ixO hn2 rfl ?_
      k_places
      refine vg_sub ?_
      k_places
      refine ⟨n, 2, _, 2, rfl, rfl, hn2, rfl, ?_⟩
      k_places
      rw [List.set_set]
      exact q _ _ _ _ ⟨hlen, a0, al, Int.ediv_nonneg b0 (by omega), c0, cl⟩ (Int.emod_nonneg _ (by omega)) (Int.emod_lt_of_pos _ hl0)
    · k_places
      refine v2_ixO hn2 rfl ?_
      k_places
      refine vg_sub ?_
      k_places
      refine ⟨n, 3, _, 3, rfl, rfl, hn2, rfl, ?_⟩
      have hn3 := get_set (u := some (stO ns a b ((c * 69621 + 12345) % 2147483647))) hn
      rw [List.set_set]
      k_places
      refine v2_ixO hn3 rfl ?_
      k_places
      exact q _ _ _ _ ⟨hlen, a0, al, b0, Int.emod_nonneg _ (by decide), Int.emod_lt_of_pos _ (by decide)⟩ (Int.emod_nonneg _ (by omega)) (Int.emod_lt_of_pos _ hl0)
end
end Law

namespace Law
open PySem PySem.Spec PyProof.Rows L2 Kb
-- the steps that are tried: k_clsL a side condition; k_subL one step; k_places steps as long as one fits
section
variable {Pg : Program} {w : World} {K : PySem.W.Frag} {Θ : Tbs} {mg : Str → Option Value} {base : Heap}
/-- characters that a text may have -/
def CharOk (c : Nat) : Prop := (c = 10 ∨ (32 ≤ c ∧ c ≤ 126)) ∧ c ≠ 37
instance (c : Nat) : Decidable (CharOk c) := by unfold CharOk; infer_instance
theorem v2_char {z : Str} {i : Int} {h : Hs} {R : D → Hs → Prop} (hl : z.length ≤ sizeLine) (hz : z.cps.toList.length = 95) (hc : ∀ c ∈ z.cps.toList, CharOk c) (q : ∀ c, CharOk c → R (dS ⟨#[c]⟩) h) : V2 K Θ (rIx K) (dS z) (dI (i % 95)) h R := by
  have i0 := Int.emod_nonneg i (show (95 : Int) ≠ 0 by decide)
  have i1 := Int.emod_lt_of_pos i (show (0 : Int) < 95 by decide)
  have hi : (i % 95).toNat < z.cps.toList.length := by rw [hz]; omega
  exact v2_ixS hl (at_nat (i % 95).toNat (by omega) (List.getElem?_eq_getElem hi)) (q _ (hc _ (List.getElem_mem hi)))
abbrev st_char : Stmt := (topS 8)
theorem sc_char : FnScope ["index", "chars"] ["index"] (defScope st_char) := ⟨rfl, rfl, rfl, by decide +kernel, rfl, by decide +kernel, by decide +kernel⟩
def W_char : Spc := fun ds h R => ∃ i : Int, ds = [dI i] ∧ ∀ c : Nat, CharOk c → R (dS ⟨#[c]⟩) h
theorem ok_char (A : DefAt K mg "_law_char" st_char ["index"]) (m_int : mg "int" = none) : HasF Pg w K mg base CX0 1 "_law_char" ["index"] (spD K Θ W_char) := by
  have sc := sc_char
  refine A.okD sc W_char (fun ds h R ⟨_, e, _⟩ => by rw [e]; rfl) fun f cdv A outer s H E hr => ?_
  refine ⟨_, (pss_cons (ps_set (i := 1) sc.nd rfl (.inl rfl) pe_str)
  (pss_cons (ps_set (i := 1) sc.nd rfl (.inl rfl) (pe_op (op_addWK (K := K) (by rfl)) (pv 1) pe_str))
  (pss_one (ps_ret (pe_ix (ix_seqK (K := K) (by rfl)) (pv 1) (pe_op op_mod (pe_callTy call_intU (by rfl) m_int (by decide +kernel) (pa_cons (pv 0) pa_nil)) pe_int) (fun _ _ => rfl)))))), ?_⟩
  try dsimp only [cxOf]
  rintro ds h R ⟨i, rfl, q⟩
  k_places
  refine v2_addWS (by decide +kernel) ?_
  k_places
  refine v2_char ?_ ?_ ?_ q <;> decide +kernel
/-- the same, the kinds of all parts the same -/
noncomputable def eqB (a b : P) : Bool := @decide (a = b) (Classical.propDecidable _)
theorem eqB_ne {a b : P} (h : a ≠ b) : eqB a b = false := @decide_eq_false _ (Classical.propDecidable _) h
theorem eqB_eq {a b : P} (h : a = b) : eqB a b = true := @decide_eq_true _ (Classical.propDecidable _) h
theorem eqB_iff {a b : P} : eqB a b = true ↔ a = b := ⟨fun h => @of_decide_eq_true _ (Classical.propDecidable _) h, eqB_eq⟩
theorem eqB_of {a b : P} {c : Bool} (h : a = b ↔ c = true) : eqB a b = c := by
  cases c with
  | true => exact eqB_eq (h.mpr rfl)
  | false => exact eqB_ne fun z => Bool.noConfusion (h.mp z)
theorem eqB_bl {x y : Bool} : eqB (.bl x) (.bl y) = decide (x = y) := eqB_of ⟨fun e => decide_eq_true (P.bl.inj e), fun e => congrArg P.bl (of_decide_eq_true e)⟩
theorem eqB_int {x y : Int} : eqB (.int x) (.int y) = decide (x = y) := eqB_of ⟨fun e => decide_eq_true (P.int.inj e), fun e => congrArg P.int (of_decide_eq_true e)⟩
theorem eqB_str {x y : Str} : eqB (.str x) (.str y) = decide (x = y) := eqB_of ⟨fun e => decide_eq_true (P.str.inj e), fun e => congrArg P.str (of_decide_eq_true e)⟩
end
end Law

namespace Law
open PySem PySem.Spec PyProof.Rows L2 Kb TL
-- the steps that are tried: k_clsL a side condition; k_subL one step; k_places steps as long as one fits
section
variable {Pg : Program} {w : World} {K : PySem.W.Frag} {Θ : Tbs} {mg : Str → Option Value} {base : Heap}
/-- texts that are drawn -/
structure TextOk (s : Str) (m : Nat) : Prop where
  len : s.length ≤ m
  ok : ∀ c ∈ s.cps.toList, CharOk c
theorem stO_low {n : Nat} {ns : List Int} {a b c : Int} : lowO n (stO ns a b c) := fun x hx => by
  simp only [List.mem_cons, List.mem_nil_iff, or_false] at hx
  rcases hx with rfl | rfl | rfl | rfl <;> trivial
/-- a draw, the heap told from its beginning -/
theorem next_i {n : Nat} {ns : List Int} {a b c limit : Int} {h0 : Hs} {R : D → Hs → Prop} (hl : n < h0.length) (ok : OkSt ns a b c) (p0 : 0 < limit) (p1 : limit.natAbs.log2 < 9000)
    (q : ∀ v a' b' c' : Int, OkSt ns a' b' c' → 0 ≤ v → v < limit → R (dI v) (h0.set n (some (stO ns a' b' c')))) : W_next [.own n, dI limit] (h0.set n (some (stO ns a b c))) R :=
  ⟨n, ns, a, b, c, limit, rfl, List.getElem?_set_self hl, ok, p0, p1, fun v a' b' c' ok' v0 v1 => by rw [List.set_set]; exact q v a' b' c' ok' v0 v1⟩
end
end Law

namespace Law
open PySem PySem.Spec PyProof.Rows L2 Kb
-- the steps that are tried: k_clsL a side condition; k_subL one step; k_places steps as long as one fits
section
variable {Pg : Program} {w : World} {K : PySem.W.Frag} {Θ : Tbs} {mg : Str → Option Value} {base : Heap}
/-- plain data, no tuple of a program's top among them -/
def plainU : P → Bool
  | .non => true
  | .bl _ => true
  | .int _ => true
  | .str _ => true
  | .tup xs => plainUs xs
  | .lst xs => plainUs xs
  | _ => false
where plainUs : List P → Bool
  | [] => true
  | x :: xs => plainU x && plainUs xs
theorem plainUs_mem : ∀ {xs : List P}, plainU.plainUs xs = true → ∀ x ∈ xs, plainU x = true
  | [], _, x, hx => by simp at hx
  | y :: ys, h, x, hx => by
    unfold plainU.plainUs at h
    rw [Bool.and_eq_true] at h
    rcases List.mem_cons.mp hx with rfl | hx
    · exact h.1
    · exact plainUs_mem h.2 x hx
theorem plainUs_of : ∀ {xs : List P}, (∀ x ∈ xs, plainU x = true) → plainU.plainUs xs = true
  | [], _ => rfl
  | x :: xs, h => by
    unfold plainU.plainUs
    rw [h x List.mem_cons_self, plainUs_of fun y hy => h y (List.mem_cons_of_mem _ hy)]
    rfl
abbrev st_same : Stmt := (topS 7)
theorem sc_same : FnScope ["actual", "expected", "k"] ["actual", "expected"] (defScope st_same) := ⟨rfl, rfl, rfl, by decide +kernel, rfl, by decide +kernel, by decide +kernel⟩
def W_same : Nat → Spc
  | 0 => fun _ _ _ => False
  | n + 1 => fun ds h R => ∃ a b : P, ds = [.p a, .p b] ∧ plainU a = true ∧ okP n b = true ∧ R (dB (eqB a b)) h
theorem ok_same (A : DefAt K mg "_law_same" st_same ["actual", "expected"]) (m_int : mg "int" = none) (m_bool : mg "bool" = none) (m_str : mg "str" = none) (m_list : mg "list" = none) (m_tuple : mg "tuple" = none) (m_len : mg "len" = none) (m_range : mg "range" = none) (m_isinstance : mg "isinstance" = none) :
    ∀ n : Nat, HasF Pg w K mg base CX0 (n + 1) "_law_same" ["actual", "expected"] (spD K Θ (W_same n))
  | 0 => .never A sc_same fun _ _ _ h => h
  | n + 1 => by
    have sc := sc_same
    have h__law_same := ok_same A m_int m_bool m_str m_list m_tuple m_len m_range m_isinstance n
    refine A.okD sc (W_same (n + 1)) (fun ds h R ⟨a, b, e, _⟩ => by rw [e]; rfl) fun f cdv A outer s H E hr => ?_
    refine ⟨_, (pss_cons (ps_if (pt_cmpR op_isU (pv 1) pe_non (nomark _)) (pss_one (ps_ret (pe_cmpR op_isU (pv 0) pe_non (nomark _)))) pss_nil)
  (pss_cons (ps_if (pt_val (pe_callB (call_isiUK (K := K) (by rfl)) (by rfl) m_isinstance (by decide +kernel) (pa_cons (pv 1) (pa_cons (pe_bltn (v := .ty "bool") rfl m_bool (by decide +kernel) rfl) pa_nil)))) (pss_one (ps_ret (pe_and (pe_callB (call_isiUK (K := K) (by rfl)) (by rfl) m_isinstance (by decide +kernel) (pa_cons (pv 0) (pa_cons (pe_bltn (v := .ty "bool") rfl m_bool (by decide +kernel) rfl) pa_nil))) (pe_one (pe_cmpR (op_eqUK (K := K) (by rfl) hr.units) (pv 0) (pv 1) (nomark _)))))) pss_nil)
  (pss_cons (ps_if (pt_val (pe_callB (call_isiUK (K := K) (by rfl)) (by rfl) m_isinstance (by decide +kernel) (pa_cons (pv 1) (pa_cons (pe_bltn (v := .ty "int") rfl m_int (by decide +kernel) rfl) pa_nil)))) (pss_one (ps_ret (pe_and (pe_callB (call_isiUK (K := K) (by rfl)) (by rfl) m_isinstance (by decide +kernel) (pa_cons (pv 0) (pa_cons (pe_bltn (v := .ty "int") rfl m_int (by decide +kernel) rfl) pa_nil))) (pe_and (pe_not (pe_callB (call_isiUK (K := K) (by rfl)) (by rfl) m_isinstance (by decide +kernel) (pa_cons (pv 0) (pa_cons (pe_bltn (v := .ty "bool") rfl m_bool (by decide +kernel) rfl) pa_nil)))) (pe_one (pe_cmpR (op_eqUK (K := K) (by rfl) hr.units) (pv 0) (pv 1) (nomark _))))))) pss_nil)
  (pss_cons (ps_if (pt_val (pe_callB (call_isiUK (K := K) (by rfl)) (by rfl) m_isinstance (by decide +kernel) (pa_cons (pv 1) (pa_cons (pe_bltn (v := .ty "str") rfl m_str (by decide +kernel) rfl) pa_nil)))) (pss_one (ps_ret (pe_and (pe_callB (call_isiUK (K := K) (by rfl)) (by rfl) m_isinstance (by decide +kernel) (pa_cons (pv 0) (pa_cons (pe_bltn (v := .ty "str") rfl m_str (by decide +kernel) rfl) pa_nil))) (pe_one (pe_cmpR (op_eqUK (K := K) (by rfl) hr.units) (pv 0) (pv 1) (nomark _)))))) pss_nil)
  (pss_cons (ps_if (PW.pt (pw_and (pt_val (pe_callB (call_isiUK (K := K) (by rfl)) (by rfl) m_isinstance (by decide +kernel) (pa_cons (pv 1) (pa_cons (pe_bltn (v := .ty "tuple") rfl m_tuple (by decide +kernel) rfl) pa_nil)))) (pw_and1 (pt_not (pt_val (pe_callB (call_isiUK (K := K) (by rfl)) (by rfl) m_isinstance (by decide +kernel) (pa_cons (pv 0) (pa_cons (pe_bltn (v := .ty "tuple") rfl m_tuple (by decide +kernel) rfl) pa_nil)))))))) (pss_one (ps_ret pe_bl)) pss_nil)
  (pss_cons (ps_if (PW.pt (pw_and (pt_val (pe_callB (call_isiUK (K := K) (by rfl)) (by rfl) m_isinstance (by decide +kernel) (pa_cons (pv 1) (pa_cons (pe_bltn (v := .ty "list") rfl m_list (by decide +kernel) rfl) pa_nil)))) (pw_and1 (pt_not (pt_val (pe_callB (call_isiUK (K := K) (by rfl)) (by rfl) m_isinstance (by decide +kernel) (pa_cons (pv 0) (pa_cons (pe_bltn (v := .ty "list") rfl m_list (by decide +kernel) rfl) pa_nil)))))))) (pss_one (ps_ret pe_bl)) pss_nil)
  (pss_cons (ps_if (pt_cmpR (op_neUK (K := K) (by rfl) hr.units) (pe_callB (call_lenK (K := K) (by rfl)) (by rfl) m_len (by decide +kernel) (pa_cons (pv 0) pa_nil)) (pe_callB (call_lenK (K := K) (by rfl)) (by rfl) m_len (by decide +kernel) (pa_cons (pv 1) pa_nil)) (nomark _)) (pss_one (ps_ret pe_bl)) pss_nil)
  (pss_cons (ps_for PassesOwn.never rfl (pi_range1 rfl m_range (pa_cons (pe_callB (call_lenK (K := K) (by rfl)) (by rfl) m_len (by decide +kernel) (pa_cons (pv 1) pa_nil)) pa_nil)) (pg_name (i := 2) sc.nd rfl (.inl rfl))
  (pss_one (ps_if (pt_not (pt_val (h__law_same.call (hr.mono (by first | decide | omega)) rfl pass0 (pa_cons (pe_ix (ix_seqK (K := K) (by rfl)) (pv 0) (pv 2) (fun _ _ => rfl)) (pa_cons (pe_ix (ix_seqK (K := K) (by rfl)) (pv 1) (pv 2) (fun _ _ => rfl)) pa_nil))))) (pss_one (ps_ret pe_bl)) pss_nil)))
  (pss_one (ps_ret pe_bl)))))))))), ?_⟩
    try dsimp only [cxOf]
    rintro ds h R ⟨a, b, rfl, ha, hb, q⟩
    refine vs_fin ?_
    cases b with
    | ty _ => simp [okP] at hb
    | cls _ => simp [okP] at hb
    | ktp _ => simp [okP] at hb
    | ins _ _ => simp [okP] at hb
    | non =>
      cases a with
      | non => k_places; exact fin_p0 (by rw [eqB_eq rfl] at q; exact q)
      | ty _ => cases ha
      | cls _ => cases ha
      | ktp _ => cases ha
      | ins _ _ => cases ha
      | _ => k_places; exact fin_p0 (by rw [eqB_ne (by intro z; cases z)] at q; exact q)
    | bl y =>
      cases a with
      | bl x => k_places; exact fin_p0 (by rw [eqB_bl] at q; exact q)
      | ty _ => cases ha
      | cls _ => cases ha
      | ktp _ => cases ha
      | ins _ _ => cases ha
      | _ => k_places; exact fin_p0 (by rw [eqB_ne (by intro z; cases z)] at q; exact q)
    | int y =>
      cases a with
      | int x => k_places; exact fin_p0 (by rw [eqB_int] at q; exact q)
      | ty _ => cases ha
      | cls _ => cases ha
      | ktp _ => cases ha
      | ins _ _ => cases ha
      | _ => k_places; exact fin_p0 (by rw [eqB_ne (by intro z; cases z)] at q; exact q)
    | str y =>
      cases a with
      | str x => k_places; exact fin_p0 (by rw [eqB_str] at q; exact q)
      | ty _ => cases ha
      | cls _ => cases ha
      | ktp _ => cases ha
      | ins _ _ => cases ha
      | _ => k_places; exact fin_p0 (by rw [eqB_ne (by intro z; cases z)] at q; exact q)
    | tup ys =>
      cases a with
      | ty _ => cases ha
      | cls _ => cases ha
      | ktp _ => cases ha
      | ins _ _ => cases ha
      | tup xs =>
        obtain ⟨m, rfl, hl, hy⟩ := okP_tup hb
        have hx := plainUs_mem (xs := xs) (by unfold plainU at ha; exact ha)
        k_places
        refine ite_ndec (fun hne => ?_) (fun heq => ?_)
        · k_places
          exact fin_p0 (by rw [eqB_ne (fun z => hne (by cases z; rfl))] at q; exact q)
        k_places
        refine vs_for (vi_range1 ?_)
        k_places
        refine ⟨_, rfl, by omega, by omega, ?_⟩
        refine ⟨fun i env h' => (∃ o, env = [some (dT xs), some (dT ys), o]) ∧ h' = h ∧ ∀ j, j < i → xs[j]? = ys[j]?, ?_, ?_, ?_, ?_⟩
        · exact ⟨⟨none, rfl⟩, rfl, fun j hj => absurd hj (Nat.not_lt_zero _)⟩
        · exact fun _ _ _ _ => trivial
        · rintro i d env h' hd ⟨⟨o, rfl⟩, rfl, hpre⟩
          obtain ⟨hi, rfl⟩ := rng_get hd
          have hiy : i < ys.length := by omega
          have hix : i < xs.length := by omega
          k_places
          refine v2_ixT (at_nat i (by omega) (List.getElem?_eq_getElem hix)) ?_
          k_places
          refine v2_ixT (at_nat i (by omega) (List.getElem?_eq_getElem hiy)) ?_
          k_places
          refine ⟨_, _, rfl, hx _ (List.getElem_mem hix), hy _ (List.getElem_mem hiy), ?_⟩
          k_places
          refine ite_nb (fun e => ?_) (fun e => ?_)
          · k_places
            refine fin_p0 ?_
            rw [eqB_ne (fun z => ?_)] at q
            · exact q
            · cases z
              rw [eqB_eq rfl] at e
              cases e
          · k_places
            refine ⟨⟨_, rfl⟩, rfl, fun j hj => ?_⟩
            rcases Nat.lt_succ_iff_lt_or_eq.mp hj with hj | rfl
            · exact hpre j hj
            · rw [List.getElem?_eq_getElem hix, List.getElem?_eq_getElem hiy, eqB_iff.mp e]
        · rintro env h' ⟨⟨o, rfl⟩, rfl, hpre⟩
          rw [rng_len] at hpre
          k_places
          refine fin_p0 ?_
          have e : xs = ys := by
            refine List.ext_getElem? fun j => ?_
            by_cases hj : j < ys.length
            · exact hpre j (by omega)
            · rw [List.getElem?_eq_none_iff.mpr (by omega), List.getElem?_eq_none_iff.mpr (by omega)]
          rw [eqB_eq (congrArg P.tup e)] at q
          exact q
      | _ => k_places; exact fin_p0 (by rw [eqB_ne (by intro z; cases z)] at q; exact q)
    | lst ys =>
      cases a with
      | ty _ => cases ha
      | cls _ => cases ha
      | ktp _ => cases ha
      | ins _ _ => cases ha
      | lst xs =>
        obtain ⟨m, rfl, hl, hy⟩ := okP_lst hb
        have hx := plainUs_mem (xs := xs) (by unfold plainU at ha; exact ha)
        k_places
        refine ite_ndec (fun hne => ?_) (fun heq => ?_)
        · k_places
          exact fin_p0 (by rw [eqB_ne (fun z => hne (by cases z; rfl))] at q; exact q)
        k_places
        refine vs_for (vi_range1 ?_)
        k_places
        refine ⟨_, rfl, by omega, by omega, ?_⟩
        refine ⟨fun i env h' => (∃ o, env = [some (dL xs), some (dL ys), o]) ∧ h' = h ∧ ∀ j, j < i → xs[j]? = ys[j]?, ?_, ?_, ?_, ?_⟩
        · exact ⟨⟨none, rfl⟩, rfl, fun j hj => absurd hj (Nat.not_lt_zero _)⟩
        · exact fun _ _ _ _ => trivial
        · rintro i d env h' hd ⟨⟨o, rfl⟩, rfl, hpre⟩
          obtain ⟨hi, rfl⟩ := rng_get hd
          have hiy : i < ys.length := by omega
          have hix : i < xs.length := by omega
          k_places
          refine v2_ixL (at_nat i (by omega) (List.getElem?_eq_getElem hix)) ?_
          k_places
          refine v2_ixL (at_nat i (by omega) (List.getElem?_eq_getElem hiy)) ?_
          k_places
          refine ⟨_, _, rfl, hx _ (List.getElem_mem hix), hy _ (List.getElem_mem hiy), ?_⟩
          k_places
          refine ite_nb (fun e => ?_) (fun e => ?_)
          · k_places
            refine fin_p0 ?_
            rw [eqB_ne (fun z => ?_)] at q
            · exact q
            · cases z
              rw [eqB_eq rfl] at e
              cases e
          · k_places
            refine ⟨⟨_, rfl⟩, rfl, fun j hj => ?_⟩
            rcases Nat.lt_succ_iff_lt_or_eq.mp hj with hj | rfl
            · exact hpre j hj
            · rw [List.getElem?_eq_getElem hix, List.getElem?_eq_getElem hiy, eqB_iff.mp e]
        · rintro env h' ⟨⟨o, rfl⟩, rfl, hpre⟩
          rw [rng_len] at hpre
          k_places
          refine fin_p0 ?_
          have e : xs = ys := by
            refine List.ext_getElem? fun j => ?_
            by_cases hj : j < ys.length
            · exact hpre j (by omega)
            · rw [List.getElem?_eq_none_iff.mpr (by omega), List.getElem?_eq_none_iff.mpr (by omega)]
          rw [eqB_eq (congrArg P.lst e)] at q
          exact q
      | _ => k_places; exact fin_p0 (by rw [eqB_ne (by intro z; cases z)] at q; exact q)
end
end Law

namespace Law
open PySem PySem.Spec PyProof.Rows L2 Kb
-- the steps that are tried: k_clsL a side condition; k_subL one step; k_places steps as long as one fits
section
variable {Pg : Program} {w : World} {K : PySem.W.Frag} {Θ : Tbs} {mg : Str → Option Value} {base : Heap}
end
end Law

namespace Law
open PySem PySem.Spec PyProof.Rows L2 Kb
-- the steps that are tried: k_clsL a side condition; k_subL one step; k_places steps as long as one fits
def W_law : Spc := fun ds h R => ∃ ns : List Int, ds = [dL (ns.map P.int)] ∧ h = [] ∧ ns.length ≤ 63 ∧ ∀ h', R (dB true) h'
abbrev h0 : Hs := [none]
abbrev hst (ns : List Int) (a b c : Int) : Hs := List.set h0 0 (some (stO ns a b c))
theorem ok_start {ns : List Int} (hl : ns.length ≤ 63) : OkSt ns 0 0 1 := ⟨hl, by decide, by omega, by decide, by decide, by decide⟩
theorem e40 : (10 : Int) ^ (40 : Int).toNat = 10000000000000000000000000000000000000000 := by decide +kernel
end Law

namespace Law
open PySem PySem.Spec PyProof.Rows L2 Kb
-- the steps that are tried: k_clsL a side condition; k_subL one step; k_places steps as long as one fits
section
variable {K : PySem.W.Frag} {Θ : Tbs}
/-- the turns of a comprehension each of which draws a value: e(i, acc, what follows) -/
theorem draws_of {S : P → Prop} {te : TE} {kk n m : Nat} {env : Env'} {h0 : Hs} {Z : List P → Hs → Prop} {ns : List Int} {a b c : Int} (hl : n < h0.length) (ok : OkSt ns a b c) (hm : m < sizeLine)
    (turn : ∀ (i : Nat) (acc : List P) (a b c : Int) (T : D → Hs → Prop), OkSt ns a b c → (∀ (p : P) (a b c : Int), OkSt ns a b c → S p → T (.p p) (h0.set n (some (stO ns a b c)) ++ [accO acc])) →
      VE K Θ te ((env.set kk none).set kk (some (dI (0 + (i : Int))))) (h0.set n (some (stO ns a b c)) ++ [accO acc]) T)
    (q : ∀ (acc : List P) (a b c : Int), acc.length = m → (∀ p ∈ acc, S p) → OkSt ns a b c → Z acc (h0.set n (some (stO ns a b c)))) :
    ∃ Inv : Nat → List P → Hs → Prop, (rng 0 m).length < sizeLine ∧ Inv 0 [] (h0.set n (some (stO ns a b c))) ∧
      (∀ i acc h', Inv i acc h' → h'.length = (h0.set n (some (stO ns a b c))).length ∧ lowH (h0.set n (some (stO ns a b c))) h' ∧ (fun _ => True) (h' ++ [accO acc])) ∧
      (∀ i d acc h', (rng 0 m)[i]? = some d → Inv i acc h' → VG K Θ (gName kk) d (wipeD env [kk]) (h' ++ [accO acc]) fun env' h2 => VT K Θ tYes env' h2 fun b h3 => if b = true then VE K Θ te env' h3 (fun y h4 => ∃ p h5, y = .p p ∧ h4 = h5 ++ [accO acc] ∧ Inv (i + 1) (acc ++ [p]) h5) else ∃ h5, h3 = h5 ++ [accO acc] ∧ Inv (i + 1) acc h5) ∧
      (∀ acc h', Inv (rng 0 m).length acc h' → Z acc h') := by
  refine ⟨fun i acc h' => ∃ a b c : Int, acc.length = i ∧ (∀ p ∈ acc, S p) ∧ h' = h0.set n (some (stO ns a b c)) ∧ OkSt ns a b c, by rw [rng_len]; exact hm, ⟨a, b, c, rfl, fun _ z => by simp at z, rfl, ok⟩, ?_, ?_, ?_⟩
  · rintro i acc h' ⟨a2, b2, c2, hi, hs, rfl, ok2⟩
    refine ⟨by simp, ?_, trivial⟩
    have z := (lowH.refl (h0.set n (some (stO ns a b c)))).set (n := n) (o := stO ns a2 b2 c2) stO_low
    rw [List.set_set] at z
    exact z
  · rintro i d acc h' hd ⟨a2, b2, c2, hi, hs, rfl, ok2⟩
    obtain ⟨_, rfl⟩ := rng_get hd
    refine vg_name (vt_yes (ite_t ?_))
    refine turn i acc a2 b2 c2 _ ok2 fun p a3 b3 c3 ok3 hp => ⟨p, _, rfl, rfl, a3, b3, c3, by simp [hi], fun x hx => ?_, rfl, ok3⟩
    rcases List.mem_append.mp hx with hx | hx
    · exact hs x hx
    · rw [List.mem_singleton.mp hx]; exact hp
  · rintro acc h' ⟨a2, b2, c2, hi, hs, rfl, ok2⟩
    rw [rng_len] at hi
    exact q acc a2 b2 c2 hi hs ok2
theorem app_assoc' {h0 : Hs} {n : Nat} {x y : Option OO} (hl : n < h0.length) : h0.set n x ++ [y] = (h0 ++ [y]).set n x := (List.set_append_left _ _ hl).symm
end
/-- the last item -/
theorem at_last {α : Type} {xs : List α} (h : 0 < xs.length) : atI xs (-1) = some (xs[xs.length - 1]'(by omega)) := by
  have e : ixN xs.length (-1) = some (xs.length - 1) := by
    unfold ixN
    rw [if_neg (by omega)]
    rw [if_pos (by omega)]
    congr 1
    omega
  unfold atI
  rw [e]
  exact List.getElem?_eq_getElem _
end Law

namespace Law
open PySem PySem.Spec PyProof.Rows L2 Kb
-- the steps that are tried: k_clsL a side condition; k_subL one step; k_places steps as long as one fits
section
variable {Pg : Program} {w : World} {K : PySem.W.Frag} {Θ : Tbs} {mg : Str → Option Value} {base : Heap}
/-- rows and their numbers, as a dict holds them -/
def msD (ms : List (P × Int)) : List (P × D) := (ms.map fun z => (z.1, P.int z.2)).map fun z => (z.1, D.p z.2)
structure CntOk (ms : List (P × Int)) : Prop where
  ok : ∀ z ∈ ms, ∃ k, KeyN z.1 k
  nd : (ms.map fun z => nkP z.1).Nodup
theorem msD_len (ms : List (P × Int)) : (msD ms).length = ms.length := by unfold msD; rw [List.length_map, List.length_map]
theorem msD_app (xs ys : List (P × Int)) : msD (xs ++ ys) = msD xs ++ msD ys := by unfold msD; rw [List.map_append, List.map_append]
theorem vN_none {ms : List (P × Int)} {k : NestedKey} (h : ∀ z ∈ ms, nkP z.1 ≠ some k) : vN (msD ms) k = none := by
  unfold vN msD
  rw [Option.map_eq_none_iff, List.find?_eq_none]
  intro q hq
  rw [List.map_map, List.mem_map] at hq
  obtain ⟨z, hz, rfl⟩ := hq
  simpa using h z hz
theorem pN_new {ms : List (P × Int)} {p : P} {k : NestedKey} {m : Int} (h : ∀ z ∈ ms, nkP z.1 ≠ some k) : pN (msD ms) p k (dI m) = msD (ms ++ [(p, m)]) := by
  unfold pN
  rw [vN_none h, if_neg (by simp), msD_app]
  rfl
abbrev st_wz : Stmt := (topS 4)
theorem sc_wz : FnScope ["counts", "row", "many"] ["counts"] (defScope st_wz) := ⟨rfl, rfl, rfl, by decide +kernel, rfl, by decide +kernel, by decide +kernel⟩
def nz (ms : List (P × Int)) : List (P × Int) := ms.filter fun z => z.2 != 0
def W_wz (pw : Program × World) : Spc := fun ds h R => ∃ (n : Nat) (ms : List (P × Int)), ds = [.own n] ∧ h[n]? = some (some (.dN pw (msD ms))) ∧ CntOk ms ∧ ms.length < sizeLine ∧ R (.own h.length) (h ++ [some (.dN pw (msD (nz ms)))])
theorem ok_wz (A : DefAt K mg "_without_zeros" st_wz ["counts"]) : HasF Pg w K mg base CX0 1 "_without_zeros" ["counts"] (spD K Θ (W_wz (Pg, w))) := by
  have sc := sc_wz
  refine A.okD sc (W_wz (Pg, w)) (fun ds h R ⟨_, _, e, _⟩ => by rw [e]; rfl) fun f cdv A outer s H E hr => ?_
  refine ⟨_, (pss_one (ps_ret (pe_lock (pe_dcN (own := [("row", 1), ("many", 2)]) (nu_of hr) rfl sc.nd (pi_itemsN (pw := (Pg, w)) (pv 0)) (blkOk_by (N := ["counts", "row", "many"]) (sc := defScope (topS 4)) (by decide +kernel)) (fun _ _ _ _ _ => (pg_tupK (K := K) (n := 2) (by rfl) rfl (pgs_cons (pg_name (i := 1) sc.nd rfl (.inl rfl)) (pgs_cons (pg_name (i := 2) sc.nd rfl (.inl rfl)) pgs_nil)))) (fun _ _ _ _ _ => (pts_one (pt_cmpR (op_neUK (K := K) (by rfl) hr.units) (pv 2) pe_int (nomark _)))) (fun _ _ _ _ _ => (pv 1)) (fun _ _ _ _ _ => (pv 2)))))), ?_⟩
  try dsimp only [cxOf]
  rintro ds h R ⟨n, ms, rfl, hn, c, hl, q⟩
  k_places
  refine ve_lockN hn fun od gs => ?_
  have hn2 : (h.set n (some (.dL (Pg, w) od gs (msD ms))))[n]? = some (some (.dL (Pg, w) od gs (msD ms))) := List.getElem?_set_self (List.getElem?_eq_some_iff.mp hn).1
  generalize eh : h.set n (some (.dL (Pg, w) od gs (msD ms))) = h1 at hn2
  refine ve_dcN tg_tup2 ?_
  refine vi_itemsN ?_
  k_places
  refine ⟨n, od, gs, ms.map fun (z : P × Int) => ((z.1, P.int z.2) : P × P), rfl, hn2, ?_⟩
  refine ⟨fun i kvs h' => kvs = msD (nz (ms.take i)) ∧ h' = h1 ++ [some (.dN (Pg, w) kvs)], ?_, ⟨rfl, rfl⟩, ?_, ?_, ?_⟩
  · rw [List.length_map, List.length_map]; exact hl
  · rintro i kvs h' ⟨rfl, rfl⟩
    refine ⟨List.getElem?_concat_length, ?_, ?_⟩
    · show (h1 ++ _)[n]? = _
      rw [List.getElem?_append_left (List.getElem?_eq_some_iff.mp hn2).1]; exact hn2
    · rw [msD_len]
      refine Nat.le_trans (List.length_filter_le _ _) ?_
      rw [List.length_take]; omega
  · rintro i d kvs h' hd ⟨rfl, rfl⟩
    rw [List.getElem?_map, List.getElem?_map] at hd
    cases ex : ms[i]? with
    | none => rw [ex] at hd; cases hd
    | some z =>
      rw [ex] at hd
      cases hd
      have hi : i < ms.length := (List.getElem?_eq_some_iff.mp ex).1
      have et : nz (ms.take (i + 1)) = nz (ms.take i) ++ if (z.2 != 0) = true then [z] else [] := by
        unfold nz
        rw [List.take_add_one, ex, List.filter_append]
        congr 1
        simp only [Option.toList, List.filter_cons, List.filter_nil]
      refine vg_tup (ds := [z.1, .int z.2]) rfl (vgs_cons (vg_name (vgs_cons (vg_name (vgs_nil ?_)))))
      k_places
      obtain ⟨kk, hk⟩ := c.ok z (List.mem_of_getElem? ex)
      have fresh : ∀ y ∈ nz (ms.take i), nkP y.1 ≠ some kk := fun y hy e => by
        obtain ⟨j, hj⟩ := List.mem_iff_getElem?.mp (List.mem_filter.mp hy).1
        rw [List.getElem?_take] at hj
        split at hj
        · rename_i lt
          have e1 : (ms.map fun z => nkP z.1)[j]? = some (some kk) := by rw [List.getElem?_map, hj]; exact congrArg some e
          have e2 : (ms.map fun z => nkP z.1)[i]? = some (some kk) := by rw [List.getElem?_map, ex]; exact congrArg some hk.e
          have := (List.getElem?_inj (i := j) (j := i) (by rw [List.length_map]; omega) c.nd).mp (e1.trans e2.symm)
          omega
        · cases hj
      refine ite_ndec (fun ne => ?_) (fun eq => ?_)
      · k_places
        refine ⟨z.1, kk, rfl, hk, List.getElem?_concat_length, ?_, ?_⟩
        · rw [et, pN_new fresh, if_pos (by simpa using ne)]
        · rw [List.set_append_right _ _ (Nat.le_refl _), Nat.sub_self]; rfl
      · refine ⟨?_, rfl⟩
        rw [et, if_neg (by simpa using eq), List.append_nil]
  · rintro kvs h' ⟨rfl, rfl⟩
    rw [List.length_map, List.length_map, List.take_length]
    refine ⟨?_, ?_⟩
    · rw [List.getElem?_append_left (List.getElem?_eq_some_iff.mp hn2).1]; exact hn2
    · subst eh
      rw [List.set_append_left _ _ (List.getElem?_eq_some_iff.mp hn2).1, List.set_set, set_same hn, List.length_set]
      exact q
end
end Law

namespace Law
open PySem PySem.Spec PyProof.Rows L2 Kb
-- the steps that are tried: k_clsL a side condition; k_subL one step; k_places steps as long as one fits
section
variable {Pg : Program} {w : World} {K : PySem.W.Frag} {Θ : Tbs} {mg : Str → Option Value} {base : Heap}
/-! ### numbers of rows -/
def getC (ms : List (P × Int)) (p : P) : Option Int := (ms.find? fun q => decide (nkP q.1 = nkP p)).map (·.2)
def putC (ms : List (P × Int)) (p : P) (v : Int) : List (P × Int) := if (getC ms p).isSome = true then ms.map (fun q => if nkP q.1 = nkP p then (q.1, v) else q) else ms ++ [(p, v)]
theorem vN_msD {p : P} {k : NestedKey} (hk : KeyN p k) : ∀ ms : List (P × Int), vN (msD ms) k = (getC ms p).map dI
  | [] => rfl
  | z :: ms => by
    have ih := vN_msD hk ms
    have e : msD (z :: ms) = (z.1, dI z.2) :: msD ms := rfl
    unfold vN getC at *
    rw [e, List.find?_cons, List.find?_cons, hk.e]
    by_cases h : nkP z.1 = some k
    · simp [h]
    · simp only [h, decide_false]
      rw [hk.e] at ih
      exact ih
theorem pN_msD {p : P} {k : NestedKey} (hk : KeyN p k) (ms : List (P × Int)) (v : Int) : pN (msD ms) p k (dI v) = msD (putC ms p v) := by
  unfold pN putC
  rw [vN_msD hk, Option.isSome_map]
  split
  · unfold msD
    rw [List.map_map, List.map_map, List.map_map, List.map_map]
    refine List.map_congr_left fun z _ => ?_
    simp only [Function.comp, hk.e]
    split <;> rfl
  · rw [msD_app]; rfl
theorem getD_msD {p : P} {k : NestedKey} (hk : KeyN p k) (ms : List (P × Int)) : (vN (msD ms) k).getD (dI 0) = dI ((getC ms p).getD 0) := by
  rw [vN_msD hk]
  cases getC ms p <;> rfl
theorem putC_len (ms : List (P × Int)) (p : P) (v : Int) : (putC ms p v).length ≤ ms.length + 1 := by
  unfold putC
  split
  · rw [List.length_map]; omega
  · rw [List.length_append]; simp
theorem putC_keys (ms : List (P × Int)) (p : P) (v : Int) : (putC ms p v).map (fun z => z.1) = ms.map (fun z => z.1) ++ if (getC ms p).isSome = true then [] else [p] := by
  unfold putC
  split
  · rw [List.map_map, List.append_nil]
    refine List.map_congr_left fun z _ => ?_
    simp only [Function.comp]
    split <;> rfl
  · rw [List.map_append]; rfl
theorem getC_none {ms : List (P × Int)} {p : P} (h : ¬ (getC ms p).isSome = true) : ∀ z ∈ ms, nkP z.1 ≠ nkP p := fun z hz e => by
  refine h ?_
  unfold getC
  rw [Option.isSome_map, List.find?_isSome]
  exact ⟨z, hz, decide_eq_true e⟩
theorem putC_ok {ms : List (P × Int)} {p : P} {k : NestedKey} (c : CntOk ms) (hk : KeyN p k) (v : Int) : CntOk (putC ms p v) := by
  have e := putC_keys ms p v
  have e2 : (putC ms p v).map (fun z => nkP z.1) = ms.map (fun z => nkP z.1) ++ if (getC ms p).isSome = true then [] else [nkP p] := by
    have z := congrArg (List.map nkP) e
    rw [List.map_map, List.map_append, List.map_map] at z
    refine z.trans ?_
    congr 1
    split <;> rfl
  refine ⟨fun z hz => ?_, ?_⟩
  · have m : z.1 ∈ (putC ms p v).map (fun z => z.1) := List.mem_map_of_mem hz
    rw [e] at m
    rcases List.mem_append.mp m with m | m
    · obtain ⟨y, hy, ey⟩ := List.mem_map.mp m
      rw [← ey]
      exact c.ok y hy
    · split at m
      · simp at m
      · rw [List.mem_singleton.mp m]; exact ⟨k, hk⟩
  · rw [e2]
    split
    · rw [List.append_nil]; exact c.nd
    · rename_i no
      rw [List.nodup_append]
      refine ⟨c.nd, by simp, fun a ha b hb => ?_⟩
      obtain ⟨y, hy, rfl⟩ := List.mem_map.mp ha
      rw [List.mem_singleton.mp hb]
      exact getC_none no y hy
/-- each row of rs counts d more -/
def bumps (ms : List (P × Int)) (rs : List P) (d : Int) : List (P × Int) := rs.foldl (fun ms r => putC ms r ((getC ms r).getD 0 + d)) ms
theorem bumps_snoc (ms : List (P × Int)) (rs : List P) (r : P) (d : Int) : bumps ms (rs ++ [r]) d = putC (bumps ms rs d) r ((getC (bumps ms rs d) r).getD 0 + d) := by
  unfold bumps
  rw [List.foldl_append]
  rfl
theorem bumps_len (d : Int) : ∀ (rs : List P) (ms : List (P × Int)), (bumps ms rs d).length ≤ ms.length + rs.length
  | [], ms => by show ms.length ≤ _; simp
  | r :: rs, ms => by
    have h1 := bumps_len d rs (putC ms r ((getC ms r).getD 0 + d))
    have h2 := putC_len ms r ((getC ms r).getD 0 + d)
    show (bumps (putC ms r ((getC ms r).getD 0 + d)) rs d).length ≤ _
    rw [List.length_cons]
    omega
theorem bumps_ok {d : Int} : ∀ {rs : List P} {ms : List (P × Int)}, CntOk ms → (∀ r ∈ rs, ∃ k, KeyN r k) → CntOk (bumps ms rs d)
  | [], ms, c, _ => c
  | r :: rs, ms, c, h => by
    obtain ⟨k, hk⟩ := h r List.mem_cons_self
    exact bumps_ok (rs := rs) (putC_ok c hk _) fun x hx => h x (List.mem_cons_of_mem _ hx)
def cnts (old new : List P) : List (P × Int) := bumps (bumps [] new 1) old (-1)
abbrev st_chg : Stmt := (topS 1)
theorem sc_chg : FnScope ["old", "new", "counts", "row"] ["old", "new"] (defScope st_chg) := ⟨rfl, rfl, rfl, by decide +kernel, rfl, by decide +kernel, by decide +kernel⟩
/-- a list of rows: frozen or own -/
def RowsAt (d : D) (h : Hs) (xs : List P) : Prop := (∃ n, d = .own n ∧ h[n]? = some (some (.lst (xs.map D.p)))) ∨ d = dL xs
def W_chg (pw : Program × World) : Spc := fun ds h R => ∃ (d1 d2 : D) (old new : List P), ds = [d1, d2] ∧ RowsAt d1 h old ∧ RowsAt d2 h new ∧ (∀ r ∈ old, ∃ k, KeyN r k) ∧ (∀ r ∈ new, ∃ k, KeyN r k) ∧ old.length ≤ 1000 ∧ new.length ≤ 1000 ∧
  R (.own (h.length + 1)) (h ++ [some (.dN pw (msD (cnts old new))), some (.dN pw (msD (nz (cnts old new))))])
theorem RowsAt.app {d : D} {h : Hs} {xs : List P} (r : RowsAt d h xs) (j : Hs) : RowsAt d (h ++ j) xs := by
  rcases r with ⟨n, e, hn⟩ | e
  · exact .inl ⟨n, e, by rw [List.getElem?_append_left (List.getElem?_eq_some_iff.mp hn).1]; exact hn⟩
  · exact .inr e
theorem ok_chg (A : DefAt K mg "change_of" st_chg ["old", "new"]) (h__without_zeros : HasF Pg w K mg base CX0 1 "_without_zeros" ["counts"] (spD K Θ (W_wz (Pg, w)))) : HasF Pg w K mg base CX0 2 "change_of" ["old", "new"] (spD K Θ (W_chg (Pg, w))) := by
  have sc := sc_chg
  refine A.okD sc (W_chg (Pg, w)) (fun ds h R ⟨_, _, _, _, e, _⟩ => by rw [e]; rfl) fun f cdv A outer s H E hr => ?_
  refine ⟨_, (pss_cons (ps_set (i := 2) sc.nd rfl (.inl rfl) pe_nnew)
  (pss_cons (ps_for PassesOwn.never rfl (pi_seqK (K := K) (by rfl) (pv 1)) (pg_name (i := 3) sc.nd rfl (.inl rfl))
  (pss_one (ps_nput (nu_of hr) (pv 2) (pv 3) (pe_op (op_addWK (K := K) (by rfl)) (pe_nget2 (nu_of hr) (pv 2) (pv 3) pe_int ⟨rfl, rfl, rfl, rfl⟩) pe_int) rfl)))
  (pss_cons (ps_for PassesOwn.never rfl (pi_seqK (K := K) (by rfl) (pv 0)) (pg_name (i := 3) sc.nd rfl (.inl rfl))
  (pss_one (ps_nput (nu_of hr) (pv 2) (pv 3) (pe_op op_sub (pe_nget2 (nu_of hr) (pv 2) (pv 3) pe_int ⟨rfl, rfl, rfl, rfl⟩) pe_int) rfl)))
  (pss_one (ps_ret (h__without_zeros.call (hr.mono (by first | decide | omega)) rfl pass0 (pa_cons (pv 2) pa_nil))))))), ?_⟩
  try dsimp only [cxOf]
  rintro ds h R ⟨d1, d2, old, new, rfl, r1, r2, k1, k2, l1, l2, q⟩
  have sz := sizeLine_eq
  k_subL
  k_places
  refine ve_nnew ?_
  k_places
  have at1 : ∀ B : List (P × Int), (h ++ [some (OO.dN (Pg, w) (msD B))])[h.length]? = some (some (.dN (Pg, w) (msD B))) := fun B => List.getElem?_concat_length
  have st1 : ∀ (B : List (P × Int)) (o : OO), (h ++ [some (OO.dN (Pg, w) (msD B))]).set h.length (some o) = h ++ [some o] := fun B o => by
    rw [List.set_append_right _ _ (Nat.le_refl _), Nat.sub_self]; rfl
  refine vs_for (vi_seqOL ?_)
  k_places
  refine ⟨new, r2.app _, ?_⟩
  refine ⟨fun i env h' => ∃ o : Option D, env = [some d1, some d2, some (.own h.length), o] ∧ h' = h ++ [some (.dN (Pg, w) (msD (bumps [] (new.take i) 1)))], ?_, ?_, ?_, ?_⟩
  · exact ⟨none, rfl, rfl⟩
  · rintro i env h' ⟨o, _, rfl⟩ n e
    rcases r2 with ⟨m, e2, hm⟩ | e2
    · rw [e2] at e; cases e
      rw [List.getElem?_append_left (List.getElem?_eq_some_iff.mp hm).1]; exact hm
    · rw [e2] at e; cases e
  · rintro i d env h' hd ⟨o, rfl, rfl⟩
    rw [List.getElem?_map] at hd
    cases ex : new[i]? with
    | none => rw [ex] at hd; cases hd
    | some r =>
      rw [ex] at hd
      cases hd
      obtain ⟨k, hk⟩ := k2 r (List.mem_of_getElem? ex)
      have hb := bumps_len (1) (new.take i) []
      rw [List.length_take] at hb
      k_places
      refine vs_nput ?_
      k_places
      refine ve_nget2 ?_
      k_places
      refine ⟨h.length, _, rfl, at1 _, ?_⟩
      k_places
      refine ⟨_, r, k, rfl, hk, at1 _, ?_⟩
      rw [getD_msD hk]
      k_places
      refine ⟨h.length, _, r, k, rfl, rfl, hk, at1 _, by rw [msD_len]; simp at hb; omega, ?_⟩
      refine ⟨_, rfl, ?_⟩
      rw [st1, pN_msD hk, List.take_add_one, ex]
      exact congrArg (fun z => h ++ [some (OO.dN (Pg, w) (msD z))]) (bumps_snoc [] _ r (1)).symm
  · rintro env h' ⟨o, rfl, rfl⟩
    rw [List.length_map, List.take_length]
    have hn := bumps_len 1 new []
    simp only [List.length_nil, Nat.zero_add] at hn
    have cn : CntOk (bumps [] new 1) := bumps_ok ⟨fun z hz => (by simp at hz), (by simp)⟩ k2
    unfold cnts at q
    generalize bumps [] new 1 = B0 at hn cn q
    k_places
    refine vs_for (vi_seqOL ?_)
    k_places
    refine ⟨old, r1.app _, ?_⟩
    refine ⟨fun i env h' => ∃ o : Option D, env = [some d1, some d2, some (.own h.length), o] ∧ h' = h ++ [some (.dN (Pg, w) (msD (bumps B0 (old.take i) (-1))))], ?_, ?_, ?_, ?_⟩
    · exact ⟨o, rfl, rfl⟩
    · rintro i env h' ⟨o, _, rfl⟩ n e
      rcases r1 with ⟨m, e2, hm⟩ | e2
      · rw [e2] at e; cases e
        rw [List.getElem?_append_left (List.getElem?_eq_some_iff.mp hm).1]; exact hm
      · rw [e2] at e; cases e
    · rintro i d env h' hd ⟨o, rfl, rfl⟩
      rw [List.getElem?_map] at hd
      cases ex : old[i]? with
      | none => rw [ex] at hd; cases hd
      | some r =>
        rw [ex] at hd
        cases hd
        obtain ⟨k, hk⟩ := k1 r (List.mem_of_getElem? ex)
        have hb := bumps_len (-1) (old.take i) B0
        rw [List.length_take] at hb
        k_places
        refine vs_nput ?_
        k_places
        refine ve_nget2 ?_
        k_places
        refine ⟨h.length, _, rfl, at1 _, ?_⟩
        k_places
        refine ⟨_, r, k, rfl, hk, at1 _, ?_⟩
        rw [getD_msD hk]
        k_places
        refine ⟨h.length, _, r, k, rfl, rfl, hk, at1 _, by rw [msD_len]; omega, ?_⟩
        refine ⟨_, rfl, ?_⟩
        rw [st1, pN_msD hk, List.take_add_one, ex]
        exact congrArg (fun z => h ++ [some (OO.dN (Pg, w) (msD z))]) (bumps_snoc B0 _ r (-1)).symm
    · rintro env h' ⟨o, rfl, rfl⟩
      rw [List.length_map, List.take_length]
      have hb := bumps_len (-1) old B0
      have co : CntOk (bumps B0 old (-1)) := bumps_ok cn k1
      k_places
      refine ⟨h.length, _, rfl, at1 _, co, by omega, ?_⟩
      rw [List.length_append, List.append_assoc]
      exact q
end
end Law

namespace Law
open PySem PySem.Spec PyProof.Rows L2 Kb
-- the steps that are tried: k_clsL a side condition; k_subL one step; k_places steps as long as one fits
section
variable {Pg : Program} {w : World} {K : PySem.W.Frag} {Θ : Tbs} {mg : Str → Option Value} {base : Heap}
/-- a condition on joined rows -/
def W_cond (S : P → Prop) (g : P → Bool) : Spc := fun ds h R => ∃ p, ds = [.p p] ∧ S p ∧ R (dB (g p)) h
/-- two rows behind each other -/
def catR : P → P → P
  | .tup xs, .tup ys => .tup (xs ++ ys)
  | x, _ => x
structure JoinOk (S : P → Prop) (x y : P) : Prop where
  t : ∃ xs ys, x = .tup xs ∧ y = .tup ys ∧ xs.length ≤ 1000 ∧ ys.length ≤ 1000
  k : ∃ k, KeyN (catR x y) k
  s : S (catR x y)
def addOne (g : P → Bool) (x : P × Int) (cs : List (P × Int)) (y : P × Int) : List (P × Int) := if g (catR x.1 y.1) = true then putC cs (catR x.1 y.1) ((getC cs (catR x.1 y.1)).getD 0 + x.2 * y.2) else cs
def addRow (g : P → Bool) (ss : List (P × Int)) (cs : List (P × Int)) (x : P × Int) : List (P × Int) := ss.foldl (addOne g x) cs
def addP (g : P → Bool) (cs fs ss : List (P × Int)) : List (P × Int) := fs.foldl (addRow g ss) cs
theorem addOne_len (g : P → Bool) (x : P × Int) (cs : List (P × Int)) (y : P × Int) : (addOne g x cs y).length ≤ cs.length + 1 := by
  unfold addOne
  split
  · exact putC_len _ _ _
  · omega
theorem addOnes_len (g : P → Bool) (x : P × Int) : ∀ (ss cs : List (P × Int)), (ss.foldl (addOne g x) cs).length ≤ cs.length + ss.length
  | [], cs => by simp
  | y :: ss, cs => by
    have h1 := addOnes_len g x ss (addOne g x cs y)
    have h2 := addOne_len g x cs y
    rw [List.foldl_cons, List.length_cons]
    omega
theorem addRows_len (g : P → Bool) (ss : List (P × Int)) : ∀ (fs cs : List (P × Int)), (fs.foldl (addRow g ss) cs).length ≤ cs.length + fs.length * ss.length
  | [], cs => by simp
  | x :: fs, cs => by
    have h1 := addRows_len g ss fs (addRow g ss cs x)
    have h2 : (addRow g ss cs x).length ≤ cs.length + ss.length := addOnes_len g x ss cs
    rw [List.foldl_cons, List.length_cons, Nat.add_mul, Nat.one_mul]
    omega
theorem getC_mem : ∀ {ms : List (P × Int)} {x : P × Int}, (ms.map fun z => nkP z.1).Nodup → x ∈ ms → getC ms x.1 = some x.2
  | [], x, _, h => by simp at h
  | z :: ms, x, nd, h => by
    rw [List.map_cons, List.nodup_cons] at nd
    unfold getC
    rw [List.find?_cons]
    rcases List.mem_cons.mp h with rfl | h
    · simp
    · have ne : ¬ nkP z.1 = nkP x.1 := fun e => nd.1 (by rw [e]; exact List.mem_map_of_mem (f := fun z : P × Int => nkP z.1) h)
      simp only [ne, decide_false]
      exact getC_mem nd.2 h
abbrev st_add : Stmt := (topS 3)
theorem sc_add : FnScope ["counts", "firsts", "seconds", "condition", "first", "second", "row"] ["counts", "firsts", "seconds", "condition"] (defScope st_add) := ⟨rfl, rfl, rfl, by decide +kernel, rfl, by decide +kernel, by decide +kernel⟩
def W_add {ι : Type} (pw : Program × World) (cf : ι → Addr) (cg : ι → P → Bool) (S : P → Prop) : Spc := fun ds h R => ∃ (n a b : Nat) (cs fs ss : List (P × Int)) (i : ι), ds = [.own n, .own a, .own b, .p (.cls (cf i))] ∧ n ≠ a ∧ n ≠ b ∧ a ≠ b ∧
  h[n]? = some (some (.dN pw (msD cs))) ∧ h[a]? = some (some (.dN pw (msD fs))) ∧ h[b]? = some (some (.dN pw (msD ss))) ∧ (∀ x ∈ fs, ∀ y ∈ ss, JoinOk S x.1 y.1) ∧ CntOk cs ∧ CntOk fs ∧ CntOk ss ∧ cs.length ≤ 1000000 ∧ fs.length ≤ 1000 ∧ ss.length ≤ 1000 ∧ (∀ x ∈ fs, x.2.natAbs ≤ 1000000) ∧ (∀ y ∈ ss, y.2.natAbs ≤ 1000000) ∧
  R dN (h.set n (some (.dN pw (msD (addP (cg i) cs fs ss)))))
theorem ok_add {ι : Type} {cf : ι → Addr} {cg : ι → P → Bool} {S : P → Prop} (A : DefAt K mg "_add_pairs" st_add ["counts", "firsts", "seconds", "condition"]) (hC : ∀ i, FnAt Pg w K mg base CX0 1 (cf i) [Str.ofString "row"] (spD K Θ (W_cond S (cg i)))) : HasF Pg w K mg base CX0 2 "_add_pairs" ["counts", "firsts", "seconds", "condition"] (spD K Θ (W_add (Pg, w) cf cg S)) := by
  have sc := sc_add
  refine A.okD sc (W_add (Pg, w) cf cg S) (fun ds h R ⟨_, _, _, _, _, _, _, e, _⟩ => by rw [e]; rfl) fun f cdv A outer s H E hr => ?_
  refine ⟨_, (pss_one (ps_lock (ps_for PassesOwn.never rfl (pi_keysN (pw := (Pg, w)) (pv 1)) (pg_name (i := 4) sc.nd rfl (.inl rfl))
  (pss_one (ps_lock (ps_for PassesOwn.never rfl (pi_keysN (pw := (Pg, w)) (pv 2)) (pg_name (i := 5) sc.nd rfl (.inl rfl))
  (pss_cons (ps_set (i := 6) sc.nd rfl (.inl rfl) (pe_op (op_addWK (K := K) (by rfl)) (pv 4) (pv 5)))
  (pss_one (ps_if (pt_val (pe_exE fun q => (hC q).callV (i := 3) (hr.mono (by first | decide | omega)) pass0 rfl (pa_cons (pv 6) pa_nil))) (pss_one (ps_nput (nu_of hr) (pv 0) (pv 6) (pe_op (op_addWK (K := K) (by rfl)) (pe_nget2 (nu_of hr) (pv 0) (pv 6) pe_int ⟨rfl, rfl, rfl, rfl⟩) (pe_op op_mulU (pe_nixA (nu_of hr) (pv 1) (pv 4) (fun _ _ => rfl)) (pe_nixA (nu_of hr) (pv 2) (pv 5) (fun _ _ => rfl)))) rfl)) pss_nil))))))))), ?_⟩
  try dsimp only [cxOf]
  rintro ds h R ⟨n, a, b, cs, fs, ss, i, rfl, na, nb, ab, hn, ha, hb, jo, oc, of, os, lc, lf, ls, mf, mS, q⟩
  have sz := sizeLine_eq
  refine vs_lockN ha fun od gs => ?_
  have ln : n < h.length := (List.getElem?_eq_some_iff.mp hn).1
  have la : a < h.length := (List.getElem?_eq_some_iff.mp ha).1
  have lb : b < h.length := (List.getElem?_eq_some_iff.mp hb).1
  generalize eA : h.set a (some (.dL (Pg, w) od gs (msD fs))) = hA
  have lA : hA.length = h.length := by rw [← eA, List.length_set]
  have nA : hA[n]? = some (some (.dN (Pg, w) (msD cs))) := by rw [← eA, List.getElem?_set_ne (Ne.symm na)]; exact hn
  have bA : hA[b]? = some (some (.dN (Pg, w) (msD ss))) := by rw [← eA, List.getElem?_set_ne ab]; exact hb
  have aA : hA[a]? = some (some (.dL (Pg, w) od gs (msD fs))) := by rw [← eA]; exact List.getElem?_set_self la
  refine vs_for (vi_keysN ?_)
  k_places
  refine ⟨a, od, gs, msD fs, rfl, aA, ?_⟩
  refine ⟨fun j env h' => ∃ o5 o6 o7 : Option D, env = [some (.own n), some (.own a), some (.own b), some (.p (.cls (cf i))), o5, o6, o7] ∧ h' = hA.set n (some (.dN (Pg, w) (msD ((fs.take j).foldl (addRow (cg i) ss) cs)))), ?_, ?_, ?_, ?_⟩
  · exact ⟨none, none, none, rfl, (set_same nA).symm⟩
  · rintro j env h' ⟨_, _, _, _, rfl⟩
    show (hA.set n _)[a]? = _
    rw [List.getElem?_set_ne na]; exact aA
  · rintro j d env h' hd ⟨o5, o6, o7, rfl, rfl⟩
    unfold msD at hd
    rw [List.getElem?_map, List.getElem?_map, List.getElem?_map] at hd
    cases ex : fs[j]? with
    | none => rw [ex] at hd; cases hd
    | some x =>
      rw [ex] at hd
      cases hd
      have hx := List.mem_of_getElem? ex
      have hl1 := addRows_len (cg i) ss (fs.take j) cs
      have hl2 : (fs.take j).length * ss.length ≤ 1000 * 1000 := Nat.mul_le_mul (by rw [List.length_take]; omega) ls
      have enx : ((fs.take (j + 1)).foldl (addRow (cg i) ss) cs) = ss.foldl (addOne (cg i) x) ((fs.take j).foldl (addRow (cg i) ss) cs) := by
        rw [List.take_add_one, ex, List.foldl_append]
        rfl
      generalize (fs.take j).foldl (addRow (cg i) ss) cs = cs1 at hl1 enx
      k_places
      have b1 : (hA.set n (some (.dN (Pg, w) (msD cs1))))[b]? = some (some (.dN (Pg, w) (msD ss))) := by rw [List.getElem?_set_ne nb]; exact bA
      refine vs_lockN b1 fun od2 gs2 => ?_
      rw [List.set_comm _ _ nb]
      generalize eB : hA.set b (some (.dL (Pg, w) od2 gs2 (msD ss))) = hB
      have lB : hB.length = h.length := by rw [← eB, List.length_set, lA]
      have bB : hB[b]? = some (some (.dL (Pg, w) od2 gs2 (msD ss))) := by rw [← eB]; exact List.getElem?_set_self (by omega)
      have aB : hB[a]? = some (some (.dL (Pg, w) od gs (msD fs))) := by rw [← eB, List.getElem?_set_ne (Ne.symm ab)]; exact aA
      have nS : ∀ (X : OO), (hB.set n (some X))[n]? = some (some X) := fun X => List.getElem?_set_self (by omega)
      refine vs_for (vi_keysN ?_)
      k_places
      refine ⟨b, od2, gs2, msD ss, rfl, by rw [List.getElem?_set_ne nb]; exact bB, ?_⟩
      refine ⟨fun jj env h' => ∃ o6 o7 : Option D, env = [some (.own n), some (.own a), some (.own b), some (.p (.cls (cf i))), some (.p x.1), o6, o7] ∧ h' = hB.set n (some (.dN (Pg, w) (msD ((ss.take jj).foldl (addOne (cg i) x) cs1)))), ?_, ?_, ?_, ?_⟩
      · exact ⟨o6, o7, rfl, rfl⟩
      · rintro jj env h' ⟨_, _, _, rfl⟩
        show (hB.set n _)[b]? = _
        rw [List.getElem?_set_ne nb]; exact bB
      · rintro jj d env h' hd ⟨o6, o7, rfl, rfl⟩
        unfold msD at hd
        rw [List.getElem?_map, List.getElem?_map, List.getElem?_map] at hd
        cases ey : ss[jj]? with
        | none => rw [ey] at hd; cases hd
        | some y =>
          rw [ey] at hd
          cases hd
          have hy := List.mem_of_getElem? ey
          obtain ⟨⟨xs, ys, ex1, ey1, lx, ly⟩, ⟨k, hk⟩, sk⟩ := jo x hx y hy
          have eny : ((ss.take (jj + 1)).foldl (addOne (cg i) x) cs1) = addOne (cg i) x ((ss.take jj).foldl (addOne (cg i) x) cs1) y := by
            rw [List.take_add_one, ey, List.foldl_append]
            rfl
          have hl3 := addOnes_len (cg i) x (ss.take jj) cs1
          rw [List.length_take] at hl3
          generalize (ss.take jj).foldl (addOne (cg i) x) cs1 = cs2 at hl3 eny
          obtain ⟨px, mx⟩ := x
          obtain ⟨py, my⟩ := y
          simp only at ex1 ey1
          subst ex1 ey1
          obtain ⟨kx, hkx⟩ := of.ok _ hx
          obtain ⟨ky, hky⟩ := os.ok _ hy
          have gx : vN (msD fs) kx = some (dI mx) := by rw [vN_msD hkx, getC_mem of.nd hx]; rfl
          have gy : vN (msD ss) ky = some (dI my) := by rw [vN_msD hky, getC_mem os.nd hy]; rfl
          k_places
          refine v2_addWT (by omega) ?_
          k_places
          refine ve_exE i ?_
          refine ve_callV rfl ?_
          k_places
          refine ⟨_, rfl, sk, ?_⟩
          k_places
          have hk' : KeyN (.tup (xs ++ ys)) k := hk
          refine ite_b (fun c => ?_) (fun c => ?_)
          · refine vs_nput ?_
            k_places
            refine ve_nget2 ?_
            k_places
            refine ⟨n, _, rfl, nS _, ?_⟩
            k_places
            refine ⟨_, _, k, rfl, hk', nS _, ?_⟩
            rw [getD_msD hk']
            k_places
            refine ve_nixA ?_
            k_places
            refine ⟨a, msD fs, _, kx, _, rfl, rfl, hkx, .inr ⟨od, gs, by rw [List.getElem?_set_ne na]; exact aB⟩, gx, ?_⟩
            k_places
            refine ve_nixA ?_
            k_places
            refine ⟨b, msD ss, _, ky, _, rfl, rfl, hky, .inr ⟨od2, gs2, by rw [List.getElem?_set_ne nb]; exact bB⟩, gy, ?_⟩
            refine v2_mulU (cmul_small (Nat.lt_of_le_of_lt (mf _ hx) (by decide +kernel)) (Nat.lt_of_le_of_lt (mS _ hy) (by decide +kernel))) ?_
            k_places
            refine ⟨n, _, _, k, rfl, rfl, hk', nS _, by rw [msD_len]; omega, ?_⟩
            refine ⟨_, _, rfl, ?_⟩
            rw [List.set_set, pN_msD hk', eny]
            unfold addOne
            rw [if_pos (show cg i (catR (.tup xs) (.tup ys)) = true from c)]
            rfl
          · k_places
            refine ⟨_, _, rfl, ?_⟩
            rw [eny]
            unfold addOne
            rw [if_neg (show ¬ cg i (catR (.tup xs) (.tup ys)) = true from fun z => by rw [show cg i (catR (.tup xs) (.tup ys)) = false from c] at z; cases z)]
      · rintro env h' ⟨o6, o7, rfl, rfl⟩
        rw [List.length_map, msD_len, List.take_length]
        refine ⟨?_, ?_⟩
        · rw [List.getElem?_set_ne nb]; exact bB
        · refine ⟨_, _, _, rfl, ?_⟩
          rw [enx, List.set_comm _ _ nb, ← eB, List.set_set, set_same bA]
  · rintro env h' ⟨o5, o6, o7, rfl, rfl⟩
    rw [List.length_map, msD_len, List.take_length]
    refine ⟨?_, ?_⟩
    · rw [List.getElem?_set_ne na]; exact aA
    · rw [List.set_comm _ _ na, ← eA, List.set_set, set_same ha]
      exact q
end
end Law

namespace Law
open PySem PySem.Spec PyProof.Rows L2 Kb
-- the steps that are tried: k_clsL a side condition; k_subL one step; k_places steps as long as one fits
section
variable {Pg : Program} {w : World} {K : PySem.W.Frag} {Θ : Tbs} {mg : Str → Option Value} {base : Heap}
theorem nz_ok {ms : List (P × Int)} (c : CntOk ms) : CntOk (nz ms) :=
  ⟨fun z hz => c.ok z (List.mem_filter.mp hz).1, (List.Sublist.map (fun z : P × Int => nkP z.1) List.filter_sublist).nodup c.nd⟩
theorem nz_len (ms : List (P × Int)) : (nz ms).length ≤ ms.length := List.length_filter_le _ _
theorem nil_ok : CntOk [] := ⟨fun z hz => (by simp at hz), (by simp)⟩
theorem cnts_ok {old new : List P} (h1 : ∀ r ∈ old, ∃ k, KeyN r k) (h2 : ∀ r ∈ new, ∃ k, KeyN r k) : CntOk (cnts old new) := bumps_ok (bumps_ok nil_ok h2) h1
theorem cnts_len (old new : List P) : (cnts old new).length ≤ new.length + old.length := by
  have h1 := bumps_len 1 new []
  have h2 := bumps_len (-1) old (bumps [] new 1)
  unfold cnts
  simp only [List.length_nil, Nat.zero_add] at h1
  omega
theorem putC_mem {ms : List (P × Int)} {p : P} {v : Int} {z : P × Int} (h : z ∈ putC ms p v) : z ∈ ms ∨ z.2 = v ∧ (z.1 = p ∨ ∃ y ∈ ms, y.1 = z.1) := by
  unfold putC at h
  split at h
  · obtain ⟨y, hy, rfl⟩ := List.mem_map.mp h
    split
    · exact .inr ⟨rfl, .inr ⟨y, hy, rfl⟩⟩
    · exact .inl hy
  · rcases List.mem_append.mp h with h | h
    · exact .inl h
    · rw [List.mem_singleton.mp h]; exact .inr ⟨rfl, .inl rfl⟩
theorem getC_of {ms : List (P × Int)} {p : P} {M : Nat} (h : ∀ z ∈ ms, z.2.natAbs ≤ M) : ((getC ms p).getD 0).natAbs ≤ M := by
  unfold getC
  cases e : ms.find? (fun q => decide (nkP q.1 = nkP p)) with
  | none => exact Nat.zero_le _
  | some z => exact h z (List.mem_of_find?_eq_some e)
theorem bumps_abs {d : Int} (hd : d.natAbs ≤ 1) : ∀ (rs : List P) (ms : List (P × Int)) (M : Nat), (∀ z ∈ ms, z.2.natAbs ≤ M) → ∀ z ∈ bumps ms rs d, z.2.natAbs ≤ M + rs.length
  | [], ms, M, h, z, hz => h z hz
  | r :: rs, ms, M, h, z, hz => by
    have step : ∀ y ∈ putC ms r ((getC ms r).getD 0 + d), y.2.natAbs ≤ M + 1 := fun y hy => by
      rcases putC_mem hy with hy | ⟨e, _⟩
      · have := h y hy; omega
      · have := getC_of (p := r) h; rw [e]; omega
    have := bumps_abs hd rs _ (M + 1) step z hz
    rw [List.length_cons]; omega
theorem cnts_abs {old new : List P} {z : P × Int} (h : z ∈ cnts old new) : z.2.natAbs ≤ new.length + old.length := by
  have h1 := bumps_abs (d := 1) (by decide) new [] 0 (fun z hz => by simp at hz)
  have h2 := bumps_abs (d := -1) (by decide) old (bumps [] new 1) (0 + new.length) h1 z h
  omega
/-- the rows of a difference are rows of the lists -/
theorem bumps_from {d : Int} : ∀ {rs : List P} {ms : List (P × Int)} {z : P × Int}, z ∈ bumps ms rs d → z.1 ∈ rs ∨ ∃ y ∈ ms, y.1 = z.1
  | [], ms, z, h => .inr ⟨z, h, rfl⟩
  | r :: rs, ms, z, h => by
    rcases bumps_from (rs := rs) h with h | ⟨y, hy, e⟩
    · exact .inl (List.mem_cons_of_mem _ h)
    · rcases putC_mem hy with hy | ⟨_, hy | ⟨y2, hy2, e2⟩⟩
      · exact .inr ⟨y, hy, e⟩
      · exact .inl (by rw [← e, hy]; exact List.mem_cons_self)
      · exact .inr ⟨y2, hy2, e2.trans e⟩
theorem cnts_from {old new : List P} {z : P × Int} (h : z ∈ cnts old new) : z.1 ∈ old ∨ z.1 ∈ new := by
  rcases bumps_from h with h | ⟨y, hy, e⟩
  · exact .inl h
  · rcases bumps_from hy with hy | ⟨y2, hy2, _⟩
    · exact .inr (by rw [← e]; exact hy)
    · simp at hy2
theorem addOne_ok {g : P → Bool} {x y : P × Int} {cs : List (P × Int)} (c : CntOk cs) (h : ∃ k, KeyN (catR x.1 y.1) k) : CntOk (addOne g x cs y) := by
  obtain ⟨k, hk⟩ := h
  unfold addOne
  split
  · exact putC_ok c hk _
  · exact c
theorem addOnes_ok {g : P → Bool} {x : P × Int} : ∀ {ss cs : List (P × Int)}, CntOk cs → (∀ y ∈ ss, ∃ k, KeyN (catR x.1 y.1) k) → CntOk (ss.foldl (addOne g x) cs)
  | [], _, c, _ => c
  | y :: ss, cs, c, h => addOnes_ok (ss := ss) (addOne_ok c (h y List.mem_cons_self)) fun z hz => h z (List.mem_cons_of_mem _ hz)
theorem addP_ok {g : P → Bool} {ss : List (P × Int)} : ∀ {fs cs : List (P × Int)}, CntOk cs → (∀ x ∈ fs, ∀ y ∈ ss, ∃ k, KeyN (catR x.1 y.1) k) → CntOk (addP g cs fs ss)
  | [], _, c, _ => c
  | x :: fs, cs, c, h => addP_ok (fs := fs) (cs := addRow g ss cs x) (addOnes_ok c (h x List.mem_cons_self)) fun z hz => h z (List.mem_cons_of_mem _ hz)
theorem app_at (h xs : Hs) (k : Nat) : (h ++ xs)[h.length + k]? = xs[k]? := by
  rw [List.getElem?_append_right (by omega), Nat.add_sub_cancel_left]
theorem set_at (h xs : Hs) (x y : Option OO) : (h ++ x :: xs).set h.length y = h ++ y :: xs := by
  rw [List.set_append_right _ _ (Nat.le_refl _), Nat.sub_self]; rfl
abbrev st_jc : Stmt := (topS 2)
theorem sc_jc : FnScope ["old_left", "new_left", "old_right", "new_right", "condition", "counts"] ["old_left", "new_left", "old_right", "new_right", "condition"] (defScope st_jc) := ⟨rfl, rfl, rfl, by decide +kernel, rfl, by decide +kernel, by decide +kernel⟩
def jcn (g : P → Bool) (ol nl or nr : List P) : List (P × Int) := addP g (addP g [] (nz (cnts ol nl)) (nz (cnts [] nr))) (nz (cnts [] ol)) (nz (cnts or nr))
def W_jc {ι : Type} (pw : Program × World) (cf : ι → Addr) (cg : ι → P → Bool) (S : P → Prop) : Spc := fun ds h R => ∃ (d1 d2 d3 d4 : D) (ol nl or nr : List P) (i : ι), ds = [d1, d2, d3, d4, .p (.cls (cf i))] ∧ RowsAt d1 h ol ∧ RowsAt d2 h nl ∧ RowsAt d3 h or ∧ RowsAt d4 h nr ∧
  (∀ r, r ∈ ol ∨ r ∈ nl ∨ r ∈ or ∨ r ∈ nr → ∃ k, KeyN r k) ∧ (∀ x y, x ∈ ol ∨ x ∈ nl → y ∈ or ∨ y ∈ nr → JoinOk S x y) ∧ ol.length ≤ 100 ∧ nl.length ≤ 100 ∧ or.length ≤ 100 ∧ nr.length ≤ 100 ∧
  (∀ (junk : Hs) (n : Nat), h.length ≤ n → (h ++ junk)[n]? = some (some (.dN pw (msD (nz (jcn (cg i) ol nl or nr))))) → R (.own n) (h ++ junk))
theorem ok_jc {ι : Type} {cf : ι → Addr} {cg : ι → P → Bool} {S : P → Prop} (A : DefAt K mg "join_change" st_jc ["old_left", "new_left", "old_right", "new_right", "condition"]) (h_change_of : HasF Pg w K mg base CX0 2 "change_of" ["old", "new"] (spD K Θ (W_chg (Pg, w)))) (h__add_pairs : HasF Pg w K mg base CX0 2 "_add_pairs" ["counts", "firsts", "seconds", "condition"] (spD K Θ (W_add (Pg, w) cf cg S))) (h__without_zeros : HasF Pg w K mg base CX0 1 "_without_zeros" ["counts"] (spD K Θ (W_wz (Pg, w)))) : HasF Pg w K mg base CX0 3 "join_change" ["old_left", "new_left", "old_right", "new_right", "condition"] (spD K Θ (W_jc (Pg, w) cf cg S)) := by
  have sc := sc_jc
  refine A.okD sc (W_jc (Pg, w) cf cg S) (fun ds h R ⟨_, _, _, _, _, _, _, _, _, e, _⟩ => by rw [e]; rfl) fun f cdv A outer s H E hr => ?_
  refine ⟨_, (pss_cons (ps_set (i := 5) sc.nd rfl (.inl rfl) pe_nnew)
  (pss_cons (ps_expr (h__add_pairs.call (hr.mono (by first | decide | omega)) rfl pass0 (pa_cons (pv 5) (pa_cons (h_change_of.call (hr.mono (by first | decide | omega)) rfl pass0 (pa_cons (pv 0) (pa_cons (pv 1) pa_nil))) (pa_cons (h_change_of.call (hr.mono (by first | decide | omega)) rfl pass0 (pa_cons (pe_lst pa_nil) (pa_cons (pv 3) pa_nil))) (pa_cons (pv 4) pa_nil))))))
  (pss_cons (ps_expr (h__add_pairs.call (hr.mono (by first | decide | omega)) rfl pass0 (pa_cons (pv 5) (pa_cons (h_change_of.call (hr.mono (by first | decide | omega)) rfl pass0 (pa_cons (pe_lst pa_nil) (pa_cons (pv 0) pa_nil))) (pa_cons (h_change_of.call (hr.mono (by first | decide | omega)) rfl pass0 (pa_cons (pv 2) (pa_cons (pv 3) pa_nil))) (pa_cons (pv 4) pa_nil))))))
  (pss_one (ps_ret (h__without_zeros.call (hr.mono (by first | decide | omega)) rfl pass0 (pa_cons (pv 5) pa_nil))))))), ?_⟩
  try dsimp only [cxOf]
  rintro ds h R ⟨d1, d2, d3, d4, ol, nl, or, nr, i, rfl, r1, r2, r3, r4, ks, jo, l1, l2, l3, l4, q⟩
  have sz := sizeLine_eq
  k_subL
  k_places
  refine ve_nnew ?_
  k_places
  refine ⟨d1, d2, ol, nl, rfl, r1.app _, r2.app _, fun r hr => ks r (.inl hr), fun r hr => ks r (.inr (.inl hr)), by omega, by omega, ?_⟩
  simp only [List.append_assoc, List.cons_append, List.nil_append, List.length_append, List.length_cons, List.length_nil]
  k_places
  refine ve_lstO ?_
  k_places
  refine ⟨by simp, ?_⟩
  k_places
  refine ⟨_, d4, [], nr, rfl, .inl ⟨_, rfl, by simp⟩, (r4.app _).app _, fun r hr => (by simp at hr), fun r hr => ks r (.inr (.inr (.inr hr))), by simp, by omega, ?_⟩
  simp only [List.append_assoc, List.cons_append, List.nil_append, List.length_append, List.length_cons, List.length_nil]
  k_places
  have na := fun (o n : List P) (z : P × Int) (hz : z ∈ nz (cnts o n)) => cnts_abs (List.mem_filter.mp hz).1
  have nf := fun (o n : List P) (z : P × Int) (hz : z ∈ nz (cnts o n)) => cnts_from (List.mem_filter.mp hz).1
  have c1 : CntOk (nz (cnts ol nl)) := nz_ok (cnts_ok (fun r hr => ks r (.inl hr)) fun r hr => ks r (.inr (.inl hr)))
  have c2 : CntOk (nz (cnts [] nr)) := nz_ok (cnts_ok (fun r hr => (by simp at hr)) fun r hr => ks r (.inr (.inr (.inr hr))))
  have e1 := nz_len (cnts ol nl)
  have e2 := cnts_len ol nl
  have e3 := nz_len (cnts [] nr)
  have e4 := cnts_len [] nr
  simp only [List.length_nil] at e4
  have j1 : ∀ x ∈ nz (cnts ol nl), ∀ y ∈ nz (cnts [] nr), JoinOk S x.1 y.1 := fun x hx y hy => jo _ _ (nf _ _ x hx) ((nf _ _ y hy).elim (fun z => by simp at z) .inr)
  refine ⟨h.length, _, _, [], _, _, i, rfl, ?_, ?_, ?_, ?_, ?_, ?_, j1, nil_ok, c1, c2, by simp, by omega, by omega, fun x hx => ?_, fun y hy => ?_, ?_⟩
  · omega
  · omega
  · omega
  · exact app_at h _ 0
  · exact app_at h _ 2
  · exact app_at h _ 5
  · have := na _ _ x hx; omega
  · have := na _ _ y hy; simp only [List.length_nil] at this; omega
  rw [set_at]
  generalize hA : addP (cg i) [] (nz (cnts ol nl)) (nz (cnts [] nr)) = as
  have lA : as.length ≤ 40000 := by
    have z := addRows_len (cg i) (nz (cnts [] nr)) (nz (cnts ol nl)) []
    have m : (nz (cnts ol nl)).length * (nz (cnts [] nr)).length ≤ 200 * 200 := Nat.mul_le_mul (by omega) (by omega)
    rw [← hA]
    simp only [List.length_nil] at z
    exact Nat.le_trans z (by omega)
  have okA : CntOk as := by
    rw [← hA]
    exact addP_ok nil_ok fun x hx y hy => (j1 x hx y hy).k
  k_places
  refine ve_lstO ?_
  k_places
  refine ⟨by simp, ?_⟩
  k_places
  refine ⟨_, d1, [], ol, rfl, .inl ⟨_, rfl, by simp⟩, (r1.app _).app _, fun r hr => (by simp at hr), fun r hr => ks r (.inl hr), by simp, by omega, ?_⟩
  simp only [List.append_assoc, List.cons_append, List.nil_append, List.length_append, List.length_cons, List.length_nil]
  k_places
  refine ⟨d3, d4, or, nr, rfl, r3.app _, r4.app _, fun r hr => ks r (.inr (.inr (.inl hr))), fun r hr => ks r (.inr (.inr (.inr hr))), by omega, by omega, ?_⟩
  simp only [List.append_assoc, List.cons_append, List.nil_append, List.length_append, List.length_cons, List.length_nil]
  k_places
  have c3 : CntOk (nz (cnts [] ol)) := nz_ok (cnts_ok (fun r hr => (by simp at hr)) fun r hr => ks r (.inl hr))
  have c4 : CntOk (nz (cnts or nr)) := nz_ok (cnts_ok (fun r hr => ks r (.inr (.inr (.inl hr)))) fun r hr => ks r (.inr (.inr (.inr hr))))
  have f1 := nz_len (cnts [] ol)
  have f2 := cnts_len [] ol
  have f3 := nz_len (cnts or nr)
  have f4 := cnts_len or nr
  simp only [List.length_nil] at f2
  have j2 : ∀ x ∈ nz (cnts [] ol), ∀ y ∈ nz (cnts or nr), JoinOk S x.1 y.1 := fun x hx y hy => jo _ _ ((nf _ _ x hx).elim (fun z => by simp at z) .inl) (nf _ _ y hy)
  refine ⟨h.length, _, _, as, _, _, i, rfl, ?_, ?_, ?_, ?_, ?_, ?_, j2, okA, c3, c4, by omega, by omega, by omega, fun x hx => ?_, fun y hy => ?_, ?_⟩
  · omega
  · omega
  · omega
  · exact app_at h _ 0
  · exact app_at h _ 8
  · exact app_at h _ 10
  · have := na _ _ x hx; simp only [List.length_nil] at this; omega
  · have := na _ _ y hy; omega
  rw [set_at]
  have lB : (addP (cg i) as (nz (cnts [] ol)) (nz (cnts or nr))).length ≤ 80000 := by
    have z := addRows_len (cg i) (nz (cnts or nr)) (nz (cnts [] ol)) as
    have m : (nz (cnts [] ol)).length * (nz (cnts or nr)).length ≤ 200 * 200 := Nat.mul_le_mul (by omega) (by omega)
    exact Nat.le_trans z (by omega)
  have okB : CntOk (addP (cg i) as (nz (cnts [] ol)) (nz (cnts or nr))) := addP_ok okA fun x hx y hy => (j2 x hx y hy).k
  k_places
  refine ⟨h.length, _, rfl, app_at h _ 0, okB, by omega, ?_⟩
  rw [List.append_assoc]
  refine q _ _ (by rw [List.length_append]; omega) ?_
  rw [List.length_append]
  subst hA
  exact app_at h _ 11
end
end Law

namespace Law
open PySem PySem.Spec PyProof.Rows L2 Kb
/-! ### the numbers of rows, summed -/
def sumF (f : P → Int) (xs : List P) : Int := (xs.map f).sum
def sumC (ms : List (P × Int)) (f : P → Int) : Int := (ms.map fun z => z.2 * f z.1).sum
def hasAll (T : P → Prop) (ms : List (P × Int)) : Prop := ∀ z ∈ ms, T z.1
/-- rows told apart by their keys -/
def Apart (T : P → Prop) : Prop := ∀ x y, T x → T y → nkP x = nkP y → x = y
theorem sumC_nil (f : P → Int) : sumC [] f = 0 := rfl
theorem sumC_cons (z : P × Int) (ms : List (P × Int)) (f : P → Int) : sumC (z :: ms) f = z.2 * f z.1 + sumC ms f := by unfold sumC; rw [List.map_cons, List.sum_cons]
theorem sumF_nil (f : P → Int) : sumF f [] = 0 := rfl
theorem sumF_cons (f : P → Int) (x : P) (xs : List P) : sumF f (x :: xs) = f x + sumF f xs := by unfold sumF; rw [List.map_cons, List.sum_cons]
theorem sumF_app (f : P → Int) : ∀ (xs ys : List P), sumF f (xs ++ ys) = sumF f xs + sumF f ys
  | [], ys => by rw [List.nil_append, sumF_nil, Int.zero_add]
  | x :: xs, ys => by rw [List.cons_append, sumF_cons, sumF_cons, sumF_app f xs ys, Int.add_assoc]
theorem sumC_app (f : P → Int) : ∀ (xs ys : List (P × Int)), sumC (xs ++ ys) f = sumC xs f + sumC ys f
  | [], ys => by rw [List.nil_append, sumC_nil, Int.zero_add]
  | x :: xs, ys => by rw [List.cons_append, sumC_cons, sumC_cons, sumC_app f xs ys, Int.add_assoc]
theorem sumF_sub (f g : P → Int) : ∀ xs : List P, sumF (fun x => f x - g x) xs = sumF f xs - sumF g xs
  | [] => rfl
  | x :: xs => by rw [sumF_cons, sumF_cons, sumF_cons, sumF_sub f g xs]; omega
theorem getC_nil (p : P) : getC [] p = none := rfl
theorem getC_cons (z : P × Int) (ms : List (P × Int)) (p : P) : getC (z :: ms) p = if nkP z.1 = nkP p then some z.2 else getC ms p := by
  unfold getC
  rw [List.find?_cons]
  by_cases h : nkP z.1 = nkP p
  · simp [h]
  · simp [h]
theorem put_away {p : P} {v : Int} : ∀ {ms : List (P × Int)}, nkP p ∉ ms.map (fun z => nkP z.1) → ms.map (fun q => if nkP q.1 = nkP p then (q.1, v) else q) = ms
  | [], _ => rfl
  | z :: ms, h => by
    rw [List.map_cons, List.mem_cons, not_or] at h
    rw [List.map_cons, put_away h.2, if_neg fun e => h.1 e.symm]
theorem sumC_map {T : P → Prop} (a : Apart T) {p : P} (tp : T p) {v w : Int} (f : P → Int) : ∀ {ms : List (P × Int)}, hasAll T ms → (ms.map fun z => nkP z.1).Nodup → getC ms p = some w →
    sumC (ms.map fun q => if nkP q.1 = nkP p then (q.1, v) else q) f = sumC ms f + (v - w) * f p
  | [], _, _, h => by rw [getC_nil] at h; cases h
  | z :: ms, t, nd, h => by
    rw [List.map_cons, List.nodup_cons] at nd
    rw [getC_cons] at h
    rw [List.map_cons, sumC_cons, sumC_cons]
    by_cases e : nkP z.1 = nkP p
    · rw [if_pos e] at h ⊢
      cases h
      have ez : z.1 = p := a _ _ (t z List.mem_cons_self) tp e
      rw [put_away (by rw [← e]; exact nd.1)]
      simp only [ez]
      rw [Int.sub_mul]
      omega
    · rw [if_neg e] at h ⊢
      rw [sumC_map a tp f (fun y hy => t y (List.mem_cons_of_mem _ hy)) nd.2 h]
      omega
theorem sumC_put {T : P → Prop} (a : Apart T) {p : P} (tp : T p) {v : Int} (f : P → Int) {ms : List (P × Int)} (t : hasAll T ms) (nd : (ms.map fun z => nkP z.1).Nodup) : sumC (putC ms p v) f = sumC ms f + (v - (getC ms p).getD 0) * f p := by
  unfold putC
  cases h : getC ms p with
  | none =>
    rw [if_neg (by simp), sumC_app, sumC_cons, sumC_nil]
    simp
  | some w =>
    rw [if_pos (by simp), sumC_map a tp f t nd h]
    rfl
theorem put_all {T : P → Prop} {p : P} (tp : T p) {v : Int} {ms : List (P × Int)} (t : hasAll T ms) : hasAll T (putC ms p v) := fun z hz => by
  rcases putC_mem hz with hz | ⟨_, hz | ⟨y, hy, e⟩⟩
  · exact t z hz
  · rw [hz]; exact tp
  · rw [← e]; exact t y hy
theorem sumC_bumps {T : P → Prop} (a : Apart T) {d : Int} (f : P → Int) : ∀ {rs : List P} {ms : List (P × Int)}, (∀ r ∈ rs, T r ∧ ∃ k, KeyN r k) → hasAll T ms → CntOk ms → hasAll T (bumps ms rs d) ∧ sumC (bumps ms rs d) f = sumC ms f + d * sumF f rs
  | [], ms, _, t, c => ⟨t, by rw [sumF_nil, Int.mul_zero, Int.add_zero]; rfl⟩
  | r :: rs, ms, h, t, c => by
    obtain ⟨tr, k, hk⟩ := h r List.mem_cons_self
    obtain ⟨h1, h2⟩ := sumC_bumps a (d := d) f (rs := rs) (ms := putC ms r ((getC ms r).getD 0 + d)) (fun x hx => h x (List.mem_cons_of_mem _ hx)) (put_all tr t) (putC_ok c hk _)
    refine ⟨h1, h2.trans ?_⟩
    rw [sumC_put a tr f t c.nd, sumF_cons, Int.mul_add]
    have e : (getC ms r).getD 0 + d - (getC ms r).getD 0 = d := by omega
    rw [e]
    omega
theorem sumC_nz (f : P → Int) : ∀ ms : List (P × Int), sumC (nz ms) f = sumC ms f
  | [] => rfl
  | z :: ms => by
    have ih := sumC_nz f ms
    unfold nz at ih ⊢
    rw [List.filter_cons]
    by_cases e : (z.2 != 0) = true
    · rw [if_pos e, sumC_cons, sumC_cons, ih]
    · rw [if_neg e, sumC_cons, ih]
      have : z.2 = 0 := by simpa using e
      rw [this]
      omega
theorem nz_all {T : P → Prop} {ms : List (P × Int)} (t : hasAll T ms) : hasAll T (nz ms) := fun z hz => t z (List.mem_filter.mp hz).1
theorem nil_all {T : P → Prop} : hasAll T [] := fun z hz => by simp at hz
theorem cnts_sum {T : P → Prop} (a : Apart T) (f : P → Int) {old new : List P} (ho : ∀ r ∈ old, T r ∧ ∃ k, KeyN r k) (hn : ∀ r ∈ new, T r ∧ ∃ k, KeyN r k) : hasAll T (nz (cnts old new)) ∧ sumC (nz (cnts old new)) f = sumF f new - sumF f old := by
  obtain ⟨h1, h2⟩ := sumC_bumps a (d := 1) f hn (nil_all (T := T)) nil_ok
  obtain ⟨h3, h4⟩ := sumC_bumps a (d := -1) f ho h1 (bumps_ok nil_ok fun r hr => (hn r hr).2)
  refine ⟨nz_all h3, ?_⟩
  rw [sumC_nz]
  unfold cnts
  rw [h4, h2, sumC_nil]
  omega
/-! ### joined rows -/
def jv (g : P → Bool) (f : P → Int) (l r : P) : Int := if g (catR l r) = true then f (catR l r) else 0
theorem sum_addOnes {T : P → Prop} (a : Apart T) {g : P → Bool} (f : P → Int) {x : P × Int} : ∀ {ss cs : List (P × Int)}, (∀ y ∈ ss, T (catR x.1 y.1) ∧ ∃ k, KeyN (catR x.1 y.1) k) → hasAll T cs → CntOk cs →
    hasAll T (ss.foldl (addOne g x) cs) ∧ sumC (ss.foldl (addOne g x) cs) f = sumC cs f + x.2 * sumC ss (jv g f x.1)
  | [], cs, _, t, _ => ⟨t, by rw [sumC_nil, Int.mul_zero, Int.add_zero]; rfl⟩
  | y :: ss, cs, h, t, c => by
    obtain ⟨ty, k, hk⟩ := h y List.mem_cons_self
    have t1 : hasAll T (addOne g x cs y) := by
      unfold addOne
      split
      · exact put_all ty t
      · exact t
    obtain ⟨h1, h2⟩ := sum_addOnes a (g := g) f (x := x) (ss := ss) (cs := addOne g x cs y) (fun z hz => h z (List.mem_cons_of_mem _ hz)) t1 (addOne_ok c ⟨k, hk⟩)
    refine ⟨h1, h2.trans ?_⟩
    rw [sumC_cons, Int.mul_add]
    have e : sumC (addOne g x cs y) f = sumC cs f + x.2 * (y.2 * jv g f x.1 y.1) := by
      unfold addOne jv
      split
      · rw [sumC_put a ty f t c.nd]
        have e : (getC cs (catR x.1 y.1)).getD 0 + x.2 * y.2 - (getC cs (catR x.1 y.1)).getD 0 = x.2 * y.2 := by omega
        rw [e, Int.mul_assoc]
      · rw [Int.mul_zero, Int.mul_zero, Int.add_zero]
    rw [e]
    omega
theorem sum_addP {T : P → Prop} (a : Apart T) {g : P → Bool} (f : P → Int) {ss : List (P × Int)} : ∀ {fs cs : List (P × Int)}, (∀ x ∈ fs, ∀ y ∈ ss, T (catR x.1 y.1) ∧ ∃ k, KeyN (catR x.1 y.1) k) → hasAll T cs → CntOk cs →
    hasAll T (addP g cs fs ss) ∧ sumC (addP g cs fs ss) f = sumC cs f + sumC fs fun l => sumC ss (jv g f l)
  | [], cs, _, t, _ => ⟨t, by rw [sumC_nil, Int.add_zero]; rfl⟩
  | x :: fs, cs, h, t, c => by
    obtain ⟨t1, e1⟩ := sum_addOnes a (g := g) f (x := x) (ss := ss) (cs := cs) (h x List.mem_cons_self) t c
    obtain ⟨h1, h2⟩ := sum_addP a (g := g) f (ss := ss) (fs := fs) (cs := addRow g ss cs x) (fun z hz => h z (List.mem_cons_of_mem _ hz)) t1 (addOnes_ok c fun y hy => (h x List.mem_cons_self y hy).2)
    refine ⟨h1, h2.trans ?_⟩
    rw [sumC_cons]
    have e : sumC (addRow g ss cs x) f = sumC cs f + x.2 * sumC ss (jv g f x.1) := e1
    rw [e]
    omega
def joinW (g : P → Bool) (ls rs : List P) : List P := ls.flatMap fun l => (rs.filter fun r => g (catR l r)).map (catR l)
theorem join_row (g : P → Bool) (f : P → Int) (l : P) : ∀ rs : List P, sumF f ((rs.filter fun r => g (catR l r)).map (catR l)) = sumF (jv g f l) rs
  | [] => rfl
  | r :: rs => by
    have ih := join_row g f l rs
    rw [List.filter_cons, sumF_cons]
    unfold jv
    by_cases e : g (catR l r) = true
    · rw [if_pos e, if_pos e, List.map_cons, sumF_cons, ih]; rfl
    · rw [if_neg e, if_neg e, ih, Int.zero_add]; rfl
theorem join_sum (g : P → Bool) (f : P → Int) : ∀ ls rs : List P, sumF f (joinW g ls rs) = sumF (fun l => sumF (jv g f l) rs) ls
  | [], rs => rfl
  | l :: ls, rs => by
    have ih := join_sum g f ls rs
    unfold joinW at ih ⊢
    rw [List.flatMap_cons, sumF_app, sumF_cons, ih, join_row]
theorem sumF_congr {f g : P → Int} (xs : List P) (h : ∀ x, f x = g x) : sumF f xs = sumF g xs := by
  have e : f = g := funext h
  rw [e]
theorem jcn_sum {T1 T2 T : P → Prop} (a1 : Apart T1) (a2 : Apart T2) (a : Apart T) (g : P → Bool) (f : P → Int) {ol nl or nr : List P}
    (h1 : ∀ r ∈ ol, T1 r ∧ ∃ k, KeyN r k) (h2 : ∀ r ∈ nl, T1 r ∧ ∃ k, KeyN r k) (h3 : ∀ r ∈ or, T2 r ∧ ∃ k, KeyN r k) (h4 : ∀ r ∈ nr, T2 r ∧ ∃ k, KeyN r k) (hj : ∀ l r, T1 l → T2 r → T (catR l r) ∧ ∃ k, KeyN (catR l r) k) :
    hasAll T (nz (jcn g ol nl or nr)) ∧ CntOk (nz (jcn g ol nl or nr)) ∧ sumC (nz (jcn g ol nl or nr)) f = sumF f (joinW g nl nr) - sumF f (joinW g ol or) := by
  have n0 : ∀ r ∈ ([] : List P), ∀ {X : P → Prop}, X r ∧ ∃ k, KeyN r k := fun r hr => by simp at hr
  have s1 := fun F => cnts_sum a1 F h1 h2
  have s2 := fun F => cnts_sum a2 F (old := []) (fun r hr => n0 r hr) h4
  have s3 := fun F => cnts_sum a1 F (old := []) (fun r hr => n0 r hr) h1
  have s4 := fun F => cnts_sum a2 F h3 h4
  have A1 : ∀ x ∈ nz (cnts ol nl), ∀ y ∈ nz (cnts [] nr), T (catR x.1 y.1) ∧ ∃ k, KeyN (catR x.1 y.1) k := fun x hx y hy => hj _ _ ((s1 f).1 x hx) ((s2 f).1 y hy)
  have A2 : ∀ x ∈ nz (cnts [] ol), ∀ y ∈ nz (cnts or nr), T (catR x.1 y.1) ∧ ∃ k, KeyN (catR x.1 y.1) k := fun x hx y hy => hj _ _ ((s3 f).1 x hx) ((s4 f).1 y hy)
  obtain ⟨p1, p2⟩ := sum_addP a (g := g) f (cs := []) A1 nil_all nil_ok
  have c1 : CntOk (addP g [] (nz (cnts ol nl)) (nz (cnts [] nr))) := addP_ok nil_ok fun x hx y hy => (A1 x hx y hy).2
  obtain ⟨q1, q2⟩ := sum_addP a (g := g) f A2 p1 c1
  have c2 : CntOk (jcn g ol nl or nr) := addP_ok c1 fun x hx y hy => (A2 x hx y hy).2
  refine ⟨nz_all q1, nz_ok c2, ?_⟩
  rw [sumC_nz]
  unfold jcn
  rw [q2, p2, sumC_nil, (s1 _).2, (s3 _).2, sumF_nil, join_sum, join_sum]
  have e1 : ∀ l, sumC (nz (cnts [] nr)) (jv g f l) = sumF (jv g f l) nr := fun l => by rw [(s2 _).2, sumF_nil, Int.sub_zero]
  have e2 : ∀ l, sumC (nz (cnts or nr)) (jv g f l) = sumF (jv g f l) nr - sumF (jv g f l) or := fun l => (s4 _).2
  rw [sumF_congr nl e1, sumF_congr ol e1, sumF_congr ol e2, sumF_sub]
  omega
/-! ### what the law asks -/
def ind (q r : P) : Int := if nkP r = nkP q then 1 else 0
def cntK (q : P) (xs : List P) : Int := sumF (ind q) xs
theorem cntK_pos {q : P} : ∀ {xs : List P}, cntK q xs ≠ 0 → ∃ r ∈ xs, nkP r = nkP q
  | [], h => absurd rfl h
  | x :: xs, h => by
    by_cases e : nkP x = nkP q
    · exact ⟨x, List.mem_cons_self, e⟩
    · have h2 : cntK q xs ≠ 0 := fun z => h (by unfold cntK at z ⊢; rw [sumF_cons, z]; unfold ind; rw [if_neg e]; rfl)
      obtain ⟨r, hr, er⟩ := cntK_pos h2
      exact ⟨r, List.mem_cons_of_mem _ hr, er⟩
theorem cntK_same {p q : P} (e : nkP p = nkP q) (xs : List P) : cntK p xs = cntK q xs := by
  unfold cntK
  exact sumF_congr xs fun x => by unfold ind; rw [e]
def diffK (old new : List P) (r : P) : Int := cntK r new - cntK r old
def lawStep (old new : List P) (ms : List (P × Int)) (r : P) : List (P × Int) := if diffK old new r ≠ 0 then putC ms r (diffK old new r) else ms
def lawC (old new : List P) : List (P × Int) := (new ++ old).foldl (lawStep old new) []
structure Found (T : P → Prop) (old new done : List P) (ms : List (P × Int)) : Prop where
  ok : CntOk ms
  all : hasAll T ms
  val : ∀ z ∈ ms, z.2 = diffK old new z.1 ∧ z.2 ≠ 0
  has : ∀ r ∈ done, diffK old new r ≠ 0 → ∃ z ∈ ms, nkP z.1 = nkP r
theorem putC_has (ms : List (P × Int)) (p : P) (v : Int) : ∃ z ∈ putC ms p v, nkP z.1 = nkP p := by
  unfold putC
  split
  · rename_i h
    unfold getC at h
    rw [Option.isSome_map, List.find?_isSome] at h
    obtain ⟨z, hz, e⟩ := h
    have e : nkP z.1 = nkP p := of_decide_eq_true e
    exact ⟨(z.1, v), List.mem_map.mpr ⟨z, hz, by rw [if_pos e]⟩, e⟩
  · exact ⟨(p, v), List.mem_append_right _ List.mem_cons_self, rfl⟩
theorem putC_keep {ms : List (P × Int)} {p q : P} {v : Int} (h : ∃ z ∈ ms, nkP z.1 = nkP q) : ∃ z ∈ putC ms p v, nkP z.1 = nkP q := by
  obtain ⟨z, hz, e⟩ := h
  unfold putC
  split
  · by_cases c : nkP z.1 = nkP p
    · exact ⟨(z.1, v), List.mem_map.mpr ⟨z, hz, by rw [if_pos c]⟩, e⟩
    · exact ⟨z, List.mem_map.mpr ⟨z, hz, by rw [if_neg c]⟩, e⟩
  · exact ⟨z, List.mem_append_left _ hz, e⟩
theorem putC_in {ms : List (P × Int)} {p : P} {v : Int} {z : P × Int} (h : z ∈ putC ms p v) : z ∈ ms ∨ z.2 = v ∧ nkP z.1 = nkP p := by
  unfold putC at h
  split at h
  · obtain ⟨y, hy, rfl⟩ := List.mem_map.mp h
    split
    · rename_i e
      exact .inr ⟨rfl, e⟩
    · exact .inl hy
  · rcases List.mem_append.mp h with h | h
    · exact .inl h
    · rw [List.mem_singleton.mp h]; exact .inr ⟨rfl, rfl⟩
theorem diffK_same {old new : List P} {p q : P} (e : nkP p = nkP q) : diffK old new p = diffK old new q := by
  unfold diffK
  rw [cntK_same e, cntK_same e]
theorem found_step {T : P → Prop} {old new done : List P} {ms : List (P × Int)} {r : P} (f : Found T old new done ms) (tr : T r) (hk : ∃ k, KeyN r k) : Found T old new (done ++ [r]) (lawStep old new ms r) := by
  obtain ⟨k, hk⟩ := hk
  unfold lawStep
  split
  · rename_i ne
    refine ⟨putC_ok f.ok hk _, put_all tr f.all, fun z hz => ?_, fun x hx nx => ?_⟩
    · rcases putC_in hz with hz | ⟨e1, e2⟩
      · exact f.val z hz
      · rw [e1, diffK_same e2]; exact ⟨rfl, ne⟩
    · rcases List.mem_append.mp hx with hx | hx
      · exact putC_keep (f.has x hx nx)
      · rw [List.mem_singleton.mp hx]; exact putC_has _ _ _
  · rename_i e
    refine ⟨f.ok, f.all, f.val, fun x hx nx => ?_⟩
    rcases List.mem_append.mp hx with hx | hx
    · exact f.has x hx nx
    · rw [List.mem_singleton.mp hx] at nx; exact absurd nx e
theorem found_all {T : P → Prop} {old new : List P} : ∀ {rs done : List P} {ms : List (P × Int)}, Found T old new done ms → (∀ r ∈ rs, T r ∧ ∃ k, KeyN r k) → Found T old new (done ++ rs) (rs.foldl (lawStep old new) ms)
  | [], done, ms, f, _ => by rw [List.append_nil]; exact f
  | r :: rs, done, ms, f, h => by
    have z := found_all (rs := rs) (found_step f (h r List.mem_cons_self).1 (h r List.mem_cons_self).2) fun x hx => h x (List.mem_cons_of_mem _ hx)
    rw [List.append_assoc] at z
    exact z
theorem found_law {T : P → Prop} {old new : List P} (h : ∀ r ∈ new ++ old, T r ∧ ∃ k, KeyN r k) : Found T old new (new ++ old) (lawC old new) :=
  found_all (done := []) ⟨nil_ok, nil_all, fun z hz => (by simp at hz), fun r hr => (by simp at hr)⟩ h
/-- two dicts of numbers that say the same -/
structure SameC (ms es : List (P × Int)) : Prop where
  ok1 : CntOk ms
  ok2 : CntOk es
  len : ms.length = es.length
  val : ∀ z ∈ es, getC ms z.1 = some z.2
theorem sumC_none {q : P} : ∀ {ms : List (P × Int)}, nkP q ∉ ms.map (fun z => nkP z.1) → sumC ms (ind q) = 0
  | [], _ => rfl
  | z :: ms, h => by
    rw [List.map_cons, List.mem_cons, not_or] at h
    rw [sumC_cons, sumC_none h.2]
    unfold ind
    rw [if_neg fun e => h.1 e.symm, Int.mul_zero, Int.zero_add]
theorem sumC_at {q : P} {z : P × Int} (e : nkP z.1 = nkP q) : ∀ {ms : List (P × Int)}, (ms.map fun z => nkP z.1).Nodup → z ∈ ms → sumC ms (ind q) = z.2
  | [], _, h => by simp at h
  | y :: ms, nd, h => by
    rw [List.map_cons, List.nodup_cons] at nd
    rw [sumC_cons]
    rcases List.mem_cons.mp h with rfl | h
    · rw [sumC_none (by rw [← e]; exact nd.1)]
      unfold ind
      rw [if_pos e, Int.mul_one, Int.add_zero]
    · have ne : nkP y.1 ≠ nkP q := fun c => nd.1 (by rw [c, ← e]; exact List.mem_map_of_mem (f := fun z : P × Int => nkP z.1) h)
      rw [sumC_at e nd.2 h]
      unfold ind
      rw [if_neg ne, Int.mul_zero, Int.zero_add]
theorem getC_same {p q : P} (e : nkP p = nkP q) (ms : List (P × Int)) : getC ms p = getC ms q := by unfold getC; rw [e]
theorem sameC_of {T : P → Prop} {old new : List P} {ms : List (P × Int)} (h : ∀ r ∈ new ++ old, T r ∧ ∃ k, KeyN r k) (c : CntOk ms) (no : ∀ z ∈ ms, z.2 ≠ 0) (s : ∀ q, sumC ms (ind q) = diffK old new q) : SameC ms (lawC old new) := by
  have f := found_law (T := T) h
  have e1 : ∀ z ∈ ms, ∃ y ∈ lawC old new, nkP y.1 = nkP z.1 := fun z hz => by
    have v : z.2 = diffK old new z.1 := by rw [← s, sumC_at rfl c.nd hz]
    have ne : diffK old new z.1 ≠ 0 := by rw [← v]; exact no z hz
    have : cntK z.1 new ≠ 0 ∨ cntK z.1 old ≠ 0 := by unfold diffK at ne; omega
    have : ∃ r ∈ new ++ old, nkP r = nkP z.1 := by
      rcases this with t | t
      · obtain ⟨r, hr, e⟩ := cntK_pos t; exact ⟨r, List.mem_append_left _ hr, e⟩
      · obtain ⟨r, hr, e⟩ := cntK_pos t; exact ⟨r, List.mem_append_right _ hr, e⟩
    obtain ⟨r, hr, e⟩ := this
    obtain ⟨y, hy, ey⟩ := f.has r hr (by rw [diffK_same e]; exact ne)
    exact ⟨y, hy, ey.trans e⟩
  have e2 : ∀ y ∈ lawC old new, ∃ z ∈ ms, nkP z.1 = nkP y.1 ∧ z.2 = y.2 := fun y hy => by
    obtain ⟨v, ne⟩ := f.val y hy
    rw [v, ← s] at ne
    have : nkP y.1 ∈ ms.map fun z => nkP z.1 := Classical.byContradiction fun no => ne (sumC_none no)
    obtain ⟨z, hz, e⟩ := List.mem_map.mp this
    exact ⟨z, hz, e, by rw [v, ← s, sumC_at e c.nd hz]⟩
  refine ⟨c, f.ok, ?_, fun y hy => ?_⟩
  · have p : (ms.map fun z => nkP z.1).Perm ((lawC old new).map fun z => nkP z.1) := (List.perm_ext_iff_of_nodup c.nd f.ok.nd).mpr fun k => by
      constructor
      · intro hk
        obtain ⟨z, hz, rfl⟩ := List.mem_map.mp hk
        obtain ⟨y, hy, e⟩ := e1 z hz
        exact List.mem_map.mpr ⟨y, hy, e⟩
      · intro hk
        obtain ⟨y, hy, rfl⟩ := List.mem_map.mp hk
        obtain ⟨z, hz, e, _⟩ := e2 y hy
        exact List.mem_map.mpr ⟨z, hz, e⟩
    have := p.length_eq
    rwa [List.length_map, List.length_map] at this
  · obtain ⟨z, hz, e, ev⟩ := e2 y hy
    rw [← getC_same e, getC_mem c.nd hz, ev]
theorem nz_no (ms : List (P × Int)) : ∀ z ∈ nz ms, z.2 ≠ 0 := fun z hz => by simpa using (List.mem_filter.mp hz).2
theorem cnts_same {T : P → Prop} (a : Apart T) {old new : List P} (ho : ∀ r ∈ old, T r ∧ ∃ k, KeyN r k) (hn : ∀ r ∈ new, T r ∧ ∃ k, KeyN r k) : SameC (nz (cnts old new)) (lawC old new) :=
  sameC_of (T := T) (fun r hr => (List.mem_append.mp hr).elim (hn r) (ho r)) (nz_ok (cnts_ok (fun r hr => (ho r hr).2) fun r hr => (hn r hr).2)) (nz_no _) fun q => (cnts_sum a (ind q) ho hn).2
theorem join_mem {g : P → Bool} {ls rs : List P} {r : P} (h : r ∈ joinW g ls rs) : ∃ x ∈ ls, ∃ y ∈ rs, r = catR x y := by
  unfold joinW at h
  obtain ⟨x, hx, h⟩ := List.mem_flatMap.mp h
  obtain ⟨y, hy, e⟩ := List.mem_map.mp h
  exact ⟨x, hx, y, (List.mem_filter.mp hy).1, e.symm⟩
theorem jcn_same {T1 T2 T : P → Prop} (a1 : Apart T1) (a2 : Apart T2) (a : Apart T) (g : P → Bool) {ol nl or nr : List P}
    (h1 : ∀ r ∈ ol, T1 r ∧ ∃ k, KeyN r k) (h2 : ∀ r ∈ nl, T1 r ∧ ∃ k, KeyN r k) (h3 : ∀ r ∈ or, T2 r ∧ ∃ k, KeyN r k) (h4 : ∀ r ∈ nr, T2 r ∧ ∃ k, KeyN r k) (hj : ∀ l r, T1 l → T2 r → T (catR l r) ∧ ∃ k, KeyN (catR l r) k) :
    SameC (nz (jcn g ol nl or nr)) (lawC (joinW g ol or) (joinW g nl nr)) :=
  sameC_of (T := T) (fun r hr => by
      rcases List.mem_append.mp hr with hr | hr
      · obtain ⟨x, hx, y, hy, rfl⟩ := join_mem hr; exact hj _ _ (h2 x hx).1 (h4 y hy).1
      · obtain ⟨x, hx, y, hy, rfl⟩ := join_mem hr; exact hj _ _ (h1 x hx).1 (h3 y hy).1)
    (jcn_sum a1 a2 a g (fun _ => 0) h1 h2 h3 h4 hj).2.1 (nz_no _) fun q => (jcn_sum a1 a2 a g (ind q) h1 h2 h3 h4 hj).2.2
end Law

namespace Law
open PySem PySem.Spec PyProof.Rows L2 Kb
-- the steps that are tried: k_clsL a side condition; k_subL one step; k_places steps as long as one fits
section
variable {Pg : Program} {w : World} {K : PySem.W.Frag} {Θ : Tbs} {mg : Str → Option Value} {base : Heap}
def okA : P → Bool
  | .non => true
  | .bl _ => true
  | .int _ => true
  | .str s => PyData.strOk s
  | _ => false
theorem text_ok {s : Str} {m : Nat} (t : TextOk s m) : PyData.strOk s = true := by
  unfold PyData.strOk
  rw [Array.all_eq_true]
  intro i hi
  have hc := t.ok s.cps[i] (by simp)
  unfold CharOk at hc
  exact decide_eq_true (by omega)
def ValOk (v : P) : Prop := okA v = true ∧ okP 0 v = true
/-- a value of a column of this kind -/
def KV (k : Str) (v : P) : Prop := v = .non ∨ if k = Str.ofString "boolean" then ∃ b, v = .bl b else if k = Str.ofString "integer" then ∃ i : Int, v = .int i ∧ i.natAbs < 2 ^ 200 else ∃ s : Str, v = .str s
structure ValK (k : Str) (v : P) : Prop where
  kv : KV k v
  ok : ValOk v
theorem KV.cases {k : Str} {v : P} (h : KV k v) : v = .non ∨ (∃ b, v = .bl b) ∨ (∃ i : Int, v = .int i ∧ i.natAbs < 2 ^ 200) ∨ ∃ s : Str, v = .str s := by
  rcases h with h | h
  · exact .inl h
  · split at h
    · exact .inr (.inl h)
    · split at h
      · exact .inr (.inr (.inl h))
      · exact .inr (.inr (.inr h))
def KVs : List Str → List P → Prop
  | [], [] => True
  | k :: ks, v :: vs => ValK k v ∧ KVs ks vs
  | _, _ => False
def RowK (ks : List Str) (p : P) : Prop := ∃ vs, p = .tup vs ∧ KVs ks vs
theorem KVs.len : ∀ {ks : List Str} {vs : List P}, KVs ks vs → vs.length = ks.length
  | [], [], _ => rfl
  | [], _ :: _, h => h.elim
  | _ :: _, [], h => h.elim
  | k :: ks, v :: vs, h => by rw [List.length_cons, List.length_cons, KVs.len h.2]
theorem KVs.mem : ∀ {ks : List Str} {vs : List P}, KVs ks vs → ∀ v ∈ vs, ∃ k, ValK k v
  | [], [], _, v, hv => by simp at hv
  | [], _ :: _, h, _, _ => h.elim
  | _ :: _, [], h, _, _ => h.elim
  | k :: ks, v :: vs, h, x, hx => by
    rcases List.mem_cons.mp hx with rfl | hx
    · exact ⟨k, h.1⟩
    · exact KVs.mem h.2 x hx
theorem KVs.app : ∀ {ks ls : List Str} {vs us : List P}, KVs ks vs → KVs ls us → KVs (ks ++ ls) (vs ++ us)
  | [], _, [], _, _, h => h
  | [], _, _ :: _, _, h, _ => h.elim
  | _ :: _, _, [], _, h, _ => h.elim
  | k :: ks, _, v :: vs, _, h, h2 => ⟨h.1, KVs.app h.2 h2⟩
theorem KVs.of : ∀ {ks : List Str} {vs : List P}, vs.length = ks.length → (∀ (i : Nat) (k : Str) (v : P), ks[i]? = some k → vs[i]? = some v → ValK k v) → KVs ks vs
  | [], [], _, _ => trivial
  | [], _ :: _, h, _ => by cases h
  | _ :: _, [], h, _ => by cases h
  | k :: ks, v :: vs, h, q => ⟨q 0 k v rfl rfl, KVs.of (by simpa using h) fun i k' v' h1 h2 => q (i + 1) k' v' h1 h2⟩
/-! ### rows as keys -/
theorem KV.nk {k : Str} {v : P} (h : KV k v) : ∃ x, nkP v = some x ∧ x.depth ≤ 1 := by
  rcases h.cases with rfl | ⟨b, rfl⟩ | ⟨i, rfl, _⟩ | ⟨s, rfl⟩
  · exact ⟨_, rfl, by decide⟩
  · exact ⟨_, rfl, by simp [NestedKey.depth]⟩
  · exact ⟨_, rfl, by simp [NestedKey.depth]⟩
  · exact ⟨_, rfl, by simp [NestedKey.depth]⟩
theorem KV.inj {k : Str} {v u : P} (h : KV k v) (g : KV k u) (e : nkP v = nkP u) : v = u := by
  rcases h with rfl | h
  · rcases g with rfl | g
    · rfl
    · split at g
      · obtain ⟨b, rfl⟩ := g; cases b <;> cases e
      · split at g
        · obtain ⟨b, rfl, _⟩ := g; cases e
        · obtain ⟨b, rfl⟩ := g; cases e
  · rcases g with rfl | g
    · split at h
      · obtain ⟨b, rfl⟩ := h; cases b <;> cases e
      · split at h
        · obtain ⟨b, rfl, _⟩ := h; cases e
        · obtain ⟨b, rfl⟩ := h; cases e
    · split at h
      · rename_i c
        rw [if_pos c] at g
        obtain ⟨b, rfl⟩ := h
        obtain ⟨b2, rfl⟩ := g
        cases b <;> cases b2 <;> first | rfl | cases e
      · rename_i c
        rw [if_neg c] at g
        split at h
        · rename_i c2
          rw [if_pos c2] at g
          obtain ⟨b, rfl, _⟩ := h
          obtain ⟨b2, rfl, _⟩ := g
          cases e; rfl
        · rename_i c2
          rw [if_neg c2] at g
          obtain ⟨b, rfl⟩ := h
          obtain ⟨b2, rfl⟩ := g
          cases e; rfl
theorem KVs.nk : ∀ {ks : List Str} {vs : List P}, KVs ks vs → ∃ xs, nkP.nkPs vs = some xs ∧ ∀ x ∈ xs, x.depth ≤ 1
  | [], [], _ => ⟨[], rfl, fun x hx => by simp at hx⟩
  | [], _ :: _, h => h.elim
  | _ :: _, [], h => h.elim
  | k :: ks, v :: vs, h => by
    obtain ⟨x, e, d⟩ := h.1.kv.nk
    obtain ⟨xs, es, ds⟩ := KVs.nk h.2
    refine ⟨x :: xs, ?_, fun y hy => ?_⟩
    · unfold nkP.nkPs; rw [e, es]; rfl
    · rcases List.mem_cons.mp hy with rfl | hy
      · exact d
      · exact ds y hy
theorem KVs.inj : ∀ {ks : List Str} {vs us : List P}, KVs ks vs → KVs ks us → nkP.nkPs vs = nkP.nkPs us → vs = us
  | [], [], [], _, _, _ => rfl
  | [], _ :: _, _, h, _, _ => h.elim
  | [], [], _ :: _, _, h, _ => h.elim
  | _ :: _, [], _, h, _, _ => h.elim
  | _ :: _, _ :: _, [], _, h, _ => h.elim
  | k :: ks, v :: vs, u :: us, h, g, e => by
    obtain ⟨x, ex, _⟩ := h.1.kv.nk
    obtain ⟨y, ey, _⟩ := g.1.kv.nk
    obtain ⟨xs, exs, _⟩ := KVs.nk h.2
    obtain ⟨ys, eys, _⟩ := KVs.nk g.2
    unfold nkP.nkPs at e
    rw [ex, ey, exs, eys] at e
    have e2 : x :: xs = y :: ys := Option.some.inj e
    rw [List.cons.injEq] at e2
    obtain ⟨e2, e3⟩ := e2
    rw [h.1.kv.inj g.1.kv (by rw [ex, ey, e2]), KVs.inj h.2 g.2 (by rw [exs, eys, e3])]
theorem depthAll_le : ∀ {xs : List NestedKey}, (∀ x ∈ xs, x.depth ≤ 1) → NestedKey.depthAll xs ≤ 1
  | [], _ => by simp [NestedKey.depthAll]
  | x :: xs, h => by
    have h1 := h x List.mem_cons_self
    have h2 := depthAll_le fun y hy => h y (List.mem_cons_of_mem x hy)
    simp only [NestedKey.depthAll]
    omega
theorem depths_le {xs : List NestedKey} (h : ∀ x ∈ xs, x.depth ≤ 1) : (NestedKey.tup xs).depth ≤ 2 := by
  have := depthAll_le h
  simp only [NestedKey.depth]
  omega
theorem RowK.key {ks : List Str} {p : P} (h : RowK ks p) : ∃ k, KeyN p k := by
  obtain ⟨vs, rfl, h⟩ := h
  obtain ⟨xs, e, d⟩ := h.nk
  exact ⟨.tup xs, ⟨vs, rfl⟩, by unfold nkP; rw [e]; rfl, Nat.le_trans (depths_le d) (by decide)⟩
theorem RowK.apart (ks : List Str) : Apart (RowK ks) := by
  rintro x y ⟨vs, rfl, h⟩ ⟨us, rfl, g⟩ e
  obtain ⟨xs, ex, _⟩ := h.nk
  obtain ⟨ys, ey, _⟩ := g.nk
  unfold nkP at e
  rw [ex, ey] at e
  rw [h.inj g (by rw [ex, ey]; cases e; rfl)]
theorem RowK.cat {ks ls : List Str} {x y : P} (h : RowK ks x) (g : RowK ls y) : RowK (ks ++ ls) (catR x y) := by
  obtain ⟨vs, rfl, h⟩ := h
  obtain ⟨us, rfl, g⟩ := g
  exact ⟨vs ++ us, rfl, h.app g⟩
/-! ### what rows are as data -/
theorem val_okP {v : P} (h : ValOk v) (n : Nat) : okP n v = true := by
  obtain ⟨h1, h2⟩ := h
  cases v <;> first | (cases n <;> rfl) | (cases n <;> exact h2) | cases h1
theorem val_plain {v : P} (h : ValOk v) : plainU v = true := by
  obtain ⟨h1, h2⟩ := h
  cases v <;> first | rfl | cases h1
theorem row_plain {ks : List Str} {p : P} (h : RowK ks p) : plainU p = true := by
  obtain ⟨vs, rfl, h⟩ := h
  unfold plainU
  exact plainUs_of fun v hv => by obtain ⟨k, z⟩ := h.mem v hv; exact val_plain z.ok
theorem row_okP {ks : List Str} {p : P} (hm : ks.length ≤ 1000) (h : RowK ks p) (n : Nat) : okP (n + 1) p = true := by
  obtain ⟨vs, rfl, h⟩ := h
  have hl := h.len
  simp only [okP, Bool.and_eq_true, decide_eq_true_eq, List.all_eq_true]
  exact ⟨by omega, fun v hv => by obtain ⟨k, z⟩ := h.mem v hv; exact val_okP z.ok n⟩
abbrev st_value : Stmt := (topS 9)
theorem sc_value : FnScope ["state", "kind", "text"] ["state", "kind"] (defScope st_value) := ⟨rfl, rfl, rfl, by decide +kernel, rfl, by decide +kernel, by decide +kernel⟩
def W_value : Spc := fun ds h R => ∃ (n : Nat) (ns : List Int) (a b c : Int) (kind : Str), ds = [.own n, dS kind] ∧ h[n]? = some (some (stO ns a b c)) ∧ OkSt ns a b c ∧
  ∀ (v : P) (a' b' c' : Int), OkSt ns a' b' c' → ValK kind v → R (.p v) (h.set n (some (stO ns a' b' c')))
def TXS : List Str := [Str.ofString "", Str.ofString "a", Str.ofString "b", Str.ofString "ab", Str.ofString "B"]
theorem txs_ok : ∀ s ∈ TXS, s.length ≤ 2 ∧ ∀ c ∈ s.cps.toList, CharOk c := by decide +kernel
theorem text_val {s : Str} {m : Nat} (hm : m ≤ 100000) (t : TextOk s m) : ValOk (.str s) := ⟨text_ok t, decide_eq_true (Nat.le_trans t.len hm)⟩
theorem ok_value (A : DefAt K mg "_law_value" st_value ["state", "kind"])
    (h__law_next : HasF Pg w K mg base CX0 1 "_law_next" ["state", "limit"] (spD K Θ W_next)) (h__law_char : HasF Pg w K mg base CX0 1 "_law_char" ["index"] (spD K Θ W_char)) : HasF Pg w K mg base CX0 2 "_law_value" ["state", "kind"] (spD K Θ W_value) := by
  have sc := sc_value
  refine A.okD sc W_value (fun ds h R ⟨_, _, _, _, _, _, e, _⟩ => by rw [e]; rfl) fun f cdv A outer s H E hr => ?_
  refine ⟨_, (pss_cons (ps_if (pt_cmpR (op_eqUK (K := K) (by rfl) hr.units) (h__law_next.call (hr.mono (by first | decide | omega)) rfl pass0 (pa_cons (pv 0) (pa_cons pe_int pa_nil))) pe_int (nomark _)) (pss_one (ps_ret pe_non)) pss_nil)
  (pss_cons (ps_if (pt_cmpR (op_eqUK (K := K) (by rfl) hr.units) (pv 1) pe_str (nomark _)) (pss_one (ps_ret (pe_cmpR (op_eqUK (K := K) (by rfl) hr.units) (h__law_next.call (hr.mono (by first | decide | omega)) rfl pass0 (pa_cons (pv 0) (pa_cons pe_int pa_nil))) pe_int (nomark _)))) pss_nil)
  (pss_cons (ps_if (pt_cmpR (op_eqUK (K := K) (by rfl) hr.units) (pv 1) pe_str (nomark _)) (pss_one (ps_ret (pe_op op_mulU (h__law_next.call (hr.mono (by first | decide | omega)) rfl pass0 (pa_cons (pv 0) (pa_cons (pe_ix (ix_seqK (K := K) (by rfl)) (pe_lst (pa_cons pe_int (pa_cons pe_int (pa_cons pe_int (pa_cons (pe_op op_pow pe_int pe_int) pa_nil))))) (h__law_next.call (hr.mono (by first | decide | omega)) rfl pass0 (pa_cons (pv 0) (pa_cons pe_int pa_nil))) (fun _ _ => rfl)) pa_nil))) (pe_op op_sub pe_int (pe_op op_mulU pe_int (h__law_next.call (hr.mono (by first | decide | omega)) rfl pass0 (pa_cons (pv 0) (pa_cons pe_int pa_nil)))))))) pss_nil)
  (pss_cons (ps_set (i := 2) sc.nd rfl (.inl rfl) (pe_ix (ix_seqK (K := K) (by rfl)) (pe_lst (pa_cons pe_str (pa_cons pe_str (pa_cons pe_str (pa_cons pe_str (pa_cons pe_str pa_nil)))))) (h__law_next.call (hr.mono (by first | decide | omega)) rfl pass0 (pa_cons (pv 0) (pa_cons pe_int pa_nil))) (fun _ _ => rfl)))
  (pss_cons (ps_if (pt_cmpR (op_eqUK (K := K) (by rfl) hr.units) (h__law_next.call (hr.mono (by first | decide | omega)) rfl pass0 (pa_cons (pv 0) (pa_cons pe_int pa_nil))) pe_int (nomark _)) (pss_one (ps_set (i := 2) sc.nd rfl (.inl rfl) (pe_op (op_addWK (K := K) (by rfl)) (pv 2) (h__law_char.call (hr.mono (by first | decide | omega)) rfl pass0 (pa_cons (h__law_next.call (hr.mono (by first | decide | omega)) rfl pass0 (pa_cons (pv 0) (pa_cons pe_int pa_nil))) pa_nil))))) pss_nil)
  (pss_one (ps_ret (pv 2)))))))), ?_⟩
  try dsimp only [cxOf]
  rintro ds h R ⟨n, ns, a, b, c, kind, rfl, hn, ok, q⟩
  have hl : n < h.length := (List.getElem?_eq_some_iff.mp hn).1
  rw [← set_same hn]
  k_places
  refine next_i hl ok (by decide) (by decide) fun z a b c ok z0 z1 => ?_
  k_places
  refine ite_dec (fun e1 => ?_) (fun e1 => ?_)
  · k_places
    exact q _ _ _ _ ok ⟨.inl rfl, rfl, rfl⟩
  k_places
  refine ite_dec (fun e2 => ?_) (fun e2 => ?_)
  · k_places
    refine next_i hl ok (by decide) (by decide) fun v a b c ok v0 v1 => ?_
    k_places
    exact q _ _ _ _ ok ⟨.inr (by rw [if_pos e2]; exact ⟨_, rfl⟩), rfl, rfl⟩
  k_places
  refine ite_dec (fun e3 => ?_) (fun e3 => ?_)
  · k_places
    refine ve_lst ?_
    k_places
    refine v2_pow (by decide) ?_
    k_places
    refine next_i hl ok (by decide) (by decide) fun i a b c ok i0 i1 => ?_
    rw [e40]
    have fin : ∀ m : Int, 0 < m → m ≤ 10000000000000000000000000000000000000000 → (∀ u a b c : Int, OkSt ns a b c → 0 ≤ u → u < m →
        VE K Θ (tOp (rI0 fun i j => V.int (i - j)) (tC (.int 1)) (tOp rMulU (tC (.int 2)) (tCall (spD K Θ W_next) [] E0 (tCons (tVar 0) (tCons (tC (.int 2)) tNil))))) (startD ["state", "kind", "text"] [.own n, dS kind]) (h.set n (some (stO ns a b c))) fun y h2 => V2 K Θ rMulU (dI u) y h2 R) := fun m m0 m1 u a b c ok u0 u1 => by
      k_places
      refine next_i hl ok (by decide) (by decide) fun v a b c ok v0 v1 => ?_
      k_places
      refine q _ _ _ _ ok ⟨.inr ?_, rfl, rfl⟩
      rw [if_neg e2, if_pos e3]
      refine ⟨_, rfl, ?_⟩
      have ev : v = 0 ∨ v = 1 := by omega
      have eP : (2 : Nat) ^ 200 = 1606938044258990275541962092341162602522202993782792835301376 := by decide +kernel
      rw [eP]
      rcases ev with rfl | rfl <;> omega
    have go : ∀ m : Int, 0 < m → m ≤ 10000000000000000000000000000000000000000 → m.natAbs.log2 < 9000 := fun m m0 m1 => Nat.lt_trans (log2_small (n := m.natAbs) (by
      have e : (2 : Nat) ^ 200 = 1606938044258990275541962092341162602522202993782792835301376 := by decide +kernel
      rw [e]
      omega)) (by decide)
    have hi : i = 0 ∨ i = 1 ∨ i = 2 ∨ i = 3 := by omega
    rcases hi with rfl | rfl | rfl | rfl
    · refine v2_ixL rfl ?_
      k_places
      exact next_i hl ok (by decide) (go _ (by decide) (by decide)) (fin _ (by decide) (by decide))
    · refine v2_ixL rfl ?_
      k_places
      exact next_i hl ok (by decide) (go _ (by decide) (by decide)) (fin _ (by decide) (by decide))
    · refine v2_ixL rfl ?_
      k_places
      exact next_i hl ok (by decide) (go _ (by decide) (by decide)) (fin _ (by decide) (by decide))
    · refine v2_ixL rfl ?_
      k_places
      exact next_i hl ok (by decide) (go _ (by decide) (by decide)) (fin _ (by decide) (by decide))
  k_subL
  k_subL
  k_places
  refine ve_lst ?_
  k_places
  refine next_i hl ok (by decide) (by decide) fun i a b c ok i0 i1 => ?_
  have hi : ∃ s ∈ TXS, atI (TXS.map P.str) i = some (.str s) := by
    have hk : i.toNat < (TXS.map P.str).length := by rw [List.length_map]; show i.toNat < 5; omega
    have hk2 : i.toNat < TXS.length := by show i.toNat < 5; omega
    refine ⟨TXS[i.toNat], List.getElem_mem hk2, ?_⟩
    refine at_nat i.toNat (by omega) ?_
    rw [List.getElem?_map, List.getElem?_eq_getElem hk2]
    rfl
  obtain ⟨t, ht, hat⟩ := hi
  obtain ⟨t1, t2⟩ := txs_ok t ht
  have isT : ∀ s : Str, KV kind (.str s) := fun s => .inr (by rw [if_neg e2, if_neg e3]; exact ⟨_, rfl⟩)
  refine v2_ixL hat ?_
  k_places
  refine next_i hl ok (by decide) (by decide) fun z a b c ok z0 z1 => ?_
  k_places
  refine ite_dec (fun e4 => ?_) (fun e4 => ?_)
  · k_places
    refine next_i hl ok (by decide) (by decide) fun v a b c ok v0 v1 => ?_
    k_places
    refine ⟨v, rfl, fun ch hch => ?_⟩
    have hlen := PySem.Str.length_append t ⟨#[ch]⟩
    have h1 : (⟨#[ch]⟩ : Str).length = 1 := rfl
    refine v2_addWS (by have := sizeLine_eq; omega) ?_
    k_places
    refine q _ _ _ _ ok ⟨isT _, text_val (m := 3) (by decide) ⟨by omega, fun x hx => ?_⟩⟩
    have e : (t ++ ⟨#[ch]⟩ : Str).cps.toList = t.cps.toList ++ [ch] := by
      show (t.cps ++ #[ch]).toList = _
      simp
    rw [e] at hx
    rcases List.mem_append.mp hx with hx | hx
    · exact t2 x hx
    · rw [List.mem_singleton.mp hx]; exact hch
  · k_places
    exact q _ _ _ _ ok ⟨isT _, text_val (m := 2) (by decide) ⟨t1, t2⟩⟩
end
end Law

namespace Law
open PySem PySem.Spec PyProof.Rows L2 Kb
-- the steps that are tried: k_clsL a side condition; k_subL one step; k_places steps as long as one fits
section
variable {Pg : Program} {w : World} {K : PySem.W.Frag} {Θ : Tbs} {mg : Str → Option Value} {base : Heap}
/-- the turns of a comprehension over a list each of which draws a value -/
theorem draws_ofL {ps : List P} {S : Nat → P → Prop} {te : TE} {kk n : Nat} {env : Env'} {h0 : Hs} {Z : List P → Hs → Prop} {ns : List Int} {a b c : Int} (hl : n < h0.length) (ok : OkSt ns a b c) (hm : ps.length < sizeLine)
    (turn : ∀ (i : Nat) (d : P) (acc : List P) (a b c : Int) (T : D → Hs → Prop), ps[i]? = some d → OkSt ns a b c → (∀ (p : P) (a b c : Int), OkSt ns a b c → S i p → T (.p p) (h0.set n (some (stO ns a b c)) ++ [accO acc])) →
      VE K Θ te ((env.set kk none).set kk (some (.p d))) (h0.set n (some (stO ns a b c)) ++ [accO acc]) T)
    (q : ∀ (acc : List P) (a b c : Int), acc.length = ps.length → (∀ (i : Nat) (p : P), acc[i]? = some p → S i p) → OkSt ns a b c → Z acc (h0.set n (some (stO ns a b c)))) :
    ∃ Inv : Nat → List P → Hs → Prop, (ps.map D.p).length < sizeLine ∧ Inv 0 [] (h0.set n (some (stO ns a b c))) ∧
      (∀ i acc h', Inv i acc h' → h'.length = (h0.set n (some (stO ns a b c))).length ∧ lowH (h0.set n (some (stO ns a b c))) h' ∧ (fun _ => True) (h' ++ [accO acc])) ∧
      (∀ i d acc h', (ps.map D.p)[i]? = some d → Inv i acc h' → VG K Θ (gName kk) d (wipeD env [kk]) (h' ++ [accO acc]) fun env' h2 => VT K Θ tYes env' h2 fun b h3 => if b = true then VE K Θ te env' h3 (fun y h4 => ∃ p h5, y = .p p ∧ h4 = h5 ++ [accO acc] ∧ Inv (i + 1) (acc ++ [p]) h5) else ∃ h5, h3 = h5 ++ [accO acc] ∧ Inv (i + 1) acc h5) ∧
      (∀ acc h', Inv (ps.map D.p).length acc h' → Z acc h') := by
  refine ⟨fun i acc h' => ∃ a b c : Int, acc.length = i ∧ (∀ (j : Nat) (p : P), acc[j]? = some p → S j p) ∧ h' = h0.set n (some (stO ns a b c)) ∧ OkSt ns a b c, by rw [List.length_map]; exact hm, ⟨a, b, c, rfl, fun _ _ z => by simp at z, rfl, ok⟩, ?_, ?_, ?_⟩
  · rintro i acc h' ⟨a2, b2, c2, hi, hs, rfl, ok2⟩
    refine ⟨by simp, ?_, trivial⟩
    have z := (lowH.refl (h0.set n (some (stO ns a b c)))).set (n := n) (o := stO ns a2 b2 c2) stO_low
    rw [List.set_set] at z
    exact z
  · rintro i d acc h' hd ⟨a2, b2, c2, hi, hs, rfl, ok2⟩
    rw [List.getElem?_map] at hd
    cases e : ps[i]? with
    | none => rw [e] at hd; cases hd
    | some d0 =>
      rw [e] at hd; cases hd
      refine vg_name (vt_yes (ite_t ?_))
      refine turn i d0 acc a2 b2 c2 _ e ok2 fun p a3 b3 c3 ok3 hp => ⟨p, _, rfl, rfl, a3, b3, c3, by simp [hi], fun j x hx => ?_, rfl, ok3⟩
      by_cases hj : j < acc.length
      · rw [List.getElem?_append_left hj] at hx; exact hs j x hx
      · rw [List.getElem?_append_right (by omega)] at hx
        have hj0 : j - acc.length = 0 := by
          cases hk : j - acc.length with
          | zero => rfl
          | succ m => rw [hk] at hx; simp at hx
        rw [hj0] at hx
        cases hx
        have : j = i := by omega
        rw [this]; exact hp
  · rintro acc h' ⟨a2, b2, c2, hi, hs, rfl, ok2⟩
    rw [List.length_map] at hi
    exact q acc a2 b2 c2 hi hs ok2
abbrev st_rows : Stmt := (topS 15)
theorem sc_rows : FnScope ["state", "kinds", "rows", "k", "kind"] ["state", "kinds"] (defScope st_rows) := ⟨rfl, rfl, rfl, by decide +kernel, rfl, by decide +kernel, by decide +kernel⟩
def W_rows : Spc := fun ds h R => ∃ (n : Nat) (ns : List Int) (a b c : Int) (kinds : List Str), ds = [.own n, dL (kinds.map P.str)] ∧ h[n]? = some (some (stO ns a b c)) ∧ OkSt ns a b c ∧ kinds.length ≤ 2 ∧
  ∀ (xs : List P) (a' b' c' : Int), OkSt ns a' b' c' → xs.length ≤ 6 → (∀ r ∈ xs, RowK kinds r) → R (dL xs) (h.set n (some (stO ns a' b' c')) ++ [none])
theorem ok_rows (A : DefAt K mg "_law_rows" st_rows ["state", "kinds"]) (m_range : mg "range" = none) (m_tuple : mg "tuple" = none) (m_len : mg "len" = none)
    (h__law_next : HasF Pg w K mg base CX0 1 "_law_next" ["state", "limit"] (spD K Θ W_next)) (h__law_value : HasF Pg w K mg base CX0 2 "_law_value" ["state", "kind"] (spD K Θ W_value)) : HasF Pg w K mg base CX0 3 "_law_rows" ["state", "kinds"] (spD K Θ W_rows) := by
  have sc := sc_rows
  refine A.okD sc W_rows (fun ds h R ⟨_, _, _, _, _, _, e, _⟩ => by rw [e]; rfl) fun f cdv A outer s H E hr => ?_
  refine ⟨_, (pss_cons (ps_setLc (i := 2) (own := [("k", 3)]) rfl sc.nd rfl rfl (sw_true rfl rfl rfl (by decide +kernel)) (pi_range1 rfl m_range (pa_cons (h__law_next.call (hr.mono (by first | decide | omega)) rfl pass0 (pa_cons (pv 0) (pa_cons pe_int pa_nil))) pa_nil)) (blkOk_by (N := ["state", "kinds", "rows", "k", "kind"]) (sc := defScope (topS 15)) (by decide +kernel)) (fun _ _ _ _ _ => (pg_name (i := 3) sc.nd rfl (.inl rfl))) (fun _ _ _ _ _ => pts_nil) (fun _ _ _ _ _ => (pe_callTy (call_tuple_ofK (K := K) (by rfl)) (by rfl) m_tuple (by decide +kernel) (pa_cons (pe_lc (own := [("kind", 4)]) rfl sc.nd (pi_seqK (K := K) (by rfl) (pv 1)) (blkOk_by (N := ["state", "kinds", "rows", "k", "kind"]) (sc := { kind := .function, names := [(PySem.Str.ofString ".0", .local), (PySem.Str.ofString "k", .local), (PySem.Str.ofString "tuple", .globalImplicit), (PySem.Str.ofString "kinds", .cell), (PySem.Str.ofString "state", .cell)], isGenerator := false, isCoroutine := false }) (by decide +kernel)) (fun _ _ _ _ _ => (pg_name (i := 4) sc.nd rfl (.inl rfl))) (fun _ _ _ _ _ => pts_nil) (fun _ _ _ _ _ => (h__law_value.call (hr.mono (by first | decide | omega)) rfl pass0 (pa_cons (pv 0) (pa_cons (pv 4) pa_nil))))) pa_nil))))
  (pss_cons (ps_if (PW.pt (pw_and (pt_cmpR op_gt (pe_callB (call_lenK (K := K) (by rfl)) (by rfl) m_len (by decide +kernel) (pa_cons (pv 2) pa_nil)) pe_int (nomark _)) (pw_and1 (pt_cmpR (op_eqUK (K := K) (by rfl) hr.units) (h__law_next.call (hr.mono (by first | decide | omega)) rfl pass0 (pa_cons (pv 0) (pa_cons pe_int pa_nil))) pe_int (nomark _))))) (pss_one (ps_asg (pe_ix (ix_seqK (K := K) (by rfl)) (pv 2) pe_int (fun _ _ => rfl)) (pg_sub (pv 2) (pe_un un_neg pe_int) set_list))) pss_nil)
  (pss_one (ps_ret (pv 2))))), ?_⟩
  try dsimp only [cxOf]
  rintro ds h R ⟨n, ns, a, b, c, kinds, rfl, hn, ok, hk, q⟩
  have sz := sizeLine_eq
  have hl : n < h.length := (List.getElem?_eq_some_iff.mp hn).1
  rw [← set_same hn]
  k_subL
  k_places
  refine ve_lcIO tg_name ?_
  refine vi_range1 ?_
  k_places
  refine next_i hl ok (by decide) (by decide) fun m a b c ok m0 m1 => ?_
  k_places
  refine ⟨m, rfl, by omega, by omega, ?_⟩
  refine draws_of (S := RowK kinds) (n := n) (h0 := h) (m := m.toNat) hl ok (by omega) (fun i acc a b c T ok hT => ?_) fun xs a b c xl xok ok => ?_
  · have hl2 : n < (h ++ [accO acc]).length := by rw [List.length_append]; omega
    rw [app_assoc' hl]
    k_places
    refine ve_lcI tg_name ?_
    refine vi_seqL ?_
    k_places
    refine ⟨kinds.map P.str, rfl, ?_⟩
    refine draws_ofL (ps := kinds.map P.str) (S := fun i p => ∀ k, kinds[i]? = some k → ValK k p) (n := n) hl2 ok (by rw [List.length_map]; omega) (fun i d acc2 a b c T2 hd ok hT2 => ?_) fun vs a b c vl vok ok => ?_
    · rw [List.getElem?_map] at hd
      cases ek : kinds[i]? with
      | none => rw [ek] at hd; cases hd
      | some kd =>
        rw [ek] at hd; cases hd
        have hl3 : n < (h ++ [accO acc] ++ [accO acc2]).length := by rw [List.length_append]; omega
        rw [app_assoc' hl2]
        k_places
        refine ⟨n, ns, a, b, c, kd, rfl, List.getElem?_set_self hl3, ok, fun v a b c ok hv => ?_⟩
        rw [List.set_set, ← app_assoc' hl2]
        exact hT2 v a b c ok fun k e => by rw [ek] at e; cases e; exact hv
    · k_places
      refine vc_tuple rfl ?_
      rw [← app_assoc' hl]
      refine hT _ a b c ok ⟨vs, rfl, KVs.of (by rw [vl, List.length_map]) fun i k v e1 e2 => vok i v e2 k e1⟩
  · have ln : (h.set n (some (stO ns a b c)) ++ [accO xs])[h.length]? = some (accO xs) := by
      rw [List.getElem?_append_right (by rw [List.length_set]; omega), List.length_set, Nat.sub_self]; rfl
    have st : ∀ o, (h.set n (some (stO ns a b c)) ++ [accO xs]).set h.length o = h.set n (some (stO ns a b c)) ++ [o] := fun o => by
      rw [List.set_append_right _ _ (by rw [List.length_set]; omega), List.length_set, Nat.sub_self]; rfl
    rw [List.length_set]
    refine vg_name ?_
    refine vs_cut (fun env' h' => ∃ (a b c : Int) (xs : List P), env' = (startD ["state", "kinds", "rows", "k", "kind"] [.own n, dL (kinds.map P.str)]).set 2 (some (.own h.length)) ∧ h' = h.set n (some (stO ns a b c)) ++ [accO xs] ∧ OkSt ns a b c ∧ xs.length ≤ 6 ∧ ∀ r ∈ xs, RowK kinds r) ?_ ?_
    · have l6 : xs.length ≤ 6 := by omega
      have hl2 : n < (h ++ [accO xs]).length := by rw [List.length_append]; omega
      have lx : (xs.map D.p).length = xs.length := List.length_map _
      k_places
      refine vc_lenO ln ?_
      k_places
      rw [lx]
      refine ite_dec (fun e1 => ?_) (fun e1 => ?_)
      · k_places
        rw [app_assoc' hl]
        refine next_i hl2 ok (by decide) (by decide) fun v a b c ok v0 v1 => ?_
        rw [← app_assoc' hl]
        have ln : (h.set n (some (stO ns a b c)) ++ [accO xs])[h.length]? = some (accO xs) := by
          rw [List.getElem?_append_right (by rw [List.length_set]; omega), List.length_set, Nat.sub_self]; rfl
        k_places
        refine ite_dec (fun e2 => ?_) (fun e2 => ?_)
        · have h0 : 0 < xs.length := by omega
          k_places
          refine v2_ixO ln (at_nat 0 rfl (by rw [List.getElem?_map, List.getElem?_eq_getElem h0]; rfl)) ?_
          k_places
          refine vg_sub ?_
          k_places
          have ie : ixN (xs.map D.p).length (-1) = some (xs.length - 1) := by
            rw [lx]
            unfold ixN
            rw [if_neg (by omega), if_pos (by omega)]
            congr 1
            omega
          refine ⟨h.length, _, _, _, rfl, rfl, ln, ie, ?_⟩
          refine ⟨a, b, c, xs.set (xs.length - 1) xs[0], rfl, ?_, ok, by rw [List.length_set]; exact l6, fun r hr => ?_⟩
          · rw [List.set_append_right _ _ (by rw [List.length_set]; omega), List.length_set, Nat.sub_self, ← List.map_set]; rfl
          · rcases List.mem_or_eq_of_mem_set hr with hr | rfl
            · exact xok r hr
            · exact xok _ (List.getElem_mem h0)
        · k_places
          exact ⟨a, b, c, xs, rfl, rfl, ok, l6, xok⟩
      · k_places
        exact ⟨a, b, c, xs, rfl, rfl, ok, l6, xok⟩
    · rintro env' h' ⟨a, b, c, xs, rfl, rfl, ok, l6, xok⟩
      have ln : (h.set n (some (stO ns a b c)) ++ [accO xs])[h.length]? = some (accO xs) := by
        rw [List.getElem?_append_right (by rw [List.length_set]; omega), List.length_set, Nat.sub_self]; rfl
      refine vs_freeze (i := 2) (n := h.length) rfl ln ?_
      rw [List.set_append_right _ _ (by rw [List.length_set]; omega), List.length_set, Nat.sub_self]
      k_places
      exact q xs a b c ok l6 xok
end
end Law

namespace Law
open PySem PySem.Spec PyProof.Rows L2 Kb
-- the steps that are tried: k_clsL a side condition; k_subL one step; k_places steps as long as one fits
section
variable {Pg : Program} {w : World} {K : PySem.W.Frag} {Θ : Tbs} {mg : Str → Option Value} {base : Heap}
abbrev st_newer : Stmt := (topS 16)
theorem sc_newer : FnScope ["state", "old", "kinds", "new", "row"] ["state", "old", "kinds"] (defScope st_newer) := ⟨rfl, rfl, rfl, by decide +kernel, rfl, by decide +kernel, by decide +kernel⟩
def W_newer : Spc := fun ds h R => ∃ (n : Nat) (ns : List Int) (a b c : Int) (old : List P) (kinds : List Str), ds = [.own n, dL old, dL (kinds.map P.str)] ∧ h[n]? = some (some (stO ns a b c)) ∧ OkSt ns a b c ∧ kinds.length ≤ 2 ∧ old.length ≤ 6 ∧ (∀ r ∈ old, RowK kinds r) ∧
  ∀ (xs : List P) (a' b' c' : Int), OkSt ns a' b' c' → xs.length ≤ 12 → (∀ r ∈ xs, RowK kinds r) → R (dL xs) (h.set n (some (stO ns a' b' c')) ++ [none])
theorem ok_newer (A : DefAt K mg "_law_newer" st_newer ["state", "old", "kinds"])
    (h__law_next : HasF Pg w K mg base CX0 1 "_law_next" ["state", "limit"] (spD K Θ W_next)) (h__law_rows : HasF Pg w K mg base CX0 3 "_law_rows" ["state", "kinds"] (spD K Θ W_rows)) : HasF Pg w K mg base CX0 4 "_law_newer" ["state", "old", "kinds"] (spD K Θ W_newer) := by
  have sc := sc_newer
  refine A.okD sc W_newer (fun ds h R ⟨_, _, _, _, _, _, _, e, _⟩ => by rw [e]; rfl) fun f cdv A outer s H E hr => ?_
  refine ⟨_, (pss_cons (ps_set (i := 3) sc.nd rfl (.inl rfl) (h__law_rows.call (hr.mono (by first | decide | omega)) rfl pass0 (pa_cons (pv 0) (pa_cons (pv 2) pa_nil))))
  (pss_cons (ps_if (pt_cmpR op_gt (h__law_next.call (hr.mono (by first | decide | omega)) rfl pass0 (pa_cons (pv 0) (pa_cons pe_int pa_nil))) pe_int (nomark _)) (pss_one (ps_set (i := 3) sc.nd rfl (.inl rfl) (pe_op (op_addWK (K := K) (by rfl)) (pe_slice (sl_listK (K := K) (by rfl)) (pv 3) po_none (po_some pe_int)) (pe_lc (own := [("row", 4)]) rfl sc.nd (pi_seqK (K := K) (by rfl) (pv 1)) (blkOk_by (N := ["state", "old", "kinds", "new", "row"]) (sc := defScope (topS 16)) (by decide +kernel)) (fun _ _ _ _ _ => (pg_name (i := 4) sc.nd rfl (.inl rfl))) (fun _ _ _ _ _ => (pts_one (pt_cmpR op_gt (h__law_next.call (hr.mono (by first | decide | omega)) rfl pass0 (pa_cons (pv 0) (pa_cons pe_int pa_nil))) pe_int (nomark _)))) (fun _ _ _ _ _ => (pv 4)))))) pss_nil)
  (pss_one (ps_ret (pv 3))))), ?_⟩
  try dsimp only [cxOf]
  rintro ds h R ⟨n, ns, a, b, c, old, kinds, rfl, hn, ok, hk, ho, hok, q⟩
  have sz := sizeLine_eq
  have hl : n < h.length := (List.getElem?_eq_some_iff.mp hn).1
  k_places
  refine ⟨n, ns, a, b, c, kinds, rfl, hn, ok, hk, fun xs a b c ok l6 xok => ?_⟩
  have hl2 : n < (h ++ [none]).length := by rw [List.length_append]; omega
  k_places
  rw [app_assoc' hl]
  refine next_i hl2 ok (by decide) (by decide) fun v a b c ok v0 v1 => ?_
  k_places
  refine ite_dec (fun e1 => ?_) (fun e1 => ?_)
  · k_places
    refine ve_slL ?_
    k_places
    refine vo_none (vo_some ?_)
    k_places
    refine ⟨_, rfl, xs, rfl, ?_⟩
    k_places
    refine ve_lcI tg_name ?_
    refine vi_seqL ?_
    k_places
    refine ⟨old, rfl, ?_⟩
    refine ⟨fun i acc h' => ∃ a b c : Int, acc.length ≤ i ∧ (∀ p ∈ acc, RowK kinds p) ∧ h' = (h ++ [none]).set n (some (stO ns a b c)) ∧ OkSt ns a b c, by rw [List.length_map]; omega, ⟨a, b, c, Nat.le_refl _, fun _ z => by simp at z, rfl, ok⟩, ?_, ?_, ?_⟩
    · rintro i acc h' ⟨a2, b2, c2, hi, hs, rfl, ok2⟩
      refine ⟨by simp, ?_, trivial⟩
      have z := (lowH.refl ((h ++ [none]).set n (some (stO ns a b c)))).set (n := n) (o := stO ns a2 b2 c2) stO_low
      rw [List.set_set] at z
      exact z
    · rintro i d acc h' hd ⟨a2, b2, c2, hi, hs, rfl, ok2⟩
      rw [List.getElem?_map] at hd
      cases e : old[i]? with
      | none => rw [e] at hd; cases hd
      | some d0 =>
        rw [e] at hd; cases hd
        have hl3 : n < (h ++ [none] ++ [accO acc]).length := by rw [List.length_append]; omega
        refine vg_name ?_
        k_places
        rw [app_assoc' hl2]
        refine next_i hl3 ok2 (by decide) (by decide) fun v a b c ok v0 v1 => ?_
        rw [← app_assoc' hl2]
        k_places
        refine ite_dec (fun e1 => ?_) (fun e1 => ?_)
        · k_places
          refine ⟨d0, _, rfl, rfl, a, b, c, by simp [hi], fun x hx => ?_, rfl, ok⟩
          rcases List.mem_append.mp hx with hx | hx
          · exact hs x hx
          · rw [List.mem_singleton.mp hx]; exact hok d0 (List.mem_of_getElem? e)
        · exact ⟨_, rfl, a, b, c, by omega, hs, rfl, ok⟩
    · rintro acc h' ⟨a2, b2, c2, hi, hs, rfl, ok2⟩
      rw [List.length_map] at hi
      have l2 : (cutP xs none (some 2)).length ≤ xs.length := by
        unfold cutP
        rw [List.length_take, List.length_drop]; omega
      refine v2_addWL (by omega) ?_
      k_places
      rw [← app_assoc' hl]
      refine q _ _ _ _ ok2 (by rw [List.length_append]; omega) fun r hr => ?_
      rcases List.mem_append.mp hr with hr | hr
      · exact xok r (List.mem_of_mem_drop (List.mem_of_mem_take hr))
      · exact hs r hr
  · k_places
    rw [← app_assoc' hl]
    exact q xs a b c ok (by omega) xok
end
end Law

namespace Law
open PySem PySem.Spec PyProof.Rows L2 Kb
-- the steps that are tried: k_clsL a side condition; k_subL one step; k_places steps as long as one fits
section
variable {Pg : Program} {w : World} {K : PySem.W.Frag} {Θ : Tbs} {mg : Str → Option Value} {base : Heap}
/-- rows of one column or more -/
def SRow (p : P) : Prop := ∃ ks : List Str, ks ≠ [] ∧ RowK ks p
def firstP : P → P
  | .tup (v :: _) => v
  | _ => .non
def lastP : P → P
  | .tup vs => (vs[vs.length - 1]?).getD .non
  | _ => .non
def isNonP : P → Bool
  | .non => true
  | _ => false
def isStrP : P → Bool
  | .str _ => true
  | _ => false
def notZ : P → Bool
  | .int i => !decide (i = 0)
  | .bl b => b
  | _ => true
def cAlways (_ : P) : Bool := true
def cNever (_ : P) : Bool := false
def cEnds (p : P) : Bool := (isNonP (firstP p) && isNonP (lastP p)) || (isStrP (firstP p) == isStrP (lastP p))
def cFirst (p : P) : Bool := !isNonP (firstP p) && notZ (firstP p)
def cLast (p : P) : Bool := decide ((strP (lastP p)).cps.toList < (Str.ofString "2").cps.toList)
theorem srow_of {p : P} (h : SRow p) : ∃ vs : List P, p = .tup vs ∧ atI vs 0 = some (firstP p) ∧ atI vs (-1) = some (lastP p) ∧ ValOk (firstP p) ∧ ValOk (lastP p) ∧ (∃ k, KV k (firstP p)) ∧ ∃ k, KV k (lastP p) := by
  obtain ⟨ks, hne, vs, rfl, h⟩ := h
  have hl := h.len
  cases vs with
  | nil => cases ks with
    | nil => exact absurd rfl hne
    | cons _ _ => cases hl
  | cons v vs =>
    have el : lastP (.tup (v :: vs)) = (v :: vs)[(v :: vs).length - 1]'(by simp) := by
      show ((v :: vs)[(v :: vs).length - 1]?).getD .non = _
      rw [List.getElem?_eq_getElem (by simp)]
      rfl
    obtain ⟨k1, m1⟩ := h.mem v List.mem_cons_self
    obtain ⟨k2, m2⟩ := h.mem (lastP (.tup (v :: vs))) (by rw [el]; exact List.getElem_mem _)
    exact ⟨v :: vs, rfl, at_nat 0 rfl rfl, by rw [el]; exact at_last (by simp), m1.ok, m2.ok, ⟨k1, m1.kv⟩, ⟨k2, m2.kv⟩⟩
theorem atom_shaped {v : P} (h : okA v = true) : SeqAt.shaped (pyOf v) = true := by
  cases v with
  | non => simp [SeqAt.shaped, pyOf, PyData.canLay0, PyData.depth]
  | bl _ => simp [SeqAt.shaped, pyOf, PyData.canLay0, PyData.depth]
  | int _ => simp [SeqAt.shaped, pyOf, PyData.canLay0, PyData.depth]
  | str s => simp [SeqAt.shaped, pyOf, PyData.canLay0, PyData.depth, show PyData.strOk s = true from h]
  | _ => cases h
abbrev st_c1 : Stmt := (topS 10)
theorem sc_c1 : FnScope ["row"] ["row"] (defScope st_c1) := ⟨rfl, rfl, rfl, by decide +kernel, rfl, by decide +kernel, by decide +kernel⟩
theorem ok_c1 (A : DefAt K mg "_law_always" st_c1 ["row"]) : HasF Pg w K mg base CX0 1 "_law_always" ["row"] (spD K Θ (W_cond SRow cAlways)) := by
  have sc := sc_c1
  refine A.okD sc (W_cond SRow cAlways) (fun ds h R ⟨_, e, _⟩ => by rw [e]; rfl) fun f cdv A outer s H E hr => ?_
  refine ⟨_, (pss_one (ps_ret pe_bl)), ?_⟩
  try dsimp only [cxOf]
  rintro ds h R ⟨p, rfl, hp, q⟩
  k_places
  exact q
abbrev st_c2 : Stmt := (topS 11)
theorem sc_c2 : FnScope ["row"] ["row"] (defScope st_c2) := ⟨rfl, rfl, rfl, by decide +kernel, rfl, by decide +kernel, by decide +kernel⟩
theorem ok_c2 (A : DefAt K mg "_law_never" st_c2 ["row"]) : HasF Pg w K mg base CX0 1 "_law_never" ["row"] (spD K Θ (W_cond SRow cNever)) := by
  have sc := sc_c2
  refine A.okD sc (W_cond SRow cNever) (fun ds h R ⟨_, e, _⟩ => by rw [e]; rfl) fun f cdv A outer s H E hr => ?_
  refine ⟨_, (pss_one (ps_ret pe_bl)), ?_⟩
  try dsimp only [cxOf]
  rintro ds h R ⟨p, rfl, hp, q⟩
  k_places
  exact q
abbrev st_c3 : Stmt := (topS 12)
theorem sc_c3 : FnScope ["row"] ["row"] (defScope st_c3) := ⟨rfl, rfl, rfl, by decide +kernel, rfl, by decide +kernel, by decide +kernel⟩
theorem ok_c3 (A : DefAt K mg "_law_ends_agree" st_c3 ["row"]) (m_str : mg "str" = none) (m_isinstance : mg "isinstance" = none) : HasF Pg w K mg base CX0 1 "_law_ends_agree" ["row"] (spD K Θ (W_cond SRow cEnds)) := by
  have sc := sc_c3
  refine A.okD sc (W_cond SRow cEnds) (fun ds h R ⟨_, e, _⟩ => by rw [e]; rfl) fun f cdv A outer s H E hr => ?_
  refine ⟨_, (pss_one (ps_ret (pe_or (pe_and (pe_cmpR op_isU (pe_ix (ix_seqK (K := K) (by rfl)) (pv 0) pe_int (fun _ _ => rfl)) pe_non (nomark _)) (pe_one (pe_cmpR op_isU (pe_ix (ix_seqK (K := K) (by rfl)) (pv 0) (pe_un un_neg pe_int) (fun _ _ => rfl)) pe_non (nomark _)))) (pe_one (pe_cmpR (op_eqUK (K := K) (by rfl) hr.units) (pe_callB (call_isiUK (K := K) (by rfl)) (by rfl) m_isinstance (by decide +kernel) (pa_cons (pe_ix (ix_seqK (K := K) (by rfl)) (pv 0) pe_int (fun _ _ => rfl)) (pa_cons (pe_bltn (v := .ty "str") rfl m_str (by decide +kernel) rfl) pa_nil))) (pe_callB (call_isiUK (K := K) (by rfl)) (by rfl) m_isinstance (by decide +kernel) (pa_cons (pe_ix (ix_seqK (K := K) (by rfl)) (pv 0) (pe_un un_neg pe_int) (fun _ _ => rfl)) (pa_cons (pe_bltn (v := .ty "str") rfl m_str (by decide +kernel) rfl) pa_nil))) (nomark _)))))), ?_⟩
  try dsimp only [cxOf]
  rintro ds h R ⟨p, rfl, hp, q⟩
  obtain ⟨vs, rfl, a0, a1, o1, o2, ⟨k1, c1⟩, ⟨k2, c2⟩⟩ := srow_of hp
  unfold cEnds at q
  generalize firstP (.tup vs) = v at *
  generalize lastP (.tup vs) = u at *
  clear o1 o2 hp
  have isi : ∀ {x : P} {k : Str} {T : D → Hs → Prop}, KV k x → T (dB (isStrP x)) h → VC K Θ (rIsiU K) [.p x, .p (.ty "str")] h T := fun {x k T} c t => by
    rcases c.cases with rfl | ⟨b, rfl⟩ | ⟨i, rfl, _⟩ | ⟨s, rfl⟩
    · k_places; exact t
    · k_places; exact t
    · k_places; exact t
    · k_places; exact t
  have non : ∀ {x : P} {k : Str}, KV k x → isNonD (.p x) = isNonP x := fun {x k} c => by
    rcases c.cases with rfl | ⟨b, rfl⟩ | ⟨i, rfl, _⟩ | ⟨s, rfl⟩ <;> rfl
  k_places
  refine v2_ixT a0 ?_
  k_places
  rw [non c1]
  cases e : isNonP v with
  | false =>
    rw [if_neg (by simp)]
    refine ⟨false, rfl, ?_⟩
    rw [if_neg (by simp)]
    k_places
    refine v2_ixT a0 ?_
    k_places
    refine isi c1 ?_
    k_places
    refine v2_ixT a1 ?_
    k_places
    refine isi c2 ?_
    k_places
    rw [e, Bool.false_and, Bool.false_or] at q
    exact q
  | true =>
    rw [if_pos rfl]
    k_places
    refine v2_ixT a1 ?_
    k_places
    rw [non c2]
    rw [e, Bool.true_and] at q
    cases e2 : isNonP u with
    | true =>
      rw [if_pos rfl]
      rw [e2, Bool.true_or] at q
      exact q
    | false =>
      rw [if_neg (by simp)]
      rw [e2, Bool.false_or] at q
      k_places
      refine v2_ixT a0 ?_
      k_places
      refine isi c1 ?_
      k_places
      refine v2_ixT a1 ?_
      k_places
      refine isi c2 ?_
      k_places
      exact q
abbrev st_c4 : Stmt := (topS 13)
theorem sc_c4 : FnScope ["row"] ["row"] (defScope st_c4) := ⟨rfl, rfl, rfl, by decide +kernel, rfl, by decide +kernel, by decide +kernel⟩
theorem ok_c4 (A : DefAt K mg "_law_first_set" st_c4 ["row"]) : HasF Pg w K mg base CX0 1 "_law_first_set" ["row"] (spD K Θ (W_cond SRow cFirst)) := by
  have sc := sc_c4
  refine A.okD sc (W_cond SRow cFirst) (fun ds h R ⟨_, e, _⟩ => by rw [e]; rfl) fun f cdv A outer s H E hr => ?_
  refine ⟨_, (pss_one (ps_ret (pe_and (pe_cmpR op_notN (pe_ix (ix_seqK (K := K) (by rfl)) (pv 0) pe_int (fun _ _ => rfl)) pe_non (nomark _)) (pe_one (pe_cmpR (op_neUK (K := K) (by rfl) hr.units) (pe_ix (ix_seqK (K := K) (by rfl)) (pv 0) pe_int (fun _ _ => rfl)) pe_int (nomark _)))))), ?_⟩
  try dsimp only [cxOf]
  rintro ds h R ⟨p, rfl, hp, q⟩
  obtain ⟨vs, rfl, a0, a1, o1, o2, ⟨k1, c1⟩, ⟨k2, c2⟩⟩ := srow_of hp
  unfold cFirst at q
  generalize firstP (.tup vs) = v at *
  k_places
  refine v2_ixT a0 ?_
  k_places
  rcases c1.cases with rfl | ⟨b, rfl⟩ | ⟨i, rfl, _⟩ | ⟨s, rfl⟩
  · exact q
  · refine ite_tt (by rfl) ?_
    k_places
    refine v2_ixT a0 ?_
    k_places
    refine v2_neP rfl rfl (by cases b <;> rfl) rfl ?_
    have e : (!PyData.eqv (pyOf (.bl b)) (pyOf (.int 0))) = (!isNonP (.bl b) && notZ (.bl b)) := by cases b <;> rfl
    rw [e]
    exact q
  · refine ite_tt (by rfl) ?_
    k_places
    refine v2_ixT a0 ?_
    k_places
    exact q
  · refine ite_tt (by rfl) ?_
    k_places
    refine v2_ixT a0 ?_
    k_places
    refine v2_neP rfl rfl (atom_shaped o1.1) rfl ?_
    exact q
abbrev st_c5 : Stmt := (topS 14)
theorem sc_c5 : FnScope ["row"] ["row"] (defScope st_c5) := ⟨rfl, rfl, rfl, by decide +kernel, rfl, by decide +kernel, by decide +kernel⟩
theorem ok_c5 (A : DefAt K mg "_law_last_short" st_c5 ["row"]) (m_str : mg "str" = none) : HasF Pg w K mg base CX0 1 "_law_last_short" ["row"] (spD K Θ (W_cond SRow cLast)) := by
  have sc := sc_c5
  refine A.okD sc (W_cond SRow cLast) (fun ds h R ⟨_, e, _⟩ => by rw [e]; rfl) fun f cdv A outer s H E hr => ?_
  refine ⟨_, (pss_one (ps_ret (pe_cmpR op_ltG (pe_callTy call_strA (by rfl) m_str (by decide +kernel) (pa_cons (pe_ix (ix_seqK (K := K) (by rfl)) (pv 0) (pe_un un_neg pe_int) (fun _ _ => rfl)) pa_nil)) pe_str (nomark _)))), ?_⟩
  try dsimp only [cxOf]
  rintro ds h R ⟨p, rfl, hp, q⟩
  obtain ⟨vs, rfl, a0, a1, o1, o2, ⟨k1, c1⟩, ⟨k2, c2⟩⟩ := srow_of hp
  unfold cLast at q
  generalize lastP (.tup vs) = u at *
  have so : strOk u := by
    rcases c2.cases with rfl | ⟨b, rfl⟩ | ⟨i, rfl, hi⟩ | ⟨s, rfl⟩
    · exact trivial
    · exact trivial
    · exact Nat.lt_trans (log2_small hi) (by decide)
    · exact trivial
  k_places
  refine v2_ixT a1 ?_
  k_places
  refine vc_strA so ?_
  k_places
  exact q
end
end Law

namespace Law
open PySem PySem.Spec PyProof.Rows L2 Kb
-- the steps that are tried: k_clsL a side condition; k_subL one step; k_places steps as long as one fits
section
variable {Pg : Program} {w : World} {K : PySem.W.Frag} {Θ : Tbs} {mg : Str → Option Value} {base : Heap}
/-! ### rows counted -/
theorem val_flat {v : P} (h : ValOk v) : Kb.Flat 0 v := by
  obtain ⟨h1, _⟩ := h
  cases v with
  | non => exact .non
  | bl b => exact .bl b
  | int i => exact .int i
  | str s => exact ⟨by simp [pyOf, PyData.canLay0, show PyData.strOk s = true from h1], Nat.zero_le _, rfl⟩
  | _ => cases h1
theorem row_flat {ks : List Str} {p : P} (h : RowK ks p) : Kb.Flat 1 p := by
  obtain ⟨vs, rfl, h⟩ := h
  exact .tup fun v hv => by obtain ⟨k, z⟩ := h.mem v hv; exact val_flat z.ok
theorem KV.eqv {k : Str} {v u : P} (h : KV k v) (g : KV k u) : PyData.eqv (pyOf v) (pyOf u) = decide (nkP v = nkP u) := by
  rcases h with rfl | h
  · rcases g with rfl | g
    · simp [pyOf, PyData.eqv]
    · split at g
      · obtain ⟨b, rfl⟩ := g; simp [pyOf, PyData.eqv, nkP]
      · split at g
        · obtain ⟨b, rfl, _⟩ := g; simp [pyOf, PyData.eqv, nkP]
        · obtain ⟨b, rfl⟩ := g; simp [pyOf, PyData.eqv, nkP]
  · rcases g with rfl | g
    · split at h
      · obtain ⟨b, rfl⟩ := h; simp [pyOf, PyData.eqv, nkP]
      · split at h
        · obtain ⟨b, rfl, _⟩ := h; simp [pyOf, PyData.eqv, nkP]
        · obtain ⟨b, rfl⟩ := h; simp [pyOf, PyData.eqv, nkP]
    · split at h
      · rename_i c
        rw [if_pos c] at g
        obtain ⟨b, rfl⟩ := h
        obtain ⟨b2, rfl⟩ := g
        cases b <;> cases b2 <;> simp [pyOf, PyData.eqv, nkP]
      · rename_i c
        rw [if_neg c] at g
        split at h
        · rename_i c2
          rw [if_pos c2] at g
          obtain ⟨b, rfl, _⟩ := h
          obtain ⟨b2, rfl, _⟩ := g
          simp [pyOf, PyData.eqv, nkP]
          exact Bool.eq_iff_iff.mpr (by simp)
        · rename_i c2
          rw [if_neg c2] at g
          obtain ⟨b, rfl⟩ := h
          obtain ⟨b2, rfl⟩ := g
          simp [pyOf, PyData.eqv, nkP]
          exact Bool.eq_iff_iff.mpr (by simp)
theorem KVs.eqv : ∀ {ks : List Str} {vs us : List P}, KVs ks vs → KVs ks us → PyData.eqvAll (pyOf.pyOfs vs) (pyOf.pyOfs us) = decide (nkP.nkPs vs = nkP.nkPs us)
  | [], [], [], _, _ => by simp [pyOf.pyOfs, PyData.eqvAll]
  | [], _ :: _, _, h, _ => h.elim
  | [], [], _ :: _, _, h => h.elim
  | _ :: _, [], _, h, _ => h.elim
  | _ :: _, _ :: _, [], _, h => h.elim
  | k :: ks, v :: vs, u :: us, h, g => by
    obtain ⟨x, ex, _⟩ := h.1.kv.nk
    obtain ⟨y, ey, _⟩ := g.1.kv.nk
    obtain ⟨xs, exs, _⟩ := KVs.nk h.2
    obtain ⟨ys, eys, _⟩ := KVs.nk g.2
    have e1 := h.1.kv.eqv g.1.kv
    have e2 := KVs.eqv h.2 g.2
    unfold nkP.nkPs pyOf.pyOfs
    rw [ex, ey] at e1
    rw [exs, eys] at e2
    rw [ex, ey, exs, eys]
    simp only [PyData.eqvAll, e1, e2]
    simp
theorem RowK.eqv {ks : List Str} {x y : P} (h : RowK ks x) (g : RowK ks y) : PyData.eqv (pyOf x) (pyOf y) = decide (nkP x = nkP y) := by
  obtain ⟨vs, rfl, h⟩ := h
  obtain ⟨us, rfl, g⟩ := g
  obtain ⟨xs, ex, _⟩ := h.nk
  obtain ⟨ys, ey, _⟩ := g.nk
  have e := h.eqv g
  unfold nkP
  rw [ex, ey] at e ⊢
  simp only [pyOf, PyData.eqv, e]
  simp
theorem count_eq {ks : List Str} {r : P} (hr : RowK ks r) : ∀ {xs : List P}, (∀ x ∈ xs, RowK ks x) → ((xs.countP fun z => PyData.eqv (pyOf z) (pyOf r) : Nat) : Int) = cntK r xs
  | [], _ => rfl
  | x :: xs, h => by
    have ih := count_eq hr (xs := xs) fun y hy => h y (List.mem_cons_of_mem _ hy)
    unfold cntK at ih ⊢
    rw [sumF_cons, ← ih, List.countP_cons, (h x List.mem_cons_self).eqv hr]
    unfold ind
    by_cases c : nkP x = nkP r
    · simp [c]; omega
    · simp [c]
theorem vm_countR {ks : List Str} {x : D} {h : Hs} {xs : List P} {r : P} {R : D → Hs → Prop} (hx : SeqL x h xs) (hr : RowK ks r) (h2 : ∀ x ∈ xs, RowK ks x) (q : R (dI (cntK r xs)) h) : VM K Θ (rCntD K) x [.p r] h R := by
  have fl := row_flat hr
  have fs : Kb.Flat 2 (.lst xs) := .lst fun x hx => row_flat (h2 x hx)
  refine vm_countL hx fl.pl ?_ (fl.shaped (by decide)) ?_ ?_
  · rw [List.all_eq_true]
    exact fun x hx => (row_flat (h2 x hx)).pl
  · have z := fs.shaped (by decide)
    unfold pyOf at z
    rw [pyOfs_map] at z
    exact z
  · rw [count_eq hr h2]
    exact q
abbrev st_lchg : Stmt := (topS 17)
theorem sc_lchg : FnScope ["old", "new", "found", "row", "number"] ["old", "new"] (defScope st_lchg) := ⟨rfl, rfl, rfl, by decide +kernel, rfl, by decide +kernel, by decide +kernel⟩
def W_lchg (pw : Program × World) : Spc := fun ds h R => ∃ (old new : List P) (ks : List Str), ds = [dL old, dL new] ∧ (∀ r ∈ old, RowK ks r) ∧ (∀ r ∈ new, RowK ks r) ∧ old.length ≤ 1000 ∧ new.length ≤ 1000 ∧ R (.own h.length) (h ++ [some (.dN pw (msD (lawC old new)))])
theorem lawStep_len (old new : List P) (ms : List (P × Int)) (r : P) : (lawStep old new ms r).length ≤ ms.length + 1 := by
  unfold lawStep
  split
  · exact putC_len _ _ _
  · omega
theorem lawSteps_len (old new : List P) : ∀ (rs : List P) (ms : List (P × Int)), (rs.foldl (lawStep old new) ms).length ≤ ms.length + rs.length
  | [], ms => by show ms.length ≤ _; simp
  | r :: rs, ms => by
    have h1 := lawSteps_len old new rs (lawStep old new ms r)
    have h2 := lawStep_len old new ms r
    rw [List.foldl_cons, List.length_cons]
    omega
theorem ok_lchg (A : DefAt K mg "_law_change" st_lchg ["old", "new"]) : HasF Pg w K mg base CX0 1 "_law_change" ["old", "new"] (spD K Θ (W_lchg (Pg, w))) := by
  have sc := sc_lchg
  refine A.okD sc (W_lchg (Pg, w)) (fun ds h R ⟨_, _, _, e, _⟩ => by rw [e]; rfl) fun f cdv A outer s H E hr => ?_
  refine ⟨_, (pss_cons (ps_set (i := 2) sc.nd rfl (.inl rfl) pe_nnew)
  (pss_cons (ps_for PassesOwn.never rfl (pi_seqK (K := K) (by rfl) (pe_op (op_addWK (K := K) (by rfl)) (pv 1) (pv 0))) (pg_name (i := 3) sc.nd rfl (.inl rfl))
  (pss_cons (ps_set (i := 4) sc.nd rfl (.inl rfl) (pe_op op_sub (pe_bm PySem.F.plainAttrs_list PySem.F.slot_list_count PySem.F.type_list_count (mt_lcountDK (K := K) (by rfl) hr.u65) (pv 1) (pa_cons (pv 3) pa_nil)) (pe_bm PySem.F.plainAttrs_list PySem.F.slot_list_count PySem.F.type_list_count (mt_lcountDK (K := K) (by rfl) hr.u65) (pv 0) (pa_cons (pv 3) pa_nil))))
  (pss_one (ps_if (pt_cmpR (op_neUK (K := K) (by rfl) hr.units) (pv 4) pe_int (nomark _)) (pss_one (ps_nput (nu_of hr) (pv 2) (pv 3) (pv 4) rfl)) pss_nil))))
  (pss_one (ps_ret (pv 2))))), ?_⟩
  try dsimp only [cxOf]
  rintro ds h R ⟨old, new, ks, rfl, r1, r2, l1, l2, q⟩
  have sz := sizeLine_eq
  k_subL
  k_places
  refine ve_nnew ?_
  k_places
  have at1 : ∀ B : List (P × Int), (h ++ [some (OO.dN (Pg, w) (msD B))])[h.length]? = some (some (.dN (Pg, w) (msD B))) := fun B => List.getElem?_concat_length
  have st1 : ∀ (B : List (P × Int)) (o : OO), (h ++ [some (OO.dN (Pg, w) (msD B))]).set h.length (some o) = h ++ [some o] := fun B o => by
    rw [List.set_append_right _ _ (Nat.le_refl _), Nat.sub_self]; rfl
  refine vs_for (vi_seqL ?_)
  k_places
  refine v2_addWL (by omega) ?_
  refine ⟨new ++ old, rfl, ?_⟩
  refine ⟨fun i env h' => ∃ o1 o2 : Option D, env = [some (dL old), some (dL new), some (.own h.length), o1, o2] ∧ h' = h ++ [some (.dN (Pg, w) (msD (((new ++ old).take i).foldl (lawStep old new) [])))], ?_, ?_, ?_, ?_⟩
  · exact ⟨none, none, rfl, rfl⟩
  · exact fun _ _ _ _ => trivial
  · rintro i d env h' hd ⟨o1, o2, rfl, rfl⟩
    rw [List.getElem?_map] at hd
    cases ex : (new ++ old)[i]? with
    | none => rw [ex] at hd; cases hd
    | some r =>
      rw [ex] at hd
      cases hd
      have hm := List.mem_of_getElem? ex
      have rk : RowK ks r := (List.mem_append.mp hm).elim (r2 r) (r1 r)
      obtain ⟨k, hk⟩ := rk.key
      have hb := lawSteps_len old new ((new ++ old).take i) []
      rw [List.length_take, List.length_append] at hb
      simp only [List.length_nil, Nat.zero_add] at hb
      have enx : ((new ++ old).take (i + 1)).foldl (lawStep old new) [] = lawStep old new (((new ++ old).take i).foldl (lawStep old new) []) r := by
        rw [List.take_add_one, ex, List.foldl_append]
        rfl
      generalize ((new ++ old).take i).foldl (lawStep old new) [] = B at hb enx
      k_places
      refine ve_bm ?_
      k_places
      refine ⟨rfl, ?_⟩
      k_places
      refine vm_countR rfl rk r2 ?_
      k_places
      refine ve_bm ?_
      k_places
      refine ⟨rfl, ?_⟩
      k_places
      refine vm_countR rfl rk r1 ?_
      k_places
      refine ite_ndec (fun ne => ?_) (fun e => ?_)
      · refine vs_nput ?_
        k_places
        refine ⟨h.length, _, r, k, rfl, rfl, hk, at1 _, by rw [msD_len]; omega, ?_⟩
        refine ⟨_, _, rfl, ?_⟩
        rw [st1, pN_msD hk, enx]
        unfold lawStep
        rw [if_pos (show diffK old new r ≠ 0 from ne)]
        rfl
      · k_places
        refine ⟨_, _, rfl, ?_⟩
        rw [enx]
        unfold lawStep
        rw [if_neg (show ¬ diffK old new r ≠ 0 from fun z => z e)]
  · rintro env h' ⟨o1, o2, rfl, rfl⟩
    rw [List.length_map, List.take_length]
    k_places
    exact q
theorem fm_bind {α β : Type} (f : α → Option β) : ∀ xs : List α, (List.range xs.length).filterMap (fun i => (xs[i]?).bind f) = xs.filterMap f
  | [] => rfl
  | x :: xs => by
    rw [List.length_cons, List.range_succ_eq_map, List.filterMap_cons]
    simp only [List.getElem?_cons_zero, List.filterMap_map]
    have ih := fm_bind f xs
    have e : ((fun i => ((x :: xs)[i]?).bind f) ∘ Nat.succ) = fun i => (xs[i]?).bind f := rfl
    rw [e, ih]
    show (match f x with | none => _ | some b => _) = _
    rw [List.filterMap_cons]
    rfl
def jrow (g : P → Bool) (l : P) (rs : List P) : List P := (rs.filter fun r => g (catR l r)).map (catR l)
theorem jrow_fm (g : P → Bool) (l : P) : ∀ rs : List P, rs.filterMap (fun o => if g (catR l o) = true then some (catR l o) else none) = jrow g l rs
  | [] => rfl
  | r :: rs => by
    have ih := jrow_fm g l rs
    unfold jrow at ih ⊢
    rw [List.filterMap_cons, List.filter_cons]
    by_cases c : g (catR l r) = true
    · rw [if_pos c, if_pos c, ih]; rfl
    · rw [if_neg c, if_neg c]; exact ih
abbrev st_ljoin : Stmt := (topS 18)
theorem sc_ljoin : FnScope ["left", "right", "condition", "made", "row", "other"] ["left", "right", "condition"] (defScope st_ljoin) := ⟨rfl, rfl, rfl, by decide +kernel, rfl, by decide +kernel, by decide +kernel⟩
def W_ljoin {ι : Type} (cf : ι → Addr) (cg : ι → P → Bool) (S : P → Prop) : Spc := fun ds h R => ∃ (ls rs : List P) (i : ι), ds = [dL ls, dL rs, .p (.cls (cf i))] ∧ (∀ x ∈ ls, ∀ y ∈ rs, JoinOk S x y) ∧ ls.length ≤ 100 ∧ rs.length ≤ 100 ∧ R (dL (joinW (cg i) ls rs)) h
theorem jrow_len (g : P → Bool) (l : P) (rs : List P) : (jrow g l rs).length ≤ rs.length := by
  unfold jrow
  rw [List.length_map]
  exact List.length_filter_le _ _
theorem joinW_len (g : P → Bool) (rs : List P) : ∀ ls : List P, (joinW g ls rs).length ≤ ls.length * rs.length
  | [] => by simp [joinW]
  | l :: ls => by
    have ih := joinW_len g rs ls
    have e := jrow_len g l rs
    unfold joinW at ih ⊢
    rw [List.flatMap_cons, List.length_append, List.length_cons, Nat.add_mul, Nat.one_mul]
    unfold jrow at e
    omega
theorem joinW_snoc (g : P → Bool) (rs ls : List P) (l : P) : joinW g (ls ++ [l]) rs = joinW g ls rs ++ jrow g l rs := by
  unfold joinW jrow
  rw [List.flatMap_append]
  simp
theorem ok_ljoin {ι : Type} {cf : ι → Addr} {cg : ι → P → Bool} {S : P → Prop} (A : DefAt K mg "_law_joined" st_ljoin ["left", "right", "condition"]) (hC : ∀ i, FnAt Pg w K mg base CX0 1 (cf i) [Str.ofString "row"] (spD K Θ (W_cond S (cg i)))) : HasF Pg w K mg base CX0 2 "_law_joined" ["left", "right", "condition"] (spD K Θ (W_ljoin cf cg S)) := by
  have sc := sc_ljoin
  refine A.okD sc (W_ljoin cf cg S) (fun ds h R ⟨_, _, _, e, _⟩ => by rw [e]; rfl) fun f cdv A outer s H E hr => ?_
  refine ⟨_, (pss_cons (ps_set (i := 3) sc.nd rfl (.inl rfl) (pe_lst pa_nil))
  (pss_cons (ps_for PassesOwn.never rfl (pi_seqK (K := K) (by rfl) (pv 0)) (pg_name (i := 4) sc.nd rfl (.inr rfl))
  (pss_one (ps_set (i := 3) sc.nd rfl (.inl rfl) (pe_op (op_addWK (K := K) (by rfl)) (pv 3) (pe_lc (own := [("other", 5)]) rfl sc.nd (pi_seqK (K := K) (by rfl) (pv 1)) (blkOk_by (N := ["left", "right", "condition", "made", "row", "other"]) (sc := defScope (topS 18)) (by decide +kernel)) (fun _ _ _ _ _ => (pg_name (i := 5) sc.nd rfl (.inl rfl))) (fun _ _ _ _ _ => (pts_one (pt_val (pe_exE fun q => (hC q).callV (i := 2) (hr.mono (by first | decide | omega)) pass0 rfl (pa_cons (pe_op (op_addWK (K := K) (by rfl)) (pv 4) (pv 5)) pa_nil))))) (fun _ _ _ _ _ => (pe_op (op_addWK (K := K) (by rfl)) (pv 4) (pv 5))))))))
  (pss_one (ps_ret (pv 3))))), ?_⟩
  try dsimp only [cxOf]
  rintro ds h R ⟨ls, rs, i, rfl, jo, l1, l2, q⟩
  have sz := sizeLine_eq
  k_subL
  k_places
  refine ve_lst ?_
  k_places
  refine vs_for (vi_seqL ?_)
  k_places
  refine ⟨ls, rfl, ?_⟩
  refine ⟨fun j env h' => ∃ o1 o2 : Option D, env = [some (dL ls), some (dL rs), some (.p (.cls (cf i))), some (dL (joinW (cg i) (ls.take j) rs)), o1, o2] ∧ h' = h, ?_, ?_, ?_, ?_⟩
  · exact ⟨none, none, rfl, rfl⟩
  · exact fun _ _ _ _ => trivial
  · rintro j d env h' hd ⟨o1, o2, rfl, rfl⟩
    rw [List.getElem?_map] at hd
    cases ex : ls[j]? with
    | none => rw [ex] at hd; cases hd
    | some l =>
      rw [ex] at hd
      cases hd
      have hl := List.mem_of_getElem? ex
      have hb := joinW_len (cg i) rs (ls.take j)
      have hb2 : (ls.take j).length * rs.length ≤ 100 * 100 := Nat.mul_le_mul (by rw [List.length_take]; omega) l2
      have enx : joinW (cg i) (ls.take (j + 1)) rs = joinW (cg i) (ls.take j) rs ++ jrow (cg i) l rs := by
        rw [List.take_add_one, ex]
        exact joinW_snoc _ _ _ _
      generalize joinW (cg i) (ls.take j) rs = B at hb enx
      k_places
      refine ve_lc tg_name ?_
      refine vi_seqL ?_
      k_places
      refine ⟨rs, rfl, fun i2 => (rs[i2]?).bind fun o => if cg i (catR l o) = true then some (catR l o) else none, ?_, fun _ => trivial, ?_, ?_⟩
      · rw [List.length_map]; omega
      · intro i2 d acc hd
        rw [List.getElem?_map] at hd
        cases e : rs[i2]? with
        | none => rw [e] at hd; cases hd
        | some o =>
          rw [e] at hd; cases hd
          have hm := List.mem_of_getElem? e
          have e0 : ((rs[i2]?).bind fun o => if cg i (catR l o) = true then some (catR l o) else none) = if cg i (catR l o) = true then some (catR l o) else none := by rw [e]; rfl
          obtain ⟨⟨xs, ys, rfl, rfl, lx, ly⟩, _, sk⟩ := jo l hl o hm
          refine vg_name ⟨rfl, ?_⟩
          k_places
          refine ve_exE i ?_
          refine ve_callV rfl ?_
          k_places
          refine v2_addWT (by omega) ?_
          k_places
          refine ⟨_, rfl, sk, ?_⟩
          k_places
          refine ⟨rfl, ?_⟩
          refine ite_b (fun c => ?_) (fun c => ?_)
          · k_places
            refine v2_addWT (by omega) ?_
            exact ⟨rfl, _, rfl, e0.trans (if_pos c)⟩
          · exact e0.trans (if_neg (by rw [show cg i (catR (.tup xs) (.tup ys)) = false from c]; exact Bool.false_ne_true))
      · rw [List.length_map, fm_bind, jrow_fm]
        have := jrow_len (cg i) l rs
        refine v2_addWL (by omega) ?_
        k_places
        exact ⟨_, _, by rw [enx]; rfl, rfl⟩
  · rintro env h' ⟨o1, o2, rfl, rfl⟩
    rw [List.length_map, List.take_length]
    k_places
    exact q
end
end Law

namespace Law
open PySem PySem.Spec PyProof.Rows L2 Kb
-- the steps that are tried: k_clsL a side condition; k_subL one step; k_places steps as long as one fits
section
variable {Pg : Program} {w : World} {K : PySem.W.Frag} {Θ : Tbs} {mg : Str → Option Value} {base : Heap}
abbrev st_lsame : Stmt := (topS 19)
theorem sc_lsame : FnScope ["actual", "expected", "row"] ["actual", "expected"] (defScope st_lsame) := ⟨rfl, rfl, rfl, by decide +kernel, rfl, by decide +kernel, by decide +kernel⟩
def W_lsame (pw : Program × World) : Spc := fun ds h R => ∃ (a b : Nat) (ms es : List (P × Int)), ds = [.own a, .own b] ∧ a ≠ b ∧ h[a]? = some (some (.dN pw (msD ms))) ∧ h[b]? = some (some (.dN pw (msD es))) ∧ SameC ms es ∧ es.length < sizeLine ∧ R (dB true) h
theorem ok_lsame (A : DefAt K mg "_law_same_change" st_lsame ["actual", "expected"]) (m_len : mg "len" = none) (m_isinstance : mg "isinstance" = none) (m_dict : mg "dict" = none)
    (h__law_same : HasF Pg w K mg base CX0 2 "_law_same" ["actual", "expected"] (spD K Θ (W_same 1))) : HasF Pg w K mg base CX0 3 "_law_same_change" ["actual", "expected"] (spD K Θ (W_lsame (Pg, w))) := by
  have sc := sc_lsame
  refine A.okD sc (W_lsame (Pg, w)) (fun ds h R ⟨_, _, _, _, e, _⟩ => by rw [e]; rfl) fun f cdv A outer s H E hr => ?_
  refine ⟨_, (pss_cons (ps_if (PW.pt (pw_or (pt_not (pt_val (pe_callB (call_isiN (K := K) (pw := (Pg, w)) (by rfl) (by rfl)) (by rfl) m_isinstance (by decide +kernel) (pa_cons (pv 0) (pa_cons (pe_bltn (v := .ty "dict") rfl m_dict (by decide +kernel) rfl) pa_nil))))) (pw_or1 (pt_cmpR (op_neUK (K := K) (by rfl) hr.units) (pe_callB (call_lenN (pw := (Pg, w)) (by rfl)) (by rfl) m_len (by decide +kernel) (pa_cons (pv 0) pa_nil)) (pe_callB (call_lenN (pw := (Pg, w)) (by rfl)) (by rfl) m_len (by decide +kernel) (pa_cons (pv 1) pa_nil)) (nomark _))))) (pss_one (ps_ret pe_bl)) pss_nil)
  (pss_cons (ps_lock (ps_for PassesOwn.never rfl (pi_keysN (pw := (Pg, w)) (pv 1)) (pg_name (i := 2) sc.nd rfl (.inl rfl))
  (pss_one (ps_if (PW.pt (pw_or (pt_cmpR (op_ninNA (nu_of hr)) (pv 2) (pv 0) (by rfl)) (pw_or1 (pt_not (pt_val (h__law_same.call (hr.mono (by first | decide | omega)) rfl pass0 (pa_cons (pe_nix (nu_of hr) (pv 0) (pv 2) (fun _ _ => rfl)) (pa_cons (pe_nixA (nu_of hr) (pv 1) (pv 2) (fun _ _ => rfl)) pa_nil)))))))) (pss_one (ps_ret pe_bl)) pss_nil))))
  (pss_one (ps_ret pe_bl)))), ?_⟩
  try dsimp only [cxOf]
  rintro ds h R ⟨a, b, ms, es, rfl, ab, ha, hb, sm, hl, q⟩
  have sz := sizeLine_eq
  k_places
  refine vc_isiN ha (by decide) ?_
  k_places
  refine vc_lenN ha ?_
  k_places
  refine vc_lenN hb ?_
  rw [msD_len, msD_len, sm.len]
  k_places
  refine vs_lockN hb fun od gs => ?_
  have la : a < h.length := (List.getElem?_eq_some_iff.mp ha).1
  have lb : b < h.length := (List.getElem?_eq_some_iff.mp hb).1
  have eB : (h.set b (some (.dL (Pg, w) od gs (msD es)))).set b (some (.dN (Pg, w) (msD es))) = h := by rw [List.set_set, set_same hb]
  have aA : (h.set b (some (.dL (Pg, w) od gs (msD es))))[a]? = some (some (.dN (Pg, w) (msD ms))) := by rw [List.getElem?_set_ne (Ne.symm ab)]; exact ha
  have bB : (h.set b (some (.dL (Pg, w) od gs (msD es))))[b]? = some (some (.dL (Pg, w) od gs (msD es))) := List.getElem?_set_self lb
  generalize h.set b (some (.dL (Pg, w) od gs (msD es))) = hB at eB aA bB
  refine vs_for (vi_keysN ?_)
  k_places
  refine ⟨b, od, gs, msD es, rfl, bB, ?_⟩
  refine ⟨fun j env h' => ∃ o : Option D, env = [some (.own a), some (.own b), o] ∧ h' = hB, ?_, ?_, ?_, ?_⟩
  · exact ⟨none, rfl, rfl⟩
  · rintro j env h' ⟨_, _, rfl⟩
    exact bB
  · rintro j d env h' hd ⟨o, rfl, rfl⟩
    unfold msD at hd
    rw [List.getElem?_map, List.getElem?_map, List.getElem?_map] at hd
    cases ex : es[j]? with
    | none => rw [ex] at hd; cases hd
    | some x =>
      rw [ex] at hd
      cases hd
      have hx := List.mem_of_getElem? ex
      obtain ⟨k, hk⟩ := sm.ok2.ok _ hx
      have g1 : vN (msD ms) k = some (dI x.2) := by rw [vN_msD hk, sm.val x hx]; rfl
      have g2 : vN (msD es) k = some (dI x.2) := by rw [vN_msD hk, getC_mem sm.ok2.nd hx]; rfl
      k_places
      refine v2_inNA hk (.inl aA) ?_
      rw [g1]
      k_places
      refine ve_nix ?_
      k_places
      refine ⟨a, msD ms, _, k, _, rfl, rfl, hk, aA, g1, ?_⟩
      k_places
      refine ve_nixA ?_
      k_places
      refine ⟨b, msD es, _, k, _, rfl, rfl, hk, .inr ⟨od, gs, bB⟩, g2, ?_⟩
      k_places
      refine ⟨.int x.2, .int x.2, rfl, rfl, rfl, ?_⟩
      rw [eqB_eq rfl]
      k_places
      exact ⟨_, rfl, rfl⟩
  · rintro env h' ⟨o, rfl, rfl⟩
    refine ⟨bB, ?_⟩
    rw [eB]
    k_places
    exact q
end
end Law

namespace Law
open PySem PySem.Spec PyProof.Rows L2 Kb
-- the steps that are tried: k_clsL a side condition; k_subL one step; k_places steps as long as one fits
section
variable {Pg : Program} {w : World} {K : PySem.W.Frag} {Θ : Tbs} {mg : Str → Option Value} {base : Heap}
/-! ### the five conditions -/
inductive CondI where
  | c1 | c2 | c3 | c4 | c5
def cfC (a b c d e : Addr) : CondI → Addr
  | .c1 => a
  | .c2 => b
  | .c3 => c
  | .c4 => d
  | .c5 => e
def cgC : CondI → P → Bool
  | .c1 => cAlways
  | .c2 => cEnds
  | .c3 => cFirst
  | .c4 => cLast
  | .c5 => cNever
theorem cond_of {f__law_always f__law_ends_agree f__law_first_set f__law_last_short f__law_never : Addr}
    (h1 : FnAt Pg w K mg base CX0 1 f__law_always [Str.ofString "row"] (spD K Θ (W_cond SRow cAlways))) (h2 : FnAt Pg w K mg base CX0 1 f__law_ends_agree [Str.ofString "row"] (spD K Θ (W_cond SRow cEnds)))
    (h3 : FnAt Pg w K mg base CX0 1 f__law_first_set [Str.ofString "row"] (spD K Θ (W_cond SRow cFirst))) (h4 : FnAt Pg w K mg base CX0 1 f__law_last_short [Str.ofString "row"] (spD K Θ (W_cond SRow cLast)))
    (h5 : FnAt Pg w K mg base CX0 1 f__law_never [Str.ofString "row"] (spD K Θ (W_cond SRow cNever))) : ∀ i, FnAt Pg w K mg base CX0 1 (cfC f__law_always f__law_ends_agree f__law_first_set f__law_last_short f__law_never i) [Str.ofString "row"] (spD K Θ (W_cond SRow (cgC i)))
  | .c1 => h1
  | .c2 => h2
  | .c3 => h3
  | .c4 => h4
  | .c5 => h5
theorem ok_addC {f__law_always f__law_ends_agree f__law_first_set f__law_last_short f__law_never : Addr} (A : DefAt K mg "_add_pairs" st_add ["counts", "firsts", "seconds", "condition"])
    (h1 : FnAt Pg w K mg base CX0 1 f__law_always [Str.ofString "row"] (spD K Θ (W_cond SRow cAlways))) (h2 : FnAt Pg w K mg base CX0 1 f__law_ends_agree [Str.ofString "row"] (spD K Θ (W_cond SRow cEnds)))
    (h3 : FnAt Pg w K mg base CX0 1 f__law_first_set [Str.ofString "row"] (spD K Θ (W_cond SRow cFirst))) (h4 : FnAt Pg w K mg base CX0 1 f__law_last_short [Str.ofString "row"] (spD K Θ (W_cond SRow cLast)))
    (h5 : FnAt Pg w K mg base CX0 1 f__law_never [Str.ofString "row"] (spD K Θ (W_cond SRow cNever))) : HasF Pg w K mg base CX0 2 "_add_pairs" ["counts", "firsts", "seconds", "condition"] (spD K Θ (W_add (Pg, w) (cfC f__law_always f__law_ends_agree f__law_first_set f__law_last_short f__law_never) cgC SRow)) := ok_add A (cond_of h1 h2 h3 h4 h5)
theorem ok_ljoinC {f__law_always f__law_ends_agree f__law_first_set f__law_last_short f__law_never : Addr} (A : DefAt K mg "_law_joined" st_ljoin ["left", "right", "condition"])
    (h1 : FnAt Pg w K mg base CX0 1 f__law_always [Str.ofString "row"] (spD K Θ (W_cond SRow cAlways))) (h2 : FnAt Pg w K mg base CX0 1 f__law_ends_agree [Str.ofString "row"] (spD K Θ (W_cond SRow cEnds)))
    (h3 : FnAt Pg w K mg base CX0 1 f__law_first_set [Str.ofString "row"] (spD K Θ (W_cond SRow cFirst))) (h4 : FnAt Pg w K mg base CX0 1 f__law_last_short [Str.ofString "row"] (spD K Θ (W_cond SRow cLast)))
    (h5 : FnAt Pg w K mg base CX0 1 f__law_never [Str.ofString "row"] (spD K Θ (W_cond SRow cNever))) : HasF Pg w K mg base CX0 2 "_law_joined" ["left", "right", "condition"] (spD K Θ (W_ljoin (cfC f__law_always f__law_ends_agree f__law_first_set f__law_last_short f__law_never) cgC SRow)) := ok_ljoin A (cond_of h1 h2 h3 h4 h5)
theorem conds_at {a b c d e : Addr} {i : Int} (h0 : 0 ≤ i) (h5 : i < 5) : ∃ ci : CondI, atI [P.cls a, .cls b, .cls c, .cls d, .cls e] i = some (.cls (cfC a b c d e ci)) := by
  have hi : i = 0 ∨ i = 1 ∨ i = 2 ∨ i = 3 ∨ i = 4 := by omega
  rcases hi with rfl | rfl | rfl | rfl | rfl
  · exact ⟨.c1, rfl⟩
  · exact ⟨.c2, rfl⟩
  · exact ⟨.c3, rfl⟩
  · exact ⟨.c4, rfl⟩
  · exact ⟨.c5, rfl⟩
/-! ### the law -/
theorem strs_of : ∀ {vs : List P}, (∀ v ∈ vs, ∃ s, v = P.str s) → ∃ ks : List Str, vs = ks.map P.str
  | [], _ => ⟨[], rfl⟩
  | v :: vs, h => by
    obtain ⟨s, rfl⟩ := h v List.mem_cons_self
    obtain ⟨ks, rfl⟩ := strs_of fun x hx => h x (List.mem_cons_of_mem _ hx)
    exact ⟨s :: ks, rfl⟩
theorem rows_join {ks ls : List Str} (hk : ks ≠ []) (lk : ks.length ≤ 2) (ll : ls.length ≤ 2) {x y : P} (h : RowK ks x) (g : RowK ls y) : JoinOk SRow x y := by
  have hc := h.cat g
  refine ⟨?_, hc.key, ⟨ks ++ ls, by simp [hk], hc⟩⟩
  obtain ⟨vs, rfl, h⟩ := h
  obtain ⟨us, rfl, g⟩ := g
  have l1 := h.len
  have l2 := g.len
  exact ⟨vs, us, rfl, rfl, by omega, by omega⟩
theorem lists_ok {ks : List Str} {xs : List P} (hm : ks.length ≤ 2) (hl : xs.length ≤ 1000) (h : ∀ r ∈ xs, RowK ks r) : plainU (.lst xs) = true ∧ okP 2 (.lst xs) = true := by
  constructor
  · unfold plainU
    exact plainUs_of fun r hr => row_plain (h r hr)
  · simp only [okP, Bool.and_eq_true, decide_eq_true_eq, List.all_eq_true]
    exact ⟨by omega, fun r hr => row_okP (by omega) (h r hr) 0⟩
abbrev st_law : Stmt := (topS 20)
theorem sc_law : FnScope ["script", "state", "kinds", "left_kinds", "right_kinds", "old_left", "old_right", "new_left", "new_right", "condition", "passed", "actual", "old", "new", "k"] ["script"] (defScope st_law) := ⟨rfl, rfl, rfl, by decide +kernel, rfl, by decide +kernel, by decide +kernel⟩
theorem ok_law {f : Addr} {fd : FuncData} {f__law_always f__law_ends_agree f__law_first_set f__law_last_short f__law_never : Addr} (F : Fun K "law" "law" st_law f fd) (m_list : mg "list" = none) (m_range : mg "range" = none)
    (gf__law_always : mg "_law_always" = some (.ref f__law_always)) (gf__law_ends_agree : mg "_law_ends_agree" = some (.ref f__law_ends_agree)) (gf__law_first_set : mg "_law_first_set" = some (.ref f__law_first_set)) (gf__law_last_short : mg "_law_last_short" = some (.ref f__law_last_short)) (gf__law_never : mg "_law_never" = some (.ref f__law_never))
    (h__law_next : HasF Pg w K mg base CX0 1 "_law_next" ["state", "limit"] (spD K Θ W_next)) (h__law_rows : HasF Pg w K mg base CX0 3 "_law_rows" ["state", "kinds"] (spD K Θ W_rows)) (h__law_newer : HasF Pg w K mg base CX0 4 "_law_newer" ["state", "old", "kinds"] (spD K Θ W_newer))
    (h_change_of : HasF Pg w K mg base CX0 2 "change_of" ["old", "new"] (spD K Θ (W_chg (Pg, w)))) (h_join_change : HasF Pg w K mg base CX0 3 "join_change" ["old_left", "new_left", "old_right", "new_right", "condition"] (spD K Θ (W_jc (Pg, w) (cfC f__law_always f__law_ends_agree f__law_first_set f__law_last_short f__law_never) cgC SRow)))
    (h__law_change : HasF Pg w K mg base CX0 1 "_law_change" ["old", "new"] (spD K Θ (W_lchg (Pg, w)))) (h__law_joined : HasF Pg w K mg base CX0 2 "_law_joined" ["left", "right", "condition"] (spD K Θ (W_ljoin (cfC f__law_always f__law_ends_agree f__law_first_set f__law_last_short f__law_never) cgC SRow)))
    (h__law_same_change : HasF Pg w K mg base CX0 3 "_law_same_change" ["actual", "expected"] (spD K Θ (W_lsame (Pg, w))))
    (h__law_same : HasF Pg w K mg base CX0 5 "_law_same" ["actual", "expected"] (spD K Θ (W_same 4))) : FnOk Pg w K mg base CX0 6 f fd ["script"] (spD K Θ W_law) := by
  have sc := sc_law
  refine fnD F sc W_law (fun ds h R ⟨_, e, _⟩ => by rw [e]; rfl) fun cdv A outer s H E hr => ?_
  refine ⟨_, (pss_cons (ps_set (i := 1) sc.nd rfl (.inr rfl) (pe_lst (pa_cons (pe_callTy (call_list_ofK (K := K) (by rfl)) (by rfl) m_list (by decide +kernel) (pa_cons (pv 0) pa_nil)) (pa_cons pe_int (pa_cons pe_int (pa_cons pe_int pa_nil))))))
  (pss_cons (ps_set (i := 2) sc.nd rfl (.inr rfl) (pe_lst (pa_cons pe_str (pa_cons pe_str (pa_cons pe_str pa_nil)))))
  (pss_cons (ps_setLc (i := 3) (own := [("k", 14)]) rfl sc.nd rfl rfl (sw_true rfl rfl rfl (by decide +kernel)) (pi_range1 rfl m_range (pa_cons (pe_op (op_addWK (K := K) (by rfl)) pe_int (h__law_next.call (hr.mono (by first | decide | omega)) rfl pass0 (pa_cons (pv 1) (pa_cons pe_int pa_nil)))) pa_nil)) (blkOk_by (N := ["script", "state", "kinds", "left_kinds", "right_kinds", "old_left", "old_right", "new_left", "new_right", "condition", "passed", "actual", "old", "new", "k"]) (sc := defScope (topS 20)) (by decide +kernel)) (fun _ _ _ _ _ => (pg_name (i := 14) sc.nd rfl (.inl rfl))) (fun _ _ _ _ _ => pts_nil) (fun _ _ _ _ _ => (pe_ix (ix_seqK (K := K) (by rfl)) (pv 2) (h__law_next.call (hr.mono (by first | decide | omega)) rfl pass0 (pa_cons (pv 1) (pa_cons pe_int pa_nil))) (fun _ _ => rfl))))
  (pss_cons (ps_setLc (i := 4) (own := [("k", 14)]) rfl sc.nd rfl rfl (sw_true rfl rfl rfl (by decide +kernel)) (pi_range1 rfl m_range (pa_cons (pe_op (op_addWK (K := K) (by rfl)) pe_int (h__law_next.call (hr.mono (by first | decide | omega)) rfl pass0 (pa_cons (pv 1) (pa_cons pe_int pa_nil)))) pa_nil)) (blkOk_by (N := ["script", "state", "kinds", "left_kinds", "right_kinds", "old_left", "old_right", "new_left", "new_right", "condition", "passed", "actual", "old", "new", "k"]) (sc := defScope (topS 20)) (by decide +kernel)) (fun _ _ _ _ _ => (pg_name (i := 14) sc.nd rfl (.inl rfl))) (fun _ _ _ _ _ => pts_nil) (fun _ _ _ _ _ => (pe_ix (ix_seqK (K := K) (by rfl)) (pv 2) (h__law_next.call (hr.mono (by first | decide | omega)) rfl pass0 (pa_cons (pv 1) (pa_cons pe_int pa_nil))) (fun _ _ => rfl))))
  (pss_cons (ps_set (i := 5) sc.nd rfl (.inl rfl) (h__law_rows.call (hr.mono (by first | decide | omega)) rfl pass0 (pa_cons (pv 1) (pa_cons (pv 3) pa_nil))))
  (pss_cons (ps_set (i := 6) sc.nd rfl (.inl rfl) (h__law_rows.call (hr.mono (by first | decide | omega)) rfl pass0 (pa_cons (pv 1) (pa_cons (pv 4) pa_nil))))
  (pss_cons (ps_set (i := 7) sc.nd rfl (.inl rfl) (h__law_newer.call (hr.mono (by first | decide | omega)) rfl pass0 (pa_cons (pv 1) (pa_cons (pv 5) (pa_cons (pv 3) pa_nil)))))
  (pss_cons (ps_set (i := 8) sc.nd rfl (.inl rfl) (h__law_newer.call (hr.mono (by first | decide | omega)) rfl pass0 (pa_cons (pv 1) (pa_cons (pv 6) (pa_cons (pv 4) pa_nil)))))
  (pss_cons (ps_set (i := 9) sc.nd rfl (.inl rfl) (pe_ix (ix_seqK (K := K) (by rfl)) (pe_lst (pa_cons (pe_glob (v := .ref f__law_always) rfl gf__law_always rfl) (pa_cons (pe_glob (v := .ref f__law_ends_agree) rfl gf__law_ends_agree rfl) (pa_cons (pe_glob (v := .ref f__law_first_set) rfl gf__law_first_set rfl) (pa_cons (pe_glob (v := .ref f__law_last_short) rfl gf__law_last_short rfl) (pa_cons (pe_glob (v := .ref f__law_never) rfl gf__law_never rfl) pa_nil)))))) (h__law_next.call (hr.mono (by first | decide | omega)) rfl pass0 (pa_cons (pv 1) (pa_cons pe_int pa_nil))) (fun _ _ => rfl)))
  (pss_cons (ps_set (i := 10) sc.nd rfl (.inl rfl) (pe_lst (pa_cons (pe_callTy (call_list_ofK (K := K) (by rfl)) (by rfl) m_list (by decide +kernel) (pa_cons (pv 5) pa_nil)) (pa_cons (pe_callTy (call_list_ofK (K := K) (by rfl)) (by rfl) m_list (by decide +kernel) (pa_cons (pv 7) pa_nil)) (pa_cons (pe_callTy (call_list_ofK (K := K) (by rfl)) (by rfl) m_list (by decide +kernel) (pa_cons (pv 6) pa_nil)) (pa_cons (pe_callTy (call_list_ofK (K := K) (by rfl)) (by rfl) m_list (by decide +kernel) (pa_cons (pv 8) pa_nil)) pa_nil))))))
  (pss_cons (ps_if (pt_not (pt_val (h__law_same_change.call (hr.mono (by first | decide | omega)) rfl pass0 (pa_cons (h_change_of.call (hr.mono (by first | decide | omega)) rfl pass0 (pa_cons (pe_ix (ix_seqK (K := K) (by rfl)) (pv 10) pe_int (fun _ _ => rfl)) (pa_cons (pe_ix (ix_seqK (K := K) (by rfl)) (pv 10) pe_int (fun _ _ => rfl)) pa_nil))) (pa_cons (h__law_change.call (hr.mono (by first | decide | omega)) rfl pass0 (pa_cons (pv 5) (pa_cons (pv 7) pa_nil))) pa_nil))))) (pss_one (ps_ret pe_bl)) pss_nil)
  (pss_cons (ps_if (pt_not (pt_val (h__law_same_change.call (hr.mono (by first | decide | omega)) rfl pass0 (pa_cons (h_change_of.call (hr.mono (by first | decide | omega)) rfl pass0 (pa_cons (pe_ix (ix_seqK (K := K) (by rfl)) (pv 10) pe_int (fun _ _ => rfl)) (pa_cons (pe_ix (ix_seqK (K := K) (by rfl)) (pv 10) pe_int (fun _ _ => rfl)) pa_nil))) (pa_cons (h__law_change.call (hr.mono (by first | decide | omega)) rfl pass0 (pa_cons (pv 6) (pa_cons (pv 8) pa_nil))) pa_nil))))) (pss_one (ps_ret pe_bl)) pss_nil)
  (pss_cons (ps_set (i := 11) sc.nd rfl (.inl rfl) (h_join_change.call (hr.mono (by first | decide | omega)) rfl pass0 (pa_cons (pe_ix (ix_seqK (K := K) (by rfl)) (pv 10) pe_int (fun _ _ => rfl)) (pa_cons (pe_ix (ix_seqK (K := K) (by rfl)) (pv 10) pe_int (fun _ _ => rfl)) (pa_cons (pe_ix (ix_seqK (K := K) (by rfl)) (pv 10) pe_int (fun _ _ => rfl)) (pa_cons (pe_ix (ix_seqK (K := K) (by rfl)) (pv 10) pe_int (fun _ _ => rfl)) (pa_cons (pv 9) pa_nil)))))))
  (pss_cons (ps_set (i := 12) sc.nd rfl (.inl rfl) (h__law_joined.call (hr.mono (by first | decide | omega)) rfl pass0 (pa_cons (pv 5) (pa_cons (pv 6) (pa_cons (pv 9) pa_nil)))))
  (pss_cons (ps_set (i := 13) sc.nd rfl (.inl rfl) (h__law_joined.call (hr.mono (by first | decide | omega)) rfl pass0 (pa_cons (pv 7) (pa_cons (pv 8) (pa_cons (pv 9) pa_nil)))))
  (pss_cons (ps_if (pt_not (pt_val (h__law_same_change.call (hr.mono (by first | decide | omega)) rfl pass0 (pa_cons (pv 11) (pa_cons (h__law_change.call (hr.mono (by first | decide | omega)) rfl pass0 (pa_cons (pv 12) (pa_cons (pv 13) pa_nil))) pa_nil))))) (pss_one (ps_ret pe_bl)) pss_nil)
  (pss_one (ps_ret (h__law_same.call (hr.mono (by first | decide | omega)) rfl pass0 (pa_cons (pv 10) (pa_cons (pe_lst (pa_cons (pv 5) (pa_cons (pv 7) (pa_cons (pv 6) (pa_cons (pv 8) pa_nil))))) pa_nil))))))))))))))))))))), ?_⟩
  try dsimp only [cxOf]
  rintro ds h R ⟨ns, rfl, rfl, hl, q⟩
  have sz := sizeLine_eq
  refine vs_cut (fun env' h' => env' = [some (dL (ns.map P.int)), some (.own 0), none, none, none, none, none, none, none, none, none, none, none, none, none] ∧ h' = hst ns 0 0 1) ?_ ?_
  · k_places
    refine ve_lstO ?_
    k_places
    refine vc_list rfl ?_
    k_places
    refine ⟨sz_le (Nat.le_of_ble_eq_true rfl), ?_⟩
    k_places
    exact ⟨rfl, rfl⟩
  rintro env' h' ⟨rfl, rfl⟩
  -- the kinds of the columns
  have kinds : ∀ {te : TE} {kk : Nat} {env : Env'} {a b c : Int} {m : Int} {Z : List P → Hs → Prop}, OkSt ns a b c → 0 ≤ m → m < 2 →
      (∀ (i : Nat) (acc : List P) (a b c : Int) (T : D → Hs → Prop), OkSt ns a b c → (∀ (s : Str) (a b c : Int), OkSt ns a b c → T (dS s) (hst ns a b c ++ [accO acc])) → VE K Θ te ((env.set kk none).set kk (some (dI (0 + (i : Int))))) (hst ns a b c ++ [accO acc]) T) →
      (∀ (ks : List Str) (a b c : Int), ks ≠ [] → ks.length ≤ 2 → OkSt ns a b c → Z (ks.map P.str) (hst ns a b c)) →
      ∃ Inv : Nat → List P → Hs → Prop, (rng 0 (1 + m).toNat).length < sizeLine ∧ Inv 0 [] (hst ns a b c) ∧
      (∀ i acc h', Inv i acc h' → h'.length = (hst ns a b c).length ∧ lowH (hst ns a b c) h' ∧ (fun _ => True) (h' ++ [accO acc])) ∧
      (∀ i d acc h', (rng 0 (1 + m).toNat)[i]? = some d → Inv i acc h' → VG K Θ (gName kk) d (wipeD env [kk]) (h' ++ [accO acc]) fun env' h2 => VT K Θ tYes env' h2 fun b h3 => if b = true then VE K Θ te env' h3 (fun y h4 => ∃ p h5, y = .p p ∧ h4 = h5 ++ [accO acc] ∧ Inv (i + 1) (acc ++ [p]) h5) else ∃ h5, h3 = h5 ++ [accO acc] ∧ Inv (i + 1) acc h5) ∧
      (∀ acc h', Inv (rng 0 (1 + m).toNat).length acc h' → Z acc h') := fun {te kk env a b c m Z} ok m0 m1 turn fin =>
    draws_of (S := fun p => ∃ s, p = P.str s) (n := 0) (h0 := h0) (m := (1 + m).toNat) (by decide) ok (by omega) (fun i acc a b c T ok hT => turn i acc a b c T ok fun s a b c ok => hT _ a b c ok ⟨s, rfl⟩) fun acc a b c la sa ok => by
      obtain ⟨ks, rfl⟩ := strs_of sa
      rw [List.length_map] at la
      exact fin ks a b c (fun e => by rw [e] at la; simp at la; omega) (by omega) ok
  k_places
  refine ve_lst ?_
  k_places
  refine ve_lcI tg_name ?_
  refine vi_range1 ?_
  k_places
  refine next_i (by decide) (ok_start hl) (by decide) (by decide) fun m a b c ok m0 m1 => ?_
  k_places
  refine ⟨_, rfl, by omega, by omega, ?_⟩
  refine kinds ok m0 m1 (fun i acc a b c T ok hT => ?_) fun lk a b c nk1 lk2 ok => ?_
  · k_places
    refine next_i (h0 := h0 ++ [accO acc]) (by simp) ok (by decide) (by decide) fun i a b c ok i0 i1 => ?_
    have hi : i = 0 ∨ i = 1 ∨ i = 2 := by omega
    rcases hi with rfl | rfl | rfl <;> exact v2_ixL rfl (hT _ a b c ok)
  k_places
  refine ve_lcI tg_name ?_
  refine vi_range1 ?_
  k_places
  refine next_i (by decide) ok (by decide) (by decide) fun m a b c ok m0 m1 => ?_
  k_places
  refine ⟨_, rfl, by omega, by omega, ?_⟩
  refine kinds ok m0 m1 (fun i acc a b c T ok hT => ?_) fun rk a b c nk2 rk2 ok => ?_
  · k_places
    refine next_i (h0 := h0 ++ [accO acc]) (by simp) ok (by decide) (by decide) fun i a b c ok i0 i1 => ?_
    have hi : i = 0 ∨ i = 1 ∨ i = 2 := by omega
    rcases hi with rfl | rfl | rfl <;> exact v2_ixL rfl (hT _ a b c ok)
  clear kinds
  k_places
  refine ⟨0, ns, a, b, c, lk, rfl, rfl, ok, lk2, fun ol a b c ok ol6 olk => ?_⟩
  k_places
  refine ⟨0, ns, a, b, c, rk, rfl, rfl, ok, rk2, fun or a b c ok or6 ork => ?_⟩
  k_places
  refine ⟨0, ns, a, b, c, ol, lk, rfl, rfl, ok, lk2, ol6, olk, fun nl a b c ok nl6 nlk => ?_⟩
  k_places
  refine ⟨0, ns, a, b, c, or, rk, rfl, rfl, ok, rk2, or6, ork, fun nr a b c ok nr6 nrk => ?_⟩
  k_places
  refine ve_lst ?_
  k_places
  refine ve_cls ?_
  k_places
  refine ve_cls ?_
  k_places
  refine ve_cls ?_
  k_places
  refine ve_cls ?_
  k_places
  refine ve_cls ?_
  k_places
  refine next_i (h0 := [none, none, none, none, none]) (by decide) ok (by decide) (by decide) fun ix a b c ok ix0 ix5 => ?_
  obtain ⟨ci, hci⟩ := conds_at (a := f__law_always) (b := f__law_ends_agree) (c := f__law_first_set) (d := f__law_last_short) (e := f__law_never) ix0 ix5
  refine v2_ixL hci ?_
  generalize List.set ([none, none, none, none, none] : Hs) 0 (some (stO ns a b c)) = hh
  k_subL
  k_places
  refine ve_lst ?_
  k_places
  refine vc_list rfl ?_
  k_places
  refine vc_list rfl ?_
  k_places
  refine vc_list rfl ?_
  k_places
  refine vc_list rfl ?_
  k_places
  have keys : ∀ {ks : List Str} {xs : List P}, (∀ r ∈ xs, RowK ks r) → ∀ r ∈ xs, ∃ k, KeyN r k := fun h r hr => (h r hr).key
  have both : ∀ {ks : List Str} {xs : List P}, (∀ r ∈ xs, RowK ks r) → ∀ r ∈ xs, RowK ks r ∧ ∃ k, KeyN r k := fun h r hr => ⟨h r hr, (h r hr).key⟩
  have clen : ∀ old new : List P, old.length ≤ 1000 → new.length ≤ 1000 → (lawC old new).length < sizeLine := fun old new l1 l2 => by
    have := lawSteps_len old new (new ++ old) []
    rw [List.length_append] at this
    unfold lawC
    simp only [List.length_nil] at this
    omega
  have sameT : ∀ {ks : List Str} {old new : List P} {hh : Hs} {T : D → Hs → Prop}, old.length ≤ 12 → new.length ≤ 12 → (∀ r ∈ old, RowK ks r) → (∀ r ∈ new, RowK ks r) → (∀ hh' : Hs, T (dB true) hh') →
      W_lsame (Pg, w) [.own (hh.length + 1), .own (hh ++ [some (OO.dN (Pg, w) (msD (cnts old new))), some (OO.dN (Pg, w) (msD (nz (cnts old new))))]).length] (hh ++ [some (OO.dN (Pg, w) (msD (cnts old new))), some (OO.dN (Pg, w) (msD (nz (cnts old new))))] ++ [some (OO.dN (Pg, w) (msD (lawC old new)))]) T := fun {ks old new hh T} l1 l2 k1 k2 fin => by
    refine ⟨_, _, nz (cnts old new), lawC old new, rfl, ?_, ?_, List.getElem?_concat_length, cnts_same (RowK.apart ks) (both k1) (both k2), clen _ _ (by omega) (by omega), fin _⟩
    · rw [List.length_append]; simp
    · rw [List.getElem?_append_left (by rw [List.length_append]; simp)]
      exact app_at hh _ 1
  refine v2_ixL rfl ?_
  k_places
  refine v2_ixL rfl ?_
  k_places
  refine ⟨_, _, ol, nl, rfl, .inr rfl, .inr rfl, keys olk, keys nlk, by omega, by omega, ?_⟩
  k_places
  refine ⟨ol, nl, lk, rfl, olk, nlk, by omega, by omega, ?_⟩
  k_places
  refine sameT (by omega) nl6 olk nlk fun hh => ?_
  k_places
  refine v2_ixL rfl ?_
  k_places
  refine v2_ixL rfl ?_
  k_places
  refine ⟨_, _, or, nr, rfl, .inr rfl, .inr rfl, keys ork, keys nrk, by omega, by omega, ?_⟩
  k_places
  refine ⟨or, nr, rk, rfl, ork, nrk, by omega, by omega, ?_⟩
  k_places
  refine sameT (by omega) nr6 ork nrk fun hh => ?_
  k_places
  refine v2_ixL rfl ?_
  k_places
  refine v2_ixL rfl ?_
  k_places
  refine v2_ixL rfl ?_
  k_places
  refine v2_ixL rfl ?_
  k_places
  have jo : ∀ {ls rs : List P}, (∀ r ∈ ls, RowK lk r) → (∀ r ∈ rs, RowK rk r) → ∀ x ∈ ls, ∀ y ∈ rs, JoinOk SRow x y := fun h1 h2 x hx y hy => rows_join nk1 lk2 rk2 (h1 x hx) (h2 y hy)
  refine ⟨_, _, _, _, ol, nl, or, nr, ci, rfl, .inr rfl, .inr rfl, .inr rfl, .inr rfl, fun r hr => ?_, fun x y hx hy => ?_, by omega, by omega, by omega, by omega, fun junk n ln hn => ?_⟩
  · rcases hr with hr | hr | hr | hr
    · exact keys olk r hr
    · exact keys nlk r hr
    · exact keys ork r hr
    · exact keys nrk r hr
  · exact rows_join nk1 lk2 rk2 (hx.elim (olk x) (nlk x)) (hy.elim (ork y) (nrk y))
  have lN : n < (hh ++ junk).length := (List.getElem?_eq_some_iff.mp hn).1
  generalize hh ++ junk = h2 at hn lN
  k_places
  refine ⟨ol, or, ci, rfl, jo olk ork, by omega, by omega, ?_⟩
  k_places
  refine ⟨nl, nr, ci, rfl, jo nlk nrk, by omega, by omega, ?_⟩
  have jk : ∀ {ls rs : List P}, (∀ r ∈ ls, RowK lk r) → (∀ r ∈ rs, RowK rk r) → ∀ r ∈ joinW (cgC ci) ls rs, RowK (lk ++ rk) r := fun h1 h2 r hr => by
    obtain ⟨x, hx, y, hy, rfl⟩ := join_mem hr
    exact (h1 x hx).cat (h2 y hy)
  have jl1 : (joinW (cgC ci) ol or).length ≤ 144 := Nat.le_trans (joinW_len _ _ _) (Nat.le_trans (Nat.mul_le_mul ol6 or6) (by decide))
  have jl2 : (joinW (cgC ci) nl nr).length ≤ 144 := Nat.le_trans (joinW_len _ _ _) (Nat.le_trans (Nat.mul_le_mul nl6 nr6) (by decide))
  have sm := jcn_same (RowK.apart lk) (RowK.apart rk) (RowK.apart (lk ++ rk)) (cgC ci) (both olk) (both nlk) (both ork) (both nrk) fun l r h1 h2 => ⟨h1.cat h2, (h1.cat h2).key⟩
  have cl := clen (joinW (cgC ci) ol or) (joinW (cgC ci) nl nr) (by omega) (by omega)
  k_places
  refine ⟨joinW (cgC ci) ol or, joinW (cgC ci) nl nr, lk ++ rk, rfl, jk olk ork, jk nlk nrk, by omega, by omega, ?_⟩
  k_places
  refine ⟨n, h2.length, _, _, rfl, by omega, by rw [List.getElem?_append_left lN]; exact hn, List.getElem?_concat_length, sm, cl, ?_⟩
  k_places
  refine ve_lst ?_
  k_places
  have l1 := lists_ok lk2 (by omega) olk
  have l2 := lists_ok lk2 (by omega) nlk
  have l3 := lists_ok rk2 (by omega) ork
  have l4 := lists_ok rk2 (by omega) nrk
  refine ⟨.lst [.lst ol, .lst nl, .lst or, .lst nr], .lst [.lst ol, .lst nl, .lst or, .lst nr], rfl, ?_, ?_, ?_⟩
  · unfold plainU plainU.plainUs plainU.plainUs plainU.plainUs plainU.plainUs plainU.plainUs
    rw [l1.1, l2.1, l3.1, l4.1]
    rfl
  · show (decide (4 ≤ 100000) && ([P.lst ol, P.lst nl, P.lst or, P.lst nr].all (okP 2))) = true
    rw [List.all_cons, List.all_cons, List.all_cons, List.all_cons, l1.2, l2.2, l3.2, l4.2]
    rfl
  · rw [eqB_eq rfl]
    exact q _
end
end Law

namespace Law
open PySem PySem.Spec PyProof.Rows L2 Kb
theorem law_all {l : PySem.W.OpenLaw} {w : World} {K : PySem.W.Frag} {h : Heap} {mg : Str → Option Value} {fa fl  : Addr} (X : K.In h) (G : h.Ns mainGlobals mg) (hfa : mg "law" = some (.ref fa))
    {od an : Option Addr} {sl : Array (Option Value)} {oc kV dc pm cd ct : Value}
    (z_list : PySem.W.nsIn K mainGlobals "list" = some none)
    (z_range : PySem.W.nsIn K mainGlobals "range" = some none)
    {r__law_always : Addr}
    (q__law_always : PySem.W.nsIn K mainGlobals "_law_always" = some (some (.ref r__law_always)))
    {r__law_ends_agree : Addr}
    (q__law_ends_agree : PySem.W.nsIn K mainGlobals "_law_ends_agree" = some (some (.ref r__law_ends_agree)))
    {r__law_first_set : Addr}
    (q__law_first_set : PySem.W.nsIn K mainGlobals "_law_first_set" = some (some (.ref r__law_first_set)))
    {r__law_last_short : Addr}
    (q__law_last_short : PySem.W.nsIn K mainGlobals "_law_last_short" = some (some (.ref r__law_last_short)))
    {r__law_never : Addr}
    (q__law_never : PySem.W.nsIn K mainGlobals "_law_never" = some (some (.ref r__law_never)))
    (d__law_next : DefAt K mg "_law_next" st_next ["state", "limit"])
    (z_int : PySem.W.nsIn K mainGlobals "int" = some none)
    (z_len : PySem.W.nsIn K mainGlobals "len" = some none)
    (d__law_rows : DefAt K mg "_law_rows" st_rows ["state", "kinds"])
    (z_tuple : PySem.W.nsIn K mainGlobals "tuple" = some none)
    (d__law_value : DefAt K mg "_law_value" st_value ["state", "kind"])
    (d__law_char : DefAt K mg "_law_char" st_char ["index"])
    (d__law_newer : DefAt K mg "_law_newer" st_newer ["state", "old", "kinds"])
    (d_change_of : DefAt K mg "change_of" st_chg ["old", "new"])
    (d__without_zeros : DefAt K mg "_without_zeros" st_wz ["counts"])
    (d_join_change : DefAt K mg "join_change" st_jc ["old_left", "new_left", "old_right", "new_right", "condition"])
    (d__add_pairs : DefAt K mg "_add_pairs" st_add ["counts", "firsts", "seconds", "condition"])
    (d__law_always : DefAt K mg "_law_always" st_c1 ["row"])
    (d__law_ends_agree : DefAt K mg "_law_ends_agree" st_c3 ["row"])
    (z_str : PySem.W.nsIn K mainGlobals "str" = some none)
    (z_isinstance : PySem.W.nsIn K mainGlobals "isinstance" = some none)
    (d__law_first_set : DefAt K mg "_law_first_set" st_c4 ["row"])
    (d__law_last_short : DefAt K mg "_law_last_short" st_c5 ["row"])
    (d__law_never : DefAt K mg "_law_never" st_c2 ["row"])
    (d__law_change : DefAt K mg "_law_change" st_lchg ["old", "new"])
    (d__law_joined : DefAt K mg "_law_joined" st_ljoin ["left", "right", "condition"])
    (d__law_same_change : DefAt K mg "_law_same_change" st_lsame ["actual", "expected"])
    (z_dict : PySem.W.nsIn K mainGlobals "dict" = some none)
    (d__law_same : DefAt K mg "_law_same" st_same ["actual", "expected"])
    (z_bool : PySem.W.nsIn K mainGlobals "bool" = some none)
    (al : PySem.W.nsIn K mainGlobals "law" = some (some (.ref fl)))
    (ll : K.lookup fl = some ⟨oc, od, .func (PySem.W.fnOf "law" "law" (defArgs st_law) (defBody st_law) (defScope st_law) .none kV dc pm an cd ct), sl⟩)
    (cl : PySem.W.codeIn K cd "law" = true)
    (kl : PySem.W.keepIn K (.ref fl) = true) :
    ∃ fd : FuncData, (∀ (s : Shared) (v : Value), BindsTo s fd ⟨[v], []⟩ [("script", v)]) ∧ ∀ base : Heap, K.In base → base.Ns mainGlobals mg → FnOk l.prog w K mg base CX0 6 fa fd ["script"] (spD K (Tbs.of []) W_law) := by
  have e := hfa.symm.trans (PySem.W.mg_of X G al)
  cases e
  have F := fun_mk (st := st_law) ll cl kl
  have m : ∀ {x : Str}, PySem.W.nsIn K mainGlobals x = some none → mg x = none := fun z => PySem.W.mg_none_of X G z
  refine ⟨PySem.W.fnOf "law" "law" (defArgs st_law) (defBody st_law) (defScope st_law) .none kV dc pm an cd ct, fun s v => .of_eq rfl, fun base _ _ => ?_⟩
  have h_ok_next := ok_next (Pg := l.prog) (w := w) (base := base) (Θ := Tbs.of [])  d__law_next (m z_int) (m z_len)
  have h_ok_char := ok_char (Pg := l.prog) (w := w) (base := base) (Θ := Tbs.of [])  d__law_char (m z_int)
  have h_ok_value := ok_value (Pg := l.prog) (w := w) (base := base) (Θ := Tbs.of [])  d__law_value h_ok_next h_ok_char
  have h_ok_rows := ok_rows (Pg := l.prog) (w := w) (base := base) (Θ := Tbs.of [])  d__law_rows (m z_range) (m z_tuple) (m z_len) h_ok_next h_ok_value
  have h_ok_newer := ok_newer (Pg := l.prog) (w := w) (base := base) (Θ := Tbs.of [])  d__law_newer h_ok_next h_ok_rows
  have h_ok_wz := ok_wz (Pg := l.prog) (w := w) (base := base) (Θ := Tbs.of [])  d__without_zeros
  have h_ok_chg := ok_chg (Pg := l.prog) (w := w) (base := base) (Θ := Tbs.of [])  d_change_of h_ok_wz
  have h_ok_c1 := ok_c1 (Pg := l.prog) (w := w) (base := base) (Θ := Tbs.of [])  d__law_always
  have h_ok_c3 := ok_c3 (Pg := l.prog) (w := w) (base := base) (Θ := Tbs.of [])  d__law_ends_agree (m z_str) (m z_isinstance)
  have h_ok_c4 := ok_c4 (Pg := l.prog) (w := w) (base := base) (Θ := Tbs.of [])  d__law_first_set
  have h_ok_c5 := ok_c5 (Pg := l.prog) (w := w) (base := base) (Θ := Tbs.of [])  d__law_last_short (m z_str)
  have h_ok_c2 := ok_c2 (Pg := l.prog) (w := w) (base := base) (Θ := Tbs.of [])  d__law_never
  have h_ok_addC := ok_addC (Pg := l.prog) (w := w) (base := base) (Θ := Tbs.of [])  d__add_pairs (h_ok_c1.at_ (PySem.W.mg_of X G q__law_always) |>.mono (by decide)) (h_ok_c3.at_ (PySem.W.mg_of X G q__law_ends_agree) |>.mono (by decide)) (h_ok_c4.at_ (PySem.W.mg_of X G q__law_first_set) |>.mono (by decide)) (h_ok_c5.at_ (PySem.W.mg_of X G q__law_last_short) |>.mono (by decide)) (h_ok_c2.at_ (PySem.W.mg_of X G q__law_never) |>.mono (by decide))
  have h_ok_jc_cfC_f__law_always_f__law_ends_agree_f__law_first_set_f__law_last_short_f__law_never_cgC_SRow := ok_jc (Pg := l.prog) (w := w) (base := base) (Θ := Tbs.of []) (S := SRow) d_join_change h_ok_chg h_ok_addC h_ok_wz
  have h_ok_lchg := ok_lchg (Pg := l.prog) (w := w) (base := base) (Θ := Tbs.of [])  d__law_change
  have h_ok_ljoinC := ok_ljoinC (Pg := l.prog) (w := w) (base := base) (Θ := Tbs.of [])  d__law_joined (h_ok_c1.at_ (PySem.W.mg_of X G q__law_always) |>.mono (by decide)) (h_ok_c3.at_ (PySem.W.mg_of X G q__law_ends_agree) |>.mono (by decide)) (h_ok_c4.at_ (PySem.W.mg_of X G q__law_first_set) |>.mono (by decide)) (h_ok_c5.at_ (PySem.W.mg_of X G q__law_last_short) |>.mono (by decide)) (h_ok_c2.at_ (PySem.W.mg_of X G q__law_never) |>.mono (by decide))
  have h_ok_same_1 := ok_same (Pg := l.prog) (w := w) (base := base) (Θ := Tbs.of [])  d__law_same (m z_int) (m z_bool) (m z_str) (m z_list) (m z_tuple) (m z_len) (m z_range) (m z_isinstance) 1
  have h_ok_lsame := ok_lsame (Pg := l.prog) (w := w) (base := base) (Θ := Tbs.of [])  d__law_same_change (m z_len) (m z_isinstance) (m z_dict) h_ok_same_1
  have h_ok_same_4 := ok_same (Pg := l.prog) (w := w) (base := base) (Θ := Tbs.of [])  d__law_same (m z_int) (m z_bool) (m z_str) (m z_list) (m z_tuple) (m z_len) (m z_range) (m z_isinstance) 4
  exact ok_law F (m z_list) (m z_range) (PySem.W.mg_of X G q__law_always) (PySem.W.mg_of X G q__law_ends_agree) (PySem.W.mg_of X G q__law_first_set) (PySem.W.mg_of X G q__law_last_short) (PySem.W.mg_of X G q__law_never) h_ok_next h_ok_rows h_ok_newer h_ok_chg h_ok_jc_cfC_f__law_always_f__law_ends_agree_f__law_first_set_f__law_last_short_f__law_never_cgC_SRow h_ok_lchg h_ok_ljoinC h_ok_lsame h_ok_same_4
end Law

end
open PySem PySem.W PyProof.Rows
set_option maxRecDepth 100000 in
set_option maxHeartbeats 0 in
theorem PySem.Challenge.cw_kithbase_k39_change_of_a_join_holds : PySem.Challenge.rw_kithbase_k39_change_of_a_join.Holds := by
  w_on; o_law; k_head; (case hw => w_witness2)
  k_fill
  refine Kb.walkD (l := PySem.Challenge.rw_kithbase_k39_change_of_a_join) (k := 6) (W := Law.W_law) rfl rfl ⟨rfl, by decide, by decide⟩ (fun w h Y => PySem.W.kIn_of Y) (fun ns hl hb => ⟨ns, rfl, rfl, hl, fun _ => rfl⟩) ?F
  case F =>
    intro w mg fa h KX G hmg
    refine' Law.law_all KX G hmg ?z_list ?z_range ?q__law_always ?q__law_ends_agree ?q__law_first_set ?q__law_last_short ?q__law_never ?d__law_next ?z_int ?z_len ?d__law_rows ?z_tuple ?d__law_value ?d__law_char ?d__law_newer ?d_change_of ?d__without_zeros ?d_join_change ?d__add_pairs ?d__law_always ?d__law_ends_agree ?z_str ?z_isinstance ?d__law_first_set ?d__law_last_short ?d__law_never ?d__law_change ?d__law_joined ?d__law_same_change ?z_dict ?d__law_same ?z_bool ?al ?ll ?cl ?kl
    (case z_list => k_is)
    (case z_range => k_is)
    (case q__law_always => k_is)
    (case q__law_ends_agree => k_is)
    (case q__law_first_set => k_is)
    (case q__law_last_short => k_is)
    (case q__law_never => k_is)
    (case d__law_next => (refine' Kb.defAt_mk KX G ?b ?a ?l ?c ?k; (case b => exact fun _ _ _ _ _ _ us hl => match us, hl with | [_, _], _ => rfl); (case a => k_is); (case l => k_is); (case c => k_is); (case k => k_is)))
    (case z_int => k_is)
    (case z_len => k_is)
    (case d__law_rows => (refine' Kb.defAt_mk KX G ?b ?a ?l ?c ?k; (case b => exact fun _ _ _ _ _ _ us hl => match us, hl with | [_, _], _ => rfl); (case a => k_is); (case l => k_is); (case c => k_is); (case k => k_is)))
    (case z_tuple => k_is)
    (case d__law_value => (refine' Kb.defAt_mk KX G ?b ?a ?l ?c ?k; (case b => exact fun _ _ _ _ _ _ us hl => match us, hl with | [_, _], _ => rfl); (case a => k_is); (case l => k_is); (case c => k_is); (case k => k_is)))
    (case d__law_char => (refine' Kb.defAt_mk KX G ?b ?a ?l ?c ?k; (case b => exact fun _ _ _ _ _ _ us hl => match us, hl with | [_], _ => rfl); (case a => k_is); (case l => k_is); (case c => k_is); (case k => k_is)))
    (case d__law_newer => (refine' Kb.defAt_mk KX G ?b ?a ?l ?c ?k; (case b => exact fun _ _ _ _ _ _ us hl => match us, hl with | [_, _, _], _ => rfl); (case a => k_is); (case l => k_is); (case c => k_is); (case k => k_is)))
    (case d_change_of => (refine' Kb.defAt_mk KX G ?b ?a ?l ?c ?k; (case b => exact fun _ _ _ _ _ _ us hl => match us, hl with | [_, _], _ => rfl); (case a => k_is); (case l => k_is); (case c => k_is); (case k => k_is)))
    (case d__without_zeros => (refine' Kb.defAt_mk KX G ?b ?a ?l ?c ?k; (case b => exact fun _ _ _ _ _ _ us hl => match us, hl with | [_], _ => rfl); (case a => k_is); (case l => k_is); (case c => k_is); (case k => k_is)))
    (case d_join_change => (refine' Kb.defAt_mk KX G ?b ?a ?l ?c ?k; (case b => exact fun _ _ _ _ _ _ us hl => match us, hl with | [_, _, _, _, _], _ => rfl); (case a => k_is); (case l => k_is); (case c => k_is); (case k => k_is)))
    (case d__add_pairs => (refine' Kb.defAt_mk KX G ?b ?a ?l ?c ?k; (case b => exact fun _ _ _ _ _ _ us hl => match us, hl with | [_, _, _, _], _ => rfl); (case a => k_is); (case l => k_is); (case c => k_is); (case k => k_is)))
    (case d__law_always => (refine' Kb.defAt_mk KX G ?b ?a ?l ?c ?k; (case b => exact fun _ _ _ _ _ _ us hl => match us, hl with | [_], _ => rfl); (case a => k_is); (case l => k_is); (case c => k_is); (case k => k_is)))
    (case d__law_ends_agree => (refine' Kb.defAt_mk KX G ?b ?a ?l ?c ?k; (case b => exact fun _ _ _ _ _ _ us hl => match us, hl with | [_], _ => rfl); (case a => k_is); (case l => k_is); (case c => k_is); (case k => k_is)))
    (case z_str => k_is)
    (case z_isinstance => k_is)
    (case d__law_first_set => (refine' Kb.defAt_mk KX G ?b ?a ?l ?c ?k; (case b => exact fun _ _ _ _ _ _ us hl => match us, hl with | [_], _ => rfl); (case a => k_is); (case l => k_is); (case c => k_is); (case k => k_is)))
    (case d__law_last_short => (refine' Kb.defAt_mk KX G ?b ?a ?l ?c ?k; (case b => exact fun _ _ _ _ _ _ us hl => match us, hl with | [_], _ => rfl); (case a => k_is); (case l => k_is); (case c => k_is); (case k => k_is)))
    (case d__law_never => (refine' Kb.defAt_mk KX G ?b ?a ?l ?c ?k; (case b => exact fun _ _ _ _ _ _ us hl => match us, hl with | [_], _ => rfl); (case a => k_is); (case l => k_is); (case c => k_is); (case k => k_is)))
    (case d__law_change => (refine' Kb.defAt_mk KX G ?b ?a ?l ?c ?k; (case b => exact fun _ _ _ _ _ _ us hl => match us, hl with | [_, _], _ => rfl); (case a => k_is); (case l => k_is); (case c => k_is); (case k => k_is)))
    (case d__law_joined => (refine' Kb.defAt_mk KX G ?b ?a ?l ?c ?k; (case b => exact fun _ _ _ _ _ _ us hl => match us, hl with | [_, _, _], _ => rfl); (case a => k_is); (case l => k_is); (case c => k_is); (case k => k_is)))
    (case d__law_same_change => (refine' Kb.defAt_mk KX G ?b ?a ?l ?c ?k; (case b => exact fun _ _ _ _ _ _ us hl => match us, hl with | [_, _], _ => rfl); (case a => k_is); (case l => k_is); (case c => k_is); (case k => k_is)))
    (case z_dict => k_is)
    (case d__law_same => (refine' Kb.defAt_mk KX G ?b ?a ?l ?c ?k; (case b => exact fun _ _ _ _ _ _ us hl => match us, hl with | [_, _], _ => rfl); (case a => k_is); (case l => k_is); (case c => k_is); (case k => k_is)))
    (case z_bool => k_is)
    (case al => k_is)
    (case ll => k_is)
    (case cl => k_is)
    (case kl => k_is)

