import PyProof.Rows.All
import Wide.All
import OpenK.AllK
import Wide.FinOn
import PyProof.P3Statements
import PyProof.EqLayable
import HandS.ForMost
import HandS.ForExc
import HandS.Deep
import HandS.IsInst
import HandS.TupAny
import HandS.Walk
import HandS.Evl
import HandS.SetFor
import HandS.SortInts
import HandS.Conv
import HandS.WideBits
import HandS.Strs
import KE.DataCmp
import PySem.Challenge.RW_rulestand_k01_values_and_variables
set_option linter.all false
/-! Plain data, and what each construct of a def makes of them: the names of a def are slots; a slot holds a value that may be shared, or a list or dict that nobody else knows (own), or one that the caller lent (bor). -/
namespace Dn
open PySem

inductive D where
  | non | bl (b : Bool) | int (i : Int) | str (x : Str) | tup (xs : List D) | lst (xs : List D) | dic (kvs : List (D × D)) | scr (ns : List Int)

mutual
def D.toP : D → PyData
  | .non => .none
  | .bl b => .bool b
  | .int i => .int i
  | .str x => .str x
  | .tup xs => .tuple (toPs xs)
  | .lst xs => .list (toPs xs)
  | .dic _ => .none
  | .scr _ => .none
def toPs : List D → List PyData
  | [] => []
  | x :: r => x.toP :: toPs r
end
theorem toPs_map : ∀ xs : List D, toPs xs = xs.map D.toP
  | [] => by simp only [toPs, List.map_nil]
  | x :: r => by simp only [toPs, List.map_cons, toPs_map r]
mutual
/-- what == may be asked of: no dicts, no deeper than n -/
def okD : Nat → D → Bool
  | _, .non => true
  | _, .bl _ => true
  | _, .int _ => true
  | _, .str x => x.cps.all fun n => decide (n < 1114112)
  | n + 1, .tup xs => okDs n xs
  | n + 1, .lst xs => okDs n xs
  | 0, .tup _ => false
  | 0, .lst _ => false
  | _, .dic _ => false
  | _, .scr _ => false
def okDs : Nat → List D → Bool
  | _, [] => true
  | n, x :: r => okD n x && okDs n r
end
theorem okDs_all (n : Nat) : ∀ xs : List D, okDs n xs = xs.all (okD n)
  | [] => by simp only [okDs, List.all_nil]
  | x :: r => by simp only [okDs, List.all_cons, okDs_all n r]
abbrev D.ok (d : D) : Bool := okD 30 d
/-- Python's == -/
def D.eqv (a b : D) : Bool := PyData.eqv a.toP b.toP

/-- what an own (or lent) object holds -/
inductive C where
  | lst (xs : List D) | dic (kvs : List (D × D))
@[simp] def C.d : C → D
  | .lst xs => .lst xs
  | .dic kvs => .dic kvs
/-- an expression's value: one that may be shared, or an object just made that nobody else knows -/
inductive Rv where
  | d (d : D) | o (c : C)
@[simp] def Rv.fr : Rv → D
  | .d x => x
  | .o c => c.d
inductive Slot where
  | un | val (d : D) | own (c : C) | bor (c : C)
@[simp] def Slot.isC : Slot → Bool
  | .own _ => true
  | .bor _ => true
  | _ => false
@[simp] def Rv.sl : Rv → Slot
  | .d x => .val x
  | .o c => .own c
abbrev Env := List Slot
structure Err where
  cls : Str
  args : List (Str × D)
inductive Res (α : Type) where
  | bad | err (e : Err) (ρ : Env) | ok (a : α) (ρ : Env)
abbrev M (α : Type) := Env → Res α
@[simp] def ret {α : Type} (a : α) : M α := fun ρ => .ok a ρ
@[simp] def bad {α : Type} : M α := fun _ => .bad
@[simp] def bind {α β : Type} (m : M α) (f : α → M β) : M β := fun ρ => match m ρ with
  | .bad => .bad
  | .err e ρ' => .err e ρ'
  | .ok a ρ' => f a ρ'
@[simp] def opt {α : Type} : Option α → M α
  | some a => ret a
  | none => bad
/-- no error comes -/
def quiet {α : Type} (m : M α) : M α := fun ρ => match m ρ with
  | .err _ _ => .bad
  | r => r
abbrev E := M Rv
abbrev T := M Bool
@[simp] def val (m : E) : M D := bind m fun r => ret r.fr

/-! ### expressions -/
@[simp] def eC (d : D) : E := ret (.d d)
/-- a name: an own object is shared from here on -/
@[simp] def eV (i : Nat) : E := fun ρ => match ρ[i]? with
  | some (.val d) => .ok (.d d) ρ
  | some (.own c) => .ok (.d c.d) (ρ.set i (.val c.d))
  | _ => .bad
/-- a name that is not asked again: its own object is handed on -/
@[simp] def eMv (i : Nat) : E := fun ρ => match ρ[i]? with
  | some (.val d) => .ok (.d d) ρ
  | some (.own c) => .ok (.o c) (ρ.set i .un)
  | _ => .bad
/-- what a name holds, to be looked at -/
@[simp] def peek (i : Nat) : M D := fun ρ => match ρ[i]? with
  | some (.val d) => .ok d ρ
  | some (.own c) => .ok c.d ρ
  | some (.bor c) => .ok c.d ρ
  | _ => .bad
@[simp] def e1 (f : D → Option Rv) (a : E) : E := bind (val a) fun x => opt (f x)
@[simp] def e2 (f : D → D → Option Rv) (a b : E) : E := bind (val a) fun x => bind (val b) fun y => opt (f x y)
@[simp] def eIf (t : T) (a b : E) : E := bind t fun k => if k then a else b
@[simp] def tIf (t a b : T) : T := bind t fun k => if k then a else b
@[simp] def tAnd (a b : T) : T := bind a fun k => if k then b else ret false
@[simp] def tOr (a b : T) : T := bind a fun k => if k then ret true else b
@[simp] def tNot (a : T) : T := bind a fun k => ret (!k)
/-- a test as a value, and back -/
@[simp] def eT (t : T) : E := bind t fun k => ret (.d (.bl k))
@[simp] def asB : D → Option Bool
  | .bl b => some b
  | _ => none
@[simp] def tE (m : E) : T := bind (val m) fun x => opt (asB x)
@[simp] def truth : D → Option Bool
  | .non => some false
  | .bl b => some b
  | .int i => some (i != 0)
  | .str x => if x.length ≤ 100000 then some ((x.length : Int) != 0) else none
  | .tup xs => some (!xs.isEmpty)
  | .lst xs => some (!xs.isEmpty)
  | .dic kvs => some (!kvs.isEmpty)
  | .scr _ => none
@[simp] def tTr (m : E) : T := bind (val m) fun x => opt (truth x)
@[simp] def tPk (i : Nat) : T := bind (peek i) fun x => opt (truth x)
@[simp] def t2 (f : D → D → Option Bool) (a b : E) : T := bind (val a) fun x => bind (val b) fun y => opt (f x y)
@[simp] def t1 (f : D → Option Bool) (a : E) : T := bind (val a) fun x => opt (f x)
/-- arguments, from the left -/
@[simp] def args : List E → M (List D)
  | [] => ret []
  | a :: r => bind (val a) fun x => bind (args r) fun xs => ret (x :: xs)
@[simp] def eTup (es : List E) : E := bind (args es) fun xs => if xs.length ≤ 100000 then ret (.d (.tup xs)) else bad
@[simp] def eLst (es : List E) : E := bind (args es) fun xs => if xs.length ≤ 100000 then ret (.o (.lst xs)) else bad
@[simp] def eN (f : List D → Option Rv) (es : List E) : E := bind (args es) fun xs => opt (f xs)

/-- and, or, not of values, all but the last True or False -/
@[simp] def eAnd (a b : E) : E := bind (tE a) fun k => if k then b else ret (.d (.bl false))
@[simp] def eOr (a b : E) : E := bind (tE a) fun k => if k then ret (.d (.bl true)) else b
@[simp] def eNot (a : E) : E := bind (tE a) fun k => ret (.d (.bl !k))
/-- what stands at a name's slot, looked at once the other operand is there -/
@[simp] def hasV : Option Slot → Bool
  | some .un => false
  | some _ => true
  | none => false
@[simp] def ePk2 (f : D → D → Option D) (i : Nat) (m : E) : E := fun ρ => if hasV ρ[i]? then bind (val m) (fun j ρ' => match peek i ρ' with
  | .ok x _ => match f x j with
    | some d => .ok (.d d) ρ'
    | none => .bad
  | _ => .bad) ρ else .bad
@[simp] def ePk1 (f : D → Option D) (i : Nat) : E := fun ρ => match peek i ρ with
  | .ok x _ => match f x with
    | some d => .ok (.d d) ρ
    | none => .bad
  | _ => .bad

/-! ### operations -/
def dOk (n : Nat) : Bool := decide (n ≤ 100000)
@[simp] def oAdd : D → D → Option Rv
  | .int a, .int b => some (.d (.int (a + b)))
  | .str a, .str b => if a.length + b.length ≤ 100000 then some (.d (.str (a ++ b))) else none
  | .tup a, .tup b => if a.length + b.length ≤ 100000 then some (.d (.tup (a ++ b))) else none
  | .lst a, .lst b => if a.length + b.length ≤ 100000 then some (.o (.lst (a ++ b))) else none
  | _, _ => none
@[simp] def oSub : D → D → Option Rv
  | .int a, .int b => some (.d (.int (a - b)))
  | _, _ => none
def mulOk (i j : Int) : Bool := (decide (-(2 ^ 64) < i) && decide (i < 2 ^ 64)) || (decide (-(2 ^ 64) < j) && decide (j < 2 ^ 64))
def oMul : D → D → Option Rv
  | .int a, .int b => if mulOk a b then some (.d (.int (a * b))) else none
  | .lst a, .int b => if 0 ≤ b ∧ b ≤ 100000 ∧ a.length * b.toNat ≤ 100000 then some (.o (.lst (List.replicate b.toNat a).flatten)) else none
  | _, _ => none
@[simp] def oDiv : D → D → Option Rv
  | .int a, .int b => if 0 < b ∧ b < 1073741824 then some (.d (.int (a / b))) else none
  | _, _ => none
@[simp] def oMod : D → D → Option Rv
  | .int a, .int b => if 0 < b then some (.d (.int (a % b))) else none
  | _, _ => none
def oPow : D → D → Option Rv
  | .int a, .int b => if 0 ≤ b ∧ b ≤ 1000000 ∧ a.natAbs < 2 ^ 64 then some (.d (.int (a ^ b.toNat))) else none
  | _, _ => none
@[simp] def oNeg : D → Option Rv
  | .int a => some (.d (.int (-a)))
  | _ => none
@[simp] def oEq (a b : D) : Option Bool := if a.ok && b.ok then some (a.eqv b) else none
@[simp] def oNe (a b : D) : Option Bool := if a.ok && b.ok then some (!a.eqv b) else none
@[simp] def oLt : D → D → Option Bool
  | .int a, .int b => some (decide (a < b))
  | .str a, .str b => some (decide (a.cps.toList < b.cps.toList))
  | _, _ => none
@[simp] def oLe : D → D → Option Bool
  | .int a, .int b => some (decide (a ≤ b))
  | _, _ => none
@[simp] def oGt : D → D → Option Bool
  | .int a, .int b => some (decide (b < a))
  | _, _ => none
@[simp] def oGe : D → D → Option Bool
  | .int a, .int b => some (decide (b ≤ a))
  | _, _ => none
@[simp] def isNon : D → Bool
  | .non => true
  | _ => false
@[simp] def oIsN (a : D) : Option Bool := some (isNon a)
@[simp] def oNotN (a : D) : Option Bool := some (!isNon a)
/-- a < b < c -/
@[simp] def eChain (f g : D → D → Option Bool) (a b c : E) : T :=
  bind (val a) fun x => bind (val b) fun y => bind (opt (f x y)) fun k => if k then bind (val c) fun z => opt (g y z) else ret false
/-- the place of an index -/
def ixAt (n : Nat) (i : Int) : Option Nat := if 0 ≤ i then (if i < n then some i.toNat else none) else if -(n : Int) ≤ i then some (i + n).toNat else none
def dAt {α : Type} (xs : List α) (i : Int) : Option α := (ixAt xs.length i).bind fun j => xs[j]?
def dGet (kvs : List (D × D)) (k : D) : Option D := (kvs.find? fun p => p.1.eqv k).map (·.2)
def dHas (kvs : List (D × D)) (k : D) : Bool := kvs.any fun p => p.1.eqv k
def dPut (kvs : List (D × D)) (k v : D) : List (D × D) := if dHas kvs k then kvs.map fun p => if p.1.eqv k then (p.1, v) else p else kvs ++ [(k, v)]
@[simp] def oIx : D → D → Option Rv
  | .lst xs, .int i => (dAt xs i).map .d
  | .tup xs, .int i => (dAt xs i).map .d
  | .str x, .int i => if x.length ≤ 100000 then (dAt x.cps.toList i).map fun c => .d (.str ⟨#[c]⟩) else none
  | _, _ => none
/-- keys: whole numbers and texts -/
def isKey : D → Bool
  | .int _ => true
  | .str _ => true
  | _ => false
@[simp] theorem isKey_int (i : Int) : isKey (.int i) = true := rfl
@[simp] theorem isKey_str (x : Str) : isKey (.str x) = true := rfl
@[simp] def oDGet : D → D → Option Rv
  | .dic kvs, k => if isKey k then (dGet kvs k).map .d else none
  | _, _ => none
/-- a[k] of whatever a is -/
@[simp] def oIxA : D → D → Option Rv
  | .dic kvs, k => oDGet (.dic kvs) k
  | x, y => oIx x y
@[simp] def oIxD (x y : D) : Option D := match oIxA x y with
  | some (.d z) => some z
  | _ => none
@[simp] def oDGetD : D → D → D → Option Rv
  | .dic kvs, k, x => if isKey k then some (.d ((dGet kvs k).getD x)) else none
  | _, _, _ => none
@[simp] def oDIn : D → D → Option Bool
  | k, .dic kvs => if isKey k then some (dGet kvs k).isSome else none
  | _, _ => none
def flatD : D → Bool
  | .non => true
  | .bl _ => true
  | .int _ => true
  | .str _ => true
  | _ => false
def oIn : D → D → Option Bool
  | x, .lst ys => if x.ok && (D.lst ys).ok then some (ys.any fun y => y.eqv x) else none
  | x, .tup ys => if flatD x && ys.all flatD then some (ys.any fun y => y.eqv x) else none
  | _, _ => none
/-- one sign in a text -/
def oInS : D → D → Option Bool
  | .str x, .str y => match x.cps.toList with
    | [k] => some (decide (k ∈ y.cps.toList))
    | _ => none
  | _, _ => none
@[simp] def oInA (a : D) : D → Option Bool
  | .dic kvs => oDIn a (.dic kvs)
  | .str y => oInS a (.str y)
  | b => oIn a b
@[simp] def oNotInA (a b : D) : Option Bool := (oInA a b).map (!·)
@[simp] def oLen : D → Option Rv
  | .lst xs => some (.d (.int xs.length))
  | .tup xs => some (.d (.int xs.length))
  | .str x => if x.length ≤ 100000 then some (.d (.int x.length)) else none
  | .dic kvs => some (.d (.int kvs.length))
  | _ => none
@[simp] def oLenD (x : D) : Option D := match oLen x with
  | some (.d z) => some z
  | _ => none
@[simp] def oAbs : D → Option Rv
  | .int i => some (.d (.int (if i < 0 then -i else i)))
  | _ => none
@[simp] def oInt : D → Option Rv
  | .int i => some (.d (.int i))
  | .bl b => some (.d (.int (if b then 1 else 0)))
  | _ => none
@[simp] def oMax2 : List D → Option Rv
  | [.int i, .int j] => some (.d (.int (if j > i then j else i)))
  | _ => none
@[simp] def oMin2 : List D → Option Rv
  | [.int i, .int j] => some (.d (.int (if j < i then j else i)))
  | _ => none
@[simp] def asBs : List D → Option (List Bool)
  | [] => some []
  | .bl b :: r => (asBs r).map (b :: ·)
  | _ :: _ => none
@[simp] def asIs : List D → Option (List Int)
  | [] => some []
  | .int b :: r => (asIs r).map (b :: ·)
  | _ :: _ => none
@[simp] def oAll : D → Option Rv
  | .lst xs => (asBs xs).map fun bs => .d (.bl (bs.all id))
  | _ => none
@[simp] def oAny : D → Option Rv
  | .lst xs => (asBs xs).map fun bs => .d (.bl (bs.any id))
  | _ => none
@[simp] def oSum : D → Option Rv
  | .lst xs => (asIs xs).map fun ns => .d (.int ns.sum)
  | _ => none
@[simp] def oList : D → Option Rv
  | .lst xs => some (.o (.lst xs))
  | .tup xs => some (.o (.lst xs))
  | .scr ns => some (.o (.lst (ns.map .int)))
  | _ => none
@[simp] def oTuple : D → Option Rv
  | .lst xs => some (.d (.tup xs))
  | .tup xs => some (.d (.tup xs))
  | _ => none
/-- isinstance: the type's name, and whether it is one of these -/
@[simp] def D.ty : D → String
  | .non => "NoneType"
  | .bl _ => "bool"
  | .int _ => "int"
  | .str _ => "str"
  | .tup _ => "tuple"
  | .lst _ => "list"
  | .dic _ => "dict"
  | .scr _ => "list"
def isiT (t c : String) : Bool := t == c || (t == "bool" && c == "int")
@[simp] def oIsi (c : String) (x : D) : Option Rv := some (.d (.bl (isiT x.ty c)))
/-- dict(a list of pairs) -/
def asPairs : List D → Option (List (D × D))
  | [] => some []
  | .tup [k, v] :: r => if isKey k then (asPairs r).map ((k, v) :: ·) else none
  | _ :: _ => none
def merge (kvs more : List (D × D)) : List (D × D) := more.foldl (fun acc p => dPut acc p.1 p.2) kvs
def oDictP : D → Option Rv
  | .lst xs => (asPairs xs).map fun ps => .o (.dic (merge [] ps))
  | _ => none

@[simp] def isDic : D → Bool
  | .dic _ => true
  | _ => false
/-- d.get(k, x) -/
@[simp] def eGet2 (a k x : E) : E := bind (val a) fun d => if isDic d then bind (val k) fun y => bind (val x) fun z => opt (oDGetD d y z) else bad
/-- dict displays -/
@[simp] def ePairs : List (E × E) → M (List (D × D))
  | [] => ret []
  | (k, v) :: r => bind (val k) fun x => bind (val v) fun y => bind (ePairs r) fun ps => ret ((x, y) :: ps)
@[simp] def eDisp (ps : List (E × E)) : E := fun ρ => match ePairs ps ρ with
  | .ok kvs ρ' => if kvs.all (fun p => isKey p.1) && decide (kvs.length ≤ 15) then .ok (.o (.dic (merge [] kvs))) ρ' else .bad
  | _ => .bad

/-! ### statements -/
inductive Fl where
  | bad | err (e : Err) (ρ : Env) | nx (ρ : Env) | rt (r : Rv) (ρ : Env) | bk (ρ : Env) | ct (ρ : Env)
abbrev S := Env → Fl
@[simp] def sNil : S := fun ρ => .nx ρ
@[simp] def sSeq (a b : S) : S := fun ρ => match a ρ with
  | .nx ρ' => b ρ'
  | f => f
@[simp] def sBad : S := fun _ => .bad
@[simp] def sBk : S := fun ρ => .bk ρ
@[simp] def sCt : S := fun ρ => .ct ρ
@[simp] def store (ρ : Env) (i : Nat) (s : Slot) : Option Env := match ρ[i]? with
  | some (.bor _) => none
  | some _ => some (ρ.set i s)
  | none => none
@[simp] def runM {α : Type} (m : M α) (k : α → Env → Fl) : S := fun ρ => match m ρ with
  | .bad => .bad
  | .err e ρ' => .err e ρ'
  | .ok a ρ' => k a ρ'
@[simp] def sAsg (i : Nat) (m : E) : S := runM m fun r ρ => match store ρ i r.sl with
  | some ρ' => .nx ρ'
  | none => .bad
@[simp] def sRet (m : E) : S := runM m fun r ρ => .rt r ρ
@[simp] def sRetN : S := fun ρ => .rt (.d .non) ρ
@[simp] def sExp (m : E) : S := runM m fun _ ρ => .nx ρ
@[simp] def sIf (t : T) (a b : S) : S := runM t fun k ρ => if k then a ρ else b ρ
/-- targets -/
abbrev Tg := D → Env → Option Env
@[simp] def gV (i : Nat) : Tg := fun d ρ => store ρ i (.val d)
@[simp] def gVs : List Nat → List D → Env → Option Env
  | [], [], ρ => some ρ
  | i :: is, d :: ds, ρ => (store ρ i (.val d)).bind (gVs is ds)
  | _, _, _ => none
@[simp] def gT (is : List Nat) : Tg := fun d ρ => match d with
  | .tup ds => gVs is ds ρ
  | _ => none
@[simp] def sUnp (is : List Nat) (m : E) : S := runM (val m) fun d ρ => match gT is d ρ with
  | some ρ' => .nx ρ'
  | none => .bad
/-- x += e -/
@[simp] def sAug (f : D → D → Option Rv) (i : Nat) (m : E) : S := fun ρ => match ρ[i]? with
  | some (.val x) => match val m ρ with
    | .bad => .bad
    | .err e ρ' => .err e ρ'
    | .ok y ρ' => match f x y with
      | some (.d z) => match store ρ' i (.val z) with
        | some ρ'' => .nx ρ''
        | none => .bad
      | _ => .bad
  | _ => .bad
/-- what an own or lent object in slot i becomes -/
@[simp] def chg (i : Nat) (f : C → Option C) : S := fun ρ => match ρ[i]? with
  | some (.own c) => match f c with
    | some c' => .nx (ρ.set i (.own c'))
    | none => .bad
  | some (.bor c) => match f c with
    | some c' => .nx (ρ.set i (.bor c'))
    | none => .bad
  | _ => .bad
@[simp] def cApp (d : D) : C → Option C
  | .lst xs => if xs.length < 100000 then some (.lst (xs ++ [d])) else none
  | _ => none
@[simp] def cExt (ds : List D) : C → Option C
  | .lst xs => if xs.length + ds.length ≤ 100000 then some (.lst (xs ++ ds)) else none
  | _ => none
@[simp] def cSetI (i : Int) (d : D) : C → Option C
  | .lst xs => (ixAt xs.length i).map fun j => .lst (xs.set j d)
  | _ => none
@[simp] def cPutK (k d : D) : C → Option C
  | .dic kvs => if isKey k && decide (kvs.length < 100000) then some (.dic (dPut kvs k d)) else none
  | _ => none
@[simp] def isCont : Option Slot → Bool
  | some s => s.isC
  | none => false
@[simp] def isLs : Option Slot → Bool
  | some (.own (.lst _)) => true
  | some (.bor (.lst _)) => true
  | _ => false
/-- x.append(e), x.extend(e), x[e] = v with x a name -/
@[simp] def sApp (i : Nat) (m : E) : S := fun ρ => if isLs ρ[i]? then runM (val m) (fun d ρ => chg i (cApp d) ρ) ρ else .bad
@[simp] def sExt (i : Nat) (m : E) : S := fun ρ => if isLs ρ[i]? then runM (val m) (fun d ρ => match d with
  | .lst ds => chg i (cExt ds) ρ
  | _ => .bad) ρ else .bad
@[simp] def sSetI (i : Nat) (k v : E) : S := runM (val v) fun d ρ => if isCont ρ[i]? then runM (val k) (fun j ρ => match j with
  | .int n => chg i (cSetI n d) ρ
  | _ => .bad) ρ else .bad
@[simp] def sPutK (i : Nat) (k v : E) : S := runM (val v) fun d ρ => if isCont ρ[i]? then runM (val k) (fun j ρ => chg i (cPutK j d) ρ) ρ else .bad

/-! ### loops -/
def loop (g : Tg) (b : S) : List D → Env → Fl
  | [], ρ => .nx ρ
  | x :: xs, ρ => match g x ρ with
    | none => .bad
    | some ρ1 => match b ρ1 with
      | .nx ρ2 => loop g b xs ρ2
      | .ct ρ2 => loop g b xs ρ2
      | .bk ρ2 => .nx ρ2
      | f => f
@[simp] def sFor (src : M (List D)) (g : Tg) (b : S) : S := runM src fun xs ρ => loop g b xs ρ
def wh (t : T) (b : S) : Nat → Env → Fl
  | 0, _ => .bad
  | n + 1, ρ => match t ρ with
    | .bad => .bad
    | .err e ρ' => .err e ρ'
    | .ok false ρ' => .nx ρ'
    | .ok true ρ' => match b ρ' with
      | .nx ρ2 => wh t b n ρ2
      | .ct ρ2 => wh t b n ρ2
      | .bk ρ2 => .nx ρ2
      | f => f
/-- the walked items -/
@[simp] def srcSeq (m : E) : M (List D) := bind (val m) fun d => match d with
  | .lst xs => ret xs
  | .tup xs => ret xs
  | _ => bad
def upTo (lo : Int) (n : Nat) : List D := (List.range n).map fun (i : Nat) => .int (lo + (i : Int))
def bigOk (i : Int) : Bool := decide (-1000000000 ≤ i) && decide (i ≤ 1000000000)
def srcL (m : E) : M (List D) := bind (val m) fun d => match d with
  | .lst xs => ret xs
  | _ => bad
def srcT (m : E) : M (List D) := bind (val m) fun d => match d with
  | .tup xs => ret xs
  | _ => bad
def zipD : List D → List D → List D
  | x :: xs, y :: ys => .tup [x, y] :: zipD xs ys
  | _, _ => []
def srcZip (m n : E) : M (List D) := bind (val m) fun c => bind (val n) fun d => match c, d with
  | .lst xs, .lst ys => ret (zipD xs ys)
  | _, _ => bad
def srcR1 (m : E) : M (List D) := bind (val m) fun d => match d with
  | .int j => if bigOk j then ret (upTo 0 j.toNat) else bad
  | _ => bad
def srcR2 (m n : E) : M (List D) := bind (val m) fun c => bind (val n) fun d => match c, d with
  | .int i, .int j => if bigOk i && bigOk j then ret (upTo i (j - i).toNat) else bad
  | _, _ => bad
def pairsN : Nat → List D → List D
  | _, [] => []
  | n, x :: r => .tup [.int (n : Int), x] :: pairsN (n + 1) r
def srcEnum (m : E) : M (List D) := bind (val m) fun d => match d with
  | .lst xs => ret (pairsN 0 xs)
  | _ => bad
/-- slots of a comprehension's own names, emptied | put back -/
def wipeE (ρ : Env) : List Nat → Env
  | [] => ρ
  | i :: r => (wipeE ρ r).set i .un
def backS : Option Slot → Slot
  | some (.val d) => .val d
  | _ => .un
def backE (ρ0 ρ : Env) : List Nat → Env
  | [] => ρ
  | i :: r => (backE ρ0 ρ r).set i (backS ρ0[i]?)
def comp (own : List Nat) (g : Tg) (t : T) (e : E) : List D → List D → Env → Res (List D)
  | [], acc, ρ => .ok acc ρ
  | x :: xs, acc, ρ => match g x (wipeE ρ own) with
    | none => .bad
    | some ρ1 => match t ρ1 with
      | .ok false ρ2 => comp own g t e xs acc ρ2
      | .ok true ρ2 => match val e ρ2 with
        | .ok y ρ3 => if acc.length < 100000 then comp own g t e xs (acc ++ [y]) ρ3 else .bad
        | _ => .bad
      | _ => .bad
@[simp] def tYes : T := ret true
def eLc (own : List Nat) (src : M (List D)) (g : Tg) (t : T) (e : E) : E := bind src fun xs ρ => match comp own g t e xs [] ρ with
  | .ok ys ρ' => .ok (.o (.lst ys)) (backE ρ ρ' own)
  | _ => .bad

/-! ### defs and calls -/
abbrev FD := List Slot → Res Rv
@[simp] def keepO : Slot → Slot
  | .bor c => .bor c
  | _ => .un
@[simp] def outE : Nat → Env → List Slot
  | 0, _ => []
  | n + 1, [] => .un :: outE n []
  | n + 1, s :: ρ => keepO s :: outE n ρ
@[simp] def fn (n : Nat) (b : S) : FD := fun as => match b (as ++ List.replicate (n - as.length) .un) with
  | .rt r ρ => .ok r (outE as.length ρ)
  | .nx ρ => .ok (.d .non) (outE as.length ρ)
  | .err e ρ => .err e (outE as.length ρ)
  | _ => .bad
/-- an argument: a value, or a name whose own (or lent) object is lent -/
inductive Ar where
  | v (m : E) | b (i : Nat)
@[simp] def argv : List Ar → M (List (D ⊕ Nat))
  | [] => ret []
  | .v m :: r => bind (val m) fun x => bind (argv r) fun xs => ret (.inl x :: xs)
  | .b i :: r => fun ρ => if isCont ρ[i]? then bind (argv r) (fun xs => ret (.inr i :: xs)) ρ else .bad
@[simp] def lend (ρ : Env) : List (D ⊕ Nat) → Option (List Slot)
  | [] => some []
  | .inl d :: r => (lend ρ r).map (.val d :: ·)
  | .inr i :: r => match ρ[i]? with
    | some (.own c) => (lend ρ r).map (.bor c :: ·)
    | some (.bor c) => (lend ρ r).map (.bor c :: ·)
    | _ => none
/-- what was lent comes back -/
@[simp] def back1 : Option Slot → Slot → Slot
  | some (.own _), .bor c => .own c
  | some (.bor _), .bor c => .bor c
  | _, _ => .un
@[simp] def takeB (ρ : Env) : List (D ⊕ Nat) → List Slot → Env
  | .inr i :: r, s0 :: s => (takeB ρ r s).set i (back1 ρ[i]? s0)
  | .inl _ :: r, _ :: s => takeB ρ r s
  | .inr i :: r, [] => (takeB ρ r []).set i .un
  | .inl _ :: r, [] => takeB ρ r []
  | [], _ => ρ
@[simp] def idxs : List (D ⊕ Nat) → List Nat
  | [] => []
  | .inr i :: r => i :: idxs r
  | _ :: r => idxs r
@[simp] def eCall (F : FD) (as : List Ar) : E := bind (argv as) fun xs ρ =>
  if (idxs xs).Nodup then match lend ρ xs with
    | none => .bad
    | some sl => match F sl with
      | .bad => .bad
      | .err e sl' => .err e (takeB ρ xs sl')
      | .ok r sl' => .ok r (takeB ρ xs sl')
  else .bad

/-! ### more operations -/
def oShl : D → D → Option Rv
  | .int a, .int b => if 0 ≤ b ∧ (Builtin.Int.intBits a : Int) + b ≤ 2 ^ 27 then some (.d (.int (a * 2 ^ b.toNat))) else none
  | _, _ => none
def oShr : D → D → Option Rv
  | .int a, .int b => if 0 ≤ b then some (.d (.int (a / 2 ^ b.toNat))) else none
  | _, _ => none
def oBand : D → D → Option Rv
  | .int a, .int b => some (.d (.int (Builtin.bitAnd a b)))
  | _, _ => none
def oBor : D → D → Option Rv
  | .int a, .int b => some (.d (.int (Builtin.bitOr a b)))
  | _, _ => none
def oBitLen : D → Option Rv
  | .int a => some (.d (.int (Builtin.Int.intBits a : Nat)))
  | _ => none
def maxI : List Int → Option Int
  | [] => none
  | [x] => some x
  | x :: r => (maxI r).map fun m => if x < m then m else x
def minI : List Int → Option Int
  | [] => none
  | [x] => some x
  | x :: r => (minI r).map fun m => if m < x then m else x
def insI (x : Int) : List Int → List Int
  | [] => [x]
  | y :: r => if x ≤ y then x :: y :: r else y :: insI x r
def sortI : List Int → List Int
  | [] => []
  | x :: r => insI x (sortI r)
def ddI : List Int → List Int
  | [] => []
  | x :: r => if x ∈ r then ddI r else x :: ddI r
def oMax1 : D → Option Rv
  | .lst xs => (asIs xs).bind fun ns => (maxI ns).map fun m => .d (.int m)
  | _ => none
def oMin1 : D → Option Rv
  | .lst xs => (asIs xs).bind fun ns => (minI ns).map fun m => .d (.int m)
  | _ => none
def oSorted : D → Option Rv
  | .lst xs => (asIs xs).map fun ns => .o (.lst ((sortI ns).map .int))
  | _ => none
def oSortedSet : D → Option Rv
  | .lst xs => (asIs xs).bind fun ns => if ns.length < 64 then some (.o (.lst ((sortI (ddI ns)).map .int))) else none
  | _ => none
def eListR2 (a b : E) : E := bind (val a) fun x => bind (val b) fun y => match x, y with
  | .int i, .int j => if bigOk i && bigOk j && decide ((j - i).toNat ≤ 100000) then ret (.o (.lst (upTo i (j - i).toNat))) else bad
  | _, _ => bad
/-- slices -/
abbrev PM := M (Option Int)
def pNone : PM := ret none
def pSome (m : E) : PM := bind (val m) fun d => match d with
  | .int i => ret (some i)
  | _ => bad
def ixS (n d : Nat) : Option Int → Nat
  | none => d
  | some v => if v < 0 then (v + (n : Int)).toNat else min v.toNat n
def cutL {α : Type} (xs : List α) (lo hi : Option Int) : List α := (xs.drop (ixS xs.length 0 lo)).take (ixS xs.length xs.length hi - ixS xs.length 0 lo)
def oSl : D → Option Int → Option Int → Option Rv
  | .str z, lo, hi => if z.length ≤ 100000 then some (.d (.str ⟨(cutL z.cps.toList lo hi).toArray⟩)) else none
  | .lst xs, lo, hi => some (.o (.lst (cutL xs lo hi)))
  | .tup xs, lo, hi => some (.d (.tup (cutL xs lo hi)))
  | _, _, _ => none
def eSl (a : E) (lo hi : PM) : E := bind (val a) fun d => bind lo fun l => bind hi fun h => opt (oSl d l h)
def oAddI : D → D → Option Rv
  | .int a, .int b => some (.d (.int (a + b)))
  | _, _ => none
def ltD : D → D → Option Bool
  | .int p, .int q => some (decide (p < q))
  | .str p, .str q => some (decide (p.cps.toList < q.cps.toList))
  | _, _ => none
/-- pairs with a number first -/
def oLtP : D → D → Option Bool
  | .tup [.int i, u], .tup [.int j, v] => if i = j then ltD u v else some (decide (i < j))
  | _, _ => none
def oMulS : D → D → Option Rv
  | .str z, .int n => if 2 ≤ n ∧ n ≤ 1000 ∧ 1 ≤ z.length ∧ z.length ≤ 1000 then some (.d (.str ⟨(List.replicate n.toNat z.cps).foldl (· ++ ·) #[]⟩)) else none
  | _, _ => none
/-- the signs of a text -/
def srcS (m : E) : M (List D) := bind (val m) fun d => match d with
  | .str x => ret (x.cps.toList.map fun k => .str ⟨#[k]⟩)
  | _ => bad
end Dn
set_option Elab.async false
set_option linter.all false
set_option maxRecDepth 100000
set_option maxHeartbeats 4000000
/-! From plain data to what a def does: the state of a def is told by slots. -/
namespace Dn
open PySem L2
open Evl (Ex ex_l ex_t fresh_back)

def kD : Key → D
  | .inl i => .int i
  | .inr x => .str x
mutual
inductive R (K : PySem.W.Frag) (H : Hp) : V → D → Prop
  | non : R K H .non .non
  | bl (b : Bool) : R K H (.bl b) (.bl b)
  | int (i : Int) : R K H (.int i) (.int i)
  | str (x : Str) : R K H (.str x) (.str x)
  | tup {a : Addr} {xs : List V} {ds : List D} : SqT K H a xs → Rs K H xs ds → R K H (.ref a) (.tup ds)
  | lst {a : Addr} {xs : List V} {ds : List D} : H a = some (.lst xs) → Rs K H xs ds → R K H (.ref a) (.lst ds)
  | dic {a : Addr} {kvs : List (Key × V)} {ds : List (D × D)} : H a = some (.dK kvs) → Rk K H kvs ds → R K H (.ref a) (.dic ds)
  | scr {a : Addr} {ns : List Int} : SqL K H a (ns.map V.int) → R K H (.ref a) (.scr ns)
inductive Rs (K : PySem.W.Frag) (H : Hp) : List V → List D → Prop
  | nil : Rs K H [] []
  | cons {v : V} {d : D} {vs : List V} {ds : List D} : R K H v d → Rs K H vs ds → Rs K H (v :: vs) (d :: ds)
inductive Rk (K : PySem.W.Frag) (H : Hp) : List (Key × V) → List (D × D) → Prop
  | nil : Rk K H [] []
  | cons {k : Key} {v : V} {d : D} {kvs : List (Key × V)} {ds : List (D × D)} : R K H v d → Rk K H kvs ds → Rk K H ((k, v) :: kvs) ((kD k, d) :: ds)
end
section
variable {K : PySem.W.Frag} {H H' : Hp}
mutual
theorem R.mono (e : Ex H H') : ∀ {d : D} {v : V}, R K H v d → R K H' v d
  | .non, _, h => by cases h; exact .non
  | .bl b, _, h => by cases h; exact .bl b
  | .int i, _, h => by cases h; exact .int i
  | .str x, _, h => by cases h; exact .str x
  | .tup ds, _, h => by
    cases h with
    | tup h1 h2 => exact .tup (ex_t e h1) (Rs.mono e h2)
  | .lst ds, _, h => by
    cases h with
    | lst h1 h2 => exact .lst (e _ _ h1) (Rs.mono e h2)
  | .dic ds, _, h => by
    cases h with
    | dic h1 h2 => exact .dic (e _ _ h1) (Rk.mono e h2)
  | .scr ns, _, h => by
    cases h with
    | scr h1 => exact .scr (ex_l e h1)
theorem Rs.mono (e : Ex H H') : ∀ {ds : List D} {vs : List V}, Rs K H vs ds → Rs K H' vs ds
  | [], _, h => by cases h; exact .nil
  | d :: ds, _, h => by
    cases h with
    | cons h1 h2 => exact .cons (R.mono e h1) (Rs.mono e h2)
theorem Rk.mono (e : Ex H H') : ∀ {ds : List (D × D)} {kvs : List (Key × V)}, Rk K H kvs ds → Rk K H' kvs ds
  | [], _, h => by cases h; exact .nil
  | (k, d) :: ds, _, h => by
    cases h with
    | cons h1 h2 => exact .cons (R.mono e h1) (Rk.mono e h2)
end
theorem Rs.length : ∀ {ds : List D} {vs : List V}, Rs K H vs ds → vs.length = ds.length
  | [], _, h => by cases h; rfl
  | d :: ds, _, h => by
    cases h with
    | cons h1 h2 => simp only [List.length_cons, Rs.length h2]
theorem Rk.length : ∀ {ds : List (D × D)} {kvs : List (Key × V)}, Rk K H kvs ds → kvs.length = ds.length
  | [], _, h => by cases h; rfl
  | (_, _) :: ds, _, h => by
    cases h with
    | cons h1 h2 => simp only [List.length_cons, Rk.length h2]
theorem Rs.get : ∀ {ds : List D} {vs : List V} {j : Nat} {d : D}, Rs K H vs ds → ds[j]? = some d → ∃ v, vs[j]? = some v ∧ R K H v d
  | [], _, _, _, h, e => by simp at e
  | x :: ds, _, 0, d, h, e => by
    cases h with
    | cons h1 h2 =>
      simp at e
      subst e
      exact ⟨_, rfl, h1⟩
  | x :: ds, _, j + 1, d, h, e => by
    cases h with
    | cons h1 h2 =>
      obtain ⟨v, e1, r⟩ := Rs.get (j := j) h2 (by simpa using e)
      exact ⟨v, by simpa using e1, r⟩
theorem Rs.getV : ∀ {ds : List D} {vs : List V} {j : Nat} {v : V}, Rs K H vs ds → vs[j]? = some v → ∃ d, ds[j]? = some d ∧ R K H v d
  | [], _, _, _, h, e => by cases h; simp at e
  | x :: ds, _, 0, v, h, e => by
    cases h with
    | cons h1 h2 =>
      simp at e
      subst e
      exact ⟨_, rfl, h1⟩
  | x :: ds, _, j + 1, v, h, e => by
    cases h with
    | cons h1 h2 =>
      obtain ⟨d, e1, r⟩ := Rs.getV (j := j) h2 (by simpa using e)
      exact ⟨d, by simpa using e1, r⟩
theorem Rs.append : ∀ {ds es : List D} {vs us : List V}, Rs K H vs ds → Rs K H us es → Rs K H (vs ++ us) (ds ++ es)
  | [], _, _, _, h, g => by cases h; exact g
  | d :: ds, _, _, _, h, g => by
    cases h with
    | cons h1 h2 => exact .cons h1 (Rs.append h2 g)
theorem Rs.set : ∀ {ds : List D} {vs : List V} {v : V} {d : D} (j : Nat), Rs K H vs ds → R K H v d → Rs K H (vs.set j v) (ds.set j d)
  | [], _, _, _, _, h, r => by cases h; exact .nil
  | x :: ds, _, _, _, 0, h, r => by
    cases h with
    | cons h1 h2 => exact .cons r h2
  | x :: ds, _, _, _, j + 1, h, r => by
    cases h with
    | cons h1 h2 => exact .cons h1 (Rs.set j h2 r)
theorem Rs.ints : ∀ (ns : List Int), Rs K H (ns.map V.int) (ns.map D.int)
  | [] => .nil
  | n :: ns => .cons (.int n) (Rs.ints ns)
end

def ContR (K : PySem.W.Frag) (Hs H : Hp) (l : Addr) : C → Prop
  | .lst ds => ∃ xs, H l = some (.lst xs) ∧ Rs K Hs xs ds
  | .dic ds => ∃ kvs, H l = some (.dK kvs) ∧ Rk K Hs kvs ds
theorem ContR.mono {K : PySem.W.Frag} {Hs Hs' H H' : Hp} {l : Addr} {k : C} (h : ContR K Hs H l k) (e : Ex Hs Hs') (e2 : H' l = H l) : ContR K Hs' H' l k := by
  cases k with
  | lst ds =>
    obtain ⟨xs, h1, h2⟩ := h
    exact ⟨xs, e2.trans h1, h2.mono e⟩
  | dic ds =>
    obtain ⟨kvs, h1, h2⟩ := h
    exact ⟨kvs, e2.trans h1, h2.mono e⟩
theorem ContR.there {K : PySem.W.Frag} {Hs H : Hp} {l : Addr} {k : C} (h : ContR K Hs H l k) : ∃ o, H l = some o := by
  cases k with
  | lst ds =>
    obtain ⟨xs, h1, h2⟩ := h
    exact ⟨_, h1⟩
  | dic ds =>
    obtain ⟨kvs, h1, h2⟩ := h
    exact ⟨_, h1⟩
/-- shared from here on -/
theorem ContR.share {K : PySem.W.Frag} {Hs H : Hp} {l : Addr} {k : C} {o : HO} (h : ContR K Hs H l k) (n : Hs l = none) (e : H l = some o) : R K (upd Hs l o) (.ref l) k.d := by
  have ex : Ex Hs (upd Hs l o) := Ex.new n
  cases k with
  | lst ds =>
    obtain ⟨xs, h1, h2⟩ := h
    rw [h1] at e
    cases e
    exact .lst upd_same (h2.mono ex)
  | dic ds =>
    obtain ⟨kvs, h1, h2⟩ := h
    rw [h1] at e
    cases e
    exact .dic upd_same (h2.mono ex)

/-- a def's entry: the arguments, the shared heap and the whole one as they were, what is lent by place, what is wanted of errors -/
structure Cxt where
  vs : List V
  Hs0 : Hp
  H0 : Hp
  B : Nat → Option Addr
  E : XK
  hB : ∀ i l, B i = some l → H0 l ≠ none

structure StR (K : PySem.W.Frag) (c : Cxt) (ρ : Env) (σ : L2.St) (Hs H : Hp) : Prop where
  sub : Ex Hs H
  old : Ex c.Hs0 Hs
  keep : ∀ a o, c.H0 a = some o → (∀ i, c.B i ≠ some a) → H a = some o
  live : ∀ a, H a = none → c.H0 a = none
  hs : ∀ a, c.Hs0 a = none → c.H0 a ≠ none → Hs a = none
  len : σ.length = ρ.length
  val : ∀ (i : Nat) d, ρ[i]? = some (.val d) → ∃ v, σ[i]? = some (some v) ∧ R K Hs v d
  own : ∀ (i : Nat) k, ρ[i]? = some (.own k) → ∃ l, σ[i]? = some (some (.ref l)) ∧ ContR K Hs H l k ∧ Hs l = none ∧ c.H0 l = none
  bor : ∀ (i : Nat) k, ρ[i]? = some (.bor k) → ∃ l, σ[i]? = some (some (.ref l)) ∧ ContR K Hs H l k ∧ Hs l = none ∧ c.B i = some l ∧ c.vs[i]? = some (.ref l)
  apart : ∀ (i j : Nat) l si sj, i ≠ j → ρ[i]? = some si → ρ[j]? = some sj → si.isC = true → sj.isC = true → σ[i]? = some (some (.ref l)) → σ[j]? = some (some (.ref l)) → False

section
variable {K : PySem.W.Frag} {c : Cxt} {ρ : Env} {σ : L2.St} {Hs H Hs1 H1 : Hp}
/-- the container in a slot -/
theorem StR.cont (st : StR K c ρ σ Hs H) {i : Nat} {s : Slot} (e : ρ[i]? = some s) (hc : s.isC = true) : ∃ l k, (s = .own k ∨ s = .bor k) ∧ σ[i]? = some (some (.ref l)) ∧ ContR K Hs H l k ∧ Hs l = none := by
  cases s with
  | un => cases hc
  | val d => cases hc
  | own k =>
    obtain ⟨l, h1, h2, h3, h4⟩ := st.own i k e
    exact ⟨l, k, .inl rfl, h1, h2, h3⟩
  | bor k =>
    obtain ⟨l, h1, h2, h3, h4⟩ := st.bor i k e
    exact ⟨l, k, .inr rfl, h1, h2, h3⟩
/-- the heaps grow; what is new in the shared one was not there before -/
theorem StR.ext (st : StR K c ρ σ Hs H) (e : Ex Hs Hs1) (s : Ex Hs1 H1) (g : Ex H H1) (n : ∀ a, Hs a = none → H a ≠ none → Hs1 a = none) : StR K c ρ σ Hs1 H1 := by
  refine ⟨s, st.old.trans e, fun a o h b => g _ _ (st.keep a o h b), fun a h => st.live a (fresh_back g h), fun a h1 h2 => ?_, st.len, fun i d h => ?_, fun i k h => ?_, fun i k h => ?_, st.apart⟩
  · exact n a (st.hs a h1 h2) fun z => h2 (st.live a z)
  · obtain ⟨v, h1, h2⟩ := st.val i d h
    exact ⟨v, h1, h2.mono e⟩
  · obtain ⟨l, h1, h2, h3, h4⟩ := st.own i k h
    obtain ⟨o, ho⟩ := h2.there
    exact ⟨l, h1, h2.mono e ((g _ _ ho).trans ho.symm), n l h3 (by rw [ho]; exact fun z => nomatch z), h4⟩
  · obtain ⟨l, h1, h2, h3, h4⟩ := st.bor i k h
    obtain ⟨o, ho⟩ := h2.there
    exact ⟨l, h1, h2.mono e ((g _ _ ho).trans ho.symm), n l h3 (by rw [ho]; exact fun z => nomatch z), h4⟩
/-- a new shared object -/
theorem StR.new (st : StR K c ρ σ Hs H) {p : Addr} {o : HO} (h : H p = none) : StR K c ρ σ (upd Hs p o) (upd H p o) ∧ Ex Hs (upd Hs p o) := by
  have hn : Hs p = none := fresh_back st.sub h
  refine ⟨st.ext (Ex.new hn) (fun a u e => ?_) (Ex.new h) fun a h1 h2 => ?_, Ex.new hn⟩
  · by_cases q : a = p
    · subst q
      rw [upd_same] at e ⊢
      exact e
    · rw [upd_ne q] at e ⊢
      exact st.sub _ _ e
  · have q : a ≠ p := fun z => h2 (by rw [z]; exact h)
    rw [upd_ne q]
    exact h1
/-- a new object that nobody knows -/
theorem StR.newO (st : StR K c ρ σ Hs H) {p : Addr} {o : HO} (h : H p = none) : StR K c ρ σ Hs (upd H p o) :=
  st.ext (Ex.refl _) (fun a u e => Ex.new h _ _ (st.sub _ _ e)) (Ex.new h) fun a h1 _ => h1
theorem get_set {α : Type} {xs : List α} {i j : Nat} {x y : α} (h : (xs.set i x)[j]? = some y) : (j = i ∧ y = x) ∨ (j ≠ i ∧ xs[j]? = some y) := by
  by_cases e : j = i
  · subst e
    rw [List.getElem?_set] at h
    split at h
    · split at h
      · exact .inl ⟨rfl, (Option.some.inj h).symm⟩
      · cases h
    · exact absurd rfl (by assumption)
  · rw [List.getElem?_set_ne (Ne.symm e)] at h
    exact .inr ⟨e, h⟩
theorem set_get {α : Type} {xs : List α} {i : Nat} {x : α} (h : i < xs.length) : (xs.set i x)[i]? = some x := by
  rw [List.getElem?_set_self h]
theorem lt_of_get {α : Type} {xs : List α} {i : Nat} {x : α} (h : xs[i]? = some x) : i < xs.length := (List.getElem?_eq_some_iff.mp h).1
/-- a slot is forgotten -/
theorem StR.drop (st : StR K c ρ σ Hs H) (i : Nat) : StR K c (ρ.set i .un) σ Hs H := by
  refine ⟨st.sub, st.old, st.keep, st.live, st.hs, by rw [List.length_set]; exact st.len, fun j d h => ?_, fun j k h => ?_, fun j k h => ?_, fun j k l sj sk hn hj hk cj ck => ?_⟩
  · rcases get_set h with ⟨_, e⟩ | ⟨_, e⟩
    · cases e
    · exact st.val j d e
  · rcases get_set h with ⟨_, e⟩ | ⟨_, e⟩
    · cases e
    · exact st.own j k e
  · rcases get_set h with ⟨_, e⟩ | ⟨_, e⟩
    · cases e
    · exact st.bor j k e
  · rcases get_set hj with ⟨_, e⟩ | ⟨_, e⟩
    · subst e
      cases cj
    · rcases get_set hk with ⟨_, e'⟩ | ⟨_, e'⟩
      · subst e'
        cases ck
      · exact st.apart j k l sj sk hn e e' cj ck
/-- an own object is shared -/
theorem StR.share (st : StR K c ρ σ Hs H) {i : Nat} {k : C} (h : ρ[i]? = some (.own k)) : ∃ l Hs', σ[i]? = some (some (.ref l)) ∧ StR K c (ρ.set i (.val k.d)) σ Hs' H ∧ Ex Hs Hs' ∧ R K Hs' (.ref l) k.d := by
  obtain ⟨l, h1, h2, h3, h4⟩ := st.own i k h
  obtain ⟨o, ho⟩ := h2.there
  have ex : Ex Hs (upd Hs l o) := Ex.new h3
  have rr := h2.share h3 ho
  have ap : ∀ (j : Nat) s, j ≠ i → ρ[j]? = some s → s.isC = true → σ[j]? ≠ some (some (.ref l)) := fun j s hn e hc z => st.apart j i l s (.own k) hn e h hc rfl z h1
  refine ⟨l, upd Hs l o, h1, ⟨fun a u e => ?_, st.old.trans ex, st.keep, st.live, fun a q1 q2 => ?_, by rw [List.length_set]; exact st.len, fun j d e => ?_, fun j k' e => ?_, fun j k' e => ?_, fun j m l' sj sm hn hj hm cj cm => ?_⟩, ex, rr⟩
  · by_cases q : a = l
    · subst q
      rw [upd_same] at e
      rw [ho, e]
    · rw [upd_ne q] at e
      exact st.sub _ _ e
  · have q : a ≠ l := fun z => q2 (by rw [z]; exact h4)
    rw [upd_ne q]
    exact st.hs a q1 q2
  · rcases get_set e with ⟨e1, e2⟩ | ⟨_, e1⟩
    · subst e1
      cases e2
      exact ⟨_, h1, rr⟩
    · obtain ⟨v, a1, a2⟩ := st.val j d e1
      exact ⟨v, a1, a2.mono ex⟩
  · rcases get_set e with ⟨_, e2⟩ | ⟨hn, e1⟩
    · cases e2
    · obtain ⟨l', a1, a2, a3, a4⟩ := st.own j k' e1
      have q : l' ≠ l := fun z => ap j _ hn e1 rfl (by rw [a1, z])
      exact ⟨l', a1, a2.mono ex rfl, by rw [upd_ne q]; exact a3, a4⟩
  · rcases get_set e with ⟨_, e2⟩ | ⟨hn, e1⟩
    · cases e2
    · obtain ⟨l', a1, a2, a3, a4⟩ := st.bor j k' e1
      have q : l' ≠ l := fun z => ap j _ hn e1 rfl (by rw [a1, z])
      exact ⟨l', a1, a2.mono ex rfl, by rw [upd_ne q]; exact a3, a4⟩
  · rcases get_set hj with ⟨_, e⟩ | ⟨_, e⟩
    · subst e
      cases cj
    · rcases get_set hm with ⟨_, e'⟩ | ⟨_, e'⟩
      · subst e'
        cases cm
      · exact st.apart j m l' sj sm hn e e' cj cm
/-- an own or lent object is changed -/
theorem StR.change (st : StR K c ρ σ Hs H) {i : Nat} {s s' : Slot} {k' : C} {l : Addr} {o : HO} (h : ρ[i]? = some s) (hs : (∃ k, s = .own k ∧ s' = .own k') ∨ (∃ k, s = .bor k ∧ s' = .bor k')) (hl : σ[i]? = some (some (.ref l))) (hk : ContR K Hs (upd H l o) l k') :
    StR K c (ρ.set i s') σ Hs (upd H l o) := by
  have hcS : s.isC = true := by
    rcases hs with ⟨k, e, _⟩ | ⟨k, e, _⟩ <;> (subst e; rfl)
  obtain ⟨l0, k, hk0, e0, h2, h3⟩ := st.cont h hcS
  have el : l0 = l := by
    rw [hl] at e0
    cases e0
    rfl
  subst el
  obtain ⟨ob, hob⟩ := h2.there
  have ap : ∀ (j : Nat) s, j ≠ i → ρ[j]? = some s → s.isC = true → σ[j]? ≠ some (some (.ref l0)) := fun j s1 hn e hc z => st.apart j i l0 s1 s hn e h hc hcS z e0
  refine ⟨fun a u e => ?_, st.old, fun a u e b => ?_, fun a e => ?_, st.hs, by rw [List.length_set]; exact st.len, fun j d e => ?_, fun j k'' e => ?_, fun j k'' e => ?_, fun j m l' sj sm hn hj hm cj cm => ?_⟩
  · have q : a ≠ l0 := fun z => by rw [z, h3] at e; cases e
    rw [upd_ne q]
    exact st.sub _ _ e
  · have q : a ≠ l0 := fun z => by
      subst z
      rcases hs with ⟨k1, e1, _⟩ | ⟨k1, e1, _⟩
      · subst e1
        obtain ⟨l', a1, a2, a3, a4⟩ := st.own i k1 h
        rw [hl] at a1
        cases a1
        rw [a4] at e
        cases e
      · subst e1
        obtain ⟨l', a1, a2, a3, a4, _⟩ := st.bor i k1 h
        rw [hl] at a1
        cases a1
        exact b i a4
    rw [upd_ne q]
    exact st.keep a u e b
  · have q : a ≠ l0 := fun z => by rw [z, upd_same] at e; cases e
    rw [upd_ne q] at e
    exact st.live a e
  · rcases get_set e with ⟨_, e2⟩ | ⟨_, e1⟩
    · rcases hs with ⟨_, _, z⟩ | ⟨_, _, z⟩ <;> (rw [z] at e2; cases e2)
    · exact st.val j d e1
  · rcases get_set e with ⟨e1, e2⟩ | ⟨hn, e1⟩
    · subst e1
      rcases hs with ⟨k1, z1, z⟩ | ⟨k1, z1, z⟩
      · rw [z] at e2
        cases e2
        subst z1
        obtain ⟨l', a1, a2, a3, a4⟩ := st.own j k1 h
        rw [hl] at a1
        cases a1
        exact ⟨l0, hl, hk, h3, a4⟩
      · rw [z] at e2
        cases e2
    · obtain ⟨l', a1, a2, a3, a4⟩ := st.own j k'' e1
      have q : l' ≠ l0 := fun z => ap j _ hn e1 rfl (by rw [a1, z])
      exact ⟨l', a1, a2.mono (Ex.refl _) (upd_ne q), a3, a4⟩
  · rcases get_set e with ⟨e1, e2⟩ | ⟨hn, e1⟩
    · subst e1
      rcases hs with ⟨k1, z1, z⟩ | ⟨k1, z1, z⟩
      · rw [z] at e2
        cases e2
      · rw [z] at e2
        cases e2
        subst z1
        obtain ⟨l', a1, a2, a3, a4⟩ := st.bor j k1 h
        rw [hl] at a1
        cases a1
        exact ⟨l0, hl, hk, h3, a4⟩
    · obtain ⟨l', a1, a2, a3, a4⟩ := st.bor j k'' e1
      have q : l' ≠ l0 := fun z => ap j _ hn e1 rfl (by rw [a1, z])
      exact ⟨l', a1, a2.mono (Ex.refl _) (upd_ne q), a3, a4⟩
  · rcases get_set hj with ⟨e1, e⟩ | ⟨hj1, e⟩
    · subst e1
      rcases get_set hm with ⟨e1', e'⟩ | ⟨_, e'⟩
      · exact absurd e1'.symm hn
      · exact fun a b => st.apart j m l' s sm hn h e' hcS cm a b
    · rcases get_set hm with ⟨e1', e'⟩ | ⟨_, e'⟩
      · subst e1'
        exact fun a b => st.apart j m l' sj s hn e h cj hcS a b
      · exact st.apart j m l' sj sm hn e e' cj cm
end

/-! ### what an expression's value is -/
def RvR (K : PySem.W.Frag) (c : Cxt) (σ : L2.St) (r : Rv) (ρ : Env) (Hs H : Hp) (v : V) : Prop := match r with
  | .d d => R K Hs v d
  | .o k => ∃ l, v = .ref l ∧ ContR K Hs H l k ∧ Hs l = none ∧ c.H0 l = none ∧ ∀ (i : Nat) s, ρ[i]? = some s → s.isC = true → σ[i]? ≠ some (some (.ref l))
/-- an error as it lies -/
inductive Rf (K : PySem.W.Frag) (H : Hp) : List (Str × V) → List (Str × D) → Prop
  | nil : Rf K H [] []
  | cons {x : Str} {v : V} {d : D} {vs : List (Str × V)} {ds : List (Str × D)} : R K H v d → Rf K H vs ds → Rf K H ((x, v) :: vs) ((x, d) :: ds)
def ErrR (K : PySem.W.Frag) (mg : Str → Option Value) (Hs H : Hp) (e : Err) (cls : Value) (od : Option Addr) : Prop :=
  ∃ C d fs, mg e.cls = some (.ref C) ∧ cls = .ref C ∧ od = some d ∧ H d = some (.xd fs) ∧ Rf K Hs fs e.args
/-- what is wanted of an outcome -/
def Goal {α β : Type} (K : PySem.W.Frag) (mg : Str → Option Value) (c : Cxt) (σ : L2.St) (Hs : Hp) (P : α → Env → Hp → Hp → β → Prop) (r : Res α) (Q : β → Hp → Prop) : Prop := match r with
  | .bad => False
  | .err e ρ' => ∀ cls od Hs' H', StR K c ρ' σ Hs' H' → Ex Hs Hs' → ErrR K mg Hs' H' e cls od → c.E cls od H'
  | .ok a ρ' => ∀ b Hs' H', StR K c ρ' σ Hs' H' → Ex Hs Hs' → P a ρ' Hs' H' b → Q b H'
theorem Goal.mono {α β : Type} {K : PySem.W.Frag} {mg : Str → Option Value} {c : Cxt} {σ : L2.St} {Hs Hs1 : Hp} {P : α → Env → Hp → Hp → β → Prop} {r : Res α} {Q : β → Hp → Prop} (e : Ex Hs Hs1) (g : Goal K mg c σ Hs P r Q) : Goal K mg c σ Hs1 P r Q := by
  cases r with
  | bad => exact g
  | err er ρ' => exact fun cls od Hs' H' st ex er => g cls od Hs' H' st (e.trans ex) er
  | ok a ρ' => exact fun b Hs' H' st ex p => g b Hs' H' st (e.trans ex) p
/-- a piece of reading keeps to its denotation -/
def Ev {α β : Type} (K : PySem.W.Frag) (mg : Str → Option Value) (c : Cxt) (t : L2.St → Hp → (β → Hp → Prop) → Prop) (P : L2.St → α → Env → Hp → Hp → β → Prop) (m : M α) : Prop :=
  ∀ ρ σ Hs H Q, StR K c ρ σ Hs H → Goal K mg c σ Hs (P σ) (m ρ) Q → t σ H Q
/-- the reading that a denotation gives -/
def wpOf {α β : Type} (K : PySem.W.Frag) (mg : Str → Option Value) (c : Cxt) (P : L2.St → α → Env → Hp → Hp → β → Prop) (m : M α) : L2.St → Hp → (β → Hp → Prop) → Prop :=
  fun σ H Q => ∃ ρ Hs, StR K c ρ σ Hs H ∧ Goal K mg c σ Hs (P σ) (m ρ) Q
theorem ev_self {α β : Type} {K : PySem.W.Frag} {mg : Str → Option Value} {c : Cxt} {P : L2.St → α → Env → Hp → Hp → β → Prop} {m : M α} : Ev K mg c (wpOf K mg c P m) P m := fun ρ σ Hs H Q st g => ⟨ρ, Hs, st, g⟩
def pV (K : PySem.W.Frag) (c : Cxt) : L2.St → Rv → Env → Hp → Hp → V → Prop := fun σ r ρ Hs H v => RvR K c σ r ρ Hs H v
def pF (K : PySem.W.Frag) : L2.St → D → Env → Hp → Hp → V → Prop := fun _ d _ Hs _ v => R K Hs v d
def pB : L2.St → Bool → Env → Hp → Hp → Bool → Prop := fun _ b _ _ _ b' => b' = b
def pL (K : PySem.W.Frag) : L2.St → List D → Env → Hp → Hp → List V → Prop := fun _ ds _ Hs _ vs => Rs K Hs vs ds
abbrev teOf (K : PySem.W.Frag) (mg : Str → Option Value) (c : Cxt) (m : E) : TE := wpOf K mg c (pV K c) m
abbrev tfOf (K : PySem.W.Frag) (mg : Str → Option Value) (c : Cxt) (m : M D) : TE := wpOf K mg c (pF K) m
abbrev ttOf (K : PySem.W.Frag) (mg : Str → Option Value) (c : Cxt) (m : T) : TT := wpOf K mg c pB m
abbrev taOf (K : PySem.W.Frag) (mg : Str → Option Value) (c : Cxt) (m : M (List D)) : TA := wpOf K mg c (pL K) m
section
variable {K : PySem.W.Frag} {mg : Str → Option Value} {c : Cxt}
/-- one after another -/
theorem ev_bind {α β γ δ : Type} {t : L2.St → Hp → (β → Hp → Prop) → Prop} {P : L2.St → α → Env → Hp → Hp → β → Prop} {m : M α} {u : L2.St → β → Hp → (δ → Hp → Prop) → Prop} {P' : L2.St → γ → Env → Hp → Hp → δ → Prop} {f : α → M γ} (h : Ev K mg c t P m)
    (h2 : ∀ a b ρ σ Hs H Q, StR K c ρ σ Hs H → P σ a ρ Hs H b → Goal K mg c σ Hs (P' σ) (f a ρ) Q → u σ b H Q) : Ev K mg c (fun σ H Q => t σ H fun b H1 => u σ b H1 Q) P' (bind m f) := by
  intro ρ σ Hs H Q st g
  refine h ρ σ Hs H _ st ?_
  unfold bind at g
  cases e : m ρ with
  | bad =>
    rw [e] at g
    exact g
  | err er ρ' =>
    rw [e] at g
    exact g
  | ok a ρ' =>
    rw [e] at g
    exact fun b Hs' H' st' ex p => h2 a b ρ' σ Hs' H' Q st' p (Goal.mono ex g)
/-- a value that may be shared -/
theorem ev_val {t : TE} {m : E} (h : Ev K mg c t (pV K c) m) : Ev K mg c t (pF K) (val m) := by
  intro ρ σ Hs H Q st g
  refine h ρ σ Hs H _ st ?_
  unfold val bind at g
  cases e : m ρ with
  | bad =>
    rw [e] at g
    exact g
  | err er ρ' =>
    rw [e] at g
    exact g
  | ok r ρ' =>
    rw [e] at g
    intro v Hs' H' st' ex p
    cases r with
    | d d => exact g v Hs' H' st' ex p
    | o k =>
      obtain ⟨l, rfl, h2, h3, h4, h5⟩ := p
      obtain ⟨o, ho⟩ := h2.there
      have ex2 : Ex Hs' (upd Hs' l o) := Ex.new h3
      refine g (.ref l) (upd Hs' l o) H' ⟨fun a u e => ?_, st'.old.trans ex2, st'.keep, st'.live, fun a q1 q2 => ?_, st'.len, fun i d e => ?_, fun i k' e => ?_, fun i k' e => ?_, st'.apart⟩ (ex.trans ex2) (h2.share h3 ho)
      · by_cases q : a = l
        · subst q
          rw [upd_same] at e
          rw [ho, e]
        · rw [upd_ne q] at e
          exact st'.sub _ _ e
      · have q : a ≠ l := fun z => q2 (by rw [z]; exact h4)
        rw [upd_ne q]
        exact st'.hs a q1 q2
      · obtain ⟨v', a1, a2⟩ := st'.val i d e
        exact ⟨v', a1, a2.mono ex2⟩
      · obtain ⟨l', a1, a2, a3, a4⟩ := st'.own i k' e
        have q : l' ≠ l := fun z => h5 i _ e rfl (by rw [a1, z])
        exact ⟨l', a1, a2.mono ex2 rfl, by rw [upd_ne q]; exact a3, a4⟩
      · obtain ⟨l', a1, a2, a3, a4⟩ := st'.bor i k' e
        have q : l' ≠ l := fun z => h5 i _ e rfl (by rw [a1, z])
        exact ⟨l', a1, a2.mono ex2 rfl, by rw [upd_ne q]; exact a3, a4⟩
theorem ev_te {m : E} : Ev K mg c (teOf K mg c m) (pV K c) m := ev_self
theorem ev_tf {m : E} : Ev K mg c (teOf K mg c m) (pF K) (val m) := ev_val ev_self
end
end Dn
set_option Elab.async false
set_option linter.all false
set_option maxRecDepth 100000
set_option maxHeartbeats 4000000
/-! Expressions: from the layer's rules to denotations. -/
namespace Dn
open PySem L2
open Evl (Ex ex_l ex_t fresh_back)
section
variable {X : Cx} {c : Cxt}
theorem ped {e : Expr} {te : TE} {m : E} (h : PE X e te) (ev : Ev X.K X.mg c te (pV X.K c) m) : PE X e (teOf X.K X.mg c m) := ⟨fun pins s σ H Q I ⟨ρ, Hs, st, g⟩ => h.run pins s σ H Q I (ev ρ σ Hs H Q st g)⟩
theorem ptd {e : Expr} {te : TT} {m : T} (h : PT X e te) (ev : Ev X.K X.mg c te pB m) : PT X e (ttOf X.K X.mg c m) := ⟨fun pins s σ H Q I ⟨ρ, Hs, st, g⟩ => h.run pins s σ H Q I (ev ρ σ Hs H Q st g)⟩
theorem pwd {e : Expr} {te : TT} {m : T} (h : PW X e te) (ev : Ev X.K X.mg c te pB m) : PW X e (ttOf X.K X.mg c m) := ⟨fun whole pins s σ H Q I ⟨ρ, Hs, st, g⟩ => h.run whole pins s σ H Q I (ev ρ σ Hs H Q st g)⟩
theorem pad {es : List Expr} {te : TA} {m : M (List D)} (h : PA X es te) (ev : Ev X.K X.mg c te (pL X.K) m) : PA X es (taOf X.K X.mg c m) := ⟨fun pos pins s σ H Q I ⟨ρ, Hs, st, g⟩ => h.run pos pins s σ H Q I (ev ρ σ Hs H Q st g)⟩
end
section
variable {K : PySem.W.Frag} {mg : Str → Option Value} {c : Cxt}
/-- at the end of a piece: the value is there -/
theorem goal_ok {α β : Type} {σ : L2.St} {Hs H : Hp} {P : α → Env → Hp → Hp → β → Prop} {a : α} {ρ : Env} {Q : β → Hp → Prop} {b : β} {Hs' H' : Hp} (g : Goal K mg c σ Hs P (.ok a ρ) Q) (st : StR K c ρ σ Hs' H') (e : Ex Hs Hs') (p : P a ρ Hs' H' b) : Q b H' := g b Hs' H' st e p
theorem ev_c {v : V} {d : D} (h : ∀ H, R K H v d) : Ev K mg c (tC v) (pV K c) (eC d) := fun ρ σ Hs H Q st g => g v Hs H st (Ex.refl _) (h Hs)
theorem ev_v {i : Nat} : Ev K mg c (tVar i) (pV K c) (eV i) := fun ρ σ Hs H Q st g => by
  unfold eV at g
  cases e : ρ[i]? with
  | none =>
    rw [e] at g
    exact g.elim
  | some s =>
    rw [e] at g
    cases s with
    | un => exact g.elim
    | bor k => exact g.elim
    | val d =>
      obtain ⟨v, h1, h2⟩ := st.val i d e
      exact ⟨v, h1, g v Hs H st (Ex.refl _) h2⟩
    | own k =>
      obtain ⟨l, Hs', h1, st', ex, r⟩ := st.share e
      exact ⟨.ref l, h1, g (.ref l) Hs' H st' ex r⟩
theorem ev_mv {i : Nat} : Ev K mg c (tVar i) (pV K c) (eMv i) := fun ρ σ Hs H Q st g => by
  unfold eMv at g
  cases e : ρ[i]? with
  | none =>
    rw [e] at g
    exact g.elim
  | some s =>
    rw [e] at g
    cases s with
    | un => exact g.elim
    | bor k => exact g.elim
    | val d =>
      obtain ⟨v, h1, h2⟩ := st.val i d e
      exact ⟨v, h1, g v Hs H st (Ex.refl _) h2⟩
    | own k =>
      obtain ⟨l, h1, h2, h3, h4⟩ := st.own i k e
      refine ⟨.ref l, h1, g (.ref l) Hs H (st.drop i) (Ex.refl _) ⟨l, rfl, h2, h3, h4, fun j s hj hc z => ?_⟩⟩
      rcases get_set hj with ⟨_, q⟩ | ⟨q1, q⟩
      · subst q
        cases hc
      · exact st.apart j i l s _ q1 q e hc rfl z h1
/-- what a name holds, as it stands -/
theorem StR.peek {ρ ρ' : Env} {σ : L2.St} {Hs H : Hp} {i : Nat} {d : D} (st : StR K c ρ σ Hs H) (h : peek i ρ = .ok d ρ') : ρ' = ρ ∧ ∃ v, σ[i]? = some (some v) ∧ (R K Hs v d ∨ ∃ l k, v = .ref l ∧ d = k.d ∧ ContR K Hs H l k) := by
  unfold Dn.peek at h
  cases e : ρ[i]? with
  | none =>
    rw [e] at h
    cases h
  | some s =>
    rw [e] at h
    cases s with
    | un => cases h
    | val x =>
      cases h
      obtain ⟨v, h1, h2⟩ := st.val i d e
      exact ⟨rfl, v, h1, .inl h2⟩
    | own k =>
      cases h
      obtain ⟨l, h1, h2, _⟩ := st.own i k e
      exact ⟨rfl, .ref l, h1, .inr ⟨l, k, rfl, rfl, h2⟩⟩
    | bor k =>
      cases h
      obtain ⟨l, h1, h2, _⟩ := st.bor i k e
      exact ⟨rfl, .ref l, h1, .inr ⟨l, k, rfl, rfl, h2⟩⟩
/-- .. in the whole heap -/
theorem StR.whole {ρ : Env} {σ : L2.St} {Hs H : Hp} {v : V} {d : D} (st : StR K c ρ σ Hs H) (h : R K Hs v d ∨ ∃ l k, v = .ref l ∧ d = k.d ∧ ContR K Hs H l k) : R K H v d := by
  rcases h with h | ⟨l, k, rfl, rfl, h⟩
  · exact h.mono st.sub
  · cases k with
    | lst ds =>
      obtain ⟨xs, h1, h2⟩ := h
      exact .lst h1 (h2.mono st.sub)
    | dic ds =>
      obtain ⟨kvs, h1, h2⟩ := h
      exact .dic h1 (h2.mono st.sub)
/-- two values, one after another, and an operation on them -/
def Op2 (K : PySem.W.Frag) (c : Cxt) (r : R2) (f : D → D → Option Rv) : Prop :=
  ∀ ρ σ Hs H x y vx vy z Q, StR K c ρ σ Hs H → R K Hs vx x → R K Hs vy y → f x y = some z → (∀ v Hs' H', StR K c ρ σ Hs' H' → Ex Hs Hs' → RvR K c σ z ρ Hs' H' v → Q v H') → r vx vy H Q
/-- .. a test -/
def Cp2 (K : PySem.W.Frag) (c : Cxt) (r : R2) (f : D → D → Option Bool) : Prop :=
  ∀ ρ σ Hs H x y vx vy k Q, StR K c ρ σ Hs H → R K Hs vx x → R K Hs vy y → f x y = some k → Q (.bl k) H → r vx vy H Q
def Op1 (K : PySem.W.Frag) (c : Cxt) (r : V → Hp → VK → Prop) (f : D → Option Rv) : Prop :=
  ∀ ρ σ Hs H x vx z Q, StR K c ρ σ Hs H → R K Hs vx x → f x = some z → (∀ v Hs' H', StR K c ρ σ Hs' H' → Ex Hs Hs' → RvR K c σ z ρ Hs' H' v → Q v H') → r vx H Q
/-- a built-in called with values -/
def OpN (K : PySem.W.Frag) (c : Cxt) (r : List V → Hp → VK → Prop) (f : List D → Option Rv) : Prop :=
  ∀ ρ σ Hs H xs vs z Q, StR K c ρ σ Hs H → Rs K Hs vs xs → f xs = some z → (∀ v Hs' H', StR K c ρ σ Hs' H' → Ex Hs Hs' → RvR K c σ z ρ Hs' H' v → Q v H') → r vs H Q
theorem goal_opt {α β : Type} {σ : L2.St} {Hs : Hp} {P : α → Env → Hp → Hp → β → Prop} {o : Option α} {ρ : Env} {Q : β → Hp → Prop} (g : Goal K mg c σ Hs P (opt o ρ) Q) : ∃ a, o = some a ∧ ∀ b Hs' H', StR K c ρ σ Hs' H' → Ex Hs Hs' → P a ρ Hs' H' b → Q b H' := by
  cases o with
  | none => exact g.elim
  | some a => exact ⟨a, rfl, g⟩
/-- two expressions, then k on their values -/
theorem ev_two {γ δ : Type} {ta tb : TE} {a b : E} {u : V → V → Hp → (δ → Hp → Prop) → Prop} {P' : L2.St → γ → Env → Hp → Hp → δ → Prop} {f : D → D → M γ} (ha : Ev K mg c ta (pV K c) a) (hb : Ev K mg c tb (pV K c) b)
    (h : ∀ x y vx vy ρ σ Hs H Q, StR K c ρ σ Hs H → R K Hs vx x → R K Hs vy y → Goal K mg c σ Hs (P' σ) (f x y ρ) Q → u vx vy H Q) :
    Ev K mg c (fun σ H Q => ta σ H fun x H1 => tb σ H1 fun y H2 => u x y H2 Q) P' (bind (val a) fun x => bind (val b) fun y => f x y) := by
  refine ev_bind (u := fun σ x H Q => tb σ H fun y H2 => u x y H2 Q) (ev_val ha) fun x vx ρ σ Hs H Q st r g => ?_
  -- what is known of the first value stays
  have hb' := ev_val hb ρ σ Hs H (fun y H2 => u vx y H2 Q) st
  refine hb' ?_
  unfold bind at g
  cases e : val b ρ with
  | bad =>
    rw [e] at g
    exact g
  | err er ρ' =>
    rw [e] at g
    exact g
  | ok y ρ' =>
    rw [e] at g
    exact fun vy Hs' H' st' ex p => h x y vx vy ρ' σ Hs' H' Q st' (r.mono ex) p (Goal.mono ex g)
theorem ev_op2 {ta tb : TE} {a b : E} {r : R2} {f : D → D → Option Rv} (hr : Op2 K c r f) (ha : Ev K mg c ta (pV K c) a) (hb : Ev K mg c tb (pV K c) b) : Ev K mg c (tOp r ta tb) (pV K c) (e2 f a b) :=
  ev_two ha hb fun x y vx vy ρ σ Hs H Q st rx ry g => by
    obtain ⟨z, e, g⟩ := goal_opt g
    exact hr ρ σ Hs H x y vx vy z Q st rx ry e fun v Hs' H' st' ex p => g v Hs' H' st' ex p
theorem ev_cp2 {ta tb : TE} {a b : E} {r : R2} {f : D → D → Option Bool} (hr : Cp2 K c r f) (ha : Ev K mg c ta (pV K c) a) (hb : Ev K mg c tb (pV K c) b) : Ev K mg c (tTest (tOp r ta tb)) pB (t2 f a b) := by
  have h := ev_two (u := fun x y H (Q : Bool → Hp → Prop) => r x y H fun z H' => ∃ k, z = .bl k ∧ Q k H') (P' := pB) (f := fun x y => opt (f x y)) ha hb fun x y vx vy ρ σ Hs H Q st rx ry g => by
    obtain ⟨z, e, g⟩ := goal_opt g
    exact hr ρ σ Hs H x y vx vy z _ st rx ry e ⟨z, rfl, g z Hs H st (Ex.refl _) rfl⟩
  exact h
theorem ev_op1 {ta : TE} {a : E} {r : V → Hp → VK → Prop} {f : D → Option Rv} (hr : Op1 K c r f) (ha : Ev K mg c ta (pV K c) a) : Ev K mg c (tUn r ta) (pV K c) (e1 f a) :=
  ev_bind (u := fun σ x H Q => r x H Q) (ev_val ha) fun x vx ρ σ Hs H Q st rx g => by
    obtain ⟨z, e, g⟩ := goal_opt g
    exact hr ρ σ Hs H x vx z Q st rx e fun v Hs' H' st' ex p => g v Hs' H' st' ex p
/-- arguments -/
theorem ev_nil : Ev K mg c tNil (pL K) (args []) := fun ρ σ Hs H Q st g => g [] Hs H st (Ex.refl _) .nil
theorem ev_cons {ta : TE} {tr : TA} {a : E} {es : List E} (ha : Ev K mg c ta (pV K c) a) (hr : Ev K mg c tr (pL K) (args es)) : Ev K mg c (tCons ta tr) (pL K) (args (a :: es)) := by
  refine ev_bind (u := fun σ x H Q => tr σ H fun xs H2 => Q (x :: xs) H2) (ev_val ha) fun x vx ρ σ Hs H Q st r g => ?_
  refine hr ρ σ Hs H (fun xs H2 => Q (vx :: xs) H2) st ?_
  unfold bind at g
  cases e : args es ρ with
  | bad =>
    rw [e] at g
    exact g
  | err er ρ' =>
    rw [e] at g
    exact g
  | ok ys ρ' =>
    rw [e] at g
    exact fun vs Hs' H' st' ex p => g (vx :: vs) Hs' H' st' ex (.cons (r.mono ex) p)
theorem ev_opN {ta : TA} {es : List E} {r : List V → Hp → VK → Prop} {f : List D → Option Rv} (hr : OpN K c r f) (ha : Ev K mg c ta (pL K) (args es)) : Ev K mg c (tCB r ta) (pV K c) (eN f es) :=
  ev_bind (u := fun σ x H Q => r x H Q) ha fun x vx ρ σ Hs H Q st rx g => by
    obtain ⟨z, e, g⟩ := goal_opt g
    exact hr ρ σ Hs H x vx z Q st rx e fun v Hs' H' st' ex p => g v Hs' H' st' ex p
/-- one argument -/
theorem ev_opN1 {ta : TE} {a : E} {r : List V → Hp → VK → Prop} {f : D → Option Rv} (hr : Op1 K c (fun v => r [v]) f) (ha : Ev K mg c ta (pV K c) a) : Ev K mg c (tCB r (tCons ta tNil)) (pV K c) (e1 f a) :=
  ev_bind (u := fun σ x H Q => r [x] H Q) (ev_val ha) fun x vx ρ σ Hs H Q st rx g => by
    obtain ⟨z, e, g⟩ := goal_opt g
    exact hr ρ σ Hs H x vx z Q st rx e fun v Hs' H' st' ex p => g v Hs' H' st' ex p
/-- displays -/
theorem ev_tup {ta : TA} {es : List E} (ha : Ev K mg c ta (pL K) (args es)) : Ev K mg c (tTup ta) (pV K c) (eTup es) :=
  ev_bind (u := fun σ (xs : List V) H (Q : VK) => xs.length ≤ sizeLine ∧ ∀ p, H p = none → Q (.ref p) (upd H p (.tup xs))) ha fun xs vs ρ σ Hs H Q st r g => by
    split at g
    · rename_i hl
      refine ⟨Evl.sz_of (by rw [Rs.length r]; exact hl), fun p hp => ?_⟩
      obtain ⟨st', ex⟩ := st.new (o := .tup vs) hp
      exact g (.ref p) _ _ st' ex (R.tup (SqT.of upd_same) (Rs.mono ex r))
    · exact g.elim
theorem ev_lst {ta : TA} {es : List E} (ha : Ev K mg c ta (pL K) (args es)) : Ev K mg c (tLst ta) (pV K c) (eLst es) :=
  ev_bind (u := fun σ (xs : List V) H (Q : VK) => xs.length ≤ sizeLine ∧ ∀ p, H p = none → Q (.ref p) (upd H p (.lst xs))) ha fun xs vs ρ σ Hs H Q st r g => by
    split at g
    · rename_i hl
      refine ⟨Evl.sz_of (by rw [Rs.length r]; exact hl), fun p hp => ?_⟩
      refine g (.ref p) Hs _ (st.newO hp) (Ex.refl _) ⟨p, rfl, ⟨vs, upd_same, r⟩, fresh_back st.sub hp, st.live p hp, fun i s e hc z => ?_⟩
      obtain ⟨l, k, _, h1, h2, _⟩ := st.cont e hc
      rw [h1] at z
      cases z
      obtain ⟨o, ho⟩ := h2.there
      rw [hp] at ho
      cases ho
    · exact g.elim
/-- ways -/
theorem ev_ifE {tt : TT} {ta tb : TE} {t : T} {a b : E} (ht : Ev K mg c tt pB t) (ha : Ev K mg c ta (pV K c) a) (hb : Ev K mg c tb (pV K c) b) : Ev K mg c (L2.tIf tt ta tb) (pV K c) (eIf t a b) :=
  ev_bind (u := fun σ k H Q => if k = true then ta σ H Q else tb σ H Q) ht fun k k' ρ σ Hs H Q st r g => by
    obtain rfl : k' = k := r
    cases k' with
    | true => exact ha ρ σ Hs H Q st g
    | false => exact hb ρ σ Hs H Q st g
theorem ev_and {ta tb : TT} {a b : T} (ha : Ev K mg c ta pB a) (hb : Ev K mg c tb pB b) : Ev K mg c (L2.tAnd ta tb) pB (tAnd a b) :=
  ev_bind (u := fun σ k H Q => if k = true then tb σ H Q else Q false H) ha fun k k' ρ σ Hs H Q st r g => by
    obtain rfl : k' = k := r
    cases k' with
    | true => exact hb ρ σ Hs H Q st g
    | false => exact g false Hs H st (Ex.refl _) rfl
theorem ev_or {ta tb : TT} {a b : T} (ha : Ev K mg c ta pB a) (hb : Ev K mg c tb pB b) : Ev K mg c (L2.tOr ta tb) pB (tOr a b) :=
  ev_bind (u := fun σ k H Q => if k = true then Q true H else tb σ H Q) ha fun k k' ρ σ Hs H Q st r g => by
    obtain rfl : k' = k := r
    cases k' with
    | true => exact g true Hs H st (Ex.refl _) rfl
    | false => exact hb ρ σ Hs H Q st g
theorem ev_not {ta : TT} {a : T} (ha : Ev K mg c ta pB a) : Ev K mg c (L2.tNot ta) pB (tNot a) :=
  ev_bind (u := fun σ k H Q => Q (!k) H) ha fun k k' ρ σ Hs H Q st r g => by
    obtain rfl : k' = k := r
    exact g (!k') Hs H st (Ex.refl _) rfl
/-- a test as a value -/
theorem ev_eT {tt : TT} {t : T} (h : Ev K mg c tt pB t) : Ev K mg c (fun σ H (Q : VK) => tt σ H fun k H1 => Q (.bl k) H1) (pV K c) (eT t) :=
  ev_bind (u := fun σ k H (Q : VK) => Q (.bl k) H) h fun k k' ρ σ Hs H Q st r g => by
    obtain rfl : k' = k := r
    exact g (.bl k') Hs H st (Ex.refl _) (R.bl k')
/-- a value that is True or False, as a test -/
theorem ev_tE {ta : TE} {a : E} (h : Ev K mg c ta (pV K c) a) : Ev K mg c (L2.tB ta) pB (tE a) :=
  ev_bind (u := fun σ x H Q => ∃ k, x = .bl k ∧ Q k H) (ev_val h) fun x vx ρ σ Hs H Q st r g => by
    obtain ⟨k, e, g⟩ := goal_opt g
    cases x with
    | bl b =>
      cases e
      cases r
      exact ⟨k, rfl, g k Hs H st (Ex.refl _) rfl⟩
    | _ => cases e
theorem Rs.isEmpty {H : Hp} {vs : List V} {ds : List D} (h : Rs K H vs ds) : vs.isEmpty = ds.isEmpty := by
  cases h <;> rfl
theorem Rk.isEmpty {H : Hp} {vs : List (Key × V)} {ds : List (D × D)} (h : Rk K H vs ds) : vs.isEmpty = ds.isEmpty := by
  cases h <;> rfl
theorem truV_of {H : Hp} {v : V} {d : D} {k : Bool} (r : R K H v d) (h : truth d = some k) : TruV K v H k := by
  cases r with
  | non =>
    cases h
    rfl
  | bl b =>
    cases h
    rfl
  | int i =>
    cases h
    rfl
  | str x =>
    unfold truth at h
    simp only at h
    split at h
    · rename_i hl
      cases h
      exact ⟨Evl.sz_of hl, rfl⟩
    · cases h
  | tup h1 h2 =>
    cases h
    exact .inr (.inl ⟨_, h1, by rw [h2.isEmpty]⟩)
  | lst h1 h2 =>
    cases h
    exact .inl ⟨_, SqL.of h1, by rw [h2.isEmpty]⟩
  | dic h1 h2 =>
    cases h
    exact .inr (.inr ⟨_, h1, by rw [h2.isEmpty]⟩)
  | scr h1 => cases h
theorem ev_tTr {ta : TE} {a : E} (h : Ev K mg c ta (pV K c) a) : Ev K mg c (fun σ H Q => ta σ H fun x H' => ∃ k, TruV K x H' k ∧ Q k H') pB (tTr a) :=
  ev_bind (u := fun σ x H Q => ∃ k, TruV K x H k ∧ Q k H) (ev_val h) fun x vx ρ σ Hs H Q st r g => by
    obtain ⟨k, e, g⟩ := goal_opt g
    exact ⟨k, truV_of (r.mono st.sub) e, g k Hs H st (Ex.refl _) rfl⟩
theorem ev_tPk {i : Nat} : Ev K mg c (fun σ H Q => tVar i σ H fun x H' => ∃ k, TruV K x H' k ∧ Q k H') pB (tPk i) := fun ρ σ Hs H Q st g => by
  unfold tPk bind at g
  cases e : peek i ρ with
  | bad =>
    rw [e] at g
    exact g.elim
  | err er ρ' =>
    unfold peek at e
    split at e <;> cases e
  | ok d ρ' =>
    rw [e] at g
    obtain ⟨rfl, v, h1, h2⟩ := st.peek e
    obtain ⟨k, e2, g⟩ := goal_opt g
    exact ⟨v, h1, k, truV_of (st.whole h2) e2, g k Hs H st (Ex.refl _) rfl⟩
end
end Dn
set_option Elab.async false
set_option linter.all false
set_option maxRecDepth 100000
set_option maxHeartbeats 4000000
/-! Operations: the layer's rules by value give what the plain ones say. -/
namespace Dn
open PySem L2
open Evl (Ex ex_l ex_t fresh_back)
section
variable {K : PySem.W.Frag} {c : Cxt}
theorem Op2.or1 {r r' : R2} {f : D → D → Option Rv} (p : D → D → Bool) (h : Op2 K c r (fun x y => if p x y then f x y else none)) (h' : Op2 K c r' (fun x y => if p x y then none else f x y)) : Op2 K c (fun x y H Q => r x y H Q ∨ r' x y H Q) f := by
  intro ρ σ Hs H x y vx vy z Q st rx ry e g
  by_cases q : p x y = true
  · exact .inl (h ρ σ Hs H x y vx vy z Q st rx ry (by simp only [q, if_true]; exact e) g)
  · exact .inr (h' ρ σ Hs H x y vx vy z Q st rx ry (by simp only [q]; exact e) g)
theorem keep_d {ρ : Env} {σ : L2.St} {Hs H : Hp} {d : D} {v : V} {Q : VK} (st : StR K c ρ σ Hs H) (g : ∀ v Hs' H', StR K c ρ σ Hs' H' → Ex Hs Hs' → RvR K c σ (.d d) ρ Hs' H' v → Q v H') (r : R K Hs v d) : Q v H := g v Hs H st (Ex.refl _) r
/-- a new list that nobody knows -/
theorem new_o {ρ : Env} {σ : L2.St} {Hs H : Hp} {ds : List D} {vs : List V} {p : Addr} {Q : VK} (st : StR K c ρ σ Hs H) (g : ∀ v Hs' H', StR K c ρ σ Hs' H' → Ex Hs Hs' → RvR K c σ (.o (.lst ds)) ρ Hs' H' v → Q v H') (r : Rs K Hs vs ds) (hp : H p = none) : Q (.ref p) (upd H p (.lst vs)) := by
  refine g (.ref p) Hs _ (st.newO hp) (Ex.refl _) ⟨p, rfl, ⟨vs, upd_same, r⟩, fresh_back st.sub hp, st.live p hp, fun i s e hc z => ?_⟩
  obtain ⟨l, k, _, h1, h2, _⟩ := st.cont e hc
  rw [h1] at z
  cases z
  obtain ⟨o, ho⟩ := h2.there
  rw [hp] at ho
  cases ho
theorem new_oD {ρ : Env} {σ : L2.St} {Hs H : Hp} {ds : List (D × D)} {kvs : List (Key × V)} {p : Addr} {Q : VK} (st : StR K c ρ σ Hs H) (g : ∀ v Hs' H', StR K c ρ σ Hs' H' → Ex Hs Hs' → RvR K c σ (.o (.dic ds)) ρ Hs' H' v → Q v H') (r : Rk K Hs kvs ds) (hp : H p = none) : Q (.ref p) (upd H p (.dK kvs)) := by
  refine g (.ref p) Hs _ (st.newO hp) (Ex.refl _) ⟨p, rfl, ⟨kvs, upd_same, r⟩, fresh_back st.sub hp, st.live p hp, fun i s e hc z => ?_⟩
  obtain ⟨l, k, _, h1, h2, _⟩ := st.cont e hc
  rw [h1] at z
  cases z
  obtain ⟨o, ho⟩ := h2.there
  rw [hp] at ho
  cases ho
theorem new_t {ρ : Env} {σ : L2.St} {Hs H : Hp} {ds : List D} {vs : List V} {p : Addr} {Q : VK} (st : StR K c ρ σ Hs H) (g : ∀ v Hs' H', StR K c ρ σ Hs' H' → Ex Hs Hs' → RvR K c σ (.d (.tup ds)) ρ Hs' H' v → Q v H') (r : Rs K Hs vs ds) (hp : H p = none) : Q (.ref p) (upd H p (.tup vs)) := by
  obtain ⟨st', ex⟩ := st.new (o := .tup vs) hp
  exact g (.ref p) _ _ st' ex (R.tup (SqT.of upd_same) (Rs.mono ex r))

/-! ### + - * // % ** - -/
theorem o_int {g : Int → Int → Int} : Op2 K c (rI0 fun i j => .int (g i j)) (fun x y => match x, y with | .int a, .int b => some (.d (.int (g a b))) | _, _ => none) := by
  intro ρ σ Hs H x y vx vy z Q st rx ry e k
  cases rx <;> cases ry <;> first | cases e | skip
  exact ⟨_, _, rfl, rfl, keep_d st k (R.int _)⟩
def rAddAll (K : PySem.W.Frag) : R2 := fun x y H Q => (rI0 (fun i j => .int (i + j)) x y H Q ∨ (∃ i j, x = .str i ∧ y = .str j ∧ i.length + j.length ≤ sizeLine ∧ Q (.str (i ++ j)) H)) ∨ (rCatA K x y H Q ∨ rCat x y H Q)
theorem op_addAll {X : Cx} : OpR X (binaryOp .Add) (rAddAll X.K) := (op_add.or op_add_str).or (op_catA.or op_cat)
theorem o_add : Op2 K c (rAddAll K) oAdd := by
  intro ρ σ Hs H x y vx vy z Q st rx ry e k
  cases rx <;> cases ry <;> first | (simp only [oAdd] at e; cases e; done) | skip
  · simp only [oAdd, Option.some.injEq] at e
    subst e
    exact .inl (.inl ⟨_, _, rfl, rfl, keep_d st k (R.int _)⟩)
  · rename_i a b
    simp only [oAdd] at e
    split at e
    · cases e
      exact .inl (.inr ⟨_, _, rfl, rfl, Evl.sz_of (by assumption), keep_d st k (R.str _)⟩)
    · cases e
  · rename_i a xs ds h1 h2 b ys es h3 h4
    simp only [oAdd] at e
    split at e
    · rename_i hl
      cases e
      refine .inr (.inl ⟨a, b, xs, ys, rfl, rfl, ex_t st.sub h1, ex_t st.sub h3, Evl.sz_of (by rw [h2.length, h4.length]; exact hl), fun q => ?_, fun _ q => ?_, fun _ _ p hp => ?_⟩)
      · subst q
        cases h2
        exact keep_d st k (R.tup h3 h4)
      · subst q
        cases h4
        rw [List.append_nil] at k
        exact keep_d st k (R.tup h1 h2)
      · exact new_t st k (h2.append h4) hp
    · cases e
  · rename_i a xs ds h1 h2 b ys es h3 h4
    simp only [oAdd] at e
    split at e
    · rename_i hl
      cases e
      refine .inr (.inr ⟨a, b, xs, ys, rfl, rfl, st.sub _ _ h1, st.sub _ _ h3, Evl.sz_of (by rw [h2.length, h4.length]; exact hl), fun p hp => ?_⟩)
      exact new_o st k (h2.append h4) hp
    · cases e
theorem o_sub : Op2 K c (rI0 fun i j => .int (i - j)) oSub := by
  intro ρ σ Hs H x y vx vy z Q st rx ry e k
  cases rx <;> cases ry <;> first | (simp only [oSub] at e; cases e; done) | skip
  simp only [oSub, Option.some.injEq] at e
  subst e
  exact ⟨_, _, rfl, rfl, keep_d st k (R.int _)⟩
theorem Rs.rep {H : Hp} {vs : List V} {ds : List D} (h : Rs K H vs ds) : ∀ n : Nat, Rs K H (List.replicate n vs).flatten (List.replicate n ds).flatten
  | 0 => .nil
  | n + 1 => by
    rw [List.replicate_succ, List.replicate_succ, List.flatten_cons, List.flatten_cons]
    exact h.append (Rs.rep h n)
def rMulAll : R2 := fun x y H Q => rI CMul (fun i j => .int (i * j)) x y H Q ∨ rRep x y H Q
theorem op_mulAll {X : Cx} : OpR X (binaryOp .Mult) rMulAll := op_mul.or op_rep
theorem o_mul : Op2 K c rMulAll oMul := by
  intro ρ σ Hs H x y vx vy z Q st rx ry e k
  cases rx <;> cases ry <;> first | (simp only [oMul] at e; cases e; done) | skip
  · simp only [oMul] at e
    split at e
    · rename_i hc
      cases e
      refine .inl ⟨_, _, rfl, rfl, ?_, keep_d st k (R.int _)⟩
      simp only [mulOk, Bool.or_eq_true, Bool.and_eq_true, decide_eq_true_eq] at hc
      exact hc
    · cases e
  · rename_i a xs ds h1 h2 n
    simp only [oMul] at e
    split at e
    · rename_i hc
      cases e
      refine .inr ⟨a, n, xs, rfl, rfl, st.sub _ _ h1, by omega, by omega, Evl.sz_of (by rw [h2.length]; exact hc.2.2), fun p hp => ?_⟩
      exact new_o st k (h2.rep _) hp
    · cases e
theorem o_div : Op2 K c (rI CDiv fun i j => .int (i / j)) oDiv := by
  intro ρ σ Hs H x y vx vy z Q st rx ry e k
  cases rx <;> cases ry <;> first | (simp only [oDiv] at e; cases e; done) | skip
  simp only [oDiv] at e
  split at e
  · rename_i hc
    cases e
    exact ⟨_, _, rfl, rfl, hc, keep_d st k (R.int _)⟩
  · cases e
theorem o_mod : Op2 K c (rI (fun _ j => 0 < j) fun i j => .int (i % j)) oMod := by
  intro ρ σ Hs H x y vx vy z Q st rx ry e k
  cases rx <;> cases ry <;> first | (simp only [oMod] at e; cases e; done) | skip
  simp only [oMod] at e
  split at e
  · rename_i hc
    cases e
    exact ⟨_, _, rfl, rfl, hc, keep_d st k (R.int _)⟩
  · cases e
theorem o_pow : Op2 K c (rI CPow fun i j => .int (i ^ j.toNat)) oPow := by
  intro ρ σ Hs H x y vx vy z Q st rx ry e k
  cases rx <;> cases ry <;> first | (simp only [oPow] at e; cases e; done) | skip
  simp only [oPow] at e
  split at e
  · rename_i hc
    cases e
    exact ⟨_, _, rfl, rfl, hc, keep_d st k (R.int _)⟩
  · cases e
theorem o_neg : Op1 K c (rU fun i => .int (-i)) oNeg := by
  intro ρ σ Hs H x vx z Q st rx e k
  cases rx <;> first | (simp only [oNeg] at e; cases e; done) | skip
  simp only [oNeg, Option.some.injEq] at e
  subst e
  exact ⟨_, rfl, keep_d st k (R.int _)⟩

/-! ### == and order -/
mutual
theorem ok_lay : ∀ (n : Nat) (d : D), okD n d = true → PyData.canLay0 d.toP = true ∧ PyData.depth d.toP ≤ n
  | n, .non, h => by simp [D.toP, PyData.canLay0, PyData.depth]
  | n, .bl _, h => by simp [D.toP, PyData.canLay0, PyData.depth]
  | n, .int _, h => by simp [D.toP, PyData.canLay0, PyData.depth]
  | n, .str x, h => by
    have h' : (x.cps.all fun n => decide (n < 1114112)) = true := by cases n <;> simpa only [okD] using h
    refine ⟨?_, by simp [D.toP, PyData.depth]⟩
    simp only [D.toP, PyData.canLay0]
    exact h'
  | n + 1, .tup xs, h => by
    simp only [okD] at h
    obtain ⟨a, b⟩ := oks_lay n xs h
    simp only [D.toP, PyData.canLay0, PyData.depth]
    exact ⟨a, by omega⟩
  | n + 1, .lst xs, h => by
    simp only [okD] at h
    obtain ⟨a, b⟩ := oks_lay n xs h
    simp only [D.toP, PyData.canLay0, PyData.depth]
    exact ⟨a, by omega⟩
  | 0, .tup _, h => by simp [okD] at h
  | 0, .lst _, h => by simp [okD] at h
  | n, .dic _, h => by cases n <;> simp [okD] at h
  | n, .scr _, h => by cases n <;> simp [okD] at h
theorem oks_lay : ∀ (n : Nat) (ds : List D), okDs n ds = true → PyData.canLayAll0 (toPs ds) = true ∧ PyData.depthAll (toPs ds) ≤ n
  | n, [], h => by simp [toPs, PyData.canLayAll0, PyData.depthAll]
  | n, d :: ds, h => by
    simp only [okDs, Bool.and_eq_true] at h
    obtain ⟨a, b⟩ := ok_lay n d h.1
    obtain ⟨a', b'⟩ := oks_lay n ds h.2
    simp only [toPs, PyData.canLayAll0, PyData.depthAll, a, a', Bool.and_self]
    exact ⟨trivial, by omega⟩
end
theorem ok_shaped {d : D} (h : d.ok = true) : SeqAt.shaped d.toP = true := by
  obtain ⟨a, b⟩ := ok_lay 30 d h
  show (PyData.canLay0 d.toP && decide (PyData.depth d.toP ≤ 64)) = true
  rw [a, decide_eq_true (by omega), Bool.and_self]
mutual
theorem R.dp {H : Hp} : ∀ (n : Nat) {d : D} {v : V}, R K H v d → okD n d = true → Dp K H v d.toP
  | _, .non, _, h, _ => by cases h; simp only [D.toP]; exact .non
  | _, .bl b, _, h, _ => by cases h; simp only [D.toP]; exact .bl b
  | _, .int b, _, h, _ => by cases h; simp only [D.toP]; exact .int b
  | _, .str b, _, h, _ => by cases h; simp only [D.toP]; exact .str b
  | n + 1, .tup ds, _, h, q => by
    simp only [okD] at q
    cases h with
    | tup h1 h2 =>
      simp only [D.toP]
      exact .tup h1 (Rs.dp n h2 q)
  | n + 1, .lst ds, _, h, q => by
    simp only [okD] at q
    cases h with
    | lst h1 h2 =>
      simp only [D.toP]
      exact .lst (SqL.of h1) (Rs.dp n h2 q)
  | 0, .tup _, _, _, q => by simp [okD] at q
  | 0, .lst _, _, _, q => by simp [okD] at q
  | n, .dic _, _, _, q => by cases n <;> simp [okD] at q
  | n, .scr _, _, _, q => by cases n <;> simp [okD] at q
theorem Rs.dp {H : Hp} : ∀ (n : Nat) {ds : List D} {vs : List V}, Rs K H vs ds → okDs n ds = true → DpAll K H vs (toPs ds)
  | _, [], _, h, _ => by cases h; simp only [toPs]; exact .nil
  | n, d :: ds, _, h, q => by
    simp only [okDs, Bool.and_eq_true] at q
    cases h with
    | cons h1 h2 =>
      simp only [toPs]
      exact .cons (R.dp n h1 q.1) (Rs.dp n h2 q.2)
end
theorem o_eq : Cp2 K c (rEqD K) oEq := by
  intro ρ σ Hs H x y vx vy k Q st rx ry e q
  unfold oEq at e
  split at e
  · rename_i h
    rw [Bool.and_eq_true] at h
    cases e
    exact ⟨_, _, R.dp 30 (rx.mono st.sub) h.1, R.dp 30 (ry.mono st.sub) h.2, ok_shaped h.1, ok_shaped h.2, q⟩
  · cases e
theorem o_ne : Cp2 K c (rNeD K) oNe := by
  intro ρ σ Hs H x y vx vy k Q st rx ry e q
  unfold oNe at e
  split at e
  · rename_i h
    rw [Bool.and_eq_true] at h
    cases e
    exact ⟨_, _, R.dp 30 (rx.mono st.sub) h.1, R.dp 30 (ry.mono st.sub) h.2, ok_shaped h.1, ok_shaped h.2, q⟩
  · cases e
def rLtAll : R2 := fun x y H Q => rI0 (fun i j => .bl (decide (i < j))) x y H Q ∨ ∃ i j, x = .str i ∧ y = .str j ∧ Q (.bl (decide (i.cps.toList < j.cps.toList))) H
theorem op_ltAll {X : Cx} : OpR X (compareOp .Lt) rLtAll := op_lt.or op_lt_str
theorem o_lt : Cp2 K c rLtAll oLt := by
  intro ρ σ Hs H x y vx vy k Q st rx ry e q
  cases rx <;> cases ry <;> first | (simp only [oLt] at e; cases e; done) | skip
  · cases e
    exact .inl ⟨_, _, rfl, rfl, q⟩
  · cases e
    exact .inr ⟨_, _, rfl, rfl, q⟩
theorem o_le : Cp2 K c (rI0 fun i j => .bl (decide (i ≤ j))) oLe := by
  intro ρ σ Hs H x y vx vy k Q st rx ry e q
  cases rx <;> cases ry <;> first | (simp only [oLe] at e; cases e; done) | skip
  cases e
  exact ⟨_, _, rfl, rfl, q⟩
theorem o_gt : Cp2 K c (rI0 fun i j => .bl (decide (j < i))) oGt := by
  intro ρ σ Hs H x y vx vy k Q st rx ry e q
  cases rx <;> cases ry <;> first | (simp only [oGt] at e; cases e; done) | skip
  cases e
  exact ⟨_, _, rfl, rfl, q⟩
theorem o_ge : Cp2 K c (rI0 fun i j => .bl (decide (j ≤ i))) oGe := by
  intro ρ σ Hs H x y vx vy k Q st rx ry e q
  cases rx <;> cases ry <;> first | (simp only [oGe] at e; cases e; done) | skip
  cases e
  exact ⟨_, _, rfl, rfl, q⟩
theorem isNon_of {H : Hp} {v : V} {d : D} (r : R K H v d) : decide (v = .non) = isNon d := by
  cases r <;> simp [isNon]
end

/-! ### subscripts -/
section
variable {K : PySem.W.Frag} {c : Cxt}
theorem ixAt_eq (n : Nat) (i : Int) : ixAt n i = ixN n i := rfl
theorem Rs.at {H : Hp} {vs : List V} {ds : List D} {i : Int} {d : D} (h : Rs K H vs ds) (e : dAt ds i = some d) : ∃ v, atI vs i = some v ∧ R K H v d := by
  unfold dAt at e
  unfold atI
  rw [h.length, ← ixAt_eq]
  cases q : ixAt ds.length i with
  | none =>
    rw [q] at e
    cases e
  | some j =>
    rw [q] at e
    obtain ⟨v, h1, h2⟩ := h.get (j := j) e
    exact ⟨v, h1, h2⟩
theorem o_ix : Op2 K c (rIx K) oIx := by
  intro ρ σ Hs H x y vx vy z Q st rx ry e k
  cases ry with
  | int i =>
    cases rx with
    | tup h1 h2 =>
      simp only [oIx, Option.map_eq_some_iff] at e
      obtain ⟨d, e1, rfl⟩ := e
      obtain ⟨v, a1, a2⟩ := h2.at e1
      exact .inr (.inl ⟨_, _, _, v, rfl, rfl, ex_t st.sub h1, a1, keep_d st k a2⟩)
    | lst h1 h2 =>
      simp only [oIx, Option.map_eq_some_iff] at e
      obtain ⟨d, e1, rfl⟩ := e
      obtain ⟨v, a1, a2⟩ := h2.at e1
      exact .inl ⟨_, _, _, v, rfl, rfl, SqL.of (st.sub _ _ h1), a1, keep_d st k a2⟩
    | str s =>
      simp only [oIx] at e
      split at e
      · rename_i hl
        rw [Option.map_eq_some_iff] at e
        obtain ⟨d, e1, rfl⟩ := e
        exact .inr (.inr ⟨_, _, d, rfl, rfl, Evl.sz_of hl, e1, keep_d st k (R.str _)⟩)
      · cases e
    | _ => simp only [oIx] at e; cases e
  | _ => cases rx <;> (simp only [oIx] at e; cases e)
/-- keys -/
def keyD : D → Option Key
  | .int i => some (.inl i)
  | .str x => some (.inr x)
  | _ => none
theorem key_of {H : Hp} {v : V} {d : D} (r : R K H v d) (h : isKey d = true) : ∃ k, d = kD k ∧ v = kV k := by
  cases r <;> first | (simp [isKey] at h; done) | skip
  · exact ⟨.inl _, rfl, rfl⟩
  · exact ⟨.inr _, rfl, rfl⟩
theorem kD_eqv (k j : Key) : (kD k).eqv (kD j) = decide (k = j) := by
  cases k with
  | inl a =>
    cases j with
    | inl b =>
      show (a == b) = _
      exact (key_ll a b).symm
    | inr b => exact (key_lr a b).symm
  | inr a =>
    cases j with
    | inl b => exact (key_rl a b).symm
    | inr b =>
      show (a == b) = _
      rw [key_rr]
      rfl
theorem Rk.get {H : Hp} (k : Key) : ∀ {ds : List (D × D)} {kvs : List (Key × V)}, Rk K H kvs ds → (valV kvs k = none ∧ dGet ds (kD k) = none) ∨ ∃ v d, valV kvs k = some v ∧ dGet ds (kD k) = some d ∧ R K H v d
  | [], _, h => by
    cases h
    exact .inl ⟨rfl, rfl⟩
  | (_, d) :: ds, _, h => by
    cases h with
    | @cons j v _ kvs _ h1 h2 =>
      by_cases e : j = k
      · refine .inr ⟨v, d, valV_pos e, ?_, h1⟩
        unfold dGet
        rw [List.find?_cons]
        simp only [kD_eqv, e, decide_true, Option.map_some]
      · have q := Rk.get k h2
        rw [valV_neg (p := (j, v)) e]
        have e' : dGet ((kD j, d) :: ds) (kD k) = dGet ds (kD k) := by
          unfold dGet
          rw [List.find?_cons]
          simp only [kD_eqv, e, decide_false]
        rw [e']
        exact q
theorem Rk.has {H : Hp} (k : Key) : ∀ {ds : List (D × D)} {kvs : List (Key × V)}, Rk K H kvs ds → (kvs.any fun p => decide (p.1 = k)) = dHas ds (kD k)
  | [], _, h => by
    cases h
    rfl
  | (_, d) :: ds, _, h => by
    cases h with
    | @cons j v _ kvs _ h1 h2 =>
      have q := Rk.has k h2
      unfold dHas at q ⊢
      simp only [List.any_cons, kD_eqv, q]
theorem Rk.repl {H : Hp} (k : Key) {v : V} {d : D} (r : R K H v d) : ∀ {ds : List (D × D)} {kvs : List (Key × V)}, Rk K H kvs ds → Rk K H (kvs.map fun p => if p.1 = k then (p.1, v) else p) (ds.map fun p => if p.1.eqv (kD k) then (p.1, d) else p)
  | [], _, h => by
    cases h
    exact .nil
  | (_, x) :: ds, _, h => by
    cases h with
    | @cons j u _ kvs _ h1 h2 =>
      have q := Rk.repl k r h2
      simp only [List.map_cons, kD_eqv, decide_eq_true_eq]
      by_cases e : j = k
      · simp only [e, if_true]
        exact .cons r q
      · simp only [e, if_false]
        exact .cons h1 q
theorem Rk.snoc {H : Hp} (k : Key) {v : V} {d : D} (r : R K H v d) : ∀ {ds : List (D × D)} {kvs : List (Key × V)}, Rk K H kvs ds → Rk K H (kvs ++ [(k, v)]) (ds ++ [(kD k, d)])
  | [], _, h => by
    cases h
    exact .cons r .nil
  | (_, x) :: ds, _, h => by
    cases h with
    | cons h1 h2 => exact .cons h1 (Rk.snoc k r h2)
theorem Rk.put {H : Hp} {ds : List (D × D)} {kvs : List (Key × V)} (h : Rk K H kvs ds) (k : Key) {v : V} {d : D} (r : R K H v d) : Rk K H (putK kvs k v) (dPut ds (kD k) d) := by
  unfold putK dPut
  rw [h.has k]
  split
  · exact h.repl k r
  · exact h.snoc k r
theorem Rk.merge {H : Hp} : ∀ {es : List (D × D)} {more : List (Key × V)} {ds : List (D × D)} {kvs : List (Key × V)}, Rk K H more es → Rk K H kvs ds → Rk K H (mergeK kvs more) (merge ds es)
  | [], _, _, _, h, g => by
    cases h
    exact g
  | (_, x) :: es, _, _, _, h, g => by
    cases h with
    | @cons j u _ kvs _ h1 h2 =>
      show Rk K H (mergeK (putK _ j u) kvs) (Dn.merge (dPut _ (kD j) x) es)
      exact Rk.merge h2 (g.put j h1)

/-! ### built-ins of one value -/
theorem o_len {r : List V → Hp → VK → Prop} (hr : r = fun xs H Q => (∃ x n, xs = [x] ∧ LenV K x H n ∧ Q (.int n) H) ∨ ∃ a kvs, xs = [V.ref a] ∧ H a = some (.dK kvs) ∧ Q (.int kvs.length) H) : Op1 K c (fun v => r [v]) oLen := by
  subst hr
  intro ρ σ Hs H x vx z Q st rx e k
  cases rx <;> first | (simp only [oLen] at e; cases e; done) | skip
  · simp only [oLen] at e
    split at e
    · rename_i hl
      cases e
      exact .inl ⟨_, _, rfl, ⟨Evl.sz_of hl, rfl⟩, keep_d st k (R.int _)⟩
    · cases e
  · rename_i h1 h2
    simp only [oLen, Option.some.injEq] at e
    subst e
    exact .inl ⟨_, _, rfl, .inr ⟨_, ex_t st.sub h1, rfl⟩, keep_d st k (by rw [h2.length]; exact R.int _)⟩
  · rename_i h1 h2
    simp only [oLen, Option.some.injEq] at e
    subst e
    exact .inl ⟨_, _, rfl, .inl ⟨_, SqL.of (st.sub _ _ h1), rfl⟩, keep_d st k (by rw [h2.length]; exact R.int _)⟩
  · rename_i h1 h2
    simp only [oLen, Option.some.injEq] at e
    subst e
    exact .inr ⟨_, _, rfl, st.sub _ _ h1, keep_d st k (by rw [h2.length]; exact R.int _)⟩
theorem o_abs : Op1 K c (fun v => (fun xs H (Q : VK) => ∃ i, xs = [V.int i] ∧ Q (.int (if i < 0 then -i else i)) H) [v]) oAbs := by
  intro ρ σ Hs H x vx z Q st rx e k
  cases rx <;> first | (simp only [oAbs] at e; cases e; done) | skip
  simp only [oAbs, Option.some.injEq] at e
  subst e
  exact ⟨_, rfl, keep_d st k (R.int _)⟩
theorem o_intc : Op1 K c (fun v => (fun xs H (Q : VK) => (∃ i, xs = [V.int i] ∧ Q (.int i) H) ∨ ∃ k, xs = [V.bl k] ∧ Q (.int (if k then 1 else 0)) H) [v]) oInt := by
  intro ρ σ Hs H x vx z Q st rx e k
  cases rx <;> first | (simp only [oInt] at e; cases e; done) | skip
  · simp only [oInt, Option.some.injEq] at e
    subst e
    exact .inr ⟨_, rfl, keep_d st k (R.int _)⟩
  · simp only [oInt, Option.some.injEq] at e
    subst e
    exact .inl ⟨_, rfl, keep_d st k (R.int _)⟩
theorem Rs.bls {H : Hp} : ∀ {ds : List D} {vs : List V} {bs : List Bool}, Rs K H vs ds → asBs ds = some bs → vs = bs.map V.bl
  | [], _, _, h, e => by
    cases h
    cases e
    rfl
  | d :: ds, _, bs, h, e => by
    cases h with
    | cons h1 h2 =>
      cases h1 <;> first | (simp only [asBs] at e; cases e; done) | skip
      simp only [asBs, Option.map_eq_some_iff] at e
      obtain ⟨r, e1, rfl⟩ := e
      rw [Rs.bls h2 e1]
      rfl
theorem Rs.isof {H : Hp} : ∀ {ds : List D} {vs : List V} {bs : List Int}, Rs K H vs ds → asIs ds = some bs → vs = bs.map V.int
  | [], _, _, h, e => by
    cases h
    cases e
    rfl
  | d :: ds, _, bs, h, e => by
    cases h with
    | cons h1 h2 =>
      cases h1 <;> first | (simp only [asIs] at e; cases e; done) | skip
      simp only [asIs, Option.map_eq_some_iff] at e
      obtain ⟨r, e1, rfl⟩ := e
      rw [Rs.isof h2 e1]
      rfl
theorem o_all : Op1 K c (fun v => rAll K [v]) oAll := by
  intro ρ σ Hs H x vx z Q st rx e k
  cases rx <;> first | (simp only [oAll] at e; cases e; done) | skip
  rename_i h1 h2
  simp only [oAll, Option.map_eq_some_iff] at e
  obtain ⟨bs, e1, rfl⟩ := e
  exact ⟨_, bs, rfl, SqL.of (by rw [← h2.bls e1]; exact st.sub _ _ h1), keep_d st k (R.bl _)⟩
theorem o_any : Op1 K c (fun v => rAny K [v]) oAny := by
  intro ρ σ Hs H x vx z Q st rx e k
  cases rx <;> first | (simp only [oAny] at e; cases e; done) | skip
  rename_i h1 h2
  simp only [oAny, Option.map_eq_some_iff] at e
  obtain ⟨bs, e1, rfl⟩ := e
  exact ⟨_, bs, rfl, SqL.of (by rw [← h2.bls e1]; exact st.sub _ _ h1), keep_d st k (R.bl _)⟩
theorem o_sum : Op1 K c (fun v => rSum K [v]) oSum := by
  intro ρ σ Hs H x vx z Q st rx e k
  cases rx <;> first | (simp only [oSum] at e; cases e; done) | skip
  rename_i h1 h2
  simp only [oSum, Option.map_eq_some_iff] at e
  obtain ⟨bs, e1, rfl⟩ := e
  exact ⟨_, bs, rfl, SqL.of (by rw [← h2.isof e1]; exact st.sub _ _ h1), keep_d st k (R.int _)⟩
theorem SqL.of_scr {H : Hp} {a : Addr} {ns : List Int} (h : SqL K H a (ns.map V.int)) : Rs K H (ns.map V.int) (ns.map D.int) := Rs.ints ns
theorem o_list : Op1 K c (fun v => (fun xs H (Q : VK) => ∃ p ys, xs = [V.ref p] ∧ (SqL K H p ys ∨ SqT K H p ys) ∧ ∀ l, H l = none → Q (.ref l) (upd H l (.lst ys))) [v]) oList := by
  intro ρ σ Hs H x vx z Q st rx e k
  cases rx <;> first | (simp only [oList] at e; cases e; done) | skip
  · rename_i h1 h2
    simp only [oList, Option.some.injEq] at e
    subst e
    exact ⟨_, _, rfl, .inr (ex_t st.sub h1), fun p hp => new_o st k h2 hp⟩
  · rename_i h1 h2
    simp only [oList, Option.some.injEq] at e
    subst e
    exact ⟨_, _, rfl, .inl (SqL.of (st.sub _ _ h1)), fun p hp => new_o st k h2 hp⟩
  · rename_i h1
    simp only [oList, Option.some.injEq] at e
    subst e
    exact ⟨_, _, rfl, .inl (ex_l st.sub h1), fun p hp => new_o st k (Rs.ints _) hp⟩
theorem o_tuple : Op1 K c (fun v => (fun xs H (Q : VK) => ∃ p ys, xs = [V.ref p] ∧ ((SqL K H p ys ∧ ∀ l, H l = none → Q (.ref l) (upd H l (.tup ys))) ∨ (SqT K H p ys ∧ Q (.ref p) H))) [v]) oTuple := by
  intro ρ σ Hs H x vx z Q st rx e k
  cases rx <;> first | (simp only [oTuple] at e; cases e; done) | skip
  · rename_i h1 h2
    simp only [oTuple, Option.some.injEq] at e
    subst e
    exact ⟨_, _, rfl, .inr ⟨ex_t st.sub h1, keep_d st k (R.tup h1 h2)⟩⟩
  · rename_i h1 h2
    simp only [oTuple, Option.some.injEq] at e
    subst e
    exact ⟨_, _, rfl, .inl ⟨SqL.of (st.sub _ _ h1), fun p hp => new_t st k h2 hp⟩⟩
/-! ### isinstance -/
theorem ty_of {H : Hp} {v : V} {d : D} (r : R K H v d) : TyX K H v (.type d.ty) := by
  cases r with
  | non => exact .base .non
  | bl b => exact .base (.bl b)
  | int i => exact .base (.int i)
  | str x => exact .base (.str x)
  | tup h1 h2 =>
    rcases h1 with (h | ⟨o, h⟩) | ⟨o, its, n, h, hc, _⟩
    · exact .base (.tup h)
    · exact .fTuple h
    · exact .kTuple h hc
  | lst h1 h2 => exact .base (.lst h1)
  | dic h1 h2 => exact .base (.dK h1)
  | scr h1 =>
    rcases h1 with (h | ⟨o, h⟩) | ⟨o, its, n, h, hc, _⟩
    · exact .base (.lst h)
    · exact .base (.frz h)
    · exact .kList h hc
theorem kit_all {t : String} (h : (["NoneType", "bool", "int", "str", "tuple", "list", "dict"].all fun s => decide (kitB s t = some (isiT s t))) = true) (d : D) : kitB d.ty t = some (isiT d.ty t) :=
  of_decide_eq_true (List.all_eq_true.mp h d.ty (by cases d <;> simp [D.ty]))
theorem kit_int (d : D) : kitB d.ty "int" = some (isiT d.ty "int") := kit_all (by decide +kernel) d
theorem kit_bool (d : D) : kitB d.ty "bool" = some (isiT d.ty "bool") := kit_all (by decide +kernel) d
theorem kit_str (d : D) : kitB d.ty "str" = some (isiT d.ty "str") := kit_all (by decide +kernel) d
theorem kit_tuple (d : D) : kitB d.ty "tuple" = some (isiT d.ty "tuple") := kit_all (by decide +kernel) d
theorem kit_list (d : D) : kitB d.ty "list" = some (isiT d.ty "list") := kit_all (by decide +kernel) d
theorem kit_dict (d : D) : kitB d.ty "dict" = some (isiT d.ty "dict") := kit_all (by decide +kernel) d
theorem o_isi {t : String} (hk : ∀ d : D, kitB d.ty t = some (isiT d.ty t)) : Op1 K c (fun v H Q => tCons (tC (.ty t)) tNil [] H fun vs H' => rIsi K (v :: vs) H' Q) (oIsi t) := by
  intro ρ σ Hs H x vx z Q st rx e k
  simp only [oIsi, Option.some.injEq] at e
  subst e
  exact ⟨vx, .ty t, _, _, _, rfl, .ty t, ty_of (rx.mono st.sub), kit_ty (hk x), keep_d st k (R.bl _)⟩
theorem Rs.pairs {H : Hp} : ∀ {ds : List D} {vs : List V} {ps : List (D × D)}, Rs K H vs ds → asPairs ds = some ps → ∃ (as : List Addr) (kvs : List (Key × V)), vs = as.map V.ref ∧ Paired (fun p kv => SqT K H p [kV kv.1, kv.2]) as kvs ∧ Rk K H kvs ps
  | [], _, _, h, e => by
    cases h
    cases e
    exact ⟨[], [], rfl, .nil, .nil⟩
  | d :: ds, _, ps, h, e => by
    cases h with
    | cons h1 h2 =>
      cases h1 with
      | @tup a xs es q1 q2 =>
        match es, e, q2 with
        | [], e, _ => simp only [asPairs] at e; cases e
        | [_], e, _ => simp only [asPairs] at e; cases e
        | _ :: _ :: _ :: _, e, _ => simp only [asPairs] at e; cases e
        | [dk, dv], e, q2 =>
          simp only [asPairs] at e
          split at e
          · rename_i hk
            rw [Option.map_eq_some_iff] at e
            obtain ⟨r, e1, rfl⟩ := e
            cases q2 with
            | cons g1 g2 =>
              cases g2 with
              | cons g3 g4 =>
                cases g4
                obtain ⟨j, rfl, rfl⟩ := key_of g1 hk
                obtain ⟨as, kvs, rfl, p1, p2⟩ := Rs.pairs h2 e1
                exact ⟨a :: as, (j, _) :: kvs, rfl, .cons q1 p1, .cons g3 p2⟩
          · cases e
      | _ => simp only [asPairs] at e; cases e
theorem paired_mono {H H' : Hp} (e : Ex H H') : ∀ {as : List Addr} {kvs : List (Key × V)}, Paired (fun p (kv : Key × V) => SqT K H p [kV kv.1, kv.2]) as kvs → Paired (fun p (kv : Key × V) => SqT K H' p [kV kv.1, kv.2]) as kvs
  | _, _, .nil => .nil
  | _, _, .cons h t => .cons (ex_t e h) (paired_mono e t)
theorem o_dictP : Op1 K c (fun v => (fun xs H (Q : VK) => ∃ (a : Addr) (ps : List Addr) (kvs : List (Key × V)), xs = [V.ref a] ∧ SqL K H a (ps.map V.ref) ∧ Paired (fun p kv => SqT K H p [kV kv.1, kv.2]) ps kvs ∧ ∀ p, H p = none → Q (.ref p) (upd H p (.dK (mergeK [] kvs)))) [v]) oDictP := by
  intro ρ σ Hs H x vx z Q st rx e k
  cases rx <;> first | (simp only [oDictP] at e; cases e; done) | skip
  rename_i h1 h2
  simp only [oDictP, Option.map_eq_some_iff] at e
  obtain ⟨ps, e1, rfl⟩ := e
  obtain ⟨as, kvs, rfl, p1, p2⟩ := h2.pairs e1
  exact ⟨_, as, kvs, rfl, SqL.of (st.sub _ _ h1), paired_mono st.sub p1, fun p hp => new_oD st k (Rk.merge p2 .nil) hp⟩
end
end Dn
set_option Elab.async false
set_option linter.all false
set_option maxRecDepth 100000
set_option maxHeartbeats 4000000
/-! Statements, loops, comprehensions, defs and their calls. -/
namespace Dn
open PySem L2
open Evl (Ex ex_l ex_t fresh_back)
section
variable {K : PySem.W.Frag} {mg : Str → Option Value} {c : Cxt}
def GoalS (K : PySem.W.Frag) (mg : Str → Option Value) (c : Cxt) (Hs : Hp) (f : Fl) (D : Ends) : Prop := match f with
  | .bad => False
  | .err e ρ' => ∀ cls od σ' Hs' H', StR K c ρ' σ' Hs' H' → Ex Hs Hs' → ErrR K mg Hs' H' e cls od → c.E cls od H'
  | .nx ρ' => ∀ σ' Hs' H', StR K c ρ' σ' Hs' H' → Ex Hs Hs' → D.nx σ' H'
  | .rt r ρ' => ∀ v σ' Hs' H', StR K c ρ' σ' Hs' H' → Ex Hs Hs' → RvR K c σ' r ρ' Hs' H' v → D.rt v H'
  | .bk ρ' => ∀ σ' Hs' H', StR K c ρ' σ' Hs' H' → Ex Hs Hs' → D.bk σ' H'
  | .ct ρ' => ∀ σ' Hs' H', StR K c ρ' σ' Hs' H' → Ex Hs Hs' → D.ct σ' H'
theorem GoalS.mono {Hs Hs1 : Hp} {f : Fl} {D : Ends} (e : Ex Hs Hs1) (g : GoalS K mg c Hs f D) : GoalS K mg c Hs1 f D := by
  cases f with
  | bad => exact g
  | err er ρ' => exact fun cls od σ' Hs' H' st ex => g cls od σ' Hs' H' st (e.trans ex)
  | nx ρ' => exact fun σ' Hs' H' st ex => g σ' Hs' H' st (e.trans ex)
  | rt r ρ' => exact fun v σ' Hs' H' st ex => g v σ' Hs' H' st (e.trans ex)
  | bk ρ' => exact fun σ' Hs' H' st ex => g σ' Hs' H' st (e.trans ex)
  | ct ρ' => exact fun σ' Hs' H' st ex => g σ' Hs' H' st (e.trans ex)
def EvS (K : PySem.W.Frag) (mg : Str → Option Value) (c : Cxt) (t : TS) (s : S) : Prop := ∀ ρ σ Hs H D, StR K c ρ σ Hs H → GoalS K mg c Hs (s ρ) D → t D σ H
def tsOf (K : PySem.W.Frag) (mg : Str → Option Value) (c : Cxt) (s : S) : TS := fun D σ H => ∃ ρ Hs, StR K c ρ σ Hs H ∧ GoalS K mg c Hs (s ρ) D
theorem evs_self {s : S} : EvS K mg c (tsOf K mg c s) s := fun ρ σ Hs H D st g => ⟨ρ, Hs, st, g⟩
theorem evs_run {α β : Type} {t : L2.St → Hp → (β → Hp → Prop) → Prop} {P : L2.St → α → Env → Hp → Hp → β → Prop} {m : M α} {u : L2.St → β → Ends → Hp → Prop} {k : α → Env → Fl} (h : Ev K mg c t P m)
    (h2 : ∀ a b ρ σ Hs H D, StR K c ρ σ Hs H → P σ a ρ Hs H b → GoalS K mg c Hs (k a ρ) D → u σ b D H) : EvS K mg c (fun D σ H => t σ H fun b H1 => u σ b D H1) (runM m k) := by
  intro ρ σ Hs H D st g
  refine h ρ σ Hs H _ st ?_
  unfold runM at g
  cases e : m ρ with
  | bad =>
    rw [e] at g
    exact g
  | err er ρ' =>
    rw [e] at g
    exact fun cls od Hs' H' st' ex er => g cls od σ Hs' H' st' ex er
  | ok a ρ' =>
    rw [e] at g
    exact fun b Hs' H' st' ex p => h2 a b ρ' σ Hs' H' D st' p (GoalS.mono ex g)
theorem evs_seq {t u : TS} {a b : S} (ha : EvS K mg c t a) (hb : EvS K mg c u b) : EvS K mg c (tSeq t u) (sSeq a b) := by
  intro ρ σ Hs H D st g
  refine ha ρ σ Hs H { D with nx := u D } st ?_
  unfold sSeq at g
  cases e : a ρ with
  | bad =>
    rw [e] at g
    exact g
  | nx ρ' =>
    rw [e] at g
    exact fun σ' Hs' H' st' ex => hb ρ' σ' Hs' H' D st' (GoalS.mono ex g)
  | err er ρ' =>
    rw [e] at g
    exact g
  | rt r ρ' =>
    rw [e] at g
    exact g
  | bk ρ' =>
    rw [e] at g
    exact g
  | ct ρ' =>
    rw [e] at g
    exact g
theorem evs_nil : EvS K mg c tNext sNil := fun ρ σ Hs H D st g => g σ Hs H st (Ex.refl _)
theorem evs_bad {t : TS} : EvS K mg c t sBad := fun ρ σ Hs H D st g => g.elim
theorem evs_bk : EvS K mg c tBreak sBk := fun ρ σ Hs H D st g => g σ Hs H st (Ex.refl _)
theorem evs_ct : EvS K mg c tCont sCt := fun ρ σ Hs H D st g => g σ Hs H st (Ex.refl _)
theorem evs_retN : EvS K mg c tRetN sRetN := fun ρ σ Hs H D st g => g .non σ Hs H st (Ex.refl _) .non
theorem evs_ret {te : TE} {m : E} (h : Ev K mg c te (pV K c) m) : EvS K mg c (tRet te) (sRet m) :=
  evs_run (u := fun σ v D H => D.rt v H) h fun r v ρ σ Hs H D st p g => g v σ Hs H st (Ex.refl _) p
theorem evs_exp {te : TE} {m : E} (h : Ev K mg c te (pV K c) m) : EvS K mg c (tDrop te) (sExp m) :=
  evs_run (u := fun σ v D H => D.nx σ H) h fun r v ρ σ Hs H D st p g => g σ Hs H st (Ex.refl _)
theorem evs_if {tt : TT} {t u : TS} {m : T} {a b : S} (h : Ev K mg c tt pB m) (ha : EvS K mg c t a) (hb : EvS K mg c u b) : EvS K mg c (tIfS tt t u) (sIf m a b) :=
  evs_run (u := fun σ (k : Bool) D H => if k = true then t D σ H else u D σ H) h fun k k' ρ σ Hs H D st p g => by
    obtain rfl : k' = k := p
    cases k' with
    | true => exact ha ρ σ Hs H D st g
    | false => exact hb ρ σ Hs H D st g
/-- a slot is stored -/
theorem StR.store {ρ ρ' : Env} {σ : L2.St} {Hs H : Hp} {i : Nat} {r : Rv} {v : V} (st : StR K c ρ σ Hs H) (h : store ρ i r.sl = some ρ') (p : RvR K c σ r ρ Hs H v) : StR K c ρ' (σ.set i (some v)) Hs H := by
  unfold Dn.store at h
  cases e : ρ[i]? with
  | none =>
    rw [e] at h
    cases h
  | some s =>
    have hi : i < σ.length := by
      rw [st.len]
      exact lt_of_get e
    have hne : ∀ k, s ≠ .bor k := fun k z => by
      subst z
      rw [e] at h
      cases h
    have h : ρ' = ρ.set i r.sl := by
      rw [e] at h
      cases s with
      | bor k => exact absurd rfl (hne k)
      | un =>
        cases h
        rfl
      | val d =>
        cases h
        rfl
      | own k =>
        cases h
        rfl
    subst h
    refine ⟨st.sub, st.old, st.keep, st.live, st.hs, by rw [List.length_set, List.length_set]; exact st.len, fun j d q => ?_, fun j k q => ?_, fun j k q => ?_, fun j m l sj sm hn hj hm cj cm q1 q2 => ?_⟩
    · rcases get_set q with ⟨rfl, e2⟩ | ⟨hn, e2⟩
      · cases r with
        | d x =>
          cases e2
          exact ⟨v, set_get hi, p⟩
        | o k => cases e2
      · obtain ⟨u, a1, a2⟩ := st.val j d e2
        exact ⟨u, by rw [List.getElem?_set_ne (Ne.symm hn)]; exact a1, a2⟩
    · rcases get_set q with ⟨rfl, e2⟩ | ⟨hn, e2⟩
      · cases r with
        | d x => cases e2
        | o k' =>
          cases e2
          obtain ⟨l, rfl, a2, a3, a4, a5⟩ := p
          exact ⟨l, set_get hi, a2, a3, a4⟩
      · obtain ⟨l, a1, a2⟩ := st.own j k e2
        exact ⟨l, by rw [List.getElem?_set_ne (Ne.symm hn)]; exact a1, a2⟩
    · rcases get_set q with ⟨rfl, e2⟩ | ⟨hn, e2⟩
      · cases r <;> cases e2
      · obtain ⟨l, a1, a2⟩ := st.bor j k e2
        exact ⟨l, by rw [List.getElem?_set_ne (Ne.symm hn)]; exact a1, a2⟩
    · rcases get_set q1 with ⟨rfl, z1⟩ | ⟨hj', z1⟩
      · rcases get_set q2 with ⟨rfl, z2⟩ | ⟨hm', z2⟩
        · exact hn rfl
        · cases z1
          rcases get_set hm with ⟨z3, _⟩ | ⟨_, z3⟩
          · exact hm' z3
          · rcases get_set hj with ⟨_, z4⟩ | ⟨z4, _⟩
            · subst z4
              cases r with
              | d x => cases cj
              | o k =>
                obtain ⟨l', zz, a2, a3, a4, a5⟩ := p
                cases zz
                exact a5 m sm z3 cm z2
            · exact absurd rfl z4
      · rcases get_set hj with ⟨z3, _⟩ | ⟨_, z3⟩
        · exact hj' z3
        · rcases get_set q2 with ⟨rfl, z2⟩ | ⟨hm', z2⟩
          · cases z2
            rcases get_set hm with ⟨_, z4⟩ | ⟨z4, _⟩
            · subst z4
              cases r with
              | d x => cases cm
              | o k =>
                obtain ⟨l', zz, a2, a3, a4, a5⟩ := p
                cases zz
                exact a5 j sj z3 cj z1
            · exact absurd rfl z4
          · rcases get_set hm with ⟨z4, _⟩ | ⟨_, z4⟩
            · exact hm' z4
            · exact st.apart j m l sj sm hn z3 z4 cj cm z1 z2
theorem evs_asg {te : TE} {m : E} {i : Nat} (h : Ev K mg c te (pV K c) m) : EvS K mg c (tAsg te (gName i)) (sAsg i m) :=
  evs_run (u := fun σ v D H => D.nx (σ.set i (some v)) H) h fun r v ρ σ Hs H D st p g => by
    cases e : store ρ i r.sl with
    | none =>
      rw [e] at g
      exact g.elim
    | some ρ' =>
      rw [e] at g
      exact g _ Hs H (st.store e p) (Ex.refl _)
/-- targets: what they store, the other slots as they were -/
def EvG (K : PySem.W.Frag) (c : Cxt) (g : TG) (tg : Tg) (is : List Nat) : Prop := ∀ ρ σ Hs H v d ρ1 (Q : L2.St → Hp → Prop), StR K c ρ σ Hs H → R K Hs v d → tg d ρ = some ρ1 → (∀ σ', StR K c ρ1 σ' Hs H → (∀ j, ¬ j ∈ is → σ'[j]? = σ[j]?) → σ'.length = σ.length → Q σ' H) → g v σ H Q
def EvGs (K : PySem.W.Frag) (c : Cxt) (g : TGs) (is : List Nat) : Prop := ∀ ρ σ Hs H vs ds ρ1 (Q : L2.St → Hp → Prop), StR K c ρ σ Hs H → Rs K Hs vs ds → gVs is ds ρ = some ρ1 → (∀ σ', StR K c ρ1 σ' Hs H → (∀ j, ¬ j ∈ is → σ'[j]? = σ[j]?) → σ'.length = σ.length → Q σ' H) → g vs σ H Q
theorem evg_v {i : Nat} : EvG K c (gName i) (gV i) [i] := fun ρ σ Hs H v d ρ1 Q st r h k => k _ (st.store (r := .d d) h r) (fun j hj => List.getElem?_set_ne fun e => hj (by rw [e]; exact List.mem_singleton.mpr rfl)) (List.length_set ..)
theorem evgs_nil : EvGs K c gNil [] := fun ρ σ Hs H vs ds ρ1 Q st r h k => by
  cases r with
  | nil =>
    cases h
    exact ⟨rfl, k σ st (fun _ _ => rfl) rfl⟩
  | cons _ _ => cases h
theorem evgs_cons {i : Nat} {is : List Nat} {t : TGs} (ht : EvGs K c t is) : EvGs K c (gCons (gName i) t) (i :: is) := fun ρ σ Hs H vs ds ρ1 Q st r h k => by
  cases r with
  | nil => cases h
  | @cons v d vs ds r1 r2 =>
    simp only [gVs, Option.bind_eq_some_iff] at h
    obtain ⟨ρ2, h1, h2⟩ := h
    refine ⟨v, vs, rfl, ht ρ2 _ Hs H vs ds ρ1 Q (st.store (r := .d d) h1 r1) r2 h2 fun σ' st' e el => k σ' st' (fun j hj => ?_) (by rw [el, List.length_set])⟩
    rw [e j fun z => hj (List.mem_cons_of_mem _ z)]
    exact List.getElem?_set_ne fun z => hj (by rw [z]; exact List.mem_cons_self)
theorem gVs_len : ∀ {is : List Nat} {ds : List D} {ρ ρ1 : Env}, gVs is ds ρ = some ρ1 → ds.length = is.length
  | [], [], _, _, _ => rfl
  | [], _ :: _, _, _, h => by cases h
  | _ :: _, [], _, _, h => by cases h
  | i :: is, d :: ds, _, _, h => by
    simp only [gVs, Option.bind_eq_some_iff] at h
    obtain ⟨ρ2, h1, h2⟩ := h
    simp only [List.length_cons, gVs_len h2]
theorem evg_t {is : List Nat} {t : TGs} {n : Nat} (ht : EvGs K c t is) (hn : is.length = n) : EvG K c (gTup K n t) (gT is) is := fun ρ σ Hs H v d ρ1 Q st r h k => by
  cases r with
  | @tup a xs ds h1 h2 =>
    have h : gVs is ds ρ = some ρ1 := h
    exact ⟨a, xs, rfl, ex_t st.sub h1, by rw [h2.length, gVs_len h, hn], ht ρ σ Hs H xs ds ρ1 Q st h2 h fun σ' st' e el => k σ' st' e el⟩
  | _ => cases h
theorem evs_unp {te : TE} {m : E} {is : List Nat} {t : TGs} {n : Nat} (h : Ev K mg c te (pV K c) m) (ht : EvGs K c t is) (hn : is.length = n) : EvS K mg c (tAsg te (gTup K n t)) (sUnp is m) :=
  evs_run (u := fun σ v D H => gTup K n t v σ H D.nx) (ev_val h) fun d v ρ σ Hs H D st p g => by
    cases e : gT is d ρ with
    | none =>
      rw [e] at g
      exact g.elim
    | some ρ' =>
      rw [e] at g
      exact evg_t ht hn ρ σ Hs H v d ρ' D.nx st p e fun σ' st' _ _ => g σ' Hs H st' (Ex.refl _)

/-! ### what is changed in place -/
theorem evs_chg {i : Nat} {f : C → Option C} {ρ : Env} {σ : L2.St} {Hs H : Hp} {D : Ends} (st : StR K c ρ σ Hs H) (g : GoalS K mg c Hs (chg i f ρ) D) :
    ∃ l k k', σ[i]? = some (some (.ref l)) ∧ ContR K Hs H l k ∧ f k = some k' ∧ ∀ o, ContR K Hs (upd H l o) l k' → D.nx σ (upd H l o) := by
  unfold chg at g
  cases e : ρ[i]? with
  | none =>
    rw [e] at g
    exact g.elim
  | some s =>
    rw [e] at g
    cases s with
    | un => exact g.elim
    | val d => exact g.elim
    | own k =>
      cases q : f k with
      | none =>
        simp only [q] at g
        exact g.elim
      | some k' =>
        simp only [q] at g
        obtain ⟨l, h1, h2, _⟩ := st.own i k e
        exact ⟨l, k, k', h1, h2, q, fun o hk => g σ Hs _ (st.change e (.inl ⟨k, rfl, rfl⟩) h1 hk) (Ex.refl _)⟩
    | bor k =>
      cases q : f k with
      | none =>
        simp only [q] at g
        exact g.elim
      | some k' =>
        simp only [q] at g
        obtain ⟨l, h1, h2, _⟩ := st.bor i k e
        exact ⟨l, k, k', h1, h2, q, fun o hk => g σ Hs _ (st.change e (.inr ⟨k, rfl, rfl⟩) h1 hk) (Ex.refl _)⟩
/-- the object of a name as it is while the arguments are reckoned -/
theorem ty_list {H : Hp} {l : Addr} {xs : List V} (h : H l = some (.lst xs)) : tyV K "list" (.ref l) H := Or.inl ⟨rfl, _, SqL.of h⟩
end
end Dn
set_option Elab.async false
set_option linter.all false
set_option maxRecDepth 100000
set_option maxHeartbeats 4000000
/-! Lists and dicts changed in place; loops. -/
namespace Dn
open PySem L2
open Evl (Ex ex_l ex_t fresh_back)
section
variable {K : PySem.W.Frag} {mg : Str → Option Value} {c : Cxt}
theorem StR.contAt {ρ : Env} {σ : L2.St} {Hs H : Hp} {i : Nat} (st : StR K c ρ σ Hs H) (h : isCont ρ[i]? = true) : ∃ l, σ[i]? = some (some (.ref l)) := by
  cases e : ρ[i]? with
  | none =>
    rw [e] at h
    cases h
  | some s =>
    rw [e] at h
    obtain ⟨l, k, _, h1, _⟩ := st.cont e h
    exact ⟨l, h1⟩
theorem StR.lstAt {ρ : Env} {σ : L2.St} {Hs H : Hp} {i : Nat} (st : StR K c ρ σ Hs H) (h : isLs ρ[i]? = true) : ∃ l xs, σ[i]? = some (some (.ref l)) ∧ H l = some (.lst xs) := by
  cases e : ρ[i]? with
  | none =>
    rw [e] at h
    cases h
  | some s =>
    rw [e] at h
    cases s with
    | un => cases h
    | val d => cases h
    | own k =>
      obtain ⟨l, h1, h2, _⟩ := st.own i k e
      cases k with
      | dic _ => cases h
      | lst ds =>
        obtain ⟨xs, a, b⟩ := h2
        exact ⟨l, xs, h1, a⟩
    | bor k =>
      obtain ⟨l, h1, h2, _⟩ := st.bor i k e
      cases k with
      | dic _ => cases h
      | lst ds =>
        obtain ⟨xs, a, b⟩ := h2
        exact ⟨l, xs, h1, a⟩
theorem run_at {α β : Type} {t : L2.St → Hp → (β → Hp → Prop) → Prop} {P : L2.St → α → Env → Hp → Hp → β → Prop} {m : M α} {k : α → Env → Fl} {ρ : Env} {σ : L2.St} {Hs H : Hp} {D : Ends} {Q : β → Hp → Prop} (h : Ev K mg c t P m) (st : StR K c ρ σ Hs H) (g : GoalS K mg c Hs (runM m k ρ) D)
    (h2 : ∀ a b ρ' Hs' H', StR K c ρ' σ Hs' H' → P σ a ρ' Hs' H' b → GoalS K mg c Hs' (k a ρ') D → Q b H') : t σ H Q := by
  refine h ρ σ Hs H _ st ?_
  unfold runM at g
  cases e : m ρ with
  | bad =>
    rw [e] at g
    exact g
  | err er ρ' =>
    rw [e] at g
    exact fun cls od Hs' H' st' ex er => g cls od σ Hs' H' st' ex er
  | ok a ρ' =>
    rw [e] at g
    exact fun b Hs' H' st' ex p => h2 a b ρ' Hs' H' st' p (GoalS.mono ex g)
theorem evs_app {te : TE} {m : E} {i : Nat} (h : Ev K mg c te (pV K c) m) : EvS K mg c (tDrop (tBM K "list" rAppend (tVar i) (tCons te tNil))) (sApp i m) := by
  intro ρ σ Hs H D st g
  unfold sApp at g
  split at g
  · rename_i hL
    obtain ⟨l, xs, h1, h2⟩ := st.lstAt hL
    refine ⟨.ref l, h1, ty_list h2, run_at (t := te) (ev_val h) st g fun d v ρ' Hs' H' st' r g' => ?_⟩
    obtain ⟨l', k, k', e1, e2, e3, e4⟩ := evs_chg st' g'
    rw [h1] at e1
    cases e1
    cases k with
    | dic _ => cases e3
    | lst ds =>
      obtain ⟨ys, a, b⟩ := e2
      simp only [cApp] at e3
      split at e3
      · rename_i hl
        cases e3
        exact ⟨l, ys, v, rfl, rfl, a, Evl.sz_lt (by rw [b.length]; exact hl), e4 _ ⟨_, upd_same, b.append (.cons r .nil)⟩⟩
      · cases e3
  · exact g.elim
theorem evs_ext {te : TE} {m : E} {i : Nat} (h : Ev K mg c te (pV K c) m) : EvS K mg c (tDrop (tBM K "list" rExtend (tVar i) (tCons te tNil))) (sExt i m) := by
  intro ρ σ Hs H D st g
  unfold sExt at g
  split at g
  · rename_i hL
    obtain ⟨l, xs, h1, h2⟩ := st.lstAt hL
    refine ⟨.ref l, h1, ty_list h2, run_at (t := te) (ev_val h) st g fun d v ρ' Hs' H' st' r g' => ?_⟩
    cases r with
    | @lst a zs ds q1 q2 =>
      obtain ⟨l', k, k', e1, e2, e3, e4⟩ := evs_chg st' g'
      rw [h1] at e1
      cases e1
      cases k with
      | dic _ => cases e3
      | lst es =>
        obtain ⟨ys, a', b⟩ := e2
        simp only [cExt] at e3
        split at e3
        · rename_i hl
          cases e3
          exact ⟨l, a, ys, zs, rfl, rfl, a', st'.sub _ _ q1, Evl.sz_of (by rw [b.length, q2.length]; exact hl), e4 _ ⟨_, upd_same, b.append q2⟩⟩
        · cases e3
    | _ => exact g'.elim
  · exact g.elim
theorem evs_setI {tk tv : TE} {k v : E} {i : Nat} (hk : Ev K mg c tk (pV K c) k) (hv : Ev K mg c tv (pV K c) v) : EvS K mg c (tAsg tv (gSub (tVar i) tk rSetL)) (sSetI i k v) := by
  intro ρ σ Hs H D st g
  refine run_at (ev_val hv) st g fun d x ρ1 Hs1 H1 st1 r g1 => ?_
  split at g1
  · rename_i hC
    obtain ⟨l, h1⟩ := st1.contAt hC
    refine ⟨.ref l, h1, ?_⟩
    -- what is stored stays what it is
    refine (ev_val hk) ρ1 σ Hs1 H1 _ st1 ?_
    unfold runM at g1
    cases e : val k ρ1 with
    | bad =>
      simp only [e] at g1
      exact g1.elim
    | err er ρ' =>
      simp only [e] at g1
      exact fun cls od Hs' H' st' ex er => g1 cls od σ Hs' H' st' ex er
    | ok j ρ2 =>
      simp only [e] at g1
      intro y Hs2 H2 st2 ex p
      cases p with
      | int n =>
        obtain ⟨l', q, q', e1, e2, e3, e4⟩ := evs_chg st2 (GoalS.mono ex g1)
        rw [h1] at e1
        cases e1
        cases q with
        | dic _ => cases e3
        | lst ds =>
          obtain ⟨ys, a, b⟩ := e2
          simp only [cSetI, Option.map_eq_some_iff] at e3
          obtain ⟨jj, z1, z2⟩ := e3
          subst z2
          exact ⟨l, ys, n, jj, rfl, rfl, a, by rw [b.length]; exact z1, e4 _ ⟨_, upd_same, b.set jj (r.mono ex)⟩⟩
      | _ => exact g1.elim
  · exact g1.elim
theorem evs_putK {tk tv : TE} {k v : E} {i : Nat} (hk : Ev K mg c tk (pV K c) k) (hv : Ev K mg c tv (pV K c) v) : EvS K mg c (sDPut (tVar i) tk tv) (sPutK i k v) := by
  intro ρ σ Hs H D st g
  refine run_at (ev_val hv) st g fun d x ρ1 Hs1 H1 st1 r g1 => ?_
  split at g1
  · rename_i hC
    obtain ⟨l, h1⟩ := st1.contAt hC
    refine ⟨.ref l, h1, ?_⟩
    refine (ev_val hk) ρ1 σ Hs1 H1 _ st1 ?_
    unfold runM at g1
    cases e : val k ρ1 with
    | bad =>
      simp only [e] at g1
      exact g1.elim
    | err er ρ' =>
      simp only [e] at g1
      exact fun cls od Hs' H' st' ex er => g1 cls od σ Hs' H' st' ex er
    | ok j ρ2 =>
      simp only [e] at g1
      intro y Hs2 H2 st2 ex p
      obtain ⟨l', q, q', e1, e2, e3, e4⟩ := evs_chg st2 (GoalS.mono ex g1)
      rw [h1] at e1
      cases e1
      cases q with
      | lst _ => cases e3
      | dic ds =>
        obtain ⟨kvs, a, b⟩ := e2
        simp only [cPutK] at e3
        split at e3
        · rename_i hl
          simp only [Bool.and_eq_true, decide_eq_true_eq] at hl
          cases e3
          obtain ⟨kk, rfl, rfl⟩ := key_of p hl.1
          exact ⟨l, _, rfl, DPut.k a (Evl.sz_lt (by rw [b.length]; exact hl.2)), e4 _ ⟨_, upd_same, b.put kk (r.mono ex)⟩⟩
        · cases e3
  · exact g1.elim

/-! ### what is walked -/
structure ItD (K : PySem.W.Frag) (J : It) (Hs : Hp) (ds : List D) : Prop where
  ex : ∃ (G : Hp → Prop) (Y : Nat → Hp → V → Hp → Prop), Walk J ds.length G Y ∧ (∀ H', Ex Hs H' → G H') ∧ ∀ i H' x H'', i < ds.length → Ex Hs H' → Y i H' x H'' → ∃ d, ds[i]? = some d ∧
    ((H'' = H' ∧ R K Hs x d) ∨ ∃ T x1 x2 d1 d2, x = .ref T ∧ H' T = none ∧ H'' = upd H' T (.tup [x1, x2]) ∧ d = .tup [d1, d2] ∧ R K Hs x1 d1 ∧ R K Hs x2 d2)
def pI (K : PySem.W.Frag) : L2.St → List D → Env → Hp → Hp → It → Prop := fun _ ds _ Hs _ J => ItD K J Hs ds
abbrev tiOf (K : PySem.W.Frag) (mg : Str → Option Value) (c : Cxt) (m : M (List D)) : TI := wpOf K mg c (pI K) m
/-- what a turn gives -/
theorem StR.turn {ρ : Env} {σ : L2.St} {Hs Hs1 H H' : Hp} {x : V} {d : D} (st : StR K c ρ σ Hs1 H) (e : Ex Hs Hs1)
    (h : (H' = H ∧ R K Hs x d) ∨ ∃ T x1 x2 d1 d2, x = .ref T ∧ H T = none ∧ H' = upd H T (.tup [x1, x2]) ∧ d = .tup [d1, d2] ∧ R K Hs x1 d1 ∧ R K Hs x2 d2) : ∃ Hs2, StR K c ρ σ Hs2 H' ∧ Ex Hs1 Hs2 ∧ R K Hs2 x d := by
  rcases h with ⟨rfl, r⟩ | ⟨T, x1, x2, d1, d2, rfl, hT, rfl, rfl, r1, r2⟩
  · exact ⟨Hs1, st, Ex.refl _, r.mono e⟩
  · obtain ⟨st', ex⟩ := st.new (o := .tup [x1, x2]) hT
    exact ⟨_, st', ex, .tup (SqT.of upd_same) (.cons (r1.mono (e.trans ex)) (.cons (r2.mono (e.trans ex)) .nil))⟩
theorem ev_srcSeq {te : TE} {m : E} (h : Ev K mg c te (pV K c) m) : Ev K mg c (fun σ H Q => te σ H fun x H1 => (∃ a, x = .ref a ∧ (∃ xs, SqL K H1 a xs) ∧ Q (Itl K a) H1) ∨ ∃ a, x = .ref a ∧ (∃ xs, SqT K H1 a xs) ∧ Q (Itt K a) H1) (pI K) (srcSeq m) :=
  ev_bind (u := fun σ (x : V) H (Q : It → Hp → Prop) => (∃ a, x = .ref a ∧ (∃ xs, SqL K H a xs) ∧ Q (Itl K a) H) ∨ ∃ a, x = .ref a ∧ (∃ xs, SqT K H a xs) ∧ Q (Itt K a) H) (ev_val h) fun d v ρ σ Hs H Q st r g => by
    cases r with
    | @tup a xs ds h1 h2 =>
      refine .inr ⟨a, rfl, ⟨xs, ex_t st.sub h1⟩, g _ Hs H st (Ex.refl _) ⟨_, _, (by rw [← h2.length]; exact walk_tup (xs := xs)), fun H' e => ex_t e h1, fun i H' x H'' hi e y => ?_⟩⟩
      obtain ⟨rfl, y2⟩ := y
      obtain ⟨d, z1, z2⟩ := h2.getV y2
      exact ⟨d, z1, .inl ⟨rfl, z2⟩⟩
    | @lst a xs ds h1 h2 =>
      refine .inl ⟨a, rfl, ⟨xs, SqL.of (st.sub _ _ h1)⟩, g _ Hs H st (Ex.refl _) ⟨_, _, (by rw [← h2.length]; exact walk_list (xs := xs)), fun H' e => SqL.of (e _ _ h1), fun i H' x H'' hi e y => ?_⟩⟩
      obtain ⟨rfl, y2⟩ := y
      obtain ⟨d, z1, z2⟩ := h2.getV y2
      exact ⟨d, z1, .inl ⟨rfl, z2⟩⟩
    | _ => exact g.elim
theorem upTo_get (lo : Int) (n i : Nat) (h : i < n) : (upTo lo n)[i]? = some (.int (lo + (i : Int))) := by
  unfold upTo
  rw [List.getElem?_map, List.getElem?_range h]
  rfl
theorem upTo_len (lo : Int) (n : Nat) : (upTo lo n).length = n := by
  unfold upTo
  rw [List.length_map, List.length_range]
theorem it_range {lo : Int} {n : Nat} {Hs : Hp} : ItD K (Itr lo n) Hs (upTo lo n) := by
  refine ⟨_, _, (by rw [upTo_len]; exact walk_range), fun _ _ => trivial, fun i H' x H'' hi e y => ?_⟩
  rw [upTo_len] at hi
  obtain ⟨rfl, rfl⟩ := y
  exact ⟨_, upTo_get lo n i hi, .inl ⟨rfl, R.int _⟩⟩
theorem bigOk_iff {i : Int} (h : bigOk i = true) : -1000000000 ≤ i ∧ i ≤ 1000000000 := by
  simpa only [bigOk, Bool.and_eq_true, decide_eq_true_eq] using h
theorem ev_srcR1 {te : TE} {m : E} (h : Ev K mg c te (pV K c) m) : Ev K mg c (iRng1 (tCons te tNil)) (pI K) (srcR1 m) :=
  ev_bind (u := fun σ (x : V) H (Q : It → Hp → Prop) => ∃ j : Int, [x] = [.int j] ∧ -(2 ^ 62) ≤ j ∧ j < 2 ^ 62 ∧ Q (Itr 0 j.toNat) H) (ev_val h) fun d v ρ σ Hs H Q st r g => by
    cases r with
    | int j =>
      simp only at g
      split at g
      · rename_i hb
        obtain ⟨b1, b2⟩ := bigOk_iff hb
        exact ⟨j, rfl, by omega, by omega, g _ Hs H st (Ex.refl _) it_range⟩
      · exact g.elim
    | _ => exact g.elim
theorem ev_srcR2 {te tf : TE} {m n : E} (h : Ev K mg c te (pV K c) m) (h' : Ev K mg c tf (pV K c) n) : Ev K mg c (iRng2 (tCons te (tCons tf tNil))) (pI K) (srcR2 m n) :=
  ev_two (u := fun (x y : V) H (Q : It → Hp → Prop) => ∃ i j : Int, [x, y] = [.int i, .int j] ∧ (-(2 ^ 62) ≤ i ∧ i < 2 ^ 62 ∧ -(2 ^ 62) ≤ j ∧ j < 2 ^ 62) ∧ Q (Itr i (j - i).toNat) H) h h' fun a b va vb ρ σ Hs H Q st r1 r2 g => by
    cases r1 with
    | int i =>
      cases r2 with
      | int j =>
        simp only at g
        split at g
        · rename_i hb
          rw [Bool.and_eq_true] at hb
          obtain ⟨b1, b2⟩ := bigOk_iff hb.1
          obtain ⟨b3, b4⟩ := bigOk_iff hb.2
          exact ⟨i, j, rfl, ⟨by omega, by omega, by omega, by omega⟩, g _ Hs H st (Ex.refl _) it_range⟩
        · exact g.elim
      | _ => exact g.elim
    | _ => exact g.elim
theorem pairsN_len : ∀ (n : Nat) (ds : List D), (pairsN n ds).length = ds.length
  | _, [] => rfl
  | n, x :: r => by simp only [pairsN, List.length_cons, pairsN_len (n + 1) r]
theorem pairsN_get : ∀ (n : Nat) (ds : List D) (i : Nat) (d : D), ds[i]? = some d → (pairsN n ds)[i]? = some (.tup [.int ((n + i : Nat) : Int), d])
  | _, [], _, _, h => by simp at h
  | n, x :: r, 0, d, h => by
    simp at h
    subst h
    rfl
  | n, x :: r, i + 1, d, h => by
    have q := pairsN_get (n + 1) r i d (by simpa using h)
    simp only [pairsN, List.getElem?_cons_succ]
    rw [q, show n + 1 + i = n + (i + 1) by omega]
theorem ev_srcEnum {te : TE} {m : E} (h : Ev K mg c te (pV K c) m) : Ev K mg c (iEnum K (tCons te tNil)) (pI K) (srcEnum m) :=
  ev_bind (u := fun σ (x : V) H (Q : It → Hp → Prop) => ∃ a xs, [x] = [.ref a] ∧ SqL K H a xs ∧ Q (Ite K a) H) (ev_val h) fun d v ρ σ Hs H Q st r g => by
    cases r with
    | @lst a xs ds h1 h2 =>
      refine ⟨a, xs, rfl, SqL.of (st.sub _ _ h1), g _ Hs H st (Ex.refl _) ⟨_, _, (by rw [pairsN_len, ← h2.length]; exact walk_enum (xs := xs)), fun H' e => SqL.of (e _ _ h1), fun i H' x H'' hi e y => ?_⟩⟩
      obtain ⟨T, x1, x2, rfl, y2, rfl, y4, y5⟩ := y
      obtain ⟨d, z1, z2⟩ := h2.getV y5
      cases y4
      refine ⟨_, pairsN_get 0 ds i d z1, .inr ⟨T, _, _, _, d, rfl, y2, rfl, rfl, ?_, z2⟩⟩
      rw [Nat.zero_add]
      exact R.int _
    | _ => exact g.elim

/-! ### for -/
theorem evs_for {wi : TI} {g : TG} {tb : TS} {src : M (List D)} {tg : Tg} {is : List Nat} {b : S} (hw : Ev K mg c wi (pI K) src) (hg : EvG K c g tg is) (hb : EvS K mg c tb b) : EvS K mg c (tFor wi g tb) (sFor src tg b) := by
  intro ρ σ Hs H D st gl
  refine run_at hw st gl fun ds J ρ1 Hs1 H1 st1 it g1 => ?_
  obtain ⟨G, Y, w, hG, hY⟩ := it.ex
  refine for_it w (fun i σ' H' => ∃ ρ' Hs', StR K c ρ' σ' Hs' H' ∧ Ex Hs1 Hs' ∧ GoalS K mg c Hs' (loop tg b (ds.drop i) ρ') D) ⟨ρ1, Hs1, st1, Ex.refl _, by rw [List.drop_zero]; exact g1⟩ (fun i σ' H' _ ⟨ρ', Hs', s', e', _⟩ => hG _ (e'.trans s'.sub)) ?_ ?_
  · rintro i x σ' H2 H3 hi ⟨ρ', Hs', s', e', g'⟩ y
    obtain ⟨d, h1, h2⟩ := hY i H2 x H3 hi (e'.trans s'.sub) y
    obtain ⟨Hs2, s2, e2, r2⟩ := s'.turn e' h2
    have hd : ds.drop i = d :: ds.drop (i + 1) := by
      obtain ⟨hl, hx⟩ := List.getElem?_eq_some_iff.mp h1
      rw [List.drop_eq_getElem_cons hl, hx]
    rw [hd] at g'
    simp only [loop] at g'
    cases q : tg d ρ' with
    | none =>
      simp only [q] at g'
      exact g'.elim
    | some ρ2 =>
      simp only [q] at g'
      refine hg ρ' σ' Hs2 H3 x d ρ2 _ s2 r2 q fun σ2 s3 _ _ => hb ρ2 σ2 Hs2 H3 _ s3 ?_
      have e3 : Ex Hs1 Hs2 := e'.trans e2
      cases z : b ρ2 with
      | bad =>
        simp only [z] at g'
        exact g'.elim
      | err er ρ3 =>
        simp only [z] at g'
        exact GoalS.mono e2 g'
      | nx ρ3 =>
        simp only [z] at g'
        exact fun σ4 Hs4 H4 s4 e4 => ⟨ρ3, Hs4, s4, e3.trans e4, GoalS.mono (e2.trans e4) g'⟩
      | ct ρ3 =>
        simp only [z] at g'
        exact fun σ4 Hs4 H4 s4 e4 => ⟨ρ3, Hs4, s4, e3.trans e4, GoalS.mono (e2.trans e4) g'⟩
      | bk ρ3 =>
        simp only [z] at g'
        exact fun σ4 Hs4 H4 s4 e4 => g' σ4 Hs4 H4 s4 (e2.trans e4)
      | rt r ρ3 =>
        simp only [z] at g'
        exact GoalS.mono e2 g'
  · rintro σ' H2 ⟨ρ', Hs', s', e', g'⟩
    rw [List.drop_length] at g'
    exact g' σ' Hs' H2 s' (Ex.refl _)
theorem evs_while {tt : TT} {tb : TS} {t : T} {b : S} (n : Nat) (ht : Ev K mg c tt pB t) (hb : EvS K mg c tb b) : EvS K mg c (tWhile tt tb) (wh t b n) := by
  intro ρ σ Hs H D st gl
  refine ⟨fun m σ' H' => ∃ ρ' Hs', StR K c ρ' σ' Hs' H' ∧ GoalS K mg c Hs' (wh t b m ρ') D, ⟨n, ρ, Hs, st, gl⟩, fun m σ' H' ⟨ρ', Hs', s', g'⟩ => ?_⟩
  cases m with
  | zero => exact g'.elim
  | succ m =>
    simp only [wh] at g'
    refine ht ρ' σ' Hs' H' _ s' ?_
    cases q : t ρ' with
    | bad =>
      simp only [q] at g'
      exact g'
    | err er ρ2 =>
      simp only [q] at g'
      exact fun cls od Hs2 H2 s2 e2 er => g' cls od σ' Hs2 H2 s2 e2 er
    | ok k ρ2 =>
      cases k with
      | false =>
        simp only [q] at g'
        intro k Hs2 H2 s2 e2 p
        obtain rfl : k = false := p
        exact g' σ' Hs2 H2 s2 e2
      | true =>
        simp only [q] at g'
        intro k Hs2 H2 s2 e2 p
        obtain rfl : k = true := p
        refine ⟨fun σ3 H3 => ∃ ρ3 Hs3, StR K c ρ3 σ3 Hs3 H3 ∧ GoalS K mg c Hs3 (wh t b m ρ3) D, fun σ3 H3 h => ⟨m, Nat.lt_succ_self m, h⟩, hb ρ2 σ' Hs2 H2 _ s2 ?_⟩
        cases z : b ρ2 with
        | bad =>
          simp only [z] at g'
          exact g'
        | err er ρ3 =>
          simp only [z] at g'
          exact GoalS.mono e2 g'
        | nx ρ3 =>
          simp only [z] at g'
          exact fun σ4 Hs4 H4 s4 e4 => ⟨ρ3, Hs4, s4, GoalS.mono (e2.trans e4) g'⟩
        | ct ρ3 =>
          simp only [z] at g'
          exact fun σ4 Hs4 H4 s4 e4 => ⟨ρ3, Hs4, s4, GoalS.mono (e2.trans e4) g'⟩
        | bk ρ3 =>
          simp only [z] at g'
          exact fun σ4 Hs4 H4 s4 e4 => g' σ4 Hs4 H4 s4 (e2.trans e4)
        | rt r ρ3 =>
          simp only [z] at g'
          exact GoalS.mono e2 g'
end
end Dn
set_option Elab.async false
set_option linter.all false
set_option maxRecDepth 100000
set_option maxHeartbeats 4000000
/-! Comprehensions, defs and their calls. -/
namespace Dn
open PySem L2
open Evl (Ex ex_l ex_t fresh_back)
theorem wipeE_get (ρ : Env) : ∀ (own : List Nat) (j : Nat), (wipeE ρ own)[j]? = if j ∈ own then (ρ[j]?).map (fun _ => Slot.un) else ρ[j]?
  | [], j => by simp [wipeE]
  | i :: r, j => by
    simp only [wipeE]
    by_cases e : j = i
    · subst e
      rw [List.getElem?_set]
      have q := wipeE_get ρ r j
      have hl : (wipeE ρ r)[j]?.isSome = ρ[j]?.isSome := by
        rw [q]
        split
        · rw [Option.isSome_map]
        · rfl
      simp only [if_true, List.mem_cons, true_or]
      cases z : ρ[j]? with
      | none =>
        rw [z] at hl
        have : ¬ j < (wipeE ρ r).length := fun h => by
          rw [List.getElem?_eq_getElem h] at hl
          cases hl
        rw [if_neg this]
        rfl
      | some s =>
        rw [z] at hl
        have : j < (wipeE ρ r).length := by
          cases y : (wipeE ρ r)[j]? with
          | none =>
            rw [y] at hl
            cases hl
          | some _ => exact lt_of_get y
        rw [if_pos this]
        rfl
    · rw [List.getElem?_set_ne (Ne.symm e), wipeE_get ρ r j]
      simp only [List.mem_cons, e, false_or]
theorem wipe_get (σ : L2.St) : ∀ (own : List Nat) (j : Nat), ¬ j ∈ own → (wipe σ own)[j]? = σ[j]?
  | [], j, _ => rfl
  | i :: r, j, h => by
    have e : j ≠ i := fun z => h (by rw [z]; exact List.mem_cons_self)
    unfold wipe
    rw [List.getElem?_set_ne (Ne.symm e)]
    exact wipe_get σ r j fun z => h (List.mem_cons_of_mem _ z)
theorem wipe_in (σ : L2.St) : ∀ (own : List Nat) (j : Nat), j ∈ own → j < σ.length → (wipe σ own)[j]? = some none
  | i :: r, j, h, hl => by
    unfold wipe
    by_cases e : j = i
    · subst e
      rw [List.getElem?_set_self (by rw [wipe_length]; exact hl)]
    · rw [List.getElem?_set_ne (Ne.symm e)]
      rcases List.mem_cons.mp h with z | z
      · exact absurd z e
      · exact wipe_in σ r j z hl
theorem wipe_same {σ σ' : L2.St} {own : List Nat} (hl : σ'.length = σ.length) (h : ∀ j, ¬ j ∈ own → σ'[j]? = σ[j]?) : wipe σ' own = wipe σ own := by
  apply List.ext_getElem?
  intro j
  by_cases e : j ∈ own
  · by_cases q : j < σ.length
    · rw [wipe_in σ own j e q, wipe_in σ' own j e (by omega)]
    · rw [List.getElem?_eq_none (by rw [wipe_length]; omega), List.getElem?_eq_none (by rw [wipe_length]; omega)]
  · rw [wipe_get _ _ _ e, wipe_get _ _ _ e, h j e]
theorem wipe_wipe (σ : L2.St) (own : List Nat) : wipe (wipe σ own) own = wipe σ own := wipe_same (wipe_length σ own) fun j h => wipe_get σ own j h
theorem backE_len (ρ0 ρ : Env) : ∀ own : List Nat, (backE ρ0 ρ own).length = ρ.length
  | [] => rfl
  | i :: r => by simp only [backE, List.length_set, backE_len ρ0 ρ r]
theorem wipeE_len (ρ : Env) : ∀ own : List Nat, (wipeE ρ own).length = ρ.length
  | [] => rfl
  | i :: r => by simp only [wipeE, List.length_set, wipeE_len ρ r]
theorem backE_get (ρ0 ρ : Env) : ∀ (own : List Nat) (j : Nat) (s : Slot), (backE ρ0 ρ own)[j]? = some s → (j ∈ own ∧ s = backS ρ0[j]?) ∨ (¬ j ∈ own ∧ ρ[j]? = some s)
  | [], j, s, h => .inr ⟨by simp, h⟩
  | i :: r, j, s, h => by
    simp only [backE] at h
    rcases get_set h with ⟨rfl, e⟩ | ⟨e, e'⟩
    · exact .inl ⟨List.mem_cons_self, e⟩
    · rcases backE_get ρ0 ρ r j s e' with ⟨a, b⟩ | ⟨a, b⟩
      · exact .inl ⟨List.mem_cons_of_mem _ a, b⟩
      · exact .inr ⟨fun z => (List.mem_cons.mp z).elim e a, b⟩
section
variable {K : PySem.W.Frag} {mg : Str → Option Value} {c : Cxt} {ρ : Env} {σ : L2.St} {Hs H : Hp}
theorem StR.wipe (st : StR K c ρ σ Hs H) (own : List Nat) : StR K c (wipeE ρ own) (L2.wipe σ own) Hs H := by
  have gE : ∀ (j : Nat) s, s ≠ .un → (wipeE ρ own)[j]? = some s → ¬ j ∈ own ∧ ρ[j]? = some s := fun j s hs h => by
    rw [wipeE_get] at h
    split at h
    · rw [Option.map_eq_some_iff] at h
      obtain ⟨_, _, z⟩ := h
      exact absurd z.symm hs
    · exact ⟨by assumption, h⟩
  refine ⟨st.sub, st.old, st.keep, st.live, st.hs, by rw [wipe_length, wipeE_len]; exact st.len, fun j d h => ?_, fun j k h => ?_, fun j k h => ?_, fun j m l sj sm hn hj hm cj cm q1 q2 => ?_⟩
  · obtain ⟨a, b⟩ := gE j (.val d) (fun z => nomatch z) h
    rw [wipe_get _ _ _ a]
    exact st.val j d b
  · obtain ⟨a, b⟩ := gE j (.own k) (fun z => nomatch z) h
    rw [wipe_get _ _ _ a]
    exact st.own j k b
  · obtain ⟨a, b⟩ := gE j (.bor k) (fun z => nomatch z) h
    rw [wipe_get _ _ _ a]
    exact st.bor j k b
  · obtain ⟨a, b⟩ := gE j _ (fun z => by subst z; cases cj) hj
    obtain ⟨a', b'⟩ := gE m _ (fun z => by subst z; cases cm) hm
    rw [wipe_get _ _ _ a] at q1
    rw [wipe_get _ _ _ a'] at q2
    exact st.apart j m l sj sm hn b b' cj cm q1 q2
/-- an object at D that no slot knows, and that the code within does not touch -/
def Cxt.withD (c : Cxt) (Dl : Addr) (o : HO) : Cxt :=
  ⟨c.vs, c.Hs0, fun a => if a = Dl then some o else c.H0 a, c.B, fun _ _ _ => False, fun i l h => by
    by_cases e : l = Dl
    · rw [if_pos e]
      exact fun z => nomatch z
    · rw [if_neg e]
      exact c.hB i l h⟩
def NoD (ρ : Env) (σ : L2.St) (Dl : Addr) : Prop := ∀ (i : Nat) s, ρ[i]? = some s → s.isC = true → σ[i]? ≠ some (some (.ref Dl))
theorem Cxt.withD_H0 {Dl a : Addr} {o : HO} : (c.withD Dl o).H0 a = if a = Dl then some o else c.H0 a := rfl
theorem StR.toD {Dl : Addr} {o : HO} (st : StR K c ρ σ Hs H) (h1 : H Dl = some o) (h2 : Hs Dl = none) (h4 : NoD ρ σ Dl) : StR K (c.withD Dl o) ρ σ Hs H := by
  refine ⟨st.sub, st.old, fun a u e b => ?_, fun a e => ?_, fun a e1 e2 => ?_, st.len, st.val, fun i k e => ?_, st.bor, st.apart⟩
  · rw [Cxt.withD_H0] at e
    split at e
    · rename_i z
      subst z
      rw [h1]
      exact e
    · exact st.keep a u e b
  · rw [Cxt.withD_H0]
    split
    · rename_i z
      subst z
      rw [h1] at e
      cases e
    · exact st.live a e
  · rw [Cxt.withD_H0] at e2
    split at e2
    · rename_i z
      subst z
      exact h2
    · exact st.hs a e1 e2
  · obtain ⟨l, a1, a2, a3, a4⟩ := st.own i k e
    refine ⟨l, a1, a2, a3, ?_⟩
    rw [Cxt.withD_H0, if_neg fun z => h4 i _ e rfl (by rw [a1, z])]
    exact a4
theorem StR.fromD {Dl : Addr} {o : HO} (st : StR K (c.withD Dl o) ρ σ Hs H) (h0 : c.H0 Dl = none) (h0s : c.Hs0 Dl = none) : StR K c ρ σ Hs H ∧ H Dl = some o ∧ Hs Dl = none ∧ NoD ρ σ Dl := by
  have nB : ∀ i, c.B i ≠ some Dl := fun i z => c.hB i Dl z h0
  have hD : (c.withD Dl o).H0 Dl = some o := by rw [Cxt.withD_H0, if_pos rfl]
  refine ⟨⟨st.sub, st.old, fun a u e b => ?_, fun a e => ?_, fun a e1 e2 => ?_, st.len, st.val, fun i k e => ?_, st.bor, st.apart⟩, st.keep Dl o hD nB, st.hs Dl h0s (by rw [hD]; exact fun z => nomatch z), fun i s e hc z => ?_⟩
  · refine st.keep a u ?_ b
    rw [Cxt.withD_H0, if_neg fun z => by rw [z, h0] at e; cases e]
    exact e
  · have q := st.live a e
    rw [Cxt.withD_H0] at q
    split at q
    · cases q
    · exact q
  · refine st.hs a e1 ?_
    rw [Cxt.withD_H0]
    split
    · exact fun z => nomatch z
    · exact e2
  · obtain ⟨l, a1, a2, a3, a4⟩ := st.own i k e
    refine ⟨l, a1, a2, a3, ?_⟩
    rw [Cxt.withD_H0] at a4
    split at a4
    · cases a4
    · exact a4
  · cases s with
    | un => cases hc
    | val d => cases hc
    | own k =>
      obtain ⟨l, a1, a2, a3, a4⟩ := st.own i k e
      rw [a1] at z
      cases z
      rw [hD] at a4
      cases a4
    | bor k =>
      obtain ⟨l, a1, a2, a3, a4, a5⟩ := st.bor i k e
      rw [a1] at z
      cases z
      exact nB i a4
/-- an object that no slot knows is written -/
theorem StR.wr {Dl : Addr} {o u : HO} (st : StR K c ρ σ Hs H) (h1 : H Dl = some u) (h2 : Hs Dl = none) (h3 : c.H0 Dl = none) (h4 : NoD ρ σ Dl) : StR K c ρ σ Hs (upd H Dl o) := by
  refine ⟨fun a v e => ?_, st.old, fun a v e b => ?_, fun a e => ?_, st.hs, st.len, st.val, fun i k e => ?_, fun i k e => ?_, st.apart⟩
  · rw [upd_ne fun z => by rw [z, h2] at e; cases e]
    exact st.sub _ _ e
  · rw [upd_ne fun z => by rw [z, h3] at e; cases e]
    exact st.keep a v e b
  · by_cases q : a = Dl
    · subst q
      exact h3
    · rw [upd_ne q] at e
      exact st.live a e
  · obtain ⟨l, a1, a2, a3, a4⟩ := st.own i k e
    exact ⟨l, a1, a2.mono (Ex.refl _) (upd_ne fun z => h4 i _ e rfl (by rw [a1, z])), a3, a4⟩
  · obtain ⟨l, a1, a2, a3, a4⟩ := st.bor i k e
    exact ⟨l, a1, a2.mono (Ex.refl _) (upd_ne fun z => h4 i _ e rfl (by rw [a1, z])), a3, a4⟩
abbrev noErr : XK := fun _ _ _ => False
/-- readings within a comprehension: for some entry from which no error leaves -/
def tIn (K : PySem.W.Frag) (mg : Str → Option Value) (t : T) : TT := fun σ H Q => ∃ c' : Cxt, c'.E = noErr ∧ ttOf K mg c' t σ H Q
def eIn (K : PySem.W.Frag) (mg : Str → Option Value) (e : E) : TE := fun σ H Q => ∃ c' : Cxt, c'.E = noErr ∧ tfOf K mg c' (val e) σ H Q
theorem ev_lc {wi : TI} {g : TG} {src : M (List D)} {tg : Tg} {is own : List Nat} {t : T} {e : E} (hw : Ev K mg c wi (pI K) src) (hg : ∀ c' : Cxt, EvG K c' g tg is) (hsub : ∀ i ∈ is, i ∈ own) :
    Ev K mg c (tLc wi g (tIn K mg t) (eIn K mg e) own) (pV K c) (eLc own src tg t e) := by
  refine ev_bind (u := fun σ (J : It) H1 (Q : VK) => ∀ Dl, H1 Dl = none → ∃ W : Nat → Nat → Hp → Prop, (∃ m, W 0 m (upd H1 Dl (.lst []))) ∧ ∀ i m H, W i m H →
    (J.stop i H ∧ Q (.ref Dl) H) ∨ (J.go i H ∧ ∃ Nx : Hp → Prop, (∀ H', Nx H' → ∃ m', m' < m ∧ W (i + 1) m' H') ∧ ∀ x H', J.yld i H x H' → g x (L2.wipe σ own) H' fun σ2 H2 => L2.wipe σ2 own = L2.wipe σ own ∧ tIn K mg t σ2 H2 fun b H3 =>
      if b = true then eIn K mg e σ2 H3 fun y H4 => ∃ acc, H4 Dl = some (.lst acc) ∧ acc.length < sizeLine ∧ Nx (upd H4 Dl (.lst (acc ++ [y]))) else Nx H3)) hw fun ds J ρ1 σ Hs1 H1 Q st1 it g1 Dl hDl => ?_
  obtain ⟨G, Y, w, hG, hY⟩ := it.ex
  have hD0 : c.H0 Dl = none := st1.live Dl hDl
  have hDs : Hs1 Dl = none := fresh_back st1.sub hDl
  have hDs0 : c.Hs0 Dl = none := fresh_back st1.old hDs
  cases hcmp : comp own tg t e ds [] ρ1 with
  | bad =>
    simp only [hcmp] at g1
    exact g1.elim
  | err er ρ' =>
    simp only [hcmp] at g1
    exact g1.elim
  | ok ys ρf =>
    simp only [hcmp] at g1
    refine lc_it w (fun i H' => ∃ acc accV ρ' Hs', StR K c (wipeE ρ' own) (L2.wipe σ own) Hs' H' ∧ Ex Hs1 Hs' ∧ H' Dl = some (.lst accV) ∧ Rs K Hs' accV acc ∧ Hs' Dl = none ∧ NoD (wipeE ρ' own) (L2.wipe σ own) Dl ∧ comp own tg t e (ds.drop i) acc ρ' = .ok ys ρf)
      ⟨[], [], ρ1, Hs1, (st1.newO hDl).wipe own, Ex.refl _, upd_same, .nil, hDs, fun i s hs hc z => ?_, by rw [List.drop_zero]; exact hcmp⟩ (fun i H' _ ⟨acc, accV, ρ', Hs', s', e', _⟩ => hG _ (e'.trans s'.sub)) ?_ ?_
    · obtain ⟨l, k, _, q1, q2, _⟩ := (st1.wipe own).cont hs hc
      rw [q1] at z
      cases z
      obtain ⟨o, ho⟩ := q2.there
      rw [hDl] at ho
      cases ho
    · rintro i x H2 H3 hi ⟨acc, accV, ρ', Hs', s', e', hD, rs, hn, nd, hc⟩ y
      obtain ⟨d, h1, h2⟩ := hY i H2 x H3 hi (e'.trans s'.sub) y
      obtain ⟨Hs2, s2, e2, r2⟩ := (s'.toD hD hn nd).turn e' h2
      have hd : ds.drop i = d :: ds.drop (i + 1) := by
        obtain ⟨hl, hx⟩ := List.getElem?_eq_some_iff.mp h1
        rw [List.drop_eq_getElem_cons hl, hx]
      rw [hd] at hc
      simp only [comp] at hc
      cases q : tg d (wipeE ρ' own) with
      | none =>
        simp only [q] at hc
        cases hc
      | some ρ2 =>
        simp only [q] at hc
        refine hg _ (wipeE ρ' own) (L2.wipe σ own) Hs2 H3 x d ρ2 _ s2 r2 q fun σ2 s3 hj hl2 => ?_
        have hw2 : L2.wipe σ2 own = L2.wipe σ own := by
          rw [wipe_same (σ := L2.wipe σ own) hl2 fun j hj' => hj j fun z => hj' (hsub j z), wipe_wipe]
        refine ⟨hw2, c.withD Dl (.lst accV), rfl, ρ2, Hs2, s3, ?_⟩
        cases z : t ρ2 with
        | bad =>
          simp only [z] at hc
          cases hc
        | err er ρ3 =>
          simp only [z] at hc
          cases hc
        | ok b ρ3 =>
          intro b' Hs3 H4 s4 e4 p4
          obtain rfl : b' = b := p4
          cases b' with
          | false =>
            simp only [z] at hc
            rw [if_neg Bool.false_ne_true]
            obtain ⟨s5, q1, q2, q3⟩ := s4.fromD hD0 hDs0
            have s6 := s4.wipe own
            rw [hw2] at s6
            obtain ⟨s7, _, _, q4⟩ := s6.fromD hD0 hDs0
            exact ⟨acc, accV, ρ3, Hs3, s7, (e'.trans e2).trans e4, q1, rs.mono (e2.trans e4), q2, q4, hc⟩
          | true =>
            simp only [z] at hc
            rw [if_pos rfl]
            refine ⟨c.withD Dl (.lst accV), rfl, ρ3, Hs3, s4, ?_⟩
            cases ze : val e ρ3 with
            | bad =>
              simp only [ze] at hc
              cases hc
            | err er ρ4 =>
              simp only [ze] at hc
              cases hc
            | ok yv ρ4 =>
              simp only [ze] at hc
              split at hc
              · rename_i hl
                intro v Hs5 H5 s5 e5 r5
                obtain ⟨_, q1, q2, _⟩ := s5.fromD hD0 hDs0
                have s6 := s5.wipe own
                rw [hw2] at s6
                obtain ⟨s7, _, _, q4⟩ := s6.fromD hD0 hDs0
                refine ⟨accV, q1, Evl.sz_lt (by rw [rs.length]; exact hl), acc ++ [yv], accV ++ [v], ρ4, Hs5, s7.wr q1 q2 hD0 q4, ((e'.trans e2).trans e4).trans e5, upd_same, (rs.mono ((e2.trans e4).trans e5)).append (.cons r5 .nil), q2, q4, hc⟩
              · cases hc
    · rintro H2 ⟨acc, accV, ρ', Hs', s', e', hD, rs, hn, nd, hc⟩
      rw [List.drop_length] at hc
      simp only [comp] at hc
      cases hc
      have hst : StR K c (backE ρ1 ρf own) σ Hs' H2 := by
        have hl : σ.length = ρf.length := by
          have a := s'.len
          rw [wipe_length, wipeE_len] at a
          exact a
        have out : ∀ (j : Nat) s, ¬ j ∈ own → ρf[j]? = some s → (wipeE ρf own)[j]? = some s ∧ (L2.wipe σ own)[j]? = σ[j]? := fun j s hj h => ⟨by rw [wipeE_get, if_neg hj]; exact h, wipe_get _ _ _ hj⟩
        refine ⟨s'.sub, s'.old, s'.keep, s'.live, s'.hs, by rw [backE_len]; exact hl, fun j d h => ?_, fun j k h => ?_, fun j k h => ?_, fun j m l sj sm hn' hj hm cj cm q1 q2 => ?_⟩
        · rcases backE_get _ _ _ _ _ h with ⟨a, b⟩ | ⟨a, b⟩
          · cases z : ρ1[j]? with
            | none =>
              rw [z] at b
              cases b
            | some sl =>
              rw [z] at b
              cases sl with
              | val d' =>
                cases b
                obtain ⟨v, v1, v2⟩ := st1.val j d z
                exact ⟨v, v1, v2.mono e'⟩
              | _ => cases b
          · obtain ⟨o1, o2⟩ := out j _ a b
            rw [← o2]
            exact s'.val j d o1
        · rcases backE_get _ _ _ _ _ h with ⟨a, b⟩ | ⟨a, b⟩
          · cases z : ρ1[j]? with
            | none =>
              rw [z] at b
              cases b
            | some sl =>
              rw [z] at b
              cases sl <;> cases b
          · obtain ⟨o1, o2⟩ := out j _ a b
            rw [← o2]
            exact s'.own j k o1
        · rcases backE_get _ _ _ _ _ h with ⟨a, b⟩ | ⟨a, b⟩
          · cases z : ρ1[j]? with
            | none =>
              rw [z] at b
              cases b
            | some sl =>
              rw [z] at b
              cases sl <;> cases b
          · obtain ⟨o1, o2⟩ := out j _ a b
            rw [← o2]
            exact s'.bor j k o1
        · have ic : ∀ (j : Nat) s, (backE ρ1 ρf own)[j]? = some s → s.isC = true → ¬ j ∈ own ∧ ρf[j]? = some s := fun j s h hc => by
            rcases backE_get _ _ _ _ _ h with ⟨a, b⟩ | ⟨a, b⟩
            · subst b
              cases z : ρ1[j]? with
              | none =>
                rw [z] at hc
                cases hc
              | some sl =>
                rw [z] at hc
                cases sl <;> cases hc
            · exact ⟨a, b⟩
          obtain ⟨a1, a2⟩ := ic j sj hj cj
          obtain ⟨b1, b2⟩ := ic m sm hm cm
          obtain ⟨o1, o2⟩ := out j _ a1 a2
          obtain ⟨o3, o4⟩ := out m _ b1 b2
          exact s'.apart j m l sj sm hn' o1 o3 cj cm (by rw [o2]; exact q1) (by rw [o4]; exact q2)
      refine g1 (.ref Dl) Hs' H2 hst e' ⟨Dl, rfl, ⟨accV, hD, rs⟩, hn, hD0, fun j s h hc z => ?_⟩
      rcases backE_get _ _ _ _ _ h with ⟨a, b⟩ | ⟨a, b⟩
      · subst b
        cases z : ρ1[j]? with
        | none =>
          rw [z] at hc
          cases hc
        | some sl =>
          rw [z] at hc
          cases sl <;> cases hc
      · exact nd j s (by rw [wipeE_get, if_neg a]; exact b) hc (by rw [wipe_get _ _ _ a]; exact z)
end
end Dn
set_option Elab.async false
set_option linter.all false
set_option maxRecDepth 100000
set_option maxHeartbeats 4000000
/-! Defs and their calls. -/
namespace Dn
open PySem L2
open Evl (Ex ex_l ex_t fresh_back)
inductive Ra (K : PySem.W.Frag) (Hs : Hp) (σ : L2.St) : List (D ⊕ Nat) → List V → Prop
  | nil : Ra K Hs σ [] []
  | val {d : D} {v : V} {xs : List (D ⊕ Nat)} {vs : List V} : R K Hs v d → Ra K Hs σ xs vs → Ra K Hs σ (.inl d :: xs) (v :: vs)
  | bor {i : Nat} {v : V} {xs : List (D ⊕ Nat)} {vs : List V} : σ[i]? = some (some v) → Ra K Hs σ xs vs → Ra K Hs σ (.inr i :: xs) (v :: vs)
section
variable {K : PySem.W.Frag} {Hs Hs' : Hp} {σ : L2.St}
theorem Ra.mono (e : Ex Hs Hs') {xs : List (D ⊕ Nat)} {vs : List V} (h : Ra K Hs σ xs vs) : Ra K Hs' σ xs vs := by
  induction h with
  | nil => exact .nil
  | val r _ ih => exact .val (r.mono e) ih
  | bor r _ ih => exact .bor r ih
theorem Ra.length {xs : List (D ⊕ Nat)} {vs : List V} (h : Ra K Hs σ xs vs) : vs.length = xs.length := by
  induction h with
  | nil => rfl
  | val r _ ih => simp only [List.length_cons, ih]
  | bor r _ ih => simp only [List.length_cons, ih]
theorem Ra.at_l {xs : List (D ⊕ Nat)} {vs : List V} (h : Ra K Hs σ xs vs) : ∀ {j : Nat} {d : D}, xs[j]? = some (.inl d) → ∃ v, vs[j]? = some v ∧ R K Hs v d := by
  induction h with
  | nil => intro j d h; simp at h
  | val r _ ih =>
    intro j d h
    cases j with
    | zero =>
      simp at h
      subst h
      exact ⟨_, rfl, r⟩
    | succ j => exact ih (j := j) (by simpa using h)
  | bor r _ ih =>
    intro j d h
    cases j with
    | zero => simp at h
    | succ j => exact ih (j := j) (by simpa using h)
theorem Ra.at_r {xs : List (D ⊕ Nat)} {vs : List V} (h : Ra K Hs σ xs vs) : ∀ {j i : Nat}, xs[j]? = some (.inr i) → ∃ v, vs[j]? = some v ∧ σ[i]? = some (some v) := by
  induction h with
  | nil => intro j d h; simp at h
  | val r _ ih =>
    intro j d h
    cases j with
    | zero => simp at h
    | succ j => exact ih (j := j) (by simpa using h)
  | bor r _ ih =>
    intro j d h
    cases j with
    | zero =>
      simp at h
      subst h
      exact ⟨_, rfl, r⟩
    | succ j => exact ih (j := j) (by simpa using h)
end
def pA (K : PySem.W.Frag) : L2.St → List (D ⊕ Nat) → Env → Hp → Hp → List V → Prop := fun σ xs _ Hs _ vs => Ra K Hs σ xs vs
section
variable {K : PySem.W.Frag} {mg : Str → Option Value} {c : Cxt}
theorem ev_anil : Ev K mg c tNil (pA K) (argv []) := fun ρ σ Hs H Q st g => g [] Hs H st (Ex.refl _) .nil
theorem ev_aval {te : TE} {tr : TA} {m : E} {as : List Ar} (h : Ev K mg c te (pV K c) m) (hr : Ev K mg c tr (pA K) (argv as)) : Ev K mg c (tCons te tr) (pA K) (argv (.v m :: as)) := by
  refine ev_bind (u := fun σ x H Q => tr σ H fun xs H2 => Q (x :: xs) H2) (ev_val h) fun x vx ρ σ Hs H Q st r g => ?_
  refine hr ρ σ Hs H (fun xs H2 => Q (vx :: xs) H2) st ?_
  unfold bind at g
  cases e : argv as ρ with
  | bad =>
    rw [e] at g
    exact g
  | err er ρ' =>
    rw [e] at g
    exact g
  | ok ys ρ' =>
    rw [e] at g
    exact fun vs Hs' H' st' ex p => g (vx :: vs) Hs' H' st' ex (.val (r.mono ex) p)
theorem ev_abor {tr : TA} {i : Nat} {as : List Ar} (hr : Ev K mg c tr (pA K) (argv as)) : Ev K mg c (tCons (tVar i) tr) (pA K) (argv (.b i :: as)) := by
  intro ρ σ Hs H Q st g
  unfold argv at g
  split at g
  · rename_i hC
    obtain ⟨l, h1⟩ := st.contAt hC
    refine ⟨.ref l, h1, hr ρ σ Hs H (fun xs H2 => Q (.ref l :: xs) H2) st ?_⟩
    unfold bind at g
    cases e : argv as ρ with
    | bad =>
      rw [e] at g
      exact g
    | err er ρ' =>
      rw [e] at g
      exact g
    | ok ys ρ' =>
      rw [e] at g
      exact fun vs Hs' H' st' ex p => g (.ref l :: vs) Hs' H' st' ex (.bor h1 p)
  · exact g.elim

theorem lend_len {ρ : Env} : ∀ {xs : List (D ⊕ Nat)} {sl : List Slot}, lend ρ xs = some sl → sl.length = xs.length
  | [], _, h => by
    cases h
    rfl
  | .inl d :: r, _, h => by
    simp only [lend, Option.map_eq_some_iff] at h
    obtain ⟨t, h1, rfl⟩ := h
    simp only [List.length_cons, lend_len h1]
  | .inr i :: r, _, h => by
    simp only [lend] at h
    split at h
    · rw [Option.map_eq_some_iff] at h
      obtain ⟨t, h1, rfl⟩ := h
      simp only [List.length_cons, lend_len h1]
    · rw [Option.map_eq_some_iff] at h
      obtain ⟨t, h1, rfl⟩ := h
      simp only [List.length_cons, lend_len h1]
    · cases h
/-- what a lent list of slots says -/
theorem lend_at {ρ : Env} : ∀ {xs : List (D ⊕ Nat)} {sl : List Slot} {j : Nat} {s : Slot}, lend ρ xs = some sl → sl[j]? = some s → (∃ d, s = .val d ∧ xs[j]? = some (.inl d)) ∨ ∃ i k, s = .bor k ∧ xs[j]? = some (.inr i) ∧ (ρ[i]? = some (.own k) ∨ ρ[i]? = some (.bor k))
  | [], _, j, s, h, q => by
    cases h
    simp at q
  | .inl d :: r, _, j, s, h, q => by
    simp only [lend, Option.map_eq_some_iff] at h
    obtain ⟨t, h1, rfl⟩ := h
    cases j with
    | zero =>
      simp at q
      exact .inl ⟨d, q.symm, rfl⟩
    | succ j => exact lend_at (j := j) h1 (by simpa using q)
  | .inr i :: r, _, j, s, h, q => by
    simp only [lend] at h
    split at h
    · rename_i k hk
      rw [Option.map_eq_some_iff] at h
      obtain ⟨t, h1, rfl⟩ := h
      cases j with
      | zero =>
        simp at q
        exact .inr ⟨i, k, q.symm, rfl, .inl hk⟩
      | succ j => exact lend_at (j := j) h1 (by simpa using q)
    · rename_i k hk
      rw [Option.map_eq_some_iff] at h
      obtain ⟨t, h1, rfl⟩ := h
      cases j with
      | zero =>
        simp at q
        exact .inr ⟨i, k, q.symm, rfl, .inr hk⟩
      | succ j => exact lend_at (j := j) h1 (by simpa using q)
    · cases h
theorem mem_idxs : ∀ {xs : List (D ⊕ Nat)} {j i : Nat}, xs[j]? = some (.inr i) → i ∈ idxs xs
  | [], _, _, h => by simp at h
  | .inl d :: r, 0, _, h => by simp at h
  | .inr k :: r, 0, i, h => by
    simp at h
    subst h
    simp only [idxs]
    exact List.mem_cons_self
  | .inl d :: r, j + 1, i, h => by
    simp only [idxs]
    exact mem_idxs (j := j) (by simpa using h)
  | .inr k :: r, j + 1, i, h => by
    simp only [idxs]
    exact List.mem_cons_of_mem _ (mem_idxs (j := j) (by simpa using h))
theorem idxs_inj : ∀ {xs : List (D ⊕ Nat)} {j m i : Nat}, (idxs xs).Nodup → xs[j]? = some (.inr i) → xs[m]? = some (.inr i) → j = m
  | [], _, _, _, _, h, _ => by simp at h
  | .inl d :: r, 0, _, _, _, h, _ => by simp at h
  | .inl d :: r, _ + 1, 0, _, _, _, h => by simp at h
  | .inl d :: r, j + 1, m + 1, i, n, h, g => by
    simp only [idxs] at n
    rw [idxs_inj (j := j) (m := m) n (by simpa using h) (by simpa using g)]
  | .inr k :: r, 0, 0, _, _, _, _ => rfl
  | .inr k :: r, 0, m + 1, i, n, h, g => by
    simp only [idxs, List.nodup_cons] at n
    simp at h
    subst h
    exact absurd (mem_idxs (j := m) (by simpa using g)) n.1
  | .inr k :: r, j + 1, 0, i, n, g, h => by
    simp only [idxs, List.nodup_cons] at n
    simp at h
    subst h
    exact absurd (mem_idxs (j := j) (by simpa using g)) n.1
  | .inr k :: r, j + 1, m + 1, i, n, h, g => by
    simp only [idxs, List.nodup_cons] at n
    rw [idxs_inj (j := j) (m := m) n.2 (by simpa using h) (by simpa using g)]
theorem takeB_len (ρ : Env) : ∀ (xs : List (D ⊕ Nat)) (sl : List Slot), (takeB ρ xs sl).length = ρ.length
  | [], _ => by simp [takeB]
  | .inl d :: r, [] => by simp only [takeB, takeB_len ρ r []]
  | .inl d :: r, s :: sl => by simp only [takeB, takeB_len ρ r sl]
  | .inr i :: r, [] => by simp only [takeB, List.length_set, takeB_len ρ r []]
  | .inr i :: r, s :: sl => by simp only [takeB, List.length_set, takeB_len ρ r sl]
theorem takeB_at (ρ : Env) : ∀ (xs : List (D ⊕ Nat)) (sl : List Slot) (i : Nat) (s : Slot), (takeB ρ xs sl)[i]? = some s → (¬ i ∈ idxs xs ∧ ρ[i]? = some s) ∨ (s = .un) ∨ ∃ (j : Nat) (s0 : Slot), xs[j]? = some (Sum.inr i) ∧ sl[j]? = some s0 ∧ s = back1 ρ[i]? s0
  | [], _, i, s, h => by
    simp only [takeB] at h
    exact .inl ⟨by simp [idxs], h⟩
  | .inl d :: r, [], i, s, h => by
    simp only [takeB] at h
    rcases takeB_at ρ r [] i s h with a | a | ⟨j, s0, a, b, e⟩
    · exact .inl a
    · exact .inr (.inl a)
    · simp at b
  | .inl d :: r, s1 :: sl, i, s, h => by
    simp only [takeB] at h
    rcases takeB_at ρ r sl i s h with a | a | ⟨j, s0, a, b, e⟩
    · exact .inl a
    · exact .inr (.inl a)
    · exact .inr (.inr ⟨j + 1, s0, by simpa using a, by simpa using b, e⟩)
  | .inr k :: r, [], i, s, h => by
    simp only [takeB] at h
    rcases get_set h with ⟨rfl, e⟩ | ⟨hn, h'⟩
    · exact .inr (.inl e)
    · rcases takeB_at ρ r [] i s h' with ⟨a, b⟩ | a | ⟨j, s0, a, b, e⟩
      · refine .inl ⟨?_, b⟩
        simp only [idxs, List.mem_cons]
        exact fun z => z.elim hn a
      · exact .inr (.inl a)
      · simp at b
  | .inr k :: r, s1 :: sl, i, s, h => by
    simp only [takeB] at h
    rcases get_set h with ⟨rfl, e⟩ | ⟨hn, h'⟩
    · exact .inr (.inr ⟨0, s1, rfl, rfl, e⟩)
    · rcases takeB_at ρ r sl i s h' with ⟨a, b⟩ | a | ⟨j, s0, a, b, e⟩
      · refine .inl ⟨?_, b⟩
        simp only [idxs, List.mem_cons]
        exact fun z => z.elim hn a
      · exact .inr (.inl a)
      · exact .inr (.inr ⟨j + 1, s0, by simpa using a, by simpa using b, e⟩)

/-- a def's promise: what its denotation says -/
def spF (K : PySem.W.Frag) (mg : Str → Option Value) (n : Nat) (F : FD) : Sp := fun vs H Q E => vs.length = n ∧ ∃ (Hs : Hp) (as : List Slot) (B : Nat → Option Addr) (hB : ∀ i l, B i = some l → H l ≠ none),
  StR K ⟨vs, Hs, H, B, E, hB⟩ as (vs.map some) Hs H ∧ Goal K mg ⟨vs, Hs, H, B, E, hB⟩ (vs.map some) Hs (pV K ⟨vs, Hs, H, B, E, hB⟩ (vs.map some)) (F as) Q
theorem map_get {vs : List V} {j : Nat} {v : V} (h : vs[j]? = some v) : (vs.map some)[j]? = some (some v) := by
  rw [List.getElem?_map, h]
  rfl
theorem get_map {vs : List V} {j : Nat} {v : V} (h : (vs.map some)[j]? = some (some v)) : vs[j]? = some v := by
  rw [List.getElem?_map, Option.map_eq_some_iff] at h
  obtain ⟨u, h1, h2⟩ := h
  cases h2
  exact h1
def lentAt (sl : List Slot) (vs : List V) (j : Nat) : Option Addr := match sl[j]?, vs[j]? with
  | some (.bor _), some (.ref l) => some l
  | _, _ => none
theorem lentAt_of {sl : List Slot} {vs : List V} {j : Nat} {l : Addr} (h : lentAt sl vs j = some l) : (∃ k, sl[j]? = some (.bor k)) ∧ vs[j]? = some (.ref l) := by
  unfold lentAt at h
  split at h
  · rename_i k l' h1 h2
    cases h
    exact ⟨⟨k, h1⟩, h2⟩
  · cases h
theorem ev_call {ta : TA} {as : List Ar} {F : FD} {n : Nat} (ha : Ev K mg c ta (pA K) (argv as)) (hn : ∀ ρ xs ρ', argv as ρ = .ok xs ρ' → xs.length = n) : Ev K mg c (tCall (spF K mg n F) [] c.E ta) (pV K c) (eCall F as) := by
  intro ρ0 σ Hs0 H0 Q st0 g0
  -- how many arguments there are is known of the run at hand
  refine ha ρ0 σ Hs0 H0 _ st0 ?_
  unfold eCall bind at g0
  cases hx : argv as ρ0 with
  | bad =>
    simp only [hx] at g0
    exact g0
  | err er ρ' =>
    simp only [hx] at g0
    exact g0
  | ok xs ρ =>
    simp only [hx] at g0
    intro vs Hs H st ex0 ra
    have g := Goal.mono ex0 g0
    show spF K mg n F (vs ++ []) H Q c.E
    rw [List.append_nil]
    have ra : Ra K Hs σ xs vs := ra
    split at g
    · rename_i hnd
      cases hl : lend ρ xs with
      | none =>
        simp only [hl] at g
        exact g.elim
      | some sl =>
        simp only [hl] at g
        have hvl : vs.length = sl.length := by rw [ra.length, lend_len hl]
        -- a lent slot: the caller's
        have lent : ∀ {j : Nat} {k : C}, sl[j]? = some (.bor k) → ∃ i l, xs[j]? = some (.inr i) ∧ vs[j]? = some (.ref l) ∧ σ[i]? = some (some (.ref l)) ∧ (ρ[i]? = some (.own k) ∨ ρ[i]? = some (.bor k)) ∧ ContR K Hs H l k ∧ Hs l = none := fun {j k} h => by
          rcases lend_at hl h with ⟨d, e, _⟩ | ⟨i, k', e, h1, h2⟩
          · cases e
          · cases e
            obtain ⟨v, a1, a2⟩ := ra.at_r h1
            rcases h2 with h2 | h2
            · obtain ⟨l, b1, b2, b3, b4⟩ := st.own i k h2
              rw [a2] at b1
              cases b1
              exact ⟨i, l, h1, a1, a2, .inl h2, b2, b3⟩
            · obtain ⟨l, b1, b2, b3, b4⟩ := st.bor i k h2
              rw [a2] at b1
              cases b1
              exact ⟨i, l, h1, a1, a2, .inr h2, b2, b3⟩
        have hB : ∀ i l, lentAt sl vs i = some l → H l ≠ none := fun i l h => by
          obtain ⟨⟨k, h1⟩, h2⟩ := lentAt_of h
          obtain ⟨i', l', _, q2, _, _, q5, _⟩ := lent h1
          rw [h2] at q2
          cases q2
          obtain ⟨o, ho⟩ := q5.there
          rw [ho]
          exact fun z => nomatch z
        have st2 : StR K ⟨vs, Hs, H, lentAt sl vs, c.E, hB⟩ sl (vs.map some) Hs H := by
          refine ⟨st.sub, Ex.refl _, fun a o h _ => h, fun a h => h, fun a h _ => h, by rw [List.length_map]; exact hvl, fun j d h => ?_, fun j k h => ?_, fun j k h => ?_, fun j m l sj sm hn' hj hm cj cm q1 q2 => ?_⟩
          · rcases lend_at hl h with ⟨d', e, h1⟩ | ⟨i, k', e, _⟩
            · cases e
              obtain ⟨v, a1, a2⟩ := ra.at_l h1
              exact ⟨v, map_get a1, a2⟩
            · cases e
          · rcases lend_at hl h with ⟨d', e, h1⟩ | ⟨i, k', e, _⟩ <;> cases e
          · obtain ⟨i, l, h1, h2, h3, h4, h5, h6⟩ := lent h
            refine ⟨l, map_get h2, h5, h6, ?_, h2⟩
            show lentAt sl vs j = some l
            unfold lentAt
            rw [h, h2]
          · have cs : ∀ {j : Nat} {s : Slot}, sl[j]? = some s → s.isC = true → ∃ k, s = .bor k := fun {j s} h hc => by
              rcases lend_at hl h with ⟨d', e, _⟩ | ⟨i, k', e, _⟩
              · subst e
                cases hc
              · exact ⟨k', e⟩
            obtain ⟨k1, rfl⟩ := cs hj cj
            obtain ⟨k2, rfl⟩ := cs hm cm
            obtain ⟨i1, l1, a1, a2, a3, a4, _⟩ := lent hj
            obtain ⟨i2, l2, b1, b2, b3, b4, _⟩ := lent hm
            have e1 := get_map q1
            have e2 := get_map q2
            rw [a2] at e1
            rw [b2] at e2
            cases e1
            cases e2
            by_cases z : i1 = i2
            · subst z
              exact hn' (idxs_inj hnd a1 b1)
            · rcases a4 with a4 | a4 <;> rcases b4 with b4 | b4 <;> exact st.apart i1 i2 _ _ _ z a4 b4 rfl rfl a3 b3
        -- back in the caller
        have back : ∀ {sl' : List Slot} {Hs' H' : Hp}, StR K ⟨vs, Hs, H, lentAt sl vs, c.E, hB⟩ sl' (vs.map some) Hs' H' → Ex Hs Hs' → StR K c (takeB ρ xs sl') σ Hs' H' := fun {sl' Hs' H'} s2 ex => by
          -- whose address a lent place has
          have lentC : ∀ {m : Nat} {l : Addr}, lentAt sl vs m = some l → ∃ i s, xs[m]? = some (.inr i) ∧ σ[i]? = some (some (.ref l)) ∧ ρ[i]? = some s ∧ s.isC = true := fun {m l} h => by
            obtain ⟨⟨k, h1⟩, h2⟩ := lentAt_of h
            obtain ⟨i, l', q1, q2, q3, q4, _⟩ := lent h1
            rw [h2] at q2
            cases q2
            rcases q4 with q4 | q4
            · exact ⟨i, _, q1, q3, q4, rfl⟩
            · exact ⟨i, _, q1, q3, q4, rfl⟩
          have notLent : ∀ {i : Nat} {s : Slot} {l : Addr}, ρ[i]? = some s → s.isC = true → σ[i]? = some (some (.ref l)) → ¬ i ∈ idxs xs → ∀ m, lentAt sl vs m ≠ some l := fun {i s l} h1 h2 h3 h4 m h => by
            obtain ⟨i', s', q1, q2, q3, q4⟩ := lentC h
            by_cases z : i' = i
            · subst z
              exact h4 (mem_idxs q1)
            · exact st.apart i' i l s' s z q3 h1 q4 h2 q2 h3
          -- where a slot of what comes back stands
          have bk : ∀ {i : Nat} {s : Slot}, (takeB ρ xs sl')[i]? = some s → s.isC = true → (¬ i ∈ idxs xs ∧ ρ[i]? = some s) ∨ ∃ k k' l, ((s = .own k' ∧ ρ[i]? = some (.own k)) ∨ (s = .bor k' ∧ ρ[i]? = some (.bor k))) ∧ σ[i]? = some (some (.ref l)) ∧ ContR K Hs' H' l k' ∧ Hs' l = none := fun {i s} h hc => by
            rcases takeB_at ρ xs sl' i s h with a | a | ⟨j, s0, a, b, e⟩
            · exact .inl a
            · subst a
              cases hc
            · obtain ⟨v, v1, v2⟩ := ra.at_r a
              cases s0 with
              | bor k' =>
                obtain ⟨l, z1, z2, z3, z4, z5⟩ := s2.bor j k' b
                have z1 := get_map z1
                rw [v1] at z1
                cases z1
                cases hr : ρ[i]? with
                | none =>
                  rw [hr] at e
                  subst e
                  cases hc
                | some sr =>
                  rw [hr] at e
                  cases sr with
                  | own k => exact .inr ⟨k, k', l, .inl ⟨e, rfl⟩, v2, z2, z3⟩
                  | bor k => exact .inr ⟨k, k', l, .inr ⟨e, rfl⟩, v2, z2, z3⟩
                  | _ =>
                    subst e
                    cases hc
              | un =>
                have : s = .un := by
                  rw [e]
                  cases ρ[i]? with
                  | none => rfl
                  | some sr => cases sr <;> rfl
                subst this
                cases hc
              | val d =>
                have : s = .un := by
                  rw [e]
                  cases ρ[i]? with
                  | none => rfl
                  | some sr => cases sr <;> rfl
                subst this
                cases hc
              | own d =>
                have : s = .un := by
                  rw [e]
                  cases ρ[i]? with
                  | none => rfl
                  | some sr => cases sr <;> rfl
                subst this
                cases hc
          refine ⟨s2.sub, st.old.trans ex, fun a o h b => ?_, fun a h => st.live a (s2.live a h), fun a h1 h2 => s2.hs a (st.hs a h1 h2) fun z => h2 (st.live a z), by rw [takeB_len]; exact st.len, fun i d h => ?_, fun i k h => ?_, fun i k h => ?_, fun i m l si sm hn' hi hm ci cm q1 q2 => ?_⟩
          · refine s2.keep a o (st.keep a o h b) fun m hm => ?_
            obtain ⟨i, s, z1, z2, z3, z4⟩ := lentC hm
            cases s with
            | un => cases z4
            | val d => cases z4
            | own k =>
              obtain ⟨l, a1, a2, a3, a4⟩ := st.own i k z3
              rw [z2] at a1
              cases a1
              rw [a4] at h
              cases h
            | bor k =>
              obtain ⟨l, a1, a2, a3, a4, a5⟩ := st.bor i k z3
              rw [z2] at a1
              cases a1
              exact b i a4
          · rcases takeB_at ρ xs sl' i _ h with ⟨_, a⟩ | a | ⟨j, s0, a, b, e⟩
            · obtain ⟨v, a1, a2⟩ := st.val i d a
              exact ⟨v, a1, a2.mono ex⟩
            · cases a
            · exfalso
              cases hr : ρ[i]? with
              | none =>
                rw [hr] at e
                cases e
              | some sr =>
                rw [hr] at e
                cases sr <;> cases s0 <;> cases e
          · rcases bk h rfl with ⟨a, b⟩ | ⟨k0, k', l, e, z1, z2, z3⟩
            · obtain ⟨l, a1, a2, a3, a4⟩ := st.own i k b
              obtain ⟨o, ho⟩ := a2.there
              exact ⟨l, a1, a2.mono ex ((s2.keep l o ho (notLent b rfl a1 a)).trans ho.symm), s2.hs l a3 (by show H l ≠ none; rw [ho]; exact fun z => nomatch z), a4⟩
            · rcases e with ⟨e, e'⟩ | ⟨e, e'⟩
              · cases e
                obtain ⟨l', a1, a2, a3, a4⟩ := st.own i k0 e'
                rw [z1] at a1
                cases a1
                exact ⟨l, z1, z2, z3, a4⟩
              · cases e
          · rcases bk h rfl with ⟨a, b⟩ | ⟨k0, k', l, e, z1, z2, z3⟩
            · obtain ⟨l, a1, a2, a3, a4⟩ := st.bor i k b
              obtain ⟨o, ho⟩ := a2.there
              exact ⟨l, a1, a2.mono ex ((s2.keep l o ho (notLent b rfl a1 a)).trans ho.symm), s2.hs l a3 (by show H l ≠ none; rw [ho]; exact fun z => nomatch z), a4⟩
            · rcases e with ⟨e, e'⟩ | ⟨e, e'⟩
              · cases e
              · cases e
                obtain ⟨l', a1, a2, a3, a4⟩ := st.bor i k0 e'
                rw [z1] at a1
                cases a1
                exact ⟨l, z1, z2, z3, a4⟩
          · have base : ∀ {i : Nat} {s : Slot}, (takeB ρ xs sl')[i]? = some s → s.isC = true → ∃ s', ρ[i]? = some s' ∧ s'.isC = true := fun {i s} h hc => by
              rcases bk h hc with ⟨_, b⟩ | ⟨k0, k', l, e, _⟩
              · exact ⟨s, b, hc⟩
              · rcases e with ⟨_, e⟩ | ⟨_, e⟩
                · exact ⟨_, e, rfl⟩
                · exact ⟨_, e, rfl⟩
            obtain ⟨s1, b1, b2⟩ := base hi ci
            obtain ⟨s3, b3, b4⟩ := base hm cm
            exact st.apart i m l s1 s3 hn' b1 b3 b2 b4 q1 q2
        refine ⟨by rw [ra.length]; exact hn _ _ _ hx, Hs, sl, lentAt sl vs, hB, st2, ?_⟩
        cases hF : F sl with
        | bad =>
          simp only [hF] at g
          exact g
        | err er sl' =>
          simp only [hF] at g
          exact fun cls od Hs' H' s2 ex er => g cls od Hs' H' (back s2 ex) ex er
        | ok r sl' =>
          simp only [hF] at g
          intro v Hs' H' s2 ex p
          refine g v Hs' H' (back s2 ex) ex ?_
          cases r with
          | d d => exact p
          | o k =>
            obtain ⟨l, rfl, p2, p3, p4, p5⟩ := p
            have p4 : H l = none := p4
            refine ⟨l, rfl, p2, p3, st.live l p4, fun i s h hc z => ?_⟩
            obtain ⟨l', k', e, b1, b2, b3⟩ := (back s2 ex).cont h hc
            -- the caller's objects stood before the call
            have : ∃ s', ρ[i]? = some s' ∧ s'.isC = true := by
              rcases takeB_at ρ xs sl' i s h with ⟨_, a⟩ | a | ⟨j, s0, a, b, e⟩
              · exact ⟨s, a, hc⟩
              · subst a
                cases hc
              · cases hr : ρ[i]? with
                | none =>
                  rw [hr] at e
                  subst e
                  cases hc
                | some sr =>
                  cases sr with
                  | own k => exact ⟨_, rfl, rfl⟩
                  | bor k => exact ⟨_, rfl, rfl⟩
                  | un =>
                    rw [hr] at e
                    subst e
                    cases s0 <;> cases hc
                  | val d =>
                    rw [hr] at e
                    subst e
                    cases s0 <;> cases hc
            obtain ⟨s', q1, q2⟩ := this
            obtain ⟨l2, k2, _, w1, w2, _⟩ := st.cont q1 q2
            rw [w1] at z
            cases z
            obtain ⟨o, ho⟩ := w2.there
            rw [p4] at ho
            cases ho
    · exact g.elim
end
end Dn
set_option Elab.async false
set_option linter.all false
set_option maxRecDepth 100000
set_option maxHeartbeats 4000000
/-! The rules that one writes. -/
namespace Dn
open PySem L2
open Evl (Ex ex_l ex_t fresh_back)
theorem outE_at : ∀ {n : Nat} {ρ : Env} {i : Nat} {s : Slot}, (outE n ρ)[i]? = some s → s = .un ∨ ∃ s0, ρ[i]? = some s0 ∧ s = keepO s0
  | 0, ρ, i, s, h => by
    cases ρ <;> simp [outE] at h
  | n + 1, [], 0, s, h => by
    simp [outE] at h
    exact .inl h.symm
  | n + 1, [], i + 1, s, h => by
    simp only [outE, List.getElem?_cons_succ] at h
    rcases outE_at h with e | ⟨s0, e, _⟩
    · exact .inl e
    · simp at e
  | n + 1, x :: ρ, 0, s, h => by
    simp only [outE, List.getElem?_cons_zero, Option.some.injEq] at h
    exact .inr ⟨x, rfl, h.symm⟩
  | n + 1, x :: ρ, i + 1, s, h => by
    simp only [outE, List.getElem?_cons_succ] at h
    rcases outE_at h with e | ⟨s0, e, e2⟩
    · exact .inl e
    · exact .inr ⟨s0, by rw [List.getElem?_cons_succ]; exact e, e2⟩
theorem outE_len : ∀ (n : Nat) (ρ : Env), (outE n ρ).length = n
  | 0, ρ => by cases ρ <;> rfl
  | n + 1, [] => by simp only [outE, List.length_cons, outE_len n []]
  | n + 1, x :: ρ => by simp only [outE, List.length_cons, outE_len n ρ]
theorem outE_bor {n : Nat} {ρ : Env} {i : Nat} {s : Slot} (h : (outE n ρ)[i]? = some s) (hs : s ≠ .un) : ∃ k, ρ[i]? = some (.bor k) ∧ s = .bor k := by
  rcases outE_at h with e | ⟨s0, e1, e2⟩
  · exact absurd e hs
  · cases s0 with
    | bor k => exact ⟨k, e1, e2⟩
    | _ => exact absurd e2 hs
section
variable {K : PySem.W.Frag} {mg : Str → Option Value} {c : Cxt}
theorem StR.pad {as : Env} {σ : L2.St} {Hs H : Hp} (st : StR K c as σ Hs H) (n : Nat) : StR K c (as ++ List.replicate n .un) (σ ++ List.replicate n none) Hs H := by
  have g1 : ∀ (i : Nat) s, s ≠ .un → (as ++ List.replicate n Slot.un)[i]? = some s → as[i]? = some s := fun i s hs h => by
    rw [List.getElem?_append] at h
    split at h
    · exact h
    · rw [List.getElem?_replicate] at h
      split at h
      · cases h
        exact absurd rfl hs
      · cases h
  have g2 : ∀ (i : Nat) s, as[i]? = some s → (σ ++ List.replicate n none)[i]? = σ[i]? := fun i s h => by
    rw [List.getElem?_append_left (by rw [st.len]; exact lt_of_get h)]
  refine ⟨st.sub, st.old, st.keep, st.live, st.hs, by rw [List.length_append, List.length_append, List.length_replicate, List.length_replicate, st.len], fun i d h => ?_, fun i k h => ?_, fun i k h => ?_, fun i j l si sj hn hi hj ci cj q1 q2 => ?_⟩
  · have a := g1 i (.val d) (fun z => nomatch z) h
    rw [g2 i _ a]
    exact st.val i d a
  · have a := g1 i (.own k) (fun z => nomatch z) h
    rw [g2 i _ a]
    exact st.own i k a
  · have a := g1 i (.bor k) (fun z => nomatch z) h
    rw [g2 i _ a]
    exact st.bor i k a
  · have a := g1 i si (fun z => by subst z; cases ci) hi
    have b := g1 j sj (fun z => by subst z; cases cj) hj
    rw [g2 i _ a] at q1
    rw [g2 j _ b] at q2
    exact st.apart i j l si sj hn a b ci cj q1 q2
/-- at a def's end only what was lent is told -/
theorem StR.out {ρ : Env} {σ : L2.St} {Hs H : Hp} (st : StR K c ρ σ Hs H) : StR K c (outE c.vs.length ρ) (c.vs.map some) Hs H := by
  have g : ∀ (i : Nat) s, s ≠ .un → (outE c.vs.length ρ)[i]? = some s → ∃ k, ρ[i]? = some (.bor k) ∧ s = .bor k := fun i s hs h => outE_bor h hs
  refine ⟨st.sub, st.old, st.keep, st.live, st.hs, by rw [List.length_map, outE_len], fun i d h => ?_, fun i k h => ?_, fun i k h => ?_, fun i j l si sj hn hi hj ci cj q1 q2 => ?_⟩
  · obtain ⟨k, a, b⟩ := g i (.val d) (fun z => nomatch z) h
    cases b
  · obtain ⟨k, a, b⟩ := g i (.own k) (fun z => nomatch z) h
    cases b
  · obtain ⟨k', a, b⟩ := g i (.bor k) (fun z => nomatch z) h
    cases b
    obtain ⟨l, a1, a2, a3, a4, a5⟩ := st.bor i k a
    exact ⟨l, map_get a5, a2, a3, a4, a5⟩
  · obtain ⟨k1, a, rfl⟩ := g i si (fun z => by subst z; cases ci) hi
    obtain ⟨k2, b, rfl⟩ := g j sj (fun z => by subst z; cases cj) hj
    obtain ⟨l1, a1, _, _, _, a5⟩ := st.bor i k1 a
    obtain ⟨l2, b1, _, _, _, b5⟩ := st.bor j k2 b
    have e1 := get_map q1
    have e2 := get_map q2
    rw [a5] at e1
    rw [b5] at e2
    cases e1
    cases e2
    exact st.apart i j l _ _ hn a b rfl rfl a1 b1
theorem RvR.out {ρ : Env} {σ : L2.St} {Hs H : Hp} {r : Rv} {v : V} (st : StR K c ρ σ Hs H) (p : RvR K c σ r ρ Hs H v) : RvR K c (c.vs.map some) r (outE c.vs.length ρ) Hs H v := by
  cases r with
  | d d => exact p
  | o k =>
    obtain ⟨l, rfl, p2, p3, p4, p5⟩ := p
    refine ⟨l, rfl, p2, p3, p4, fun i s h hc z => ?_⟩
    obtain ⟨k1, a, rfl⟩ := outE_bor h (fun z => by subst z; cases hc)
    obtain ⟨l1, a1, _, _, _, a5⟩ := st.bor i k1 a
    have e := get_map z
    rw [a5] at e
    cases e
    exact p5 i _ a rfl a1
end
/-! ### defs -/
section
variable {P : Program} {w : World} {K : PySem.W.Frag} {mg : Str → Option Value} {base : Heap}
/-- the context of a def's body from which no error leaves -/
abbrev bodyX (P : Program) (w : World) (K : PySem.W.Frag) (mg : Str → Option Value) (base : Heap) (N : List Str) (qual : Str) (st : Stmt) (f : Addr) (cdv : Value) (A : Around) (outer : List PySem.Env) (s : Shared) (H : Hp) (E : XK) : Cx :=
  (cxOf CX0 P w K mg base N qual (defScope st) f cdv A outer s H E).nox
theorem fun_den {x qual : Str} {st : Stmt} {f : Addr} {fd : FuncData} {N ps : List Str} {k : Nat} {b : S} (F : Fun K x qual st f fd) (S : FnScope N ps (defScope st))
    (hb : ∀ (c : Cxt) (cdv : Value) (A : Around) (outer : List PySem.Env) (s : Shared) (H : Hp) (E : XK), Room k (A.deeper (PyProof.Rows.envOfC qual (defScope st) s.heap.objs.size f cdv)) → PSs (bodyX P w K mg base N qual st f cdv A outer s H E) (defBody st) (tsOf K mg c b)) :
    FnOk P w K mg base CX0 (k + 1) f fd ps (spF K mg ps.length (fn N.length b)) := by
  refine F.ok S (fun vs H Q E h => h.1) fun cdv A outer s H vs Q E hr h => ?_
  obtain ⟨hl, Hs, as, B, hB, st', g⟩ := h
  have hal : as.length = vs.length := by
    have a := st'.len
    rw [List.length_map] at a
    exact a.symm
  refine ⟨_, hb ⟨vs, Hs, H, B, E, hB⟩ cdv A outer s H E hr, as ++ List.replicate (N.length - as.length) .un, Hs, ?_, ?_⟩
  · have q := st'.pad (N.length - as.length)
    have e : L2.start N vs = vs.map some ++ List.replicate (N.length - as.length) none := by
      unfold L2.start
      rw [hal]
    rw [e]
    exact q
  · unfold fn at g
    cases z : b (as ++ List.replicate (N.length - as.length) .un) with
    | bad =>
      simp only [z] at g
      exact g
    | err er ρ' =>
      simp only [z] at g
      intro cls od σ' Hs' H' s2 ex er
      rw [hal] at g
      exact g cls od Hs' H' s2.out ex er
    | nx ρ' =>
      simp only [z] at g
      intro σ' Hs' H' s2 ex
      rw [hal] at g
      exact g .non Hs' H' s2.out ex .non
    | rt r ρ' =>
      simp only [z] at g
      intro v σ' Hs' H' s2 ex p
      rw [hal] at g
      exact g v Hs' H' s2.out ex (p.out s2)
    | bk ρ' =>
      simp only [z] at g
      exact g.elim
    | ct ρ' =>
      simp only [z] at g
      exact g.elim
/-- a def of the text, by its name: it keeps to its denotation -/
structure Cal (P : Program) (w : World) (K : PySem.W.Frag) (mg : Str → Option Value) (base : Heap) (k : Nat) (x : Str) (n : Nat) (F : FD) : Prop where
  ex : ∃ (f : Addr) (fd : FuncData) (ps : List Str), ps.length = n ∧ FnOk P w K mg base CX0 k f fd ps (spF K mg n F) ∧ mg x = some (.ref f) ∧ PySem.W.keepIn K (.ref f) = true ∧ Binds K fd ps []
theorem Cal.mono {j k : Nat} {x : Str} {n : Nat} {F : FD} (h : Cal P w K mg base j x n F) (hk : j ≤ k) : Cal P w K mg base k x n F := by
  obtain ⟨f, fd, ps, a, b, r⟩ := h.ex
  exact ⟨⟨f, fd, ps, a, b.mono hk, r⟩⟩
/-- what the top has of a def -/
structure Top (K : PySem.W.Frag) (mg : Str → Option Value) (x : Str) (st : Stmt) (ps : List Str) : Prop where
  ex : ∃ (f : Addr) (fd : FuncData), Fun K x x st f fd ∧ mg x = some (.ref f) ∧ Binds K fd ps []
theorem cal_of {x : Str} {st : Stmt} {N ps : List Str} {k : Nat} {b : S} (T : Top K mg x st ps) (S : FnScope N ps (defScope st))
    (hb : ∀ (c : Cxt) (f : Addr) (cdv : Value) (A : Around) (outer : List PySem.Env) (s : Shared) (H : Hp) (E : XK), Room k (A.deeper (PyProof.Rows.envOfC x (defScope st) s.heap.objs.size f cdv)) → PSs (bodyX P w K mg base N x st f cdv A outer s H E) (defBody st) (tsOf K mg c b)) :
    Cal P w K mg base (k + 1) x ps.length (fn N.length b) := by
  obtain ⟨f, fd, F, hm, hb'⟩ := T.ex
  exact ⟨⟨f, fd, ps, rfl, fun_den F S fun c cdv A outer s H E hr => hb c f cdv A outer s H E hr, hm, F.kp, hb'⟩⟩
/-- a def of which nothing is claimed -/
theorem cal_bad {x : Str} {st : Stmt} {N ps : List Str} {k : Nat} (T : Top K mg x st ps) (S : FnScope N ps (defScope st)) : Cal P w K mg base (k + 1) x ps.length (fun _ => .bad) := by
  obtain ⟨f, fd, F, hm, hb'⟩ := T.ex
  refine ⟨⟨f, fd, ps, rfl, F.ok S (fun vs H Q E h => h.1) fun cdv A outer s H vs Q E hr h => ?_, hm, F.kp, hb'⟩⟩
  obtain ⟨_, _, _, _, _, _, g⟩ := h
  exact g.elim
end
/-! ### expressions -/
section
variable {X : Cx} {c : Cxt} {a b d : Expr} {pos : Pos} {ma mb md : E}
abbrev DE (X : Cx) (c : Cxt) (e : Expr) (m : E) : Prop := PE X e (teOf X.K X.mg c m)
abbrev DT (X : Cx) (c : Cxt) (e : Expr) (m : T) : Prop := PT X e (ttOf X.K X.mg c m)
abbrev DW (X : Cx) (c : Cxt) (e : Expr) (m : T) : Prop := PW X e (ttOf X.K X.mg c m)
abbrev DA (X : Cx) (c : Cxt) (es : List Expr) (ms : List E) : Prop := PA X es (taOf X.K X.mg c (args ms))
abbrev DB (X : Cx) (c : Cxt) (es : List Expr) (as : List Ar) : Prop := PA X es (wpOf X.K X.mg c (pA X.K) (argv as))
abbrev DI (X : Cx) (c : Cxt) (tg it : Expr) (m : M (List D)) : Prop := PI X tg it (tiOf X.K X.mg c m)
abbrev DS (X : Cx) (c : Cxt) (s : Stmt) (m : S) : Prop := PS X s (tsOf X.K X.mg c m)
abbrev DSs (X : Cx) (c : Cxt) (s : List Stmt) (m : S) : Prop := PSs X s (tsOf X.K X.mg c m)
theorem d_int {i j pos} : DE X c (.Constant (.int i) j pos) (eC (.int i)) := ped pe_int (ev_c fun _ => .int i)
theorem d_bl {b j pos} : DE X c (.Constant (.bool b) j pos) (eC (.bl b)) := ped pe_bl (ev_c fun _ => .bl b)
theorem d_non {j pos} : DE X c (.Constant .none j pos) (eC .non) := ped pe_non (ev_c fun _ => .non)
theorem d_str {x j pos} : DE X c (.Constant (.str x) j pos) (eC (.str x)) := ped pe_str (ev_c fun _ => .str x)
theorem d_v (i : Nat) {x : Str} {pos : Pos} (hN : X.N[i]? = some x := by rfl) (hv : Vis X.env.scope x := by first | exact Or.inl rfl | exact Or.inr (Or.inl rfl) | exact Or.inr (Or.inr rfl)) (hd : (x == ("__debug__" : Str)) = false := by decide)
    (hcd : (x == ("__classdict__" : Str)) = false := by decide) : DE X c (.Name x pos) (eV i) := ped (pe_var hN hv hd hcd) ev_v
theorem d_mv (i : Nat) {x : Str} {pos : Pos} (hN : X.N[i]? = some x := by rfl) (hv : Vis X.env.scope x := by first | exact Or.inl rfl | exact Or.inr (Or.inl rfl) | exact Or.inr (Or.inr rfl)) (hd : (x == ("__debug__" : Str)) = false := by decide)
    (hcd : (x == ("__classdict__" : Str)) = false := by decide) : DE X c (.Name x pos) (eMv i) := ped (pe_var hN hv hd hcd) ev_mv
theorem d_add (ha : DE X c a ma) (hb : DE X c b mb) : DE X c (.BinOp a .Add b pos) (e2 oAdd ma mb) := ped (pe_op op_addAll ha hb) (ev_op2 o_add ev_te ev_te)
theorem d_sub (ha : DE X c a ma) (hb : DE X c b mb) : DE X c (.BinOp a .Sub b pos) (e2 oSub ma mb) := ped (pe_op op_sub ha hb) (ev_op2 o_sub ev_te ev_te)
theorem d_mul (ha : DE X c a ma) (hb : DE X c b mb) : DE X c (.BinOp a .Mult b pos) (e2 oMul ma mb) := ped (pe_op op_mulAll ha hb) (ev_op2 o_mul ev_te ev_te)
theorem d_div (ha : DE X c a ma) (hb : DE X c b mb) : DE X c (.BinOp a .FloorDiv b pos) (e2 oDiv ma mb) := ped (pe_op op_fdiv ha hb) (ev_op2 o_div ev_te ev_te)
theorem d_mod (ha : DE X c a ma) (hb : DE X c b mb) : DE X c (.BinOp a .Mod b pos) (e2 oMod ma mb) := ped (pe_op op_mod ha hb) (ev_op2 o_mod ev_te ev_te)
theorem d_pow (ha : DE X c a ma) (hb : DE X c b mb) : DE X c (.BinOp a .Pow b pos) (e2 oPow ma mb) := ped (pe_op op_pow ha hb) (ev_op2 o_pow ev_te ev_te)
theorem d_neg (ha : DE X c a ma) : DE X c (.UnaryOp .USub a pos) (e1 oNeg ma) := ped (pe_un un_neg ha) (ev_op1 o_neg ev_te)
/-- comparisons: as a test, as a value -/
theorem ev_cpV {K : PySem.W.Frag} {mg : Str → Option Value} {ta tb : TE} {r : R2} {f : D → D → Option Bool} (hr : Cp2 K c r f) (ha : Ev K mg c ta (pV K c) ma) (hb : Ev K mg c tb (pV K c) mb) : Ev K mg c (tOp r ta tb) (pV K c) (eT (t2 f ma mb)) := by
  have h := ev_two (u := fun x y H (Q : VK) => r x y H Q) (P' := pV K c) (f := fun x y => bind (opt (f x y)) fun k => ret (.d (.bl k))) ha hb fun x y vx vy ρ σ Hs H Q st rx ry g => by
    cases e : f x y with
    | none =>
      rw [e] at g
      exact g.elim
    | some k =>
      rw [e] at g
      exact hr ρ σ Hs H x y vx vy k _ st rx ry e (g (.bl k) Hs H st (Ex.refl _) (R.bl k))
  intro ρ σ Hs H Q st g
  refine h ρ σ Hs H Q st ?_
  unfold eT t2 bind at g
  unfold bind
  cases e1 : val ma ρ with
  | bad =>
    rw [e1] at g
    exact g
  | err er ρ' =>
    rw [e1] at g
    exact g
  | ok x ρ1 =>
    rw [e1] at g
    simp only at g ⊢
    cases e2 : val mb ρ1 with
    | bad =>
      rw [e2] at g
      exact g
    | err er ρ' =>
      rw [e2] at g
      exact g
    | ok y ρ2 =>
      rw [e2] at g
      exact g
theorem dt_cmp {op : CmpOp} {r : R2} {f : D → D → Option Bool} (ho : OpR X (compareOp op) r) (hr : ∀ {c : Cxt}, Cp2 X.K c r f) (hm : ∀ b, behindInMarks op b = false) (ha : DE X c a ma) (hb : DE X c b mb) : DT X c (.Compare a [op] [b] pos) (t2 f ma mb) := ptd (pt_cmpR ho ha hb (hm b)) (ev_cp2 hr ev_te ev_te)
theorem de_cmp {op : CmpOp} {r : R2} {f : D → D → Option Bool} (ho : OpR X (compareOp op) r) (hr : ∀ {c : Cxt}, Cp2 X.K c r f) (hm : ∀ b, behindInMarks op b = false) (ha : DE X c a ma) (hb : DE X c b mb) : DE X c (.Compare a [op] [b] pos) (eT (t2 f ma mb)) := ped (pe_cmpR ho ha hb (hm b)) (ev_cpV hr ev_te ev_te)
theorem t_eq (hu : X.A.units + 64 < cLine) (ha : DE X c a ma) (hb : DE X c b mb) : DT X c (.Compare a [.Eq] [b] pos) (t2 oEq ma mb) := dt_cmp (op_eqD hu) o_eq (fun b => nomark b) ha hb
theorem t_ne (hu : X.A.units + 64 < cLine) (ha : DE X c a ma) (hb : DE X c b mb) : DT X c (.Compare a [.NotEq] [b] pos) (t2 oNe ma mb) := dt_cmp (op_neD hu) o_ne (fun b => nomark b) ha hb
theorem t_lt (ha : DE X c a ma) (hb : DE X c b mb) : DT X c (.Compare a [.Lt] [b] pos) (t2 oLt ma mb) := dt_cmp op_ltAll o_lt (fun b => nomark b) ha hb
theorem t_le (ha : DE X c a ma) (hb : DE X c b mb) : DT X c (.Compare a [.LtE] [b] pos) (t2 oLe ma mb) := dt_cmp op_le o_le (fun b => nomark b) ha hb
theorem t_gt (ha : DE X c a ma) (hb : DE X c b mb) : DT X c (.Compare a [.Gt] [b] pos) (t2 oGt ma mb) := dt_cmp op_gt o_gt (fun b => nomark b) ha hb
theorem t_ge (ha : DE X c a ma) (hb : DE X c b mb) : DT X c (.Compare a [.GtE] [b] pos) (t2 oGe ma mb) := dt_cmp op_ge o_ge (fun b => nomark b) ha hb
theorem d_eq (hu : X.A.units + 64 < cLine) (ha : DE X c a ma) (hb : DE X c b mb) : DE X c (.Compare a [.Eq] [b] pos) (eT (t2 oEq ma mb)) := de_cmp (op_eqD hu) o_eq (fun b => nomark b) ha hb
theorem d_ne (hu : X.A.units + 64 < cLine) (ha : DE X c a ma) (hb : DE X c b mb) : DE X c (.Compare a [.NotEq] [b] pos) (eT (t2 oNe ma mb)) := de_cmp (op_neD hu) o_ne (fun b => nomark b) ha hb
theorem d_lt (ha : DE X c a ma) (hb : DE X c b mb) : DE X c (.Compare a [.Lt] [b] pos) (eT (t2 oLt ma mb)) := de_cmp op_ltAll o_lt (fun b => nomark b) ha hb
theorem d_le (ha : DE X c a ma) (hb : DE X c b mb) : DE X c (.Compare a [.LtE] [b] pos) (eT (t2 oLe ma mb)) := de_cmp op_le o_le (fun b => nomark b) ha hb
theorem d_gt (ha : DE X c a ma) (hb : DE X c b mb) : DE X c (.Compare a [.Gt] [b] pos) (eT (t2 oGt ma mb)) := de_cmp op_gt o_gt (fun b => nomark b) ha hb
theorem d_ge (ha : DE X c a ma) (hb : DE X c b mb) : DE X c (.Compare a [.GtE] [b] pos) (eT (t2 oGe ma mb)) := de_cmp op_ge o_ge (fun b => nomark b) ha hb
/-- is None -/
theorem ev_isN {K : PySem.W.Frag} {mg : Str → Option Value} {ta : TE} (ha : Ev K mg c ta (pV K c) ma) : Ev K mg c (tIsN ta) (pV K c) (eT (t1 oIsN ma)) := by
  intro ρ σ Hs H Q st g
  refine (ev_val ha) ρ σ Hs H _ st ?_
  unfold eT t1 bind at g
  cases e : val ma ρ with
  | bad =>
    rw [e] at g
    exact g
  | err er ρ' =>
    rw [e] at g
    exact g
  | ok x ρ' =>
    rw [e] at g
    intro v Hs' H' st' ex r
    rw [isNon_of r]
    exact g _ Hs' H' st' ex (R.bl _)
theorem ev_notN {K : PySem.W.Frag} {mg : Str → Option Value} {ta : TE} (ha : Ev K mg c ta (pV K c) ma) : Ev K mg c (tNotN ta) (pV K c) (eT (t1 oNotN ma)) := by
  intro ρ σ Hs H Q st g
  refine (ev_val ha) ρ σ Hs H _ st ?_
  unfold eT t1 bind at g
  cases e : val ma ρ with
  | bad =>
    rw [e] at g
    exact g
  | err er ρ' =>
    rw [e] at g
    exact g
  | ok x ρ' =>
    rw [e] at g
    intro v Hs' H' st' ex r
    rw [isNon_of r]
    exact g _ Hs' H' st' ex (R.bl _)
theorem d_isN {j pos'} (ha : DE X c a ma) : DE X c (.Compare a [.Is] [.Constant .none j pos'] pos) (eT (t1 oIsN ma)) := ped (pe_cmp (pc_isN ha) rfl) (ev_isN ev_te)
theorem d_notN {j pos'} (ha : DE X c a ma) : DE X c (.Compare a [.IsNot] [.Constant .none j pos'] pos) (eT (t1 oNotN ma)) := ped (pe_cmp (pc_notN ha) rfl) (ev_notN ev_te)
theorem ev_isT {K : PySem.W.Frag} {mg : Str → Option Value} {ta : TE} {u : TE → TE} {f : D → Option Bool} {p : V → Bool} (hu : ∀ t σ H Q, u t σ H Q = t σ H fun x H1 => Q (.bl (p x)) H1) (hp : ∀ {H v x}, R K H v x → f x = some (p v)) (ha : Ev K mg c ta (pV K c) ma) : Ev K mg c (L2.tB (u ta)) pB (t1 f ma) := by
  intro ρ σ Hs H Q st g
  show u ta σ H _
  rw [hu]
  refine (ev_val ha) ρ σ Hs H _ st ?_
  unfold t1 bind at g
  cases e : val ma ρ with
  | bad =>
    rw [e] at g
    exact g
  | err er ρ' =>
    rw [e] at g
    exact g
  | ok x ρ' =>
    rw [e] at g
    intro v Hs' H' st' ex r
    have q := hp r
    simp only at g
    rw [q] at g
    exact ⟨_, rfl, g _ Hs' H' st' ex rfl⟩
theorem t_isN {j pos'} (ha : DE X c a ma) : DT X c (.Compare a [.Is] [.Constant .none j pos'] pos) (t1 oIsN ma) := ptd (pt_cmp (pc_isN ha) rfl) (ev_isT (u := tIsN) (p := fun v => decide (v = .non)) (fun _ _ _ _ => rfl) (fun r => by unfold oIsN; rw [isNon_of r]) ev_te)
theorem t_notN {j pos'} (ha : DE X c a ma) : DT X c (.Compare a [.IsNot] [.Constant .none j pos'] pos) (t1 oNotN ma) := ptd (pt_cmp (pc_notN ha) rfl) (ev_isT (u := tNotN) (p := fun v => !decide (v = .non)) (fun _ _ _ _ => rfl) (fun r => by unfold oNotN; rw [isNon_of r]) ev_te)
/-- an expression as a test: of one that is True or False, of any by its truth -/
theorem t_val (ha : DE X c a ma) (he : ∀ whole, isTrue a X.env whole = (do let v ← whole; standAt a.pos; holding [v] (truthy v)) := by intro _; rfl) : DT X c a (tE ma) := ptd (pt_val ha he) (ev_tE ev_te)
theorem t_tr (ha : DE X c a ma) (he : ∀ whole, isTrue a X.env whole = (do let v ← whole; standAt a.pos; holding [v] (truthy v)) := by intro _; rfl) : DT X c a (tTr ma) := ptd (pt_truth ha he) (ev_tTr ev_te)
theorem t_pk (i : Nat) {x : Str} {pos : Pos} (hN : X.N[i]? = some x := by rfl) (hv : Vis X.env.scope x := by first | exact Or.inl rfl | exact Or.inr (Or.inl rfl) | exact Or.inr (Or.inr rfl)) (hd : (x == ("__debug__" : Str)) = false := by decide)
    (hcd : (x == ("__classdict__" : Str)) = false := by decide) : DT X c (.Name x pos) (tPk i) := ptd (pt_truth (pe_var hN hv hd hcd) (by intro _; rfl)) ev_tPk
theorem t_not {ta : T} (ha : DT X c a ta) : DT X c (.UnaryOp .Not a pos) (tNot ta) := ptd (pt_not ha) (ev_not ev_self)
theorem w_and1 {ta : T} (ha : DT X c a ta) : DW X c (.BoolOp .And [a] pos) ta := pw_and1 ha
theorem w_or1 {ta : T} (ha : DT X c a ta) : DW X c (.BoolOp .Or [a] pos) ta := pw_or1 ha
theorem w_and {ta tb : T} {r : List Expr} (ha : DT X c a ta) (hb : DW X c (.BoolOp .And (b :: r) pos) tb) : DW X c (.BoolOp .And (a :: b :: r) pos) (tAnd ta tb) := pwd (pw_and ha hb) (ev_and ev_self ev_self)
theorem w_or {ta tb : T} {r : List Expr} (ha : DT X c a ta) (hb : DW X c (.BoolOp .Or (b :: r) pos) tb) : DW X c (.BoolOp .Or (a :: b :: r) pos) (tOr ta tb) := pwd (pw_or ha hb) (ev_or ev_self ev_self)
theorem t_w {ta : T} (h : DW X c a ta) : DT X c a ta := h.pt
theorem ev_andV {K : PySem.W.Frag} {mg : Str → Option Value} {ta tb : TE} (ha : Ev K mg c ta (pV K c) ma) (hb : Ev K mg c tb (pV K c) mb) : Ev K mg c (tAndV ta tb) (pV K c) (eAnd ma mb) := by
  intro ρ σ Hs H Q st g
  refine (ev_val ha) ρ σ Hs H _ st ?_
  unfold eAnd tE bind at g
  cases e : val ma ρ with
  | bad =>
    simp only [e] at g
    exact g
  | err er ρ' =>
    simp only [e] at g
    exact g
  | ok x ρ' =>
    simp only [e] at g
    intro v Hs' H' st' ex r
    cases r with
    | bl k =>
      refine ⟨k, rfl, ?_⟩
      cases k with
      | true => exact hb ρ' σ Hs' H' Q st' (Goal.mono ex g)
      | false => exact (Goal.mono ex g) (.bl false) Hs' H' st' (Ex.refl _) (R.bl false)
    | _ => exact g.elim
theorem ev_orV {K : PySem.W.Frag} {mg : Str → Option Value} {ta tb : TE} (ha : Ev K mg c ta (pV K c) ma) (hb : Ev K mg c tb (pV K c) mb) : Ev K mg c (tOrV ta tb) (pV K c) (eOr ma mb) := by
  intro ρ σ Hs H Q st g
  refine (ev_val ha) ρ σ Hs H _ st ?_
  unfold eOr tE bind at g
  cases e : val ma ρ with
  | bad =>
    simp only [e] at g
    exact g
  | err er ρ' =>
    simp only [e] at g
    exact g
  | ok x ρ' =>
    simp only [e] at g
    intro v Hs' H' st' ex r
    cases r with
    | bl k =>
      refine ⟨k, rfl, ?_⟩
      cases k with
      | true => exact (Goal.mono ex g) (.bl true) Hs' H' st' (Ex.refl _) (R.bl true)
      | false => exact hb ρ' σ Hs' H' Q st' (Goal.mono ex g)
    | _ => exact g.elim
theorem ev_notV {K : PySem.W.Frag} {mg : Str → Option Value} {ta : TE} (ha : Ev K mg c ta (pV K c) ma) : Ev K mg c (tNotV ta) (pV K c) (eNot ma) := by
  intro ρ σ Hs H Q st g
  refine (ev_val ha) ρ σ Hs H _ st ?_
  unfold eNot tE bind at g
  cases e : val ma ρ with
  | bad =>
    simp only [e] at g
    exact g
  | err er ρ' =>
    simp only [e] at g
    exact g
  | ok x ρ' =>
    simp only [e] at g
    intro v Hs' H' st' ex r
    cases r with
    | bl k => exact ⟨k, rfl, (Goal.mono ex g) (.bl !k) Hs' H' st' (Ex.refl _) (R.bl !k)⟩
    | _ => exact g.elim
theorem d_one {op} (h : DE X c a ma) : DE X c (.BoolOp op [a] pos) ma := pe_one h
theorem d_and {r : List Expr} (ha : DE X c a ma) (hb : DE X c (.BoolOp .And (b :: r) pos) mb) : DE X c (.BoolOp .And (a :: b :: r) pos) (eAnd ma mb) := ped (pe_and ha hb) (ev_andV ev_te ev_te)
theorem d_or {r : List Expr} (ha : DE X c a ma) (hb : DE X c (.BoolOp .Or (b :: r) pos) mb) : DE X c (.BoolOp .Or (a :: b :: r) pos) (eOr ma mb) := ped (pe_or ha hb) (ev_orV ev_te ev_te)
theorem d_not (ha : DE X c a ma) : DE X c (.UnaryOp .Not a pos) (eNot ma) := ped (pe_not ha) (ev_notV ev_te)
theorem d_if {ta : T} (ht : DT X c d ta) (ha : DE X c a ma) (hb : DE X c b mb) : DE X c (.IfExp d a b pos) (eIf ta ma mb) := ped (pe_ifExp ht ha hb) (ev_ifE ev_self ev_te ev_te)
theorem a_nil : DA X c [] [] := pad pa_nil ev_nil
theorem a_cons {es : List Expr} {ms : List E} (ha : DE X c a ma) (hr : DA X c es ms) (hs : starEach (a :: es) X.env = (false, eval a X.env) :: starEach es X.env := by rfl) : DA X c (a :: es) (ma :: ms) := pad (pa_cons ha hr hs) (ev_cons ev_te ev_self)
theorem d_tup {es : List Expr} {ms : List E} {x1} (h : DA X c es ms) : DE X c (.Tuple es x1 pos) (eTup ms) := ped (pe_tup h) (ev_tup ev_self)
theorem d_lst {es : List Expr} {ms : List E} (h : DA X c es ms) : DE X c (.List es pos) (eLst ms) := ped (pe_lst h) (ev_lst ev_self)
/-! ### one of two readings -/
theorem pe_or2 {e : Expr} {t u : TE} (h : PE X e t) (h' : PE X e u) : PE X e (fun σ H Q => t σ H Q ∨ u σ H Q) := ⟨fun pins s σ H Q I q => q.elim (h.run pins s σ H Q I) (h'.run pins s σ H Q I)⟩
theorem pt_or2 {e : Expr} {t u : TT} (h : PT X e t) (h' : PT X e u) : PT X e (fun σ H Q => t σ H Q ∨ u σ H Q) := ⟨fun pins s σ H Q I q => q.elim (h.run pins s σ H Q I) (h'.run pins s σ H Q I)⟩
theorem ev_or2 {α β : Type} {K : PySem.W.Frag} {mg : Str → Option Value} {t u : L2.St → Hp → (β → Hp → Prop) → Prop} {P' : L2.St → α → Env → Hp → Hp → β → Prop} {m m1 m2 : M α} (h : Ev K mg c t P' m1) (h' : Ev K mg c u P' m2) (hm : ∀ ρ, m ρ = m1 ρ ∨ m ρ = m2 ρ) : Ev K mg c (fun σ H Q => t σ H Q ∨ u σ H Q) P' m := fun ρ σ Hs H Q st g => by
  rcases hm ρ with e | e
  · exact .inl (h ρ σ Hs H Q st (by rw [← e]; exact g))
  · exact .inr (h' ρ σ Hs H Q st (by rw [← e]; exact g))
/-- d[k] of a dict -/
theorem ev_dget {K : PySem.W.Frag} {mg : Str → Option Value} {ta tb : TE} (ha : Ev K mg c ta (pV K c) ma) (hb : Ev K mg c tb (pV K c) mb) : Ev K mg c (tDGet ta tb) (pV K c) (e2 oDGet ma mb) :=
  ev_two (u := fun x y H (Q : VK) => ∃ a v, x = .ref a ∧ DGet H a y (some v) ∧ Q v H) ha hb fun x y vx vy ρ σ Hs H Q st rx ry g => by
    obtain ⟨z, e, g⟩ := goal_opt g
    cases rx with
    | @dic a kvs ds h1 h2 =>
      simp only [oDGet] at e
      split at e
      · rename_i hk
        obtain ⟨k, rfl, rfl⟩ := key_of ry hk
        rw [Option.map_eq_some_iff] at e
        obtain ⟨dv, e1, rfl⟩ := e
        rcases h2.get k with ⟨_, n⟩ | ⟨v, d, v1, v2, r⟩
        · rw [n] at e1
          cases e1
        · rw [v2] at e1
          cases e1
          refine ⟨a, v, rfl, ?_, g v Hs H st (Ex.refl _) r⟩
          rw [← v1]
          exact DGet.k (st.sub _ _ h1)
      · cases e
    | _ => simp only [oDGet] at e; cases e
theorem ev_ixA {K : PySem.W.Frag} {mg : Str → Option Value} {ta tb : TE} (ha : Ev K mg c ta (pV K c) ma) (hb : Ev K mg c tb (pV K c) mb) : Ev K mg c (fun σ H Q => tOp (rIx K) ta tb σ H Q ∨ tDGet ta tb σ H Q) (pV K c) (e2 oIxA ma mb) :=
  ev_or2 (ev_op2 o_ix ha hb) (ev_dget ha hb) fun ρ => by
    unfold e2 bind
    cases e : val ma ρ with
    | bad => exact .inl rfl
    | err er ρ' => exact .inl rfl
    | ok x ρ1 =>
      cases x with
      | dic kvs => exact .inr rfl
      | _ =>
        simp only
        cases val mb ρ1 <;> exact .inl rfl
theorem d_ix (hu : X.A.units + 1 < cLine) (ha : DE X c a ma) (hb : DE X c b mb) (hs : PlainIx b := by intro _ _; rfl) (hs2 : NoSl b := by intro _ _; rfl) : DE X c (.Subscript a b pos) (e2 oIxA ma mb) := ped (pe_or2 (pe_ix ix_seq ha hb hs) (pe_dget hu ha hb hs2)) (ev_ixA ev_te ev_te)
theorem hasV_at {K : PySem.W.Frag} {ρ : Env} {σ : L2.St} {Hs H : Hp} {i : Nat} (st : StR K c ρ σ Hs H) (h : hasV ρ[i]? = true) : ∃ v, σ[i]? = some (some v) := by
  cases e : ρ[i]? with
  | none =>
    rw [e] at h
    cases h
  | some s =>
    rw [e] at h
    cases s with
    | un => cases h
    | val d =>
      obtain ⟨v, h1, _⟩ := st.val i d e
      exact ⟨v, h1⟩
    | own k =>
      obtain ⟨v, h1, _⟩ := st.own i k e
      exact ⟨_, h1⟩
    | bor k =>
      obtain ⟨v, h1, _⟩ := st.bor i k e
      exact ⟨_, h1⟩
theorem ev_pkIx {K : PySem.W.Frag} {mg : Str → Option Value} {tb : TE} {i : Nat} (hb : Ev K mg c tb (pV K c) mb) : Ev K mg c (fun σ H Q => tOp (rIx K) (tVar i) tb σ H Q ∨ tDGet (tVar i) tb σ H Q) (pV K c) (ePk2 oIxD i mb) := by
  intro ρ σ Hs H Q st g
  unfold ePk2 at g
  split at g
  · rename_i hV
    obtain ⟨v0, hv0⟩ := hasV_at st hV
    -- which of the two is told by the run
    unfold bind at g
    cases e : val mb ρ with
    | bad =>
      simp only [e] at g
      refine .inl ⟨v0, hv0, (ev_val hb) ρ σ Hs H _ st ?_⟩
      rw [e]
      exact g
    | err er ρ' =>
      simp only [e] at g
      refine .inl ⟨v0, hv0, (ev_val hb) ρ σ Hs H _ st ?_⟩
      rw [e]
      exact g
    | ok y ρ' =>
      simp only [e] at g
      cases p : peek i ρ' with
      | bad =>
        simp only [p] at g
        exact g.elim
      | err er ρ2 =>
        simp only [p] at g
        exact g.elim
      | ok x ρ2 =>
        simp only [p] at g
        cases q : oIxD x y with
        | none =>
          simp only [q] at g
          exact g.elim
        | some z =>
          simp only [q] at g
          have fin : ∀ vy Hs' H', StR K c ρ' σ Hs' H' → Ex Hs Hs' → R K Hs' vy y → (∃ kvs, x = .dic kvs) ∨ rIx K v0 vy H' Q := fun vy Hs' H' st' ex r => by
            obtain ⟨_, v, h1, h2⟩ := st'.peek p
            rw [hv0] at h1
            cases h1
            by_cases hn : ∃ kvs, x = .dic kvs
            · exact .inl hn
            · refine .inr ?_
              have e3 : oIx x y = some (.d z) := by
                have q' := q
                unfold oIxD at q'
                have same : oIxA x y = oIx x y := by
                  cases x with
                  | dic kvs => exact absurd ⟨kvs, rfl⟩ hn
                  | _ => rfl
                rw [same] at q'
                split at q'
                · rename_i z' hz
                  cases q'
                  exact hz
                · cases q'
              rcases h2 with h2 | ⟨l, k, rfl, hk, h2⟩
              · exact o_ix ρ' σ Hs' H' _ _ v0 _ _ Q st' h2 r e3 fun v Hs2 H2 s2 e2 p2 => g v Hs2 H2 s2 (ex.trans e2) p2
              · cases k with
                | dic kvs => exact absurd ⟨kvs, hk⟩ hn
                | lst ds =>
                  subst hk
                  obtain ⟨xs, a1, a2⟩ := h2
                  cases r with
                  | int n =>
                    simp only [C.d, oIx, Option.map_eq_some_iff] at e3
                    obtain ⟨d, e4, e5⟩ := e3
                    cases e5
                    obtain ⟨u, b1, b2⟩ := a2.at e4
                    exact .inl ⟨l, xs, n, u, rfl, rfl, SqL.of a1, b1, g u Hs' H' st' ex b2⟩
                  | _ => simp only [C.d, oIx] at e3; cases e3
          cases x with
          | dic ds =>
            refine .inr ⟨v0, hv0, (ev_val hb) ρ σ Hs H _ st ?_⟩
            rw [e]
            intro vy Hs' H' st' ex r
            obtain ⟨_, v, h1, h2⟩ := st'.peek p
            rw [hv0] at h1
            cases h1
            have e3 : oDGet (.dic ds) y = some (.d z) := by
              have q' := q
              unfold oIxD at q'
              split at q'
              · rename_i z' hz
                cases q'
                exact hz
              · cases q'
            simp only [oDGet] at e3
            split at e3
            · rename_i hk
              obtain ⟨k, rfl, rfl⟩ := key_of r hk
              rw [Option.map_eq_some_iff] at e3
              obtain ⟨dv, e4, e5⟩ := e3
              cases e5
              have main : ∀ {l : Addr} {kvs : List (Key × V)}, H' l = some (.dK kvs) → Rk K Hs' kvs ds → v0 = .ref l → ∃ a v, v0 = .ref a ∧ DGet H' a (kV k) (some v) ∧ Q v H' := fun {l kvs} a1 a2 a3 => by
                rcases a2.get k with ⟨_, n⟩ | ⟨u, d, v1, v2, r2⟩
                · rw [n] at e4
                  cases e4
                · rw [v2] at e4
                  cases e4
                  refine ⟨l, u, a3, ?_, g u Hs' H' st' ex r2⟩
                  rw [← v1]
                  exact DGet.k a1
              rcases h2 with h2 | ⟨l, k', rfl, hk', h2⟩
              · cases h2 with
                | dic h3 h4 => exact main (st'.sub _ _ h3) h4 rfl
              · cases k' with
                | lst _ => cases hk'
                | dic ds' =>
                  cases hk'
                  obtain ⟨kvs, a1, a2⟩ := h2
                  exact main a1 a2 rfl
            · cases e3
          | _ =>
            refine .inl ⟨v0, hv0, (ev_val hb) ρ σ Hs H _ st ?_⟩
            rw [e]
            intro vy Hs' H' st' ex r
            rcases fin vy Hs' H' st' ex r with ⟨kvs, z⟩ | h
            · cases z
            · exact h
  · exact g.elim
theorem d_pkIx (i : Nat) {x : Str} {pos' : Pos} (hu : X.A.units + 1 < cLine) (hb : DE X c b mb) (hN : X.N[i]? = some x := by rfl) (hv : Vis X.env.scope x := by first | exact Or.inl rfl | exact Or.inr (Or.inl rfl) | exact Or.inr (Or.inr rfl)) (hd : (x == ("__debug__" : Str)) = false := by decide)
    (hcd : (x == ("__classdict__" : Str)) = false := by decide) (hs : PlainIx b := by intro _ _; rfl) (hs2 : NoSl b := by intro _ _; rfl) : DE X c (.Subscript (.Name x pos') b pos) (ePk2 oIxD i mb) :=
  ped (pe_or2 (pe_ix ix_seq (pe_var hN hv hd hcd) hb hs) (pe_dget hu (pe_var hN hv hd hcd) hb hs2)) (ev_pkIx ev_te)
end
end Dn
set_option Elab.async false
set_option linter.all false
set_option maxRecDepth 100000
set_option maxHeartbeats 4000000
/-! The rules that one writes: built-ins, calls, comprehensions, statements. -/
namespace Dn
open PySem L2
open Evl (Ex ex_l ex_t fresh_back)
section
variable {X : Cx} {c : Cxt} {a b d : Expr} {pos p p2 : Pos} {ma mb md : E}
theorem boot_abs' : bootBuiltins "abs" = some (.builtin "abs") := by decide +kernel
theorem boot_any' : bootBuiltins "any" = some (.builtin "any") := by decide +kernel
/-- a built-in of one value -/
theorem d_b1 {id : String} {x : Str} {r : List V → Hp → VK → Prop} {f : D → Option Rv} (hc : CallR X (.builtin id) r) (hr : Op1 X.K c (fun v => r [v]) f) (hv : bootBuiltins x = some (.builtin id)) (hn : x ≠ "__name__") (hdb : (x == ("__debug__" : Str)) = false)
    (hg : Gl X x) (hm : X.mg x = none) (ha : DE X c a ma) (he : starEach [a] X.env = (false, eval a X.env) :: starEach [] X.env) (hpl : (backTo pos (starEach [] X.env)).any (·.1) = false) : DE X c (.Call (.Name x p) [a] [] pos) (e1 f ma) :=
  ped (pe_callB hc hg hm hv (pa_cons ha pa_nil he) hn hdb he hpl) (ev_opN1 hr ev_te)
theorem d_c1 {T : String} {x : Str} {r : List V → Hp → VK → Prop} {f : D → Option Rv} (hc : CallR X (.type T) r) (hr : Op1 X.K c (fun v => r [v]) f) (hv : bootBuiltins x = some (.type T)) (hn : x ≠ "__name__") (hdb : (x == ("__debug__" : Str)) = false)
    (hg : Gl X x) (hm : X.mg x = none) (ha : DE X c a ma) (he : starEach [a] X.env = (false, eval a X.env) :: starEach [] X.env) (hpl : (backTo pos (starEach [] X.env)).any (·.1) = false) : DE X c (.Call (.Name x p) [a] [] pos) (e1 f ma) :=
  ped (pe_callTy hc hg hm hv (pa_cons ha pa_nil he) hn hdb he hpl) (ev_opN1 hr ev_te)
theorem d_len (hg : Gl X "len") (hm : X.mg "len" = none) (ha : DE X c a ma) (he : starEach [a] X.env = (false, eval a X.env) :: starEach [] X.env := by rfl) (hpl : (backTo pos (starEach [] X.env)).any (·.1) = false := by rfl) : DE X c (.Call (.Name "len" p) [a] [] pos) (e1 oLen ma) :=
  d_b1 (call_len.or call_lenD) (o_len rfl) PySem.boot_len (by decide) (by decide) hg hm ha he hpl
theorem d_abs (hg : Gl X "abs") (hm : X.mg "abs" = none) (ha : DE X c a ma) (he : starEach [a] X.env = (false, eval a X.env) :: starEach [] X.env := by rfl) (hpl : (backTo pos (starEach [] X.env)).any (·.1) = false := by rfl) : DE X c (.Call (.Name "abs" p) [a] [] pos) (e1 oAbs ma) :=
  d_b1 call_abs o_abs boot_abs' (by decide) (by decide) hg hm ha he hpl
theorem d_all (hc : X.calm = true) (hg : Gl X "all") (hm : X.mg "all" = none) (ha : DE X c a ma) (he : starEach [a] X.env = (false, eval a X.env) :: starEach [] X.env := by rfl) (hpl : (backTo pos (starEach [] X.env)).any (·.1) = false := by rfl) : DE X c (.Call (.Name "all" p) [a] [] pos) (e1 oAll ma) :=
  d_b1 (cr_all hc) o_all PyProof.Rows.boot_all (by decide) (by decide) hg hm ha he hpl
theorem d_any (hc : X.calm = true) (hg : Gl X "any") (hm : X.mg "any" = none) (ha : DE X c a ma) (he : starEach [a] X.env = (false, eval a X.env) :: starEach [] X.env := by rfl) (hpl : (backTo pos (starEach [] X.env)).any (·.1) = false := by rfl) : DE X c (.Call (.Name "any" p) [a] [] pos) (e1 oAny ma) :=
  d_b1 (cr_any hc) o_any boot_any' (by decide) (by decide) hg hm ha he hpl
theorem d_sum (hc : X.calm = true) (hg : Gl X "sum") (hm : X.mg "sum" = none) (ha : DE X c a ma) (he : starEach [a] X.env = (false, eval a X.env) :: starEach [] X.env := by rfl) (hpl : (backTo pos (starEach [] X.env)).any (·.1) = false := by rfl) : DE X c (.Call (.Name "sum" p) [a] [] pos) (e1 oSum ma) :=
  d_b1 (cr_sum hc) o_sum PyProof.Rows.boot_sum (by decide) (by decide) hg hm ha he hpl
theorem d_intc (hg : Gl X "int") (hm : X.mg "int" = none) (ha : DE X c a ma) (he : starEach [a] X.env = (false, eval a X.env) :: starEach [] X.env := by rfl) (hpl : (backTo pos (starEach [] X.env)).any (·.1) = false := by rfl) : DE X c (.Call (.Name "int" p) [a] [] pos) (e1 oInt ma) :=
  d_c1 call_int1 o_intc PyProof.Rows.boot_int (by decide) (by decide) hg hm ha he hpl
theorem d_list (hg : Gl X "list") (hm : X.mg "list" = none) (ha : DE X c a ma) (he : starEach [a] X.env = (false, eval a X.env) :: starEach [] X.env := by rfl) (hpl : (backTo pos (starEach [] X.env)).any (·.1) = false := by rfl) : DE X c (.Call (.Name "list" p) [a] [] pos) (e1 oList ma) :=
  d_c1 call_list_of o_list PyProof.Rows.boot_list (by decide) (by decide) hg hm ha he hpl
theorem d_tuple (hg : Gl X "tuple") (hm : X.mg "tuple" = none) (ha : DE X c a ma) (he : starEach [a] X.env = (false, eval a X.env) :: starEach [] X.env := by rfl) (hpl : (backTo pos (starEach [] X.env)).any (·.1) = false := by rfl) : DE X c (.Call (.Name "tuple" p) [a] [] pos) (e1 oTuple ma) :=
  d_c1 call_tuple_of o_tuple PyProof.Rows.boot_tuple (by decide) (by decide) hg hm ha he hpl
theorem d_dictP (hc : X.calm = true) (hg : Gl X "dict") (hm : X.mg "dict" = none) (ha : DE X c a ma) (he : starEach [a] X.env = (false, eval a X.env) :: starEach [] X.env := by rfl) (hpl : (backTo pos (starEach [] X.env)).any (·.1) = false := by rfl) : DE X c (.Call (.Name "dict" p) [a] [] pos) (e1 oDictP ma) :=
  d_c1 (call_dictP hc) o_dictP PyProof.Rows.boot_dict (by decide) (by decide) hg hm ha he hpl
/-- isinstance(e, T) -/
theorem d_isi {x : Str} {t : String} (hk : ∀ q : D, kitB q.ty t = some (isiT q.ty t)) (hv : bootBuiltins x = some (.type t)) (hg : Gl X "isinstance") (hm : X.mg "isinstance" = none) (hgx : Gl X x) (hmx : X.mg x = none) (ha : DE X c a ma) (hnx : x ≠ "__name__" := by decide) (hdx : (x == ("__debug__" : Str)) = false := by decide)
    (he : starEach [a, .Name x p2] X.env = (false, eval a X.env) :: starEach [.Name x p2] X.env := by rfl) (he2 : starEach [.Name x p2] X.env = (false, eval (.Name x p2) X.env) :: starEach [] X.env := by rfl) (hpl : (backTo pos (starEach [.Name x p2] X.env)).any (·.1) = false := by rfl) :
    DE X c (.Call (.Name "isinstance" p) [a, .Name x p2] [] pos) (e1 (oIsi t) ma) :=
  ped (pe_callB call_isi hg hm PyProof.Rows.boot_isinstance (pa_cons ha (pa_cons (pe_bltn (v := .ty t) hgx hmx hv rfl hnx hdx) pa_nil he2) he) (by decide) (by decide) he hpl)
    (ev_bind (u := fun σ (x : V) H (Q : VK) => rIsi X.K [x, .ty t] H Q) (ev_val ev_te) fun x vx ρ σ Hs H Q st rx g => by
      obtain ⟨z, e, g⟩ := goal_opt g
      simp only [oIsi, Option.some.injEq] at e
      subst e
      exact ⟨vx, .ty t, _, _, _, rfl, .ty t, ty_of (rx.mono st.sub), kit_ty (hk x), g _ Hs H st (Ex.refl _) (R.bl _)⟩)
/-- max(a, b), min(a, b) -/
theorem ev_n2 {K : PySem.W.Frag} {mg : Str → Option Value} {ta tb : TE} {r : List V → Hp → VK → Prop} {g : Int → Int → Int} {f : List D → Option Rv} (hr : ∀ i j H (Q : VK), Q (.int (g i j)) H → r [.int i, .int j] H Q) (hf : f = fun ds => match ds with | [.int i, .int j] => some (.d (.int (g i j))) | _ => none)
    (ha : Ev K mg c ta (pV K c) ma) (hb : Ev K mg c tb (pV K c) mb) : Ev K mg c (tCB r (tCons ta (tCons tb tNil))) (pV K c) (eN f [ma, mb]) := by
  subst hf
  refine ev_opN (fun ρ σ Hs H xs vs z Q st rs e k => ?_) (ev_cons ha (ev_cons hb ev_nil))
  cases rs with
  | nil => cases e
  | cons r1 rs =>
    cases rs with
    | nil => cases r1 <;> cases e
    | cons r2 rs =>
      cases rs with
      | cons _ _ => cases r1 <;> cases r2 <;> cases e
      | nil =>
        cases r1 <;> cases r2 <;> first | cases e | skip
        exact hr _ _ H Q (keep_d st k (R.int _))
theorem d_max2 (hc : X.calm = true) (hg : Gl X "max") (hm : X.mg "max" = none) (ha : DE X c a ma) (hb : DE X c b mb) (he : starEach [a, b] X.env = (false, eval a X.env) :: starEach [b] X.env := by rfl) (he2 : starEach [b] X.env = (false, eval b X.env) :: starEach [] X.env := by rfl) (hpl : (backTo pos (starEach [b] X.env)).any (·.1) = false := by rfl) :
    DE X c (.Call (.Name "max" p) [a, b] [] pos) (eN oMax2 [ma, mb]) :=
  ped (pe_callB (call_max2 hc) hg hm PyProof.Rows.boot_max (pa_cons ha (pa_cons hb pa_nil he2) he) (by decide) (by decide) he hpl) (ev_n2 (g := fun i j => if j > i then j else i) (fun i j H Q q => ⟨i, j, rfl, q⟩) (by
    funext ds
    unfold oMax2
    rfl) ev_te ev_te)
theorem d_min2 (hc : X.calm = true) (hg : Gl X "min") (hm : X.mg "min" = none) (ha : DE X c a ma) (hb : DE X c b mb) (he : starEach [a, b] X.env = (false, eval a X.env) :: starEach [b] X.env := by rfl) (he2 : starEach [b] X.env = (false, eval b X.env) :: starEach [] X.env := by rfl) (hpl : (backTo pos (starEach [b] X.env)).any (·.1) = false := by rfl) :
    DE X c (.Call (.Name "min" p) [a, b] [] pos) (eN oMin2 [ma, mb]) :=
  ped (pe_callB (call_min2 hc) hg hm PyProof.Rows.boot_min (pa_cons ha (pa_cons hb pa_nil he2) he) (by decide) (by decide) he hpl) (ev_n2 (g := fun i j => if j < i then j else i) (fun i j H Q q => ⟨i, j, rfl, q⟩) (by
    funext ds
    unfold oMin2
    rfl) ev_te ev_te)
/-- d.get(k, x) -/
theorem ev_get2 {K : PySem.W.Frag} {mg : Str → Option Value} {ta tb td : TE} (ha : Ev K mg c ta (pV K c) ma) (hb : Ev K mg c tb (pV K c) mb) (hd : Ev K mg c td (pV K c) md) : Ev K mg c (tDGet2 ta tb td) (pV K c) (eGet2 ma mb md) := by
  refine ev_bind (u := fun σ (x : V) H (Q : VK) => ∃ a, x = .ref a ∧ IsD H a ∧ tb σ H fun y H2 => td σ H2 fun z H3 => ∃ o, DGet H3 a y o ∧ Q (o.getD z) H3) (ev_val ha) fun x vx ρ σ Hs H Q st rx g => ?_
  cases rx with
  | @dic l kvs ds h1 h2 =>
    refine ⟨l, rfl, .inl ⟨kvs, .inl (st.sub _ _ h1)⟩, ?_⟩
    have g : Goal K mg c σ Hs (pV K c σ) (bind (val mb) (fun y => bind (val md) fun z => opt (oDGetD (.dic ds) y z)) ρ) Q := g
    refine (ev_val hb) ρ σ Hs H _ st ?_
    unfold bind at g
    cases e : val mb ρ with
    | bad =>
      rw [e] at g
      exact g
    | err er ρ' =>
      rw [e] at g
      exact g
    | ok y ρ1 =>
      rw [e] at g
      intro vy Hs1 H1 st1 ex1 ry
      refine (ev_val hd) ρ1 σ Hs1 H1 _ st1 ?_
      simp only at g
      cases e' : val md ρ1 with
      | bad =>
        rw [e'] at g
        exact g
      | err er ρ' =>
        rw [e'] at g
        exact fun cls od Hs' H' st' ex er => g cls od Hs' H' st' (ex1.trans ex) er
      | ok z ρ2 =>
        rw [e'] at g
        intro vz Hs2 H2 st2 ex2 rz
        obtain ⟨w, ew, gw⟩ := goal_opt g
        simp only [oDGetD] at ew
        split at ew
        · rename_i hk
          cases ew
          obtain ⟨k, rfl, rfl⟩ := key_of ry hk
          have h1' : H2 l = some (.dK kvs) := st2.sub _ _ (ex2 _ _ (ex1 _ _ h1))
          rcases (h2.mono (ex1.trans ex2)).get k with ⟨n1, n2⟩ | ⟨u, dd, v1, v2, r⟩
          · refine ⟨none, ?_, ?_⟩
            · rw [← n1]
              exact DGet.k h1'
            · rw [n2] at gw
              exact gw vz Hs2 H2 st2 (ex1.trans ex2) rz
          · refine ⟨some u, ?_, ?_⟩
            · rw [← v1]
              exact DGet.k h1'
            · rw [v2] at gw
              exact gw u Hs2 H2 st2 (ex1.trans ex2) r
        · cases ew
  | _ => exact g.elim
theorem d_get2 {apos : Pos} (hu : X.A.units + 1 < cLine) (ha : DE X c a ma) (hb : DE X c b mb) (hd : DE X c d md) (m : M2 X a "get" apos b d pos := by exact ⟨rfl, rfl, rfl, rfl⟩) : DE X c (.Call (.Attribute a "get" apos) [b, d] [] pos) (eGet2 ma mb md) :=
  ped (pe_dget2 hu ha hb hd m) (ev_get2 ev_te ev_te ev_te)
/-! ### in -/
theorem flat_of {K : PySem.W.Frag} {H : Hp} {v : V} {q : D} (r : R K H v q) (h : flatD q = true) : flatV v = true := by
  cases r <;> first | rfl | (simp [flatD] at h; done)
theorem flats_of {K : PySem.W.Frag} {H : Hp} : ∀ {ds : List D} {vs : List V}, Rs K H vs ds → ds.all flatD = true → vs.all flatV = true
  | [], _, h, _ => by
    cases h
    rfl
  | x :: ds, _, h, e => by
    cases h with
    | cons h1 h2 =>
      simp only [List.all_cons, Bool.and_eq_true] at e ⊢
      exact ⟨flat_of h1 e.1, flats_of h2 e.2⟩
theorem eqV_of {K : PySem.W.Frag} {H : Hp} {u v : V} {x y : D} (r : R K H u x) (s : R K H v y) (h : flatD x = true) (h' : flatD y = true) : eqV u v = x.eqv y := by
  cases r <;> first | (simp [flatD] at h; done) | skip
  all_goals (cases s <;> first | (simp [flatD] at h'; done) | rfl)
theorem inV_of {K : PySem.W.Frag} {H : Hp} {u : V} {x : D} (r : R K H u x) (h : flatD x = true) : ∀ {ds : List D} {vs : List V}, Rs K H vs ds → ds.all flatD = true → inV u vs = ds.any fun y => y.eqv x
  | [], _, q, _ => by
    cases q
    rfl
  | y :: ds, _, q, e => by
    cases q with
    | cons h1 h2 =>
      simp only [List.all_cons, Bool.and_eq_true] at e
      show (eqV _ u || inV u _) = _
      rw [eqV_of h1 r e.1 h, inV_of r h h2 e.2]
      rfl
def rInAll (K : PySem.W.Frag) : R2 := fun x y H Q => ((rInD K x y H Q ∨ rIn K false x y H Q) ∨ ∃ (k : Nat) (z : Str), x = .str ⟨#[k]⟩ ∧ y = .str z ∧ Q (.bl (decide (k ∈ z.cps.toList))) H) ∨ ∃ a o, y = .ref a ∧ DGet H a x o ∧ Q (.bl o.isSome) H
theorem any_toP (x : D) : ∀ ds : List D, ((toPs ds).any fun z => PyData.eqv z x.toP) = ds.any fun y => y.eqv x
  | [] => by simp [toPs]
  | y :: ds => by
    simp only [toPs, List.any_cons, any_toP x ds]
    rfl
theorem o_inL : Cp2 K c (rInD K) (fun x y => match y with | .lst ys => oIn x (.lst ys) | _ => none) := by
  intro ρ σ Hs H x y vx vy k Q st rx ry e q
  cases ry with
  | @lst l xs ds h1 h2 =>
    simp only [oIn] at e
    split at e
    · rename_i h
      rw [Bool.and_eq_true] at h
      cases e
      have hl : SeqAt.shaped (.list (toPs ds)) = true := by
        have := ok_shaped h.2
        simpa only [D.toP] using this
      refine ⟨_, toPs ds, R.dp 30 (rx.mono st.sub) h.1, ?_, ok_shaped h.1, hl, ?_⟩
      · have := R.dp 30 ((R.lst h1 h2).mono st.sub) h.2
        simpa only [D.toP] using this
      · rw [any_toP]
        exact q
    · cases e
  | _ => cases e
theorem o_inT : Cp2 K c (rIn K false) (fun x y => match y with | .tup ys => oIn x (.tup ys) | _ => none) := by
  intro ρ σ Hs H x y vx vy k Q st rx ry e q
  cases ry with
  | @tup l xs ds h1 h2 =>
    simp only [oIn] at e
    split at e
    · rename_i h
      rw [Bool.and_eq_true] at h
      cases e
      refine ⟨l, xs, rfl, .inr (ex_t st.sub h1), flat_of rx h.1, flats_of h2 h.2, ?_⟩
      rw [if_neg Bool.false_ne_true, inV_of rx h.1 h2 h.2]
      exact q
    · cases e
  | _ => cases e
theorem o_inS : Cp2 K c (fun x y H (Q : VK) => ∃ (k : Nat) (z : Str), x = .str ⟨#[k]⟩ ∧ y = .str z ∧ Q (.bl (decide (k ∈ z.cps.toList))) H) oInS := by
  intro ρ σ Hs H x y vx vy k Q st rx ry e q
  cases rx with
  | str s =>
    cases ry with
    | str z =>
      simp only [oInS] at e
      split at e
      · rename_i ch hch
        cases e
        refine ⟨ch, z, ?_, rfl, q⟩
        have : s = ⟨#[ch]⟩ := by
          cases s with
          | mk cps =>
            congr 1
            rw [← Array.toArray_toList (xs := cps)]
            rw [show cps.toList = [ch] from hch]
        rw [this]
      · cases e
    | _ => simp only [oInS] at e; cases e
  | _ => simp only [oInS] at e; cases e
theorem o_inK : Cp2 K c (fun x y H (Q : VK) => ∃ a o, y = .ref a ∧ DGet H a x o ∧ Q (.bl o.isSome) H) oDIn := by
  intro ρ σ Hs H x y vx vy k Q st rx ry e q
  cases ry with
  | @dic l kvs ds h1 h2 =>
    simp only [oDIn] at e
    split at e
    · rename_i hk
      cases e
      obtain ⟨j, rfl, rfl⟩ := key_of rx hk
      rcases h2.get j with ⟨n1, n2⟩ | ⟨u, dd, v1, v2, r⟩
      · refine ⟨l, none, rfl, ?_, ?_⟩
        · rw [← n1]
          exact DGet.k (st.sub _ _ h1)
        · rw [n2] at q
          exact q
      · refine ⟨l, some u, rfl, ?_, ?_⟩
        · rw [← v1]
          exact DGet.k (st.sub _ _ h1)
        · rw [v2] at q
          exact q
    · cases e
  | _ => simp only [oDIn] at e; cases e
def rIn3 (K : PySem.W.Frag) : R2 := fun x y H Q => (rInD K x y H Q ∨ rIn K false x y H Q) ∨ ∃ (k : Nat) (z : Str), x = .str ⟨#[k]⟩ ∧ y = .str z ∧ Q (.bl (decide (k ∈ z.cps.toList))) H
def oIn3 (a : D) : D → Option Bool
  | .str y => oInS a (.str y)
  | b => oIn a b
theorem op_in3 (hu : X.A.units + 65 < cLine) : OpR X (compareOp .In) (rIn3 X.K) := ((op_inD hu).or op_in_seq).or op_in_sign
theorem o_in3 : Cp2 X.K c (rIn3 X.K) oIn3 := by
  intro ρ σ Hs H x y vx vy k Q st rx ry e q
  cases y with
  | str z => exact .inr (o_inS ρ σ Hs H x _ vx vy k Q st rx ry e q)
  | lst ds => exact .inl (.inl (o_inL ρ σ Hs H x _ vx vy k Q st rx ry e q))
  | tup ds => exact .inl (.inr (o_inT ρ σ Hs H x _ vx vy k Q st rx ry e q))
  | _ => simp only [oIn3, oIn] at e; cases e
theorem ev_inK {K : PySem.W.Frag} {mg : Str → Option Value} {ta tb : TE} (ha : Ev K mg c ta (pV K c) ma) (hb : Ev K mg c tb (pV K c) mb) : Ev K mg c (L2.tB (tDIn ta tb)) pB (t2 oDIn ma mb) := by
  have h := ev_two (u := fun x y H (Q : Bool → Hp → Prop) => ∃ a o, y = .ref a ∧ DGet H a x o ∧ ∃ k, V.bl o.isSome = .bl k ∧ Q k H) (P' := pB) (f := fun x y => opt (oDIn x y)) ha hb fun x y vx vy ρ σ Hs H Q st rx ry g => by
    obtain ⟨z, e, g⟩ := goal_opt g
    exact o_inK ρ σ Hs H x y vx vy z (fun v H' => ∃ k, v = .bl k ∧ Q k H') st rx ry e ⟨z, rfl, g z Hs H st (Ex.refl _) rfl⟩
  exact h
theorem inA_split (ρ : Env) : t2 oInA ma mb ρ = t2 oIn3 ma mb ρ ∨ t2 oInA ma mb ρ = t2 oDIn ma mb ρ := by
  unfold t2 bind
  cases val ma ρ with
  | bad => exact .inl rfl
  | err er ρ' => exact .inl rfl
  | ok x ρ1 =>
    simp only
    cases val mb ρ1 with
    | bad => exact .inl rfl
    | err er ρ' => exact .inl rfl
    | ok y ρ2 =>
      cases y with
      | dic kvs => exact .inr rfl
      | _ => exact .inl rfl
theorem t_in (hu : X.A.units + 65 < cLine) (hu1 : X.A.units + 1 < cLine) (ha : DE X c a ma) (hb : DE X c b mb) (hm : behindInMarks .In b = false := by rfl) : DT X c (.Compare a [.In] [b] pos) (t2 oInA ma mb) :=
  ptd (pt_or2 (pt_cmpR (op_in3 hu) ha hb hm) (pt_cmp (pc_din hu1 ha hb) hm)) (ev_or2 (ev_cp2 o_in3 ev_te ev_te) (ev_inK ev_te ev_te) inA_split)
def rNi3 (K : PySem.W.Frag) : R2 := fun x y H Q => (rNotInD K x y H Q ∨ rIn K true x y H Q) ∨ ∃ (k : Nat) (z : Str), x = .str ⟨#[k]⟩ ∧ y = .str z ∧ Q (.bl (!decide (k ∈ z.cps.toList))) H
def oNi3 (a b : D) : Option Bool := (oIn3 a b).map (!·)
theorem op_ni3 (hu : X.A.units + 65 < cLine) : OpR X (compareOp .NotIn) (rNi3 X.K) := ((op_notInD hu).or op_notIn_seq).or op_notIn_sign
theorem o_ni3 : Cp2 X.K c (rNi3 X.K) oNi3 := by
  intro ρ σ Hs H x y vx vy k Q st rx ry e q
  unfold oNi3 at e
  rw [Option.map_eq_some_iff] at e
  obtain ⟨k', e, rfl⟩ := e
  cases y with
  | str z =>
    obtain ⟨ch, z', e1, e2, e3⟩ := o_inS ρ σ Hs H x _ vx vy k' (fun v _ => v = .bl k') st rx ry e rfl
    cases e3
    exact .inr ⟨ch, z', e1, e2, q⟩
  | lst ds =>
    obtain ⟨d, ds', e1, e2, e3, e4, e5⟩ := o_inL ρ σ Hs H x _ vx vy k' (fun v _ => v = .bl k') st rx ry e rfl
    cases e5
    exact .inl (.inl ⟨d, ds', e1, e2, e3, e4, q⟩)
  | tup ds =>
    obtain ⟨p, xs, e1, e2, e3, e4, e5⟩ := o_inT ρ σ Hs H x _ vx vy k' (fun v _ => v = .bl k') st rx ry e rfl
    rw [if_neg Bool.false_ne_true] at e5
    cases e5
    exact .inl (.inr ⟨p, xs, e1, e2, e3, e4, by rw [if_pos rfl]; exact q⟩)
  | _ => simp only [oIn3, oIn] at e; cases e
theorem ev_niK {K : PySem.W.Frag} {mg : Str → Option Value} {ta tb : TE} (ha : Ev K mg c ta (pV K c) ma) (hb : Ev K mg c tb (pV K c) mb) : Ev K mg c (L2.tB (tDNotIn ta tb)) pB (t2 (fun x y => (oDIn x y).map (!·)) ma mb) := by
  have h := ev_two (u := fun x y H (Q : Bool → Hp → Prop) => ∃ a o, y = .ref a ∧ DGet H a x o ∧ ∃ k, V.bl (!o.isSome) = .bl k ∧ Q k H) (P' := pB) (f := fun x y => opt ((oDIn x y).map (!·))) ha hb fun x y vx vy ρ σ Hs H Q st rx ry g => by
    obtain ⟨z, e, g⟩ := goal_opt g
    rw [Option.map_eq_some_iff] at e
    obtain ⟨z', e, rfl⟩ := e
    obtain ⟨a, o, e1, e2, e3⟩ := o_inK ρ σ Hs H x y vx vy z' (fun v H' => v = .bl z') st rx ry e rfl
    cases e3
    exact ⟨a, o, e1, e2, _, rfl, g _ Hs H st (Ex.refl _) rfl⟩
  exact h
theorem niA_split (ρ : Env) : t2 oNotInA ma mb ρ = t2 oNi3 ma mb ρ ∨ t2 oNotInA ma mb ρ = t2 (fun x y => (oDIn x y).map (!·)) ma mb ρ := by
  unfold t2 bind
  cases val ma ρ with
  | bad => exact .inl rfl
  | err er ρ' => exact .inl rfl
  | ok x ρ1 =>
    simp only
    cases val mb ρ1 with
    | bad => exact .inl rfl
    | err er ρ' => exact .inl rfl
    | ok y ρ2 =>
      cases y with
      | dic kvs => exact .inr rfl
      | _ => exact .inl rfl
theorem t_ni (hu : X.A.units + 65 < cLine) (hu1 : X.A.units + 1 < cLine) (ha : DE X c a ma) (hb : DE X c b mb) (hm : behindInMarks .NotIn b = false := by rfl) : DT X c (.Compare a [.NotIn] [b] pos) (t2 oNotInA ma mb) :=
  ptd (pt_or2 (pt_cmpR (op_ni3 hu) ha hb hm) (pt_cmp (pc_dnotin hu1 ha hb) hm)) (ev_or2 (ev_cp2 o_ni3 ev_te ev_te) (ev_niK ev_te ev_te) niA_split)
/-- .. as values -/
theorem ev_inKV {K : PySem.W.Frag} {mg : Str → Option Value} {ta tb : TE} {f : D → D → Option Bool} {u : V → V → Hp → VK → Prop} (hu : ∀ ρ σ Hs H x y vx vy k Q, StR K c ρ σ Hs H → R K Hs vx x → R K Hs vy y → f x y = some k → Q (.bl k) H → u vx vy H Q)
    (ha : Ev K mg c ta (pV K c) ma) (hb : Ev K mg c tb (pV K c) mb) : Ev K mg c (fun σ H Q => ta σ H fun x H1 => tb σ H1 fun y H2 => u x y H2 Q) (pV K c) (eT (t2 f ma mb)) := ev_cpV (r := u) hu ha hb
theorem d_in (hu : X.A.units + 65 < cLine) (hu1 : X.A.units + 1 < cLine) (ha : DE X c a ma) (hb : DE X c b mb) (hm : behindInMarks .In b = false := by rfl) : DE X c (.Compare a [.In] [b] pos) (eT (t2 oInA ma mb)) :=
  ped (pe_or2 (pe_cmpR (op_in3 hu) ha hb hm) (pe_cmp (pc_din hu1 ha hb) hm)) (ev_or2 (ev_cpV o_in3 ev_te ev_te) (ev_inKV (f := oDIn) (u := fun x y H Q => ∃ a o, y = .ref a ∧ DGet H a x o ∧ Q (.bl o.isSome) H) o_inK ev_te ev_te) fun ρ => by
    unfold eT bind
    rcases inA_split (ma := ma) (mb := mb) ρ with e | e
    · rw [e]
      exact .inl rfl
    · rw [e]
      exact .inr rfl)
theorem d_ni (hu : X.A.units + 65 < cLine) (hu1 : X.A.units + 1 < cLine) (ha : DE X c a ma) (hb : DE X c b mb) (hm : behindInMarks .NotIn b = false := by rfl) : DE X c (.Compare a [.NotIn] [b] pos) (eT (t2 oNotInA ma mb)) :=
  ped (pe_or2 (pe_cmpR (op_ni3 hu) ha hb hm) (pe_cmp (pc_dnotin hu1 ha hb) hm)) (ev_or2 (ev_cpV o_ni3 ev_te ev_te) (ev_inKV (f := fun x y => (oDIn x y).map (!·)) (u := fun x y H Q => ∃ a o, y = .ref a ∧ DGet H a x o ∧ Q (.bl (!o.isSome)) H) (fun ρ σ Hs H x y vx vy k Q st rx ry e q => by
    rw [Option.map_eq_some_iff] at e
    obtain ⟨z', e, rfl⟩ := e
    obtain ⟨a, o, e1, e2, e3⟩ := o_inK ρ σ Hs H x y vx vy z' (fun v H' => v = .bl z') st rx ry e rfl
    cases e3
    exact ⟨a, o, e1, e2, q⟩) ev_te ev_te) fun ρ => by
    unfold eT bind
    rcases niA_split (ma := ma) (mb := mb) ρ with e | e
    · rw [e]
      exact .inl rfl
    · rw [e]
      exact .inr rfl)
/-! ### calls of defs -/
theorem b_nil : DB X c [] [] := ⟨fun pos pins s σ H Q I ⟨ρ, Hs, st, g⟩ => pa_nil.run pos pins s σ H Q I (ev_anil ρ σ Hs H Q st g)⟩
theorem b_v {es : List Expr} {as : List Ar} (ha : DE X c a ma) (hr : DB X c es as) (hs : starEach (a :: es) X.env = (false, eval a X.env) :: starEach es X.env := by rfl) : DB X c (a :: es) (.v ma :: as) :=
  ⟨fun pos pins s σ H Q I ⟨ρ, Hs, st, g⟩ => (pa_cons ha hr hs).run pos pins s σ H Q I (ev_aval ev_te ev_self ρ σ Hs H Q st g)⟩
theorem b_b (i : Nat) {x : Str} {es : List Expr} {as : List Ar} (hr : DB X c es as) (hN : X.N[i]? = some x := by rfl) (hv : Vis X.env.scope x := by first | exact Or.inl rfl | exact Or.inr (Or.inl rfl) | exact Or.inr (Or.inr rfl)) (hd : (x == ("__debug__" : Str)) = false := by decide)
    (hcd : (x == ("__classdict__" : Str)) = false := by decide) (hs : starEach ((.Name x p) :: es) X.env = (false, eval (.Name x p) X.env) :: starEach es X.env := by rfl) : DB X c ((.Name x p) :: es) (.b i :: as) :=
  ⟨fun pos pins s σ H Q I ⟨ρ, Hs, st, g⟩ => (pa_cons (pe_var hN hv hd hcd) hr hs).run pos pins s σ H Q I (ev_abor ev_self ρ σ Hs H Q st g)⟩
theorem argv_len : ∀ (as : List Ar) (ρ : Env) (xs : List (D ⊕ Nat)) (ρ' : Env), argv as ρ = .ok xs ρ' → xs.length = as.length
  | [], ρ, xs, ρ', h => by
    cases h
    rfl
  | .v m :: r, ρ, xs, ρ', h => by
    unfold argv bind at h
    split at h
    · cases h
    · cases h
    · simp only at h
      split at h
      · cases h
      · cases h
      · rename_i h2
        cases h
        simp only [List.length_cons, argv_len r _ _ _ h2]
  | .b i :: r, ρ, xs, ρ', h => by
    unfold argv at h
    split at h
    · unfold bind at h
      split at h
      · cases h
      · cases h
      · rename_i h2
        cases h
        simp only [List.length_cons, argv_len r _ _ _ h2]
    · cases h
theorem passAny {X : Cx} {E : XK} : Passes CX0 X E := fun _ _ _ _ _ _ _ h => h.elim
theorem d_call {k n : Nat} {x : Str} {F : FD} {es : List Expr} {as : List Ar} (C : Cal X.prog X.w X.K X.mg X.base k x n F) (hr : Room k X.A) (hg : Gl X x) (hn : as.length = n) (ha : DB X c (a :: es) as) (hdb : (x == ("__debug__" : Str)) = false := by decide)
    (he : starEach (a :: es) X.env = (false, eval a X.env) :: starEach es X.env := by rfl) (hpl : (backTo pos (starEach es X.env)).any (·.1) = false := by rfl) : DE X c (.Call (.Name x p) (a :: es) [] pos) (eCall F as) := by
  obtain ⟨f, fd, ps, hp, hf, hm, hk, hb⟩ := C.ex
  exact ped (pe_call (dvs := []) (E := c.E) hf hr hg hm hk hb .nil passAny ha hdb he hpl) (ev_call ev_self fun ρ xs ρ' h => by rw [argv_len _ _ _ _ h, hn])
/-! ### what is walked -/
theorem pid {tg it : Expr} {wi : TI} {m : M (List D)} (h : PI X tg it wi) (ev : Ev X.K X.mg c wi (pI X.K) m) : DI X c tg it m := ⟨fun pins s σ H R I ⟨ρ, Hs, st, g⟩ => h.run pins s σ H R I (ev ρ σ Hs H R st g)⟩
theorem pi_or2 {tg it : Expr} {t u : TI} (h : PI X tg it t) (h' : PI X tg it u) : PI X tg it (fun σ H R => t σ H R ∨ u σ H R) := ⟨fun pins s σ H R I q => q.elim (h.run pins s σ H R I) (h'.run pins s σ H R I)⟩
theorem ev_srcL {K : PySem.W.Frag} {mg : Str → Option Value} {te : TE} (h : Ev K mg c te (pV K c) ma) : Ev K mg c (iList K te) (pI K) (srcL ma) :=
  ev_bind (u := fun σ (x : V) H (Q : It → Hp → Prop) => ∃ a, x = .ref a ∧ (∃ xs, SqL K H a xs) ∧ Q (Itl K a) H) (ev_val h) fun d v ρ σ Hs H Q st r g => by
    cases r with
    | @lst a xs ds h1 h2 =>
      refine ⟨a, rfl, ⟨xs, SqL.of (st.sub _ _ h1)⟩, g _ Hs H st (Ex.refl _) ⟨_, _, (by rw [← h2.length]; exact walk_list (xs := xs)), fun H' e => SqL.of (e _ _ h1), fun i H' x H'' hi e y => ?_⟩⟩
      obtain ⟨rfl, y2⟩ := y
      obtain ⟨d, z1, z2⟩ := h2.getV y2
      exact ⟨d, z1, .inl ⟨rfl, z2⟩⟩
    | _ => exact g.elim
theorem ev_srcT {K : PySem.W.Frag} {mg : Str → Option Value} {te : TE} (h : Ev K mg c te (pV K c) ma) : Ev K mg c (iTup K te) (pI K) (srcT ma) :=
  ev_bind (u := fun σ (x : V) H (Q : It → Hp → Prop) => ∃ a, x = .ref a ∧ (∃ xs, SqT K H a xs) ∧ Q (Itt K a) H) (ev_val h) fun d v ρ σ Hs H Q st r g => by
    cases r with
    | @tup a xs ds h1 h2 =>
      refine ⟨a, rfl, ⟨xs, ex_t st.sub h1⟩, g _ Hs H st (Ex.refl _) ⟨_, _, (by rw [← h2.length]; exact walk_tup (xs := xs)), fun H' e => ex_t e h1, fun i H' x H'' hi e y => ?_⟩⟩
      obtain ⟨rfl, y2⟩ := y
      obtain ⟨d, z1, z2⟩ := h2.getV y2
      exact ⟨d, z1, .inl ⟨rfl, z2⟩⟩
    | _ => exact g.elim
theorem i_seq {tg : Expr} (ha : DE X c a ma) : DI X c tg a (srcSeq ma) :=
  pid (pi_or2 (pi_list ha) (pi_tup ha)) (ev_or2 (ev_srcL ev_te) (ev_srcT ev_te) fun ρ => by
    unfold srcSeq srcL srcT bind
    cases val ma ρ with
    | bad => exact .inl rfl
    | err er ρ' => exact .inl rfl
    | ok x ρ1 =>
      cases x with
      | tup ds => exact .inr rfl
      | _ => exact .inl rfl)
theorem i_r1 {tg : Expr} (hg : Gl X "range") (hm : X.mg "range" = none) (ha : DE X c a ma) (hs : starEach [a] X.env = [(false, eval a X.env)] := by rfl) : DI X c tg (.Call (.Name "range" p) [a] [] pos) (srcR1 ma) := pid (pi_range1 hg hm (pa_cons ha pa_nil hs) hs) (ev_srcR1 ev_te)
theorem i_r2 {tg : Expr} (hg : Gl X "range") (hm : X.mg "range" = none) (ha : DE X c a ma) (hb : DE X c b mb) (hs : starEach [a, b] X.env = [(false, eval a X.env), (false, eval b X.env)] := by rfl) (hs2 : starEach [b] X.env = [(false, eval b X.env)] := by rfl) (hs3 : starEach [a, b] X.env = (false, eval a X.env) :: starEach [b] X.env := by rfl) :
    DI X c tg (.Call (.Name "range" p) [a, b] [] pos) (srcR2 ma mb) := pid (pi_range2 hg hm (pa_cons ha (pa_cons hb pa_nil hs2) hs3) hs hs2) (ev_srcR2 ev_te ev_te)
theorem i_enum {tpos : Pos} {elts : List Expr} {kk : Nat} (hg : Gl X "enumerate") (hm : X.mg "enumerate" = none) (ha : DE X c a ma) (hs : starEach [a] X.env = [(false, eval a X.env)] := by rfl) : DI X c (.Tuple elts kk tpos) (.Call (.Name "enumerate" p) [a] [] pos) (srcEnum ma) := pid (pi_enum hg hm (pa_cons ha pa_nil hs) hs) (ev_srcEnum ev_te)
theorem zipD_get : ∀ (xs ys : List D) (i : Nat) (x y : D), xs[i]? = some x → ys[i]? = some y → (zipD xs ys)[i]? = some (.tup [x, y])
  | [], _, _, _, _, h, _ => by simp at h
  | _ :: _, [], _, _, _, _, h => by simp at h
  | a :: xs, b :: ys, 0, x, y, h, h' => by
    simp at h h'
    subst h h'
    rfl
  | a :: xs, b :: ys, i + 1, x, y, h, h' => by
    simp only [zipD, List.getElem?_cons_succ]
    exact zipD_get xs ys i x y (by simpa using h) (by simpa using h')
theorem zipD_len : ∀ (xs ys : List D), (zipD xs ys).length = min xs.length ys.length
  | [], _ => by simp [zipD]
  | _ :: _, [] => by simp [zipD]
  | a :: xs, b :: ys => by
    simp only [zipD, List.length_cons, zipD_len xs ys]
    omega
theorem ev_srcZip {K : PySem.W.Frag} {mg : Str → Option Value} {ta tb : TE} (ha : Ev K mg c ta (pV K c) ma) (hb : Ev K mg c tb (pV K c) mb) : Ev K mg c (iZip K (tCons ta (tCons tb tNil))) (pI K) (srcZip ma mb) :=
  ev_two (u := fun (x y : V) H (Q : It → Hp → Prop) => ∃ a b xs ys, [x, y] = [.ref a, .ref b] ∧ SqL K H a xs ∧ SqL K H b ys ∧ Q (Itz K a b) H) ha hb fun d e v w ρ σ Hs H Q st r1 r2 g => by
    cases r1 with
    | @lst a xs ds h1 h2 =>
      cases r2 with
      | @lst b ys es h3 h4 =>
        refine ⟨a, b, xs, ys, rfl, SqL.of (st.sub _ _ h1), SqL.of (st.sub _ _ h3), g _ Hs H st (Ex.refl _) ⟨_, _, walk_zip (xs := xs) (ys := ys) (by rw [zipD_len, h2.length, h4.length]), fun H' e => ⟨SqL.of (e _ _ h1), SqL.of (e _ _ h3)⟩, fun i H' x H'' hi e y => ?_⟩⟩
        obtain ⟨T, x1, x2, rfl, y2, rfl, y4, y5⟩ := y
        obtain ⟨d1, z1, z2⟩ := h2.getV y4
        obtain ⟨d2, z3, z4⟩ := h4.getV y5
        exact ⟨_, zipD_get ds es i d1 d2 z1 z3, .inr ⟨T, _, _, d1, d2, rfl, y2, rfl, rfl, z2, z4⟩⟩
      | _ => exact g.elim
    | _ => exact g.elim
theorem i_zip {tpos : Pos} {elts : List Expr} {kk : Nat} (hg : Gl X "zip") (hm : X.mg "zip" = none) (ha : DE X c a ma) (hb : DE X c b mb) (hs : starEach [a, b] X.env = (false, eval a X.env) :: starEach [b] X.env := by rfl) (hs2 : starEach [b] X.env = (false, eval b X.env) :: starEach [] X.env := by rfl) (hpl : (backTo pos (starEach [b] X.env)).any (·.1) = false := by rfl) :
    DI X c (.Tuple elts kk tpos) (.Call (.Name "zip" p) [a, b] [] pos) (srcZip ma mb) := pid (pi_zip hg hm (pa_cons ha (pa_cons hb pa_nil hs2) hs) hs hpl) (ev_srcZip ev_te ev_te)
/-! ### comprehensions -/
abbrev DIfs (X : Cx) (c : Cxt) (ifs : List Expr) (t : T) : Prop := PTs X ifs (ttOf X.K X.mg c t)
theorem f_nil : DIfs X c [] Dn.tYes := ⟨fun pins s σ H Q I ⟨ρ, Hs, st, g⟩ => pts_nil.run pins s σ H Q I (g true Hs H st (Ex.refl _) rfl)⟩
theorem f_one {t : T} (h : DT X c a t) : DIfs X c [a] t := pts_one h
section
variable {elt tg iter : Expr} {ifs : List Expr} {scope : Scope} {own : List (Str × Nat)} {g : TG} {tgd : Tg} {is : List Nat} {src : M (List D)} {t : T} {m : E}
theorem lc_t (ht : ∀ c' : Cxt, c'.E = noErr → ∀ (s : Shared) (H : Hp) (C : Addr) (cl : List (Str × Addr)) (fp : List Addr), DIfs (X.blk s H scope (compEnvC scope cl C X.env) fp) c' ifs t) (s : Shared) (H : Hp) (C : Addr) (cl : List (Str × Addr)) (fp : List Addr) :
    PTs (X.blk s H scope (compEnvC scope cl C X.env) fp) ifs (tIn X.K X.mg t) := ⟨fun pins s' σ H' Q I ⟨c', hc, h⟩ => (ht c' hc s H C cl fp).run pins s' σ H' Q I h⟩
theorem lc_e (he : ∀ c' : Cxt, c'.E = noErr → ∀ (s : Shared) (H : Hp) (C : Addr) (cl : List (Str × Addr)) (fp : List Addr), DE (X.blk s H scope (compEnvC scope cl C X.env) fp) c' elt m) (s : Shared) (H : Hp) (C : Addr) (cl : List (Str × Addr)) (fp : List Addr) :
    PE (X.blk s H scope (compEnvC scope cl C X.env) fp) elt (eIn X.K X.mg m) := ⟨fun pins s' σ H' Q I ⟨c', hc, ρ, Hs, st, g⟩ => (he c' hc s H C cl fp).run pins s' σ H' Q I (by
      -- from the frozen value to the value
      refine ⟨ρ, Hs, st, ?_⟩
      have h := ev_val (ev_self (K := X.K) (mg := X.mg) (c := c') (P := pV X.K c') (m := m)) 
      revert g
      unfold val bind
      cases m ρ with
      | bad => exact fun g => g
      | err er ρ' => exact fun g => g
      | ok r ρ' =>
        intro g v Hs' H'' st' ex p
        cases r with
        | d d => exact g v Hs' H'' st' ex p
        | o k =>
          obtain ⟨l, rfl, h2, h3, h4, h5⟩ := p
          obtain ⟨o, ho⟩ := h2.there
          have ex2 : Ex Hs' (upd Hs' l o) := Ex.new h3
          refine g (.ref l) (upd Hs' l o) H'' ⟨fun a u e => ?_, st'.old.trans ex2, st'.keep, st'.live, fun a q1 q2 => ?_, st'.len, fun i d e => ?_, fun i k' e => ?_, fun i k' e => ?_, st'.apart⟩ (ex.trans ex2) (h2.share h3 ho)
          · by_cases q : a = l
            · subst q
              rw [upd_same] at e
              rw [ho, e]
            · rw [upd_ne q] at e
              exact st'.sub _ _ e
          · have q : a ≠ l := fun z => q2 (by rw [z]; exact h4)
            rw [upd_ne q]
            exact st'.hs a q1 q2
          · obtain ⟨v', a1, a2⟩ := st'.val i d e
            exact ⟨v', a1, a2.mono ex2⟩
          · obtain ⟨l', a1, a2, a3, a4⟩ := st'.own i k' e
            have q : l' ≠ l := fun z => h5 i _ e rfl (by rw [a1, z])
            exact ⟨l', a1, a2.mono ex2 rfl, by rw [upd_ne q]; exact a3, a4⟩
          · obtain ⟨l', a1, a2, a3, a4⟩ := st'.bor i k' e
            have q : l' ≠ l := fun z => h5 i _ e rfl (by rw [a1, z])
            exact ⟨l', a1, a2.mono ex2 rfl, by rw [upd_ne q]; exact a3, a4⟩)⟩
theorem d_lc (hc : X.calm = true) (hN : X.N.Nodup) (hi : DI X c tg iter src) (ok : BlkOk X.N X.env.scope scope own) (hg : ∀ (s : Shared) (H : Hp) (C : Addr) (cl : List (Str × Addr)) (fp : List Addr), PG (X.blk s H scope (compEnvC scope cl C X.env) fp) tg g)
    (hgd : ∀ c' : Cxt, EvG X.K c' g tgd is) (hsub : ∀ i ∈ is, i ∈ own.map (·.2)) (ht : ∀ c' : Cxt, c'.E = noErr → ∀ (s : Shared) (H : Hp) (C : Addr) (cl : List (Str × Addr)) (fp : List Addr), DIfs (X.blk s H scope (compEnvC scope cl C X.env) fp) c' ifs t)
    (he : ∀ c' : Cxt, c'.E = noErr → ∀ (s : Shared) (H : Hp) (C : Addr) (cl : List (Str × Addr)) (fp : List Addr), DE (X.blk s H scope (compEnvC scope cl C X.env) fp) c' elt m) (hs : ∀ x, foldedSetIterable iter X.env x = pure x := by intro _; rfl) :
    DE X c (.ListComp elt [⟨tg, iter, ifs, 0⟩] scope pos) (eLc (own.map (·.2)) src tgd t m) :=
  ped (pe_lc hc hN hi ok hg (lc_t ht) (lc_e he) hs) (ev_lc ev_self hgd hsub)
end
/-! ### statements -/
theorem psd {s : Stmt} {t : TS} {m : S} (h : PS X s t) (ev : EvS X.K X.mg c t m) : DS X c s m := ⟨fun pins s σ H D I ⟨ρ, Hs, st, g⟩ => h.run pins s σ H D I (ev ρ σ Hs H D st g)⟩
theorem pssd {s : List Stmt} {t : TS} {m : S} (h : PSs X s t) (ev : EvS X.K X.mg c t m) : DSs X c s m := ⟨fun pins s σ H D I ⟨ρ, Hs, st, g⟩ => h.run pins s σ H D I (ev ρ σ Hs H D st g)⟩
theorem ss_nil : DSs X c [] sNil := pssd pss_nil evs_nil
theorem ss_one {s : Stmt} {m : S} (h : DS X c s m) : DSs X c [s] m := pss_one h
theorem ss_cons {s : Stmt} {r : List Stmt} {m n : S} (h : DS X c s m) (h' : DSs X c r n) : DSs X c (s :: r) (sSeq m n) := pssd (pss_cons h h') (evs_seq evs_self evs_self)
theorem s_bad {s : Stmt} : DS X c s sBad := psd ps_never evs_bad
theorem s_pass : DS X c (.Pass pos) sNil := psd ps_pass evs_nil
theorem s_doc {x j p} : DS X c (.Expr (.Constant (.str x) j p) pos) sNil := psd ps_doc evs_nil
theorem s_bk : DS X c (.Break pos) sBk := psd ps_break evs_bk
theorem s_ct : DS X c (.Continue pos) sCt := psd ps_continue evs_ct
theorem s_ret (h : DE X c a ma) : DS X c (.Return (some a) pos) (sRet ma) := psd (ps_ret h) (evs_ret ev_te)
theorem s_retN : DS X c (.Return none pos) sRetN := psd ps_retN evs_retN
theorem s_expr (h : DE X c a ma) (hs : swapsWith a none pos.line X.env = pure false := by rfl) : DS X c (.Expr a pos) (sExp ma) := psd (ps_expr h hs) (evs_exp ev_te)
theorem s_if {t : T} {u w : List Stmt} {m n : S} (h : DT X c a t) (h1 : DSs X c u m) (h2 : DSs X c w n) : DS X c (.If a u w pos) (sIf t m n) := psd (ps_if h h1 h2) (evs_if ev_self evs_self evs_self)
theorem s_set (i : Nat) {x : Str} {pos' : Pos} (hN : X.N.Nodup) (h : DE X c a ma) (hi : X.N[i]? = some x := by rfl) (hx : Loc X.env.scope x := by first | exact Or.inl rfl | exact Or.inr rfl) (hs : swapsWith a (some (.Name x pos')) pos.line X.env = pure false := by rfl) (hf : X.fn x = true ∨ X.env.scope.names.lookup x = some .local := by first | exact Or.inl rfl | exact Or.inr rfl) :
    DS X c (.Assign [.Name x pos'] a pos) (sAsg i ma) := psd (ps_set hN hi hx h hs hf) (evs_asg ev_te)
section
variable {elt tg iter : Expr} {ifs : List Expr} {scope : Scope} {own : List (Str × Nat)} {g : TG} {tgd : Tg} {is : List Nat} {src : M (List D)} {t : T} {m : E} {spos : Pos}
/-- name = [..] -/
theorem s_lc (i : Nat) {y : Str} {py : Pos} (hc : X.calm = true) (hN : X.N.Nodup) (hy : X.N[i]? = some y) (hyl : X.env.scope.names.lookup y = some .local) (hsw : swapsWith (.ListComp elt [⟨tg, iter, ifs, 0⟩] scope pos) (some (.Name y py)) spos.line X.env = pure true) (hi : DI X c tg iter src) (ok : BlkOk X.N X.env.scope scope own)
    (hg : ∀ (s : Shared) (H : Hp) (C : Addr) (cl : List (Str × Addr)) (fp : List Addr), PG (X.blk s H scope (compEnvC scope cl C X.env) fp) tg g) (hgd : ∀ c' : Cxt, EvG X.K c' g tgd is) (hsub : ∀ i ∈ is, i ∈ own.map (·.2))
    (ht : ∀ c' : Cxt, c'.E = noErr → ∀ (s : Shared) (H : Hp) (C : Addr) (cl : List (Str × Addr)) (fp : List Addr), DIfs (X.blk s H scope (compEnvC scope cl C X.env) fp) c' ifs t)
    (he : ∀ c' : Cxt, c'.E = noErr → ∀ (s : Shared) (H : Hp) (C : Addr) (cl : List (Str × Addr)) (fp : List Addr), DE (X.blk s H scope (compEnvC scope cl C X.env) fp) c' elt m) (hs : ∀ x, foldedSetIterable iter X.env x = pure x := by intro _; rfl) :
    DS X c (.Assign [.Name y py] (.ListComp elt [⟨tg, iter, ifs, 0⟩] scope pos) spos) (sAsg i (eLc (own.map (·.2)) src tgd t m)) :=
  psd (ps_setLc hc hN hy hyl hsw hi ok hg (lc_t ht) (lc_e he) hs) (evs_asg (ev_lc ev_self hgd hsub))
end
/-- a, b = e -/
theorem s_unp {es : List Expr} {x1 : Nat} {tp : Pos} {is : List Nat} {n : Nat} {t : TGs} (hc : X.calm = true) (h : DE X c a ma) (hg : PGs X es t) (hgd : ∀ c' : Cxt, EvGs X.K c' t is) (hp : PG X (.Tuple es x1 tp) (gTup X.K n t)) (hn : is.length = n) (hs : swapsWithSole [.Tuple es x1 tp] a pos.line X.env = pure false := by rfl) (hw : swappedStores [.Tuple es x1 tp] a X.env = pure none := by rfl) :
    DS X c (.Assign [.Tuple es x1 tp] a pos) (sUnp is ma) := psd (ps_asg h hp hs hw) (evs_unp ev_te (hgd c) hn)
/-- x[k] = v, a list | a dict -/
theorem s_setI (i : Nat) {x : Str} {px tp : Pos} (h : DE X c a ma) (hp : PG X (.Subscript (.Name x px) b tp) (gSub (tVar i) (teOf X.K X.mg c mb) rSetL)) (hs : swapsWithSole [.Subscript (.Name x px) b tp] a pos.line X.env = pure false := by rfl) (hw : swappedStores [.Subscript (.Name x px) b tp] a X.env = pure none := by rfl) :
    DS X c (.Assign [.Subscript (.Name x px) b tp] a pos) (sSetI i mb ma) := psd (ps_asg h hp hs hw) (evs_setI ev_te ev_te)
theorem s_putK (i : Nat) {x : Str} {px tp : Pos} (hu : X.A.units + 1 < cLine) (hk : DE X c b mb) (h : DE X c a ma) (hN : X.N[i]? = some x := by rfl) (hv : Vis X.env.scope x := by first | exact Or.inl rfl | exact Or.inr (Or.inl rfl) | exact Or.inr (Or.inr rfl)) (hd : (x == ("__debug__" : Str)) = false := by decide)
    (hcd : (x == ("__classdict__" : Str)) = false := by decide) (hs : swapsWith a (some (.Subscript (.Name x px) b tp)) pos.line X.env = pure false := by rfl) :
    DS X c (.Assign [.Subscript (.Name x px) b tp] a pos) (sPutK i mb ma) := psd (ps_dput hu (pe_var hN hv hd hcd) hk h hs) (evs_putK ev_te ev_te)
theorem s_app (i : Nat) {x : Str} {px ap : Pos} {e : Expr} {m : E} (h : DE X c e m) (hp : PE X (.Call (.Attribute (.Name x px) "append" ap) [e] [] p) (tBM X.K "list" rAppend (tVar i) (tCons (teOf X.K X.mg c m) tNil))) (hs : swapsWith (.Call (.Attribute (.Name x px) "append" ap) [e] [] p) none pos.line X.env = pure false := by rfl) :
    DS X c (.Expr (.Call (.Attribute (.Name x px) "append" ap) [e] [] p) pos) (sApp i m) := psd (ps_expr hp hs) (evs_app ev_te)
theorem s_ext (i : Nat) {x : Str} {px ap : Pos} {e : Expr} {m : E} (h : DE X c e m) (hp : PE X (.Call (.Attribute (.Name x px) "extend" ap) [e] [] p) (tBM X.K "list" rExtend (tVar i) (tCons (teOf X.K X.mg c m) tNil))) (hs : swapsWith (.Call (.Attribute (.Name x px) "extend" ap) [e] [] p) none pos.line X.env = pure false := by rfl) :
    DS X c (.Expr (.Call (.Attribute (.Name x px) "extend" ap) [e] [] p) pos) (sExt i m) := psd (ps_expr hp hs) (evs_ext ev_te)
theorem s_for {tg iter : Expr} {body : List Stmt} {g : TG} {tgd : Tg} {is : List Nat} {src : M (List D)} {m : S} (hp : PassesOwn (model X.prog X.w) X.A X.env X.xe) (hc : X.calm = true) (hi : DI X c tg iter src) (hg : PG X tg g) (hgd : EvG X.K c g tgd is) (hb : DSs X c body m)
    (hs : ∀ x, foldedSetIterable iter X.env x = pure x := by intro _; rfl) : DS X c (.For tg iter body [] pos) (sFor src tgd m) := psd (ps_for hp hc hi hg hb hs) (evs_for ev_self hgd evs_self)
theorem s_while (n : Nat) {t : T} {body : List Stmt} {m : S} (hp : PassesOwn (model X.prog X.w) X.A X.env X.xe) (ht : DT X c a t) (hb : DSs X c body m) : DS X c (.While a body [] pos) (wh t m n) := psd (ps_while hp ht hb) (evs_while n ev_self evs_self)
end
end Dn
set_option Elab.async false
set_option linter.all false
set_option maxRecDepth 100000
set_option maxHeartbeats 4000000
/-! Dict displays, constants of the module, the script. -/
namespace Dn
open PySem L2
open Evl (Ex ex_l ex_t fresh_back)
theorem room65 {k : Nat} {A : Around} (r : Room k A) : A.units + 65 < cLine := by
  have := r.un
  omega
inductive Rp (K : PySem.W.Frag) (H : Hp) : List (V × V) → List (D × D) → Prop
  | nil : Rp K H [] []
  | cons {u v : V} {x y : D} {vs : List (V × V)} {ds : List (D × D)} : R K H u x → R K H v y → Rp K H vs ds → Rp K H ((u, v) :: vs) ((x, y) :: ds)
theorem Rp.keys {K : PySem.W.Frag} {H : Hp} : ∀ {ds : List (D × D)} {vs : List (V × V)}, Rp K H vs ds → (ds.all fun p => isKey p.1) = true → ∃ kvs : List (Key × V), vs = kvs.map (fun kv => (kV kv.1, kv.2)) ∧ Rk K H kvs ds ∧ kvs.length = ds.length
  | [], _, h, _ => by
    cases h
    exact ⟨[], rfl, .nil, rfl⟩
  | (x, y) :: ds, _, h, e => by
    cases h with
    | cons h1 h2 h3 =>
      simp only [List.all_cons, Bool.and_eq_true] at e
      obtain ⟨k, rfl, rfl⟩ := key_of h1 e.1
      obtain ⟨kvs, rfl, r, hl⟩ := Rp.keys h3 e.2
      exact ⟨(k, _) :: kvs, rfl, .cons h2 r, by simp only [List.length_cons, hl]⟩
section
variable {K : PySem.W.Frag} {mg : Str → Option Value} {c : Cxt}
def trsOf (K : PySem.W.Frag) (mg : Str → Option Value) (ps : List (E × E)) : List (TE × TE) := ps.map fun p => (eIn K mg p.1, eIn K mg p.2)
theorem pairs_in (hc : c.E = noErr) : ∀ (ps : List (E × E)) {ρ ρ' : Env} {σ : L2.St} {Hs H : Hp} {kvs : List (D × D)} {F : List (V × V) → Hp → Prop}, StR K c ρ σ Hs H → ePairs ps ρ = .ok kvs ρ' →
    (∀ vvs Hs' H', StR K c ρ' σ Hs' H' → Ex Hs Hs' → Rp K Hs' vvs kvs → F vvs H') → tPairs (trsOf K mg ps) σ H F
  | [], ρ, ρ', σ, Hs, H, kvs, F, st, h, k => by
    cases h
    exact k [] Hs H st (Ex.refl _) .nil
  | (a, b) :: ps, ρ, ρ', σ, Hs, H, kvs, F, st, h, k => by
    simp only [ePairs, Dn.bind] at h
    cases e1 : val a ρ with
    | bad =>
      simp only [e1] at h
      cases h
    | err er q =>
      simp only [e1] at h
      cases h
    | ok x ρ1 =>
      simp only [e1] at h
      cases e2 : val b ρ1 with
      | bad =>
        simp only [e2] at h
        cases h
      | err er q =>
        simp only [e2] at h
        cases h
      | ok y ρ2 =>
        simp only [e2] at h
        cases e3 : ePairs ps ρ2 with
        | bad =>
          simp only [e3] at h
          cases h
        | err er q =>
          simp only [e3] at h
          cases h
        | ok kv ρ3 =>
          simp only [e3] at h
          cases h
          refine ⟨c, hc, ρ, Hs, st, ?_⟩
          rw [e1]
          intro vx Hs1 H1 st1 ex1 rx
          refine ⟨c, hc, ρ1, Hs1, st1, ?_⟩
          rw [e2]
          intro vy Hs2 H2 st2 ex2 ry
          refine pairs_in hc ps st2 e3 fun vvs Hs3 H3 st3 ex3 rp => ?_
          exact k ((vx, vy) :: vvs) Hs3 H3 st3 ((ex1.trans ex2).trans ex3) (.cons (rx.mono (ex2.trans ex3)) (ry.mono ex3) rp)
theorem ev_disp (ps : List (E × E)) : Ev K mg c (tDisp (trsOf K mg ps)) (pV K c) (eDisp ps) := by
  intro ρ σ Hs H Q st g p hp
  unfold eDisp at g
  cases e : ePairs ps ρ with
  | bad =>
    simp only [e] at g
    exact g.elim
  | err er ρ' =>
    simp only [e] at g
    exact g.elim
  | ok kvs ρ' =>
    simp only [e] at g
    split at g
    · rename_i hk
      simp only [Bool.and_eq_true, decide_eq_true_eq] at hk
      have hD0 : c.H0 p = none := st.live p hp
      have hDs : Hs p = none := fresh_back st.sub hp
      have hDs0 : c.Hs0 p = none := fresh_back st.old hDs
      have nd : NoD ρ σ p := fun i s hs hc z => by
        obtain ⟨l, k, _, q1, q2, _⟩ := st.cont hs hc
        rw [q1] at z
        cases z
        obtain ⟨o, ho⟩ := q2.there
        rw [hp] at ho
        cases ho
      refine pairs_in (c := c.withD p (.dK [])) rfl ps ((st.newO hp).toD upd_same hDs nd) e fun vvs Hs' H' st' ex rp => ?_
      obtain ⟨s7, q1, q2, q4⟩ := st'.fromD hD0 hDs0
      obtain ⟨ks, rfl, rk, hl⟩ := rp.keys hk.1
      refine ⟨q1, ks, rfl, by rw [hl]; exact hk.2, ?_⟩
      exact g (.ref p) Hs' _ (s7.wr q1 q2 hD0 q4) ex ⟨p, rfl, ⟨_, upd_same, Rk.merge rk .nil⟩, q2, hD0, q4⟩
    · exact g.elim
end
section
variable {X : Cx} {c : Cxt} {pos : Pos}
/-- the pairs of a display: derived for any entry from which no error leaves -/
def DP (X : Cx) (pos : Pos) (ks : List (Option Expr)) (vs : List Expr) (ps : List (E × E)) : Prop := PPs X pos ks vs (trsOf X.K X.mg ps)
theorem eIn_of {a : Expr} {m : E} (h : ∀ c' : Cxt, c'.E = noErr → DE X c' a m) : PE X a (eIn X.K X.mg m) := ⟨fun pins s' σ H' Q I ⟨c', hc, ρ, Hs, st, g⟩ => by
  have h1 : PE X a (tfOf X.K X.mg c' (val m)) := ⟨fun pins s σ H Q I ⟨ρ, Hs, st, g⟩ => (h c' hc).run pins s σ H Q I ((ev_val ev_self) ρ σ Hs H Q st g)⟩
  exact h1.run pins s' σ H' Q I ⟨ρ, Hs, st, g⟩⟩
theorem dp_nil : DP X pos [] [] [] := pps_nil
theorem dp_cons {k v : Expr} {ks : List (Option Expr)} {vs : List Expr} {mk mv : E} {ps : List (E × E)} (hk : ∀ c' : Cxt, c'.E = noErr → DE X c' k mk) (hv : ∀ c' : Cxt, c'.E = noErr → DE X c' v mv) (hr : DP X pos ks vs ps) : DP X pos (some k :: ks) (v :: vs) ((mk, mv) :: ps) := pps_cons (eIn_of hk) (eIn_of hv) hr
theorem d_disp {ks : List (Option Expr)} {vs : List Expr} {ps : List (E × E)} (h : DP X pos ks vs ps) (hall : ks.all (·.isSome) = true := by rfl) (hl : ks.length = vs.length := by rfl) (h0 : ks ≠ [] := by exact fun z => nomatch z) (h15 : ks.length ≤ 15 := by decide) : DE X c (.Dict ks vs pos) (eDisp ps) := ped (pe_disp h hall hl h0 h15) (ev_disp ps)
theorem d_dict0 : DE X c (.Dict [] [] pos) (fun ρ => .ok (.o (.dic [])) ρ) := ped pe_dnewK fun ρ σ Hs H Q st g p hp => by
  refine g (.ref p) Hs _ (st.newO hp) (Ex.refl _) ⟨p, rfl, ⟨[], upd_same, .nil⟩, fresh_back st.sub hp, st.live p hp, fun i s e hc z => ?_⟩
  obtain ⟨l, k, _, h1, h2, _⟩ := st.cont e hc
  rw [h1] at z
  cases z
  obtain ⟨o, ho⟩ := h2.there
  rw [hp] at ho
  cases ho
/-- a constant of the module -/
structure Gv (K : PySem.W.Frag) (mg : Str → Option Value) (x : Str) (d : D) : Prop where
  ex : ∃ v u, mg x = some u ∧ RelV v u ∧ ∀ H, R K H v d
theorem d_glob {x : Str} {d : D} (h : Gv X.K X.mg x d) (hg : Gl X x) (hd : (x == ("__debug__" : Str)) = false := by decide) : DE X c (.Name x pos) (eC d) := by
  obtain ⟨v, u, h1, h2, h3⟩ := h.ex
  exact ped (pe_glob hg h1 h2 hd) (ev_c h3)
theorem ev_pkLen {K : PySem.W.Frag} {mg : Str → Option Value} {i : Nat} : Ev K mg c (tCB (fun xs H Q => (∃ x n, xs = [x] ∧ LenV K x H n ∧ Q (.int n) H) ∨ ∃ a kvs, xs = [V.ref a] ∧ H a = some (.dK kvs) ∧ Q (.int kvs.length) H) (tCons (tVar i) tNil)) (pV K c) (ePk1 oLenD i) := by
  intro ρ σ Hs H Q st g
  unfold ePk1 at g
  cases p : peek i ρ with
  | bad =>
    simp only [p] at g
    exact g.elim
  | err er ρ2 =>
    simp only [p] at g
    exact g.elim
  | ok x ρ2 =>
    simp only [p] at g
    obtain ⟨rfl, v, h1, h2⟩ := st.peek p
    refine ⟨v, h1, ?_⟩
    have hR := st.whole h2
    cases q : oLenD x with
    | none =>
      simp only [q] at g
      exact g.elim
    | some z =>
      simp only [q] at g
      show (∃ x n, [v] = [x] ∧ LenV K x H n ∧ Q (.int n) H) ∨ ∃ a kvs, [v] = [V.ref a] ∧ H a = some (.dK kvs) ∧ Q (.int kvs.length) H
      cases hR with
      | str s =>
        simp only [oLenD, oLen] at q
        split at q
        · rename_i hz
          split at hz
          · rename_i hl
            cases hz
            cases q
            exact .inl ⟨_, _, rfl, ⟨Evl.sz_of hl, rfl⟩, g _ Hs H st (Ex.refl _) (R.int _)⟩
          · cases hz
        · cases q
      | tup h3 h4 =>
        simp only [oLenD, oLen] at q
        cases q
        exact .inl ⟨_, _, rfl, .inr ⟨_, h3, rfl⟩, g _ Hs H st (Ex.refl _) (by rw [h4.length]; exact R.int _)⟩
      | lst h3 h4 =>
        simp only [oLenD, oLen] at q
        cases q
        exact .inl ⟨_, _, rfl, .inl ⟨_, SqL.of h3, rfl⟩, g _ Hs H st (Ex.refl _) (by rw [h4.length]; exact R.int _)⟩
      | dic h3 h4 =>
        simp only [oLenD, oLen] at q
        cases q
        exact .inr ⟨_, _, rfl, h3, g _ Hs H st (Ex.refl _) (by rw [h4.length]; exact R.int _)⟩
      | _ => simp [oLenD, oLen] at q
theorem d_pkLen (i : Nat) {x : Str} {p px : Pos} (hg : Gl X "len") (hm : X.mg "len" = none) (hN : X.N[i]? = some x := by rfl) (hv : Vis X.env.scope x := by first | exact Or.inl rfl | exact Or.inr (Or.inl rfl) | exact Or.inr (Or.inr rfl)) (hd : (x == ("__debug__" : Str)) = false := by decide)
    (hcd : (x == ("__classdict__" : Str)) = false := by decide) (he : starEach [.Name x px] X.env = (false, eval (.Name x px) X.env) :: starEach [] X.env := by rfl) (hpl : (backTo pos (starEach [] X.env)).any (·.1) = false := by rfl) : DE X c (.Call (.Name "len" p) [.Name x px] [] pos) (ePk1 oLenD i) :=
  ped (pe_callB (call_len.or call_lenD) hg hm PySem.boot_len (pa_cons (pe_var hN hv hd hcd) pa_nil he) (by decide) (by decide) he hpl) ev_pkLen
end
end Dn
set_option Elab.async false
set_option linter.all false
set_option maxRecDepth 100000
set_option maxHeartbeats 4000000
/-! The law itself, from its denotation. -/
namespace Dn
open PySem L2
open Evl (Ex ex_l ex_t fresh_back)
def spLaw (K : PySem.W.Frag) : Sp := fun vs H Q _ => ∃ (a : Addr) (ns : List Int), vs = [.ref a] ∧ SqL K H a (ns.map V.int) ∧ ns.length ≤ 63 ∧ ∀ H', Q (.bl true) H'
theorem law_imp {K : PySem.W.Frag} {mg : Str → Option Value} {F : FD} (hF : ∀ ns : List Int, ns.length ≤ 63 → ∃ sl, F [.val (.scr ns)] = .ok (.d (.bl true)) sl) : ∀ vs H Q E, spLaw K vs H Q E → spF K mg 1 F vs H Q E := by
  rintro vs H Q E ⟨a, ns, rfl, hS, hl, q⟩
  obtain ⟨sl, e⟩ := hF ns hl
  refine ⟨rfl, H, [.val (.scr ns)], fun _ => none, fun i l h => (nomatch h), ?_, ?_⟩
  · refine ⟨Ex.refl _, Ex.refl _, fun a o h _ => h, fun a h => h, fun a h1 h2 => absurd h1 h2, rfl, fun i d h => ?_, fun i k h => ?_, fun i k h => ?_, fun i j l si sj hn hi hj ci cj => ?_⟩
    · match i, h with
      | 0, h =>
        cases h
        exact ⟨_, rfl, .scr hS⟩
    · match i, h with
      | 0, h => cases h
    · match i, h with
      | 0, h => cases h
    · match i, hi with
      | 0, hi =>
        cases hi
        cases ci
  · rw [e]
    intro b Hs' H' st ex p
    have p : R K Hs' b (.bl true) := p
    cases p
    exact q H'
end Dn
set_option linter.all false
set_option maxHeartbeats 2000000
/-! What every law draws by: its stream of digits; and its comparison. -/
namespace Dn
open PySem
def bStream : S := sRet (eLst [e1 oList (eV 0), eC (.int 0), eC (.int 0)])
def gStream : FD := fn 1 bStream
def bNext : S := sSeq (sIf (t2 oEq (ePk2 oIxD 0 (eC (.int 1))) (eC (.int 0))) (sSeq (sAsg 2 (ePk2 oIxD 0 (eC (.int 2))))
    (sSeq (sAsg 3 (e2 oAdd (eC (.int 7)) (eV 2)))
    (sSeq (sIf (t2 oLt (eV 2) (e1 oLen (ePk2 oIxD 0 (eC (.int 0))))) (sAsg 3 (e1 oAbs (e2 oIxA (ePk2 oIxD 0 (eC (.int 0))) (eV 2)))) (sNil))
    (sSeq (sIf (t2 oLt (eV 3) (e2 oPow (eC (.int 10)) (eC (.int 18)))) (sSeq (sAsg 3 (e2 oMod (e1 oInt (e2 oAdd (e2 oAdd (e2 oMul (eV 3) (eC (.int 48271))) (e2 oMul (eV 2) (eC (.int 69621)))) (eC (.int 11)))) (eC (.int 2147483647))))
    (sAsg 3 (e2 oAdd (e2 oMul (e2 oMod (e1 oInt (e2 oAdd (e2 oMul (eV 3) (eC (.int 16807))) (eC (.int 13)))) (eC (.int 2147483647))) (eC (.int 65537))) (eV 3)))) (sNil))
    (sSeq (sSetI 0 (eC (.int 1)) (eV 3))
    (sSetI 0 (eC (.int 2)) (e2 oAdd (eV 2) (eC (.int 1))))))))) (sNil))
    (sSeq (sAsg 4 (e2 oMod (e1 oInt (ePk2 oIxD 0 (eC (.int 1)))) (eV 1)))
    (sSeq (sSetI 0 (eC (.int 1)) (e2 oDiv (ePk2 oIxD 0 (eC (.int 1))) (eV 1)))
    (sRet (eMv 4))))
def gNext : FD := fn 5 bNext
def gIsInt : FD := fn 1 (sRet (eAnd (e1 (oIsi "int") (eV 0)) (eNot (e1 (oIsi "bool") (eV 0)))))
def bEqual (self : FD) : S := sSeq (sIf (t1 oIsN (eV 1)) (sRet (eT (t1 oIsN (eV 0)))) (sNil))
    (sSeq (sIf (tTr (e1 (oIsi "bool") (eV 1))) (sRet (eAnd (e1 (oIsi "bool") (eV 0)) (eT (t2 oEq (eV 0) (eV 1))))) (sNil))
    (sSeq (sIf (tTr (e1 (oIsi "int") (eV 1))) (sRet (eAnd (eCall gIsInt [.v (eV 0)]) (eT (t2 oEq (eV 0) (eV 1))))) (sNil))
    (sSeq (sIf (tTr (e1 (oIsi "str") (eV 1))) (sRet (eAnd (e1 (oIsi "str") (eV 0)) (eT (t2 oEq (eV 0) (eV 1))))) (sNil))
    (sSeq (sIf (tAnd (tTr (e1 (oIsi "tuple") (eV 1))) (tNot (tTr (e1 (oIsi "tuple") (eV 0))))) (sRet (eC (.bl false))) (sNil))
    (sSeq (sIf (tAnd (tTr (e1 (oIsi "list") (eV 1))) (tNot (tTr (e1 (oIsi "list") (eV 0))))) (sRet (eC (.bl false))) (sNil))
    (sSeq (sIf (t2 oNe (e1 oLen (eV 0)) (e1 oLen (eV 1))) (sRet (eC (.bl false))) (sNil))
    (sRet (e1 oAll (eLc [2] (srcR1 (e1 oLen (eV 1))) (gV 2) (tYes) (eCall (self) [.v (ePk2 oIxD 0 (eV 2)), .v (ePk2 oIxD 1 (eV 2))]))))))))))
def gEqual : Nat → FD
  | 0 => fun _ => .bad
  | k + 1 => fn 3 (bEqual (gEqual k))

/-! ### comparing ints -/
@[simp] theorem eqv_int (a b : Int) : (D.int a).eqv (.int b) = decide (a = b) := by
  show (a == b) = _
  exact Bool.beq_eq_decide_eq a b
@[simp] theorem eqv_str (a b : Str) : (D.str a).eqv (.str b) = decide (a = b) := by
  show (a == b) = _
  exact Bool.beq_eq_decide_eq a b
@[simp] theorem eqv_bl (a b : Bool) : (D.bl a).eqv (.bl b) = (a == b) := rfl
@[simp] theorem eqv_int_str (a : Int) (b : Str) : (D.int a).eqv (.str b) = false := rfl
@[simp] theorem eqv_str_int (a : Str) (b : Int) : (D.str a).eqv (.int b) = false := rfl
@[simp] theorem ok_int (a : Int) : (D.int a).ok = true := rfl
@[simp] theorem ok_bl (a : Bool) : (D.bl a).ok = true := rfl
@[simp] theorem ok_non : D.non.ok = true := rfl

/-! ### written texts -/
theorem toNat_lt (c : Char) : c.toNat < 1114112 := by
  have h := c.valid
  simp only [UInt32.isValidChar, Nat.isValidChar] at h
  show c.val.toNat < 1114112
  omega
theorem toNat_inj {a b : Char} (h : a.toNat = b.toNat) : a = b := by
  apply Char.ext
  exact UInt32.toNat_inj.mp h
theorem map_inj' : ∀ {a b : List Char}, a.map Char.toNat = b.map Char.toNat → a = b
  | [], [], _ => rfl
  | [], _ :: _, h => by simp at h
  | _ :: _, [], h => by simp at h
  | x :: a, y :: b, h => by
    simp only [List.map_cons, List.cons.injEq] at h
    rw [toNat_inj h.1, map_inj' h.2]
@[simp] theorem ofString_inj (a b : String) : (Str.ofString a = Str.ofString b) ↔ a = b := by
  constructor
  · intro h
    rw [Str.ofString_eq_toList, Str.ofString_eq_toList] at h
    have h1 : (a.toList.map Char.toNat) = (b.toList.map Char.toNat) := by
      have := congrArg (fun s => s.cps.toList) h
      simpa using this
    exact String.toList_inj.mp (map_inj' h1)
  · intro h
    rw [h]
@[simp] theorem ok_lit (a : String) : (D.str (Str.ofString a)).ok = true := by
  show (Str.ofString a).cps.all _ = true
  rw [Str.ofString_eq_toList]
  simp only [List.all_toArray, List.all_map, List.all_eq_true, Function.comp, decide_eq_true_eq]
  exact fun c _ => toNat_lt c
/-- an item of a written list at a drawn place -/
theorem pick_mem {xs : List D} {d : Int} (h0 : 0 ≤ d) (h1 : d < xs.length) : ∃ x, x ∈ xs ∧ dAt xs d = some x := by
  have hk : d.toNat < xs.length := by omega
  refine ⟨xs[d.toNat], List.getElem_mem hk, ?_⟩
  simp [dAt, ixAt, h0, h1, hk]

/-! ### the stream -/
structure Sm where
  ns : List Int
  c : Int
  k : Int
  hc : 0 ≤ c
  hk : 0 ≤ k
def Sm.C (s : Sm) : C := .lst [.lst (s.ns.map .int), .int s.c, .int s.k]
def cell0 (ns : List Int) (k : Int) : Int := if h : k < ns.length then (if ns.getD k.toNat 0 < 0 then -ns.getD k.toNat 0 else ns.getD k.toNat 0) else 7 + k
theorem cell0_nn (ns : List Int) (k : Int) (h : 0 ≤ k) : 0 ≤ cell0 ns k := by
  unfold cell0
  split
  · split <;> omega
  · omega
def big : Int := 1000000000000000000
def cell1 (ns : List Int) (k : Int) : Int := if cell0 ns k < big then
  ((cell0 ns k * 48271 + k * 69621 + 11) % 2147483647 * 16807 + 13) % 2147483647 * 65537 + (cell0 ns k * 48271 + k * 69621 + 11) % 2147483647 else cell0 ns k
theorem cell1_nn (ns : List Int) (k : Int) (h : 0 ≤ k) : 0 ≤ cell1 ns k := by
  unfold cell1
  have := cell0_nn ns k h
  split <;> omega
def Sm.cur (s : Sm) : Int := if s.c = 0 then cell1 s.ns s.k else s.c
theorem Sm.cur_nn (s : Sm) : 0 ≤ s.cur := by
  unfold Sm.cur
  have := cell1_nn s.ns s.k s.hk
  have := s.hc
  split <;> omega
/-- the digit, and the stream behind it -/
def Sm.dig (s : Sm) (m : Int) : Int := s.cur % m
def Sm.nxt (s : Sm) (m : Int) : Sm := ⟨s.ns, if 0 < m then s.cur / m else 0, if s.c = 0 then s.k + 1 else s.k, by
  split
  · exact Int.ediv_nonneg s.cur_nn (by omega)
  · omega, by
  have := s.hk
  split <;> omega⟩
theorem Sm.dig_nn (s : Sm) {m : Int} (h : 0 < m) : 0 ≤ s.dig m := Int.emod_nonneg _ (by omega)
theorem Sm.dig_lt (s : Sm) {m : Int} (h : 0 < m) : s.dig m < m := Int.emod_lt_of_pos _ h
theorem next_nz (ns : List Int) (c : Int) (k : Int) (many : Int) (h1 : 0 < many) (h2 : many < 1073741824) (hz : c ≠ 0) : gNext [.bor (.lst [.lst (ns.map .int), .int c, .int k]), .val (.int many)] = .ok (.d (.int (c % many))) [.bor (.lst [.lst (ns.map .int), .int (c / many), .int k]), .un] := by
  simp [gNext, bNext, dAt, ixAt, h1, h2, hz]
theorem pow18 : oPow (.int 10) (.int 18) = some (.d (.int big)) := by
  simp only [oPow]
  rw [if_pos (by decide)]
  rfl
theorem oMul_const (a b : Int) (h : b < 2 ^ 64 ∧ -(2 ^ 64) < b) : oMul (.int a) (.int b) = some (.d (.int (a * b))) := by
  simp only [oMul]
  rw [if_pos]
  simp only [mulOk, Bool.or_eq_true, Bool.and_eq_true, decide_eq_true_eq]
  exact .inr ⟨h.2, h.1⟩
@[simp] theorem oMul_a (a : Int) : oMul (.int a) (.int 48271) = some (.d (.int (a * 48271))) := oMul_const _ _ (by decide)
@[simp] theorem oMul_b (a : Int) : oMul (.int a) (.int 69621) = some (.d (.int (a * 69621))) := oMul_const _ _ (by decide)
@[simp] theorem oMul_c (a : Int) : oMul (.int a) (.int 16807) = some (.d (.int (a * 16807))) := oMul_const _ _ (by decide)
@[simp] theorem oMul_d (a : Int) : oMul (.int a) (.int 65537) = some (.d (.int (a * 65537))) := oMul_const _ _ (by decide)
theorem at_int (ns : List Int) (k : Int) (h0 : 0 ≤ k) (h : k < ns.length) : dAt (ns.map D.int) k = some (.int (ns.getD k.toNat 0)) := by
  have hk : k.toNat < ns.length := by omega
  simp [dAt, ixAt, h0, h, hk]
theorem seq_nx {a b : S} {ρ ρ' : Env} (h : a ρ = .nx ρ') : sSeq a b ρ = b ρ' := by simp only [sSeq, h]
theorem if_t {t : T} {a b : S} {ρ ρ' : Env} (h : t ρ = .ok true ρ') : sIf t a b ρ = a ρ' := by simp only [sIf, runM, h, if_true]
theorem if_f {t : T} {a b : S} {ρ ρ' : Env} (h : t ρ = .ok false ρ') : sIf t a b ρ = b ρ' := by
  simp only [sIf, runM, h]
  rfl
theorem fn_rt {n : Nat} {b : S} {as : List Slot} {r : Rv} {ρ : Env} (h : b (as ++ List.replicate (n - as.length) .un) = .rt r ρ) : fn n b as = .ok r (outE as.length ρ) := by simp only [fn, h]
abbrev nenv (ns : List Int) (k : Int) (many : Int) (x : Int) : Env := [.bor (.lst [.lst (ns.map .int), .int 0, .int k]), .val (.int many), .val (.int k), .val (.int x), .un]
theorem nx1' (ns : List Int) (k : Int) (many : Int) (h0 : 0 ≤ k) : (sIf (t2 oLt (eV 2) (e1 oLen (ePk2 oIxD 0 (eC (.int 0))))) (sAsg 3 (e1 oAbs (e2 oIxA (ePk2 oIxD 0 (eC (.int 0))) (eV 2)))) (sNil)) (nenv ns k many (7 + k)) = .nx (nenv ns k many (cell0 ns k)) := by
  by_cases hk : k < ns.length
  · have e := at_int ns k h0 hk
    have e0 : dAt [D.lst (ns.map D.int), .int 0, .int k] 0 = some (.lst (ns.map .int)) := rfl
    simp [e, e0, hk, cell0]
  · simp [dAt, ixAt, hk, cell0]
theorem nx2 (ns : List Int) (k : Int) (many x : Int) : (sAsg 3 (e2 oMod (e1 oInt (e2 oAdd (e2 oAdd (e2 oMul (eV 3) (eC (.int 48271))) (e2 oMul (eV 2) (eC (.int 69621)))) (eC (.int 11)))) (eC (.int 2147483647)))) (nenv ns k many x) = .nx (nenv ns k many ((x * 48271 + k * 69621 + 11) % 2147483647)) := by
  simp
theorem nx3 (ns : List Int) (k : Int) (many x : Int) : (sAsg 3 (e2 oAdd (e2 oMul (e2 oMod (e1 oInt (e2 oAdd (e2 oMul (eV 3) (eC (.int 16807))) (eC (.int 13)))) (eC (.int 2147483647))) (eC (.int 65537))) (eV 3))) (nenv ns k many x) = .nx (nenv ns k many ((x * 16807 + 13) % 2147483647 * 65537 + x)) := by
  simp
theorem nx4 (ns : List Int) (k : Int) (many x B : Int) (hB : oPow (.int 10) (.int 18) = some (.d (.int B))) : t2 oLt (eV 3) (e2 oPow (eC (.int 10)) (eC (.int 18))) (nenv ns k many x) = .ok (decide (x < B)) (nenv ns k many x) := by
  simp [hB]
theorem nx5 (ns : List Int) (k : Int) (many x : Int) : (sSeq (sSetI 0 (eC (.int 1)) (eV 3)) (sSetI 0 (eC (.int 2)) (e2 oAdd (eV 2) (eC (.int 1))))) (nenv ns k many x) = .nx [.bor (.lst [.lst (ns.map .int), .int x, .int (k+1)]), .val (.int many), .val (.int k), .val (.int x), .un] := by
  simp [ixAt]
theorem nx6 (ns : List Int) (k : Int) (many : Int) (x : Int) (h1 : 0 < many) (h2 : many < 1073741824) : sSeq (sAsg 4 (e2 oMod (e1 oInt (ePk2 oIxD 0 (eC (.int 1)))) (eV 1)))
    (sSeq (sSetI 0 (eC (.int 1)) (e2 oDiv (ePk2 oIxD 0 (eC (.int 1))) (eV 1)))
    (sRet (eMv 4))) [.bor (.lst [.lst (ns.map .int), .int x, .int (k+1)]), .val (.int many), .val (.int k), .val (.int x), .un] = .rt (.d (.int (x % many))) [.bor (.lst [.lst (ns.map .int), .int (x / many), .int (k+1)]), .val (.int many), .val (.int k), .val (.int x), .val (.int (x % many))] := by
  simp [dAt, ixAt, h1, h2]
theorem nx0 (ns : List Int) (k : Int) (many : Int) : t2 oEq (ePk2 oIxD 0 (eC (.int 1))) (eC (.int 0)) [.bor (.lst [.lst (ns.map .int), .int 0, .int k]), .val (.int many), .un, .un, .un] = .ok true [.bor (.lst [.lst (ns.map .int), .int 0, .int k]), .val (.int many), .un, .un, .un] := by
  simp [dAt, ixAt]
theorem nx7 (ns : List Int) (k : Int) (many : Int) : sAsg 2 (ePk2 oIxD 0 (eC (.int 2))) [.bor (.lst [.lst (ns.map .int), .int 0, .int k]), .val (.int many), .un, .un, .un] = .nx [.bor (.lst [.lst (ns.map .int), .int 0, .int k]), .val (.int many), .val (.int k), .un, .un] := by
  simp [dAt, ixAt]
theorem nx8 (ns : List Int) (k : Int) (many : Int) : sAsg 3 (e2 oAdd (eC (.int 7)) (eV 2)) [.bor (.lst [.lst (ns.map .int), .int 0, .int k]), .val (.int many), .val (.int k), .un, .un] = .nx (nenv ns k many (7 + k)) := by
  simp
theorem next_z (ns : List Int) (k : Int) (many : Int) (h0 : 0 ≤ k) (h1 : 0 < many) (h2 : many < 1073741824) : gNext [.bor (.lst [.lst (ns.map .int), .int 0, .int k]), .val (.int many)] = .ok (.d (.int (cell1 ns k % many))) [.bor (.lst [.lst (ns.map .int), .int (cell1 ns k / many), .int (k + 1)]), .un] := by
  refine fn_rt (ρ := [.bor (.lst [.lst (ns.map .int), .int (cell1 ns k / many), .int (k+1)]), .val (.int many), .val (.int k), .val (.int (cell1 ns k)), .val (.int (cell1 ns k % many))]) ?_
  show bNext [.bor (.lst [.lst (ns.map .int), .int 0, .int k]), .val (.int many), .un, .un, .un] = _
  unfold bNext
  refine (seq_nx (ρ' := [.bor (.lst [.lst (ns.map .int), .int (cell1 ns k), .int (k+1)]), .val (.int many), .val (.int k), .val (.int (cell1 ns k)), .un]) ?_).trans (nx6 ns k many (cell1 ns k) h1 h2)
  refine (if_t (nx0 ns k many)).trans ?_
  refine (seq_nx (nx7 ns k many)).trans ?_
  refine (seq_nx (nx8 ns k many)).trans ?_
  refine (seq_nx (nx1' ns k many h0)).trans ?_
  have e4 := nx4 ns k many (cell0 ns k) big pow18
  by_cases hb : cell0 ns k < big
  · rw [decide_eq_true hb] at e4
    have ec : cell1 ns k = ((cell0 ns k * 48271 + k * 69621 + 11) % 2147483647 * 16807 + 13) % 2147483647 * 65537 + (cell0 ns k * 48271 + k * 69621 + 11) % 2147483647 := by
      unfold cell1
      rw [if_pos hb]
    refine (seq_nx ((if_t e4).trans ((seq_nx (nx2 ns k many (cell0 ns k))).trans (nx3 ns k many _)))).trans ?_
    rw [← ec]
    exact nx5 ns k many (cell1 ns k)
  · rw [decide_eq_false hb] at e4
    have ec : cell1 ns k = cell0 ns k := by
      unfold cell1
      rw [if_neg hb]
    refine (seq_nx (if_f e4)).trans ?_
    rw [← ec]
    exact nx5 ns k many (cell1 ns k)
theorem next_ok (s : Sm) {m : Int} (h1 : 0 < m) (h2 : m < 1073741824) : gNext [.bor s.C, .val (.int m)] = .ok (.d (.int (s.dig m))) [.bor (s.nxt m).C, .un] := by
  obtain ⟨ns, c, k, hc, hk⟩ := s
  by_cases hz : c = 0
  · subst hz
    simp only [Sm.C, Sm.dig, Sm.nxt, Sm.cur, if_true, h1]
    exact next_z ns k m hk h1 h2
  · simp only [Sm.C, Sm.dig, Sm.nxt, Sm.cur, if_neg hz, if_pos h1]
    exact next_nz ns c k m h1 h2 hz
def Sm.new (ns : List Int) : Sm := ⟨ns, 0, 0, by omega, by omega⟩
theorem stream_ok (ns : List Int) : gStream [.val (.scr ns)] = .ok (.o (Sm.new ns).C) [.un] := rfl
/-- a drawn digit, where the def has the stream lent | where it is its own -/
theorem draw_b (ρ : Env) (i : Nat) (s : Sm) (m : Int) (h : ρ[i]? = some (.bor s.C)) (h1 : 0 < m) (h2 : m < 1073741824) : eCall gNext [.b i, .v (eC (.int m))] ρ = .ok (.d (.int (s.dig m))) (ρ.set i (.bor (s.nxt m).C)) := by
  have e := next_ok s h1 h2
  simp [h, e]
theorem draw_o (ρ : Env) (i : Nat) (s : Sm) (m : Int) (h : ρ[i]? = some (.own s.C)) (h1 : 0 < m) (h2 : m < 1073741824) : eCall gNext [.b i, .v (eC (.int m))] ρ = .ok (.d (.int (s.dig m))) (ρ.set i (.own (s.nxt m).C)) := by
  have e := next_ok s h1 h2
  simp [h, e]

/-! ### a comprehension whose turns leave the slots as they are -/
theorem comp_map (own : List Nat) (g : Tg) (e : E) (h : D → D) (ρ : Env) : ∀ (xs acc : List D), acc.length + xs.length ≤ 100000 → (∀ x ∈ xs, ∀ ρ', wipeE ρ' own = wipeE ρ own → ∃ ρ1 ρ2, g x (wipeE ρ' own) = some ρ1 ∧ val e ρ1 = .ok (h x) ρ2 ∧ wipeE ρ2 own = wipeE ρ own) → ∀ ρ', wipeE ρ' own = wipeE ρ own → ∃ ρf, comp own g tYes e xs acc ρ' = .ok (acc ++ xs.map h) ρf ∧ wipeE ρf own = wipeE ρ own
  | [], acc, _, _, ρ', hw => ⟨ρ', by simp [comp], hw⟩
  | x :: xs, acc, hl, hx, ρ', hw => by
    obtain ⟨ρ1, ρ2, e1, e2, e3⟩ := hx x List.mem_cons_self ρ' hw
    simp only [List.length_cons] at hl
    obtain ⟨ρf, q1, q2⟩ := comp_map own g e h ρ xs (acc ++ [h x]) (by simp only [List.length_append, List.length_singleton]; omega) (fun y hy => hx y (List.mem_cons_of_mem _ hy)) ρ2 e3
    refine ⟨ρf, ?_, q2⟩
    simp only [comp, e1, e2]
    rw [show tYes ρ1 = .ok true ρ1 from rfl]
    simp only [e2]
    rw [if_pos (by omega), q1]
    simp

/-! ### x against itself -/
mutual
def plain : Nat → D → Bool
  | _, .non => true
  | _, .bl _ => true
  | _, .int _ => true
  | _, .str x => x.cps.all fun n => decide (n < 1114112)
  | n + 1, .tup xs => decide (xs.length ≤ 100000) && plains n xs
  | n + 1, .lst xs => decide (xs.length ≤ 100000) && plains n xs
  | _, _ => false
def plains : Nat → List D → Bool
  | _, [] => true
  | n, x :: r => plain n x && plains n r
end
theorem plains_all (n : Nat) : ∀ xs : List D, plains n xs = xs.all (plain n)
  | [] => by simp only [plains, List.all_nil]
  | x :: r => by simp only [plains, List.all_cons, plains_all n r]
theorem ok_str {x : Str} (h : (x.cps.all fun n => decide (n < 1114112)) = true) : (D.str x).ok = true := h
theorem isint_ok (x : D) : gIsInt [.val x] = .ok (.d (.bl (isiT x.ty "int" && !isiT x.ty "bool"))) [.un] := by
  cases x <;> rfl
theorem upTo_eq (n : Nat) : upTo 0 n = (List.range n).map fun (i : Nat) => D.int (i : Int) := by
  unfold upTo
  congr 1
  funext i
  rw [Int.zero_add]
theorem asBs_true : ∀ n : Nat, asBs (List.replicate n (D.bl true)) = some (List.replicate n true)
  | 0 => rfl
  | n + 1 => by simp only [List.replicate_succ, asBs, asBs_true n, Option.map_some]
theorem all_true (n : Nat) : (List.replicate n true).all id = true := by
  induction n with
  | zero => rfl
  | succ n ih => simp [List.replicate_succ]
theorem e1_ok {f : D → Option Rv} {m : E} {ρ ρ' : Env} {r z : Rv} (h : m ρ = .ok r ρ') (hf : f r.fr = some z) : e1 f m ρ = .ok z ρ' := by
  unfold e1 val Dn.bind
  rw [h]
  simp only [ret, hf, opt]
theorem equal_seq (n : Nat) (self : FD) (xs : List D) (hl : xs.length ≤ 100000) (mk : List D → D) (hmk : mk = .tup ∨ mk = .lst) (hs : ∀ x ∈ xs, self [.val x, .val x] = .ok (.d (.bl true)) [.un, .un]) :
    (e1 oAll (eLc [2] (srcR1 (e1 oLen (eV 1))) (gV 2) (tYes) (eCall (self) [.v (ePk2 oIxD 0 (eV 2)), .v (ePk2 oIxD 1 (eV 2))]))) [.val (mk xs), .val (mk xs), .un] = .ok (.d (.bl true)) [.val (mk xs), .val (mk xs), .un] := by
  have hlen : oLen (mk xs) = some (.d (.int xs.length)) := by rcases hmk with rfl | rfl <;> rfl
  have hb : bigOk (xs.length : Int) = true := by
    simp only [bigOk, Bool.and_eq_true, decide_eq_true_eq]
    omega
  have hat : ∀ i : Nat, i < xs.length → oIxD (mk xs) (.int i) = xs[i]? := fun i hi => by
    rcases hmk with rfl | rfl <;> simp [dAt, ixAt, hi]
  obtain ⟨ρf, q1, q2⟩ := comp_map [2] (gV 2) (eCall (self) [.v (ePk2 oIxD 0 (eV 2)), .v (ePk2 oIxD 1 (eV 2))]) (fun _ => .bl true) [.val (mk xs), .val (mk xs), .un] (upTo 0 xs.length) [] (by rw [upTo_eq]; simp; omega) (fun y hy ρ' hw => by
    rw [upTo_eq, List.mem_map] at hy
    obtain ⟨i, hi, rfl⟩ := hy
    rw [List.mem_range] at hi
    refine ⟨[.val (mk xs), .val (mk xs), .val (.int i)], [.val (mk xs), .val (mk xs), .val (.int i)], ?_, ?_, rfl⟩
    · rw [hw]
      rfl
    · have e := hat i hi
      have e2 := hs xs[i] (List.getElem_mem hi)
      rw [List.getElem?_eq_getElem hi] at e
      simp only [val, Dn.bind, eCall, argv, ePk2, hasV, eV, ret, peek, List.getElem?_cons_zero, List.getElem?_cons_succ, if_true, Rv.fr, e, lend, idxs, List.nodup_nil, Option.map_some, e2, takeB]) [.val (mk xs), .val (mk xs), .un] rfl
  have hback : backE [.val (mk xs), .val (mk xs), .un] ρf [2] = [.val (mk xs), .val (mk xs), .un] := by
    have : wipeE ρf [2] = [.val (mk xs), .val (mk xs), .un] := by rw [q2]; rfl
    simpa [wipeE, backE, backS] using this
  have e1' : (eLc [2] (srcR1 (e1 oLen (eV 1))) (gV 2) (tYes) (eCall (self) [.v (ePk2 oIxD 0 (eV 2)), .v (ePk2 oIxD 1 (eV 2))])) [.val (mk xs), .val (mk xs), .un] = .ok (.o (.lst (List.replicate xs.length (.bl true)))) [.val (mk xs), .val (mk xs), .un] := by
    unfold eLc
    have hsrc : srcR1 (e1 oLen (eV 1)) [.val (mk xs), .val (mk xs), .un] = .ok (upTo 0 xs.length) [.val (mk xs), .val (mk xs), .un] := by
      simp only [srcR1, val, Dn.bind, e1, eV, ret, List.getElem?_cons_zero, List.getElem?_cons_succ, Rv.fr, hlen, opt, hb, if_true, Int.toNat_natCast]
    simp only [Dn.bind, hsrc, q1, hback, List.nil_append]
    rw [upTo_eq]
    rw [List.map_map, show ((fun _ => D.bl true) ∘ fun (i : Nat) => D.int (i : Int)) = fun _ => D.bl true from rfl, List.map_const', List.length_range]
  exact e1_ok e1' (by simp only [Rv.fr, C.d, oAll, asBs_true, Option.map_some, all_true])
theorem equal_refl : ∀ (n : Nat) (x : D), plain n x = true → gEqual (n + 1) [.val x, .val x] = .ok (.d (.bl true)) [.un, .un]
  | n, .non, _ => rfl
  | n, .bl b, _ => by cases b <;> rfl
  | n, .int i, _ => by
    simp [gEqual, bEqual, isint_ok, isiT]
  | n, .str x, h => by
    have h' : (x.cps.all fun n => decide (n < 1114112)) = true := by cases n <;> simpa only [plain] using h
    have e := ok_str h'
    simp [gEqual, bEqual, isiT, e]
  | n + 1, .tup xs, h => by
    simp only [plain, Bool.and_eq_true, decide_eq_true_eq] at h
    have hs : ∀ x ∈ xs, gEqual (n + 1) [.val x, .val x] = .ok (.d (.bl true)) [.un, .un] := fun x hx => equal_refl n x (by
      have := h.2
      rw [plains_all] at this
      exact List.all_eq_true.mp this x hx)
    have e := equal_seq n (gEqual (n + 1)) xs h.1 .tup (.inl rfl) hs
    rw [gEqual]
    unfold bEqual
    generalize hX : (e1 oAll (eLc [2] (srcR1 (e1 oLen (eV 1))) (gV 2) (tYes) (eCall (gEqual (n + 1)) [.v (ePk2 oIxD 0 (eV 2)), .v (ePk2 oIxD 1 (eV 2))]))) = X at *
    simp [isiT, e]
  | n + 1, .lst xs, h => by
    simp only [plain, Bool.and_eq_true, decide_eq_true_eq] at h
    have hs : ∀ x ∈ xs, gEqual (n + 1) [.val x, .val x] = .ok (.d (.bl true)) [.un, .un] := fun x hx => equal_refl n x (by
      have := h.2
      rw [plains_all] at this
      exact List.all_eq_true.mp this x hx)
    have e := equal_seq n (gEqual (n + 1)) xs h.1 .lst (.inr rfl) hs
    rw [gEqual]
    unfold bEqual
    generalize hX : (e1 oAll (eLc [2] (srcR1 (e1 oLen (eV 1))) (gV 2) (tYes) (eCall (gEqual (n + 1)) [.v (ePk2 oIxD 0 (eV 2)), .v (ePk2 oIxD 1 (eV 2))]))) = X at *
    simp [isiT, e]
  | 0, .tup _, h => by simp [plain] at h
  | 0, .lst _, h => by simp [plain] at h
  | n, .dic _, h => by cases n <;> simp [plain] at h
  | n, .scr _, h => by cases n <;> simp [plain] at h
end Dn
set_option linter.all false
set_option maxHeartbeats 2000000
/-! Lists of ints; comprehensions and loops as lists. -/
namespace Dn
open PySem
/-! ### lists of ints -/
theorem maxI_spec : ∀ {ns : List Int} {m : Int}, maxI ns = some m → m ∈ ns ∧ ∀ y, y ∈ ns → y ≤ m
  | [], _, h => by cases h
  | [x], m, h => by
    simp only [maxI, Option.some.injEq] at h
    subst h
    exact ⟨List.mem_singleton.mpr rfl, fun y hy => by rw [List.mem_singleton.mp hy]; omega⟩
  | x :: y :: r, m, h => by
    simp only [maxI, Option.map_eq_some_iff] at h
    obtain ⟨k, h1, h2⟩ := h
    obtain ⟨a, b⟩ := maxI_spec (ns := y :: r) h1
    split at h2
    · subst h2
      refine ⟨List.mem_cons_of_mem _ a, fun z hz => ?_⟩
      rcases List.mem_cons.mp hz with e | e
      · omega
      · exact b z e
    · subst h2
      refine ⟨List.mem_cons_self, fun z hz => ?_⟩
      rcases List.mem_cons.mp hz with e | e
      · omega
      · have := b z e
        omega
theorem minI_spec : ∀ {ns : List Int} {m : Int}, minI ns = some m → m ∈ ns ∧ ∀ y, y ∈ ns → m ≤ y
  | [], _, h => by cases h
  | [x], m, h => by
    simp only [minI, Option.some.injEq] at h
    subst h
    exact ⟨List.mem_singleton.mpr rfl, fun y hy => by rw [List.mem_singleton.mp hy]; omega⟩
  | x :: y :: r, m, h => by
    simp only [minI, Option.map_eq_some_iff] at h
    obtain ⟨k, h1, h2⟩ := h
    obtain ⟨a, b⟩ := minI_spec (ns := y :: r) h1
    split at h2
    · subst h2
      refine ⟨List.mem_cons_of_mem _ a, fun z hz => ?_⟩
      rcases List.mem_cons.mp hz with e | e
      · omega
      · exact b z e
    · subst h2
      refine ⟨List.mem_cons_self, fun z hz => ?_⟩
      rcases List.mem_cons.mp hz with e | e
      · omega
      · have := b z e
        omega
theorem insI_perm (x : Int) : ∀ ns : List Int, (insI x ns).Perm (x :: ns)
  | [] => .refl _
  | y :: r => by
    unfold insI
    split
    · exact .refl _
    · exact ((insI_perm x r).cons y).trans (.swap ..)
theorem sortI_perm : ∀ ns : List Int, (sortI ns).Perm ns
  | [] => .refl _
  | x :: r => (insI_perm x _).trans ((sortI_perm r).cons x)
theorem insI_sorted (x : Int) : ∀ {ns : List Int}, ns.Pairwise (· ≤ ·) → (insI x ns).Pairwise (· ≤ ·)
  | [], _ => List.pairwise_singleton _ _
  | y :: r, h => by
    unfold insI
    obtain ⟨h1, h2⟩ := List.pairwise_cons.mp h
    split
    · rename_i e
      refine List.pairwise_cons.mpr ⟨fun z hz => ?_, h⟩
      rcases List.mem_cons.mp hz with q | q
      · omega
      · have := h1 z q
        omega
    · rename_i e
      refine List.pairwise_cons.mpr ⟨fun z hz => ?_, insI_sorted x h2⟩
      rcases List.mem_cons.mp ((insI_perm x r).mem_iff.mp hz) with q | q
      · omega
      · exact h1 z q
theorem sortI_sorted : ∀ ns : List Int, (sortI ns).Pairwise (· ≤ ·)
  | [] => .nil
  | x :: r => insI_sorted x (sortI_sorted r)
theorem sorted_one : ∀ {a b : List Int}, a.Perm b → a.Pairwise (· ≤ ·) → b.Pairwise (· ≤ ·) → a = b
  | [], b, p, _, _ => (List.Perm.nil_eq p)
  | x :: a, [], p, _, _ => absurd p.length_eq (by simp)
  | x :: a, y :: b, p, h, g => by
    obtain ⟨h1, h2⟩ := List.pairwise_cons.mp h
    obtain ⟨g1, g2⟩ := List.pairwise_cons.mp g
    have e : x = y := by
      rcases List.mem_cons.mp (p.mem_iff.mp (List.mem_cons_self)) with q | q
      · exact q
      · rcases List.mem_cons.mp (p.mem_iff.mpr (List.mem_cons_self)) with q' | q'
        · exact q'.symm
        · have := g1 x q
          have := h1 y q'
          omega
    subst e
    rw [sorted_one (List.Perm.cons_inv p) h2 g2]
theorem sorted_uniq {a ns : List Int} (p : a.Perm ns) (h : a.Pairwise (· ≤ ·)) : a = sortI ns := sorted_one (p.trans (sortI_perm ns).symm) h (sortI_sorted ns)
theorem ddI_mem (k : Int) : ∀ ns : List Int, k ∈ ddI ns ↔ k ∈ ns
  | [] => Iff.rfl
  | x :: r => by
    unfold ddI
    have ih := ddI_mem k r
    split
    · rename_i e
      rw [ih, List.mem_cons]
      exact ⟨.inr, fun h => h.elim (fun q => by rw [q]; exact e) id⟩
    · rw [List.mem_cons, List.mem_cons, ih]
theorem ddI_nodup : ∀ ns : List Int, (ddI ns).Nodup
  | [] => List.nodup_nil
  | x :: r => by
    unfold ddI
    split
    · exact ddI_nodup r
    · rename_i e
      exact List.nodup_cons.mpr ⟨fun h => e ((ddI_mem x r).mp h), ddI_nodup r⟩
theorem ddI_len : ∀ ns : List Int, (ddI ns).length ≤ ns.length
  | [] => Nat.le_refl _
  | x :: r => by
    have ih := ddI_len r
    unfold ddI
    split
    · rw [List.length_cons]
      omega
    · rw [List.length_cons, List.length_cons]
      omega
theorem strict_uniq {a ns : List Int} (h : a.Pairwise (· < ·)) (hm : ∀ k, k ∈ a ↔ k ∈ ns) : a = sortI (ddI ns) := by
  refine sorted_uniq ?_ (h.imp fun q => by omega)
  have nd : a.Nodup := h.imp fun q e => by omega
  exact (List.perm_ext_iff_of_nodup nd (ddI_nodup ns)).mpr fun k => (hm k).trans (ddI_mem k ns).symm

theorem sortI_strict {ns : List Int} (h : ns.Nodup) : (sortI ns).Pairwise (· < ·) := by
  have nd : (sortI ns).Nodup := (sortI_perm ns).nodup_iff.mpr h
  have hs := sortI_sorted ns
  have both := hs.and nd
  exact both.imp fun q => by
    have := q.1
    have := q.2
    omega
theorem strict_eq {a ns : List Int} (h : a.Pairwise (· < ·)) (nd : ns.Nodup) (hm : ∀ k, k ∈ a ↔ k ∈ ns) : a = sortI ns :=
  sorted_uniq ((List.perm_ext_iff_of_nodup (h.imp fun q e => by omega) nd).mpr hm) (h.imp fun q => by omega)
/-! ### comprehensions -/
theorem wipe_at (ρ : Env) (j : Nat) : ∀ own : List Nat, (wipeE ρ own)[j]? = if j ∈ own ∧ j < ρ.length then some .un else ρ[j]?
  | [] => by simp [wipeE]
  | i :: r => by
    have ih := wipe_at ρ j r
    have hl : ∀ own : List Nat, (wipeE ρ own).length = ρ.length := fun own => by
      induction own with
      | nil => rfl
      | cons a b ih => simp only [wipeE, List.length_set, ih]
    simp only [wipeE]
    by_cases e : i = j
    · subst e
      rw [List.getElem?_set]
      rw [hl]
      by_cases q : i < ρ.length
      · simp [q]
      · simp [q]
    · rw [List.getElem?_set_ne e, ih]
      simp only [List.mem_cons, Ne.symm e, false_or]
theorem back_at (ρ0 ρ : Env) (j : Nat) : ∀ own : List Nat, (backE ρ0 ρ own)[j]? = if j ∈ own ∧ j < ρ.length then some (backS ρ0[j]?) else ρ[j]?
  | [] => by simp [backE]
  | i :: r => by
    have ih := back_at ρ0 ρ j r
    have hl : ∀ own : List Nat, (backE ρ0 ρ own).length = ρ.length := fun own => by
      induction own with
      | nil => rfl
      | cons a b ih => simp only [backE, List.length_set, ih]
    simp only [backE]
    by_cases e : i = j
    · subst e
      rw [List.getElem?_set]
      rw [hl]
      by_cases q : i < ρ.length
      · simp [q]
      · simp [q]
    · rw [List.getElem?_set_ne e, ih]
      simp only [List.mem_cons, Ne.symm e, false_or]
def soft : Option Slot → Prop
  | some .un => True
  | some (.val _) => True
  | none => True
  | _ => False
theorem back_same {ρ0 ρ : Env} {own : List Nat} (h : wipeE ρ own = wipeE ρ0 own) (hs : ∀ i ∈ own, soft ρ0[i]?) : backE ρ0 ρ own = ρ0 := by
  have hl : ∀ (ρ : Env) (own : List Nat), (wipeE ρ own).length = ρ.length := fun ρ own => by
    induction own with
    | nil => rfl
    | cons a b ih => simp only [wipeE, List.length_set, ih]
  have hlen : ρ.length = ρ0.length := by
    have := congrArg List.length h
    rwa [hl, hl] at this
  apply List.ext_getElem?
  intro j
  rw [back_at]
  have e := congrArg (fun (l : Env) => l[j]?) h
  simp only [wipe_at] at e
  by_cases m : j ∈ own ∧ j < ρ.length
  · rw [if_pos m]
    have q := hs j m.1
    have lt : j < ρ0.length := by omega
    rw [List.getElem?_eq_getElem lt] at q ⊢
    cases z : ρ0[j] with
    | un => rfl
    | val d => rfl
    | own k =>
      rw [z] at q
      exact q.elim
    | bor k =>
      rw [z] at q
      exact q.elim
  · rw [if_neg m]
    rw [if_neg m, if_neg (by rw [← hlen]; exact m)] at e
    exact e
theorem comp_ok (own : List Nat) (g : Tg) (t : T) (e : E) (p : D → Bool) (h : D → D) (ρ : Env) : ∀ (xs acc : List D), acc.length + xs.length ≤ 100000 →
    (∀ x ∈ xs, ∃ ρ1, g x (wipeE ρ own) = some ρ1 ∧ t ρ1 = .ok (p x) ρ1 ∧ (p x = true → val e ρ1 = .ok (h x) ρ1) ∧ wipeE ρ1 own = wipeE ρ own) →
    ∀ ρ', wipeE ρ' own = wipeE ρ own → ∃ ρf, comp own g t e xs acc ρ' = .ok (acc ++ (xs.filter p).map h) ρf ∧ wipeE ρf own = wipeE ρ own
  | [], acc, _, _, ρ', hw => ⟨ρ', by simp [comp], hw⟩
  | x :: xs, acc, hl, hx, ρ', hw => by
    obtain ⟨ρ1, e1, e2, e3, e4⟩ := hx x List.mem_cons_self
    simp only [List.length_cons] at hl
    have hx' := fun y hy => hx y (List.mem_cons_of_mem _ hy)
    cases q : p x with
    | false =>
      obtain ⟨ρf, q1, q2⟩ := comp_ok own g t e p h ρ xs acc (by omega) hx' ρ1 e4
      refine ⟨ρf, ?_, q2⟩
      rw [q] at e2
      simp only [comp, hw, e1, e2, q1]
      rw [List.filter_cons_of_neg (by rw [q]; exact Bool.false_ne_true)]
    | true =>
      obtain ⟨ρf, q1, q2⟩ := comp_ok own g t e p h ρ xs (acc ++ [h x]) (by simp only [List.length_append, List.length_singleton]; omega) hx' ρ1 e4
      refine ⟨ρf, ?_, q2⟩
      rw [q] at e2
      have e3 := e3 q
      simp only [comp, hw, e1, e2]
      simp only [e3]
      rw [if_pos (by omega), q1, List.filter_cons_of_pos q]
      simp
/-- a comprehension that leaves the slots alone -/
theorem lc_ok {own : List Nat} {src : M (List D)} {g : Tg} {t : T} {e : E} {ρ ρ0 : Env} {xs : List D} (p : D → Bool) (h : D → D) (hs : src ρ = .ok xs ρ0) (hl : xs.length ≤ 100000) (soft0 : ∀ i ∈ own, soft ρ0[i]?)
    (each : ∀ x ∈ xs, ∃ ρ1, g x (wipeE ρ0 own) = some ρ1 ∧ t ρ1 = .ok (p x) ρ1 ∧ (p x = true → val e ρ1 = .ok (h x) ρ1) ∧ wipeE ρ1 own = wipeE ρ0 own) :
    eLc own src g t e ρ = .ok (.o (.lst ((xs.filter p).map h))) ρ0 := by
  obtain ⟨ρf, q1, q2⟩ := comp_ok own g t e p h ρ0 xs [] (by simpa using hl) each ρ0 rfl
  unfold eLc bind
  simp only [hs, q1, List.nil_append]
  rw [back_same q2 soft0]
/-! ### loops -/
theorem loop_ok {g : Tg} {b : S} (I : Nat → Env → Prop) : ∀ (xs : List D) (n : Nat) (ρ : Env), I n ρ →
    (∀ (i : Nat) (x : D) (ρ : Env), xs[i]? = some x → I (n + i) ρ → ∃ ρ1 ρ2, g x ρ = some ρ1 ∧ (b ρ1 = .nx ρ2 ∨ b ρ1 = .ct ρ2) ∧ I (n + i + 1) ρ2) → ∃ ρ', loop g b xs ρ = .nx ρ' ∧ I (n + xs.length) ρ'
  | [], n, ρ, h, _ => ⟨ρ, rfl, h⟩
  | x :: xs, n, ρ, h, hs => by
    obtain ⟨ρ1, ρ2, e1, e2, e3⟩ := hs 0 x ρ rfl h
    obtain ⟨ρ', q1, q2⟩ := loop_ok I xs (n + 1) ρ2 e3 fun i y ρ hy hI => by
      have hI' : I (n + (i + 1)) ρ := by
        rw [show n + (i + 1) = n + 1 + i by omega]
        exact hI
      obtain ⟨a, c, r1, r2, r3⟩ := hs (i + 1) y ρ (by simpa using hy) hI'
      exact ⟨a, c, r1, r2, by rw [show n + 1 + i + 1 = n + (i + 1) + 1 by omega]; exact r3⟩
    refine ⟨ρ', ?_, by rw [List.length_cons, show n + (xs.length + 1) = n + 1 + xs.length by omega]; exact q2⟩
    rcases e2 with e2 | e2 <;> simp only [loop, e1, e2, q1]
theorem ret_ok {m : E} {ρ ρ' : Env} {r : Rv} (h : m ρ = .ok r ρ') : sRet m ρ = .rt r ρ' := by simp only [sRet, runM, h]
theorem asg_ok {m : E} {i : Nat} {ρ ρ' ρ2 : Env} {r : Rv} (h : m ρ = .ok r ρ') (hs : store ρ' i r.sl = some ρ2) : sAsg i m ρ = .nx ρ2 := by simp only [sAsg, runM, h, hs]
theorem val_ok {m : E} {ρ ρ' : Env} {r : Rv} (h : m ρ = .ok r ρ') : val m ρ = .ok r.fr ρ' := by simp only [val, bind, h, ret]
theorem for_ok {src : M (List D)} {g : Tg} {b : S} {ρ ρ' : Env} {xs : List D} {f : Fl} (h : src ρ = .ok xs ρ') (hl : loop g b xs ρ' = f) : sFor src g b ρ = f := by simp only [sFor, runM, h, hl]
theorem fn_ret {n : Nat} {b : S} {as : List Slot} {r : Rv} {ρ : Env} {sl : List Slot} (h : b (as ++ List.replicate (n - as.length) .un) = .rt r ρ) (hs : outE as.length ρ = sl) : fn n b as = .ok r sl := by rw [fn_rt h, hs]
theorem e2_ok {f : D → D → Option Rv} {a b : E} {ρ ρ1 ρ2 : Env} {x y : D} {z : Rv} (h1 : val a ρ = .ok x ρ1) (h2 : val b ρ1 = .ok y ρ2) (h3 : f x y = some z) : e2 f a b ρ = .ok z ρ2 := by
  show bind (val a) (fun x => bind (val b) fun y => opt (f x y)) ρ = _
  generalize val a = va at *
  generalize val b = vb at *
  simp only [bind, h1, h2, h3, opt, ret]
theorem at0 {α : Type} {a : α} {r : List α} : dAt (a :: r) 0 = some a := by
  unfold dAt ixAt
  rw [if_pos (by decide), if_pos (by simp)]
  rfl
theorem at1 {α : Type} {a b : α} {r : List α} : dAt (a :: b :: r) 1 = some b := by
  unfold dAt ixAt
  rw [if_pos (by decide), if_pos (by simp only [List.length_cons]; omega)]
  rfl
end Dn
set_option Elab.async false
set_option linter.all false
set_option maxRecDepth 100000
set_option maxHeartbeats 6400000
/-! set(a list of ints), as an object of the layer. -/
namespace Dn
open PySem PySem.Spec PyProof.Rows L2
/-- the set's object as it is made -/
abbrev sob (w : World) : Obj := { cls := .type "set", dict := none, data := .set #[] 0 (.fresh 0 0 (!w.params.followText "set-order")) }
section
variable {P : Program} {w : World} {A : Around} {E : Value → Shared → Prop} {s : Shared}
theorem set_of_list {l : Addr} {vs : Array Value} (ks : List Int) {Q : Value → Shared → Prop} (hA : A.handled = none) (Hl : s.heap.IsList l vs) (Hk : IntsAre vs.toList ks) (Hb : ks.length + 1 < scanBound)
    (h : ∀ (h' : Heap) (tk c : Nat), SetR w h' s.heap.objs.size (fun j => decide (j ∈ ks)) c → c ≤ ks.length → (∀ b o, s.heap.get? b = some o → h'.get? b = some o) → Q (.ref s.heap.objs.size) { s with heap := h', toks := tk }) :
    wpAny (model P w) A (call (.type "set") [.ref l]) Q E s := by
  have hsz : vs.size = ks.length := by
    have q := IntsAre.length Hk
    rwa [Array.length_toList] at q
  obtain ⟨ct, rest, hm⟩ := F.called_set.mro
  have f1 := F.called_set.made
  have f2 := F.called_set.sub
  refine wpAny_call (codeAny_of_tree ?_)
  show wpAny _ _ (callAny (.type "set") _) _ _ _
  refine wpAny_pure ⟨Code.quiet_builtin _ (by decide +kernel), ?_⟩
  refine codeAny_builtin F.entry_type_call ?_
  rw [Around.under_plain (weight_type_call_type "set" [.ref l] []) rfl]
  have f3 := F.called_set.notType
  have f4 := F.called_set.canCreate
  have f5 := F.typeCall_set_1 (.ref l)
  repeat (any_goals (first | assumption | wp_step))
  refine codeAny_mono (code_set_led1 (.ref l) (E := E) (Q₁ := fun x s1 => x = .ref s.heap.objs.size ∧ s1 = { s with heap := s.heap.push (sob w) }) ⟨rfl, rfl⟩) fun r s1 hr => ?_
  match r, hr with
  | .error e, hr => exact hr
  | .ok (.ret x), hr =>
    obtain ⟨rfl, rfl⟩ := hr
    have g1 : (s.heap.push (sob w)).get? s.heap.objs.size = some (sob w) := Heap.get?_push_size _ rfl
    have g2 : Shared.TypeIs { s with heap := s.heap.push (sob w) } (.ref s.heap.objs.size) "set" := ⟨_, g1, rfl⟩
    have f6 := F.called_set.init.lookup
    have f7 := F.called_set.init.bind (.ref s.heap.objs.size)
    repeat (any_goals (first | assumption | wp_step))
    refine codeAny_mono (codeAny_call_builtin (R := wants (fun y s2 => y = .none ∧ ∃ h' tk c, s2 = { s with heap := h', toks := tk } ∧ SetR w h' s.heap.objs.size (fun j => decide (j ∈ ks)) c ∧ c ≤ ks.length ∧ (∀ b o, s.heap.get? b = some o → h'.get? b = some o)) E)
      F.called_set.init.plain F.entry_set_init (check_set_init_1 g2 ?_)) fun y s2 hy => ?_
    · obtain ⟨⟨k0, k1, k2, k3⟩, ho, hc, nl, hd⟩ := Hl
      simp only at hc hd
      subst hc
      subst hd
      have g3 : (s.heap.push (sob w)).get? l = some { cls := .type "list", dict := k1, data := .seq vs nl, slots := k3 } := Heap.get?_push_of_some _ ho
      have e1 := F.sub_list_set
      have e2 := F.sub_list_frozenset
      have e3 : (Value.type "list" == Value.type "dict") = false := by decide
      have g4 : (s.heap.push (sob w)).IsList l vs := ⟨_, g3, rfl, nl, rfl⟩
      unfold Builtin.«set.__init__» noKeywords Builtin.Frozenset.updateFrom
      generalize hPI : pyIter = PI
      wp_walk
      subst hPI
      refine wpAny_pyIter_list g4 ?_
      refine wpAny_bind (wpAny_runValue ?_)
      have lt : l < s.heap.objs.size := Heap.lt_size ho
      have calm : A.in1.in1.in1.handled = none := by simp [hA]
      have ne1 : l ≠ (s.heap.push (sob w)).objs.size := Nat.ne_of_lt (by
        rw [Heap.size_push]
        exact Nat.lt_succ_of_lt lt)
      have out1 : s.heap.objs.size ∉ [(s.heap.push (sob w)).objs.size, l] := by
        rw [Heap.size_push]
        intro z
        rcases List.mem_cons.mp z with z | z
        · exact absurd z (Nat.ne_of_lt (Nat.lt_succ_self _))
        · exact absurd (List.mem_singleton.mp z) (Nat.ne_of_gt lt)
      have each : ∀ (i : Nat) (v : Value), vs[i]? = some v → ∃ k t, ks[i]? = some k ∧ v = .int k t := fun i v hv => by
        have hi : i < ks.length := by
          rw [← hsz]
          exact (Array.getElem?_eq_some_iff.mp hv).1
        obtain ⟨t, e⟩ := IntsAre.int_at Hk i v (by rw [Array.getElem?_toList]; exact hv)
        refine ⟨ks[i], t, List.getElem?_eq_getElem hi, e.trans ?_⟩
        rw [List.getD_eq_getElem?_getD, List.getElem?_eq_getElem hi]
        rfl
      have first : SetR w (((s.heap.push (sob w)).push { cls := .type "list_iterator", data := .fields #[.ref l, .int 0 0] })) s.heap.objs.size (fun j => decide (j ∈ ks.take 0)) 0 := setR_new_at (Heap.get?_push_of_some _ g1)
      refine set_update_ints ((Walks.list calm _ l ne1 vs).toS) s.heap.objs.size out1 ks hsz Hb each (vs.size - 0) 0 _ (by omega) (Nat.zero_le _) ⟨⟨_, Heap.get?_push_size _ rfl, rfl, rfl⟩, g4.push _⟩ ⟨0, Nat.le_refl 0, first⟩ ?_
      rintro ⟨hq, gq, dq, tq, oq⟩ c' hm1 hc1 hS1
      have eg : gq = s.gens := hm1.gens
      have ed : dq = s.drawn := hm1.drawn
      have eo : oq = s.os := hm1.os
      subst eg ed eo
      show wpAny _ _ _ _ _ _
      refine wpAny_pure ?_
      show wpAny _ _ (PySem.ret Value.none) _ _ _
      rw [hsz] at hc1
      refine wpAny_pure ⟨rfl, hq, tq, c', rfl, hS1, hc1, fun b o e => ?_⟩
      have b0 : b < s.heap.objs.size := Heap.lt_size e
      refine hm1.heap b o (fun z => ?_) (Heap.get?_push_of_some _ (Heap.get?_push_of_some _ e))
      rcases List.mem_cons.mp z with z | z
      · exact absurd z (Nat.ne_of_lt b0)
      · have z := List.mem_singleton.mp z
        rw [Heap.size_push] at z
        exact absurd z (Nat.ne_of_lt (Nat.lt_succ_of_lt b0))
    · match y, hy with
      | .error e, hy => exact hy
      | .ok (.ret y'), hy =>
        obtain ⟨rfl, hq, tq, c', rfl, hS1, hc1, keep⟩ := hy
        repeat (any_goals (first | assumption | wp_step))
        exact h _ _ _ hS1 hc1 keep
end
section
variable {X : Cx}
def rSetL (K : PySem.W.Frag) (w : World) : List V → Hp → VK → Prop := fun xs H Q => ∃ (l : Addr) (ks : List Int), xs = [.ref l] ∧ SqL K H l (ks.map V.int) ∧ ks.length < 64 ∧
  ∀ p c, H p = none → c ≤ ks.length → Q (.ref p) (upd H p (SetO w p (fun j => decide (j ∈ ks)) c))
theorem cr_setL (hc : X.calm = true) : CallR X (.type "set") (rSetL X.K X.w) := by
  intro pins s σ H vs us Q I r h
  obtain ⟨l, ks, rfl, hS, h64, q⟩ := h
  rw [Vals.ref1 r]
  obtain ⟨its, rv, hl, hz⟩ := I.list hS
  have hlen : its.toArray.size = ks.length := by rw [List.size_toArray, ← rv.length, List.length_map]
  refine set_of_list ks (I.ok.hd hc) hl.isList (by simpa using intsAre_of rv) (by unfold scanBound; omega) fun h' tk c hR hcl keep => ?_
  refine ⟨.ref s.heap.objs.size, upd H s.heap.objs.size (SetO X.w s.heap.objs.size (fun j => decide (j ∈ ks)) c), I.laid (t' := tk) keep (Nat.le_refl _) (setO_new hR), rfl, q _ c (I.hok.fresh (Nat.le_refl _)) hcl⟩
end
end Dn
set_option Elab.async false
set_option linter.all false
set_option maxRecDepth 100000
set_option maxHeartbeats 4000000
/-! More rules: bits, sorting, slices, chains, augmented names. -/
namespace Dn
open PySem L2
open Evl (Ex ex_l ex_t fresh_back)
section
variable {K : PySem.W.Frag} {mg : Str → Option Value} {c : Cxt} {ma mb md : E}
theorem o_shl : Op2 K c (rI CShl fun i j => .int (i * 2 ^ j.toNat)) oShl := by
  intro ρ σ Hs H x y vx vy z Q st rx ry e k
  cases rx <;> cases ry <;> first | (simp only [oShl] at e; cases e; done) | skip
  simp only [oShl] at e
  split at e
  · rename_i h
    cases e
    exact ⟨_, _, rfl, rfl, h, keep_d st k (R.int _)⟩
  · cases e
theorem o_shr : Op2 K c (rI (fun _ j => 0 ≤ j) fun i j => .int (i / 2 ^ j.toNat)) oShr := by
  intro ρ σ Hs H x y vx vy z Q st rx ry e k
  cases rx <;> cases ry <;> first | (simp only [oShr] at e; cases e; done) | skip
  simp only [oShr] at e
  split at e
  · rename_i h
    cases e
    exact ⟨_, _, rfl, rfl, h, keep_d st k (R.int _)⟩
  · cases e
theorem o_band : Op2 K c (rI0 fun i j => .int (Builtin.bitAnd i j)) oBand := by
  intro ρ σ Hs H x y vx vy z Q st rx ry e k
  cases rx <;> cases ry <;> first | (simp only [oBand] at e; cases e; done) | skip
  simp only [oBand] at e
  cases e
  exact ⟨_, _, rfl, rfl, keep_d st k (R.int _)⟩
theorem o_bor : Op2 K c (rI0 fun i j => .int (Builtin.bitOr i j)) oBor := by
  intro ρ σ Hs H x y vx vy z Q st rx ry e k
  cases rx <;> cases ry <;> first | (simp only [oBor] at e; cases e; done) | skip
  simp only [oBor] at e
  cases e
  exact ⟨_, _, rfl, rfl, keep_d st k (R.int _)⟩
theorem o_max1 : Op1 K c (fun v => rMax K [v]) oMax1 := by
  intro ρ σ Hs H x vx z Q st rx e k
  cases rx <;> first | (simp only [oMax1] at e; cases e; done) | skip
  rename_i h1 h2
  simp only [oMax1, Option.bind_eq_some_iff, Option.map_eq_some_iff] at e
  obtain ⟨ns, e1, m, e2, rfl⟩ := e
  obtain ⟨q1, q2⟩ := maxI_spec e2
  refine ⟨_, ns, rfl, SqL.of (by rw [← h2.isof e1]; exact st.sub _ _ h1), List.length_pos_of_mem q1, fun m' h3 h4 => ?_⟩
  have e3 : m' = m := by
    have := h4 m q1
    have := q2 m' h3
    omega
  subst e3
  exact keep_d st k (R.int _)
theorem o_min1 : Op1 K c (fun v => rMin K [v]) oMin1 := by
  intro ρ σ Hs H x vx z Q st rx e k
  cases rx <;> first | (simp only [oMin1] at e; cases e; done) | skip
  rename_i h1 h2
  simp only [oMin1, Option.bind_eq_some_iff, Option.map_eq_some_iff] at e
  obtain ⟨ns, e1, m, e2, rfl⟩ := e
  obtain ⟨q1, q2⟩ := minI_spec e2
  refine ⟨_, ns, rfl, SqL.of (by rw [← h2.isof e1]; exact st.sub _ _ h1), List.length_pos_of_mem q1, fun m' h3 h4 => ?_⟩
  have e3 : m' = m := by
    have := h4 m q1
    have := q2 m' h3
    omega
  subst e3
  exact keep_d st k (R.int _)
theorem o_sorted : Op1 K c (fun v => rSortedI K [v]) oSorted := by
  intro ρ σ Hs H x vx z Q st rx e k
  cases rx <;> first | (simp only [oSorted] at e; cases e; done) | skip
  rename_i h1 h2
  simp only [oSorted, Option.map_eq_some_iff] at e
  obtain ⟨ns, e1, rfl⟩ := e
  refine ⟨_, ns, rfl, SqL.of (by rw [← h2.isof e1]; exact st.sub _ _ h1), fun ns' p hp hs hn => ?_⟩
  rw [sorted_uniq hp hs]
  exact new_o st k (Rs.ints _) hn
/-- sorted(set(xs)) -/
def tSortedSet (K : PySem.W.Frag) (w : World) (ta : TE) : TE := fun σ H Q => ta σ H fun x H1 => rSetL K w [x] H1 fun y H2 => rSortedSet w [y] H2 Q
theorem ev_sortedSet {w : World} {ta : TE} (ha : Ev K mg c ta (pV K c) ma) : Ev K mg c (tSortedSet K w ta) (pV K c) (e1 oSortedSet ma) := by
  refine ev_bind (u := fun σ (x : V) H (Q : VK) => rSetL K w [x] H fun y H2 => rSortedSet w [y] H2 Q) (ev_val ha) fun x vx ρ σ Hs H Q st rx g => ?_
  obtain ⟨z, e, g⟩ := goal_opt g
  cases rx <;> first | (simp only [oSortedSet] at e; cases e; done) | skip
  rename_i h1 h2
  simp only [oSortedSet, Option.bind_eq_some_iff] at e
  obtain ⟨ns, e1, e2⟩ := e
  split at e2
  · rename_i h64
    cases e2
    refine ⟨_, ns, rfl, SqL.of (by rw [← h2.isof e1]; exact st.sub _ _ h1), h64, fun p k hp hk => ?_⟩
    refine ⟨p, _, k, rfl, upd_same, by omega, fun ns' q hs hm hl hq => ?_⟩
    have hm' : ∀ j, j ∈ ns' ↔ j ∈ ns := fun j => (hm j).trans (by rw [decide_eq_true_eq])
    rw [strict_uniq hs hm']
    have st2 : StR K c ρ σ Hs (upd H p (SetO w p (fun j => decide (j ∈ ns)) k)) := st.newO hp
    exact new_o st2 (fun v Hs' H' a b d => g v Hs' H' a b d) (Rs.ints _) hq
  · cases e2
end
section
variable {X : Cx} {c : Cxt} {a b d : Expr} {pos p p2 p3 : Pos} {ma mb md : E}
theorem d_shl (ha : DE X c a ma) (hb : DE X c b mb) : DE X c (.BinOp a .LShift b pos) (e2 oShl ma mb) := ped (pe_op op_shlW ha hb) (ev_op2 o_shl ev_te ev_te)
theorem d_shr (ha : DE X c a ma) (hb : DE X c b mb) : DE X c (.BinOp a .RShift b pos) (e2 oShr ma mb) := ped (pe_op op_shr ha hb) (ev_op2 o_shr ev_te ev_te)
theorem d_band (ha : DE X c a ma) (hb : DE X c b mb) : DE X c (.BinOp a .BitAnd b pos) (e2 oBand ma mb) := ped (pe_op op_and ha hb) (ev_op2 o_band ev_te ev_te)
theorem d_bor (ha : DE X c a ma) (hb : DE X c b mb) : DE X c (.BinOp a .BitOr b pos) (e2 oBor ma mb) := ped (pe_op op_or ha hb) (ev_op2 o_bor ev_te ev_te)
theorem d_max1 (hc : X.calm = true) (hg : Gl X "max") (hm : X.mg "max" = none) (ha : DE X c a ma) (he : starEach [a] X.env = (false, eval a X.env) :: starEach [] X.env := by rfl) (hpl : (backTo pos (starEach [] X.env)).any (·.1) = false := by rfl) : DE X c (.Call (.Name "max" p) [a] [] pos) (e1 oMax1 ma) :=
  d_b1 (cr_max hc) o_max1 PyProof.Rows.boot_max (by decide) (by decide) hg hm ha he hpl
theorem d_min1 (hc : X.calm = true) (hg : Gl X "min") (hm : X.mg "min" = none) (ha : DE X c a ma) (he : starEach [a] X.env = (false, eval a X.env) :: starEach [] X.env := by rfl) (hpl : (backTo pos (starEach [] X.env)).any (·.1) = false := by rfl) : DE X c (.Call (.Name "min" p) [a] [] pos) (e1 oMin1 ma) :=
  d_b1 (cr_min hc) o_min1 PyProof.Rows.boot_min (by decide) (by decide) hg hm ha he hpl
theorem d_sorted (hg : Gl X "sorted") (hm : X.mg "sorted" = none) (ha : DE X c a ma) (he : starEach [a] X.env = (false, eval a X.env) :: starEach [] X.env := by rfl) (hpl : (backTo pos (starEach [] X.env)).any (·.1) = false := by rfl) : DE X c (.Call (.Name "sorted" p) [a] [] pos) (e1 oSorted ma) :=
  d_b1 cr_sortedI o_sorted PyProof.Rows.boot_sorted (by decide) (by decide) hg hm ha he hpl
theorem d_sortedSet (hc : X.calm = true) (hg : Gl X "sorted") (hm : X.mg "sorted" = none) (hg2 : Gl X "set") (hm2 : X.mg "set" = none) (ha : DE X c a ma) (he : starEach [a] X.env = (false, eval a X.env) :: starEach [] X.env := by rfl)
    (he2 : starEach [.Call (.Name "set" p2) [a] [] p3] X.env = (false, eval (.Call (.Name "set" p2) [a] [] p3) X.env) :: starEach [] X.env := by rfl) (hpl : (backTo p3 (starEach [] X.env)).any (·.1) = false := by rfl) (hpl2 : (backTo pos (starEach [] X.env)).any (·.1) = false := by rfl) :
    DE X c (.Call (.Name "sorted" p) [.Call (.Name "set" p2) [a] [] p3] [] pos) (e1 oSortedSet ma) :=
  ped (pe_callB (cr_sortedSet hc) hg hm PyProof.Rows.boot_sorted (pa_cons (pe_callTy (cr_setL hc) hg2 hm2 PyProof.Rows.boot_set (pa_cons ha pa_nil he) (by decide) (by decide) he hpl) pa_nil he2) (by decide) (by decide) he2 hpl2) (ev_sortedSet ev_te)
end
/-! ### bit_length, list(range), slices, chains, x += e -/
section
variable {K : PySem.W.Frag} {mg : Str → Option Value} {c : Cxt} {ma mb md : E}
theorem ev_bits {ta : TE} (ha : Ev K mg c ta (pV K c) ma) : Ev K mg c (tBits ta) (pV K c) (e1 oBitLen ma) := by
  refine ev_bind (u := fun σ (x : V) H (Q : VK) => ∃ i, x = .int i ∧ Q (.int (Builtin.Int.intBits i : Nat)) H) (ev_val ha) fun x vx ρ σ Hs H Q st rx g => ?_
  obtain ⟨z, e, g⟩ := goal_opt g
  cases rx <;> first | (simp only [oBitLen] at e; cases e; done) | skip
  simp only [oBitLen, Option.some.injEq] at e
  subst e
  exact ⟨_, rfl, g _ Hs H st (Ex.refl _) (R.int _)⟩
theorem rs_upTo {H : Hp} (i : Int) (n : Nat) : Rs K H ((List.range n).map fun (k : Nat) => V.int (i + (k : Nat))) (upTo i n) := by
  unfold upTo
  generalize List.range n = l
  induction l with
  | nil => exact .nil
  | cons a r ih => exact .cons (.int _) ih
theorem ev_listR2 {ta tb : TE} (ha : Ev K mg c ta (pV K c) ma) (hb : Ev K mg c tb (pV K c) mb) : Ev K mg c (tLstRg (tRg2 ta tb)) (pV K c) (eListR2 ma mb) := by
  refine ev_two (u := fun x y H (Q : VK) => ∃ i j, x = V.int i ∧ y = V.int j ∧ RgOk i j ∧ ∀ q, H q = none → Q (.ref q) (upd H q (.lst (rgV i j)))) ha hb fun x y vx vy ρ σ Hs H Q st rx ry g => ?_
  cases rx <;> first | exact g.elim | skip
  cases ry <;> first | exact g.elim | skip
  rename_i i j
  simp only at g
  split at g
  · rename_i h
    simp only [Bool.and_eq_true, decide_eq_true_eq, bigOk] at h
    obtain ⟨⟨⟨h1, h2⟩, h3, h4⟩, h5⟩ := h
    exact ⟨i, j, rfl, rfl, ⟨by omega, by omega, by omega, by omega, by omega⟩, fun q hq => new_o st (fun v Hs' H' s e p => g v Hs' H' s e p) (rs_upTo i _) hq⟩
  · exact g.elim
theorem ixS_eq (n d : Nat) (o : Option Int) : ixS n d o = HT.sIx n d o := by cases o <;> rfl
theorem cutV_eq (xs : List V) (lo hi : Option Int) : cutV xs lo hi = cutL xs lo hi := by
  unfold cutV cutL
  rw [ixS_eq, ixS_eq]
theorem Rs.drop {H : Hp} : ∀ {vs : List V} {ds : List D} (n : Nat), Rs K H vs ds → Rs K H (vs.drop n) (ds.drop n)
  | _, _, 0, h => h
  | _, _, n + 1, .nil => .nil
  | _, _, n + 1, .cons _ h => Rs.drop n h
theorem Rs.take {H : Hp} : ∀ {vs : List V} {ds : List D} (n : Nat), Rs K H vs ds → Rs K H (vs.take n) (ds.take n)
  | _, _, 0, _ => by
    rw [List.take_zero, List.take_zero]
    exact .nil
  | _, _, n + 1, .nil => .nil
  | _, _, n + 1, .cons a h => .cons a (Rs.take n h)
theorem Rs.cut {H : Hp} {vs : List V} {ds : List D} (lo hi : Option Int) (h : Rs K H vs ds) : Rs K H (cutL vs lo hi) (cutL ds lo hi) := by
  unfold cutL
  rw [h.length]
  exact Rs.take _ (Rs.drop _ h)
theorem cut_all {α : Type} {xs : List α} {lo hi : Option Int} (h : HT.sIx xs.length 0 lo = 0 ∧ HT.sIx xs.length xs.length hi = xs.length) : cutL xs lo hi = xs := by
  unfold cutL
  rw [ixS_eq, ixS_eq, h.1, h.2]
  simp
def rSlAll (K : PySem.W.Frag) : V → Option Int → Option Int → Hp → VK → Prop := fun x lo hi H Q => (rSlL K x lo hi H Q ∨ rSlA K x lo hi H Q) ∨ rSlS x lo hi H Q
theorem sl_all {X : Cx} : SlR X (rSlAll X.K) := (sl_list.or sl_tupA).or sl_str
def pO : L2.St → Option Int → Env → Hp → Hp → Option Int → Prop := fun _ a _ _ _ b => b = a
theorem o_sl {ρ : Env} {σ : L2.St} {Hs H : Hp} {x : D} {vx : V} {lo hi : Option Int} {z : Rv} {Q : VK} (st : StR K c ρ σ Hs H) (rx : R K Hs vx x) (e : oSl x lo hi = some z) (k : ∀ v Hs' H', StR K c ρ σ Hs' H' → Ex Hs Hs' → RvR K c σ z ρ Hs' H' v → Q v H') : rSlAll K vx lo hi H Q := by
  cases rx <;> first | (simp only [oSl] at e; cases e; done) | skip
  · rename_i w
    simp only [oSl] at e
    split at e
    · rename_i hz
      cases e
      refine .inr ⟨w, rfl, Evl.sz_of hz, ?_⟩
      have e2 : cutS w lo hi = ⟨(cutL w.cps.toList lo hi).toArray⟩ := by
        unfold cutS cutL
        rw [ixS_eq, ixS_eq]
        rfl
      rw [e2]
      exact keep_d st k (R.str _)
    · cases e
  · rename_i a xs ds h1 h2
    simp only [oSl, Option.some.injEq] at e
    subst e
    refine .inl (.inr ⟨a, xs, rfl, ex_t st.sub h1, fun hw => ?_, fun hw p hp => ?_⟩)
    · have hl : xs.length = ds.length := h2.length
      rw [cut_all (by rw [← hl]; exact hw)] at k
      exact keep_d st k (R.tup h1 h2)
    · rw [cutV_eq]
      exact new_t st k (h2.cut lo hi) hp
  · rename_i a xs ds h1 h2
    simp only [oSl, Option.some.injEq] at e
    subst e
    refine .inl (.inl ⟨a, xs, rfl, SqL.of (st.sub _ _ h1), fun p hp => ?_⟩)
    rw [cutV_eq]
    exact new_o st k (h2.cut lo hi) hp
theorem ev_pNone : Ev K mg c tNoPart pO pNone := fun ρ σ Hs H Q st g => g none Hs H st (Ex.refl _) rfl
theorem ev_pSome {ta : TE} (ha : Ev K mg c ta (pV K c) ma) : Ev K mg c (tPart ta) pO (pSome ma) := by
  refine ev_bind (u := fun σ (x : V) H (Q : Option Int → Hp → Prop) => ∃ i, x = V.int i ∧ Q (some i) H) (ev_val ha) fun x vx ρ σ Hs H Q st rx g => ?_
  cases rx <;> first | exact g.elim | skip
  exact ⟨_, rfl, g _ Hs H st (Ex.refl _) rfl⟩
end
section
variable {K : PySem.W.Frag} {mg : Str → Option Value} {c : Cxt} {ma mb md : E}
theorem goal_bind {α β γ δ : Type} {t : L2.St → Hp → (δ → Hp → Prop) → Prop} {P0 : L2.St → α → Env → Hp → Hp → δ → Prop} {m : M α} {f : α → M β} {P' : β → Env → Hp → Hp → γ → Prop} {ρ : Env} {σ : L2.St} {Hs H : Hp} {Q : γ → Hp → Prop} {R0 : δ → Hp → Prop}
    (h : Ev K mg c t P0 m) (st : StR K c ρ σ Hs H) (g : Goal K mg c σ Hs P' (bind m f ρ) Q) (k : ∀ a b ρ' Hs' H', StR K c ρ' σ Hs' H' → Ex Hs Hs' → P0 σ a ρ' Hs' H' b → Goal K mg c σ Hs' P' (f a ρ') Q → R0 b H') : t σ H R0 := by
  refine h ρ σ Hs H R0 st ?_
  unfold bind at g
  cases e : m ρ with
  | bad =>
    simp only [e] at g
    exact g.elim
  | err er ρ' =>
    simp only [e] at g
    exact g
  | ok a ρ' =>
    simp only [e] at g
    exact fun b Hs' H' st' ex p => k a b ρ' Hs' H' st' ex p (g.mono ex)
theorem ev_sl {ta : TE} {tl th : TO} {lo hi : PM} (ha : Ev K mg c ta (pV K c) ma) (hl : Ev K mg c tl pO lo) (hh : Ev K mg c th pO hi) : Ev K mg c (tSl (rSlAll K) ta tl th) (pV K c) (eSl ma lo hi) := by
  refine ev_bind (u := fun σ (x : V) H (Q : VK) => tl σ H fun l H2 => th σ H2 fun u H3 => rSlAll K x l u H3 Q) (ev_val ha) fun x vx ρ σ Hs H Q st rx g => ?_
  refine goal_bind hl st g fun l l' ρ1 Hs1 H1 st1 ex1 el g1 => ?_
  cases el
  refine goal_bind hh st1 g1 fun u u' ρ2 Hs2 H2 st2 ex2 eu g2 => ?_
  cases eu
  obtain ⟨z, e, g3⟩ := goal_opt g2
  exact o_sl st2 (rx.mono (ex1.trans ex2)) e fun v Hs' H' a b d => g3 v Hs' H' a b d
theorem ev_chainV {ta tb tc : TE} {r r' : R2} {f f' : D → D → Option Bool} (hr : Cp2 K c r f) (hr' : Cp2 K c r' f') (ha : Ev K mg c ta (pV K c) ma) (hb : Ev K mg c tb (pV K c) mb) (hc : Ev K mg c tc (pV K c) md) : Ev K mg c (tChain r r' ta tb tc) (pV K c) (eT (eChain f f' ma mb md)) := by
  intro ρ σ Hs H Q st g
  have e0 : eT (eChain f f' ma mb md) ρ = bind (val ma) (fun x => bind (val mb) fun y => bind (opt (f x y)) fun k => if k then bind (val md) fun z => bind (opt (f' y z)) fun k => ret (.d (.bl k)) else ret (.d (.bl false))) ρ := by
    unfold eT eChain bind
    cases val ma ρ with
    | bad => rfl
    | err er ρ' => rfl
    | ok x ρ1 =>
      simp only
      cases val mb ρ1 with
      | bad => rfl
      | err er ρ' => rfl
      | ok y ρ2 =>
        simp only
        cases f x y with
        | none => rfl
        | some k =>
          cases k with
          | false => rfl
          | true =>
            simp only [opt, ret, if_true]
            cases val md ρ2 with
            | bad => rfl
            | err er ρ' => rfl
            | ok z ρ3 =>
              cases f' y z <;> rfl
  rw [e0] at g
  show ta σ H _
  refine goal_bind (ev_val ha) st g fun x vx ρ1 Hs1 H1 st1 ex1 rx g1 => ?_
  refine goal_bind (ev_val hb) st1 g1 fun y vy ρ2 Hs2 H2 st2 ex2 ry g2 => ?_
  cases e : f x y with
  | none =>
    rw [e] at g2
    exact g2.elim
  | some k =>
    rw [e] at g2
    refine hr ρ2 σ Hs2 H2 x y vx vy k _ st2 (R.mono ex2 rx) ry e ⟨k, rfl, ?_⟩
    cases k with
    | false => exact g2 (.bl false) Hs2 H2 st2 (Ex.refl _) (R.bl false)
    | true =>
      refine goal_bind (ev_val hc) st2 g2 fun z vz ρ3 Hs3 H3 st3 ex3 rz g3 => ?_
      cases e' : f' y z with
      | none =>
        rw [e'] at g3
        exact g3.elim
      | some k =>
        rw [e'] at g3
        exact hr' ρ3 σ Hs3 H3 y z vy vz k _ st3 (R.mono ex3 ry) rz e' (g3 (.bl k) Hs3 H3 st3 (Ex.refl _) (R.bl k))
theorem ev_chainT {ta tb tc : TE} {r r' : R2} {f f' : D → D → Option Bool} (hr : Cp2 K c r f) (hr' : Cp2 K c r' f') (ha : Ev K mg c ta (pV K c) ma) (hb : Ev K mg c tb (pV K c) mb) (hc : Ev K mg c tc (pV K c) md) : Ev K mg c (tTest (tChain r r' ta tb tc)) pB (eChain f f' ma mb md) := by
  intro ρ σ Hs H Q st g
  show ta σ H _
  refine goal_bind (ev_val ha) st g fun x vx ρ1 Hs1 H1 st1 ex1 rx g1 => ?_
  refine goal_bind (ev_val hb) st1 g1 fun y vy ρ2 Hs2 H2 st2 ex2 ry g2 => ?_
  cases e : f x y with
  | none =>
    rw [e] at g2
    exact g2.elim
  | some k =>
    rw [e] at g2
    refine hr ρ2 σ Hs2 H2 x y vx vy k _ st2 (R.mono ex2 rx) ry e ⟨k, rfl, ?_⟩
    cases k with
    | false => exact ⟨false, rfl, g2 false Hs2 H2 st2 (Ex.refl _) rfl⟩
    | true =>
      refine goal_bind (ev_val hc) st2 g2 fun z vz ρ3 Hs3 H3 st3 ex3 rz g3 => ?_
      cases e' : f' y z with
      | none =>
        rw [e'] at g3
        exact g3.elim
      | some k =>
        rw [e'] at g3
        exact hr' ρ3 σ Hs3 H3 y z vy vz k _ st3 (R.mono ex3 ry) rz e' ⟨k, rfl, g3 k Hs3 H3 st3 (Ex.refl _) rfl⟩
/-- one comparison of a chain -/
structure Qc (X : Cx) (op : CmpOp) (f : D → D → Option Bool) : Prop where
  ex : ∃ r : R2, OpR X (compareOp op) r ∧ ∀ c : Cxt, Cp2 X.K c r f
theorem q_lt {X : Cx} : Qc X .Lt oLt := ⟨⟨_, op_ltAll, fun c => o_lt⟩⟩
theorem q_le {X : Cx} : Qc X .LtE oLe := ⟨⟨_, op_le, fun c => o_le⟩⟩
theorem q_gt {X : Cx} : Qc X .Gt oGt := ⟨⟨_, op_gt, fun c => o_gt⟩⟩
theorem q_ge {X : Cx} : Qc X .GtE oGe := ⟨⟨_, op_ge, fun c => o_ge⟩⟩
end
/-- x += e, ints -/
theorem evs_augI {K : PySem.W.Frag} {mg : Str → Option Value} {c : Cxt} {te : TE} {m : E} {i : Nat} {F : Int → Int → Int} {f : D → D → Option Rv} (hf : ∀ x y z, f x y = some (.d z) → ∀ a b, x = .int a → y = .int b → z = .int (F a b)) (hn : ∀ x y z, f x y = some (.d z) → (∃ a b, x = .int a ∧ y = .int b)) (h : Ev K mg c te (pV K c) m) :
    EvS K mg c (tAug i te (ipI F)) (sAug f i m) := by
  intro ρ σ Hs H D0 st g
  unfold sAug at g
  cases e0 : ρ[i]? with
  | none =>
    rw [e0] at g
    exact g.elim
  | some s0 =>
    rw [e0] at g
    cases s0 with
    | val x =>
      obtain ⟨v, e1, rx⟩ := st.val i x e0
      refine ⟨v, e1, ev_val h ρ σ Hs H _ st ?_⟩
      simp only at g
      cases e2 : val m ρ with
      | bad =>
        simp only [e2] at g
        exact g.elim
      | err er ρ' =>
        simp only [e2] at g
        exact fun cls od Hs' H' st' ex er => g cls od σ Hs' H' st' ex er
      | ok y ρ' =>
        simp only [e2] at g
        intro vy Hs' H' st' ex ry
        cases e3 : f x y with
        | none =>
          simp only [e3] at g
          exact g.elim
        | some z =>
          simp only [e3] at g
          cases z with
          | o k => exact g.elim
          | d z =>
            simp only at g
            obtain ⟨a, b, rfl, rfl⟩ := hn x y z e3
            have ez := hf _ _ z e3 a b rfl rfl
            subst ez
            cases rx
            cases ry
            refine ⟨a, b, rfl, rfl, ?_⟩
            cases e4 : store ρ' i (.val (.int (F a b))) with
            | none =>
              rw [e4] at g
              exact g.elim
            | some ρ2 =>
              rw [e4] at g
              exact g _ Hs' H' (st'.store (r := .d (.int (F a b))) e4 (R.int _)) ex
    | un => exact g.elim
    | own k => exact g.elim
    | bor k => exact g.elim
section
variable {X : Cx} {c : Cxt} {a b d : Expr} {pos p p2 p3 : Pos} {ma mb md : E}
theorem d_bitlen {apos : Pos} (ha : DE X c a ma) (hbase : attributeBase a "bit_length" X.env (eval a X.env) = eval a X.env := by rfl) (hline : (apos.endLine == pos.line) = true := by rfl) : DE X c (.Call (.Attribute a "bit_length" apos) [] [] pos) (e1 oBitLen ma) := ped (pe_bits ha hbase hline) (ev_bits ev_te)
theorem d_listR2 (hc : X.calm = true) (hg : Gl X "list") (hm : X.mg "list" = none) (hg2 : Gl X "range") (hm2 : X.mg "range" = none) (ha : DE X c a ma) (hb : DE X c b mb)
    (na : starEach [.Call (.Name "range" p2) [a, b] [] p3] X.env = (false, eval (.Call (.Name "range" p2) [a, b] [] p3) X.env) :: starEach [] X.env := by rfl) (hs : starEach [a, b] X.env = (false, eval a X.env) :: starEach [b] X.env := by rfl) (hs2 : starEach [b] X.env = (false, eval b X.env) :: starEach [] X.env := by rfl) (hp : (backTo p3 (starEach [b] X.env)).any (·.1) = false := by rfl) : DE X c (.Call (.Name "list" p) [.Call (.Name "range" p2) [a, b] [] p3] [] pos) (eListR2 ma mb) :=
  ped (pe_listRg hc hg hm (prg_2 hg2 hm2 ha hb hs hs2 hp) na) (ev_listR2 ev_te ev_te)
abbrev DO (X : Cx) (c : Cxt) (e : Option Expr) (m : PM) : Prop := PO X e (wpOf X.K X.mg c pO m)
theorem o_none : DO X c none pNone := ⟨fun pins s σ H Q I h => po_none.run pins s σ H Q I (by
  obtain ⟨ρ, Hs, st, g⟩ := h
  exact ev_pNone ρ σ Hs H Q st g)⟩
theorem o_some (ha : DE X c a ma) : DO X c (some a) (pSome ma) := ⟨fun pins s σ H Q I h => (po_some ha).run pins s σ H Q I (by
  obtain ⟨ρ, Hs, st, g⟩ := h
  exact ev_pSome ev_te ρ σ Hs H Q st g)⟩
theorem d_sl {lo hi : Option Expr} {ml mh : PM} (ha : DE X c a ma) (hl : DO X c lo ml) (hh : DO X c hi mh) : DE X c (.Subscript a (.Slice lo hi none p2) pos) (eSl ma ml mh) := ped (pe_slice sl_all ha hl hh) (ev_sl ev_te ev_self ev_self)
theorem d_chain {op op' : CmpOp} {f f' : D → D → Option Bool} {e3 : Expr} {m3 : E} (q : Qc X op f) (q' : Qc X op' f') (ha : DE X c a ma) (hb : DE X c b mb) (hc : DE X c e3 m3) (hm : lastMarks [op, op'] [b, e3] = false := by with_unfolding_all rfl) : DE X c (.Compare a [op, op'] [b, e3] pos) (eT (eChain f f' ma mb m3)) := by
  obtain ⟨r, h1, h2⟩ := q.ex
  obtain ⟨r', h1', h2'⟩ := q'.ex
  exact ped (pe_chain h1 h1' ha hb hc hm) (ev_chainV (h2 c) (h2' c) ev_te ev_te ev_te)
theorem t_chain {op op' : CmpOp} {f f' : D → D → Option Bool} {e3 : Expr} {m3 : E} (q : Qc X op f) (q' : Qc X op' f') (ha : DE X c a ma) (hb : DE X c b mb) (hc : DE X c e3 m3) (hm : lastMarks [op, op'] [b, e3] = false := by with_unfolding_all rfl) : DT X c (.Compare a [op, op'] [b, e3] pos) (eChain f f' ma mb m3) := by
  obtain ⟨r, h1, h2⟩ := q.ex
  obtain ⟨r', h1', h2'⟩ := q'.ex
  exact ptd (pt_chain h1 h1' ha hb hc hm) (ev_chainT (h2 c) (h2' c) ev_te ev_te ev_te)
theorem s_aug_add (i : Nat) {x : Str} {pos' : Pos} (hN : X.N.Nodup) (h : DE X c a ma) (hi : X.N[i]? = some x := by rfl) (hx : Loc X.env.scope x := by first | exact Or.inl rfl | exact Or.inr rfl) (hf : X.fn x = true ∨ X.env.scope.names.lookup x = some .local := by first | exact Or.inl rfl | exact Or.inr rfl) :
    DS X c (.AugAssign (.Name x pos') .Add a pos) (sAug oAddI i ma) := psd (ps_aug hN hi hx h ip_add hf) (evs_augI (F := fun a b => a + b) (fun x y z e a b h1 h2 => by
      subst h1 h2
      simp only [oAddI, Option.some.injEq, Rv.d.injEq] at e
      exact e.symm) (fun x y z e => by
      cases x <;> cases y <;> first | (simp only [oAddI] at e; cases e; done) | exact ⟨_, _, rfl, rfl⟩) ev_te)
end
end Dn
set_option Elab.async false
set_option linter.all false
set_option maxRecDepth 100000
set_option maxHeartbeats 6400000
/-! t < u of two tuples whose first items differ, or are the same number; a text times a number. -/
namespace Dn
open PySem PySem.SeqAt PyProof.Rows L2
theorem first_lt (l b : Addr) (xs ys : Array Value) (n1 n2 : Nat) (d1 d2 : Option Addr) (s1 s2 : Array (Option Value)) (k : Bool) (p1 : 0 < xs.size) (p2 : 0 < ys.size) :
    Meets (Builtin.«tuple.__lt__» ⟨[.ref l, .ref b], []⟩) (fun A R s => s.heap.get? l = some { cls := .type "tuple", dict := d1, data := .seq xs n1, slots := s1 } ∧
      s.heap.get? b = some { cls := .type "tuple", dict := d2, data := .seq ys n2, slots := s2 } ∧ EqAt A.in1 s xs[0] ys[0] false ∧ RcLt A.in1 s xs[0] ys[0] k ∧ R (.ok (.ret (.bool k))) s) :=
  .of_wp fun prog w A R s hyp => by
    obtain ⟨h0, g0, dr, t0, o0⟩ := s
    obtain ⟨g1, g2, ne, lt, fin⟩ := hyp
    have f2 := AutoSeq1.sub_tuple_tuple
    have zl : (xs.toList.zip ys.toList).length = min xs.size ys.size := by simp
    wp_walk using wpAny_loadPart' g1, wpAny_loadPart' g2, wpAny_forIn_list _ (fun rest q s' => q.1 = none ∧ s' = ⟨h0, g0, dr, t0, o0⟩ ∧ rest = xs.toList.zip ys.toList) _
    case turn =>
      rintro ⟨y, x⟩ rest q s' ⟨q1, rfl, e⟩
      have e0 : (xs.toList.zip ys.toList)[0]? = some (y, x) := by rw [← e]; rfl
      have ex : xs[0]? = some y ∧ ys[0]? = some x := by
        rw [List.getElem?_zip_eq_some] at e0
        simpa using e0
      have a1 : y = xs[0] := by
        have := ex.1
        rw [Array.getElem?_eq_getElem p1] at this
        exact (Option.some.inj this).symm
      have a2 : x = ys[0] := by
        have := ex.2
        rw [Array.getElem?_eq_getElem p2] at this
        exact (Option.some.inj this).symm
      subst a1 a2
      have lt2 : ∀ (prog : Program) (w : World) (E : Value → Shared → Prop) (Q : Value → Shared → Prop), Q (.bool k) ⟨h0, g0, dr, t0, o0⟩ → wpAny (model prog w) A.in1 (PySem.richCompare .Lt xs[0] ys[0]) Q E ⟨h0, g0, dr, t0, o0⟩ := lt
      generalize PySem.richCompare = RC at lt2 ⊢
      refine wpAny_bind (ne prog w _ _ ?_)
      wp_walk
      refine lt2 prog w _ _ ?_
      wp_walk
      exact ⟨_, rfl, fin⟩
    case fin =>
      rintro ⟨q1, q2⟩ s' ⟨q3, rfl, e⟩
      have := congrArg List.length e
      rw [zl] at this
      simp at this
      omega
    case h => exact ⟨rfl, rfl, rfl⟩
theorem lt_first {A : Around} {s : Shared} {l b : Addr} {xs ys : Array Value} {k : Bool} (hl : s.heap.IsTuple l xs) (hb : s.heap.IsTuple b ys) (hu : A.units < cLine) (p1 : 0 < xs.size) (p2 : 0 < ys.size) (ne : EqAt A.in1 s xs[0] ys[0] false) (lt : RcLt A.in1 s xs[0] ys[0] k) :
    RcLt A s (.ref l) (.ref b) k := fun prog w E Q h => by
  obtain ⟨⟨c1, d1, e1, s1⟩, o1, r1, n1, z1⟩ := id hl
  obtain ⟨⟨c2, d2, e2, s2⟩, o2, r2, n2, z2⟩ := id hb
  simp only at r1 z1 r2 z2
  subst r1 z1 r2 z2
  exact richCompare_meets_room (op := .Lt) ⟨_, o1, rfl⟩ ⟨_, o2, rfl⟩ F.slot_tuple_lt F.entry_tuple_lt (F.args_tuple_lt_2 _ _) (first_lt l b xs ys n1 n2 d1 d2 s1 s2 k p1 p2)
    ⟨o1, o2, ne, lt, show Value.bool k ≠ Value.notImplemented ∧ Q (.bool k) s from ⟨(fun x => nomatch x), h⟩⟩ hu
/-- u < v, of one kind -/
def ltV : V → V → Option Bool
  | .int p, .int q => some (decide (p < q))
  | .str p, .str q => some (decide (p.cps.toList < q.cps.toList))
  | _, _ => none
def eqV : V → V → Bool
  | .int p, .int q => p == q
  | .str p, .str q => p == q
  | _, _ => false
section
variable {X : Cx}
def rLtP (K : PySem.W.Frag) : R2 := fun x y H Q => ∃ (a b : Addr) (i j : Int) (u v : V) (k : Bool), x = .ref a ∧ y = .ref b ∧ SqT K H a [.int i, u] ∧ SqT K H b [.int j, v] ∧ (if i = j then ltV u v else some (decide (i < j))) = some k ∧ Q (.bl k) H
theorem firstLt_two {e r : Nat → Bool} {k : Bool} (h0 : e 0 = true) (h1 : e 1 = true → k = false) (h2 : e 1 = false → r 1 = k) : firstLt e r false (List.range 2) = k := by
  show firstLt e r false [0, 1] = k
  unfold firstLt
  rw [if_pos h0]
  unfold firstLt
  cases z : e 1 with
  | true =>
    rw [if_pos rfl, h1 z]
    rfl
  | false =>
    rw [if_neg Bool.false_ne_true]
    exact h2 z
theorem op_ltP (hu : X.A.units < cLine) : OpR X (compareOp .Lt) (rLtP X.K) := by
  intro pins s σ H x y v u Q I rx ry h
  obtain ⟨a, b, i, j, p, q, k, rfl, rfl, ha, hb, hk, hq⟩ := h
  cases rx
  cases ry
  obtain ⟨its1, r1, t1, _⟩ := I.tuple ha
  obtain ⟨its2, r2, t2, _⟩ := I.tuple hb
  have fin : RcLt X.A s (.ref a) (.ref b) k := by
    cases r1 with
    | @cons _ w1 _ _ m1 r1 =>
      cases r1 with
      | @cons _ w2 _ _ m2 r1 =>
        cases r1
        cases r2 with
        | @cons _ w3 _ _ m3 r2 =>
          cases r2 with
          | @cons _ w4 _ _ m4 r2 =>
            cases r2
            obtain ⟨k1, rfl⟩ := m1
            obtain ⟨k3, rfl⟩ := m3
            by_cases e : i = j
            · subst e
              rw [if_pos rfl] at hk
              have e0 : ∀ A', EqAt A' s (.int i k1) (.int i k3) true := fun A' => by
                have := (MeetsSeq.EqGives.int i i k1 k3).at A' s
                simpa using this
              have e1 : ∃ z : Bool, (∀ A', EqAt A' s w2 w4 z) ∧ (z = true → k = false) ∧ (∀ A', RcLt A' s w2 w4 k) := by
                cases p with
                | int p =>
                  cases q with
                  | int q =>
                    obtain ⟨k2, rfl⟩ := m2
                    obtain ⟨k4, rfl⟩ := m4
                    simp only [ltV, Option.some.injEq] at hk
                    subst hk
                    refine ⟨p == q, fun A' => (MeetsSeq.EqGives.int p q k2 k4).at A' s, fun z => ?_, fun A' prog w E Q h => P.lt_int h⟩
                    have := eq_of_beq z
                    rw [decide_eq_false_iff_not]
                    omega
                  | _ => cases hk
                | str p =>
                  cases q with
                  | str q =>
                    obtain ⟨k2, rfl⟩ := m2
                    obtain ⟨k4, rfl⟩ := m4
                    simp only [ltV, Option.some.injEq] at hk
                    subst hk
                    refine ⟨p.cps.toList == q.cps.toList, fun A' => (SeqRoads2.EqGives.str p q k2 k4).at A' s, fun z => ?_, fun A' prog w E Q h => P.lt_str h⟩
                    rw [eq_of_beq z, decide_eq_false_iff_not]
                    exact List.lt_irrefl _
                  | _ => cases hk
                | _ => cases hk
              obtain ⟨z, z1, z2, z3⟩ := e1
              have := RcLt.tuples (e := fun n => if n = 0 then true else z) (r := fun _ => k) t1 t2 hu (fun n h1 h2 => ?_) (fun n h1 h2 hn => ?_)
              · rw [show decide (([Value.int i k1, w2].toArray).size < ([Value.int i k3, w4].toArray).size) = false from rfl, show min ([Value.int i k1, w2].toArray).size ([Value.int i k3, w4].toArray).size = 2 from rfl, firstLt_two rfl z2 (fun _ => rfl)] at this
                exact this
              · match n, h1, h2 with
                | 0, _, _ => exact e0 _
                | 1, _, _ => exact z1 _
              · match n, h1, h2, hn with
                | 0, _, _, hn => cases hn
                | 1, _, _, _ => exact z3 _
            · rw [if_neg e] at hk
              have hk := Option.some.inj hk
              subst hk
              refine lt_first t1 t2 hu (Nat.zero_lt_succ 1) (Nat.zero_lt_succ 1) ?_ (fun prog w E Q h => P.lt_int h)
              have := (MeetsSeq.EqGives.int i j k1 k3).at X.A.in1 s
              rwa [show (i == j) = false from beq_eq_false_iff_ne.mpr e] at this
  exact fin _ _ _ _ ⟨.bl k, H, I, rfl, hq⟩
end
section
variable {K : PySem.W.Frag} {mg : Str → Option Value} {c : Cxt} {ma mb : E}
theorem ltV_of {H : Hp} {u v : V} {x y : D} {k : Bool} (rx : R K H u x) (ry : R K H v y) (h : ltD x y = some k) : ltV u v = some k := by
  cases rx <;> cases ry <;> first | (simp only [ltD] at h; cases h; done) | exact h
theorem o_ltP : Cp2 K c (rLtP K) oLtP := by
  intro ρ σ Hs H x y vx vy k Q st rx ry e q
  unfold oLtP at e
  split at e
  · rename_i i u j v
    cases rx with
    | tup h1 h2 =>
      cases ry with
      | tup h3 h4 =>
        cases h2 with
        | cons a1 a2 =>
          cases a1
          cases a2 with
          | cons a3 a4 =>
            cases a4
            cases h4 with
            | cons b1 b2 =>
              cases b1
              cases b2 with
              | cons b3 b4 =>
                cases b4
                refine ⟨_, _, i, j, _, _, k, rfl, rfl, Evl.ex_t st.sub h1, Evl.ex_t st.sub h3, ?_, q⟩
                by_cases z : i = j
                · rw [if_pos z] at e ⊢
                  exact ltV_of a3 b3 e
                · rw [if_neg z] at e ⊢
                  exact e
  · cases e
/-- a text times a number, two at least -/
def rMulS : R2 := fun x y H Q => ∃ (z : Str) (n : Nat), x = .str z ∧ y = .int (n : Int) ∧ 2 ≤ n ∧ n ≤ 1000 ∧ 1 ≤ z.length ∧ z.length ≤ 1000 ∧ Q (.str ⟨(List.replicate n z.cps).foldl (· ++ ·) #[]⟩) H
theorem rep_size (a : Array Nat) : ∀ (n : Nat) (acc : Array Nat), ((List.replicate n a).foldl (· ++ ·) acc).size = acc.size + n * a.size
  | 0, acc => by simp
  | n + 1, acc => by
    rw [List.replicate_succ, List.foldl_cons, rep_size a n, Array.size_append, Nat.add_mul]
    omega
theorem op_mulS {X : Cx} : OpR X (binaryOp .Mult) rMulS := by
  intro pins s σ H x y v u Q I rx ry h
  obtain ⟨z, n, rfl, rfl, h2, h3, h4, h5, q⟩ := h
  obtain ⟨t, rfl⟩ := rx
  obtain ⟨t', rfl⟩ := ry
  have hz : z.length * n ≤ 1000000 := Nat.le_trans (Nat.mul_le_mul h5 h3) (by decide)
  refine PySem.P.mul_str ?_ (fun _ _ => ?_) (fun _ _ => ?_) ?_
  · simp only [Bool.or_eq_false_iff, decide_eq_false_iff_not]
    constructor <;> omega
  · have : (1000 : Int) ≤ (2 ^ 63 - 1) / (n : Int) := by
      rw [Int.le_ediv_iff_mul_le (by omega)]
      omega
    omega
  · rw [Int.toNat_natCast]
    have : (1000000 : Nat) ≤ sizeLine := by decide
    exact decide_eq_false (by omega)
  · rw [if_neg (by omega), if_neg (by
      simp only [Bool.or_eq_true, beq_iff_eq]
      omega)]
    rw [Int.toNat_natCast]
    refine ⟨?_, .str _, H, I.tok _, ⟨_, rfl⟩, q⟩
    have e := rep_size z.cps n #[]
    show ((List.replicate n z.cps).foldl (· ++ ·) #[]).size ≤ sizeLine
    rw [e]
    have e2 : z.length = z.cps.size := rfl
    rw [e2, Nat.mul_comm] at hz
    have : (1000000 : Nat) ≤ sizeLine := by decide
    have e3 : (#[] : Array Nat).size = 0 := rfl
    omega
theorem o_mulS : Op2 K c rMulS oMulS := by
  intro ρ σ Hs H x y vx vy z Q st rx ry e k
  cases rx <;> cases ry <;> first | (simp only [oMulS] at e; cases e; done) | skip
  rename_i w i
  simp only [oMulS] at e
  split at e
  · rename_i hh
    cases e
    refine ⟨w, i.toNat, rfl, by rw [show ((i.toNat : Nat) : Int) = i by omega], by omega, by omega, hh.2.2.1, hh.2.2.2, keep_d st k (R.str _)⟩
  · cases e
theorem ev_srcS {te : TE} (h : Ev K mg c te (pV K c) ma) : Ev K mg c (iStr te) (pI K) (srcS ma) :=
  ev_bind (u := fun σ (x : V) H (Q : It → Hp → Prop) => ∃ z, x = .str z ∧ Q (Its z) H) (ev_val h) fun d v ρ σ Hs H Q st r g => by
    cases r with
    | str z =>
      refine ⟨z, rfl, g _ Hs H st (Evl.Ex.refl _) ⟨_, _, (by rw [List.length_map, Array.length_toList]; exact walk_str), fun H' e => trivial, fun i H' x H'' hi e y => ?_⟩⟩
      obtain ⟨rfl, k, y2, rfl⟩ := y
      refine ⟨.str ⟨#[k]⟩, ?_, .inl ⟨rfl, .str _⟩⟩
      rw [List.getElem?_map, Array.getElem?_toList, y2]
      rfl
    | _ => exact g.elim
end
section
variable {X : Cx} {c : Cxt} {a b : Expr} {pos : Pos} {ma mb : E}
theorem d_ltP (hu : X.A.units + 1 < cLine) (ha : DE X c a ma) (hb : DE X c b mb) : DE X c (.Compare a [.Lt] [b] pos) (eT (t2 oLtP ma mb)) := de_cmp (op_ltP (by omega)) o_ltP (fun b => nomark b) ha hb
theorem t_ltP (hu : X.A.units + 1 < cLine) (ha : DE X c a ma) (hb : DE X c b mb) : DT X c (.Compare a [.Lt] [b] pos) (t2 oLtP ma mb) := dt_cmp (op_ltP (by omega)) o_ltP (fun b => nomark b) ha hb
theorem d_mulS (ha : DE X c a ma) (hb : DE X c b mb) : DE X c (.BinOp a .Mult b pos) (e2 oMulS ma mb) := ped (pe_op op_mulS ha hb) (ev_op2 o_mulS ev_te ev_te)
theorem i_str {tg : Expr} (ha : DE X c a ma) : DI X c tg a (srcS ma) := pid (pi_str ha) (ev_srcS ev_te)
end
end Dn
set_option linter.all false
/-! The denotations of the defs of k01_values_and_variables. -/
namespace Dn.k01_values_and_variables
open PySem Dn
def v_GREATEST_INTEGER : D := .int 1000
def v_LONGEST_SYMBOL : D := .int 12
def v_LONGEST_VARIABLE : D := .int 8
def v_LETTERS : D := .str "abcdefghijklmnopqrstuvwxyz"
def v_VARIABLE_CHARACTERS : D := .str "abcdefghijklmnopqrstuvwxyz0123456789"
def v_SYMBOL_CHARACTERS : D := .str "abcdefghijklmnopqrstuvwxyz0123456789_"
def v_RESERVED : D := .tup [.str "kind", .str "relation", .str "fact", .str "rule", .str "if", .str "not", .str "same", .str "differ", .str "count", .str "sum", .str "least", .str "greatest"]
def b__law_stream : S := sRet (eLst [e1 oList (eV 0), eC (.int 0), eC (.int 0)])
def g__law_stream : FD := fn 1 b__law_stream
def b__law_next : S := sSeq (sIf (t2 oEq (ePk2 oIxD 0 (eC (.int 1))) (eC (.int 0))) (sSeq (sAsg 2 (ePk2 oIxD 0 (eC (.int 2))))
    (sSeq (sAsg 3 (e2 oAdd (eC (.int 7)) (eV 2)))
    (sSeq (sIf (t2 oLt (eV 2) (e1 oLen (ePk2 oIxD 0 (eC (.int 0))))) (sAsg 3 (e1 oAbs (e2 oIxA (ePk2 oIxD 0 (eC (.int 0))) (eV 2)))) (sNil))
    (sSeq (sIf (t2 oLt (eV 3) (e2 oPow (eC (.int 10)) (eC (.int 18)))) (sSeq (sAsg 3 (e2 oMod (e1 oInt (e2 oAdd (e2 oAdd (e2 oMul (eV 3) (eC (.int 48271))) (e2 oMul (eV 2) (eC (.int 69621)))) (eC (.int 11)))) (eC (.int 2147483647))))
    (sAsg 3 (e2 oAdd (e2 oMul (e2 oMod (e1 oInt (e2 oAdd (e2 oMul (eV 3) (eC (.int 16807))) (eC (.int 13)))) (eC (.int 2147483647))) (eC (.int 65537))) (eV 3)))) (sNil))
    (sSeq (sSetI 0 (eC (.int 1)) (eV 3))
    (sSetI 0 (eC (.int 2)) (e2 oAdd (eV 2) (eC (.int 1))))))))) (sNil))
    (sSeq (sAsg 4 (e2 oMod (e1 oInt (ePk2 oIxD 0 (eC (.int 1)))) (eV 1)))
    (sSeq (sSetI 0 (eC (.int 1)) (e2 oDiv (ePk2 oIxD 0 (eC (.int 1))) (eV 1)))
    (sRet (eMv 4))))
def g__law_next : FD := fn 5 b__law_next
def b__law_word : S := sSeq (sAsg 1 (eLst [eC (.str ""), eC (.str "a"), eC (.str "_"), eC (.str "1"), eC (.str "?"), eC (.str "??a"), eC (.str "?_"), eC (.str "?A"), eC (.str "?a"), eC (.str "?a1"), e2 oAdd (eC (.str "?")) (e2 oMulS (eC (.str "a")) (eC (.int 8))), e2 oAdd (eC (.str "?")) (e2 oMulS (eC (.str "a")) (eC (.int 9))), eC (.str "?1"), e2 oMulS (eC (.str "a")) (eC (.int 12)), e2 oMulS (eC (.str "a")) (eC (.int 13)), eC (.str "if"), eC (.str "iff"), eC (.str "not"), eC (.str "note"), eC (.str "kind"), eC (.str "relation"), eC (.str "fact"), eC (.str "rule"), eC (.str "same"), eC (.str "differ"), eC (.str "count"), eC (.str "sum"), eC (.str "least"), eC (.str "greatest"), eC (.str "atmost"), eC (.str "true"), eC (.str "?if")]))
    (sSeq (sIf (t2 oEq (eCall g__law_next [.b 0, .v (eC (.int 3))]) (eC (.int 0))) (sRet (ePk2 oIxD 1 (eCall g__law_next [.b 0, .v (e1 oLen (eV 1))]))) (sNil))
    (sSeq (sAsg 2 (eC (.str "abcdefghijklmnopqrstuvwxyz0123456789_")))
    (sSeq (sAsg 3 (e2 oIxA (eC (.str "abz?_9AZ")) (eCall g__law_next [.b 0, .v (eC (.int 8))])))
    (sSeq (sFor (srcR1 (eCall g__law_next [.b 0, .v (eC (.int 14))])) (gV 4) (sAsg 3 (e2 oAdd (eV 3) (ePk2 oIxD 2 (eCall g__law_next [.b 0, .v (eC (.int 37))])))))
    (sSeq (sIf (t2 oEq (eCall g__law_next [.b 0, .v (eC (.int 2))]) (eC (.int 1))) (sSeq (sAsg 5 (eCall g__law_next [.b 0, .v (e2 oAdd (e1 oLen (eV 3)) (eC (.int 1)))]))
    (sAsg 3 (e2 oAdd (e2 oAdd (eSl (eV 3) (pNone) (pSome (eV 5))) (e2 oIxA (eC (.str "A -.?(\n")) (eCall g__law_next [.b 0, .v (eC (.int 7))]))) (eSl (eV 3) (pSome (eV 5)) (pNone))))) (sNil))
    (sRet (eMv 3)))))))
def g__law_word : FD := fn 6 b__law_word
def b__law_is_symbol : S := sSeq (sAsg 1 (eLst [eC (.str "kind"), eC (.str "relation"), eC (.str "fact"), eC (.str "rule"), eC (.str "if"), eC (.str "not"), eC (.str "same"), eC (.str "differ"), eC (.str "count"), eC (.str "sum"), eC (.str "least"), eC (.str "greatest")]))
    (sSeq (sIf (tOr (t2 oLt (e1 oLen (eV 0)) (eC (.int 1))) (tOr (t2 oGt (e1 oLen (eV 0)) (eC (.int 12))) (tOr (t2 oInA (eV 0) (eV 1)) (t2 oNotInA (ePk2 oIxD 0 (eC (.int 0))) (eC (.str "abcdefghijklmnopqrstuvwxyz")))))) (sRet (eC (.bl false))) (sNil))
    (sRet (e1 oAll (eLc [2] (srcS (eV 0)) (gV 2) (tYes) (eT (t2 oInA (eV 2) (eC (.str "abcdefghijklmnopqrstuvwxyz0123456789_"))))))))
def g__law_is_symbol : FD := fn 3 b__law_is_symbol
def b__law_is_variable : S := sSeq (sIf (tOr (t2 oLt (e1 oLen (eV 0)) (eC (.int 2))) (tOr (t2 oGt (e1 oLen (eV 0)) (eC (.int 9))) (t2 oNe (ePk2 oIxD 0 (eC (.int 0))) (eC (.str "?"))))) (sRet (eC (.bl false))) (sNil))
    (sRet (e1 oAll (eLc [1] (srcS (eSl (eV 0) (pSome (eC (.int 1))) (pNone))) (gV 1) (tYes) (eT (t2 oInA (eV 1) (eC (.str "abcdefghijklmnopqrstuvwxyz0123456789")))))))
def g__law_is_variable : FD := fn 2 b__law_is_variable
def b_is_integer : S := sRet (eAnd (e1 (oIsi "int") (eV 0)) (eNot (e1 (oIsi "bool") (eV 0))))
def g_is_integer : FD := fn 1 b_is_integer
def b_is_in_range : S := sRet (eT (t2 oLe (e1 oAbs (eV 0)) (eC v_GREATEST_INTEGER)))
def g_is_in_range : FD := fn 1 b_is_in_range
def b_is_made_of : S := sRet (e1 oAll (eLc [2] (srcS (eV 0)) (gV 2) (tYes) (eT (t2 oInA (eV 2) (eV 1)))))
def g_is_made_of : FD := fn 3 b_is_made_of
def b_is_symbol : S := sSeq (sIf (tOr (tNot (tTr (e1 (oIsi "str") (eV 0)))) (tNot (eChain oLe oLe (eC (.int 1)) (e1 oLen (eV 0)) (eC v_LONGEST_SYMBOL)))) (sRet (eC (.bl false))) (sNil))
    (sRet (eAnd (eT (t2 oInA (ePk2 oIxD 0 (eC (.int 0))) (eC v_LETTERS))) (eAnd (eCall g_is_made_of [.v (eV 0), .v (eC v_SYMBOL_CHARACTERS)]) (eT (t2 oNotInA (eV 0) (eC v_RESERVED))))))
def g_is_symbol : FD := fn 1 b_is_symbol
def b_is_value : S := sSeq (sIf (tTr (eCall g_is_integer [.v (eV 0)])) (sRet (eCall g_is_in_range [.v (eV 0)])) (sNil))
    (sRet (eCall g_is_symbol [.v (eV 0)]))
def g_is_value : FD := fn 1 b_is_value
def b_is_variable : S := sSeq (sIf (tOr (tNot (tTr (e1 (oIsi "str") (eV 0)))) (tNot (eChain oLe oLe (eC (.int 2)) (e1 oLen (eV 0)) (e2 oAdd (eC v_LONGEST_VARIABLE) (eC (.int 1)))))) (sRet (eC (.bl false))) (sNil))
    (sRet (eAnd (eT (t2 oEq (ePk2 oIxD 0 (eC (.int 0))) (eC (.str "?")))) (eCall g_is_made_of [.v (eSl (eV 0) (pSome (eC (.int 1))) (pNone)), .v (eC v_VARIABLE_CHARACTERS)])))
def g_is_variable : FD := fn 1 b_is_variable
def b_is_term : S := sRet (eOr (eCall g_is_value [.v (eV 0)]) (eCall g_is_variable [.v (eV 0)]))
def g_is_term : FD := fn 1 b_is_term
def b__law_is_integer : S := sRet (eAnd (e1 (oIsi "int") (eV 0)) (eNot (e1 (oIsi "bool") (eV 0))))
def g__law_is_integer : FD := fn 1 b__law_is_integer
def b__law_equal (self : FD) : S := sSeq (sIf (t1 oIsN (eV 1)) (sRet (eT (t1 oIsN (eV 0)))) (sNil))
    (sSeq (sIf (tTr (e1 (oIsi "bool") (eV 1))) (sRet (eAnd (e1 (oIsi "bool") (eV 0)) (eT (t2 oEq (eV 0) (eV 1))))) (sNil))
    (sSeq (sIf (tTr (e1 (oIsi "int") (eV 1))) (sRet (eAnd (eCall g__law_is_integer [.v (eV 0)]) (eT (t2 oEq (eV 0) (eV 1))))) (sNil))
    (sSeq (sIf (tTr (e1 (oIsi "str") (eV 1))) (sRet (eAnd (e1 (oIsi "str") (eV 0)) (eT (t2 oEq (eV 0) (eV 1))))) (sNil))
    (sSeq (sIf (tAnd (tTr (e1 (oIsi "tuple") (eV 1))) (tNot (tTr (e1 (oIsi "tuple") (eV 0))))) (sRet (eC (.bl false))) (sNil))
    (sSeq (sIf (tAnd (tTr (e1 (oIsi "list") (eV 1))) (tNot (tTr (e1 (oIsi "list") (eV 0))))) (sRet (eC (.bl false))) (sNil))
    (sSeq (sIf (t2 oNe (e1 oLen (eV 0)) (e1 oLen (eV 1))) (sRet (eC (.bl false))) (sNil))
    (sRet (e1 oAll (eLc [2] (srcR1 (e1 oLen (eV 1))) (gV 2) (tYes) (eCall (self) [.v (ePk2 oIxD 0 (eV 2)), .v (ePk2 oIxD 1 (eV 2))]))))))))))
def g__law_equal : Nat → FD
  | 0 => fun _ => .bad
  | k + 1 => fn 3 (b__law_equal (g__law_equal k))
def b_value_key : S := sSeq (sIf (tTr (e1 (oIsi "str") (eV 0))) (sRet (eTup [eC (.int 1), eV 0])) (sNil))
    (sRet (eTup [eC (.int 0), eV 0]))
def g_value_key : FD := fn 1 b_value_key
def b__law_comes_first : S := sSeq (sIf (tOr (tTr (e1 (oIsi "str") (eV 0))) (tTr (e1 (oIsi "str") (eV 1)))) (sRet (eAnd (e1 (oIsi "str") (eV 1)) (eOr (eNot (e1 (oIsi "str") (eV 0))) (eT (t2 oLt (eV 0) (eV 1)))))) (sNil))
    (sRet (eT (t2 oLt (eV 0) (eV 1))))
def g__law_comes_first : FD := fn 2 b__law_comes_first
def b_law : S := sSeq (sAsg 1 (eCall g__law_stream [.v (eV 0)]))
    (sSeq (sAsg 2 (eCall g__law_word [.b 1]))
    (sSeq (sAsg 3 (eCall g__law_is_symbol [.v (eV 2)]))
    (sSeq (sAsg 4 (eCall g__law_is_variable [.v (eV 2)]))
    (sSeq (sAsg 5 (eLst [eCall g_is_symbol [.v (eV 2)], eCall g_is_value [.v (eV 2)], eCall g_is_variable [.v (eV 2)], eCall g_is_term [.v (eV 2)]]))
    (sSeq (sIf (tNot (tTr (eCall (g__law_equal 3) [.v (eV 5), .v (eLst [eV 3, eV 3, eV 4, eOr (eV 3) (eV 4)])]))) (sRet (eC (.bl false))) (sNil))
    (sSeq (sAsg 6 (e2 oIxA (eLst [eC (.int 0), eC (.int 1), e1 oNeg (eC (.int 1)), eC (.int 999), eC (.int 1000), eC (.int 1001), e1 oNeg (eC (.int 1000)), e1 oNeg (eC (.int 1001)), e2 oPow (eC (.int 10)) (eC (.int 20)), e2 oSub (eCall g__law_next [.b 1, .v (eC (.int 2005))]) (eC (.int 1002))]) (eCall g__law_next [.b 1, .v (eC (.int 10))])))
    (sSeq (sAsg 7 (eT (t2 oLe (e1 oAbs (eV 6)) (eC (.int 1000)))))
    (sSeq (sIf (tNot (tTr (eCall (g__law_equal 3) [.v (eLst [eCall g_is_symbol [.v (eV 6)], eCall g_is_value [.v (eV 6)], eCall g_is_variable [.v (eV 6)], eCall g_is_term [.v (eV 6)]]), .v (eLst [eC (.bl false), eV 7, eC (.bl false), eV 7])]))) (sRet (eC (.bl false))) (sNil))
    (sSeq (sFor (srcSeq (eLst [eC (.bl true), eC (.bl false), eC .non, eTup [eC (.str "a")], eLst [eC (.str "a")], eTup [], eT (t2 oEq (eC (.int 1)) (eC (.int 1)))])) (gV 8) (sIf (tNot (tTr (eCall (g__law_equal 3) [.v (eLst [eCall g_is_symbol [.v (eV 8)], eCall g_is_value [.v (eV 8)], eCall g_is_variable [.v (eV 8)], eCall g_is_term [.v (eV 8)]]), .v (e2 oMul (eLst [eC (.bl false)]) (eC (.int 4)))]))) (sRet (eC (.bl false))) (sNil)))
    (sSeq (sAsg 9 (eLst [e2 oIxA (eLst [eC (.str "a"), eC (.str "b"), eC (.str "ab"), eC (.str "a_"), eC (.str "a1"), eC (.str "z")]) (eCall g__law_next [.b 1, .v (eC (.int 6))]), e2 oSub (eCall g__law_next [.b 1, .v (eC (.int 2001))]) (eC (.int 1000)), e2 oSub (eCall g__law_next [.b 1, .v (eC (.int 7))]) (eC (.int 3)), eC (.str "b1")]))
    (sSeq (sIf (tNot (tTr (e1 oAll (eLc [10] (srcSeq (eV 9)) (gV 10) (tYes) (e1 (oIsi "tuple") (eCall g_value_key [.v (eV 10)])))))) (sRet (eC (.bl false))) (sNil))
    (sSeq (sFor (srcSeq (eV 9)) (gV 10) (sFor (srcSeq (eV 9)) (gV 11) (sIf (t2 oNe (eT (t2 oLtP (eCall g_value_key [.v (eV 10)]) (eCall g_value_key [.v (eV 11)]))) (eCall g__law_comes_first [.v (eV 10), .v (eV 11)])) (sRet (eC (.bl false))) (sNil))))
    (sRet (eC (.bl true)))))))))))))))
def g_law : FD := fn 12 b_law
end Dn.k01_values_and_variables
set_option linter.all false
set_option maxHeartbeats 2000000
namespace Dn.k01_values_and_variables
open PySem
theorem nextE : g__law_next = gNext := rfl
theorem streamE : g__law_stream = gStream := rfl
theorem equalE (n : Nat) : g__law_equal n = gEqual n := by
  induction n with
  | zero => rfl
  | succ n ih =>
    show fn 3 (b__law_equal (g__law_equal n)) = fn 3 (bEqual (gEqual n))
    rw [ih]
    rfl
theorem guard_f {t : T} {a k : S} {ρ ρ' : Env} (h : t ρ = .ok false ρ') : sSeq (sIf t a sNil) k ρ = k ρ' := by
  unfold sSeq
  rw [if_f h]
  rfl
/-! ### words -/
abbrev wd (l : List Nat) : Str := ⟨l.toArray⟩
abbrev sd (l : List Nat) : D := .str (wd l)
structure Gd (l : List Nat) : Prop where
  len : l.length ≤ 1000
  ok : ∀ k ∈ l, k < 1114112
theorem sd_ok {l : List Nat} (h : Gd l) : (sd l).ok = true := by
  refine ok_str ?_
  simp only [wd, Array.all_eq_true]
  intro i hi
  simp at hi ⊢
  exact h.ok _ (List.getElem_mem _)
theorem wlen (l : List Nat) : (wd l).length = l.length := rfl
def lets : Str := "abcdefghijklmnopqrstuvwxyz"
def vars : Str := "abcdefghijklmnopqrstuvwxyz0123456789"
def syms : Str := "abcdefghijklmnopqrstuvwxyz0123456789_"
def resL : List D := [.str "kind", .str "relation", .str "fact", .str "rule", .str "if", .str "not", .str "same", .str "differ", .str "count", .str "sum", .str "least", .str "greatest"]
def res (l : List Nat) : Bool := resL.any fun y => y.eqv (sd l)
theorem in_lst {l : List Nat} (h : Gd l) : oIn (sd l) (.lst resL) = some (res l) := by
  have h1 : (D.lst resL).ok = true := by
    show okDs 29 resL = true
    rw [okDs_all, List.all_eq_true]
    intro x hx
    simp only [resL, List.mem_cons, List.not_mem_nil, or_false] at hx
    rcases hx with h | h | h | h | h | h | h | h | h | h | h | h <;> subst h <;> exact ok_lit _
  show (if (sd l).ok && (D.lst resL).ok then some (resL.any fun y => y.eqv (sd l)) else none) = _
  rw [sd_ok h, h1]
  rfl
theorem in_tup (l : List Nat) : oIn (sd l) (.tup resL) = some (res l) := by
  show (if flatD (sd l) && resL.all flatD then some (resL.any fun y => y.eqv (sd l)) else none) = _
  rw [if_pos]
  · rfl
  · rfl
/-- all signs are of these -/
def allIn (cs : Str) (l : List Nat) : Bool := l.all fun k => decide (k ∈ cs.cps.toList)
theorem bls_all (cs : Str) : ∀ l : List Nat, asBs (l.map fun k => D.bl (decide (k ∈ cs.cps.toList))) = some (l.map fun k => decide (k ∈ cs.cps.toList))
  | [] => rfl
  | k :: r => by
    have ih := bls_all cs r
    simp only [List.map_cons, asBs, ih, Option.map_some]
/-- all([c in cs for c in a word]) -/
theorem made {i : Nat} {m e : E} {ρ ρ0 : Env} {l : List Nat} (cs : Str) (h : Gd l) (hs : val m ρ = .ok (sd l) ρ0) (soft0 : soft ρ0[i]?) (hi : i < ρ0.length) (he : ∀ k ρ1, ρ1[i]? = some (.val (.str ⟨#[k]⟩)) → (∀ j, j ≠ i → ρ1[j]? = ρ0[j]?) → val e ρ1 = .ok (.bl (decide (k ∈ cs.cps.toList))) ρ1) :
    e1 oAll (eLc [i] (srcS m) (gV i) tYes e) ρ = .ok (.d (.bl (allIn cs l))) ρ0 := by
  have hl := lc_ok (own := [i]) (src := srcS m) (g := gV i) (t := tYes) (e := e) (ρ := ρ) (ρ0 := ρ0) (xs := l.map fun k => .str ⟨#[k]⟩) (fun _ => true) (fun x => match x with
      | .str y => .bl (decide (y.cps.getD 0 0 ∈ cs.cps.toList))
      | x => x) (by
      unfold srcS bind
      rw [hs]
      simp) (by rw [List.length_map]; have := h.len; omega) (fun j hj => by rw [List.mem_singleton.mp hj]; exact soft0) fun x hx => by
      obtain ⟨k, _, rfl⟩ := List.mem_map.mp hx
      have hw : (wipeE ρ0 [i])[i]? = some .un := by
        simp only [wipeE]
        rw [List.getElem?_set_self hi]
      have hlen : i < (wipeE ρ0 [i]).length := by
        simp only [wipeE, List.length_set]
        exact hi
      refine ⟨(wipeE ρ0 [i]).set i (.val (.str ⟨#[k]⟩)), ?_, rfl, fun _ => ?_, ?_⟩
      · simp only [gV, store, hw]
      · refine he k _ (by rw [List.getElem?_set_self hlen]) fun j hj => ?_
        rw [List.getElem?_set_ne (Ne.symm hj)]
        simp only [wipeE]
        rw [List.getElem?_set_ne (Ne.symm hj)]
      · simp only [wipeE, List.set_set]
  refine e1_ok hl ?_
  have hm : ((l.map fun k => D.str ⟨#[k]⟩).filter fun _ => true).map (fun x => match x with
      | .str y => .bl (decide (y.cps.getD 0 0 ∈ cs.cps.toList))
      | x => x) = l.map fun k => D.bl (decide (k ∈ cs.cps.toList)) := by
    rw [List.filter_eq_self.mpr (fun _ _ => rfl), List.map_map]
    rfl
  rw [hm]
  simp only [Rv.fr, C.d, oAll, bls_all, Option.map_some]
  congr 3
  unfold allIn
  rw [List.all_map]
  rfl
def symB (l : List Nat) : Bool := match l with
  | [] => false
  | k :: r => decide (r.length < 12) && decide (k ∈ lets.cps.toList) && allIn syms (k :: r) && !res (k :: r)
def varB (l : List Nat) : Bool := match l with
  | k :: j :: r => decide (r.length < 8) && decide (k = 63) && allIn vars (j :: r)
  | _ => false
theorem in_one (k : Nat) (cs : Str) : oInA (.str ⟨#[k]⟩) (.str cs) = some (decide (k ∈ cs.cps.toList)) := rfl
def lsT : T := tOr (t2 oLt (e1 oLen (eV 0)) (eC (.int 1))) (tOr (t2 oGt (e1 oLen (eV 0)) (eC (.int 12))) (tOr (t2 oInA (eV 0) (eV 1)) (t2 oNotInA (ePk2 oIxD 0 (eC (.int 0))) (eC (.str lets)))))
def lsK : S := sRet (e1 oAll (eLc [2] (srcS (eV 0)) (gV 2) (tYes) (eT (t2 oInA (eV 2) (eC (.str syms))))))
theorem law_symbol {l : List Nat} (h : Gd l) : g__law_is_symbol [.val (sd l)] = .ok (.d (.bl (symB l))) [.un] := by
  have ea : b__law_is_symbol [.val (sd l), .un, .un] = sSeq (sIf lsT (sRet (eC (.bl false))) (sNil)) lsK [.val (sd l), .own (.lst resL), .un] := by
    unfold b__law_is_symbol
    rw [seq_nx (ρ' := [.val (sd l), .own (.lst resL), .un]) (by simp [resL])]
    rfl
  have hz := h.len
  have hz2 : l.length ≤ 100000 := by omega
  have hin := in_lst h
  have key : ∀ r ρ, b__law_is_symbol [.val (sd l), .un, .un] = .rt r ρ → outE 1 ρ = [.un] → g__law_is_symbol [.val (sd l)] = .ok r [.un] := fun r ρ a b => fn_ret a b
  have hmade := made (i := 2) (m := eV 0) (e := eT (t2 oInA (eV 2) (eC (.str syms)))) (ρ := [.val (sd l), .val (.lst resL), .un]) (ρ0 := [.val (sd l), .val (.lst resL), .un]) syms h (by simp) (by simp [soft]) (by simp) (fun k ρ1 q1 q2 => by simp [q1, oInS])
  cases l with
  | nil => exact key (.d (.bl false)) [.val (sd []), .own (.lst resL), .un] (ea.trans (by simp [lsT, wlen])) rfl
  | cons k r =>
    have hat : dAt (k :: r) (0 : Int) = some k := at0
    simp only [List.length_cons] at hz2
    by_cases h12 : r.length < 12
    · have c1 : ¬ ((r.length : Int) + 1 < 1) := by omega
      have c2 : ¬ (12 < (r.length : Int) + 1) := by omega
      have ht : lsT [.val (sd (k :: r)), .own (.lst resL), .un] = .ok (res (k :: r) || !decide (k ∈ lets.cps.toList)) [.val (sd (k :: r)), .val (.lst resL), .un] := by
        generalize resL = RL at hin ⊢
        cases hr : res (k :: r) with
        | true =>
          rw [hr] at hin
          simp [lsT, wlen, hz2, c1, c2, hin]
        | false =>
          rw [hr] at hin
          simp [lsT, wlen, hz2, c1, c2, hin, hat, oInS]
      have e2 : symB (k :: r) = (!(res (k :: r) || !decide (k ∈ lets.cps.toList)) && allIn syms (k :: r)) := by
        simp only [symB, decide_eq_true h12, Bool.true_and]
        cases res (k :: r) <;> cases decide (k ∈ lets.cps.toList) <;> cases allIn syms (k :: r) <;> rfl
      rw [e2]
      cases hc : (res (k :: r) || !decide (k ∈ lets.cps.toList)) with
      | true =>
        rw [hc] at ht
        refine key (.d (.bl false)) [.val (sd (k :: r)), .val (.lst resL), .un] (ea.trans ?_) rfl
        show sSeq (sIf _ _ _) _ _ = _
        unfold sSeq
        rw [if_t ht]
        simp
      | false =>
        rw [hc] at ht
        refine key _ [.val (sd (k :: r)), .val (.lst resL), .un] (ea.trans ?_) rfl
        rw [guard_f ht]
        exact ret_ok hmade
    · have c1 : ¬ ((r.length : Int) + 1 < 1) := by omega
      have c2 : 12 < (r.length : Int) + 1 := by omega
      have e2 : symB (k :: r) = false := by
        simp only [symB, decide_eq_false h12, Bool.false_and]
      rw [e2]
      exact key (.d (.bl false)) [.val (sd (k :: r)), .own (.lst resL), .un] (ea.trans (by simp [lsT, wlen, hz2, c1, c2])) rfl
def lvT : T := tOr (t2 oLt (e1 oLen (eV 0)) (eC (.int 2))) (tOr (t2 oGt (e1 oLen (eV 0)) (eC (.int 9))) (t2 oNe (ePk2 oIxD 0 (eC (.int 0))) (eC (.str "?"))))
theorem one_q (k : Nat) (hk : k < 1114112) : (D.str ⟨#[k]⟩).ok = true := by
  have : Gd [k] := ⟨(show 1 ≤ 1000 by decide), fun j hj => by rw [List.mem_singleton.mp hj]; exact hk⟩
  exact sd_ok this
theorem q_one (k : Nat) : (D.str ⟨#[k]⟩).eqv (.str "?") = decide (k = 63) := by
  rw [eqv_str]
  have : (Str.ofString "?") = ⟨#[63]⟩ := rfl
  rw [this]
  simp
theorem cut1 (k : Nat) (r : List Nat) : cutL (k :: r) (some 1) none = r := by
  unfold cutL ixS
  simp only [List.length_cons]
  rw [if_neg (by decide)]
  rw [show min (Int.toNat 1) (r.length + 1) = 1 by
    show min 1 (r.length + 1) = 1
    omega]
  rw [List.drop_one]
  show List.take (r.length + 1 - 1) r = r
  rw [Nat.add_sub_cancel]
  exact List.take_length
theorem law_variable {l : List Nat} (h : Gd l) : g__law_is_variable [.val (sd l)] = .ok (.d (.bl (varB l))) [.un] := by
  have hz := h.len
  have hz2 : l.length ≤ 100000 := by omega
  have key : ∀ r, b__law_is_variable [.val (sd l), .un] = .rt r [.val (sd l), .un] → g__law_is_variable [.val (sd l)] = .ok r [.un] := fun r a => fn_ret a rfl
  have ea : b__law_is_variable = sSeq (sIf lvT (sRet (eC (.bl false))) (sNil)) (sRet (e1 oAll (eLc [1] (srcS (eSl (eV 0) (pSome (eC (.int 1))) (pNone))) (gV 1) (tYes) (eT (t2 oInA (eV 1) (eC (.str vars))))))) := rfl
  rw [ea] at key
  match l, h, hz2, key with
  | [], h, hz2, key => exact key (.d (.bl false)) (by simp [lvT, wlen])
  | [k], h, hz2, key => exact key (.d (.bl false)) (by simp [lvT, wlen])
  | k :: j :: r, h, hz2, key =>
    have hat : dAt (k :: j :: r) (0 : Int) = some k := at0
    simp only [List.length_cons] at hz2
    have hg : Gd (j :: r) := ⟨by have := h.len; simp only [List.length_cons] at this ⊢; omega, fun i hi => h.ok i (List.mem_cons_of_mem _ hi)⟩
    have ok1 := one_q k (h.ok k List.mem_cons_self)
    have ok2 : (D.str "?").ok = true := ok_lit _
    have hmade := made (i := 1) (m := eSl (eV 0) (pSome (eC (.int 1))) (pNone)) (e := eT (t2 oInA (eV 1) (eC (.str vars)))) (ρ := [.val (sd (k :: j :: r)), .un]) (ρ0 := [.val (sd (k :: j :: r)), .un]) vars hg (by
      simp [eSl, pSome, pNone, oSl, wlen, hz2, cut1]) (by simp [soft]) (by simp) (fun k ρ1 q1 q2 => by simp [q1, oInS])
    have c1 : ¬ ((r.length : Int) + 1 + 1 < 2) := by omega
    by_cases h8 : r.length < 8
    · have c2 : ¬ (9 < (r.length : Int) + 1 + 1) := by omega
      by_cases hk : k = 63
      · have ht : lvT [.val (sd (k :: j :: r)), .un] = .ok false [.val (sd (k :: j :: r)), .un] := by
          have := q_one k
          rw [hk] at this
          subst hk
          simp [lvT, wlen, hz2, c1, c2, hat, ok1, ok2, this]
        have e2 : varB (k :: j :: r) = allIn vars (j :: r) := by
          simp only [varB, decide_eq_true h8, decide_eq_true hk, Bool.true_and]
        rw [e2]
        refine key _ ?_
        rw [guard_f ht]
        exact ret_ok hmade
      · have e2 : varB (k :: j :: r) = false := by
          simp only [varB, decide_eq_false hk, Bool.and_false, Bool.false_and]
        rw [e2]
        refine key (.d (.bl false)) ?_
        have := q_one k
        rw [decide_eq_false hk] at this
        simp [lvT, wlen, hz2, c1, c2, hat, ok1, ok2, this]
    · have c2 : 9 < (r.length : Int) + 1 + 1 := by omega
      have e2 : varB (k :: j :: r) = false := by
        simp only [varB, decide_eq_false h8, Bool.false_and]
      rw [e2]
      exact key (.d (.bl false)) (by simp [lvT, wlen, hz2, c1, c2])
end Dn.k01_values_and_variables
set_option linter.all false
set_option maxHeartbeats 2000000
namespace Dn.k01_values_and_variables
open PySem
theorem made_of (cs : Str) {l : List Nat} (h : Gd l) : g_is_made_of [.val (sd l), .val (.str cs)] = .ok (.d (.bl (allIn cs l))) [.un, .un] := by
  have hm := made (i := 2) (m := eV 0) (e := eT (t2 oInA (eV 2) (eV 1))) (ρ := [.val (sd l), .val (.str cs), .un]) (ρ0 := [.val (sd l), .val (.str cs), .un]) cs h (by simp) (by simp [soft]) (by simp) (fun k ρ1 q1 q2 => by
    have e1 : ρ1[1]? = some (.val (.str cs)) := q2 1 (by decide)
    simp [q1, e1, oInS])
  exact fn_ret (ρ := [.val (sd l), .val (.str cs), .un]) (ret_ok hm) rfl
theorem symbol_ok {l : List Nat} (h : Gd l) : g_is_symbol [.val (sd l)] = .ok (.d (.bl (symB l))) [.un] := by
  have hz := h.len
  have hz2 : l.length ≤ 100000 := by omega
  have hm := made_of syms h
  have hin := in_tup l
  have esy : v_SYMBOL_CHARACTERS = .str syms := rfl
  have elt : v_LETTERS = .str lets := rfl
  have ers : v_RESERVED = .tup resL := rfl
  show fn 1 b_is_symbol _ = _
  unfold b_is_symbol
  rw [esy, elt, ers]
  cases l with
  | nil => simp [isiT, wlen, v_LONGEST_SYMBOL, symB]
  | cons k r =>
    have hat : dAt (k :: r) (0 : Int) = some k := at0
    simp only [List.length_cons] at hz2
    have c1 : (1 : Int) ≤ (r.length : Int) + 1 := by omega
    by_cases h12 : r.length < 12
    · have c2 : ((r.length : Int) + 1) ≤ 12 := by omega
      have e2 : symB (k :: r) = (decide (k ∈ lets.cps.toList) && (allIn syms (k :: r) && !res (k :: r))) := by
        simp only [symB, decide_eq_true h12, Bool.true_and, Bool.and_assoc]
      rw [e2]
      generalize resL = RL at hin ⊢
      cases q1 : decide (k ∈ lets.cps.toList) with
      | false =>
        have q1' : ¬ k ∈ lets.cps.toList := of_decide_eq_false q1
        simp at q1'
        simp [isiT, wlen, hz2, c1, c2, v_LONGEST_SYMBOL, hat, oInS, q1']
      | true =>
        have q1' : k ∈ lets.cps.toList := of_decide_eq_true q1
        simp at q1'
        cases q2 : allIn syms (k :: r) with
        | false =>
          rw [q2] at hm
          simp [isiT, wlen, hz2, c1, c2, v_LONGEST_SYMBOL, hat, oInS, q1', hm]
        | true =>
          rw [q2] at hm
          simp [isiT, wlen, hz2, c1, c2, v_LONGEST_SYMBOL, hat, oInS, q1', hm, hin]
    · have c2 : ¬ ((r.length : Int) + 1) ≤ 12 := by omega
      have e2 : symB (k :: r) = false := by
        simp only [symB, decide_eq_false h12, Bool.false_and]
      rw [e2]
      simp [isiT, wlen, hz2, c1, c2, v_LONGEST_SYMBOL]
theorem variable_ok {l : List Nat} (h : Gd l) : g_is_variable [.val (sd l)] = .ok (.d (.bl (varB l))) [.un] := by
  have hz := h.len
  have hz2 : l.length ≤ 100000 := by omega
  have evr : v_VARIABLE_CHARACTERS = .str vars := rfl
  show fn 1 b_is_variable _ = _
  unfold b_is_variable
  rw [evr]
  match l, h, hz2 with
  | [], h, hz2 => simp [isiT, wlen, v_LONGEST_VARIABLE, varB]
  | [k], h, hz2 => simp [isiT, wlen, v_LONGEST_VARIABLE, varB]
  | k :: j :: r, h, hz2 =>
    have hat : dAt (k :: j :: r) (0 : Int) = some k := at0
    simp only [List.length_cons] at hz2
    have hg : Gd (j :: r) := ⟨by have := h.len; simp only [List.length_cons] at this ⊢; omega, fun i hi => h.ok i (List.mem_cons_of_mem _ hi)⟩
    have hm := made_of vars hg
    have ok1 := one_q k (h.ok k List.mem_cons_self)
    have ok2 : (D.str "?").ok = true := ok_lit _
    have c1 : (2 : Int) ≤ (r.length : Int) + 1 + 1 := by omega
    by_cases h8 : r.length < 8
    · have c2 : ((r.length : Int) + 1 + 1) ≤ 9 := by omega
      by_cases hk : k = 63
      · have hq := q_one k
        rw [decide_eq_true hk] at hq
        have e2 : varB (k :: j :: r) = allIn vars (j :: r) := by
          simp only [varB, decide_eq_true h8, decide_eq_true hk, Bool.true_and]
        rw [e2]
        subst hk
        simp [isiT, wlen, hz2, c1, c2, v_LONGEST_VARIABLE, hat, ok1, ok2, hq, eSl, pSome, pNone, oSl, cut1, hm]
      · have hq := q_one k
        rw [decide_eq_false hk] at hq
        have e2 : varB (k :: j :: r) = false := by
          simp only [varB, decide_eq_false hk, Bool.and_false, Bool.false_and]
        rw [e2]
        simp [isiT, wlen, hz2, c1, c2, v_LONGEST_VARIABLE, hat, ok1, ok2, hq]
    · have c2 : ¬ ((r.length : Int) + 1 + 1) ≤ 9 := by omega
      have e2 : varB (k :: j :: r) = false := by
        simp only [varB, decide_eq_false h8, Bool.false_and]
      rw [e2]
      simp [isiT, wlen, hz2, c1, c2, v_LONGEST_VARIABLE]
theorem word_told {l : List Nat} (h : Gd l) : g_is_value [.val (sd l)] = .ok (.d (.bl (symB l))) [.un] ∧ g_is_term [.val (sd l)] = .ok (.d (.bl (symB l || varB l))) [.un] := by
  have hi : g_is_integer [.val (sd l)] = .ok (.d (.bl false)) [.un] := by
    show fn 1 b_is_integer _ = _
    simp [b_is_integer, isiT]
  have hs := symbol_ok h
  have hv : g_is_value [.val (sd l)] = .ok (.d (.bl (symB l))) [.un] := by
    show fn 1 b_is_value _ = _
    simp [b_is_value, hi, hs]
  refine ⟨hv, ?_⟩
  have hr := variable_ok h
  show fn 1 b_is_term _ = _
  cases q : symB l <;> rw [q] at hv <;> simp [b_is_term, hv, hr]
def goodI (i : Int) : Bool := decide ((if i < 0 then -i else i) ≤ 1000)
theorem int_told (i : Int) : g_is_symbol [.val (.int i)] = .ok (.d (.bl false)) [.un] ∧ g_is_value [.val (.int i)] = .ok (.d (.bl (goodI i))) [.un] ∧ g_is_variable [.val (.int i)] = .ok (.d (.bl false)) [.un] ∧ g_is_term [.val (.int i)] = .ok (.d (.bl (goodI i))) [.un] := by
  have hi : g_is_integer [.val (.int i)] = .ok (.d (.bl true)) [.un] := by
    show fn 1 b_is_integer _ = _
    simp [b_is_integer, isiT]
  have hr : g_is_in_range [.val (.int i)] = .ok (.d (.bl (goodI i))) [.un] := by
    show fn 1 b_is_in_range _ = _
    simp [b_is_in_range, v_GREATEST_INTEGER, goodI]
  have hs : g_is_symbol [.val (.int i)] = .ok (.d (.bl false)) [.un] := by
    show fn 1 b_is_symbol _ = _
    simp [b_is_symbol, isiT]
  have hw : g_is_variable [.val (.int i)] = .ok (.d (.bl false)) [.un] := by
    show fn 1 b_is_variable _ = _
    simp [b_is_variable, isiT]
  have hv : g_is_value [.val (.int i)] = .ok (.d (.bl (goodI i))) [.un] := by
    show fn 1 b_is_value _ = _
    simp [b_is_value, hi, hr]
  refine ⟨hs, hv, hw, ?_⟩
  show fn 1 b_is_term _ = _
  cases q : goodI i <;> rw [q] at hv <;> simp [b_is_term, hv, hw]
def Oth : D → Prop
  | .bl _ => True
  | .non => True
  | .tup _ => True
  | .lst _ => True
  | _ => False
theorem none_told (x : D) (h : Oth x) : g_is_symbol [.val x] = .ok (.d (.bl false)) [.un] ∧ g_is_value [.val x] = .ok (.d (.bl false)) [.un] ∧ g_is_variable [.val x] = .ok (.d (.bl false)) [.un] ∧ g_is_term [.val x] = .ok (.d (.bl false)) [.un] := by
  have hi : g_is_integer [.val x] = .ok (.d (.bl false)) [.un] := by
    show fn 1 b_is_integer _ = _
    cases x <;> first | exact h.elim | simp [b_is_integer, isiT]
  have hs : g_is_symbol [.val x] = .ok (.d (.bl false)) [.un] := by
    show fn 1 b_is_symbol _ = _
    cases x <;> first | exact h.elim | simp [b_is_symbol, isiT]
  have hw : g_is_variable [.val x] = .ok (.d (.bl false)) [.un] := by
    show fn 1 b_is_variable _ = _
    cases x <;> first | exact h.elim | simp [b_is_variable, isiT]
  have hv : g_is_value [.val x] = .ok (.d (.bl false)) [.un] := by
    show fn 1 b_is_value _ = _
    simp [b_is_value, hi, hs]
  refine ⟨hs, hv, hw, ?_⟩
  show fn 1 b_is_term _ = _
  simp [b_is_term, hv, hw]
/-! ### the word that is drawn -/
theorem sign_of {xs : List Nat} {d : Int} (h0 : 0 ≤ d) (h1 : d < xs.length) (hy : ∀ k ∈ xs, k < 1114112) : ∃ k, dAt xs d = some k ∧ k < 1114112 := by
  have hk : d.toNat < xs.length := by omega
  refine ⟨xs[d.toNat], ?_, hy _ (List.getElem_mem hk)⟩
  unfold dAt ixAt
  rw [if_pos h0, if_pos h1]
  simp
theorem app_wd (a b : List Nat) : wd a ++ wd b = wd (a ++ b) := by
  show (⟨a.toArray ++ b.toArray⟩ : Str) = _
  simp [wd]
theorem cut_mem {l : List Nat} {lo hi : Option Int} {k : Nat} (h : k ∈ cutL l lo hi) : k ∈ l := List.mem_of_mem_drop (List.mem_of_mem_take h)
theorem cut_len (l : List Nat) (lo hi : Option Int) : (cutL l lo hi).length ≤ l.length := by
  unfold cutL
  rw [List.length_take, List.length_drop]
  omega
def edgesL : List Str := ["", "a", "_", "1", "?", "??a", "?_", "?A", "?a", "?a1", "?aaaaaaaa", "?aaaaaaaaa", "?1", "aaaaaaaaaaaa", "aaaaaaaaaaaaa", "if", "iff", "not", "note", "kind", "relation", "fact", "rule", "same", "differ", "count", "sum", "least", "greatest", "atmost", "true", "?if"]
theorem edges_ok : ∀ y ∈ edgesL, y.cps.toList.length ≤ 1000 ∧ ∀ k ∈ y.cps.toList, k < 1114112 := by
  have h : (edgesL.all fun y => decide (y.cps.toList.length ≤ 1000) && y.cps.toList.all fun k => decide (k < 1114112)) = true := by decide +kernel
  intro y hy
  have := List.all_eq_true.mp h y hy
  simp only [Bool.and_eq_true, decide_eq_true_eq, List.all_eq_true] at this
  exact this
theorem wd_of (y : Str) : y = wd y.cps.toList := by
  cases y
  simp [wd]
def syl : List Nat := syms.cps.toList
theorem syl_ok : syl.length = 37 ∧ ∀ k ∈ syl, k < 1114112 := by
  have h : (decide (syl.length = 37) && syl.all fun k => decide (k < 1114112)) = true := by decide +kernel
  simp only [Bool.and_eq_true, decide_eq_true_eq, List.all_eq_true] at h
  exact h
def fsl : List Nat := (Str.ofString "abz?_9AZ").cps.toList
theorem fsl_ok : fsl.length = 8 ∧ ∀ k ∈ fsl, k < 1114112 := by
  have h : (decide (fsl.length = 8) && fsl.all fun k => decide (k < 1114112)) = true := by decide +kernel
  simp only [Bool.and_eq_true, decide_eq_true_eq, List.all_eq_true] at h
  exact h
def osl : List Nat := (Str.ofString "A -.?(\n").cps.toList
theorem osl_ok : osl.length = 7 ∧ ∀ k ∈ osl, k < 1114112 := by
  have h : (decide (osl.length = 7) && osl.all fun k => decide (k < 1114112)) = true := by decide +kernel
  simp only [Bool.and_eq_true, decide_eq_true_eq, List.all_eq_true] at h
  exact h
def eds : E := eLst [eC (.str ""), eC (.str "a"), eC (.str "_"), eC (.str "1"), eC (.str "?"), eC (.str "??a"), eC (.str "?_"), eC (.str "?A"), eC (.str "?a"), eC (.str "?a1"), e2 oAdd (eC (.str "?")) (e2 oMulS (eC (.str "a")) (eC (.int 8))), e2 oAdd (eC (.str "?")) (e2 oMulS (eC (.str "a")) (eC (.int 9))), eC (.str "?1"), e2 oMulS (eC (.str "a")) (eC (.int 12)), e2 oMulS (eC (.str "a")) (eC (.int 13)), eC (.str "if"), eC (.str "iff"), eC (.str "not"), eC (.str "note"), eC (.str "kind"), eC (.str "relation"), eC (.str "fact"), eC (.str "rule"), eC (.str "same"), eC (.str "differ"), eC (.str "count"), eC (.str "sum"), eC (.str "least"), eC (.str "greatest"), eC (.str "atmost"), eC (.str "true"), eC (.str "?if")]
theorem mulS_lit {z y : Str} {n : Int} (h : 2 ≤ n ∧ n ≤ 1000 ∧ 1 ≤ z.length ∧ z.length ≤ 1000) (e : (⟨(List.replicate n.toNat z.cps).foldl (· ++ ·) #[]⟩ : Str) = y) : oMulS (.str z) (.int n) = some (.d (.str y)) := by
  simp only [oMulS, if_pos h, e]
theorem add_lit {a b y : Str} (h : a.length + b.length ≤ 100000) (e : a ++ b = y) : oAdd (.str a) (.str b) = some (.d (.str y)) := by
  simp only [oAdd, if_pos h, e]
theorem eds_ok (ρ : Env) : eds ρ = .ok (.o (.lst (edgesL.map .str))) ρ := by
  have m8 : oMulS (.str "a") (.int 8) = some (.d (.str "aaaaaaaa")) := mulS_lit (by decide +kernel) (by decide +kernel)
  have m9 : oMulS (.str "a") (.int 9) = some (.d (.str "aaaaaaaaa")) := mulS_lit (by decide +kernel) (by decide +kernel)
  have m12 : oMulS (.str "a") (.int 12) = some (.d (.str "aaaaaaaaaaaa")) := mulS_lit (by decide +kernel) (by decide +kernel)
  have m13 : oMulS (.str "a") (.int 13) = some (.d (.str "aaaaaaaaaaaaa")) := mulS_lit (by decide +kernel) (by decide +kernel)
  have p8 : oAdd (.str "?") (.str "aaaaaaaa") = some (.d (.str "?aaaaaaaa")) := add_lit (by decide +kernel) (by decide +kernel)
  have p9 : oAdd (.str "?") (.str "aaaaaaaaa") = some (.d (.str "?aaaaaaaaa")) := add_lit (by decide +kernel) (by decide +kernel)
  simp [eds, m8, m9, m12, m13, p8, p9, edgesL, -oAdd]
def wdRest : S := sSeq (sAsg 2 (eC (.str syms)))
    (sSeq (sAsg 3 (e2 oIxA (eC (.str "abz?_9AZ")) (eCall gNext [.b 0, .v (eC (.int 8))])))
    (sSeq (sFor (srcR1 (eCall gNext [.b 0, .v (eC (.int 14))])) (gV 4) (sAsg 3 (e2 oAdd (eV 3) (ePk2 oIxD 2 (eCall gNext [.b 0, .v (eC (.int 37))])))))
    (sSeq (sIf (t2 oEq (eCall gNext [.b 0, .v (eC (.int 2))]) (eC (.int 1))) (sSeq (sAsg 5 (eCall gNext [.b 0, .v (e2 oAdd (e1 oLen (eV 3)) (eC (.int 1)))]))
    (sAsg 3 (e2 oAdd (e2 oAdd (eSl (eV 3) (pNone) (pSome (eV 5))) (e2 oIxA (eC (.str "A -.?(\n")) (eCall gNext [.b 0, .v (eC (.int 7))]))) (eSl (eV 3) (pSome (eV 5)) (pNone))))) (sNil))
    (sRet (eMv 3)))))
theorem word_eq : b__law_word = sSeq (sAsg 1 eds) (sSeq (sIf (t2 oEq (eCall gNext [.b 0, .v (eC (.int 3))]) (eC (.int 0))) (sRet (ePk2 oIxD 1 (eCall gNext [.b 0, .v (e1 oLen (eV 1))]))) (sNil)) wdRest) := rfl
theorem upTo_len (n : Nat) : (upTo 0 n).length = n := by
  rw [upTo_eq, List.length_map, List.length_range]
theorem ix_wd {l : List Nat} {d : Int} {k : Nat} (hl : l.length ≤ 100000) (h : dAt l d = some k) : oIx (.str (wd l)) (.int d) = some (.d (sd [k])) := by
  show (if (wd l).length ≤ 100000 then (dAt (wd l).cps.toList d).map fun c => Rv.d (.str ⟨#[c]⟩) else none) = _
  rw [if_pos (show (wd l).length ≤ 100000 from hl)]
  have : (wd l).cps.toList = l := by simp
  rw [this, h]
  rfl
theorem sl_wd {l : List Nat} (hz : l.length ≤ 100000) (lo hi : Option Int) : oSl (sd l) lo hi = some (.d (sd (cutL l lo hi))) := by
  show (if (wd l).length ≤ 100000 then some (Rv.d (.str ⟨(cutL (wd l).cps.toList lo hi).toArray⟩)) else none) = _
  have e : (wd l).cps.toList = l := by simp
  rw [if_pos (show (wd l).length ≤ 100000 from hz), e]
theorem lword_ok (s : Sm) : ∃ (l : List Nat) (s' : Sm), g__law_word [.bor s.C] = .ok (.d (sd l)) [.bor s'.C] ∧ Gd l := by
  have n3 := next_ok s (m := 3) (by decide) (by decide)
  have he : (edgesL.map D.str).length = 32 := rfl
  by_cases h3 : s.dig 3 = 0
  · have n32 := next_ok (s.nxt 3) (m := 32) (by decide) (by decide)
    have d0 := (s.nxt 3).dig_nn (m := 32) (by decide)
    have d1 := (s.nxt 3).dig_lt (m := 32) (by decide)
    obtain ⟨x, hx, ex⟩ := pick_mem (xs := edgesL.map D.str) d0 (by rw [he]; exact d1)
    obtain ⟨y, hy, rfl⟩ := List.mem_map.mp hx
    obtain ⟨y1, y2⟩ := edges_ok y hy
    refine ⟨y.cps.toList, (s.nxt 3).nxt 32, ?_, ⟨y1, y2⟩⟩
    have ew := wd_of y
    show _ = Res.ok (Rv.d (.str (wd y.cps.toList))) _
    rw [← ew]
    refine fn_ret (ρ := [.bor ((s.nxt 3).nxt 32).C, .val (.lst (edgesL.map .str)), .un, .un, .un, .un]) ?_ rfl
    rw [word_eq]
    show sSeq _ _ [.bor s.C, .un, .un, .un, .un, .un] = _
    rw [seq_nx (ρ' := [.bor s.C, .own (.lst (edgesL.map .str)), .un, .un, .un, .un]) (asg_ok (eds_ok _) rfl)]
    generalize edgesL.map D.str = EL at *
    simp [n3, h3, he, n32, ex]
  · have n8 := next_ok (s.nxt 3) (m := 8) (by decide) (by decide)
    have n14 := next_ok ((s.nxt 3).nxt 8) (m := 14) (by decide) (by decide)
    have d0 := (s.nxt 3).dig_nn (m := 8) (by decide)
    have d1 := (s.nxt 3).dig_lt (m := 8) (by decide)
    have t0 := ((s.nxt 3).nxt 8).dig_nn (m := 14) (by decide)
    have t1 := ((s.nxt 3).nxt 8).dig_lt (m := 14) (by decide)
    obtain ⟨k0, ek0, ok0⟩ := sign_of d0 (by rw [fsl_ok.1]; exact d1) fsl_ok.2
    have ix0 := ix_wd (by rw [fsl_ok.1]; decide) ek0
    have efs : wd fsl = Str.ofString "abz?_9AZ" := (wd_of _).symm
    have esy : wd syl = syms := (wd_of _).symm
    have eos : wd osl = Str.ofString "A -.?(\n" := (wd_of _).symm
    rw [efs] at ix0
    let ev (s : Sm) (l : List Nat) (x4 x5 : Slot) : Env := [.bor s.C, .own (.lst (edgesL.map .str)), .val (.str syms), .val (sd l), x4, x5]
    generalize hn : (((s.nxt 3).nxt 8).dig 14).toNat = n
    let I : Nat → Env → Prop := fun i ρ => ∃ (s : Sm) (l : List Nat) (x : Slot), (x = .un ∨ ∃ d, x = Slot.val d) ∧ ρ = ev s l x .un ∧ l.length = 1 + i ∧ ∀ k ∈ l, k < 1114112
    have upg : ∀ {n i : Nat} {x : D}, (upTo 0 n)[i]? = some x → x = .int (i : Int) ∧ i < n := fun {n i x} h => by
      rw [upTo_eq, List.getElem?_map] at h
      obtain ⟨j, h1, h2⟩ := Option.map_eq_some_iff.mp h
      have hlt : i < n := by
        have := (List.getElem?_eq_some_iff.mp h1).1
        simpa using this
      rw [List.getElem?_range hlt] at h1
      cases h1
      exact ⟨h2.symm, hlt⟩
    obtain ⟨ρ', q1, s', l, x, hx, rfl, hl, hb⟩ := loop_ok (g := gV 4) (b := sAsg 3 (e2 oAdd (eV 3) (ePk2 oIxD 2 (eCall gNext [.b 0, .v (eC (.int 37))])))) I (upTo 0 n) 0 (ev (((s.nxt 3).nxt 8).nxt 14) [k0] .un .un)
      ⟨_, [k0], _, .inl rfl, rfl, rfl, fun k hk => by rw [List.mem_singleton.mp hk]; exact ok0⟩ (fun i d ρ hd hI => by
        obtain ⟨s, l, x, hx, rfl, hl, hb⟩ := hI
        obtain ⟨rfl, hi⟩ := upg hd
        have n37 := next_ok s (m := 37) (by decide) (by decide)
        have a0 := s.dig_nn (m := 37) (by decide)
        have a1 := s.dig_lt (m := 37) (by decide)
        obtain ⟨k, ek, ok⟩ := sign_of a0 (by rw [syl_ok.1]; exact a1) syl_ok.2
        have ixk := ix_wd (by rw [syl_ok.1]; decide) ek
        rw [esy] at ixk
        have hadd : oAdd (sd l) (sd [k]) = some (.d (sd (l ++ [k]))) := add_lit (by rw [wlen, wlen]; simp; omega) (app_wd l [k])
        refine ⟨ev s l (.val (.int i)) .un, ev (s.nxt 37) (l ++ [k]) (.val (.int i)) .un, ?_, .inl ?_, _, _, _, .inr ⟨_, rfl⟩, rfl, ?_, fun j hj => ?_⟩
        · rcases hx with rfl | ⟨d, rfl⟩ <;> simp [ev]
        · simp only [ev]
          generalize syms = SY at *
          simp [n37, ixk, hadd, -oAdd, -oIx]
        · rw [List.length_append, hl]
          show 1 + (0 + i) + 1 = 1 + (0 + i + 1)
          omega
        · rcases List.mem_append.mp hj with z | z
          · exact hb j z
          · rw [List.mem_singleton.mp z]
            exact ok)
    rw [upTo_len] at hl
    have hhead : ∀ k : S, sSeq (sAsg 1 eds) (sSeq (sIf (t2 oEq (eCall gNext [.b 0, .v (eC (.int 3))]) (eC (.int 0))) (sRet (ePk2 oIxD 1 (eCall gNext [.b 0, .v (e1 oLen (eV 1))]))) (sNil)) k) [.bor s.C, .un, .un, .un, .un, .un] = k [.bor (s.nxt 3).C, .own (.lst (edgesL.map .str)), .un, .un, .un, .un] := fun k => by
      rw [seq_nx (ρ' := [.bor s.C, .own (.lst (edgesL.map .str)), .un, .un, .un, .un]) (asg_ok (eds_ok _) rfl)]
      generalize edgesL.map D.str = EL at *
      rw [seq_nx (ρ' := [.bor (s.nxt 3).C, .own (.lst EL), .un, .un, .un, .un]) (by simp [n3, h3])]
    have n2 := next_ok s' (m := 2) (by decide) (by decide)
    have hmid : ∀ k : S, sSeq (sAsg 2 (eC (.str syms)))
      (sSeq (sAsg 3 (e2 oIxA (eC (.str "abz?_9AZ")) (eCall gNext [.b 0, .v (eC (.int 8))])))
      (sSeq (sFor (srcR1 (eCall gNext [.b 0, .v (eC (.int 14))])) (gV 4) (sAsg 3 (e2 oAdd (eV 3) (ePk2 oIxD 2 (eCall gNext [.b 0, .v (eC (.int 37))]))))) k)) [.bor (s.nxt 3).C, .own (.lst (edgesL.map .str)), .un, .un, .un, .un] = k (ev s' l x .un) := fun k => by
      rw [seq_nx (ρ' := [.bor (s.nxt 3).C, .own (.lst (edgesL.map .str)), .val (.str syms), .un, .un, .un]) (by simp)]
      rw [seq_nx (ρ' := ev ((s.nxt 3).nxt 8) [k0] .un .un) (by
        generalize Str.ofString "abz?_9AZ" = FS at *
        simp [ev, n8, ix0, -oIx])]
      rw [seq_nx (for_ok (ρ' := ev (((s.nxt 3).nxt 8).nxt 14) [k0] .un .un) (xs := upTo 0 n) (by
        have hk : bigOk (((s.nxt 3).nxt 8).dig 14) = true := by
          unfold bigOk
          simp only [Bool.and_eq_true, decide_eq_true_eq]
          omega
        simp [ev, srcR1, n14, hk, hn]) q1)]
    have hfin : ∀ (l2 : List Nat) (s2 : Sm) (x5 : Slot), Gd l2 → (sSeq (sIf (t2 oEq (eCall gNext [.b 0, .v (eC (.int 2))]) (eC (.int 1))) (sSeq (sAsg 5 (eCall gNext [.b 0, .v (e2 oAdd (e1 oLen (eV 3)) (eC (.int 1)))]))
      (sAsg 3 (e2 oAdd (e2 oAdd (eSl (eV 3) (pNone) (pSome (eV 5))) (e2 oIxA (eC (.str "A -.?(\n")) (eCall gNext [.b 0, .v (eC (.int 7))]))) (eSl (eV 3) (pSome (eV 5)) (pNone))))) (sNil))
      (sRet (eMv 3))) (ev s' l x .un) = .rt (.d (sd l2)) (ev s2 l2 x x5) → ∃ (l : List Nat) (s' : Sm), g__law_word [.bor s.C] = .ok (.d (sd l)) [.bor s'.C] ∧ Gd l := fun l2 s2 x5 hg h => by
      refine ⟨l2, s2, fn_ret (ρ := ev s2 l2 x x5) ?_ rfl, hg⟩
      rw [word_eq]
      exact (hhead _).trans ((hmid _).trans h)
    have hl14 : l.length ≤ 15 := by omega
    by_cases h2 : s'.dig 2 = 1
    · have hm : 0 < ((l.length : Int) + 1) ∧ ((l.length : Int) + 1) < 1073741824 := by omega
      have nL := next_ok (s'.nxt 2) hm.1 hm.2
      have n7 := next_ok ((s'.nxt 2).nxt ((l.length : Int) + 1)) (m := 7) (by decide) (by decide)
      have a0 := ((s'.nxt 2).nxt ((l.length : Int) + 1)).dig_nn (m := 7) (by decide)
      have a1 := ((s'.nxt 2).nxt ((l.length : Int) + 1)).dig_lt (m := 7) (by decide)
      obtain ⟨k, ek, ok⟩ := sign_of a0 (by rw [osl_ok.1]; exact a1) osl_ok.2
      have ixk := ix_wd (by rw [osl_ok.1]; decide) ek
      rw [eos] at ixk
      generalize hat : (s'.nxt 2).dig ((l.length : Int) + 1) = at0 at nL
      have hz : l.length ≤ 100000 := by omega
      have ca := cut_len l none (some at0)
      have cb := cut_len l (some at0) none
      have s1 : oSl (sd l) none (some at0) = some (.d (sd (cutL l none (some at0)))) := sl_wd hz none (some at0)
      have s2 : oSl (sd l) (some at0) none = some (.d (sd (cutL l (some at0) none))) := sl_wd hz (some at0) none
      have b1 : oAdd (sd (cutL l none (some at0))) (sd [k]) = some (.d (sd (cutL l none (some at0) ++ [k]))) := add_lit (by rw [wlen, wlen]; simp; omega) (app_wd _ _)
      have b2 : oAdd (sd (cutL l none (some at0) ++ [k])) (sd (cutL l (some at0) none)) = some (.d (sd (cutL l none (some at0) ++ [k] ++ cutL l (some at0) none))) := add_lit (by rw [wlen, wlen]; simp; omega) (app_wd _ _)
      refine hfin (cutL l none (some at0) ++ [k] ++ cutL l (some at0) none) (((s'.nxt 2).nxt ((l.length : Int) + 1)).nxt 7) (.val (.int at0)) ⟨?_, fun j hj => ?_⟩ ?_
      · rw [List.length_append, List.length_append, List.length_singleton]
        omega
      · rcases List.mem_append.mp hj with z | z
        · rcases List.mem_append.mp z with z | z
          · exact hb j (cut_mem z)
          · rw [List.mem_singleton.mp z]
            exact ok
        · exact hb j (cut_mem z)
      · simp only [ev]
        generalize Str.ofString "A -.?(\n" = OS at *
        generalize edgesL.map D.str = EL at *
        have ai : oAdd (.int (l.length : Int)) (.int 1) = some (.d (.int ((l.length : Int) + 1))) := rfl
        generalize sd (cutL l none (some at0) ++ [k] ++ cutL l (some at0) none) = Z4 at *
        generalize sd (cutL l none (some at0) ++ [k]) = Z3 at *
        generalize sd (cutL l none (some at0)) = Z1 at *
        generalize sd (cutL l (some at0) none) = Z2 at *
        generalize sd [k] = Z0 at *
        simp [ai, n2, h2, nL, n7, wlen, hz, eSl, pNone, pSome, s1, s2, ixk, b1, b2, -oAdd, -oIx, -List.append_assoc]
    · refine hfin l (s'.nxt 2) .un ⟨by omega, hb⟩ ?_
      simp only [ev]
      generalize edgesL.map D.str = EL at *
      generalize Str.ofString "A -.?(\n" = OS at *
      simp [n2, h2]
end Dn.k01_values_and_variables
set_option linter.all false
set_option maxHeartbeats 2000000
namespace Dn.k01_values_and_variables
open PySem
/-! ### values and their order -/
def Vl (x : D) : Prop := (∃ i, x = .int i) ∨ ∃ y : String, x = .str (Str.ofString y)
def keyD : D → D
  | .str y => .tup [.int 1, .str y]
  | x => .tup [.int 0, x]
def befB : D → D → Bool
  | .int i, .int j => decide (i < j)
  | .int _, .str _ => true
  | .str y, .str z => decide (y.cps.toList < z.cps.toList)
  | _, _ => false
theorem key_ok {x : D} (h : Vl x) : g_value_key [.val x] = .ok (.d (keyD x)) [.un] := by
  show fn 1 b_value_key _ = _
  rcases h with ⟨i, rfl⟩ | ⟨y, rfl⟩ <;> simp [b_value_key, isiT, keyD]
theorem lt_key {x y : D} (hx : Vl x) (hy : Vl y) : oLtP (keyD x) (keyD y) = some (befB x y) := by
  rcases hx with ⟨i, rfl⟩ | ⟨s, rfl⟩ <;> rcases hy with ⟨j, rfl⟩ | ⟨t, rfl⟩ <;> simp [keyD, oLtP, ltD, befB]
theorem first_ok {x y : D} (hx : Vl x) (hy : Vl y) : g__law_comes_first [.val x, .val y] = .ok (.d (.bl (befB x y))) [.un, .un] := by
  show fn 2 b__law_comes_first _ = _
  rcases hx with ⟨i, rfl⟩ | ⟨s, rfl⟩ <;> rcases hy with ⟨j, rfl⟩ | ⟨t, rfl⟩ <;> simp [b__law_comes_first, isiT, befB]
/-! ### the law -/
def lfour : S → S := fun k => sSeq (sAsg 6 (e2 oIxA (eLst [eC (.int 0), eC (.int 1), e1 oNeg (eC (.int 1)), eC (.int 999), eC (.int 1000), eC (.int 1001), e1 oNeg (eC (.int 1000)), e1 oNeg (eC (.int 1001)), e2 oPow (eC (.int 10)) (eC (.int 20)), e2 oSub (eCall gNext [.b 1, .v (eC (.int 2005))]) (eC (.int 1002))]) (eCall gNext [.b 1, .v (eC (.int 10))]))) k
theorem plain_bls (bs : List Bool) (h : bs.length ≤ 100) : plain 2 (.lst (bs.map .bl)) = true := by
  show (decide ((bs.map D.bl).length ≤ 100000) && plains 1 (bs.map .bl)) = true
  rw [plains_all, Bool.and_eq_true, decide_eq_true_eq, List.length_map, List.all_eq_true]
  refine ⟨by omega, fun x hx => ?_⟩
  obtain ⟨b, _, rfl⟩ := List.mem_map.mp hx
  rfl
theorem eq_bls (bs : List Bool) (h : bs.length ≤ 100) : gEqual 3 [.val (.lst (bs.map .bl)), .val (.lst (bs.map .bl))] = .ok (.d (.bl true)) [.un, .un] := equal_refl 2 _ (plain_bls bs h)
theorem pow20 : oPow (.int 10) (.int 20) = some (.d (.int 100000000000000000000)) := by
  simp only [oPow]
  rw [if_pos (by decide)]
  rfl
theorem law_true (ns : List Int) (_ : ns.length ≤ 63) : ∃ sl, g_law [.val (.scr ns)] = .ok (.d (.bl true)) sl := by
  have hs := stream_ok ns
  obtain ⟨l, s1, hw, hg⟩ := lword_ok (Sm.new ns)
  have hsy := law_symbol hg
  have hva := law_variable hg
  have t1 := symbol_ok hg
  obtain ⟨t2', t4⟩ := word_told hg
  have t3 := variable_ok hg
  generalize symB l = sb at *
  generalize varB l = vb at *
  generalize sd l = WD at *
  have q1 := eq_bls [sb, sb, vb, sb || vb] (by simp)
  simp only [List.map_cons, List.map_nil] at q1
  -- the number
  have n5 := next_ok s1 (m := 2005) (by decide) (by decide)
  have n10 := next_ok (s1.nxt 2005) (m := 10) (by decide) (by decide)
  have d0 := (s1.nxt 2005).dig_nn (m := 10) (by decide)
  have d1 := (s1.nxt 2005).dig_lt (m := 10) (by decide)
  let nl : List D := [.int 0, .int 1, .int (-1), .int 999, .int 1000, .int 1001, .int (-1000), .int (-1001), .int 100000000000000000000, .int (s1.dig 2005 - 1002)]
  obtain ⟨x, hx, ex⟩ := pick_mem (xs := nl) d0 (by exact d1)
  obtain ⟨i, rfl⟩ : ∃ i, x = .int i := by
    simp only [nl, List.mem_cons, List.not_mem_nil, or_false] at hx
    rcases hx with h | h | h | h | h | h | h | h | h | h <;> exact ⟨_, h⟩
  obtain ⟨i1, i2, i3, i4⟩ := int_told i
  have q2 := eq_bls [false, goodI i, false, goodI i] (by simp)
  simp only [List.map_cons, List.map_nil] at q2
  have q3 := eq_bls [false, false, false, false] (by simp)
  simp only [List.map_cons, List.map_nil] at q3
  generalize hs2 : (s1.nxt 2005).nxt 10 = s2 at n10
  have hgood : decide ((if i < 0 then -i else i) ≤ 1000) = goodI i := rfl
  generalize goodI i = gi at *
  let ev (s : Sm) (s6 s7 s8 s9 s10 s11 : Slot) : Env := [.val (.scr ns), .own s.C, .val WD, .val (.bl sb), .val (.bl vb), .val (.lst [.bl sb, .bl sb, .bl vb, .bl (sb || vb)]), s6, s7, s8, s9, s10, s11]
  -- the others
  let ol : List D := [.bl true, .bl false, .non, .tup [.str "a"], .lst [.str "a"], .tup [], .bl true]
  have mul4 : oMul (.lst [.bl false]) (.int 4) = some (.o (.lst [.bl false, .bl false, .bl false, .bl false])) := by
    simp only [oMul]
    rw [if_pos (by decide)]
    rfl
  let I8 : Nat → Env → Prop := fun _ ρ => ∃ x8 : Slot, (x8 = .un ∨ ∃ d, x8 = Slot.val d) ∧ ρ = ev s2 (.val (.int i)) (.val (.bl gi)) x8 .un .un .un
  obtain ⟨ρ8, p8, x8, hx8, rfl⟩ := loop_ok (g := gV 8) (b := sIf (tNot (tTr (eCall (gEqual 3) [.v (eLst [eCall g_is_symbol [.v (eV 8)], eCall g_is_value [.v (eV 8)], eCall g_is_variable [.v (eV 8)], eCall g_is_term [.v (eV 8)]]), .v (e2 oMul (eLst [eC (.bl false)]) (eC (.int 4)))]))) (sRet (eC (.bl false))) (sNil)) I8 ol 0 (ev s2 (.val (.int i)) (.val (.bl gi)) .un .un .un .un)
    ⟨_, .inl rfl, rfl⟩ (fun j d ρ hd hI => by
      obtain ⟨x8, hx8, rfl⟩ := hI
      have hm : d ∈ ol := List.mem_of_getElem? hd
      have hk : Oth d := by
        simp only [ol, List.mem_cons, List.not_mem_nil, or_false] at hm
        rcases hm with h | h | h | h | h | h | h <;> subst h <;> trivial
      obtain ⟨o1, o2, o3, o4⟩ := none_told d hk
      refine ⟨ev s2 (.val (.int i)) (.val (.bl gi)) (.val d) .un .un .un, ev s2 (.val (.int i)) (.val (.bl gi)) (.val d) .un .un .un, ?_, .inl ?_, _, .inr ⟨_, rfl⟩, rfl⟩
      · rcases hx8 with rfl | ⟨d, rfl⟩ <;> simp [ev]
      · simp [ev, o1, o2, o3, o4, mul4, q3])
  -- the values
  have n6 := next_ok s2 (m := 6) (by decide) (by decide)
  have n20 := next_ok (s2.nxt 6) (m := 2001) (by decide) (by decide)
  have n7 := next_ok ((s2.nxt 6).nxt 2001) (m := 7) (by decide) (by decide)
  have e0 := s2.dig_nn (m := 6) (by decide)
  have e1' := s2.dig_lt (m := 6) (by decide)
  obtain ⟨y, hy, ey⟩ := pick_mem (xs := [D.str "a", .str "b", .str "ab", .str "a_", .str "a1", .str "z"]) e0 (by exact e1')
  have vy : Vl y := by
    simp only [List.mem_cons, List.not_mem_nil, or_false] at hy
    rcases hy with h | h | h | h | h | h <;> exact .inr ⟨_, h⟩
  generalize hs3 : ((s2.nxt 6).nxt 2001).nxt 7 = s3 at n7
  let vl : List D := [y, .int ((s2.nxt 6).dig 2001 - 1000), .int (((s2.nxt 6).nxt 2001).dig 7 - 3), .str "b1"]
  have vvl : ∀ x ∈ vl, Vl x := fun x hx => by
    simp only [vl, List.mem_cons, List.not_mem_nil, or_false] at hx
    rcases hx with h | h | h | h
    · rw [h]; exact vy
    · exact .inl ⟨_, h⟩
    · exact .inl ⟨_, h⟩
    · exact .inr ⟨_, h⟩
  have hvl : vl.length = 4 := rfl
  have h10 := lc_ok (own := [10]) (src := srcSeq (eV 9)) (g := gV 10) (t := tYes) (e := e1 (oIsi "tuple") (eCall g_value_key [.v (eV 10)])) (ρ := ev s3 (.val (.int i)) (.val (.bl gi)) x8 (.own (.lst vl)) .un .un) (ρ0 := ev s3 (.val (.int i)) (.val (.bl gi)) x8 (.val (.lst vl)) .un .un) (xs := vl)
    (fun _ => true) (fun _ => .bl true) (by simp [ev]) (by rw [hvl]; decide) (by simp [soft, ev]) fun x hx => by
      have hk := key_ok (vvl x hx)
      have ht : (keyD x).ty = "tuple" := by
        rcases vvl x hx with ⟨i, rfl⟩ | ⟨y, rfl⟩ <;> rfl
      refine ⟨ev s3 (.val (.int i)) (.val (.bl gi)) x8 (.val (.lst vl)) (.val x) .un, by simp [wipeE, ev], by simp, fun _ => ?_, by simp [wipeE, ev]⟩
      simp [ev, hk, ht, isiT, -D.ty]
  have h10' : ((vl.filter fun _ => true).map fun _ => D.bl true) = [.bl true, .bl true, .bl true, .bl true] := rfl
  rw [h10'] at h10
  generalize hVL : vl = VL at vvl h10
  let J : Nat → Env → Prop := fun _ ρ => ∃ x10 x11 : Slot, (x10 = .un ∨ ∃ d, x10 = Slot.val d) ∧ (x11 = .un ∨ ∃ d, x11 = Slot.val d) ∧ ρ = ev s3 (.val (.int i)) (.val (.bl gi)) x8 (.val (.lst VL)) x10 x11
  have inner : ∀ (a : D) (x11 : Slot), a ∈ VL → (x11 = .un ∨ ∃ d, x11 = Slot.val d) → ∃ x11', (x11' = .un ∨ ∃ d, x11' = Slot.val d) ∧ loop (gV 11) (sIf (t2 oNe (eT (t2 oLtP (eCall g_value_key [.v (eV 10)]) (eCall g_value_key [.v (eV 11)]))) (eCall g__law_comes_first [.v (eV 10), .v (eV 11)])) (sRet (eC (.bl false))) (sNil)) VL (ev s3 (.val (.int i)) (.val (.bl gi)) x8 (.val (.lst VL)) (.val a) x11) = .nx (ev s3 (.val (.int i)) (.val (.bl gi)) x8 (.val (.lst VL)) (.val a) x11') := fun a x11 ha h11 => by
    obtain ⟨ρ', r1, x', hx', rfl⟩ := loop_ok (g := gV 11) (b := sIf (t2 oNe (eT (t2 oLtP (eCall g_value_key [.v (eV 10)]) (eCall g_value_key [.v (eV 11)]))) (eCall g__law_comes_first [.v (eV 10), .v (eV 11)])) (sRet (eC (.bl false))) (sNil))
      (fun _ ρ => ∃ x' : Slot, (x' = .un ∨ ∃ d, x' = Slot.val d) ∧ ρ = ev s3 (.val (.int i)) (.val (.bl gi)) x8 (.val (.lst VL)) (.val a) x') VL 0 _ ⟨x11, h11, rfl⟩ (fun j b ρ hb hI => by
        obtain ⟨x', hx', rfl⟩ := hI
        have hbm : b ∈ VL := List.mem_of_getElem? hb
        have k1 := key_ok (vvl a ha)
        have k2 := key_ok (vvl b hbm)
        have k3 := lt_key (vvl a ha) (vvl b hbm)
        have k4 := first_ok (vvl a ha) (vvl b hbm)
        refine ⟨ev s3 (.val (.int i)) (.val (.bl gi)) x8 (.val (.lst VL)) (.val a) (.val b), ev s3 (.val (.int i)) (.val (.bl gi)) x8 (.val (.lst VL)) (.val a) (.val b), ?_, .inl ?_, _, .inr ⟨_, rfl⟩, rfl⟩
        · rcases hx' with rfl | ⟨d, rfl⟩ <;> simp [ev]
        · generalize befB a b = bf at *
          simp [ev, k1, k2, k3, k4])
    exact ⟨x', hx', r1⟩
  obtain ⟨ρ9, p9, x10, x11, hx10, hx11, rfl⟩ := loop_ok (g := gV 10) (b := sFor (srcSeq (eV 9)) (gV 11) (sIf (t2 oNe (eT (t2 oLtP (eCall g_value_key [.v (eV 10)]) (eCall g_value_key [.v (eV 11)]))) (eCall g__law_comes_first [.v (eV 10), .v (eV 11)])) (sRet (eC (.bl false))) (sNil))) J VL 0 (ev s3 (.val (.int i)) (.val (.bl gi)) x8 (.val (.lst VL)) .un .un)
    ⟨_, _, .inl rfl, .inl rfl, rfl⟩ (fun j a ρ ha hI => by
      obtain ⟨x10, x11, hx10, hx11, rfl⟩ := hI
      obtain ⟨x', hx', r1⟩ := inner a x11 (List.mem_of_getElem? ha) hx11
      refine ⟨ev s3 (.val (.int i)) (.val (.bl gi)) x8 (.val (.lst VL)) (.val a) x11, ev s3 (.val (.int i)) (.val (.bl gi)) x8 (.val (.lst VL)) (.val a) x', ?_, .inl (for_ok (xs := VL) (ρ' := ev s3 (.val (.int i)) (.val (.bl gi)) x8 (.val (.lst VL)) (.val a) x11) (by simp [ev]) r1), _, _, .inr ⟨_, rfl⟩, hx', rfl⟩
      rcases hx10 with rfl | ⟨d, rfl⟩ <;> simp [ev])
  refine ⟨_, fn_rt (ρ := ev s3 (.val (.int i)) (.val (.bl gi)) x8 (.val (.lst VL)) x10 x11) ?_⟩
  show b_law [.val (.scr ns), .un, .un, .un, .un, .un, .un, .un, .un, .un, .un, .un] = _
  unfold b_law
  rw [streamE, equalE, nextE]
  rw [seq_nx (ρ' := [.val (.scr ns), .own (Sm.new ns).C, .un, .un, .un, .un, .un, .un, .un, .un, .un, .un]) (by simp [hs])]
  rw [seq_nx (ρ' := [.val (.scr ns), .own s1.C, .val WD, .un, .un, .un, .un, .un, .un, .un, .un, .un]) (by simp [hw])]
  rw [seq_nx (ρ' := [.val (.scr ns), .own s1.C, .val WD, .val (.bl sb), .un, .un, .un, .un, .un, .un, .un, .un]) (by simp [hsy])]
  rw [seq_nx (ρ' := [.val (.scr ns), .own s1.C, .val WD, .val (.bl sb), .val (.bl vb), .un, .un, .un, .un, .un, .un, .un]) (by simp [hva])]
  rw [seq_nx (ρ' := [.val (.scr ns), .own s1.C, .val WD, .val (.bl sb), .val (.bl vb), .own (.lst [.bl sb, .bl sb, .bl vb, .bl (sb || vb)]), .un, .un, .un, .un, .un, .un]) (by simp [t1, t2', t3, t4])]
  rw [seq_nx (ρ' := ev s1 .un .un .un .un .un .un) (by
    cases sb <;> simp only [Bool.true_or, Bool.false_or] at q1 <;> simp [ev, q1])]
  rw [seq_nx (ρ' := ev s2 (.val (.int i)) .un .un .un .un .un) (by
    simp only [nl] at ex
    simp [ev, pow20, n5, n10, ex])]
  rw [seq_nx (ρ' := ev s2 (.val (.int i)) (.val (.bl gi)) .un .un .un .un) (by simp [ev, hgood])]
  rw [seq_nx (ρ' := ev s2 (.val (.int i)) (.val (.bl gi)) .un .un .un .un) (by simp [ev, i1, i2, i3, i4, q2])]
  rw [seq_nx (for_ok (xs := ol) (ρ' := ev s2 (.val (.int i)) (.val (.bl gi)) .un .un .un .un) (by simp [ev, ol]) p8)]
  rw [seq_nx (ρ' := ev s3 (.val (.int i)) (.val (.bl gi)) x8 (.own (.lst VL)) .un .un) (by
    rw [← hVL]
    simp [ev, n6, n20, n7, ey, vl])]
  rw [guard_f (ρ' := ev s3 (.val (.int i)) (.val (.bl gi)) x8 (.val (.lst VL)) .un .un) ((show tNot (tTr (e1 oAll (eLc [10] (srcSeq (eV 9)) (gV 10) (tYes) (e1 (oIsi "tuple") (eCall g_value_key [.v (eV 10)]))))) (ev s3 (.val (.int i)) (.val (.bl gi)) x8 (.own (.lst VL)) .un .un) = .ok false (ev s3 (.val (.int i)) (.val (.bl gi)) x8 (.val (.lst VL)) .un .un) from by
    have ha := e1_ok (f := oAll) h10 (z := .d (.bl true)) (by simp)
    show bind (tTr _) (fun k => ret (!k)) _ = _
    have ht : tTr (e1 oAll (eLc [10] (srcSeq (eV 9)) (gV 10) (tYes) (e1 (oIsi "tuple") (eCall g_value_key [.v (eV 10)])))) (ev s3 (.val (.int i)) (.val (.bl gi)) x8 (.own (.lst VL)) .un .un) = .ok true (ev s3 (.val (.int i)) (.val (.bl gi)) x8 (.val (.lst VL)) .un .un) := by
      show bind (val _) (fun x => opt (truth x)) _ = _
      unfold bind
      rw [val_ok ha]
      rfl
    unfold bind
    rw [ht]
    rfl))]
  rw [seq_nx (for_ok (xs := VL) (ρ' := ev s3 (.val (.int i)) (.val (.bl gi)) x8 (.val (.lst VL)) .un .un) (by simp [ev]) p9)]
  simp
end Dn.k01_values_and_variables
set_option Elab.async false
set_option linter.all false
set_option maxRecDepth 100000
set_option maxHeartbeats 4000000
/-! The defs keep to their denotations. -/
namespace Dn.k01_values_and_variables
open PySem L2 Dn
def topS (i : Nat) : Stmt := PySem.Challenge.pw_rulestand_k01_values_and_variables.main.body.getD i (.Pass ⟨0, 0, 0, 0⟩)
/-- the built-ins that the text leaves as they are -/
structure Blt (mg : Str → Option Value) : Prop where
  abs_ : mg "abs" = none
  all_ : mg "all" = none
  bool_ : mg "bool" = none
  int_ : mg "int" = none
  isinstance_ : mg "isinstance" = none
  len_ : mg "len" = none
  list_ : mg "list" = none
  range_ : mg "range" = none
  str_ : mg "str" = none
  tuple_ : mg "tuple" = none
abbrev s__law_stream : Stmt := topS 17
abbrev N__law_stream : List Str := ["script"]
theorem sc__law_stream : FnScope N__law_stream ["script"] (defScope s__law_stream) := ⟨rfl, rfl, rfl, by decide +kernel, rfl, by decide +kernel, by decide +kernel⟩
abbrev s__law_next : Stmt := topS 18
abbrev N__law_next : List Str := ["stream", "many", "k", "cell", "digit"]
theorem sc__law_next : FnScope N__law_next ["stream", "many"] (defScope s__law_next) := ⟨rfl, rfl, rfl, by decide +kernel, rfl, by decide +kernel, by decide +kernel⟩
abbrev s__law_word : Stmt := topS 21
abbrev N__law_word : List Str := ["stream", "edges", "chars", "word", "k", "at"]
theorem sc__law_word : FnScope N__law_word ["stream"] (defScope s__law_word) := ⟨rfl, rfl, rfl, by decide +kernel, rfl, by decide +kernel, by decide +kernel⟩
abbrev s__law_is_symbol : Stmt := topS 22
abbrev N__law_is_symbol : List Str := ["word", "reserved", "char"]
theorem sc__law_is_symbol : FnScope N__law_is_symbol ["word"] (defScope s__law_is_symbol) := ⟨rfl, rfl, rfl, by decide +kernel, rfl, by decide +kernel, by decide +kernel⟩
abbrev s__law_is_variable : Stmt := topS 23
abbrev N__law_is_variable : List Str := ["word", "char"]
theorem sc__law_is_variable : FnScope N__law_is_variable ["word"] (defScope s__law_is_variable) := ⟨rfl, rfl, rfl, by decide +kernel, rfl, by decide +kernel, by decide +kernel⟩
abbrev s_is_integer : Stmt := topS 8
abbrev N_is_integer : List Str := ["value"]
theorem sc_is_integer : FnScope N_is_integer ["value"] (defScope s_is_integer) := ⟨rfl, rfl, rfl, by decide +kernel, rfl, by decide +kernel, by decide +kernel⟩
abbrev s_is_in_range : Stmt := topS 9
abbrev N_is_in_range : List Str := ["number"]
theorem sc_is_in_range : FnScope N_is_in_range ["number"] (defScope s_is_in_range) := ⟨rfl, rfl, rfl, by decide +kernel, rfl, by decide +kernel, by decide +kernel⟩
abbrev s_is_made_of : Stmt := topS 10
abbrev N_is_made_of : List Str := ["text", "characters", "character"]
theorem sc_is_made_of : FnScope N_is_made_of ["text", "characters"] (defScope s_is_made_of) := ⟨rfl, rfl, rfl, by decide +kernel, rfl, by decide +kernel, by decide +kernel⟩
abbrev s_is_symbol : Stmt := topS 11
abbrev N_is_symbol : List Str := ["value"]
theorem sc_is_symbol : FnScope N_is_symbol ["value"] (defScope s_is_symbol) := ⟨rfl, rfl, rfl, by decide +kernel, rfl, by decide +kernel, by decide +kernel⟩
abbrev s_is_value : Stmt := topS 12
abbrev N_is_value : List Str := ["value"]
theorem sc_is_value : FnScope N_is_value ["value"] (defScope s_is_value) := ⟨rfl, rfl, rfl, by decide +kernel, rfl, by decide +kernel, by decide +kernel⟩
abbrev s_is_variable : Stmt := topS 13
abbrev N_is_variable : List Str := ["value"]
theorem sc_is_variable : FnScope N_is_variable ["value"] (defScope s_is_variable) := ⟨rfl, rfl, rfl, by decide +kernel, rfl, by decide +kernel, by decide +kernel⟩
abbrev s_is_term : Stmt := topS 14
abbrev N_is_term : List Str := ["value"]
theorem sc_is_term : FnScope N_is_term ["value"] (defScope s_is_term) := ⟨rfl, rfl, rfl, by decide +kernel, rfl, by decide +kernel, by decide +kernel⟩
abbrev s__law_is_integer : Stmt := topS 19
abbrev N__law_is_integer : List Str := ["actual"]
theorem sc__law_is_integer : FnScope N__law_is_integer ["actual"] (defScope s__law_is_integer) := ⟨rfl, rfl, rfl, by decide +kernel, rfl, by decide +kernel, by decide +kernel⟩
abbrev s__law_equal : Stmt := topS 20
abbrev N__law_equal : List Str := ["actual", "due", "at"]
theorem sc__law_equal : FnScope N__law_equal ["actual", "due"] (defScope s__law_equal) := ⟨rfl, rfl, rfl, by decide +kernel, rfl, by decide +kernel, by decide +kernel⟩
abbrev s_value_key : Stmt := topS 15
abbrev N_value_key : List Str := ["value"]
theorem sc_value_key : FnScope N_value_key ["value"] (defScope s_value_key) := ⟨rfl, rfl, rfl, by decide +kernel, rfl, by decide +kernel, by decide +kernel⟩
abbrev s__law_comes_first : Stmt := topS 24
abbrev N__law_comes_first : List Str := ["one", "other"]
theorem sc__law_comes_first : FnScope N__law_comes_first ["one", "other"] (defScope s__law_comes_first) := ⟨rfl, rfl, rfl, by decide +kernel, rfl, by decide +kernel, by decide +kernel⟩
abbrev s_law : Stmt := topS 25
abbrev N_law : List Str := ["script", "stream", "word", "symbol", "variable", "told", "number", "good", "other", "values", "one", "two"]
theorem sc_law : FnScope N_law ["script"] (defScope s_law) := ⟨rfl, rfl, rfl, by decide +kernel, rfl, by decide +kernel, by decide +kernel⟩
section
variable {P : Program} {w : World} {K : PySem.W.Frag} {mg : Str → Option Value} {base : Heap}
theorem ok__law_stream (B : Blt mg) (T : Top K mg "_law_stream" s__law_stream ["script"])   : Cal P w K mg base 1 "_law_stream" 1 g__law_stream :=
  cal_of T sc__law_stream fun c f cdv A outer s H E hr => ss_one (s_ret (d_lst (a_cons (d_list rfl B.list_ (d_v 0)) (a_cons (d_int) (a_cons (d_int) (a_nil))))))
theorem ok__law_next (B : Blt mg) (T : Top K mg "_law_next" s__law_next ["stream", "many"])   : Cal P w K mg base 1 "_law_next" 2 g__law_next :=
  cal_of T sc__law_next fun c f cdv A outer s H E hr => ss_cons (s_if (t_eq hr.units (d_pkIx 0 (hu_of hr) (d_int)) (d_int)) (ss_cons (s_set 2 sc__law_next.nd (d_pkIx 0 (hu_of hr) (d_int)))
      (ss_cons (s_set 3 sc__law_next.nd (d_add (d_int) (d_v 2)))
      (ss_cons (s_if (t_lt (d_v 2) (d_len rfl B.len_ (d_pkIx 0 (hu_of hr) (d_int)))) (ss_one (s_set 3 sc__law_next.nd (d_abs rfl B.abs_ (d_ix (hu_of hr) (d_pkIx 0 (hu_of hr) (d_int)) (d_v 2))))) (ss_nil))
      (ss_cons (s_if (t_lt (d_v 3) (d_pow (d_int) (d_int))) (ss_cons (s_set 3 sc__law_next.nd (d_mod (d_intc rfl B.int_ (d_add (d_add (d_mul (d_v 3) (d_int)) (d_mul (d_v 2) (d_int))) (d_int))) (d_int)))
      (ss_one (s_set 3 sc__law_next.nd (d_add (d_mul (d_mod (d_intc rfl B.int_ (d_add (d_mul (d_v 3) (d_int)) (d_int))) (d_int)) (d_int)) (d_v 3))))) (ss_nil))
      (ss_cons (s_setI 0 (d_v 3) (pg_sub (pv 0) (d_int) set_list))
      (ss_one (s_setI 0 (d_add (d_v 2) (d_int)) (pg_sub (pv 0) (d_int) set_list)))))))) (ss_nil))
      (ss_cons (s_set 4 sc__law_next.nd (d_mod (d_intc rfl B.int_ (d_pkIx 0 (hu_of hr) (d_int))) (d_v 1)))
      (ss_cons (s_setI 0 (d_div (d_pkIx 0 (hu_of hr) (d_int)) (d_v 1)) (pg_sub (pv 0) (d_int) set_list))
      (ss_one (s_ret (d_mv 4)))))
theorem ok__law_word (B : Blt mg) (T : Top K mg "_law_word" s__law_word ["stream"])  (C__law_next : Cal P w K mg base 1 "_law_next" 2 g__law_next) : Cal P w K mg base 2 "_law_word" 1 g__law_word :=
  cal_of T sc__law_word fun c f cdv A outer s H E hr => ss_cons (s_set 1 sc__law_word.nd (d_lst (a_cons (d_str) (a_cons (d_str) (a_cons (d_str) (a_cons (d_str) (a_cons (d_str) (a_cons (d_str) (a_cons (d_str) (a_cons (d_str) (a_cons (d_str) (a_cons (d_str) (a_cons (d_add (d_str) (d_mulS (d_str) (d_int))) (a_cons (d_add (d_str) (d_mulS (d_str) (d_int))) (a_cons (d_str) (a_cons (d_mulS (d_str) (d_int)) (a_cons (d_mulS (d_str) (d_int)) (a_cons (d_str) (a_cons (d_str) (a_cons (d_str) (a_cons (d_str) (a_cons (d_str) (a_cons (d_str) (a_cons (d_str) (a_cons (d_str) (a_cons (d_str) (a_cons (d_str) (a_cons (d_str) (a_cons (d_str) (a_cons (d_str) (a_cons (d_str) (a_cons (d_str) (a_cons (d_str) (a_cons (d_str) (a_nil)))))))))))))))))))))))))))))))))))
      (ss_cons (s_if (t_eq hr.units (d_call C__law_next hr rfl rfl (b_b 0 (b_v (d_int) (b_nil)))) (d_int)) (ss_one (s_ret (d_pkIx 1 (hu_of hr) (d_call C__law_next hr rfl rfl (b_b 0 (b_v (d_len rfl B.len_ (d_v 1)) (b_nil))))))) (ss_nil))
      (ss_cons (s_set 2 sc__law_word.nd (d_str))
      (ss_cons (s_set 3 sc__law_word.nd (d_ix (hu_of hr) (d_str) (d_call C__law_next hr rfl rfl (b_b 0 (b_v (d_int) (b_nil))))))
      (ss_cons (s_for PassesOwn.never rfl (i_r1 rfl B.range_ (d_call C__law_next hr rfl rfl (b_b 0 (b_v (d_int) (b_nil))))) ((by first | exact pg_name (i := 4) sc__law_word.nd rfl (Or.inl rfl) | exact pg_name (i := 4) sc__law_word.nd rfl (Or.inr rfl))) (evg_v) (ss_one (s_set 3 sc__law_word.nd (d_add (d_v 3) (d_pkIx 2 (hu_of hr) (d_call C__law_next hr rfl rfl (b_b 0 (b_v (d_int) (b_nil)))))))))
      (ss_cons (s_if (t_eq hr.units (d_call C__law_next hr rfl rfl (b_b 0 (b_v (d_int) (b_nil)))) (d_int)) (ss_cons (s_set 5 sc__law_word.nd (d_call C__law_next hr rfl rfl (b_b 0 (b_v (d_add (d_len rfl B.len_ (d_v 3)) (d_int)) (b_nil)))))
      (ss_one (s_set 3 sc__law_word.nd (d_add (d_add (d_sl (d_v 3) (o_none) (o_some (d_v 5))) (d_ix (hu_of hr) (d_str) (d_call C__law_next hr rfl rfl (b_b 0 (b_v (d_int) (b_nil)))))) (d_sl (d_v 3) (o_some (d_v 5)) (o_none)))))) (ss_nil))
      (ss_one (s_ret (d_mv 3))))))))
theorem ok__law_is_symbol (B : Blt mg) (T : Top K mg "_law_is_symbol" s__law_is_symbol ["word"])   : Cal P w K mg base 1 "_law_is_symbol" 1 g__law_is_symbol :=
  cal_of T sc__law_is_symbol fun c f cdv A outer s H E hr => ss_cons (s_set 1 sc__law_is_symbol.nd (d_lst (a_cons (d_str) (a_cons (d_str) (a_cons (d_str) (a_cons (d_str) (a_cons (d_str) (a_cons (d_str) (a_cons (d_str) (a_cons (d_str) (a_cons (d_str) (a_cons (d_str) (a_cons (d_str) (a_cons (d_str) (a_nil)))))))))))))))
      (ss_cons (s_if (t_w (w_or (t_lt (d_len rfl B.len_ (d_v 0)) (d_int)) (w_or (t_gt (d_len rfl B.len_ (d_v 0)) (d_int)) (w_or (t_in (room65 hr) (hu_of hr) (d_v 0) (d_v 1)) (w_or1 (t_ni (room65 hr) (hu_of hr) (d_pkIx 0 (hu_of hr) (d_int)) (d_str))))))) (ss_one (s_ret (d_bl))) (ss_nil))
      (ss_one (s_ret (d_all rfl rfl B.all_ (d_lc (own := [("char", 2)]) rfl sc__law_is_symbol.nd (i_str (d_v 0)) (blkOk_by (N := N__law_is_symbol) (sc := (defScope s__law_is_symbol)) (own := [("char", 2)]) (by decide +kernel)) (fun _ _ _ _ _ => (by first | exact pg_name (i := 2) sc__law_is_symbol.nd rfl (Or.inl rfl) | exact pg_name (i := 2) sc__law_is_symbol.nd rfl (Or.inr rfl))) (fun c => evg_v) (by decide) (fun c _ _ _ _ _ _ => f_nil) (fun c _ _ _ _ _ _ => d_in (room65 hr) (hu_of hr) (d_v 2) (d_str)))))))
theorem ok__law_is_variable (B : Blt mg) (T : Top K mg "_law_is_variable" s__law_is_variable ["word"])   : Cal P w K mg base 1 "_law_is_variable" 1 g__law_is_variable :=
  cal_of T sc__law_is_variable fun c f cdv A outer s H E hr => ss_cons (s_if (t_w (w_or (t_lt (d_len rfl B.len_ (d_v 0)) (d_int)) (w_or (t_gt (d_len rfl B.len_ (d_v 0)) (d_int)) (w_or1 (t_ne hr.units (d_pkIx 0 (hu_of hr) (d_int)) (d_str)))))) (ss_one (s_ret (d_bl))) (ss_nil))
      (ss_one (s_ret (d_all rfl rfl B.all_ (d_lc (own := [("char", 1)]) rfl sc__law_is_variable.nd (i_str (d_sl (d_v 0) (o_some (d_int)) (o_none))) (blkOk_by (N := N__law_is_variable) (sc := (defScope s__law_is_variable)) (own := [("char", 1)]) (by decide +kernel)) (fun _ _ _ _ _ => (by first | exact pg_name (i := 1) sc__law_is_variable.nd rfl (Or.inl rfl) | exact pg_name (i := 1) sc__law_is_variable.nd rfl (Or.inr rfl))) (fun c => evg_v) (by decide) (fun c _ _ _ _ _ _ => f_nil) (fun c _ _ _ _ _ _ => d_in (room65 hr) (hu_of hr) (d_v 1) (d_str))))))
theorem ok_is_integer (B : Blt mg) (T : Top K mg "is_integer" s_is_integer ["value"])   : Cal P w K mg base 1 "is_integer" 1 g_is_integer :=
  cal_of T sc_is_integer fun c f cdv A outer s H E hr => ss_one (s_ret (d_and (d_isi kit_int PyProof.Rows.boot_int rfl B.isinstance_ rfl B.int_ (d_v 0)) (d_one (d_not (d_isi kit_bool PyProof.Rows.boot_bool rfl B.isinstance_ rfl B.bool_ (d_v 0))))))
theorem ok_is_in_range (B : Blt mg) (T : Top K mg "is_in_range" s_is_in_range ["number"]) (G_GREATEST_INTEGER : Gv K mg "GREATEST_INTEGER" v_GREATEST_INTEGER)  : Cal P w K mg base 1 "is_in_range" 1 g_is_in_range :=
  cal_of T sc_is_in_range fun c f cdv A outer s H E hr => ss_one (s_ret (d_le (d_abs rfl B.abs_ (d_v 0)) (d_glob G_GREATEST_INTEGER rfl)))
theorem ok_is_made_of (B : Blt mg) (T : Top K mg "is_made_of" s_is_made_of ["text", "characters"])   : Cal P w K mg base 1 "is_made_of" 2 g_is_made_of :=
  cal_of T sc_is_made_of fun c f cdv A outer s H E hr => ss_one (s_ret (d_all rfl rfl B.all_ (d_lc (own := [("character", 2)]) rfl sc_is_made_of.nd (i_str (d_v 0)) (blkOk_by (N := N_is_made_of) (sc := (defScope s_is_made_of)) (own := [("character", 2)]) (by decide +kernel)) (fun _ _ _ _ _ => (by first | exact pg_name (i := 2) sc_is_made_of.nd rfl (Or.inl rfl) | exact pg_name (i := 2) sc_is_made_of.nd rfl (Or.inr rfl))) (fun c => evg_v) (by decide) (fun c _ _ _ _ _ _ => f_nil) (fun c _ _ _ _ _ _ => d_in (room65 hr) (hu_of hr) (d_v 2) (d_v 1)))))
theorem ok_is_symbol (B : Blt mg) (T : Top K mg "is_symbol" s_is_symbol ["value"]) (G_LETTERS : Gv K mg "LETTERS" v_LETTERS) (G_LONGEST_SYMBOL : Gv K mg "LONGEST_SYMBOL" v_LONGEST_SYMBOL) (G_RESERVED : Gv K mg "RESERVED" v_RESERVED) (G_SYMBOL_CHARACTERS : Gv K mg "SYMBOL_CHARACTERS" v_SYMBOL_CHARACTERS) (C_is_made_of : Cal P w K mg base 1 "is_made_of" 2 g_is_made_of) : Cal P w K mg base 2 "is_symbol" 1 g_is_symbol :=
  cal_of T sc_is_symbol fun c f cdv A outer s H E hr => ss_cons (s_if (t_w (w_or (t_not (t_tr (d_isi kit_str PyProof.Rows.boot_str rfl B.isinstance_ rfl B.str_ (d_v 0)))) (w_or1 (t_not (t_chain q_le q_le (d_int) (d_len rfl B.len_ (d_v 0)) (d_glob G_LONGEST_SYMBOL rfl)))))) (ss_one (s_ret (d_bl))) (ss_nil))
      (ss_one (s_ret (d_and (d_in (room65 hr) (hu_of hr) (d_pkIx 0 (hu_of hr) (d_int)) (d_glob G_LETTERS rfl)) (d_and (d_call C_is_made_of hr rfl rfl (b_v (d_v 0) (b_v (d_glob G_SYMBOL_CHARACTERS rfl) (b_nil)))) (d_one (d_ni (room65 hr) (hu_of hr) (d_v 0) (d_glob G_RESERVED rfl)))))))
theorem ok_is_value (B : Blt mg) (T : Top K mg "is_value" s_is_value ["value"])  (C_is_integer : Cal P w K mg base 2 "is_integer" 1 g_is_integer) (C_is_in_range : Cal P w K mg base 2 "is_in_range" 1 g_is_in_range) (C_is_symbol : Cal P w K mg base 2 "is_symbol" 1 g_is_symbol) : Cal P w K mg base 3 "is_value" 1 g_is_value :=
  cal_of T sc_is_value fun c f cdv A outer s H E hr => ss_cons (s_if (t_tr (d_call C_is_integer hr rfl rfl (b_v (d_v 0) (b_nil)))) (ss_one (s_ret (d_call C_is_in_range hr rfl rfl (b_v (d_v 0) (b_nil))))) (ss_nil))
      (ss_one (s_ret (d_call C_is_symbol hr rfl rfl (b_v (d_v 0) (b_nil)))))
theorem ok_is_variable (B : Blt mg) (T : Top K mg "is_variable" s_is_variable ["value"]) (G_LONGEST_VARIABLE : Gv K mg "LONGEST_VARIABLE" v_LONGEST_VARIABLE) (G_VARIABLE_CHARACTERS : Gv K mg "VARIABLE_CHARACTERS" v_VARIABLE_CHARACTERS) (C_is_made_of : Cal P w K mg base 1 "is_made_of" 2 g_is_made_of) : Cal P w K mg base 2 "is_variable" 1 g_is_variable :=
  cal_of T sc_is_variable fun c f cdv A outer s H E hr => ss_cons (s_if (t_w (w_or (t_not (t_tr (d_isi kit_str PyProof.Rows.boot_str rfl B.isinstance_ rfl B.str_ (d_v 0)))) (w_or1 (t_not (t_chain q_le q_le (d_int) (d_len rfl B.len_ (d_v 0)) (d_add (d_glob G_LONGEST_VARIABLE rfl) (d_int))))))) (ss_one (s_ret (d_bl))) (ss_nil))
      (ss_one (s_ret (d_and (d_eq hr.units (d_pkIx 0 (hu_of hr) (d_int)) (d_str)) (d_one (d_call C_is_made_of hr rfl rfl (b_v (d_sl (d_v 0) (o_some (d_int)) (o_none)) (b_v (d_glob G_VARIABLE_CHARACTERS rfl) (b_nil))))))))
theorem ok_is_term (B : Blt mg) (T : Top K mg "is_term" s_is_term ["value"])  (C_is_value : Cal P w K mg base 3 "is_value" 1 g_is_value) (C_is_variable : Cal P w K mg base 3 "is_variable" 1 g_is_variable) : Cal P w K mg base 4 "is_term" 1 g_is_term :=
  cal_of T sc_is_term fun c f cdv A outer s H E hr => ss_one (s_ret (d_or (d_call C_is_value hr rfl rfl (b_v (d_v 0) (b_nil))) (d_one (d_call C_is_variable hr rfl rfl (b_v (d_v 0) (b_nil))))))
theorem ok__law_is_integer (B : Blt mg) (T : Top K mg "_law_is_integer" s__law_is_integer ["actual"])   : Cal P w K mg base 1 "_law_is_integer" 1 g__law_is_integer :=
  cal_of T sc__law_is_integer fun c f cdv A outer s H E hr => ss_one (s_ret (d_and (d_isi kit_int PyProof.Rows.boot_int rfl B.isinstance_ rfl B.int_ (d_v 0)) (d_one (d_not (d_isi kit_bool PyProof.Rows.boot_bool rfl B.isinstance_ rfl B.bool_ (d_v 0))))))
theorem st__law_equal {k : Nat} {self : FD} (B : Blt mg) (T : Top K mg "_law_equal" s__law_equal ["actual", "due"])  (C__law_is_integer : Cal P w K mg base (k + 1) "_law_is_integer" 1 g__law_is_integer) (C__law_equal : Cal P w K mg base (k + 1) "_law_equal" 2 self) : Cal P w K mg base (k + 1 + 1) "_law_equal" 2 (fn 3 (b__law_equal self)) :=
  cal_of T sc__law_equal fun c f cdv A outer s H E hr => ss_cons (s_if (t_isN (d_v 1)) (ss_one (s_ret (d_isN (d_v 0)))) (ss_nil))
      (ss_cons (s_if (t_tr (d_isi kit_bool PyProof.Rows.boot_bool rfl B.isinstance_ rfl B.bool_ (d_v 1))) (ss_one (s_ret (d_and (d_isi kit_bool PyProof.Rows.boot_bool rfl B.isinstance_ rfl B.bool_ (d_v 0)) (d_one (d_eq hr.units (d_v 0) (d_v 1)))))) (ss_nil))
      (ss_cons (s_if (t_tr (d_isi kit_int PyProof.Rows.boot_int rfl B.isinstance_ rfl B.int_ (d_v 1))) (ss_one (s_ret (d_and (d_call C__law_is_integer hr rfl rfl (b_v (d_v 0) (b_nil))) (d_one (d_eq hr.units (d_v 0) (d_v 1)))))) (ss_nil))
      (ss_cons (s_if (t_tr (d_isi kit_str PyProof.Rows.boot_str rfl B.isinstance_ rfl B.str_ (d_v 1))) (ss_one (s_ret (d_and (d_isi kit_str PyProof.Rows.boot_str rfl B.isinstance_ rfl B.str_ (d_v 0)) (d_one (d_eq hr.units (d_v 0) (d_v 1)))))) (ss_nil))
      (ss_cons (s_if (t_w (w_and (t_tr (d_isi kit_tuple PyProof.Rows.boot_tuple rfl B.isinstance_ rfl B.tuple_ (d_v 1))) (w_and1 (t_not (t_tr (d_isi kit_tuple PyProof.Rows.boot_tuple rfl B.isinstance_ rfl B.tuple_ (d_v 0))))))) (ss_one (s_ret (d_bl))) (ss_nil))
      (ss_cons (s_if (t_w (w_and (t_tr (d_isi kit_list PyProof.Rows.boot_list rfl B.isinstance_ rfl B.list_ (d_v 1))) (w_and1 (t_not (t_tr (d_isi kit_list PyProof.Rows.boot_list rfl B.isinstance_ rfl B.list_ (d_v 0))))))) (ss_one (s_ret (d_bl))) (ss_nil))
      (ss_cons (s_if (t_ne hr.units (d_len rfl B.len_ (d_v 0)) (d_len rfl B.len_ (d_v 1))) (ss_one (s_ret (d_bl))) (ss_nil))
      (ss_one (s_ret (d_all rfl rfl B.all_ (d_lc (own := [("at", 2)]) rfl sc__law_equal.nd (i_r1 rfl B.range_ (d_len rfl B.len_ (d_v 1))) (blkOk_by (N := N__law_equal) (sc := (defScope s__law_equal)) (own := [("at", 2)]) (by decide +kernel)) (fun _ _ _ _ _ => (by first | exact pg_name (i := 2) sc__law_equal.nd rfl (Or.inl rfl) | exact pg_name (i := 2) sc__law_equal.nd rfl (Or.inr rfl))) (fun c => evg_v) (by decide) (fun c _ _ _ _ _ _ => f_nil) (fun c _ _ _ _ _ _ => d_call C__law_equal hr rfl rfl (b_v (d_pkIx 0 (hu_of hr) (d_v 2)) (b_v (d_pkIx 1 (hu_of hr) (d_v 2)) (b_nil))))))))))))))
theorem ok__law_equal (B : Blt mg) (T : Top K mg "_law_equal" s__law_equal ["actual", "due"])  (C__law_is_integer : Cal P w K mg base 1 "_law_is_integer" 1 g__law_is_integer) : ∀ k : Nat, Cal P w K mg base (k + 2) "_law_equal" 2 (g__law_equal k)
  | 0 => (cal_bad (k := 0) T sc__law_equal).mono (by omega)
  | k + 1 => (st__law_equal (k := k + 1) B T  (C__law_is_integer.mono (by omega)) ((ok__law_equal B T  C__law_is_integer k).mono (by omega))).mono (by omega)
theorem ok_value_key (B : Blt mg) (T : Top K mg "value_key" s_value_key ["value"])   : Cal P w K mg base 1 "value_key" 1 g_value_key :=
  cal_of T sc_value_key fun c f cdv A outer s H E hr => ss_cons (s_if (t_tr (d_isi kit_str PyProof.Rows.boot_str rfl B.isinstance_ rfl B.str_ (d_v 0))) (ss_one (s_ret (d_tup (a_cons (d_int) (a_cons (d_v 0) (a_nil)))))) (ss_nil))
      (ss_one (s_ret (d_tup (a_cons (d_int) (a_cons (d_v 0) (a_nil))))))
theorem ok__law_comes_first (B : Blt mg) (T : Top K mg "_law_comes_first" s__law_comes_first ["one", "other"])   : Cal P w K mg base 1 "_law_comes_first" 2 g__law_comes_first :=
  cal_of T sc__law_comes_first fun c f cdv A outer s H E hr => ss_cons (s_if (t_w (w_or (t_tr (d_isi kit_str PyProof.Rows.boot_str rfl B.isinstance_ rfl B.str_ (d_v 0))) (w_or1 (t_tr (d_isi kit_str PyProof.Rows.boot_str rfl B.isinstance_ rfl B.str_ (d_v 1)))))) (ss_one (s_ret (d_and (d_isi kit_str PyProof.Rows.boot_str rfl B.isinstance_ rfl B.str_ (d_v 1)) (d_one (d_or (d_not (d_isi kit_str PyProof.Rows.boot_str rfl B.isinstance_ rfl B.str_ (d_v 0))) (d_one (d_lt (d_v 0) (d_v 1)))))))) (ss_nil))
      (ss_one (s_ret (d_lt (d_v 0) (d_v 1))))
theorem fn_law {f : Addr} {fd : FuncData} (F : Fun K "law" "law" s_law f fd) (B : Blt mg)  (C__law_stream : Cal P w K mg base 5 "_law_stream" 1 g__law_stream) (C__law_word : Cal P w K mg base 5 "_law_word" 1 g__law_word) (C__law_is_symbol : Cal P w K mg base 5 "_law_is_symbol" 1 g__law_is_symbol) (C__law_is_variable : Cal P w K mg base 5 "_law_is_variable" 1 g__law_is_variable) (C_is_term : Cal P w K mg base 5 "is_term" 1 g_is_term) (C_is_variable : Cal P w K mg base 5 "is_variable" 1 g_is_variable) (C_is_value : Cal P w K mg base 5 "is_value" 1 g_is_value) (C_is_symbol : Cal P w K mg base 5 "is_symbol" 1 g_is_symbol) (C__law_equal : Cal P w K mg base 5 "_law_equal" 2 (g__law_equal 3)) (C__law_next : Cal P w K mg base 5 "_law_next" 2 g__law_next) (C_value_key : Cal P w K mg base 5 "value_key" 1 g_value_key) (C__law_comes_first : Cal P w K mg base 5 "_law_comes_first" 2 g__law_comes_first) : FnOk P w K mg base CX0 6 f fd ["script"] (spF K mg 1 g_law) :=
  fun_den F sc_law fun c cdv A outer s H E hr => ss_cons (s_set 1 sc_law.nd (d_call C__law_stream hr rfl rfl (b_v (d_v 0) (b_nil))))
      (ss_cons (s_set 2 sc_law.nd (d_call C__law_word hr rfl rfl (b_b 1 (b_nil))))
      (ss_cons (s_set 3 sc_law.nd (d_call C__law_is_symbol hr rfl rfl (b_v (d_v 2) (b_nil))))
      (ss_cons (s_set 4 sc_law.nd (d_call C__law_is_variable hr rfl rfl (b_v (d_v 2) (b_nil))))
      (ss_cons (s_set 5 sc_law.nd (d_lst (a_cons (d_call C_is_symbol hr rfl rfl (b_v (d_v 2) (b_nil))) (a_cons (d_call C_is_value hr rfl rfl (b_v (d_v 2) (b_nil))) (a_cons (d_call C_is_variable hr rfl rfl (b_v (d_v 2) (b_nil))) (a_cons (d_call C_is_term hr rfl rfl (b_v (d_v 2) (b_nil))) (a_nil)))))))
      (ss_cons (s_if (t_not (t_tr (d_call C__law_equal hr rfl rfl (b_v (d_v 5) (b_v (d_lst (a_cons (d_v 3) (a_cons (d_v 3) (a_cons (d_v 4) (a_cons (d_or (d_v 3) (d_one (d_v 4))) (a_nil)))))) (b_nil)))))) (ss_one (s_ret (d_bl))) (ss_nil))
      (ss_cons (s_set 6 sc_law.nd (d_ix (hu_of hr) (d_lst (a_cons (d_int) (a_cons (d_int) (a_cons (d_neg (d_int)) (a_cons (d_int) (a_cons (d_int) (a_cons (d_int) (a_cons (d_neg (d_int)) (a_cons (d_neg (d_int)) (a_cons (d_pow (d_int) (d_int)) (a_cons (d_sub (d_call C__law_next hr rfl rfl (b_b 1 (b_v (d_int) (b_nil)))) (d_int)) (a_nil)))))))))))) (d_call C__law_next hr rfl rfl (b_b 1 (b_v (d_int) (b_nil))))))
      (ss_cons (s_set 7 sc_law.nd (d_le (d_abs rfl B.abs_ (d_v 6)) (d_int)))
      (ss_cons (s_if (t_not (t_tr (d_call C__law_equal hr rfl rfl (b_v (d_lst (a_cons (d_call C_is_symbol hr rfl rfl (b_v (d_v 6) (b_nil))) (a_cons (d_call C_is_value hr rfl rfl (b_v (d_v 6) (b_nil))) (a_cons (d_call C_is_variable hr rfl rfl (b_v (d_v 6) (b_nil))) (a_cons (d_call C_is_term hr rfl rfl (b_v (d_v 6) (b_nil))) (a_nil)))))) (b_v (d_lst (a_cons (d_bl) (a_cons (d_v 7) (a_cons (d_bl) (a_cons (d_v 7) (a_nil)))))) (b_nil)))))) (ss_one (s_ret (d_bl))) (ss_nil))
      (ss_cons (s_for PassesOwn.never rfl (i_seq (d_lst (a_cons (d_bl) (a_cons (d_bl) (a_cons (d_non) (a_cons (d_tup (a_cons (d_str) (a_nil))) (a_cons (d_lst (a_cons (d_str) (a_nil))) (a_cons (d_tup (a_nil)) (a_cons (d_eq hr.units (d_int) (d_int)) (a_nil)))))))))) ((by first | exact pg_name (i := 8) sc_law.nd rfl (Or.inl rfl) | exact pg_name (i := 8) sc_law.nd rfl (Or.inr rfl))) (evg_v) (ss_one (s_if (t_not (t_tr (d_call C__law_equal hr rfl rfl (b_v (d_lst (a_cons (d_call C_is_symbol hr rfl rfl (b_v (d_v 8) (b_nil))) (a_cons (d_call C_is_value hr rfl rfl (b_v (d_v 8) (b_nil))) (a_cons (d_call C_is_variable hr rfl rfl (b_v (d_v 8) (b_nil))) (a_cons (d_call C_is_term hr rfl rfl (b_v (d_v 8) (b_nil))) (a_nil)))))) (b_v (d_mul (d_lst (a_cons (d_bl) (a_nil))) (d_int)) (b_nil)))))) (ss_one (s_ret (d_bl))) (ss_nil))))
      (ss_cons (s_set 9 sc_law.nd (d_lst (a_cons (d_ix (hu_of hr) (d_lst (a_cons (d_str) (a_cons (d_str) (a_cons (d_str) (a_cons (d_str) (a_cons (d_str) (a_cons (d_str) (a_nil)))))))) (d_call C__law_next hr rfl rfl (b_b 1 (b_v (d_int) (b_nil))))) (a_cons (d_sub (d_call C__law_next hr rfl rfl (b_b 1 (b_v (d_int) (b_nil)))) (d_int)) (a_cons (d_sub (d_call C__law_next hr rfl rfl (b_b 1 (b_v (d_int) (b_nil)))) (d_int)) (a_cons (d_str) (a_nil)))))))
      (ss_cons (s_if (t_not (t_tr (d_all rfl rfl B.all_ (d_lc (own := [("one", 10)]) rfl sc_law.nd (i_seq (d_v 9)) (blkOk_by (N := N_law) (sc := (defScope s_law)) (own := [("one", 10)]) (by decide +kernel)) (fun _ _ _ _ _ => (by first | exact pg_name (i := 10) sc_law.nd rfl (Or.inl rfl) | exact pg_name (i := 10) sc_law.nd rfl (Or.inr rfl))) (fun c => evg_v) (by decide) (fun c _ _ _ _ _ _ => f_nil) (fun c _ _ _ _ _ _ => d_isi kit_tuple PyProof.Rows.boot_tuple rfl B.isinstance_ rfl B.tuple_ (d_call C_value_key hr rfl rfl (b_v (d_v 10) (b_nil)))))))) (ss_one (s_ret (d_bl))) (ss_nil))
      (ss_cons (s_for PassesOwn.never rfl (i_seq (d_v 9)) ((by first | exact pg_name (i := 10) sc_law.nd rfl (Or.inl rfl) | exact pg_name (i := 10) sc_law.nd rfl (Or.inr rfl))) (evg_v) (ss_one (s_for PassesOwn.never rfl (i_seq (d_v 9)) ((by first | exact pg_name (i := 11) sc_law.nd rfl (Or.inl rfl) | exact pg_name (i := 11) sc_law.nd rfl (Or.inr rfl))) (evg_v) (ss_one (s_if (t_ne hr.units (d_ltP (hu_of hr) (d_call C_value_key hr rfl rfl (b_v (d_v 10) (b_nil))) (d_call C_value_key hr rfl rfl (b_v (d_v 11) (b_nil)))) (d_call C__law_comes_first hr rfl rfl (b_v (d_v 10) (b_v (d_v 11) (b_nil))))) (ss_one (s_ret (d_bl))) (ss_nil))))))
      (ss_one (s_ret (d_bl)))))))))))))))
end
end Dn.k01_values_and_variables
set_option Elab.async false
set_option linter.all false
set_option maxRecDepth 100000
set_option maxHeartbeats 4000000
namespace Dn.k01_values_and_variables
open PySem L2 Dn PyProof.Rows
theorem all_mk {l : PySem.W.OpenLaw} {w : World} {K : PySem.W.Frag} {h : Heap} {mg : Str → Option Value} {fa : Addr} (X : K.In h) (G : h.Ns mainGlobals mg) (hfa : mg "law" = some (.ref fa))
    {f0 : Addr} {od0 an0 : Option Addr} {sl0 : Array (Option Value)} {oc0 kV0 dc0 pm0 cd0 ct0 : Value}
    (a0 : PySem.W.nsIn K mainGlobals "_law_stream" = some (some (.ref f0))) (l0 : K.lookup f0 = some ⟨oc0, od0, .func (PySem.W.fnOf "_law_stream" "_law_stream" (defArgs s__law_stream) (defBody s__law_stream) (defScope s__law_stream) .none kV0 dc0 pm0 an0 cd0 ct0), sl0⟩) (c0 : PySem.W.codeIn K cd0 "_law_stream" = true) (k0 : PySem.W.keepIn K (.ref f0) = true)
    {f1 : Addr} {od1 an1 : Option Addr} {sl1 : Array (Option Value)} {oc1 kV1 dc1 pm1 cd1 ct1 : Value}
    (a1 : PySem.W.nsIn K mainGlobals "_law_next" = some (some (.ref f1))) (l1 : K.lookup f1 = some ⟨oc1, od1, .func (PySem.W.fnOf "_law_next" "_law_next" (defArgs s__law_next) (defBody s__law_next) (defScope s__law_next) .none kV1 dc1 pm1 an1 cd1 ct1), sl1⟩) (c1 : PySem.W.codeIn K cd1 "_law_next" = true) (k1 : PySem.W.keepIn K (.ref f1) = true)
    {f2 : Addr} {od2 an2 : Option Addr} {sl2 : Array (Option Value)} {oc2 kV2 dc2 pm2 cd2 ct2 : Value}
    (a2 : PySem.W.nsIn K mainGlobals "_law_word" = some (some (.ref f2))) (l2 : K.lookup f2 = some ⟨oc2, od2, .func (PySem.W.fnOf "_law_word" "_law_word" (defArgs s__law_word) (defBody s__law_word) (defScope s__law_word) .none kV2 dc2 pm2 an2 cd2 ct2), sl2⟩) (c2 : PySem.W.codeIn K cd2 "_law_word" = true) (k2 : PySem.W.keepIn K (.ref f2) = true)
    {f3 : Addr} {od3 an3 : Option Addr} {sl3 : Array (Option Value)} {oc3 kV3 dc3 pm3 cd3 ct3 : Value}
    (a3 : PySem.W.nsIn K mainGlobals "_law_is_symbol" = some (some (.ref f3))) (l3 : K.lookup f3 = some ⟨oc3, od3, .func (PySem.W.fnOf "_law_is_symbol" "_law_is_symbol" (defArgs s__law_is_symbol) (defBody s__law_is_symbol) (defScope s__law_is_symbol) .none kV3 dc3 pm3 an3 cd3 ct3), sl3⟩) (c3 : PySem.W.codeIn K cd3 "_law_is_symbol" = true) (k3 : PySem.W.keepIn K (.ref f3) = true)
    {f4 : Addr} {od4 an4 : Option Addr} {sl4 : Array (Option Value)} {oc4 kV4 dc4 pm4 cd4 ct4 : Value}
    (a4 : PySem.W.nsIn K mainGlobals "_law_is_variable" = some (some (.ref f4))) (l4 : K.lookup f4 = some ⟨oc4, od4, .func (PySem.W.fnOf "_law_is_variable" "_law_is_variable" (defArgs s__law_is_variable) (defBody s__law_is_variable) (defScope s__law_is_variable) .none kV4 dc4 pm4 an4 cd4 ct4), sl4⟩) (c4 : PySem.W.codeIn K cd4 "_law_is_variable" = true) (k4 : PySem.W.keepIn K (.ref f4) = true)
    {f5 : Addr} {od5 an5 : Option Addr} {sl5 : Array (Option Value)} {oc5 kV5 dc5 pm5 cd5 ct5 : Value}
    (a5 : PySem.W.nsIn K mainGlobals "is_integer" = some (some (.ref f5))) (l5 : K.lookup f5 = some ⟨oc5, od5, .func (PySem.W.fnOf "is_integer" "is_integer" (defArgs s_is_integer) (defBody s_is_integer) (defScope s_is_integer) .none kV5 dc5 pm5 an5 cd5 ct5), sl5⟩) (c5 : PySem.W.codeIn K cd5 "is_integer" = true) (k5 : PySem.W.keepIn K (.ref f5) = true)
    {f6 : Addr} {od6 an6 : Option Addr} {sl6 : Array (Option Value)} {oc6 kV6 dc6 pm6 cd6 ct6 : Value}
    (a6 : PySem.W.nsIn K mainGlobals "is_in_range" = some (some (.ref f6))) (l6 : K.lookup f6 = some ⟨oc6, od6, .func (PySem.W.fnOf "is_in_range" "is_in_range" (defArgs s_is_in_range) (defBody s_is_in_range) (defScope s_is_in_range) .none kV6 dc6 pm6 an6 cd6 ct6), sl6⟩) (c6 : PySem.W.codeIn K cd6 "is_in_range" = true) (k6 : PySem.W.keepIn K (.ref f6) = true)
    {f7 : Addr} {od7 an7 : Option Addr} {sl7 : Array (Option Value)} {oc7 kV7 dc7 pm7 cd7 ct7 : Value}
    (a7 : PySem.W.nsIn K mainGlobals "is_made_of" = some (some (.ref f7))) (l7 : K.lookup f7 = some ⟨oc7, od7, .func (PySem.W.fnOf "is_made_of" "is_made_of" (defArgs s_is_made_of) (defBody s_is_made_of) (defScope s_is_made_of) .none kV7 dc7 pm7 an7 cd7 ct7), sl7⟩) (c7 : PySem.W.codeIn K cd7 "is_made_of" = true) (k7 : PySem.W.keepIn K (.ref f7) = true)
    {f8 : Addr} {od8 an8 : Option Addr} {sl8 : Array (Option Value)} {oc8 kV8 dc8 pm8 cd8 ct8 : Value}
    (a8 : PySem.W.nsIn K mainGlobals "is_symbol" = some (some (.ref f8))) (l8 : K.lookup f8 = some ⟨oc8, od8, .func (PySem.W.fnOf "is_symbol" "is_symbol" (defArgs s_is_symbol) (defBody s_is_symbol) (defScope s_is_symbol) .none kV8 dc8 pm8 an8 cd8 ct8), sl8⟩) (c8 : PySem.W.codeIn K cd8 "is_symbol" = true) (k8 : PySem.W.keepIn K (.ref f8) = true)
    {f9 : Addr} {od9 an9 : Option Addr} {sl9 : Array (Option Value)} {oc9 kV9 dc9 pm9 cd9 ct9 : Value}
    (a9 : PySem.W.nsIn K mainGlobals "is_value" = some (some (.ref f9))) (l9 : K.lookup f9 = some ⟨oc9, od9, .func (PySem.W.fnOf "is_value" "is_value" (defArgs s_is_value) (defBody s_is_value) (defScope s_is_value) .none kV9 dc9 pm9 an9 cd9 ct9), sl9⟩) (c9 : PySem.W.codeIn K cd9 "is_value" = true) (k9 : PySem.W.keepIn K (.ref f9) = true)
    {f10 : Addr} {od10 an10 : Option Addr} {sl10 : Array (Option Value)} {oc10 kV10 dc10 pm10 cd10 ct10 : Value}
    (a10 : PySem.W.nsIn K mainGlobals "is_variable" = some (some (.ref f10))) (l10 : K.lookup f10 = some ⟨oc10, od10, .func (PySem.W.fnOf "is_variable" "is_variable" (defArgs s_is_variable) (defBody s_is_variable) (defScope s_is_variable) .none kV10 dc10 pm10 an10 cd10 ct10), sl10⟩) (c10 : PySem.W.codeIn K cd10 "is_variable" = true) (k10 : PySem.W.keepIn K (.ref f10) = true)
    {f11 : Addr} {od11 an11 : Option Addr} {sl11 : Array (Option Value)} {oc11 kV11 dc11 pm11 cd11 ct11 : Value}
    (a11 : PySem.W.nsIn K mainGlobals "is_term" = some (some (.ref f11))) (l11 : K.lookup f11 = some ⟨oc11, od11, .func (PySem.W.fnOf "is_term" "is_term" (defArgs s_is_term) (defBody s_is_term) (defScope s_is_term) .none kV11 dc11 pm11 an11 cd11 ct11), sl11⟩) (c11 : PySem.W.codeIn K cd11 "is_term" = true) (k11 : PySem.W.keepIn K (.ref f11) = true)
    {f12 : Addr} {od12 an12 : Option Addr} {sl12 : Array (Option Value)} {oc12 kV12 dc12 pm12 cd12 ct12 : Value}
    (a12 : PySem.W.nsIn K mainGlobals "_law_is_integer" = some (some (.ref f12))) (l12 : K.lookup f12 = some ⟨oc12, od12, .func (PySem.W.fnOf "_law_is_integer" "_law_is_integer" (defArgs s__law_is_integer) (defBody s__law_is_integer) (defScope s__law_is_integer) .none kV12 dc12 pm12 an12 cd12 ct12), sl12⟩) (c12 : PySem.W.codeIn K cd12 "_law_is_integer" = true) (k12 : PySem.W.keepIn K (.ref f12) = true)
    {f13 : Addr} {od13 an13 : Option Addr} {sl13 : Array (Option Value)} {oc13 kV13 dc13 pm13 cd13 ct13 : Value}
    (a13 : PySem.W.nsIn K mainGlobals "_law_equal" = some (some (.ref f13))) (l13 : K.lookup f13 = some ⟨oc13, od13, .func (PySem.W.fnOf "_law_equal" "_law_equal" (defArgs s__law_equal) (defBody s__law_equal) (defScope s__law_equal) .none kV13 dc13 pm13 an13 cd13 ct13), sl13⟩) (c13 : PySem.W.codeIn K cd13 "_law_equal" = true) (k13 : PySem.W.keepIn K (.ref f13) = true)
    {f14 : Addr} {od14 an14 : Option Addr} {sl14 : Array (Option Value)} {oc14 kV14 dc14 pm14 cd14 ct14 : Value}
    (a14 : PySem.W.nsIn K mainGlobals "value_key" = some (some (.ref f14))) (l14 : K.lookup f14 = some ⟨oc14, od14, .func (PySem.W.fnOf "value_key" "value_key" (defArgs s_value_key) (defBody s_value_key) (defScope s_value_key) .none kV14 dc14 pm14 an14 cd14 ct14), sl14⟩) (c14 : PySem.W.codeIn K cd14 "value_key" = true) (k14 : PySem.W.keepIn K (.ref f14) = true)
    {f15 : Addr} {od15 an15 : Option Addr} {sl15 : Array (Option Value)} {oc15 kV15 dc15 pm15 cd15 ct15 : Value}
    (a15 : PySem.W.nsIn K mainGlobals "_law_comes_first" = some (some (.ref f15))) (l15 : K.lookup f15 = some ⟨oc15, od15, .func (PySem.W.fnOf "_law_comes_first" "_law_comes_first" (defArgs s__law_comes_first) (defBody s__law_comes_first) (defScope s__law_comes_first) .none kV15 dc15 pm15 an15 cd15 ct15), sl15⟩) (c15 : PySem.W.codeIn K cd15 "_law_comes_first" = true) (k15 : PySem.W.keepIn K (.ref f15) = true)
    {f16 : Addr} {od16 an16 : Option Addr} {sl16 : Array (Option Value)} {oc16 kV16 dc16 pm16 cd16 ct16 : Value}
    (a16 : PySem.W.nsIn K mainGlobals "law" = some (some (.ref f16))) (l16 : K.lookup f16 = some ⟨oc16, od16, .func (PySem.W.fnOf "law" "law" (defArgs s_law) (defBody s_law) (defScope s_law) .none kV16 dc16 pm16 an16 cd16 ct16), sl16⟩) (c16 : PySem.W.codeIn K cd16 "law" = true) (k16 : PySem.W.keepIn K (.ref f16) = true)
    (z0 : PySem.W.nsIn K mainGlobals "abs" = some none)
    (z1 : PySem.W.nsIn K mainGlobals "all" = some none)
    (z2 : PySem.W.nsIn K mainGlobals "bool" = some none)
    (z3 : PySem.W.nsIn K mainGlobals "int" = some none)
    (z4 : PySem.W.nsIn K mainGlobals "isinstance" = some none)
    (z5 : PySem.W.nsIn K mainGlobals "len" = some none)
    (z6 : PySem.W.nsIn K mainGlobals "list" = some none)
    (z7 : PySem.W.nsIn K mainGlobals "range" = some none)
    (z8 : PySem.W.nsIn K mainGlobals "str" = some none)
    (z9 : PySem.W.nsIn K mainGlobals "tuple" = some none)
    {tg0 : Tok} (gv0 : PySem.W.nsIn K mainGlobals "GREATEST_INTEGER" = some (some (.int 1000 tg0)))
    {tg1 : Tok} (gv1 : PySem.W.nsIn K mainGlobals "LETTERS" = some (some (.str "abcdefghijklmnopqrstuvwxyz" tg1)))
    {tg2 : Tok} (gv2 : PySem.W.nsIn K mainGlobals "LONGEST_SYMBOL" = some (some (.int 12 tg2)))
    {tg3 : Tok} (gv3 : PySem.W.nsIn K mainGlobals "LONGEST_VARIABLE" = some (some (.int 8 tg3)))
    {ga4 : Addr} {gd4 : Option Addr} {gs4 : Array (Option Value)} {gn4 : Nat} {tg4_0 tg4_1 tg4_2 tg4_3 tg4_4 tg4_5 tg4_6 tg4_7 tg4_8 tg4_9 tg4_10 tg4_11 : Tok} (gv4 : PySem.W.nsIn K mainGlobals "RESERVED" = some (some (.ref ga4))) (gw4 : K.lookup ga4 = some ⟨.type "tuple", gd4, .seq #[.str "kind" tg4_0, .str "relation" tg4_1, .str "fact" tg4_2, .str "rule" tg4_3, .str "if" tg4_4, .str "not" tg4_5, .str "same" tg4_6, .str "differ" tg4_7, .str "count" tg4_8, .str "sum" tg4_9, .str "least" tg4_10, .str "greatest" tg4_11] gn4, gs4⟩)
    {tg5 : Tok} (gv5 : PySem.W.nsIn K mainGlobals "SYMBOL_CHARACTERS" = some (some (.str "abcdefghijklmnopqrstuvwxyz0123456789_" tg5)))
    {tg6 : Tok} (gv6 : PySem.W.nsIn K mainGlobals "VARIABLE_CHARACTERS" = some (some (.str "abcdefghijklmnopqrstuvwxyz0123456789" tg6))) :
    ∃ fd : FuncData, (∀ (s : Shared) (v : Value), BindsTo s fd ⟨[v], []⟩ [("script", v)]) ∧ ∀ base : Heap, K.In base → base.Ns mainGlobals mg → FnOk l.prog w K mg base CX0 6 fa fd ["script"] (spLaw K) := by
  have e := hfa.symm.trans (PySem.W.mg_of X G a16)
  cases e
  have B : Blt mg := ⟨PySem.W.mg_none_of X G z0, PySem.W.mg_none_of X G z1, PySem.W.mg_none_of X G z2, PySem.W.mg_none_of X G z3, PySem.W.mg_none_of X G z4, PySem.W.mg_none_of X G z5, PySem.W.mg_none_of X G z6, PySem.W.mg_none_of X G z7, PySem.W.mg_none_of X G z8, PySem.W.mg_none_of X G z9⟩
  have F0 := fun_mk (st := s__law_stream) l0 c0 k0
  have T0 : Top K mg "_law_stream" s__law_stream ["script"] := ⟨⟨_, _, F0, PySem.W.mg_of X G a0, F0.binds (ps := ["script"]) fun _ _ _ _ _ _ us hl => match us, hl with | [_], _ => rfl⟩⟩
  have F1 := fun_mk (st := s__law_next) l1 c1 k1
  have T1 : Top K mg "_law_next" s__law_next ["stream", "many"] := ⟨⟨_, _, F1, PySem.W.mg_of X G a1, F1.binds (ps := ["stream", "many"]) fun _ _ _ _ _ _ us hl => match us, hl with | [_, _], _ => rfl⟩⟩
  have F2 := fun_mk (st := s__law_word) l2 c2 k2
  have T2 : Top K mg "_law_word" s__law_word ["stream"] := ⟨⟨_, _, F2, PySem.W.mg_of X G a2, F2.binds (ps := ["stream"]) fun _ _ _ _ _ _ us hl => match us, hl with | [_], _ => rfl⟩⟩
  have F3 := fun_mk (st := s__law_is_symbol) l3 c3 k3
  have T3 : Top K mg "_law_is_symbol" s__law_is_symbol ["word"] := ⟨⟨_, _, F3, PySem.W.mg_of X G a3, F3.binds (ps := ["word"]) fun _ _ _ _ _ _ us hl => match us, hl with | [_], _ => rfl⟩⟩
  have F4 := fun_mk (st := s__law_is_variable) l4 c4 k4
  have T4 : Top K mg "_law_is_variable" s__law_is_variable ["word"] := ⟨⟨_, _, F4, PySem.W.mg_of X G a4, F4.binds (ps := ["word"]) fun _ _ _ _ _ _ us hl => match us, hl with | [_], _ => rfl⟩⟩
  have F5 := fun_mk (st := s_is_integer) l5 c5 k5
  have T5 : Top K mg "is_integer" s_is_integer ["value"] := ⟨⟨_, _, F5, PySem.W.mg_of X G a5, F5.binds (ps := ["value"]) fun _ _ _ _ _ _ us hl => match us, hl with | [_], _ => rfl⟩⟩
  have F6 := fun_mk (st := s_is_in_range) l6 c6 k6
  have T6 : Top K mg "is_in_range" s_is_in_range ["number"] := ⟨⟨_, _, F6, PySem.W.mg_of X G a6, F6.binds (ps := ["number"]) fun _ _ _ _ _ _ us hl => match us, hl with | [_], _ => rfl⟩⟩
  have F7 := fun_mk (st := s_is_made_of) l7 c7 k7
  have T7 : Top K mg "is_made_of" s_is_made_of ["text", "characters"] := ⟨⟨_, _, F7, PySem.W.mg_of X G a7, F7.binds (ps := ["text", "characters"]) fun _ _ _ _ _ _ us hl => match us, hl with | [_, _], _ => rfl⟩⟩
  have F8 := fun_mk (st := s_is_symbol) l8 c8 k8
  have T8 : Top K mg "is_symbol" s_is_symbol ["value"] := ⟨⟨_, _, F8, PySem.W.mg_of X G a8, F8.binds (ps := ["value"]) fun _ _ _ _ _ _ us hl => match us, hl with | [_], _ => rfl⟩⟩
  have F9 := fun_mk (st := s_is_value) l9 c9 k9
  have T9 : Top K mg "is_value" s_is_value ["value"] := ⟨⟨_, _, F9, PySem.W.mg_of X G a9, F9.binds (ps := ["value"]) fun _ _ _ _ _ _ us hl => match us, hl with | [_], _ => rfl⟩⟩
  have F10 := fun_mk (st := s_is_variable) l10 c10 k10
  have T10 : Top K mg "is_variable" s_is_variable ["value"] := ⟨⟨_, _, F10, PySem.W.mg_of X G a10, F10.binds (ps := ["value"]) fun _ _ _ _ _ _ us hl => match us, hl with | [_], _ => rfl⟩⟩
  have F11 := fun_mk (st := s_is_term) l11 c11 k11
  have T11 : Top K mg "is_term" s_is_term ["value"] := ⟨⟨_, _, F11, PySem.W.mg_of X G a11, F11.binds (ps := ["value"]) fun _ _ _ _ _ _ us hl => match us, hl with | [_], _ => rfl⟩⟩
  have F12 := fun_mk (st := s__law_is_integer) l12 c12 k12
  have T12 : Top K mg "_law_is_integer" s__law_is_integer ["actual"] := ⟨⟨_, _, F12, PySem.W.mg_of X G a12, F12.binds (ps := ["actual"]) fun _ _ _ _ _ _ us hl => match us, hl with | [_], _ => rfl⟩⟩
  have F13 := fun_mk (st := s__law_equal) l13 c13 k13
  have T13 : Top K mg "_law_equal" s__law_equal ["actual", "due"] := ⟨⟨_, _, F13, PySem.W.mg_of X G a13, F13.binds (ps := ["actual", "due"]) fun _ _ _ _ _ _ us hl => match us, hl with | [_, _], _ => rfl⟩⟩
  have F14 := fun_mk (st := s_value_key) l14 c14 k14
  have T14 : Top K mg "value_key" s_value_key ["value"] := ⟨⟨_, _, F14, PySem.W.mg_of X G a14, F14.binds (ps := ["value"]) fun _ _ _ _ _ _ us hl => match us, hl with | [_], _ => rfl⟩⟩
  have F15 := fun_mk (st := s__law_comes_first) l15 c15 k15
  have T15 : Top K mg "_law_comes_first" s__law_comes_first ["one", "other"] := ⟨⟨_, _, F15, PySem.W.mg_of X G a15, F15.binds (ps := ["one", "other"]) fun _ _ _ _ _ _ us hl => match us, hl with | [_, _], _ => rfl⟩⟩
  have F16 := fun_mk (st := s_law) l16 c16 k16
  have G_GREATEST_INTEGER : Gv K mg "GREATEST_INTEGER" v_GREATEST_INTEGER := ⟨⟨V.int (1000), _, PySem.W.mg_of X G gv0, ⟨_, rfl⟩, fun H => .int _⟩⟩
  have G_LETTERS : Gv K mg "LETTERS" v_LETTERS := ⟨⟨V.str "abcdefghijklmnopqrstuvwxyz", _, PySem.W.mg_of X G gv1, ⟨_, rfl⟩, fun H => .str _⟩⟩
  have G_LONGEST_SYMBOL : Gv K mg "LONGEST_SYMBOL" v_LONGEST_SYMBOL := ⟨⟨V.int (12), _, PySem.W.mg_of X G gv2, ⟨_, rfl⟩, fun H => .int _⟩⟩
  have G_LONGEST_VARIABLE : Gv K mg "LONGEST_VARIABLE" v_LONGEST_VARIABLE := ⟨⟨V.int (8), _, PySem.W.mg_of X G gv3, ⟨_, rfl⟩, fun H => .int _⟩⟩
  have G_RESERVED : Gv K mg "RESERVED" v_RESERVED := ⟨⟨.ref ga4, _, PySem.W.mg_of X G gv4, rfl, fun H => .tup (.inr ⟨_, _, _, gw4, rfl, rfl, by simp only [List.size_toArray, List.length_cons, List.length_nil]; decide, (show Vals [V.str "kind", V.str "relation", V.str "fact", V.str "rule", V.str "if", V.str "not", V.str "same", V.str "differ", V.str "count", V.str "sum", V.str "least", V.str "greatest"] _ from .cons ⟨_, rfl⟩ (.cons ⟨_, rfl⟩ (.cons ⟨_, rfl⟩ (.cons ⟨_, rfl⟩ (.cons ⟨_, rfl⟩ (.cons ⟨_, rfl⟩ (.cons ⟨_, rfl⟩ (.cons ⟨_, rfl⟩ (.cons ⟨_, rfl⟩ (.cons ⟨_, rfl⟩ (.cons ⟨_, rfl⟩ (.cons ⟨_, rfl⟩ (.nil)))))))))))))⟩) (.cons (.str _) (.cons (.str _) (.cons (.str _) (.cons (.str _) (.cons (.str _) (.cons (.str _) (.cons (.str _) (.cons (.str _) (.cons (.str _) (.cons (.str _) (.cons (.str _) (.cons (.str _) (.nil)))))))))))))⟩⟩
  have G_SYMBOL_CHARACTERS : Gv K mg "SYMBOL_CHARACTERS" v_SYMBOL_CHARACTERS := ⟨⟨V.str "abcdefghijklmnopqrstuvwxyz0123456789_", _, PySem.W.mg_of X G gv5, ⟨_, rfl⟩, fun H => .str _⟩⟩
  have G_VARIABLE_CHARACTERS : Gv K mg "VARIABLE_CHARACTERS" v_VARIABLE_CHARACTERS := ⟨⟨V.str "abcdefghijklmnopqrstuvwxyz0123456789", _, PySem.W.mg_of X G gv6, ⟨_, rfl⟩, fun H => .str _⟩⟩
  refine ⟨PySem.W.fnOf "law" "law" (defArgs s_law) (defBody s_law) (defScope s_law) .none kV16 dc16 pm16 an16 cd16 ct16, fun s v => .of_eq rfl, fun base _ _ => ?_⟩
  have C__law_stream : Cal l.prog w K mg base 1 "_law_stream" 1 g__law_stream := ok__law_stream B T0  
  have C__law_next : Cal l.prog w K mg base 1 "_law_next" 2 g__law_next := ok__law_next B T1  
  have C__law_word : Cal l.prog w K mg base 2 "_law_word" 1 g__law_word := ok__law_word B T2  (C__law_next.mono (by decide))
  have C__law_is_symbol : Cal l.prog w K mg base 1 "_law_is_symbol" 1 g__law_is_symbol := ok__law_is_symbol B T3  
  have C__law_is_variable : Cal l.prog w K mg base 1 "_law_is_variable" 1 g__law_is_variable := ok__law_is_variable B T4  
  have C_is_integer : Cal l.prog w K mg base 1 "is_integer" 1 g_is_integer := ok_is_integer B T5  
  have C_is_in_range : Cal l.prog w K mg base 1 "is_in_range" 1 g_is_in_range := ok_is_in_range B T6 G_GREATEST_INTEGER 
  have C_is_made_of : Cal l.prog w K mg base 1 "is_made_of" 2 g_is_made_of := ok_is_made_of B T7  
  have C_is_symbol : Cal l.prog w K mg base 2 "is_symbol" 1 g_is_symbol := ok_is_symbol B T8 G_LETTERS G_LONGEST_SYMBOL G_RESERVED G_SYMBOL_CHARACTERS (C_is_made_of.mono (by decide))
  have C_is_value : Cal l.prog w K mg base 3 "is_value" 1 g_is_value := ok_is_value B T9  (C_is_integer.mono (by decide)) (C_is_in_range.mono (by decide)) (C_is_symbol.mono (by decide))
  have C_is_variable : Cal l.prog w K mg base 2 "is_variable" 1 g_is_variable := ok_is_variable B T10 G_LONGEST_VARIABLE G_VARIABLE_CHARACTERS (C_is_made_of.mono (by decide))
  have C_is_term : Cal l.prog w K mg base 4 "is_term" 1 g_is_term := ok_is_term B T11  (C_is_value.mono (by decide)) (C_is_variable.mono (by decide))
  have C__law_is_integer : Cal l.prog w K mg base 1 "_law_is_integer" 1 g__law_is_integer := ok__law_is_integer B T12  
  have C__law_equal : Cal l.prog w K mg base 5 "_law_equal" 2 (g__law_equal 3) := ok__law_equal B T13  (C__law_is_integer.mono (by decide)) 3
  have C_value_key : Cal l.prog w K mg base 1 "value_key" 1 g_value_key := ok_value_key B T14  
  have C__law_comes_first : Cal l.prog w K mg base 1 "_law_comes_first" 2 g__law_comes_first := ok__law_comes_first B T15  
  exact (fn_law F16 B  (C__law_stream.mono (by decide)) (C__law_word.mono (by decide)) (C__law_is_symbol.mono (by decide)) (C__law_is_variable.mono (by decide)) (C_is_term.mono (by decide)) (C_is_variable.mono (by decide)) (C_is_value.mono (by decide)) (C_is_symbol.mono (by decide)) (C__law_equal.mono (by decide)) (C__law_next.mono (by decide)) (C_value_key.mono (by decide)) (C__law_comes_first.mono (by decide))).imp (law_imp law_true)
end Dn.k01_values_and_variables
open PySem PySem.W PyProof.Rows
set_option maxHeartbeats 0 in
theorem PySem.Challenge.cw_rulestand_k01_values_and_variables_holds : PySem.Challenge.rw_rulestand_k01_values_and_variables.Holds := by
  w_on; o_law; k_head; (case hw => w_witness2)
  k_fill
  refine L2.walk_of (l := PySem.Challenge.rw_rulestand_k01_values_and_variables) (n := 63) (k := 6) (x := "script") (CX := fun _ => L2.CX0) (sp := fun w => Dn.spLaw _) rfl (by decide) rfl ⟨rfl, by decide, by decide⟩ (fun w h Y => PySem.W.kIn_of Y) ?F (fun _ _ a ns hl _ hS => ⟨a, ns, rfl, hS, hl, fun _ => rfl⟩) (fun _ _ _ _ _ h => h)
  case F =>
    intro w mg fa h KX G hmg
    refine' Dn.k01_values_and_variables.all_mk KX G hmg ?a0 ?l0 ?c0 ?k0 ?a1 ?l1 ?c1 ?k1 ?a2 ?l2 ?c2 ?k2 ?a3 ?l3 ?c3 ?k3 ?a4 ?l4 ?c4 ?k4 ?a5 ?l5 ?c5 ?k5 ?a6 ?l6 ?c6 ?k6 ?a7 ?l7 ?c7 ?k7 ?a8 ?l8 ?c8 ?k8 ?a9 ?l9 ?c9 ?k9 ?a10 ?l10 ?c10 ?k10 ?a11 ?l11 ?c11 ?k11 ?a12 ?l12 ?c12 ?k12 ?a13 ?l13 ?c13 ?k13 ?a14 ?l14 ?c14 ?k14 ?a15 ?l15 ?c15 ?k15 ?a16 ?l16 ?c16 ?k16 ?z0 ?z1 ?z2 ?z3 ?z4 ?z5 ?z6 ?z7 ?z8 ?z9 ?gv0 ?gv1 ?gv2 ?gv3 ?gv4 ?gw4 ?gv5 ?gv6
    (case a0 => k_is); (case l0 => k_is); (case c0 => k_is); (case k0 => k_is); (case a1 => k_is); (case l1 => k_is); (case c1 => k_is); (case k1 => k_is); (case a2 => k_is); (case l2 => k_is); (case c2 => k_is); (case k2 => k_is); (case a3 => k_is); (case l3 => k_is); (case c3 => k_is); (case k3 => k_is); (case a4 => k_is); (case l4 => k_is); (case c4 => k_is); (case k4 => k_is); (case a5 => k_is); (case l5 => k_is); (case c5 => k_is); (case k5 => k_is); (case a6 => k_is); (case l6 => k_is); (case c6 => k_is); (case k6 => k_is); (case a7 => k_is); (case l7 => k_is); (case c7 => k_is); (case k7 => k_is); (case a8 => k_is); (case l8 => k_is); (case c8 => k_is); (case k8 => k_is); (case a9 => k_is); (case l9 => k_is); (case c9 => k_is); (case k9 => k_is); (case a10 => k_is); (case l10 => k_is); (case c10 => k_is); (case k10 => k_is); (case a11 => k_is); (case l11 => k_is); (case c11 => k_is); (case k11 => k_is); (case a12 => k_is); (case l12 => k_is); (case c12 => k_is); (case k12 => k_is); (case a13 => k_is); (case l13 => k_is); (case c13 => k_is); (case k13 => k_is); (case a14 => k_is); (case l14 => k_is); (case c14 => k_is); (case k14 => k_is); (case a15 => k_is); (case l15 => k_is); (case c15 => k_is); (case k15 => k_is); (case a16 => k_is); (case l16 => k_is); (case c16 => k_is); (case k16 => k_is); (case z0 => k_is); (case z1 => k_is); (case z2 => k_is); (case z3 => k_is); (case z4 => k_is); (case z5 => k_is); (case z6 => k_is); (case z7 => k_is); (case z8 => k_is); (case z9 => k_is); (case gv0 => k_is); (case gv1 => k_is); (case gv2 => k_is); (case gv3 => k_is); (case gv4 => k_is); (case gw4 => k_is); (case gv5 => k_is); (case gv6 => k_is)
