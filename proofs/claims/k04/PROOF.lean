import PyProof.Rows.All
import Wide.All
import OpenK.AllK
import Wide.FinOn
import HandS.ForMost
import HandS.FStr
import HandS.IsInst
import HandS.EndBits
import HandS.Flow
import HandS.TupAny
import HandS.ExcInit
import HandS.ExcSuper
import HandS.ExcField
import HandS.ExcIs
import HandS.ExcOwn
import HandS.Iter
import HandS.Style
import KE.KExcSuper
import KE.KExcIs
import PyProof.Rows.ListMulArg
import PyProof.Rows.SeqMore
import PyProof.CallFns
import HandS.DictEq
import PyProof.NeKinds
import HandS.Exc
import KE.IntBitsLaws
import KE.KxText
import PyProof.ReprLen
import PyProof.StrLawsChain
import PyProof.Rows.StrNews2
import Wide.Txt
import PySem.Challenge.RW_sharerules_k04_errors_made
set_option Elab.async false
set_option linter.all false
set_option maxRecDepth 100000
set_option maxHeartbeats 4000000
/-! A small reader of the program's own tree, over data: what it answers, the program answers (Z2 shows it). -/
namespace Y
open PySem PySem.Spec L2

/-- the key of a dict -/
inductive Kd where
  | int (i : Int) | str (x : Str) | tup (xs : List Kd)
  deriving Inhabited
mutual
def Kd.beq : Kd → Kd → Bool
  | .int i, .int j => decide (i = j)
  | .str x, .str y => decide (x = y)
  | .tup xs, .tup ys => Kd.beqs xs ys
  | _, _ => false
def Kd.beqs : List Kd → List Kd → Bool
  | [], [] => true
  | x :: xs, y :: ys => Kd.beq x y && Kd.beqs xs ys
  | _, _ => false
end
mutual
theorem Kd.of_beq : ∀ {x y : Kd}, Kd.beq x y = true → x = y
  | .int i, .int j, h => by unfold Kd.beq at h; rw [of_decide_eq_true h]
  | .str i, .str j, h => by unfold Kd.beq at h; rw [of_decide_eq_true h]
  | .tup xs, .tup ys, h => by unfold Kd.beq at h; rw [Kd.of_beqs h]
  | .int _, .str _, h => by unfold Kd.beq at h; cases h
  | .int _, .tup _, h => by unfold Kd.beq at h; cases h
  | .str _, .int _, h => by unfold Kd.beq at h; cases h
  | .str _, .tup _, h => by unfold Kd.beq at h; cases h
  | .tup _, .int _, h => by unfold Kd.beq at h; cases h
  | .tup _, .str _, h => by unfold Kd.beq at h; cases h
theorem Kd.of_beqs : ∀ {x y : List Kd}, Kd.beqs x y = true → x = y
  | [], [], _ => rfl
  | x :: xs, y :: ys, h => by
    unfold Kd.beqs at h
    rw [Bool.and_eq_true] at h
    rw [Kd.of_beq h.1, Kd.of_beqs h.2]
  | [], _ :: _, h => by unfold Kd.beqs at h; cases h
  | _ :: _, [], h => by unfold Kd.beqs at h; cases h
end
mutual
theorem Kd.beq_self : ∀ x : Kd, Kd.beq x x = true
  | .int i => by unfold Kd.beq; exact decide_eq_true rfl
  | .str i => by unfold Kd.beq; exact decide_eq_true rfl
  | .tup xs => by unfold Kd.beq; exact Kd.beqs_self xs
theorem Kd.beqs_self : ∀ x : List Kd, Kd.beqs x x = true
  | [] => by unfold Kd.beqs; rfl
  | x :: xs => by unfold Kd.beqs; rw [Kd.beq_self x, Kd.beqs_self xs]; rfl
end
instance : DecidableEq Kd := fun x y => if h : Kd.beq x y = true then isTrue (Kd.of_beq h) else isFalse fun e => h (by rw [e]; exact Kd.beq_self y)
/-- a value: tuples are held whole (they never change), so is what nobody writes here (fl, fd, fins: a list, a dict, an instance; t: somebody further out may write it later); ref i is the i-th thing of the store; glo x is what the module's name x holds -/
inductive W where
  | non | bl (b : Bool) | int (i : Int) | str (x : Str) | ty (n : String) | tup (xs : List W) | fl (t : Bool) (xs : List W) | fd (t : Bool) (kvs : List (Kd × W)) | fins (t : Bool) (C : Str) (fs : List (Str × W)) | ref (i : Nat) | glo (x : Str)
  deriving Inhabited

/-- a thing of the store -/
inductive O where
  | lst (xs : List W)
  | dct (kvs : List (Kd × W))
  | ins (C : Str) (fs : List (Str × W))
  deriving Inhabited

abbrev So := List O
abbrev En := List (Option W)
/-- an error of the program's own class -/
structure Er where
  cls : Str
  fs : List (Str × W)
inductive Res (α : Type) where
  | ok (a : α) (S : So)
  | exn (x : Er) (S : So)
  | bad
def Res.bind {α β : Type} : Res α → (α → So → Res β) → Res β
  | .ok a S, f => f a S
  | .exn x S, _ => .exn x S
  | .bad, _ => .bad
def ofO {α : Type} (o : Option α) (S : So) : Res α := match o with
  | some a => .ok a S
  | none => .bad

structure Sx where
  N : List Str
  sc : Scope
  fn : Str → Bool
/-- a def of the program: its statement, its parameters, its names by slot -/
structure Fi where
  st : Stmt
  ps : List Str
  N : List Str
  kws : List (Nat × List Str)
  /-- it borrows what it is given: it runs over an empty store -/
  bw : Bool := false
  /-- what it has made is locked behind it -/
  fz : Bool := false
/-- the module's names, the defs, the places at which what is made is written later -/
structure Pg where
  G : Str → Option W
  F : Str → Option Fi
  mu : Pos → Bool
  /-- the own error classes: the one thing that such an error is given and bears -/
  er : Str → Option Str
  /-- whose heirs they are -/
  isa : Str → W → Option Bool
  /-- enumerate is the built-in one -/
  en : Bool
abbrev Cf := Str → List W → So → Res W

def idx (N : List Str) (x : Str) : Option Nat := N.findIdx? fun y => decide (y = x)
def slot (e : En) (i : Nat) : Option W := match e[i]? with
  | some (some w) => some w
  | _ => none
def isVis : Option NameKind → Bool
  | some .local => true
  | some .cell => true
  | some .free => true
  | _ => false
/-- an ordinary name -/
def okN (x : Str) : Bool := !(x == ("__debug__" : Str)) && !(x == ("__classdict__" : Str)) && !(decide (x = "__name__"))
def nameE (P : Pg) (sx : Sx) (e : En) (x : Str) : Option W :=
  if isVis (sx.sc.names.lookup x) then (idx sx.N x).bind (slot e)
  else if sx.sc.names.lookup x = some .globalImplicit then P.G x
  else none

/-! ### data that stands deep -/
mutual
def kD : Kd → PyData
  | .int i => .int i
  | .str x => .str x
  | .tup xs => .tuple (kDs xs)
def kDs : List Kd → List PyData
  | [] => []
  | x :: xs => kD x :: kDs xs
end
mutual
def dW (f : Nat → Option PyData) : W → Option PyData
  | .non => some .none
  | .bl b => some (.bool b)
  | .int i => some (.int i)
  | .str x => some (.str x)
  | .ty _ => none
  | .tup xs => (dWs f xs).map .tuple
  | .fl _ xs => (dWs f xs).map .list
  | .fd _ xs => (dKvs f xs).map .dict
  | .fins _ _ _ => none
  | .ref i => f i
  | .glo _ => none
def dWs (f : Nat → Option PyData) : List W → Option (List PyData)
  | [] => some []
  | x :: xs => match dW f x with
    | none => none
    | some d => match dWs f xs with
      | none => none
      | some ds => some (d :: ds)
def dKvs (f : Nat → Option PyData) : List (Kd × W) → Option (List (PyData × PyData))
  | [] => some []
  | (k, x) :: xs => match dW f x with
    | none => none
    | some d => match dKvs f xs with
      | none => none
      | some ds => some ((kD k, d) :: ds)
end
def dR (S : So) : Nat → Nat → Option PyData
  | 0, _ => none
  | n + 1, i => match S[i]? with
    | some (.lst xs) => (dWs (dR S n) xs).map .list
    | some (.dct kvs) => (dKvs (dR S n) kvs).map .dict
    | _ => none
/-- how deep things of the store may stand in each other -/
def deepS : Nat := 12
def toD (S : So) (x : W) : Option PyData := dW (dR S deepS) x

/-! ### operations -/
def truth (x : W) (S : So) : Option Bool := match x with
  | .non => some false
  | .bl b => some b
  | .int i => some (i != 0)
  | .str x => if x.length ≤ sizeLine then some (x.length != 0) else none
  | .tup xs => some (!xs.isEmpty)
  | .fl _ xs => some (!xs.isEmpty)
  | .fd _ xs => some (!xs.isEmpty)
  | .ref i => match S[i]? with
    | some (.lst xs) => some (!xs.isEmpty)
    | some (.dct xs) => some (!xs.isEmpty)
    | _ => none
  | _ => none
def new (o : O) (S : So) : Res W := .ok (.ref S.length) (S ++ [o])
def lstOf (x : W) (S : So) : Option (List W) := match x with
  | .ref i => match S[i]? with
    | some (.lst xs) => some xs
    | _ => none
  | .fl _ xs => some xs
  | _ => none
/-- a new list -/
def mk (m : Bool) (xs : List W) (S : So) : Res W := if m then new (.lst xs) S else .ok (.fl false xs) S
/-- a new dict -/
def mkD (m : Bool) (kvs : List (Kd × W)) (S : So) : Res W := if m then new (.dct kvs) S else .ok (.fd false kvs) S
/-- a list or a tuple -/
def seqOf (x : W) (S : So) : Option (List W) := match x with
  | .tup xs => some xs
  | _ => lstOf x S
def binop (m : Bool) (op : Operator) (x y : W) (S : So) : Res W := match op, x, y with
  | .Add, .int i, .int j => .ok (.int (i + j)) S
  | .Sub, .int i, .int j => .ok (.int (i - j)) S
  | .Mult, .int i, .int j => if Builtin.Int.intBits i + Builtin.Int.intBits j ≤ 134217728 then .ok (.int (i * j)) S else .bad
  | .Mod, .int i, .int j => if 0 < j then .ok (.int (i % j)) S else .bad
  | .FloorDiv, .int i, .int j => if 0 < j ∧ j < 1073741824 then .ok (.int (i / j)) S else .bad
  | .Pow, .int i, .int j => if 0 ≤ j ∧ (Builtin.Int.intBits i : Int) * j ≤ 134217728 then .ok (.int (i ^ j.toNat)) S else .bad
  | .Add, .str a, .str b => if a.length + b.length ≤ sizeLine then .ok (.str (a ++ b)) S else .bad
  | .Add, .tup a, .tup b => if a.length + b.length ≤ sizeLine then .ok (.tup (a ++ b)) S else .bad
  | .Add, x, y => match lstOf x S, lstOf y S with
    | some a, some b => if a.length + b.length ≤ sizeLine then mk m (a ++ b) S else .bad
    | _, _ => .bad
  | .Mult, x, .int k => match lstOf x S with
    | some a => if -(2 ^ 63) ≤ k ∧ k < 2 ^ 63 ∧ a.length * k.toNat ≤ sizeLine then mk m (List.replicate k.toNat a).flatten S else .bad
    | none => .bad
  | _, _, _ => .bad
def flatW : W → Bool
  | .non => true
  | .bl _ => true
  | .int _ => true
  | .str _ => true
  | _ => false
def eqW : W → W → Bool
  | .non, .non => true
  | .bl a, .bl b => a == b
  | .bl a, .int j => (if a then 1 else 0) == j
  | .int i, .bl b => i == (if b then 1 else 0)
  | .int i, .int j => i == j
  | .str a, .str b => decide (a = b)
  | _, _ => false
/-- == of any data -/
def eqD (x y : W) (S : So) : Option Bool := match toD S x, toD S y with
  | some d, some e => if SeqAt.shaped d && SeqAt.shaped e then some (PyData.eqv d e) else none
  | _, _ => none
/-- two lists, not equally long -/
def lenD (x y : W) (S : So) : Bool := match lstOf x S, lstOf y S with
  | some a, some b => a.length != b.length
  | _, _ => false
def dctOf (x : W) (S : So) : Option (List (Kd × W)) := match x with
  | .ref i => match S[i]? with
    | some (.dct kvs) => some kvs
    | _ => none
  | .fd _ kvs => some kvs
  | _ => none
/-- == against a text, against the empty tuple -/
def oddEq (x y : W) (S : So) : Option Bool := match y with
  | .tup [] => (match x with | .tup xs => some xs.isEmpty | _ => none)
  | .str _ => (match x with | .tup _ => some false | _ => if (lstOf x S).isSome || (dctOf x S).isSome then some false else none)
  | _ => none
/-- == of two texts, of two ints; else of data -/
def eqX (x y : W) (S : So) : Option Bool := match x, y with
  | .str a, .str b => some (decide (a = b))
  | .int i, .int j => some (decide (i = j))
  | _, _ => if lenD x y S = true then some false else match oddEq x y S with
    | some b => some b
    | none => eqD x y S
def inW (x : W) (xs : List W) : Bool := xs.any fun y => eqW y x
/-- in, of any data -/
def inD (x y : W) (S : So) : Option Bool := match toD S x, toD S y with
  | some d, some (.list ds) => if SeqAt.shaped d && SeqAt.shaped (.list ds) then some (ds.any fun z => PyData.eqv z d) else none
  | some d, some (.tuple ds) => if SeqAt.shaped d && SeqAt.shaped (.tuple ds) then some (ds.any fun z => PyData.eqv z d) else none
  | _, _ => none
def cmp (op : CmpOp) (x y : W) (S : So) : Option Bool := match op with
  | .Eq => eqX x y S
  | .NotEq => (eqX x y S).map (!·)
  | .Lt => match x, y with
    | .int i, .int j => some (decide (i < j))
    | .str a, .str b => some (decide (a.cps.toList < b.cps.toList))
    | _, _ => none
  | .LtE => match x, y with
    | .int i, .int j => some (decide (i ≤ j))
    | .str a, .str b => some (!decide (b.cps.toList < a.cps.toList))
    | _, _ => none
  | .Gt => match x, y with
    | .int i, .int j => some (decide (j < i))
    | .str a, .str b => some (decide (b.cps.toList < a.cps.toList))
    | _, _ => none
  | .GtE => match x, y with
    | .int i, .int j => some (decide (j ≤ i))
    | .str a, .str b => some (!decide (a.cps.toList < b.cps.toList))
    | _, _ => none
  | .Is => match y with
    | .non => some (match x with | .non => true | _ => false)
    | .bl b => (match x with | .bl a => some (decide (a = b)) | _ => none)
    | _ => none
  | .IsNot => match y with
    | .non => some (match x with | .non => false | _ => true)
    | .bl b => (match x with | .bl a => some (!decide (a = b)) | _ => none)
    | _ => none
  | .In => match seqOf y S with
    | some ys => if flatW x && ys.all flatW then some (inW x ys) else inD x y S
    | none => none
  | .NotIn => match seqOf y S with
    | some ys => if flatW x && ys.all flatW then some (!inW x ys) else (inD x y S).map (!·)
    | none => none

def cutW {α : Type} (xs : List α) (lo hi : Option Int) : List α := (xs.drop (HT.sIx xs.length 0 lo)).take (HT.sIx xs.length xs.length hi - HT.sIx xs.length 0 lo)
def slice (m : Bool) (x : W) (lo hi : Option Int) (S : So) : Res W := match x with
  | .tup xs => .ok (.tup (cutW xs lo hi)) S
  | .str x => if x.length ≤ sizeLine then .ok (.str (cutS x lo hi)) S else .bad
  | _ => match lstOf x S with
    | some xs => mk m (cutW xs lo hi) S
    | none => .bad
def findK (kvs : List (Kd × W)) (k : Kd) : Option W := (kvs.find? fun kv => decide (kv.1 = k)).map (·.2)
mutual
def toK : W → Option Kd
  | .int i => some (.int i)
  | .str x => some (.str x)
  | .tup xs => (toKs xs).map .tup
  | _ => none
def toKs : List W → Option (List Kd)
  | [] => some []
  | x :: xs => match toK x with
    | none => none
    | some k => (toKs xs).map (k :: ·)
end
mutual
def ofK : Kd → W
  | .int i => .int i
  | .str x => .str x
  | .tup xs => .tup (ofKs xs)
def ofKs : List Kd → List W
  | [] => []
  | x :: xs => ofK x :: ofKs xs
end
/-- ints and texts -/
def flatK : Kd → Bool
  | .tup _ => false
  | _ => true
/-- what is seen: a key is to be looked up among keys -/
def seeK (kvs : List (Kd × W)) (k : Kd) : Bool := flatK k && kvs.all fun kv => flatK kv.1
def item (x y : W) (S : So) : Option W := match x, y with
  | .tup xs, .int i => atI xs i
  | .str z, .int i => if z.length ≤ sizeLine then (atI z.cps.toList i).map fun c => .str ⟨#[c]⟩ else none
  | x, y => match lstOf x S with
    | some xs => (match y with | .int i => atI xs i | _ => none)
    | none => match dctOf x S, toK y with
      | some kvs, some k => if seeK kvs k = true then findK kvs k else none
      | _, _ => none
def putW (kvs : List (Kd × W)) (k : Kd) (v : W) : List (Kd × W) :=
  if (kvs.any fun kv => decide (kv.1 = k)) = true then kvs.map (fun kv => if kv.1 = k then (kv.1, v) else kv) else kvs ++ [(k, v)]
def setItem (x y v : W) (S : So) : Option So := match x with
  | .ref j => match S[j]? with
    | some (.lst xs) => (match y with | .int i => (ixN xs.length i).map fun k => S.set j (.lst (xs.set k v)) | _ => none)
    | some (.dct kvs) => (match toK y with | some k => if seeK kvs k = true ∧ kvs.length < sizeLine then some (S.set j (.dct (putW kvs k v))) else none | none => none)
    | _ => none
  | _ => none
def strsOf : List W → Option (List Str)
  | [] => some []
  | .str x :: r => (strsOf r).map (x :: ·)
  | _ :: _ => none
def blsOf : List W → Option (List Bool)
  | [] => some []
  | .bl x :: r => (blsOf r).map (x :: ·)
  | _ :: _ => none
def tyOf (x : W) (S : So) : Option String := match x with
  | .non => some "NoneType"
  | .bl _ => some "bool"
  | .int _ => some "int"
  | .str _ => some "str"
  | .tup _ => some "tuple"
  | .fl _ _ => some "list"
  | .fd _ _ => some "dict"
  | .ref i => match S[i]? with
    | some (.lst _) => some "list"
    | some (.dct _) => some "dict"
    | _ => none
  | _ => none
/-- the built-in functions and types, by name -/
def builtin (m : Bool) (f : Str) (args : List W) (S : So) : Res W :=
  if f = "len" then match args with
    | [.str z] => if z.length ≤ sizeLine then .ok (.int z.length) S else .bad
    | [x] => (match seqOf x S with | some xs => .ok (.int xs.length) S | none => .bad)
    | _ => .bad
  else if f = "int" then match args with
    | [.int i] => .ok (.int i) S
    | [.bl b] => .ok (.int (if b then 1 else 0)) S
    | _ => .bad
  else if f = "max" then match args with
    | [.int i, .int j] => .ok (.int (if j > i then j else i)) S
    | _ => .bad
  else if f = "min" then match args with
    | [.int i, .int j] => .ok (.int (if j < i then j else i)) S
    | _ => .bad
  else if f = "tuple" then match args with
    | [.tup xs] => .ok (.tup xs) S
    | [x] => (match lstOf x S with | some xs => .ok (.tup xs) S | none => .bad)
    | _ => .bad
  else if f = "list" then match args with
    | [x] => (match seqOf x S with | some xs => mk m xs S | none => .bad)
    | _ => .bad
  else if f = "all" then match args with
    | [x] => (match (lstOf x S).bind blsOf with | some bs => .ok (.bl (bs.all id)) S | none => .bad)
    | _ => .bad
  else if f = "any" then match args with
    | [x] => (match (lstOf x S).bind blsOf with | some bs => .ok (.bl (bs.any id)) S | none => .bad)
    | _ => .bad
  else if f = "isinstance" then match args with
    | [x, .ty n] => (match tyOf x S with
      | some t => (match kitB t n with | some b => .ok (.bl b) S | none => .bad)
      | none => .bad)
    | _ => .bad
  else if f = "repr" then match args with
    | [x] => (match toD S x with
      | some d => if d.showable && decide (d.shown.length ≤ sizeLine) && decide (d.depth ≤ 150) then .ok (.str d.shown) S else .bad
      | none => .bad)
    | _ => .bad
  else .bad
def builtins : List Str := ["len", "int", "max", "min", "tuple", "list", "all", "any", "isinstance", "repr"]
/-- isinstance of an error of one's own -/
def isiC (isa : Str → W → Option Bool) (x c : W) (S : So) : Res W := match x with
  | .fins _ C _ => (match isa C c with | some b => .ok (.bl b) S | none => .bad)
  | _ => .bad
def builtinI (isa : Str → W → Option Bool) (m : Bool) (f : Str) (us : List W) (S : So) : Res W :=
  if f = "isinstance" then match us with
    | [x, .glo D] => isiC isa x (.glo D) S
    | [x, .ty n] => if n = "ValueError" then isiC isa x (.ty n) S else builtin m f us S
    | _ => builtin m f us S
  else builtin m f us S
/-- an attribute of an error of one's own -/
def attrV (P : Pg) (u : W) (n : Str) (S : So) : Res W := match u with
  | .fins _ C fs => if P.er C = some n then ofO (fs.lookup n) S else .bad
  | _ => .bad
/-- whose method it is -/
def methTy (m : Str) : Option String :=
  if m = "append" then some "list" else if m = "join" then some "str" else if m = "split" then some "str" else if m = "partition" then some "str" else none
def valTy (x : W) (S : So) : Option String := match x with
  | .str _ => some "str"
  | .fl _ _ => some "list"
  | .ref i => match S[i]? with
    | some (.lst _) => some "list"
    | some (.dct _) => some "dict"
    | _ => none
  | _ => none
/-- the methods of built-in values -/
def method (mu : Bool) (x : W) (m : Str) (args : List W) (S : So) : Res W :=
  if m = "append" then match x, args with
    | .ref i, [v] => (match S[i]? with
      | some (.lst xs) => if xs.length < sizeLine then .ok .non (S.set i (.lst (xs ++ [v]))) else .bad
      | _ => .bad)
    | _, _ => .bad
  else if m = "join" then match x, args with
    | .str a, [v] => (match (seqOf v S).bind strsOf with
      | some ys => if (ys.map (·.length)).sum + ys.length * a.length ≤ 16777216 then .ok (.str (Txt.join a ys)) S else .bad
      | none => .bad)
    | _, _ => .bad
  else if m = "split" then match x, args with
    | .str a, [.str b] => if (b.length == 0) = false ∧ a.length + 2 ≤ sizeLine then mk mu ((Txt.split a b).map .str) S else .bad
    | _, _ => .bad
  else if m = "partition" then match x, args with
    | .str a, [.str b] => if (b.length == 0) = false ∧ a.length ≤ sizeLine then .ok (.tup [.str (Txt.partition a b).1, .str (Txt.partition a b).2.1, .str (Txt.partition a b).2.2]) S else .bad
    | _, _ => .bad
  else .bad

/-! ### the reader -/
/-- the parts of an f-string are written texts and plain fields -/
def partJ : Expr → Bool
  | .Constant (.str _) _ _ => true
  | .FormattedValue _ c none _ => decide (c = -1)
  | _ => false
def isStar : Expr → Bool
  | .Starred _ _ => true
  | _ => false
def isSet : Expr → Bool
  | .Set _ _ _ => true
  | _ => false
def isSuper : Expr → Bool
  | .Call (.Name _ _) [] [] _ => true
  | _ => false
def isSlice : Expr → Bool
  | .Slice _ _ _ _ => true
  | _ => false
def isComp : Expr → Bool
  | .ListComp _ _ _ _ => true
  | .SetComp _ _ _ _ => true
  | .DictComp _ _ _ _ _ => true
  | _ => false
/-- the written arguments are plain -/
def plainA (es : List Expr) (kws : List Keyword) : Bool := es.all (fun e => !isStar e) && (kws.map (·.arg)).all (·.isSome)
def evL (f : Expr → So → Res W) : List Expr → So → Res (List W)
  | [], S => .ok [] S
  | x :: xs, S => (f x S).bind fun w S1 => (evL f xs S1).bind fun ws S2 => .ok (w :: ws) S2
def evK (f : Expr → So → Res W) : List Keyword → So → Res (List W)
  | [], S => .ok [] S
  | x :: xs, S => (f x.value S).bind fun w S1 => (evK f xs S1).bind fun ws S2 => .ok (w :: ws) S2
def evO (f : Expr → So → Res W) : Option Expr → So → Res (Option Int)
  | none, S => .ok none S
  | some x, S => (f x S).bind fun w S1 => match w with
    | .int i => .ok (some i) S1
    | _ => .bad
def evB (isAnd : Bool) (f : Expr → So → Res W) : List Expr → So → Res W
  | [], _ => .bad
  | [x], S => f x S
  | x :: xs, S => (f x S).bind fun w S1 => match truth w S1 with
    | some b => if b = isAnd then evB isAnd f xs S1 else .ok w S1
    | none => .bad
def evP (f : Expr → So → Res W) : List (Option Expr) → List Expr → So → Res (List (Kd × W))
  | [], [], S => .ok [] S
  | some k :: ks, v :: vs, S => (f k S).bind fun x S1 => (f v S1).bind fun y S2 => match toK x with
    | some q => (evP f ks vs S2).bind fun r S3 => .ok ((q, y) :: r) S3
    | none => .bad
  | _, _, _ => .bad
/-- the parts of an f-string -/
def evJ (f : Expr → So → Res W) : List Expr → Str → So → Res Str
  | [], acc, S => .ok acc S
  | .Constant (.str y) _ _ :: r, acc, S => if (acc ++ y).length ≤ sizeLine then evJ f r (acc ++ y) S else .bad
  | .FormattedValue x (-1) none _ :: r, acc, S => (f x S).bind fun w S1 => match w with
    | .str y => if y.length ≤ sizeLine ∧ (acc ++ y).length ≤ sizeLine then evJ f r (acc ++ y) S1 else .bad
    | _ => .bad
  | _, _, _ => .bad
/-- what is walked: written down at the start, or a list of the store as it stands -/
inductive Wk where
  | seq (ws : List W)
  | live (i : Nat) (n : Nat)
def Wk.len : Wk → Nat
  | .seq ws => ws.length
  | .live _ n => n
/-- at turn j: none: it cannot go on; some none: the end -/
def Wk.at (k : Wk) (j : Nat) (S : So) : Option (Option W) := match k with
  | .seq ws => some ws[j]?
  | .live i _ => match S[i]? with
    | some (.lst xs) => some xs[j]?
    | _ => none
def rangeW (lo : Int) (n : Nat) : List W := (List.range n).map fun (k : Nat) => W.int (lo + (k : Int))
/-- what a for or a comprehension walks -/
def walkV (u : W) (S : So) : Res Wk := match u with
  | .tup ws => .ok (.seq ws) S
  | .fl _ ws => .ok (.seq ws) S
  | .str z => .ok (.seq (z.cps.toList.map fun c => W.str ⟨#[c]⟩)) S
  | .ref i => match S[i]? with
    | some (.lst xs) => .ok (.live i xs.length) S
    | _ => .bad
  | _ => .bad
def isRange : Expr → Option (List Expr)
  | .Call (.Name f _) es [] _ => if f = "range" ∧ es.all (fun e => !isStar e) = true ∧ (es.length = 1 ∨ es.length = 2) then some es else none
  | _ => none
/-- the built-in one -/
def rgOk (P : Pg) (sx : Sx) (n : Str) : Bool := (decide (n = "range") || P.en) && (P.F n).isNone && decide (sx.sc.names.lookup n = some .globalImplicit)
def isEnum : Expr → Option Expr
  | .Call (.Name f _) [x] [] _ => if f = "enumerate" ∧ isStar x = false then some x else none
  | _ => none
def isTupE : Expr → Bool
  | .Tuple _ _ _ => true
  | _ => false
/-- what enumerate hands out -/
def enumW : Nat → List W → List W
  | _, [] => []
  | i, w :: ws => .tup [.int (i : Nat), w] :: enumW (i + 1) ws
def enumV (u : W) (S : So) : Res Wk := match u with
  | .fl _ ws => .ok (.seq (enumW 0 ws)) S
  | _ => .bad
def walkE (rg : Str → Bool) (tg : Expr) (f : Expr → So → Res W) (iter : Expr) (S : So) : Res Wk := if isSet iter = true then .bad else match isEnum iter with
  | some x => if rg "enumerate" = true ∧ isTupE tg = true then (f x S).bind enumV else .bad
  | none => match isRange iter with
  | some es => if rg "range" = true then (evL f es S).bind fun us S1 => match us with
      | [.int j] => if -(2 ^ 62) ≤ j ∧ j < 2 ^ 62 then .ok (.seq (rangeW 0 j.toNat)) S1 else .bad
      | [.int i, .int j] => if (-(2 ^ 62) ≤ i ∧ i < 2 ^ 62) ∧ -(2 ^ 62) ≤ j ∧ j < 2 ^ 62 then .ok (.seq (rangeW i (j - i).toNat)) S1 else .bad
      | _ => .bad
    else .bad
  | none => (f iter S).bind walkV
def asgN (sx : Sx) (e : En) (x : Str) (w : W) : Option En := match sx.sc.names.lookup x with
  | some .local => (idx sx.N x).map fun i => e.set i (some w)
  | some .cell => if sx.fn x = true then (idx sx.N x).map fun i => e.set i (some w) else none
  | _ => none
def asgL (sx : Sx) : List Expr → List W → En → Option En
  | [], [], e => some e
  | .Name x _ :: r, w :: ws, e => (asgN sx e x w).bind (asgL sx r ws)
  | _, _, _ => none
def asg (sx : Sx) (e : En) (tg : Expr) (w : W) : Option En := match tg with
  | .Name x _ => asgN sx e x w
  | .Tuple es _ _ => match w with
    | .tup ws => asgL sx es ws e
    | _ => none
  | _ => none
/-- the slots that a target writes -/
def slotsL (N : List Str) : List Expr → List Nat
  | [] => []
  | .Name x _ :: r => (idx N x).toList ++ slotsL N r
  | _ :: r => slotsL N r
def slotsT (N : List Str) : Expr → List Nat
  | .Name x _ => (idx N x).toList
  | .Tuple es _ _ => slotsL N es
  | _ => []
def ownOf (N : List Str) (sc : Scope) : List (Str × Nat) := sc.names.filterMap fun y => match y.2 with
  | .local => (idx N y.1).map fun i => (y.1, i)
  | .cell => (idx N y.1).map fun i => (y.1, i)
  | _ => none
def wipeW (e : En) : List Nat → En
  | [] => e
  | v :: vs => (wipeW e vs).set v none
/-- one turn after the other: f item state store; the answer's Bool: go on -/
def turns {α : Type} (k : Wk) (f : W → α → So → Res (α × Bool)) : Nat → Nat → α → So → Res α
  | n, j, a, S => match k.at j S with
    | none => .bad
    | some none => .ok a S
    | some (some w) => match n with
      | 0 => .bad
      | n + 1 => (f w a S).bind fun r S1 => if r.2 then turns k f n (j + 1) r.1 S1 else .ok r.1 S1
def ifsE (f : Expr → So → Res W) : List Expr → So → Res Bool
  | [], S => .ok true S
  | [c], S => (f c S).bind fun w S1 => ofO (truth w S1) S1
  | _, _ => .bad
def constE (c : Const) (S : So) : Res W := match c with
  | .none => .ok .non S
  | .bool b => .ok (.bl b) S
  | .int i => .ok (.int i) S
  | .str x => .ok (.str x) S
  | _ => .bad
/-- the arguments in the parameters' order: the keywords ks, of values ws, behind the positional ones us -/
def ordK {α : Type} (ps ks : List Str) (us ws : List α) : List α := us ++ (ps.drop us.length).filterMap fun p => (ks.zip ws).lookup p
def argsOf (fi : Fi) (us : List W) (ks : List (Option Str)) (ws : List W) : Option (List W) :=
  if ks.isEmpty then (if us.length = fi.ps.length then some us else none)
  else if (us.length, ks.filterMap id) ∈ fi.kws ∧ ks.all (·.isSome) = true then some (ordK fi.ps (ks.filterMap id) us ws) else none
/-- where no error may leave -/
def noX {α : Type} : Res α → Res α
  | .ok a S => .ok a S
  | _ => .bad

/-- a turn of a comprehension: acc is what the new list has so far -/
def lcTurn (f : En → Expr → So → Res W) (sx : Sx) (e : En) (tg : Expr) (ifs : List Expr) (elt : Expr) : W → List W → So → Res (List W × Bool) := fun w acc S2 => match asg sx e tg w with
  | none => .bad
  | some e2 => (ifsE (f e2) ifs S2).bind fun b S3 => if b then (f e2 elt S3).bind fun y S4 => if acc.length < sizeLine then .ok (acc ++ [y], true) S4 else .bad
    else .ok (acc, true) S3
/-- minus an int -/
def neg (u : W) (S : So) : Res W := match u with
  | .int i => .ok (.int (-i)) S
  | _ => .bad
def evalE (P : Pg) (call : Cf) : Nat → Sx → En → Expr → So → Res W
  | 0, _, _, _, _ => .bad
  | d + 1, sx, e, x, S => match x with
    | .Constant c _ _ => constE c S
    | .Name n _ => if okN n = true then ofO (nameE P sx e n) S else .bad
    | .BinOp a op b p => (evalE P call d sx e a S).bind fun u S1 => (evalE P call d sx e b S1).bind fun v S2 => binop (P.mu p) op u v S2
    | .UnaryOp .Not a _ => (evalE P call d sx e a S).bind fun u S1 => match truth u S1 with
      | some b => .ok (.bl (!b)) S1
      | none => .bad
    | .UnaryOp .USub a _ => (evalE P call d sx e a S).bind neg
    | .BoolOp op vs _ => evB (match op with | .And => true | .Or => false) (evalE P call d sx e) vs S
    | .Compare a [op] [b] _ => if isSet b = true then .bad else (evalE P call d sx e a S).bind fun u S1 => (evalE P call d sx e b S1).bind fun v S2 => (ofO (cmp op u v S2) S2).bind fun r S3 => .ok (.bl r) S3
    | .Compare a [op, op'] [b, c] _ => if (isSet b || isSet c) = true then .bad else (evalE P call d sx e a S).bind fun u S1 => (evalE P call d sx e b S1).bind fun v S2 => (ofO (cmp op u v S2) S2).bind fun r S3 =>
        if r then (evalE P call d sx e c S3).bind fun z S4 => (ofO (cmp op' v z S4) S4).bind fun r S5 => .ok (.bl r) S5 else .ok (.bl false) S3
    | .IfExp c a b _ => (evalE P call d sx e c S).bind fun u S1 => match truth u S1 with
      | some true => evalE P call d sx e a S1
      | some false => evalE P call d sx e b S1
      | none => .bad
    | .Tuple es _ _ => (evL (evalE P call d sx e) es S).bind fun ws S1 => if ws.length ≤ sizeLine then .ok (.tup ws) S1 else .bad
    | .List es p => (evL (evalE P call d sx e) es S).bind fun ws S1 => if ws.length ≤ sizeLine then mk (P.mu p) ws S1 else .bad
    | .Dict [] [] p => mkD (P.mu p) [] S
    | .Dict ks vs p => if (ks.all (·.isSome) = true ∧ ks.length = vs.length) ∧ ks.length ≤ 15 then (evP (evalE P call d sx e) ks vs S).bind fun kvs S1 =>
        if kvs.length ≤ 15 ∧ (kvs.all fun kv => flatK kv.1) = true then mkD (P.mu p) (kvs.foldl (fun r kv => putW r kv.1 kv.2) []) S1 else .bad
      else .bad
    | .Subscript a (.Slice lo hi none _) p => (evalE P call d sx e a S).bind fun u S1 => (evO (evalE P call d sx e) lo S1).bind fun l S2 => (evO (evalE P call d sx e) hi S2).bind fun h S3 => slice (P.mu p) u l h S3
    | .Subscript a b _ => if isSlice b = true then .bad else (evalE P call d sx e a S).bind fun u S1 => (evalE P call d sx e b S1).bind fun v S2 => ofO (item u v S2) S2
    | .JoinedStr es _ => if es.all partJ = true ∧ 2 ≤ es.length then (evJ (evalE P call d sx e) es Str.empty S).bind fun x S1 => .ok (.str x) S1 else .bad
    | .Call (.Name f _) es kws p =>
      if (okN f = true ∧ plainA es kws = true) ∧ sx.sc.names.lookup f = some .globalImplicit then match P.F f with
        | some fi => (evL (evalE P call d sx e) es S).bind fun us S1 => (evK (evalE P call d sx e) kws S1).bind fun ws S2 => match argsOf fi us (kws.map (·.arg)) ws with
          | some vs => call f vs S2
          | none => .bad
        | none => if kws.isEmpty = true ∧ f ∈ builtins then (evL (evalE P call d sx e) es S).bind fun us S1 => builtinI P.isa (P.mu p) f us S1 else .bad
      else .bad
    | .Call (.Attribute o m ap) es [] cp => match methTy m with
      | none => .bad
      | some T => if ((ap.endLine == cp.line) = true ∧ plainA es [] = true) ∧ (1 ≤ es.length ∧ es.length < 20) ∧ isSuper o = false then
          (evalE P call d sx e o S).bind fun u S1 => if valTy u S1 = some T then (evL (evalE P call d sx e) es S1).bind fun us S2 => method (P.mu cp) u m us S2 else .bad
        else .bad
    | .ListComp elt [⟨tg, iter, ifs, 0⟩] scope p =>
      if blkC sx.N sx.sc scope (ownOf sx.N scope) = true ∧ ((slotsT sx.N tg).all fun i => ((ownOf sx.N scope).map (·.2)).contains i) = true ∧ ifs.length ≤ 1 then
        (walkE (rgOk P sx) tg (evalE P call d sx e) iter S).bind fun k S1 =>
        (noX (turns k (lcTurn (evalE P call d ⟨sx.N, relS scope sx.sc, fun x => scope.names.lookup x == some .cell⟩) ⟨sx.N, relS scope sx.sc, fun x => scope.names.lookup x == some .cell⟩ (wipeW e ((ownOf sx.N scope).map (·.2))) tg ifs elt) k.len 0 [] S1)).bind fun acc S6 => mk (P.mu p) acc S6
      else .bad
    | .Attribute o n _ => if isSuper o = false then (evalE P call d sx e o S).bind fun u S1 => attrV P u n S1 else .bad
    | _ => .bad

/-! ### statements -/
inductive Fl where
  | nx | ret (w : W) | brk | ct
/-- a block -/
def evS (f : Stmt → En → So → Res (En × Fl)) : List Stmt → En → So → Res (En × Fl)
  | [], e, S => .ok (e, .nx) S
  | x :: xs, e, S => (f x e S).bind fun r S1 => match r.2 with
    | .nx => evS f xs r.1 S1
    | _ => .ok r S1
/-- while: n turns at most -/
def whileE (c : En → So → Res Bool) (f : En → So → Res (En × Fl)) : Nat → En → So → Res (En × Fl)
  | 0, _, _ => .bad
  | n + 1, e, S => (c e S).bind fun b S1 => if b then (f e S1).bind fun r S2 => match r.2 with
      | .nx => whileE c f n r.1 S2
      | .ct => whileE c f n r.1 S2
      | .brk => .ok (r.1, .nx) S2
      | .ret w => .ok (r.1, .ret w) S2
    else .ok (e, .nx) S1
/-- a turn of a for: the names and what has left it -/
def forTurn (sx : Sx) (tg : Expr) (body : En → So → Res (En × Fl)) : W → En × Fl → So → Res ((En × Fl) × Bool) := fun w r S2 => match asg sx r.1 tg w with
  | none => .bad
  | some e2 => (body e2 S2).bind fun r S3 => match r.2 with
    | .nx => .ok ((r.1, Fl.nx), true) S3
    | .ct => .ok ((r.1, Fl.nx), true) S3
    | .brk => .ok ((r.1, Fl.nx), false) S3
    | .ret w => .ok ((r.1, Fl.ret w), false) S3
/-- a, b = x, y: none: it cannot be told; some true: two plain names, stored from the right; some false: the pair is made and unpacked -/
def swK (sx : Sx) (tg v : Expr) : Option Bool := match tg, v with
  | .Tuple ts _ _, .Tuple vs _ _ =>
    if (!(ts.length == 2 || ts.length == 3) || vs.length != ts.length) = true then some false
    else if (vs.any isStar) = true then none
    else
      let names := ts.filterMap fun t => match t with
        | .Name id pos => if (decide (sx.sc.names.lookup id = some .local) && pos.line == (ts.head?.map (·.pos.line)).getD 0) = true then some id else none
        | _ => none
      if (names.length != ts.length || names.eraseDups.length != names.length) = true then some false
      else if vs.all (foldedForSure 8) = true then some false
      else if vs.all (constantsAlone 8) = true then none
      else some true
  | _, _ => some false
def nmOk (N : List Str) : Expr → Bool
  | .Name x _ => (idx N x).isSome
  | _ => false
def tgOk (N : List Str) : Expr → Bool
  | .Name x _ => (idx N x).isSome
  | .Tuple es _ _ => es.all (nmOk N)
  | _ => false
def execS (P : Pg) (call : Cf) : Nat → Sx → Stmt → En → So → Res (En × Fl)
  | 0, _, _, _, _ => .bad
  | d + 1, sx, x, e, S => match x with
    | .Assign [.Subscript o i _] v _ => if isSlice i = true then .bad else (evalE P call d sx e v S).bind fun w S1 => (evalE P call d sx e o S1).bind fun u S2 => (evalE P call d sx e i S2).bind fun k S3 => (ofO (setItem u k w S3) S3).bind fun S4 _ => .ok (e, .nx) S4
    | .Assign [tg] v _ => if swK sx tg v = none ∨ tgOk sx.N tg = false then .bad else (evalE P call d sx e v S).bind fun w S1 => (ofO (asg sx e tg w) S1).bind fun e2 S2 => .ok (e2, .nx) S2
    | .Expr v _ => if isComp v = true then .bad else (evalE P call d sx e v S).bind fun _ S1 => .ok (e, .nx) S1
    | .Return (some v) _ => (evalE P call d sx e v S).bind fun w S1 => .ok (e, .ret w) S1
    | .Return none _ => .ok (e, .ret .non) S
    | .If c a b _ => (evalE P call d sx e c S).bind fun u S1 => match truth u S1 with
      | some true => evS (execS P call d sx) a e S1
      | some false => evS (execS P call d sx) b e S1
      | none => .bad
    | .For tg iter body [] _ => (walkE (rgOk P sx) tg (evalE P call d sx e) iter S).bind fun k S1 =>
        turns k (forTurn sx tg (evS (execS P call d sx) body)) k.len 0 (e, Fl.nx) S1
    | .Pass _ => .ok (e, .nx) S
    | .Break _ => .ok (e, .brk) S
    | .Continue _ => .ok (e, .ct) S
    | _ => .bad
/-- how deep a def's tree may be -/
def deepT : Nat := 40
/-! ### what is locked -/
mutual
/-- the things from the n-th on are locked in a value; f i: the i-th thing, locked -/
def lkW (n : Nat) (f : Nat → Option W) : W → Option W
  | .ref i => if i < n then some (.ref i) else f i
  | .tup xs => (lkWs n f xs).map .tup
  | .fl t xs => (lkWs n f xs).map (.fl t)
  | .fd t xs => (lkKs n f xs).map (.fd t)
  | .fins t C xs => (lkFs n f xs).map (.fins t C)
  | .non => some .non
  | .bl b => some (.bl b)
  | .int i => some (.int i)
  | .str x => some (.str x)
  | .ty x => some (.ty x)
  | .glo x => some (.glo x)
def lkWs (n : Nat) (f : Nat → Option W) : List W → Option (List W)
  | [] => some []
  | x :: xs => match lkW n f x with
    | none => none
    | some y => (lkWs n f xs).map (y :: ·)
def lkKs (n : Nat) (f : Nat → Option W) : List (Kd × W) → Option (List (Kd × W))
  | [] => some []
  | (k, x) :: xs => match lkW n f x with
    | none => none
    | some y => (lkKs n f xs).map ((k, y) :: ·)
def lkFs (n : Nat) (f : Nat → Option W) : List (Str × W) → Option (List (Str × W))
  | [] => some []
  | (k, x) :: xs => match lkW n f x with
    | none => none
    | some y => (lkFs n f xs).map ((k, y) :: ·)
end
/-- the i-th thing as a locked value, at most d deep; t: somebody further out may write it -/
def lkR (n : Nat) (t : Bool) (S : So) : Nat → Nat → Option W
  | 0, _ => none
  | d + 1, i => match S[i]? with
    | some (.lst xs) => (lkWs n (lkR n t S d) xs).map (.fl t)
    | some (.dct kvs) => (lkKs n (lkR n t S d) kvs).map (.fd t)
    | some (.ins C fs) => (lkFs n (lkR n t S d) fs).map (.fins t C)
    | none => none
def lkO (n : Nat) (f : Nat → Option W) : O → Option O
  | .lst xs => (lkWs n f xs).map .lst
  | .dct xs => (lkKs n f xs).map .dct
  | .ins C xs => (lkFs n f xs).map (.ins C)
def lkOs (n : Nat) (f : Nat → Option W) : List O → Option (List O)
  | [] => some []
  | x :: xs => match lkO n f x with
    | none => none
    | some y => (lkOs n f xs).map (y :: ·)
mutual
/-- nothing in it is the store's, or is written further out -/
def freeW : W → Bool
  | .ref _ => false
  | .tup xs => freeWs xs
  | .fl t xs => !t && freeWs xs
  | .fd t xs => !t && freeKs xs
  | .fins t _ xs => !t && freeFs xs
  | .non => true
  | .bl _ => true
  | .int _ => true
  | .str _ => true
  | .ty _ => true
  | .glo _ => true
def freeWs : List W → Bool
  | [] => true
  | x :: xs => freeW x && freeWs xs
def freeKs : List (Kd × W) → Bool
  | [] => true
  | (_, x) :: xs => freeW x && freeKs xs
def freeFs : List (Str × W) → Bool
  | [] => true
  | (_, x) :: xs => freeW x && freeFs xs
end
/-- behind a def that locks: the things from the n-th on are locked, the store is as long as before -/
def lockR (n : Nat) : Res W → Res W
  | .ok w S => match lkW n (lkR n false S deepS) w, lkOs n (lkR n false S deepS) (S.take n) with
    | some w', some S' => .ok w' S'
    | _, _ => .bad
  | .exn x S => match lkFs n (lkR n false S deepS) x.fs, lkOs n (lkR n false S deepS) (S.take n) with
    | some fs, some S' => .exn ⟨x.cls, fs⟩ S'
    | _, _ => .bad
  | .bad => .bad
/-- behind a def that borrowed the store S -/
def backR (S : So) : Res W → Res W
  | .ok w _ => if freeW w = true then .ok w S else .bad
  | .exn x _ => if freeFs x.fs = true then .exn x S else .bad
  | .bad => .bad
/-- a def's body -/
def bodyN (P : Pg) (call : Cf) (fi : Fi) (vs : List W) (S : So) : Res W :=
  (evS (execS P call deepT ⟨fi.N, defScope fi.st, fun _ => true⟩) (defBody fi.st) (vs.map some ++ List.replicate (fi.N.length - vs.length) none) S).bind fun r S1 => match r.2 with
    | .nx => .ok .non S1
    | .ret w => .ok w S1
    | _ => .bad
/-- the call of a def, at most k deep -/
def callN (P : Pg) : Nat → Cf
  | 0, _, _, _ => .bad
  | k + 1, f, vs, S => match P.F f with
    | none => .bad
    | some fi => if vs.length = fi.ps.length then
        if (P.er f).isSome = true then .ok (.fins false f (fi.ps.zip vs)) S
        else if fi.bw = true then match lkWs 0 (lkR 0 true S deepS) vs with
          | none => .bad
          | some us => backR S (lockR 0 (bodyN P (callN P k) fi us []))
        else if fi.fz = true then lockR S.length (bodyN P (callN P k) fi vs S)
        else bodyN P (callN P k) fi vs S
      else .bad
end Y

/-! An own error whose __init__ says super().__init__(text) and self.x = x: made, at the library's level. -/
namespace Y
open PySem PySem.W PySem.Calls PyProof.Rows PySem.HandSPX
abbrev erA (q1 q2 : Pos) (x : Str) : Arguments := { posonlyargs := [], args := [⟨"self", none, q1⟩, ⟨x, none, q2⟩], vararg := none, kwonlyargs := [], kw_defaults := [], kwarg := none, defaults := [] }
abbrev erB (msg x : Str) (p0 p1 p2 p3 p4 p5 p6 p7 p8 p9 : Pos) : List Stmt :=
  [.Expr (.Call (.Attribute (.Call (.Name "super" p0) [] [] p1) "__init__" p2) [.Constant (.str msg) 0 p3] [] p4) p5, .Assign [.Attribute (.Name "self" p6) x p7] (.Name x p8) p9]
abbrev erS (x : Str) : Scope := { kind := .function, names := [("self", .local), (x, .local), ("__class__", .free), ("super", .globalImplicit)], isGenerator := false, isCoroutine := false, more := [] }
/-- what the written part says of such a class -/
structure ErT (P : Program) (K : Frag) (C fI : Addr) (x : Str) : Prop where
  cls : ∃ nm q N bs bm sn sub ab col dd k0 k1 k2 k3 k5, K.lookup C = some (excClassObj nm q C N bs bm true sn sub ab col dd k0 k1 k2 k3 k5 "ValueError.__new__") ∧ refsVE bm = true ∧ alongIn K "__init__" bm = some (some (.builtin "ValueError.__init__"))
  ini : findIn K (.ref C) "__init__" = some (some (.ref fI))
  ity : typeIn K (.ref fI) = some (.type "function")
  fn : ∃ (oc : Value) (od : Option Addr) (osl : Array (Option Value)) (qual msg : Str) (q1 q2 p0 p1 p2 p3 p4 p5 p6 p7 p8 p9 : Pos) (cc cda : Addr) (kV doc pm ct : Value) (an : Option Addr) (cl : Value) (cld : Option Addr) (csl : Array (Option Value)) (ccl : Value) (cdd : Option Addr) (vs : Array Value) (ccs : Array (Option Value)) (file : Str) (tf : Tok),
    K.lookup fI = some ⟨oc, od, .func (fnX "__init__" qual (erA q1 q2 x) (erB msg x p0 p1 p2 p3 p4 p5 p6 p7 p8 p9) (erS x) [("__class__", cc)] .none kV doc pm an (.ref cda) ct), osl⟩ ∧ codeIn K (.ref cda) qual = true ∧
    K.lookup cc = some ⟨cl, cld, .cell (some (.ref C)), csl⟩ ∧ K.lookup cda = some ⟨ccl, cdd, .fields vs, ccs⟩ ∧ vs[2]? = some (.str file tf) ∧ ((P.main.file : Str) == file) = true ∧ (p2.endLine == p4.line) = true
  top : (P.main.scope.names.lookup ("super" : Str)).isSome = false
  sup : nsIn K mainGlobals "super" = some none
  ope : nsIn K cStatics "thirdparty.any" = some none
  subV : subIn K (.ref C) (.type "ValueError") = some true
  sa : findIn K (.ref C) "__setattr__" = some (some (.builtin "object.__setattr__"))
  att : findIn K (.ref C) x = some none
  nx : x ≠ "self" ∧ x ≠ "__class__" ∧ x ≠ "super" ∧ (x == ("__debug__" : Str)) = false
section
variable {prog : Program} {w : World} {A : Around} {E : Value → Shared → Prop} {K : Frag} {C fI : Addr} {x : Str} {mg mb : Str → Option Value}
theorem meth_eq {o : Expr} {name : Str} {apos pos p3 : Pos} {env : Env} {msg : Str} (h : (apos.endLine == pos.line) = true) : eval (.Call (.Attribute o name apos) [.Constant (.str msg) 0 p3] [] pos) env = (do
      let ov ← attributeBase o name env (eval o env)
      standAt apos.atName
      let (f, first) ← holding [ov] (getMethod ov name (do return (← importBound o env).getD true))
      callWith pos f first (backTo pos (starEach [.Constant (.str msg) 0 p3] env)) []) := by
  have hp : methodCallPos true o env apos pos = pure pos := by
    unfold methodCallPos
    rw [h]; rfl
  show (attributeBase o name env (eval o env) >>= fun ov => standAt apos.atName >>= fun _ => holding [ov] (calleeOf true o env ov name) >>= fun fx => methodCallPos true o env apos pos >>= fun cp => callWith cp fx.1 fx.2 (backTo pos (starEach [.Constant (.str msg) 0 p3] env)) []) = _
  rw [hp]; rfl
theorem hasB_VE (bm : List Value) (h : refsVE bm = true) : ∀ X : String, bm.contains (.type X) = ([.type "ValueError", .type "Exception", .type "BaseException", .type "object"] : List Value).contains (.type X) := fun X => refsVE_contains X bm h
/-- the wrapper called: the args are laid anew -/
theorem call_wr {h : Heap} {g : Array GenState} {d : Drawn} {t : Nat} {os : OsState} {nm q : Str} {N e u t0 : Addr} {bs bm : List Value} {hdct : Bool} {sn : List Str} {sub : List Value} {ab : Bool} {col : Option Bool} {dd : Option Addr} {k0 k1 k2 k3 k5 : Option Value} {rest : List Value} {Q : Value → Shared → Prop}
    (hC : h.get? C = some (excClassObj nm q C N bs bm hdct sn sub ab col dd k0 k1 k2 k3 k5 "ValueError.__new__")) (he : h.get? e = some (excO C t0)) (hu : h.get? u = some (kxs_mw "ValueError.__init__" e)) (hz : rest.length ≤ sizeLine)
    (hq : ∀ h' t1, (∀ b o, b ≠ e → h.get? b = some o → h'.get? b = some o) → h'.get? e = some (excO C t1) → Q .none ⟨h', g, d, t, os⟩) : wpAny (model prog w) A (call (.ref u) rest) Q E ⟨h, g, d, t, os⟩ := by
  refine wpAny_call (codeAny_of_tree ?_)
  show wpAny _ A.in1 (callAny (.ref u) ⟨rest, []⟩) _ _ _
  simp only [callAny]
  refine wpAny_bind (wpAny_load hu ?_)
  simp only [kxs_mw, show (Value.type "method-wrapper" == Value.type "method" || Value.type "method-wrapper" == Value.type "builtin_function_or_method" || Value.type "method-wrapper" == Value.type "method-wrapper") = true by decide, if_true]
  refine KFB.if_so (by decide) ?_
  refine wpAny_bind (check_bound_init F.excBase_ValueError.toExcCallFacts hC he rfl ?_)
  refine wpAny_bind (wpAny_pure (wpAny_pure ?_))
  refine ⟨plainId_quiet F.excBase_ValueError.init.plain _, codeAny_builtin F.excBase_ValueError.initEntry ?_⟩
  exact exc_init_tree (cls := .ref C) (t0 := t0) (dv := none) (c2 := .none) (c3 := .none) (b4 := .bool false) he hz fun h' k1 k2 _ => hq h' _ k1 k2
/-- __init__ run -/
theorem init_er (T : ErT prog K C fI x) {hp : Heap} {g : Array GenState} {d : Drawn} {t : Nat} {os : OsState} {e t0 : Addr} {v : Value} {args : Args} {R : Result → Shared → Prop} (hroom : A.depth < recursionLimit) (X : K.In hp) (hg : hp.Ns mainGlobals mg) (hb : hp.Ns builtinsNs mb) (hbb : ∀ y : Str, y ≠ "__name__" → mb y = bootBuiltins y) (hl : hp.NoLimit)
    (he : hp.get? e = some (excO C t0)) (hKe : K.lookup e = none) (hbind : ∀ fd : FuncData, hp.get? fI ≠ none → ∀ o, hp.get? fI = some o → o.data = .func fd → BindsTo ⟨hp, g, d, t, os⟩ fd args [("self", .ref e), (x, v)])
    (hq : ∀ h' t' dx t1, (∀ b o, b ≠ e → hp.get? b = some o → h'.get? b = some o) → hp.get? dx = none → dx ≠ e → h'.get? e = some { cls := .ref C, dict := some dx, data := .fields #[.ref t1, .none, .none, .none, .bool false, .none] } → h'.Ns1 dx (fun y => if y = x then some v else none) → R (.ok (.ret .none)) ⟨h', g, d, t', os⟩) :
    codeAny (model prog w) A (.call (.ref fI) args) R ⟨hp, g, d, t, os⟩ := by
  obtain ⟨nm, q, N, bs, bm, sn, sub, ab, col, dd, k0, k1, k2, k3, k5, lC, hbm, hal⟩ := T.cls
  obtain ⟨oc, od, osl, qual, msg, q1, q2, p0, p1, p2, p3, p4, p5, p6, p7, p8, p9, cc, cda, kV, doc, pm, ct, an, cl, cld, csl, ccl, cdd, vs, ccs, file, tf, lf, hcd, lcc, lcd, hvs, hfile, hsw⟩ := T.fn
  obtain ⟨n1, n2, n3, n4⟩ := T.nx
  have kx : (erS x).names.lookup x = some .local := by
    show List.lookup x [(("self" : Str), NameKind.local), (x, .local), ("__class__", .free), ("super", .globalImplicit)] = _
    rw [List.lookup_cons, show (x == ("self" : Str)) = false by simpa using n1, List.lookup_cons, show (x == x) = true by simp]
  have ks1 : (erS x).names.lookup ("self" : Str) = some .local := by
    show List.lookup ("self" : Str) [(("self" : Str), NameKind.local), (x, .local), ("__class__", .free), ("super", .globalImplicit)] = _
    rw [List.lookup_cons, show (("self" : Str) == ("self" : Str)) = true by decide]
  have kc : (erS x).names.lookup ("__class__" : Str) = some .free := by
    show List.lookup ("__class__" : Str) [(("self" : Str), NameKind.local), (x, .local), ("__class__", .free), ("super", .globalImplicit)] = _
    rw [List.lookup_cons, show (("__class__" : Str) == ("self" : Str)) = false by decide, List.lookup_cons, show (("__class__" : Str) == x) = false by simpa using (Ne.symm n2), List.lookup_cons, show (("__class__" : Str) == ("__class__" : Str)) = true by decide]
  have kp : (erS x).names.lookup ("super" : Str) = some .globalImplicit := by
    show List.lookup ("super" : Str) [(("self" : Str), NameKind.local), (x, .local), ("__class__", .free), ("super", .globalImplicit)] = _
    rw [List.lookup_cons, show (("super" : Str) == ("self" : Str)) = false by decide, List.lookup_cons, show (("super" : Str) == x) = false by simpa using (Ne.symm n3), List.lookup_cons, show (("super" : Str) == ("__class__" : Str)) = false by decide, List.lookup_cons, show (("super" : Str) == ("super" : Str)) = true by decide]
  refine ks_codeAny_call_defAt hroom (X _ _ lf) rfl hl (codeRec_of X hcd) rfl (hbind _ (by rw [X _ _ lf]; simp) _ (X _ _ lf) rfl) (fun y hy => ?_) (fun y hy => ?_) fun h₁ hns hk => ?_
  · simp only [fnX, erS, List.mem_cons, List.not_mem_nil, or_false] at hy
    rcases hy with rfl | rfl | rfl | rfl <;> exact fun z => by cases z
  · simp only [List.mem_cons, List.not_mem_nil, or_false] at hy
    rcases hy with rfl | rfl
    · exact ks1
    · exact kx
  have X1 : K.In h₁ := X.keeps hk
  have hso : (hp.get? hp.objs.size) = none := Heap.get?_none_of_le (Nat.le_refl _)
  have he1 : h₁.get? e = some (excO C t0) := hk _ _ he
  have lcl : clsIn K C = some { name := nm, bases := bs, mro := .ref C :: bm, ns := N, qualname := q, hasDict := true, slotNames := sn, subclasses := sub, abstract := ab, collection := col, hasDel := false } := by unfold clsIn; rw [lC] <;> rfl
  have mself : (fun y => ([("self", Value.ref e), (x, v)] : List (Str × Value)).reverse.lookup y) "self" = some (.ref e) := by
    show List.lookup ("self" : Str) [(x, v), ("self", Value.ref e)] = _
    rw [List.lookup_cons, show (("self" : Str) == x) = false by simpa using (Ne.symm n1), List.lookup_cons, show (("self" : Str) == ("self" : Str)) = true by decide]
  have mx : (fun y => ([("self", Value.ref e), (x, v)] : List (Str × Value)).reverse.lookup y) x = some v := by
    show List.lookup x [(x, v), ("self", Value.ref e)] = _
    rw [List.lookup_cons, show (x == x) = true by simp]
  refine ks_wpAt_execs_cons ?_
  refine ks_wpAt_Expr_any (ks_wpAt_MethodCall ?_ (meth_eq hsw)) rfl rfl
  refine ks_wpAt_super_base kp kc (by decide) rfl (X1 _ _ lf) rfl rfl rfl (X1 _ _ lcd) rfl hvs hfile T.top ?_
  refine ks_loadName_global rfl kp (loadGlobal_builtin (hg.keeps hk) (mg_none_of X hg T.sup) (hb.keeps hk) ((hbb _ (by decide +kernel)).trans (by decide +kernel)) ⟨rfl, ?_⟩)
  refine wpAny_loadName_free rfl kc rfl ⟨_, X1 _ _ lcc, rfl⟩ ?_
  refine wpAny_loadName_local rfl ks1 hns mself ?_
  refine ks_wpAny_isType_cls (X1 _ _ lC) rfl ⟨rfl, ?_⟩
  have hmroC : mroIn K C (.ref C) = some true := by
    unfold mroIn
    rw [lcl, Option.bind_some]
    show (if _ then _ else _) = _
    rw [if_neg (by simp)]
    simp
  refine ks_wpAny_call_super (X1 _ _ lC) rfl he1 rfl (fun c z => by cases z) (looks_mroIn X1 hmroC) fun h₂ so2 k2 => ?_
  have X2 : K.In h₂ := X1.keeps k2
  have he2 := k2 _ _ he1
  have xC : e ≠ C := fun z => by
    subst z
    rw [X1 _ _ lC] at he1
    cases he1
  have hI : Looks (model prog w) h₂ (isInstance (.ref e) (.type "ValueError")) true := by
    have I : InstAt h₂ e (excO C t0) C none := ⟨he2, rfl, rfl, trivial⟩
    exact I.type.andThen (looks_subIn X2 T.subV)
  refine kxs_getMethod kxs_ValueError so2 (looks_opaque X2 T.ope) (l₀ := .ref C :: bm) (fun A Q E s k q => wpAny_bind ((looks_clsIn X2 lcl) A _ E s k (wpAny_pure q))) (by simp) X2 hal hI xC (by decide) ?_
  have hu : (h₂.push (kxs_mw "ValueError.__init__" e)).get? h₂.objs.size = some (kxs_mw "ValueError.__init__" e) := Heap.get?_push_size _ rfl
  have k3 : ∀ b o, h₂.get? b = some o → (h₂.push (kxs_mw "ValueError.__init__" e)).get? b = some o := fun b o q => Heap.get?_push_of_some _ q
  refine kxs_callWith (i := "ValueError.__init__") (x := e) rfl ?_
  refine evalArgs_plain (Calls.spliced_cons (Calls.Constant_str (k := 0) (pos := p3) (Calls.spliced_nil ⟨hu, ?_⟩)))
  refine call_wr (k3 _ _ (X2 _ _ lC)) (k3 _ _ he2) hu (by show 1 ≤ sizeLine; rw [sizeLine_eq]; omega) fun h₄ t4 k4 he4 => ?_
  -- self.x = x
  have kk : ∀ b o, b ≠ e → h₁.get? b = some o → h₄.get? b = some o := fun b o n q => k4 b o n (k3 _ _ (k2 _ _ q))
  have X4 : K.In h₄ := fun b o l => kk b o (fun z => by
    subst z
    rw [hKe] at l
    cases l) (X1 b o l)
  have eL : e ≠ hp.objs.size := Nat.ne_of_lt (Heap.lt_size he)
  have hns4 : h₄.Ns hp.objs.size (fun y => ([("self", Value.ref e), (x, v)] : List (Str × Value)).reverse.lookup y) := by
    obtain ⟨o, es, ep, ho, r⟩ := hns
    exact ⟨o, es, ep, kk _ _ (Ne.symm eL) ho, r⟩
  refine ks_wpAt_execs_cons (ks_wpAt_Assign_Attr (wpAt_of_wpAny (wpAny_Name (wpAny_loadName_local rfl kx hns4 mx ?_) n4)) rfl)
  refine wpAny_Name (wpAny_loadName_local rfl ks1 hns4 mself ?_) (by decide)
  refine set_plain X4 (ox := { cls := .ref C, dict := none, data := .fields #[.ref t4, .none, .none, .none, .bool false, .none] }) (od := none) ⟨he4, rfl, rfl, trivial⟩ T.sa ?_
  refine exc_osa X4 he4 lcl (show refsVE (.ref C :: bm) = true from hbm) rfl T.att fun h₅ t5 dx k5' dn dne he5 hn5 => ?_
  refine wpAt_of_wpAny (wpAny_execs_nil ?_)
  refine hq h₅ t5 dx t4 (fun b o n q => k5' b o n (kk b o n (hk _ _ q))) ?_ dne he5 hn5
  cases z : hp.get? dx with
  | none => rfl
  | some o => exact absurd (Nat.lt_of_lt_of_le (Heap.lt_size (kk _ _ dne (hk _ _ z))) dn) (Nat.lt_irrefl _)
end
end Y

/-! Such an error made by its class's call, by position or by name. -/
namespace Y
open PySem PySem.W PySem.Calls PyProof.Rows PySem.HandSPX
section
variable {M : Model} {A : Around} {E : Value → Shared → Prop} {h : Heap} {g : Array GenState} {d : Drawn} {t : Nat} {os : OsState}
variable {nm q : Str} {C N : Addr} {bs bm bmB : List Value} {hdct : Bool} {sn : List Str} {sub : List Value} {ab : Bool} {col : Option Bool} {dd : Option Addr} {k0 k1 k2 k3 k5 : Option Value} {B newId initId : String}
theorem check_newK (FB : ExcBaseFacts B newId initId bmB) (hT : ∀ X : String, bm.contains (.type X) = bmB.contains (.type X)) {rest : List Value} {kw : List (Str × Value)} {Q : Unit → Shared → Prop}
    (hC : h.get? C = some (excClassObj nm q C N bs bm hdct sn sub ab col dd k0 k1 k2 k3 k5 newId)) (hq : Q () ⟨h, g, d, t, os⟩) : wpAny M A (checkBuiltinCall newId ⟨.ref C :: rest, kw⟩) Q E ⟨h, g, d, t, os⟩ := by
  have c1 : (Value.ref C :: bm).contains (.type B) = true := by rw [List.contains_cons, hT, FB.hasB, Bool.or_true]
  have c2 := FB.noStar
  simp only [checkBuiltinCall, FB.newKind, FB.newSplit, FB.newRow]
  repeat (first | refine wpAny_loadPart_at hC ?_ | (refine wpAny_isSubtype_exc hC ?_; rw [c1]) | refine wpAny_staticBase_exc hC ?_ | refine wpAny_madeBy_exc hC ?_ | simp only [bne_self_eq_false, Bool.false_eq_true, if_false] | wp_step)
  all_goals exact hq
theorem check_typeK {rest : List Value} {kw : List (Str × Value)} {Q : Unit → Shared → Prop} (hC : h.get? C = some (excClassObj nm q C N bs bm hdct sn sub ab col dd k0 k1 k2 k3 k5 newId))
    (hq : Q () ⟨h, g, d, t, os⟩) : wpAny M A (checkBuiltinCall "type.__call__" ⟨.ref C :: rest, kw⟩) Q E ⟨h, g, d, t, os⟩ := by
  have c1 := tc_sub
  have hTy : (⟨h, g, d, t, os⟩ : Shared).TypeIs (.ref C) "type" := ⟨_, hC, rfl⟩
  simp only [checkBuiltinCall, tc_kind, tc_split]
  repeat (any_goals (first | assumption | with_reducible refine wpAny_loadPart_at hC ?_ | with_reducible refine wpAny_onRaise ?_ | with_reducible refine wpAny_map ?_ | wp_step))
end
section
variable {prog : Program} {w : World} {A : Around} {E : Value → Shared → Prop} {R : Result → Shared → Prop} {h : Heap} {g : Array GenState} {d : Drawn} {t : Nat} {os : OsState}
variable {nm q : Str} {C N : Addr} {bs bm bmB : List Value} {hdct : Bool} {sn : List Str} {sub : List Value} {ab : Bool} {col : Option Bool} {dd : Option Addr} {k0 k1 k2 k3 k5 : Option Value} {B newId initId : String}
theorem newK (FB : ExcBaseFacts B newId initId bmB) (hT : ∀ X : String, bm.contains (.type X) = bmB.contains (.type X)) {rest : List Value} {kw : List (Str × Value)}
    (hC : h.get? C = some (excClassObj nm q C N bs bm hdct sn sub ab col dd k0 k1 k2 k3 k5 newId))
    (hq : R (.ok (.ret (.ref (h.objs.size + 1)))) ⟨(h.push (kdv_tup rest)).push (excO C h.objs.size), g, d, t, os⟩) (hz : rest.length ≤ sizeLine) :
    codeAny (model prog w) A (.builtin newId ⟨.ref C :: rest, kw⟩) R ⟨h, g, d, t, os⟩ := by
  have hends := FB.ends
  have c1 : (Value.ref C :: bm).contains (.type B) = true := by rw [List.contains_cons, hT, FB.hasB, Bool.or_true]
  have c2 : (Value.ref C :: bm).contains (.type "AttributeError") = false := by rw [List.contains_cons, hT, FB.noAttr]; rfl
  have c3 : (Value.ref C :: bm).contains (.type "NameError") = false := by rw [List.contains_cons, hT, FB.noName]; rfl
  refine codeAny_builtinAt FB.entry ?_
  unfold Builtin.«BaseException.__new__»
  refine _root_.PySem.wpAt_bind ?_
  show _root_.PySem.wpAt _ _ _ (stack >>= _) _ _ _
  refine _root_.PySem.wpAt_bind (_root_.PySem.wpAt_stack fun p below => wpAt_of_wpAny ?_)
  wp_walk
  refine wpAt_of_wpAny ?_
  rw [FB.owner]
  repeat (first | with_reducible refine wpAny_madeHere_exc FB.canon hC ?_ | with_reducible refine wpAny_loadPart_at hC ?_ | (with_reducible refine wpAny_isSubtype_exc hC ?_; first | rw [c1] | rw [c2] | rw [c3]) | wp_step)
  show R _ _
  rw [Heap.size_push]
  exact hq
theorem typeCallK (FB : ExcBaseFacts B newId initId bmB) (hT : ∀ X : String, bm.contains (.type X) = bmB.contains (.type X)) {rest : List Value} {kw : List (Str × Value)} {fI : Addr} {Q : Fin → Shared → Prop}
    (hC : h.get? C = some (excClassObj nm q C N bs bm hdct sn sub ab col dd k0 k1 k2 k3 k5 newId))
    (hi : Looks (model prog w) h (typeLookup (.ref C) "__init__") (some (.ref fI))) (hb : ∀ self, Looks (model prog w) h (bindSpecial (.ref fI) self) (.ref fI, [self])) (hz : rest.length ≤ sizeLine)
    (hq : codeAny (model prog w) A (.call (.ref fI) ⟨.ref (h.objs.size + 1) :: rest, kw⟩)
      (fun r s' => match r with | .ok (.ret v) => v = .none ∧ Q (.done (.ret (.ref (h.objs.size + 1)))) s' | .ok _ => False | .error e => E e s')
      ⟨(h.push (kdv_tup rest)).push (excO C h.objs.size), g, d, t, os⟩) :
    wpAny (model prog w) A (Builtin.«type.__call__» ⟨.ref C :: rest, kw⟩) Q E ⟨h, g, d, t, os⟩ := by
  repeat (first | with_reducible refine wpAny_loadPart_at hC ?_ | with_reducible refine wpAny_madeBy_exc hC ?_ | wp_step)
  refine codeAny_call_builtin_code (Code.quiet_builtin _ FB.quiet) (check_newK FB hT hC ?_)
  refine newK FB hT hC ?_ hz
  show wpAny _ _ _ _ _ _
  have k : ∀ b o, h.get? b = some o → ((h.push (kdv_tup rest)).push (excO C h.objs.size)).get? b = some o := fun b o e => Heap.get?_push_of_some _ (Heap.get?_push_of_some _ e)
  have hC1 := k _ _ hC
  have hget : ((h.push (kdv_tup rest)).push (excO C h.objs.size)).get? (h.objs.size + 1) = some (excO C h.objs.size) := by heap_get
  have cC : (Value.ref C :: bm).contains (.ref C) = true := by simp
  have i1 := hi.keeps k
  have b1 := (hb (.ref (h.objs.size + 1))).keeps k
  unfold isInstance
  repeat (first | with_reducible refine wpAny_loadPart_at hget ?_ | (with_reducible refine wpAny_isSubtype_exc hC1 ?_; rw [cC]) | wp_step)
  show wpAny _ _ (typeLookup (.ref C) _) _ _ _
  refine i1.at ?_
  refine wpAny_holding (wpAny_bind (b1.at ?_))
  refine wpAny_bind (wpAny_call (codeAny_mono hq fun r s' z => ?_))
  rcases r with e | (v | _ | _ | _) <;> first | exact z | exact z.elim | skip
  obtain ⟨rfl, z⟩ := z
  first
    | exact wpAny_pure (wpAny_pure z)
    | (wp_walk; exact z)
/-- a class called, also by names -/
theorem callK (FB : ExcBaseFacts B newId initId bmB) (hT : ∀ X : String, bm.contains (.type X) = bmB.contains (.type X)) {rest : List Value} {kw : List (Str × Value)} {fI : Addr}
    (hC : h.get? C = some (excClassObj nm q C N bs bm hdct sn sub ab col dd k0 k1 k2 k3 k5 newId))
    (hi : Looks (model prog w) h (typeLookup (.ref C) "__init__") (some (.ref fI))) (hb : ∀ self, Looks (model prog w) h (bindSpecial (.ref fI) self) (.ref fI, [self])) (hz : rest.length ≤ sizeLine)
    (hq : codeAny (model prog w) (A.under (.builtin "type.__call__" ⟨.ref C :: rest, kw⟩)) (.call (.ref fI) ⟨.ref (h.objs.size + 1) :: rest, kw⟩) (InitBack (h.objs.size + 1) R)
      ⟨(h.push (kdv_tup rest)).push (excO C h.objs.size), g, d, t, os⟩) :
    codeAny (model prog w) A (.call (.ref C) ⟨rest, kw⟩) R ⟨h, g, d, t, os⟩ := by
  have f1 := tc_lookup
  have f2 := tc_bind (.ref C)
  have hTy : (⟨h, g, d, t, os⟩ : Shared).TypeIs (.ref C) "type" := ⟨_, hC, rfl⟩
  refine codeAny_of_tree ?_
  show wpAny _ _ (callAny (.ref C) _) _ _ _
  repeat (any_goals (first | assumption | with_reducible refine wpAny_loadPart_at hC ?_ | wp_step))
  refine ⟨rfl, ?_⟩
  refine codeAny_call_builtin_at (Code.quiet_builtin _ (by decide +kernel)) entry_typeCall (check_typeK hC (typeCallK FB hT hC hi hb hz ?_))
  refine codeAny_mono hq fun r s' z => ?_
  rcases r with e | (v | _ | _ | _) <;> exact z
end
end Y

/-! The store of the reader and the abstract heap of the layer. -/
namespace Y
open PySem PySem.Spec L2

/-- the addresses: of the store's things; of what others may write (borrowed); of what is being built -/
structure Ix where
  st : List Addr
  bz : List Addr
  bd : List Addr
/-- what never changes in the heap, stays: all but the store's things and what is being built -/
structure Keep (H : Hp) (I : Ix) (H' : Hp) (I' : Ix) : Prop where
  st : I.st <+: I'.st
  bz : I'.bz = I.bz
  bd : I'.bd = I.bd
  kp : ∀ a o, H a = some o → a ∉ I.st → H' a = some o ∧ a ∉ I'.st
  tup : ∀ a xs, H a = some (.tup xs) → H' a = some (.tup xs)
  frz : ∀ a o u, H a = some (.frz o u) → H' a = some (.frz o u)
  xd : ∀ a fs, H a = some (.xd fs) → H' a = some (.xd fs)
theorem Keep.refl (H : Hp) (I : Ix) : Keep H I H I := ⟨List.prefix_refl _, rfl, rfl, fun _ _ h n => ⟨h, n⟩, fun _ _ h => h, fun _ _ _ h => h, fun _ _ h => h⟩
theorem Keep.trans {H H1 H2 : Hp} {I I1 I2 : Ix} (a : Keep H I H1 I1) (b : Keep H1 I1 H2 I2) : Keep H I H2 I2 :=
  ⟨a.st.trans b.st, b.bz.trans a.bz, b.bd.trans a.bd, fun x o h n => (fun q => b.kp x o q.1 q.2) (a.kp x o h n), fun x xs h => b.tup x xs (a.tup x xs h), fun x o u h => b.frz x o u (a.frz x o u h), fun x u h => b.xd x u (a.xd x u h)⟩
/-- a new thing that the store does not know -/
theorem Keep.junk {H : Hp} {I : Ix} {p : Addr} {o : HO} (h : H p = none) : Keep H I (upd H p o) I :=
  ⟨List.prefix_refl _, rfl, rfl, fun a u e n => ⟨by rw [upd_ne (ne_of_none e h)]; exact e, n⟩, fun a xs e => by rw [upd_ne (ne_of_none e h)]; exact e, fun a ob u e => by rw [upd_ne (ne_of_none e h)]; exact e, fun a u e => by rw [upd_ne (ne_of_none e h)]; exact e⟩
def Ix.add (I : Ix) (p : Addr) : Ix := ⟨I.st ++ [p], I.bz, I.bd⟩
theorem Keep.new {H : Hp} {I : Ix} {p : Addr} {o : HO} (h : H p = none) : Keep H I (upd H p o) (I.add p) :=
  ⟨List.prefix_append _ _, rfl, rfl, fun a u e n => ⟨by rw [upd_ne (ne_of_none e h)]; exact e, fun z => (List.mem_append.mp z).elim n fun z => by rw [List.mem_singleton] at z; subst z; rw [h] at e; cases e⟩, fun a xs e => by rw [upd_ne (ne_of_none e h)]; exact e, fun a ob u e => by rw [upd_ne (ne_of_none e h)]; exact e, fun a u e => by rw [upd_ne (ne_of_none e h)]; exact e⟩
/-- a list, a dict, an instance is written -/
def isM : HO → Bool
  | .lst _ => true
  | .dK _ => true
  | .ins _ _ _ => true
  | .ext _ => true
  | _ => false
theorem Keep.upd {H : Hp} {I : Ix} {p : Addr} {o u : HO} (h : H p = some u) (m : isM u = true) (hp : p ∈ I.st) : Keep H I (upd H p o) I :=
  ⟨List.prefix_refl _, rfl, rfl, fun a w e n => ⟨by rw [upd_ne (fun z => by subst z; exact n hp)]; exact e, n⟩,
   fun a xs e => by
    have n : a ≠ p := fun z => by subst z; rw [h] at e; cases e; cases m
    rw [upd_ne n]; exact e,
   fun a ob w e => by
    have n : a ≠ p := fun z => by subst z; rw [h] at e; cases e; cases m
    rw [upd_ne n]; exact e,
   fun a w e => by
    have n : a ≠ p := fun z => by subst z; rw [h] at e; cases e; cases m
    rw [upd_ne n]; exact e⟩
theorem pre_get {I I' : List Addr} (p : I <+: I') {i : Nat} {a : Addr} (h : I[i]? = some a) : I'[i]? = some a := by
  obtain ⟨t, rfl⟩ := p
  obtain ⟨hl, _⟩ := List.getElem?_eq_some_iff.mp h
  rw [List.getElem?_append_left hl]; exact h
/-- a tuple to be read -/
def FzT (K : PySem.W.Frag) (H : Hp) (a : Addr) (xs : List V) : Prop := SqT K H a xs
theorem keepT {K : PySem.W.Frag} {H H' : Hp} {I I' : Ix} {a : Addr} {xs : List V} (k : Keep H I H' I') (h : SqT K H a xs) : SqT K H' a xs := by
  rcases h with (h | ⟨o, h⟩) | h
  · exact .inl (.inl (k.tup _ _ h))
  · exact .inl (.inr ⟨o, k.frz _ _ _ h⟩)
  · exact .inr h
/-- not the store's, not being built; nor borrowed (unless t) -/
structure Out (I : Ix) (t : Bool) (a : Addr) : Prop where
  st : a ∉ I.st
  bd : a ∉ I.bd
  bz : t = false → a ∉ I.bz
theorem Out.mono {H H' : Hp} {I I' : Ix} {t : Bool} {a : Addr} {o : HO} (k : Keep H I H' I') (h : H a = some o) (x : Out I t a) : Out I' t a :=
  ⟨(k.kp a o h x.st).2, by rw [k.bd]; exact x.bd, by rw [k.bz]; exact x.bz⟩
def kLst (K : PySem.W.Frag) (a : Addr) (xs : List V) : Prop := ∃ (o : Obj) (its : Array Value) (n : Nat), K.lookup a = some o ∧ o.cls = .type "list" ∧ o.dict = none ∧ o.data = .seq its n ∧ its.size ≤ sizeLine ∧ Vals xs its.toList
/-- a list that nobody writes -/
def FzL (K : PySem.W.Frag) (H : Hp) (I : Ix) (t : Bool) (a : Addr) (xs : List V) : Prop := (H a = some (.lst xs) ∧ Out I t a) ∨ (∃ o, H a = some (.frz o (.lst xs))) ∨ kLst K a xs
theorem keepF {K : PySem.W.Frag} {H H' : Hp} {I I' : Ix} {t : Bool} {a : Addr} {xs : List V} (k : Keep H I H' I') (h : FzL K H I t a xs) : FzL K H' I' t a xs := by
  rcases h with ⟨h, x⟩ | ⟨o, h⟩ | h
  · exact .inl ⟨(k.kp _ _ h x.st).1, x.mono k h⟩
  · exact .inr (.inl ⟨o, k.frz _ _ _ h⟩)
  · exact .inr (.inr h)
theorem FzL.now {K : PySem.W.Frag} {H : Hp} {I : Ix} {t : Bool} {a : Addr} {xs : List V} (h : FzL K H I t a xs) : SqL K H a xs := by
  rcases h with ⟨h, x⟩ | h | h
  · exact .inl (.inl h)
  · exact .inl (.inr h)
  · exact .inr h
def FzD (H : Hp) (I : Ix) (t : Bool) (a : Addr) (xs : List (Key × V)) : Prop := H a = some (.dK xs) ∧ Out I t a
theorem keepD {H H' : Hp} {I I' : Ix} {t : Bool} {a : Addr} {xs : List (Key × V)} (k : Keep H I H' I') (h : FzD H I t a xs) : FzD H' I' t a xs := ⟨(k.kp _ _ h.1 h.2.st).1, h.2.mono k h.1⟩
/-- an instance, or an error of one's own with its dict -/
def FzI (H : Hp) (I : Ix) (t : Bool) (a C dx : Addr) (xs : List (Str × V)) : Prop := (H a = some (.ins C dx xs) ∧ Out I t a) ∨ ((H a = some (exo a C (some dx)) ∧ Out I t a) ∧ H dx = some (exd dx xs) ∧ Out I t dx)

/-- the written part and the module's names -/
structure Gd where
  K : PySem.W.Frag
  mg : Str → Option Value
def kOf : Kd → Option Key
  | .int i => some (.inl i)
  | .str x => some (.inr x)
  | .tup _ => none

mutual
def RW (G : Gd) (H : Hp) (I : Ix) : W → V → Prop
  | .non, v => v = .non
  | .bl b, v => v = .bl b
  | .int i, v => v = .int i
  | .str x, v => v = .str x
  | .ty n, v => v = .ty n
  | .tup ws, v => ∃ a vs, v = .ref a ∧ SqT G.K H a vs ∧ RWs G H I ws vs
  | .fl t ws, v => ∃ a vs, v = .ref a ∧ FzL G.K H I t a vs ∧ RWs G H I ws vs
  | .fd t ws, v => ∃ a vs, v = .ref a ∧ FzD H I t a vs ∧ RKs G H I ws vs
  | .fins t C ws, v => ∃ a c dx vs, v = .ref a ∧ G.mg C = some (.ref c) ∧ FzI H I t a c dx vs ∧ RFs G H I ws vs
  | .ref i, v => ∃ a, v = .ref a ∧ I.st[i]? = some a
  | .glo x, v => ∃ a, v = .ref a ∧ G.mg x = some (.ref a)
def RWs (G : Gd) (H : Hp) (I : Ix) : List W → List V → Prop
  | [], vs => vs = []
  | w :: ws, vs => ∃ v r, vs = v :: r ∧ RW G H I w v ∧ RWs G H I ws r
/-- keys and values of a dict -/
def RKs (G : Gd) (H : Hp) (I : Ix) : List (Kd × W) → List (Key × V) → Prop
  | [], ys => ys = []
  | (k, w) :: r, ys => ∃ q v t, ys = (q, v) :: t ∧ kOf k = some q ∧ RW G H I w v ∧ RKs G H I r t
/-- names and values of attributes -/
def RFs (G : Gd) (H : Hp) (I : Ix) : List (Str × W) → List (Str × V) → Prop
  | [], ys => ys = []
  | (k, w) :: r, ys => ∃ v t, ys = (k, v) :: t ∧ RW G H I w v ∧ RFs G H I r t
end
/-- what values lean on is there too -/
structure Mv (H : Hp) (I : Ix) (H' : Hp) (I' : Ix) : Prop where
  st : I.st <+: I'.st
  tup : ∀ a xs, H a = some (.tup xs) → H' a = some (.tup xs)
  frz : ∀ a o u, H a = some (.frz o u) → H' a = some (.frz o u)
  out : ∀ a o t, H a = some o → Out I t a → H' a = some o ∧ Out I' t a
theorem Mv.trans {H H1 H2 : Hp} {I I1 I2 : Ix} (a : Mv H I H1 I1) (b : Mv H1 I1 H2 I2) : Mv H I H2 I2 :=
  ⟨a.st.trans b.st, fun x xs h => b.tup x xs (a.tup x xs h), fun x o u h => b.frz x o u (a.frz x o u h), fun x o t h q => (fun z => b.out x o t z.1 z.2) (a.out x o t h q)⟩
theorem Mv.refl (H : Hp) (I : Ix) : Mv H I H I := ⟨List.prefix_refl _, fun _ _ h => h, fun _ _ _ h => h, fun _ _ _ h q => ⟨h, q⟩⟩
theorem Keep.mv {H H' : Hp} {I I' : Ix} (k : Keep H I H' I') : Mv H I H' I' := ⟨k.st, k.tup, k.frz, fun a o t h x => ⟨(k.kp a o h x.st).1, x.mono k h⟩⟩
theorem Mv.sqT {K : PySem.W.Frag} {H H' : Hp} {I I' : Ix} {a : Addr} {xs : List V} (k : Mv H I H' I') (h : SqT K H a xs) : SqT K H' a xs := by
  rcases h with (h | ⟨o, h⟩) | h
  · exact .inl (.inl (k.tup _ _ h))
  · exact .inl (.inr ⟨o, k.frz _ _ _ h⟩)
  · exact .inr h
theorem Mv.fzL {K : PySem.W.Frag} {H H' : Hp} {I I' : Ix} {t : Bool} {a : Addr} {xs : List V} (k : Mv H I H' I') (h : FzL K H I t a xs) : FzL K H' I' t a xs := by
  rcases h with ⟨h, x⟩ | ⟨o, h⟩ | h
  · exact .inl (k.out _ _ _ h x)
  · exact .inr (.inl ⟨o, k.frz _ _ _ h⟩)
  · exact .inr (.inr h)
theorem Mv.fzD {H H' : Hp} {I I' : Ix} {t : Bool} {a : Addr} {xs : List (Key × V)} (k : Mv H I H' I') (h : FzD H I t a xs) : FzD H' I' t a xs := k.out _ _ _ h.1 h.2
theorem Mv.fzI {H H' : Hp} {I I' : Ix} {t : Bool} {a C dx : Addr} {xs : List (Str × V)} (k : Mv H I H' I') (h : FzI H I t a C dx xs) : FzI H' I' t a C dx xs := by
  rcases h with h | ⟨h, q⟩
  · exact .inl (k.out _ _ _ h.1 h.2)
  · exact .inr ⟨k.out _ _ _ h.1 h.2, k.out _ _ _ q.1 q.2⟩
section
variable {G : Gd} {H H' : Hp} {I I' : Ix}
mutual
theorem RW.mv (k : Mv H I H' I') : ∀ {w : W} {v : V}, RW G H I w v → RW G H' I' w v
  | .non, _, h => by unfold RW at h ⊢; exact h
  | .bl _, _, h => by unfold RW at h ⊢; exact h
  | .int _, _, h => by unfold RW at h ⊢; exact h
  | .str _, _, h => by unfold RW at h ⊢; exact h
  | .ty _, _, h => by unfold RW at h ⊢; exact h
  | .tup ws, _, h => by
    unfold RW at h ⊢
    obtain ⟨a, vs, e, s, r⟩ := h
    exact ⟨a, vs, e, k.sqT s, RWs.mv k r⟩
  | .fl t ws, _, h => by
    unfold RW at h ⊢
    obtain ⟨a, vs, e, s, r⟩ := h
    exact ⟨a, vs, e, k.fzL s, RWs.mv k r⟩
  | .fd t ws, _, h => by
    unfold RW at h ⊢
    obtain ⟨a, vs, e, s, r⟩ := h
    exact ⟨a, vs, e, k.fzD s, RKs.mv k r⟩
  | .fins t C ws, _, h => by
    unfold RW at h ⊢
    obtain ⟨a, c, dx, vs, e, m, s, r⟩ := h
    exact ⟨a, c, dx, vs, e, m, k.fzI s, RFs.mv k r⟩
  | .ref i, _, h => by
    unfold RW at h ⊢
    obtain ⟨a, e, s⟩ := h
    exact ⟨a, e, pre_get k.st s⟩
  | .glo x, _, h => by unfold RW at h ⊢; exact h
theorem RWs.mv (k : Mv H I H' I') : ∀ {ws : List W} {vs : List V}, RWs G H I ws vs → RWs G H' I' ws vs
  | [], _, h => by unfold RWs at h ⊢; exact h
  | w :: ws, _, h => by
    unfold RWs at h ⊢
    obtain ⟨v, r, e, h1, h2⟩ := h
    exact ⟨v, r, e, RW.mv k h1, RWs.mv k h2⟩
theorem RKs.mv (k : Mv H I H' I') : ∀ {ws : List (Kd × W)} {vs : List (Key × V)}, RKs G H I ws vs → RKs G H' I' ws vs
  | [], _, h => by unfold RKs at h ⊢; exact h
  | (_, w) :: ws, _, h => by
    unfold RKs at h ⊢
    obtain ⟨q, v, r, e, e2, h1, h2⟩ := h
    exact ⟨q, v, r, e, e2, RW.mv k h1, RKs.mv k h2⟩
theorem RFs.mv (k : Mv H I H' I') : ∀ {ws : List (Str × W)} {vs : List (Str × V)}, RFs G H I ws vs → RFs G H' I' ws vs
  | [], _, h => by unfold RFs at h ⊢; exact h
  | (_, w) :: ws, _, h => by
    unfold RFs at h ⊢
    obtain ⟨v, r, e, h1, h2⟩ := h
    exact ⟨v, r, e, RW.mv k h1, RFs.mv k h2⟩
end
end
section
variable {G : Gd} {H H' : Hp} {I I' : Ix}
theorem RW.mono {w : W} {v : V} (k : Keep H I H' I') (h : RW G H I w v) : RW G H' I' w v := h.mv k.mv
theorem RWs.mono {w : List W} {v : List V} (k : Keep H I H' I') (h : RWs G H I w v) : RWs G H' I' w v := h.mv k.mv
theorem RKs.mono {w : List (Kd × W)} {v : List (Key × V)} (k : Keep H I H' I') (h : RKs G H I w v) : RKs G H' I' w v := h.mv k.mv
theorem RFs.mono {w : List (Str × W)} {v : List (Str × V)} (k : Keep H I H' I') (h : RFs G H I w v) : RFs G H' I' w v := h.mv k.mv
end
theorem RWs.nil {G : Gd} {H : Hp} {I : Ix} : RWs G H I [] [] := by unfold RWs; rfl
theorem RWs.cons {G : Gd} {H : Hp} {I : Ix} {w : W} {ws : List W} {v : V} {vs : List V} (h : RW G H I w v) (r : RWs G H I ws vs) : RWs G H I (w :: ws) (v :: vs) := by
  rw [RWs]; exact ⟨v, vs, rfl, h, r⟩
theorem RWs.inv {G : Gd} {H : Hp} {I : Ix} {w : W} {ws : List W} {vs : List V} (h : RWs G H I (w :: ws) vs) : ∃ v r, vs = v :: r ∧ RW G H I w v ∧ RWs G H I ws r := by
  rw [RWs] at h; exact h
theorem RWs.inv0 {G : Gd} {H : Hp} {I : Ix} {vs : List V} (h : RWs G H I [] vs) : vs = [] := by
  rw [RWs] at h; exact h
theorem RWs.len {G : Gd} {H : Hp} {I : Ix} : ∀ {ws : List W} {vs : List V}, RWs G H I ws vs → ws.length = vs.length
  | [], _, h => by have q := h.inv0; subst q; rfl
  | w :: ws, _, h => by
    obtain ⟨v, r, rfl, _, h2⟩ := h.inv
    simp [RWs.len h2]
theorem RWs.get {G : Gd} {H : Hp} {I : Ix} : ∀ {ws : List W} {vs : List V} {i : Nat} {w : W}, RWs G H I ws vs → ws[i]? = some w → ∃ v, vs[i]? = some v ∧ RW G H I w v
  | [], _, _, _, _, e => by simp at e
  | x :: ws, _, 0, w, h, e => by
    obtain ⟨v, r, rfl, h1, _⟩ := h.inv
    simp at e; subst e
    exact ⟨v, by simp, h1⟩
  | x :: ws, _, i + 1, w, h, e => by
    obtain ⟨v, r, rfl, _, h2⟩ := h.inv
    obtain ⟨u, h3, h4⟩ := RWs.get (i := i) h2 (by simpa using e)
    exact ⟨u, by simpa using h3, h4⟩
theorem RWs.getN {G : Gd} {H : Hp} {I : Ix} {ws : List W} {vs : List V} {i : Nat} (h : RWs G H I ws vs) (e : ws[i]? = none) : vs[i]? = none := by
  have := h.len
  rw [List.getElem?_eq_none_iff] at e ⊢
  omega
theorem RWs.append {G : Gd} {H : Hp} {I : Ix} : ∀ {ws zs : List W} {vs us : List V}, RWs G H I ws vs → RWs G H I zs us → RWs G H I (ws ++ zs) (vs ++ us)
  | [], _, _, _, h, q => by rw [h.inv0]; exact q
  | w :: ws, _, _, _, h, q => by
    obtain ⟨v, r, rfl, h1, h2⟩ := h.inv
    exact .cons h1 (RWs.append h2 q)
theorem RWs.take {G : Gd} {H : Hp} {I : Ix} : ∀ {ws : List W} {vs : List V} (n : Nat), RWs G H I ws vs → RWs G H I (ws.take n) (vs.take n)
  | _, _, 0, _ => .nil
  | [], _, n + 1, h => by rw [h.inv0]; exact .nil
  | w :: ws, _, n + 1, h => by
    obtain ⟨v, r, rfl, h1, h2⟩ := h.inv
    exact .cons h1 (RWs.take n h2)
theorem RWs.drop {G : Gd} {H : Hp} {I : Ix} : ∀ {ws : List W} {vs : List V} (n : Nat), RWs G H I ws vs → RWs G H I (ws.drop n) (vs.drop n)
  | _, _, 0, h => h
  | [], _, n + 1, h => by rw [h.inv0]; exact .nil
  | w :: ws, _, n + 1, h => by
    obtain ⟨v, r, rfl, h1, h2⟩ := h.inv
    exact RWs.drop n h2
theorem RWs.cut {G : Gd} {H : Hp} {I : Ix} {ws : List W} {vs : List V} (lo hi : Option Int) (h : RWs G H I ws vs) : RWs G H I (cutW ws lo hi) (cutV vs lo hi) := by
  unfold cutW cutV
  rw [h.len]
  exact (h.drop _).take _
theorem RWs.set {G : Gd} {H : Hp} {I : Ix} {w : W} {v : V} (r : RW G H I w v) : ∀ {ws : List W} {vs : List V} (i : Nat), RWs G H I ws vs → RWs G H I (ws.set i w) (vs.set i v)
  | [], _, _, h => by rw [h.inv0]; exact .nil
  | x :: ws, _, 0, h => by
    obtain ⟨v, r, rfl, h1, h2⟩ := h.inv
    exact .cons (by assumption) h2
  | x :: ws, _, i + 1, h => by
    obtain ⟨u, q, rfl, h1, h2⟩ := h.inv
    exact .cons h1 (RWs.set r i h2)
theorem RWs.flat {G : Gd} {H : Hp} {I : Ix} {ws : List W} {vs : List V} (h : RWs G H I ws vs) : ∀ k : Nat, RWs G H I (List.replicate k ws).flatten (List.replicate k vs).flatten
  | 0 => .nil
  | k + 1 => by
    simp only [List.replicate_succ, List.flatten_cons]
    exact h.append (RWs.flat h k)
theorem RKs.nil {G : Gd} {H : Hp} {I : Ix} : RKs G H I [] [] := by unfold RKs; rfl
theorem RKs.cons {G : Gd} {H : Hp} {I : Ix} {k : Kd} {q : Key} {w : W} {ws : List (Kd × W)} {v : V} {vs : List (Key × V)} (e : kOf k = some q) (h : RW G H I w v) (r : RKs G H I ws vs) : RKs G H I ((k, w) :: ws) ((q, v) :: vs) := by
  rw [RKs]; exact ⟨q, v, vs, rfl, e, h, r⟩
theorem RKs.inv {G : Gd} {H : Hp} {I : Ix} {k : Kd} {w : W} {ws : List (Kd × W)} {vs : List (Key × V)} (h : RKs G H I ((k, w) :: ws) vs) : ∃ q v t, vs = (q, v) :: t ∧ kOf k = some q ∧ RW G H I w v ∧ RKs G H I ws t := by
  rw [RKs] at h; exact h
theorem RKs.inv0 {G : Gd} {H : Hp} {I : Ix} {vs : List (Key × V)} (h : RKs G H I [] vs) : vs = [] := by
  rw [RKs] at h; exact h
theorem RKs.len {G : Gd} {H : Hp} {I : Ix} : ∀ {ws : List (Kd × W)} {vs : List (Key × V)}, RKs G H I ws vs → ws.length = vs.length
  | [], _, h => by rw [h.inv0]; rfl
  | (_, _) :: ws, _, h => by obtain ⟨q, v, t, rfl, _, _, h2⟩ := h.inv; simp [RKs.len h2]
theorem RKs.empty {G : Gd} {H : Hp} {I : Ix} {ws : List (Kd × W)} {vs : List (Key × V)} (h : RKs G H I ws vs) : ws.isEmpty = vs.isEmpty := by
  have := h.len
  cases ws <;> cases vs <;> simp_all
theorem kOf_inj {a b : Kd} {q : Key} (h : kOf a = some q) (h2 : kOf b = some q) : a = b := by
  cases a <;> cases b <;> simp [kOf] at h h2 <;> (subst h; simp at h2) <;> (rw [h2])
theorem RKs.find {G : Gd} {H : Hp} {I : Ix} {k : Kd} {q : Key} (ek : kOf k = some q) : ∀ {ws : List (Kd × W)} {vs : List (Key × V)} {w : W}, RKs G H I ws vs → findK ws k = some w → ∃ v, valV vs q = some v ∧ RW G H I w v
  | [], _, _, _, e => by simp [findK] at e
  | (p, x) :: ws, _, w, h, f => by
    obtain ⟨r, v, t, rfl, e2, h1, h2⟩ := h.inv
    unfold findK at f
    unfold valV
    by_cases hp : p = k
    · subst hp
      rw [ek] at e2; cases e2
      simp at f ⊢
      subst f
      exact h1
    · have hq : ¬ r = q := fun z => hp (kOf_inj (e2.trans (congrArg some z)) ek)
      simp only [List.find?_cons, hp, decide_false] at f
      simp only [List.find?_cons, hq, decide_false]
      exact RKs.find ek h2 f

def RO (G : Gd) (H : Hp) (I : Ix) (a : Addr) : O → Prop
  | .lst ws => ∃ vs, H a = some (.lst vs) ∧ RWs G H I ws vs
  | .dct ws => ∃ vs, H a = some (.dK vs) ∧ RKs G H I ws vs
  | .ins C ws => ∃ c dx vs, G.mg C = some (.ref c) ∧ H a = some (.ins c dx vs) ∧ RFs G H I ws vs
theorem RO.some {G : Gd} {H : Hp} {I : Ix} {a : Addr} {o : O} (h : RO G H I a o) : ∃ u, H a = some u ∧ isM u = true := by
  cases o with
  | lst ws => obtain ⟨vs, e, _⟩ := h; exact ⟨_, e, rfl⟩
  | dct ws => obtain ⟨vs, e, _⟩ := h; exact ⟨_, e, rfl⟩
  | ins _ _ => obtain ⟨_, _, vs, _, e, _⟩ := h; exact ⟨_, e, rfl⟩
theorem RO.mv {G : Gd} {H H' : Hp} {I I' : Ix} {a : Addr} {o : O} (k : Mv H I H' I') (e : H' a = H a) (h : RO G H I a o) : RO G H' I' a o := by
  cases o with
  | lst ws => obtain ⟨vs, q, r⟩ := h; exact ⟨vs, e.trans q, r.mv k⟩
  | dct ws => obtain ⟨vs, q, r⟩ := h; exact ⟨vs, e.trans q, r.mv k⟩
  | ins _ _ => obtain ⟨c, dx, vs, m, q, r⟩ := h; exact ⟨c, dx, vs, m, e.trans q, r.mv k⟩
theorem RO.mono {G : Gd} {H H' : Hp} {I I' : Ix} {a : Addr} {o : O} (k : Keep H I H' I') (e : H' a = H a) (h : RO G H I a o) : RO G H' I' a o := h.mv k.mv e

structure Rel (G : Gd) (H : Hp) (I : Ix) (S : So) : Prop where
  len : I.st.length = S.length
  nd : ∀ (i j : Nat) (a : Addr), I.st[i]? = some a → I.st[j]? = some a → i = j
  obj : ∀ (i : Nat) (o : O) (a : Addr), S[i]? = some o → I.st[i]? = some a → RO G H I a o
  bt : ∀ a, a ∈ I.bz ∨ a ∈ I.bd → H a ≠ none ∧ a ∉ I.st
theorem Rel.addr {G : Gd} {H : Hp} {I : Ix} {S : So} (r : Rel G H I S) {i : Nat} {o : O} (h : S[i]? = some o) : ∃ a, I.st[i]? = some a ∧ RO G H I a o := by
  obtain ⟨hl, _⟩ := List.getElem?_eq_some_iff.mp h
  have hi : i < I.st.length := by rw [r.len]; exact hl
  exact ⟨I.st[i], List.getElem?_eq_getElem hi, r.obj i o _ h (List.getElem?_eq_getElem hi)⟩
theorem Rel.there {G : Gd} {H : Hp} {I : Ix} {S : So} (r : Rel G H I S) {i : Nat} {a : Addr} (h : I.st[i]? = some a) : ∃ u, H a = some u ∧ isM u = true := by
  obtain ⟨hl, _⟩ := List.getElem?_eq_some_iff.mp h
  have hi : i < S.length := by rw [← r.len]; exact hl
  exact (r.obj i S[i] a (List.getElem?_eq_getElem hi) h).some
theorem Rel.thereM {G : Gd} {H : Hp} {I : Ix} {S : So} (r : Rel G H I S) {a : Addr} (h : a ∈ I.st) : ∃ u, H a = some u ∧ isM u = true := by
  obtain ⟨i, hi⟩ := List.getElem?_of_mem h
  exact r.there hi
/-- what is new stands apart -/
theorem Rel.fresh {G : Gd} {H : Hp} {I : Ix} {S : So} (r : Rel G H I S) {p : Addr} (h : H p = none) (t : Bool) : Out I t p :=
  ⟨fun z => (by obtain ⟨u, q, _⟩ := r.thereM z; rw [h] at q; cases q), fun z => (r.bt p (.inr z)).1 h, fun _ z => (r.bt p (.inl z)).1 h⟩
theorem upd_tr {H : Hp} {p a : Addr} {u : HO} (h : H a ≠ none) : upd H p u a ≠ none := by
  unfold upd; split
  · simp
  · exact h
/-- a new thing that the store does not know -/
theorem Rel.junk {G : Gd} {H : Hp} {I : Ix} {S : So} (r : Rel G H I S) {p : Addr} {u : HO} (h : H p = none) : Rel G (upd H p u) I S :=
  ⟨r.len, r.nd, fun i o a e1 e2 => (r.obj i o a e1 e2).mono (Keep.junk h) (by
    obtain ⟨u, q, _⟩ := r.there e2
    rw [upd_ne (ne_of_none q h)]), fun a z => ⟨upd_tr (r.bt a z).1, (r.bt a z).2⟩⟩
/-- a new thing of the store -/
theorem Rel.new {G : Gd} {H : Hp} {I : Ix} {S : So} (r : Rel G H I S) {p : Addr} {u : HO} {o : O} (h : H p = none) (n : RO G (upd H p u) (I.add p) p o) : Rel G (upd H p u) (I.add p) (S ++ [o]) := by
  have hp : ∀ (i : Nat), I.st[i]? ≠ some p := fun i e => by
    obtain ⟨u, q, _⟩ := r.there e
    rw [h] at q; cases q
  have look : ∀ (i : Nat) (a : Addr), (I.st ++ [p])[i]? = some a → I.st[i]? = some a ∨ (i = I.st.length ∧ a = p) := fun i a e => by
    by_cases hi : i < I.st.length
    · rw [List.getElem?_append_left hi] at e; exact .inl e
    · rw [List.getElem?_append_right (by omega)] at e
      have : i - I.st.length = 0 := by
        cases q : i - I.st.length with
        | zero => rfl
        | succ m => rw [q] at e; simp at e
      rw [this] at e
      simp at e
      exact .inr ⟨by omega, e.symm⟩
  refine ⟨by simp [Ix.add, r.len], fun i j a e1 e2 => ?_, fun i ob a e1 e2 => ?_, fun a z => ⟨upd_tr (r.bt a z).1, fun q => (List.mem_append.mp q).elim (r.bt a z).2 fun q => by rw [List.mem_singleton] at q; subst q; exact (r.bt a z).1 h⟩⟩
  · rcases look i a e1 with q1 | ⟨q1, z1⟩ <;> rcases look j a e2 with q2 | ⟨q2, z2⟩
    · exact r.nd i j a q1 q2
    · subst z2; exact absurd q1 (hp i)
    · subst z1; exact absurd q2 (hp j)
    · omega
  · rcases look i a e2 with q | ⟨q, z⟩
    · have hi : i < S.length := by
        rw [← r.len]; exact (List.getElem?_eq_some_iff.mp q).1
      rw [List.getElem?_append_left hi] at e1
      exact (r.obj i ob a e1 q).mono (Keep.new h) (by
        obtain ⟨u, q', _⟩ := r.there q
        rw [upd_ne (ne_of_none q' h)])
    · subst z
      rw [q, r.len, List.getElem?_append_right (Nat.le_refl _)] at e1
      simp at e1
      subst e1
      exact n
/-- a thing of the store is written -/
theorem Rel.put {G : Gd} {H : Hp} {I : Ix} {S : So} (r : Rel G H I S) {i : Nat} {a : Addr} {u : HO} {o : O} (e : I.st[i]? = some a) (n : RO G (upd H a u) I a o) : Rel G (upd H a u) I (S.set i o) := by
  obtain ⟨w, hw, m⟩ := r.there e
  refine ⟨by simp [r.len], r.nd, fun j ob b e1 e2 => ?_, fun b z => ⟨upd_tr (r.bt b z).1, (r.bt b z).2⟩⟩
  by_cases hj : j = i
  · subst hj
    rw [e] at e2; cases e2
    have hl : j < S.length := by rw [← r.len]; exact (List.getElem?_eq_some_iff.mp e).1
    rw [List.getElem?_set_self hl] at e1
    cases e1
    exact n
  · rw [List.getElem?_set_ne (Ne.symm hj)] at e1
    have hb : b ≠ a := fun z => by subst z; exact hj (r.nd j i b e2 e)
    exact (r.obj j ob b e1 e2).mono (Keep.upd hw m (List.mem_of_getElem? e)) (upd_ne hb)
theorem Rel.keepPut {G : Gd} {H : Hp} {I : Ix} {S : So} (r : Rel G H I S) {i : Nat} {a : Addr} {u : HO} (e : I.st[i]? = some a) : Keep H I (upd H a u) I := by
  obtain ⟨w, hw, m⟩ := r.there e
  exact Keep.upd hw m (List.mem_of_getElem? e)

/-! ### what is being built -/
def Ix.bld (I : Ix) (D : Addr) : Ix := ⟨I.st, I.bz, D :: I.bd⟩
def Ix.unb (I : Ix) : Ix := ⟨I.st, I.bz, I.bd.tail⟩
theorem Mv.bld {H : Hp} {I : Ix} {D : Addr} {o : HO} (h : H D = none) : Mv H I (upd H D o) (I.bld D) :=
  ⟨List.prefix_refl _, fun a xs e => by rw [upd_ne (ne_of_none e h)]; exact e, fun a ob u e => by rw [upd_ne (ne_of_none e h)]; exact e, fun a u t e x => ⟨by rw [upd_ne (ne_of_none e h)]; exact e, x.st, fun z => (List.mem_cons.mp z).elim (ne_of_none e h) x.bd, x.bz⟩⟩
theorem Rel.bld {G : Gd} {H : Hp} {I : Ix} {S : So} (r : Rel G H I S) {D : Addr} {u : HO} (h : H D = none) : Rel G (upd H D u) (I.bld D) S :=
  ⟨r.len, r.nd, fun i o a e1 e2 => (r.obj i o a e1 e2).mv (Mv.bld h) (by
    obtain ⟨u, q, _⟩ := r.there e2
    rw [upd_ne (ne_of_none q h)]), fun a z => by
      by_cases e : a = D
      · subst e
        exact ⟨by rw [upd_same]; simp, fun q => by obtain ⟨_, q2, _⟩ := r.thereM q; rw [h] at q2; cases q2⟩
      · have z2 : a ∈ I.bz ∨ a ∈ I.bd := z.imp id fun q => (List.mem_cons.mp q).resolve_left e
        exact ⟨upd_tr (r.bt a z2).1, (r.bt a z2).2⟩⟩
theorem Mv.unb {H H' : Hp} {I : Ix} {D : Addr} {B : List Addr} {u : HO} (hI : I.bd = D :: B) (h : H D = some u) (m : isM u = true) (o : ∀ a, a ≠ D → H' a = H a) : Mv H I H' I.unb :=
  ⟨List.prefix_refl _, fun a xs e => by rw [o a fun z => by subst z; rw [h] at e; cases e; cases m]; exact e, fun a ob w e => by rw [o a fun z => by subst z; rw [h] at e; cases e; cases m]; exact e,
   fun a w t e x => by
    have n : a ≠ D := fun z => x.bd (by rw [hI, z]; exact List.mem_cons_self)
    exact ⟨by rw [o a n]; exact e, x.st, fun z => x.bd (by rw [hI]; unfold Ix.unb at z; rw [hI] at z; exact List.mem_cons_of_mem _ z), x.bz⟩⟩
theorem Rel.unb {G : Gd} {H H' : Hp} {I : Ix} {S : So} (r : Rel G H I S) {D : Addr} {B : List Addr} {u : HO} (hI : I.bd = D :: B) (h : H D = some u) (m : isM u = true) (o : ∀ a, a ≠ D → H' a = H a) (hn : D ∉ I.bz ∧ D ∉ B) : Rel G H' I.unb S :=
  ⟨r.len, r.nd, fun i ob a e1 e2 => (r.obj i ob a e1 e2).mv (Mv.unb hI h m o) (o a fun z => (r.bt D (.inr (by rw [hI]; exact List.mem_cons_self))).2 (by subst z; exact List.mem_of_getElem? e2)), fun a z => by
    have z2 : a ∈ I.bz ∨ a ∈ I.bd := z.imp id fun q => by unfold Ix.unb at q; rw [hI] at q ⊢; exact List.mem_cons_of_mem _ q
    refine ⟨?_, (r.bt a z2).2⟩
    by_cases e : a = D
    · subst e
      exact absurd (z.elim (fun q => .inl q) fun q => .inr (by unfold Ix.unb at q; rw [hI] at q; exact q)) (fun q : a ∈ I.bz ∨ a ∈ B => q.elim hn.1 hn.2)
    · rw [o a e]; exact (r.bt a z2).1⟩
theorem Keep.unb {H H2 H' : Hp} {I I2 : Ix} {D : Addr} {u : HO} (hD : H D = none) (k : Keep (L2.upd H D u) (I.bld D) H2 I2) (o : ∀ a, a ≠ D → H' a = H2 a) : Keep H I H' I2.unb := by
  have hb : I2.bd = D :: I.bd := k.bd
  refine ⟨k.st, k.bz, by unfold Ix.unb; rw [hb]; rfl, fun a w e n => ?_, fun a xs e => ?_, fun a ob w e => ?_, fun a w e => ?_⟩ <;> have ne := ne_of_none e hD
  · rw [o a ne]; exact k.kp a w (by rw [upd_ne ne]; exact e) n
  · rw [o a ne]; exact k.tup a xs (by rw [upd_ne ne]; exact e)
  · rw [o a ne]; exact k.frz a ob w (by rw [upd_ne ne]; exact e)
  · rw [o a ne]; exact k.xd a w (by rw [upd_ne ne]; exact e)
/-- what is being built is still as it was left -/
theorem Keep.here {H H2 : Hp} {I I2 : Ix} {S : So} {G : Gd} {D : Addr} {u : HO} (r : Rel G H I S) (hD : H D = none) (k : Keep (L2.upd H D u) (I.bld D) H2 I2) : H2 D = some u :=
  (k.kp D u upd_same fun q => by obtain ⟨_, q2, _⟩ := r.thereM q; rw [hD] at q2; cases q2).1

/-- what is being built is changed -/
theorem Mv.chg {H H' : Hp} {I : Ix} {D : Addr} {u : HO} (hI : D ∈ I.bd) (h : H D = some u) (m : isM u = true) (o : ∀ a, a ≠ D → H' a = H a) : Mv H I H' I :=
  ⟨List.prefix_refl _, fun a xs e => by rw [o a fun z => by subst z; rw [h] at e; cases e; cases m]; exact e, fun a ob w e => by rw [o a fun z => by subst z; rw [h] at e; cases e; cases m]; exact e,
   fun a w t e x => ⟨by rw [o a fun z => x.bd (by rw [z]; exact hI)]; exact e, x⟩⟩
theorem Rel.chg {G : Gd} {H H' : Hp} {I : Ix} {S : So} (r : Rel G H I S) {D : Addr} {u : HO} (hI : D ∈ I.bd) (h : H D = some u) (m : isM u = true) (o : ∀ a, a ≠ D → H' a = H a) (hn : H' D ≠ none) : Rel G H' I S :=
  ⟨r.len, r.nd, fun i ob a e1 e2 => (r.obj i ob a e1 e2).mv (Mv.chg hI h m o) (o a fun z => (r.bt D (.inr hI)).2 (by subst z; exact List.mem_of_getElem? e2)), fun a z => by
    refine ⟨?_, (r.bt a z).2⟩
    by_cases e : a = D
    · subst e; exact hn
    · rw [o a e]; exact (r.bt a z).1⟩
theorem Keep.chg {H H2 : Hp} {I I2 : Ix} {D : Addr} {u u' : HO} (hD : D ∉ I.st) (h : H D = some u) (m : isM u = true) (k : Keep (L2.upd H D u') I H2 I2) : Keep H I (L2.upd H2 D u) I2 := by
  refine ⟨k.st, k.bz, k.bd, fun a w e n => ?_, fun a xs e => ?_, fun a ob w e => ?_, fun a w e => ?_⟩
  · by_cases z : a = D
    · subst z
      rw [h] at e; cases e
      exact ⟨upd_same, (k.kp a u' upd_same n).2⟩
    · rw [upd_ne z]
      exact k.kp a w (by rw [upd_ne z]; exact e) n
  · have z : a ≠ D := fun z => by subst z; rw [h] at e; cases e; cases m
    rw [upd_ne z]; exact k.tup a xs (by rw [upd_ne z]; exact e)
  · have z : a ≠ D := fun z => by subst z; rw [h] at e; cases e; cases m
    rw [upd_ne z]; exact k.frz a ob w (by rw [upd_ne z]; exact e)
  · have z : a ≠ D := fun z => by subst z; rw [h] at e; cases e; cases m
    rw [upd_ne z]; exact k.xd a w (by rw [upd_ne z]; exact e)
theorem Rel.apart {G : Gd} {H : Hp} {I : Ix} {S : So} (r : Rel G H I S) {D : Addr} (hD : H D = none) : D ∉ I.bz ∧ D ∉ I.bd := ⟨fun z => (r.bt D (.inl z)).1 hD, fun z => (r.bt D (.inr z)).1 hD⟩
/-- the heap without D -/
def del (H : Hp) (D : Addr) : Hp := fun b => if b = D then none else H b
theorem del_at {H : Hp} {D : Addr} : del H D D = none := if_pos rfl
theorem del_ne {H : Hp} {D b : Addr} (n : b ≠ D) : del H D b = H b := if_neg n
theorem upd_del {H : Hp} {D : Addr} {o : HO} : L2.upd (del H D) D o = L2.upd H D o := by
  funext b
  unfold L2.upd del
  split <;> rfl

/-- the names' values -/
structure RS (G : Gd) (H : Hp) (I : Ix) (e : En) (σ : St) : Prop where
  len : e.length = σ.length
  get : ∀ (i : Nat) (w : W), e[i]? = some (some w) → ∃ v, σ[i]? = some (some v) ∧ RW G H I w v
theorem RS.mono {G : Gd} {H H' : Hp} {I I' : Ix} {e : En} {σ : St} (k : Keep H I H' I') (r : RS G H I e σ) : RS G H' I' e σ :=
  ⟨r.len, fun i w h => let ⟨v, a, b⟩ := r.get i w h; ⟨v, a, b.mono k⟩⟩
theorem RS.mv {G : Gd} {H H' : Hp} {I I' : Ix} {e : En} {σ : St} (k : Mv H I H' I') (r : RS G H I e σ) : RS G H' I' e σ :=
  ⟨r.len, fun i w h => let ⟨v, a, b⟩ := r.get i w h; ⟨v, a, b.mv k⟩⟩
theorem RS.put {G : Gd} {H : Hp} {I : Ix} {e : En} {σ : St} {w : W} {v : V} (r : RS G H I e σ) (h : RW G H I w v) (i : Nat) : RS G H I (e.set i (some w)) (σ.set i (some v)) := by
  refine ⟨by simp [r.len], fun j x q => ?_⟩
  by_cases hj : j = i
  · subst hj
    by_cases hl : j < e.length
    · rw [List.getElem?_set_self hl] at q
      cases q
      exact ⟨v, List.getElem?_set_self (by rw [← r.len]; exact hl), h⟩
    · rw [List.getElem?_eq_none (by simpa using hl)] at q; cases q
  · rw [List.getElem?_set_ne (Ne.symm hj)] at q ⊢
    exact r.get j x q
theorem RS.wipe {G : Gd} {H : Hp} {I : Ix} {e : En} {σ : St} (r : RS G H I e σ) : ∀ vs : List Nat, RS G H I (wipeW e vs) (wipe σ vs)
  | [] => r
  | x :: vs => by
    have q := RS.wipe r vs
    unfold wipeW L2.wipe
    refine ⟨by simp [q.len], fun j w z => ?_⟩
    by_cases hj : j = x
    · subst hj
      by_cases hl : j < (wipeW e vs).length
      · rw [List.getElem?_set_self hl] at z; cases z
      · rw [List.getElem?_eq_none (by simpa using hl)] at z; cases z
    · rw [List.getElem?_set_ne (Ne.symm hj)] at z ⊢
      exact q.get j w z
end Y

/-! What the operations answer. -/
namespace Y
open PySem PySem.Spec L2

/-- what is wanted of an error that leaves -/
abbrev EK := Er → Hp → Ix → Prop
/-- what is wanted of an answer: it, the store, the heap, the addresses -/
abbrev AK (α : Type) := α → So → Hp → Ix → Prop
def RE (G : Gd) (E : EK) (H : Hp) (I : Ix) {α : Type} (k : AK α) : Res α → Prop
  | .ok a S => ∀ H' I', Keep H I H' I' → Rel G H' I' S → k a S H' I'
  | .exn x S => ∀ H' I', Keep H I H' I' → Rel G H' I' S → E x H' I'
  | .bad => False
section
variable {G : Gd} {E : EK} {H H' : Hp} {I I' : Ix} {α β : Type}
theorem RE.mono {k : AK α} {r : Res α} (hk : Keep H I H' I') (h : RE G E H I k r) : RE G E H' I' k r := by
  cases r with
  | ok a S => exact fun H2 I2 k2 => h H2 I2 (hk.trans k2)
  | exn x S => exact fun H2 I2 k2 => h H2 I2 (hk.trans k2)
  | bad => exact h
theorem RE.bind {k : AK β} {r : Res α} {f : α → So → Res β} (h : RE G E H I k (r.bind f)) : RE G E H I (fun a S H' I' => RE G E H' I' k (f a S)) r := by
  cases r with
  | ok a S => exact fun H2 I2 k2 _ => RE.mono k2 (show RE G E H I k (f a S) from h)
  | exn x S => exact h
  | bad => exact h
theorem RE.imp {k k' : AK α} {r : Res α} (h : RE G E H I k r) (q : ∀ a S H' I', Keep H I H' I' → Rel G H' I' S → k a S H' I' → k' a S H' I') : RE G E H I k' r := by
  cases r with
  | ok a S => exact fun H2 I2 k2 r2 => q a S H2 I2 k2 r2 (h H2 I2 k2 r2)
  | exn x S => exact h
  | bad => exact h
/-- the answer stands now -/
theorem RE.now {k : AK α} {a : α} {S : So} (h : RE G E H I k (.ok a S)) (r : Rel G H I S) : k a S H I := h H I (Keep.refl H I) r
end
def kV' (G : Gd) (Q : VK) : AK W := fun w _ H' I' => ∀ v, RW G H' I' w v → Q v H'
def kVs (G : Gd) (Q : List V → Hp → Prop) : AK (List W) := fun w _ H' I' => ∀ v, RWs G H' I' w v → Q v H'
def kB (Q : Bool → Hp → Prop) : AK Bool := fun b _ H' _ => Q b H'

section
variable {G : Gd} {E : EK} {H : Hp} {I : Ix} {S : So}
/-- a new list, a new dict, of the store -/
theorem new_lst {Q : VK} {ws : List W} {vs : List V} (r : Rel G H I S) (rw' : RWs G H I ws vs) (h : RE G E H I (kV' G Q) (new (.lst ws) S)) : ∀ p, H p = none → Q (.ref p) (upd H p (.lst vs)) := fun p hp => by
  have kn := Keep.new (I := I) (o := .lst vs) hp
  have r2 : Rel G (upd H p (.lst vs)) (I.add p) (S ++ [.lst ws]) := r.new hp ⟨vs, upd_same, rw'.mono kn⟩
  refine h _ _ kn r2 (.ref p) ?_
  unfold RW
  exact ⟨p, rfl, by rw [← r.len]; simp [Ix.add]⟩
theorem mk_lst {Q : VK} {m : Bool} {ws : List W} {vs : List V} (r : Rel G H I S) (rw' : RWs G H I ws vs) (h : RE G E H I (kV' G Q) (mk m ws S)) : ∀ p, H p = none → Q (.ref p) (upd H p (.lst vs)) := fun p hp => by
  cases m with
  | true => exact new_lst r rw' h p hp
  | false =>
    have kn := Keep.junk (I := I) (o := .lst vs) hp
    refine h _ _ kn (r.junk hp) (.ref p) ?_
    unfold RW
    exact ⟨p, vs, rfl, .inl ⟨upd_same, r.fresh hp false⟩, rw'.mono kn⟩
theorem mk_dct {Q : VK} {m : Bool} {ws : List (Kd × W)} {vs : List (Key × V)} (r : Rel G H I S) (rw' : RKs G H I ws vs) (h : RE G E H I (kV' G Q) (mkD m ws S)) : ∀ p, H p = none → Q (.ref p) (upd H p (.dK vs)) := fun p hp => by
  cases m with
  | true =>
    have kn := Keep.new (I := I) (o := .dK vs) hp
    have r2 : Rel G (upd H p (.dK vs)) (I.add p) (S ++ [.dct ws]) := r.new hp ⟨vs, upd_same, rw'.mono kn⟩
    refine h _ _ kn r2 (.ref p) ?_
    unfold RW
    exact ⟨p, rfl, by rw [← r.len]; simp [Ix.add]⟩
  | false =>
    have kn := Keep.junk (I := I) (o := .dK vs) hp
    refine h _ _ kn (r.junk hp) (.ref p) ?_
    unfold RW
    exact ⟨p, vs, rfl, ⟨upd_same, r.fresh hp false⟩, rw'.mono kn⟩
theorem put_lst {k : AK Unit} {ws : List W} {vs : List V} {i : Nat} {a : Addr} (r : Rel G H I S) (e : I.st[i]? = some a) (rw' : RWs G H I ws vs) (h : RE G E H I k (.ok () (S.set i (.lst ws)))) :
    k () (S.set i (.lst ws)) (upd H a (.lst vs)) I := by
  have kn := r.keepPut (u := .lst vs) e
  exact h _ _ kn (r.put e ⟨vs, upd_same, rw'.mono kn⟩)

/-- the seq of a value, as the layer reads it -/
theorem lst_of {x : W} {v : V} {ws : List W} (r : Rel G H I S) (h : RW G H I x v) (e : lstOf x S = some ws) : ∃ a vs, v = .ref a ∧ SqL G.K H a vs ∧ RWs G H I ws vs := by
  unfold lstOf at e
  split at e
  · rename_i i
    split at e
    · rename_i xs hS
      cases e
      unfold RW at h
      obtain ⟨a, rfl, hi⟩ := h
      obtain ⟨vs, q, z⟩ := r.obj _ _ _ hS hi
      exact ⟨a, vs, rfl, .inl (.inl q), z⟩
    · cases e
  · rename_i t xs
    cases e
    unfold RW at h
    obtain ⟨a, vs, rfl, s, z⟩ := h
    exact ⟨a, vs, rfl, s.now, z⟩
  · cases e
theorem seq_of {x : W} {v : V} {ws : List W} (r : Rel G H I S) (h : RW G H I x v) (e : seqOf x S = some ws) : ∃ a vs, v = .ref a ∧ (SqL G.K H a vs ∨ SqT G.K H a vs) ∧ RWs G H I ws vs := by
  unfold seqOf at e
  split at e
  · cases e
    unfold RW at h
    obtain ⟨a, vs, rfl, s, z⟩ := h
    exact ⟨a, vs, rfl, .inr s, z⟩
  · obtain ⟨a, vs, e1, s, z⟩ := lst_of r h e
    exact ⟨a, vs, e1, .inl s, z⟩
theorem dct_of {x : W} {v : V} {ws : List (Kd × W)} (r : Rel G H I S) (h : RW G H I x v) (e : dctOf x S = some ws) : ∃ a vs, v = .ref a ∧ H a = some (.dK vs) ∧ RKs G H I ws vs := by
  unfold dctOf at e
  split at e
  · rename_i i
    split at e
    · rename_i xs hS
      cases e
      unfold RW at h
      obtain ⟨a, rfl, hi⟩ := h
      obtain ⟨vs, q, z⟩ := r.obj _ _ _ hS hi
      exact ⟨a, vs, rfl, q, z⟩
    · cases e
  · rename_i t xs
    cases e
    unfold RW at h
    obtain ⟨a, vs, rfl, s, z⟩ := h
    exact ⟨a, vs, rfl, s.1, z⟩
  · cases e

/-! ### truth -/
theorem truth_ok {x : W} {v : V} {b : Bool} (r : Rel G H I S) (h : RW G H I x v) (e : truth x S = some b) : TruV G.K v H b := by
  unfold truth at e
  cases x with
  | non => unfold RW at h; subst h; cases e; rfl
  | bl c => unfold RW at h; subst h; cases e; rfl
  | int i => unfold RW at h; subst h; cases e; rfl
  | str y =>
    unfold RW at h; subst h
    simp only at e
    split at e
    · rename_i hz
      cases e
      refine ⟨hz, ?_⟩
      cases q : y.length with
      | zero => rfl
      | succ n =>
        have h1 : ((n + 1 != 0) : Bool) = true := by simp
        have h2 : ((((n + 1 : Nat) : Int)) != 0) = true := by simp; omega
        rw [h1, h2]
    · cases e
  | tup xs =>
    unfold RW at h
    obtain ⟨a, vs, rfl, s, z⟩ := h
    cases e
    refine .inr (.inl ⟨vs, s, ?_⟩)
    have := z.len
    cases xs <;> cases vs <;> simp_all
  | fl t xs =>
    unfold RW at h
    obtain ⟨a, vs, rfl, s, z⟩ := h
    cases e
    refine .inl ⟨vs, s.now, ?_⟩
    have := z.len
    cases xs <;> cases vs <;> simp_all
  | fd t xs =>
    unfold RW at h
    obtain ⟨a, vs, rfl, s, z⟩ := h
    cases e
    refine .inr (.inr ⟨vs, s.1, ?_⟩)
    rw [z.empty]
  | fins t C xs => cases e
  | ref i =>
    simp only at e
    split at e
    · rename_i xs hS
      cases e
      unfold RW at h
      obtain ⟨a, rfl, hi⟩ := h
      obtain ⟨vs, q, z⟩ := r.obj _ _ _ hS hi
      refine .inl ⟨vs, .of q, ?_⟩
      have := z.len
      cases xs <;> cases vs <;> simp_all
    · rename_i xs hS
      cases e
      unfold RW at h
      obtain ⟨a, rfl, hi⟩ := h
      obtain ⟨vs, q, z⟩ := r.obj _ _ _ hS hi
      refine .inr (.inr ⟨vs, q, ?_⟩)
      rw [z.empty]
    · cases e
  | ty n => cases e
  | glo n => cases e
end
end Y

/-! list + list, list * int, wherever the lists are to be read. -/
namespace Y
open PySem PySem.Spec L2
section
variable {X : Cx}
theorem op_catL : OpR X (binaryOp .Add) (fun x y H Q => ∃ l b xs zs, x = .ref l ∧ y = .ref b ∧ SqL X.K H l xs ∧ SqL X.K H b zs ∧ xs.length + zs.length ≤ sizeLine ∧ ∀ p, H p = none → Q (.ref p) (upd H p (.lst (xs ++ zs)))) := by
  intro pins s σ H x y v u Q I rx ry h
  obtain ⟨l, b, xs, zs, rfl, rfl, hH, hB, hz, q⟩ := h
  cases rx
  cases ry
  obtain ⟨its, r, ⟨⟨cls, dd, data, sl⟩, n, ho, hc, _, hd⟩, _⟩ := I.list hH
  obtain ⟨its2, r2, ⟨⟨cls2, dd2, data2, sl2⟩, n2, ho2, hc2, _, hd2⟩, _⟩ := I.list hB
  simp only at hc hd hc2 hd2
  subst hc hd hc2 hd2
  have e : its.toArray ++ its2.toArray = (its ++ its2).toArray := by simp
  refine concat_meets ⟨_, ho, rfl⟩ ⟨_, ho2, rfl⟩ noFill_list_add seq_list_add PySem.F.slot_list_add PySem.F.entry_list_add (PySem.F.args_list_add_2 _ _) (PyProof.Rows.list_addW l b its.toArray its2.toArray n n2 dd dd2 sl sl2 (by rw [List.size_toArray, List.size_toArray, ← r.length, ← r2.length]; exact hz)) ⟨ho, ho2, ?_⟩
  rw [e]
  exact ⟨.ref _, _, I.lnew (t' := s.toks) (r.append r2) (by rw [List.length_append]; omega), rfl, q _ I.fresh⟩
theorem op_repL : OpR X (binaryOp .Mult) (fun x y H Q => ∃ l k xs, x = .ref l ∧ y = .int k ∧ SqL X.K H l xs ∧ -(2 ^ 63) ≤ k ∧ k < 2 ^ 63 ∧ xs.length * k.toNat ≤ sizeLine ∧
  ∀ p, H p = none → Q (.ref p) (upd H p (.lst (List.replicate k.toNat xs).flatten))) := by
  intro pins s σ H x y v u Q I rx ry h
  obtain ⟨l, k, xs, rfl, rfl, hH, h1, h2, hz, q⟩ := h
  cases rx
  obtain ⟨t, rfl⟩ := ry
  obtain ⟨its, r, ⟨⟨cls, dd, data, sl⟩, n, ho, hc, _, hd⟩, _⟩ := I.list hH
  simp only at hc hd
  subst hc hd
  have hlen : its.toArray.size * k.toNat ≤ sizeLine := by rw [List.size_toArray, ← r.length]; exact hz
  have hcap : ¬ its.toArray.size * k.toNat > (2 ^ 63 - 1) / 8 := by
    have : (sizeLine : Nat) ≤ (2 ^ 63 - 1) / 8 := by decide
    omega
  have hfit : ¬ (!Builtin.List.listFitsIndex k) = true := by
    rw [fitsIndex_both h1 h2]
    exact Bool.false_ne_true
  have hlong : ¬ Builtin.List.listTooLong (its.toArray.size * k.toNat) = true := by
    rw [notLongL hlen]
    exact Bool.false_ne_true
  refine wpAny_binaryOp_repeat_ref (T := "list") (U := "int") (by decide) ⟨_, ho, rfl⟩ (fun s' => typeIs_int s' k t) noFill_list_mul PySem.F.fills_int_mul PySem.F.slot_int_rmul repeat_list PySem.F.slot_int_index.lookup
    (call_meets PySem.F.slot_int_rmul (typeIs_int s k t) PySem.F.entry_int_rmul (PySem.F.args_int_rmul_2 _ _) (lm_int_rmul_list_any k t l its.toArray n dd sl)
      ⟨ho, rfl, ⟨_, ho, rfl⟩, call_meets PySem.F.slot_list_mul ⟨_, ho, rfl⟩ PySem.F.entry_list_mul (PySem.F.args_list_mul_2 _ _)
        (lm_list_mul_any l its.toArray n dd sl k t hfit hcap hlong)
        ⟨ho, ?_⟩⟩)
  rw [PyProof.Rows.listMul_foldl_if]
  exact ⟨.ref _, _, I.lnew (t' := s.toks) (r.rep k.toNat) (by rw [PyProof.Rows.lm_len_rep_flat, Nat.mul_comm]; exact hz), rfl, q _ I.fresh⟩
end
end Y

open PyProof.Rows hiding St RelV
/-! What the operators answer. -/
namespace Y
open PySem PySem.Spec L2

theorem bits_lt {i j : Int} (h : Builtin.Int.intBits i + Builtin.Int.intBits j ≤ 134217728) : IntMulOk i j := by
  unfold IntMulOk
  intro z
  rw [Bool.and_eq_true] at z
  have z2 := z.2
  unfold Builtin.Int.intTooBig at z2
  have z3 := of_decide_eq_true z2
  have e : bitsLine = 134217728 := by decide
  rw [e] at z3
  omega
section
variable {X : Cx}
theorem op_mulZ : OpR X (binaryOp .Mult) (rI (fun i j => Builtin.Int.intBits i + Builtin.Int.intBits j ≤ 134217728) fun i j => .int (i * j)) :=
  opI fun _ _ _ _ _ _ _ hc q => PyProof.Rows.mul_int q (bits_lt hc)
theorem op_powZ : OpR X (binaryOp .Pow) (rI (fun i j => 0 ≤ j ∧ (Builtin.Int.intBits i : Int) * j ≤ 134217728) fun i j => .int (i ^ j.toNat)) :=
  opI fun _ _ _ _ _ _ _ hc q => PyProof.Rows.pow_int hc.1 (by have := hc.2; simpa using this) q
variable {G : Gd} {E : EK}
def rZ (G : Gd) (E : EK) (f : W → W → So → Res W) : R2 := fun x y H Q => ∃ I S u v, Rel G H I S ∧ RW G H I u x ∧ RW G H I v y ∧ RE G E H I (kV' G Q) (f u v S)
theorem kV_now {H : Hp} {I : Ix} {S : So} {Q : VK} {w : W} {v : V} (h : RE G E H I (kV' G Q) (.ok w S)) (r : Rel G H I S) (q : RW G H I w v) : Q v H := RE.now (k := kV' G Q) h r v q
theorem op_Z (hG : G.K = X.K) (m : Bool) (op : Operator) : OpR X (binaryOp op) (rZ G E (binop m op)) := by
  rintro pins s σ H x y v u Q J rx ry ⟨I, S, a, b, r, ha, hb, h⟩
  unfold binop at h
  split at h
  · unfold RW at ha hb; subst ha hb
    exact op_add pins s σ H _ _ v u Q J rx ry ⟨_, _, rfl, rfl, kV_now h r (by unfold RW; rfl)⟩
  · unfold RW at ha hb; subst ha hb
    exact op_sub pins s σ H _ _ v u Q J rx ry ⟨_, _, rfl, rfl, kV_now h r (by unfold RW; rfl)⟩
  · unfold RW at ha hb; subst ha hb
    split at h
    · exact op_mulZ pins s σ H _ _ v u Q J rx ry ⟨_, _, rfl, rfl, by assumption, kV_now h r (by unfold RW; rfl)⟩
    · exact False.elim h
  · unfold RW at ha hb; subst ha hb
    split at h
    · exact op_mod pins s σ H _ _ v u Q J rx ry ⟨_, _, rfl, rfl, by assumption, kV_now h r (by unfold RW; rfl)⟩
    · exact False.elim h
  · unfold RW at ha hb; subst ha hb
    split at h
    · exact op_fdiv pins s σ H _ _ v u Q J rx ry ⟨_, _, rfl, rfl, by assumption, kV_now h r (by unfold RW; rfl)⟩
    · exact False.elim h
  · unfold RW at ha hb; subst ha hb
    split at h
    · exact op_powZ pins s σ H _ _ v u Q J rx ry ⟨_, _, rfl, rfl, by assumption, kV_now h r (by unfold RW; rfl)⟩
    · exact False.elim h
  · unfold RW at ha hb; subst ha hb
    split at h
    · exact op_add_str pins s σ H _ _ v u Q J rx ry ⟨_, _, rfl, rfl, by assumption, kV_now h r (by unfold RW; rfl)⟩
    · exact False.elim h
  · rename_i xs ys
    unfold RW at ha hb
    obtain ⟨p, vs, rfl, s1, z1⟩ := ha
    obtain ⟨q, us, rfl, s2, z2⟩ := hb
    split at h
    · rename_i hl
      rw [hG] at s1 s2
      have hl2 : vs.length + us.length ≤ sizeLine := by rw [← z1.len, ← z2.len]; exact hl
      refine op_catA pins s σ H _ _ v u Q J rx ry ⟨p, q, vs, us, rfl, rfl, s1, s2, hl2, fun e => ?_, fun _ e => ?_, fun _ _ t ht => ?_⟩
      · subst e
        have e2 : xs = [] := by cases xs with | nil => rfl | cons _ _ => have := z1.len; simp at this
        subst e2
        exact kV_now h r (by unfold RW; exact ⟨q, us, rfl, by rw [hG]; exact s2, z2⟩)
      · subst e
        have e2 : ys = [] := by cases ys with | nil => rfl | cons _ _ => have := z2.len; simp at this
        subst e2
        rw [List.append_nil] at h
        exact kV_now h r (by unfold RW; exact ⟨p, vs, rfl, by rw [hG]; exact s1, z1⟩)
      · have kn := Keep.junk (I := I) (o := .tup (vs ++ us)) ht
        refine h _ I kn (r.junk ht) _ ?_
        unfold RW
        exact ⟨t, vs ++ us, rfl, .of upd_same, (z1.append z2).mono kn⟩
    · exact False.elim h
  · split at h
    · rename_i xs ys e1 e2
      obtain ⟨p, vs, rfl, q1, z1⟩ := lst_of r ha e1
      obtain ⟨q, us, rfl, q2, z2⟩ := lst_of r hb e2
      rw [hG] at q1 q2
      split at h
      · rename_i hl
        exact op_catL pins s σ H _ _ v u Q J rx ry ⟨p, q, vs, us, rfl, rfl, q1, q2, by rw [← z1.len, ← z2.len]; exact hl, mk_lst r (z1.append z2) h⟩
      · exact False.elim h
    · exact False.elim h
  · split at h
    · rename_i xs e1
      obtain ⟨p, vs, rfl, q1, z1⟩ := lst_of r ha e1
      unfold RW at hb
      subst hb
      rw [hG] at q1
      split at h
      · rename_i hl
        exact op_repL pins s σ H _ _ v u Q J rx ry ⟨p, _, vs, rfl, rfl, q1, hl.1, hl.2.1, by rw [← z1.len]; exact hl.2.2, mk_lst r (z1.flat _) h⟩
      · exact False.elim h
    · exact False.elim h
  · exact False.elim h

/-! ### data -/
end
def kDK : Key → PyData
  | .inl i => .int i
  | .inr x => .str x
theorem kD_of {k : Kd} {q : Key} (h : kOf k = some q) : kD k = kDK q := by
  cases k <;> simp [kOf] at h <;> (subst h) <;> (unfold kD; rfl)
mutual
/-- what a value of the heap reads as (dicts too) -/
inductive Dq (K : PySem.W.Frag) (H : Hp) : V → PyData → Prop
  | non : Dq K H .non .none
  | bl (b : Bool) : Dq K H (.bl b) (.bool b)
  | int (i : Int) : Dq K H (.int i) (.int i)
  | str (x : Str) : Dq K H (.str x) (.str x)
  | lst {a : Addr} {xs : List V} {ds : List PyData} : SqL K H a xs → DqAll K H xs ds → Dq K H (.ref a) (.list ds)
  | tup {a : Addr} {xs : List V} {ds : List PyData} : SqT K H a xs → DqAll K H xs ds → Dq K H (.ref a) (.tuple ds)
  | dct {a : Addr} {kvs : List (Key × V)} {ds : List (PyData × PyData)} : H a = some (.dK kvs) → DqKv K H kvs ds → Dq K H (.ref a) (.dict ds)
inductive DqAll (K : PySem.W.Frag) (H : Hp) : List V → List PyData → Prop
  | nil : DqAll K H [] []
  | cons {v : V} {vs : List V} {d : PyData} {ds : List PyData} : Dq K H v d → DqAll K H vs ds → DqAll K H (v :: vs) (d :: ds)
inductive DqKv (K : PySem.W.Frag) (H : Hp) : List (Key × V) → List (PyData × PyData) → Prop
  | nil : DqKv K H [] []
  | cons {k : Key} {v : V} {vs : List (Key × V)} {d : PyData} {ds : List (PyData × PyData)} : Dq K H v d → DqKv K H vs ds → DqKv K H ((k, v) :: vs) ((kDK k, d) :: ds)
end
section
variable {G : Gd} {H : Hp} {I : Ix} {S : So} {f : Nat → Option PyData}
mutual
theorem dW_ok (hf : ∀ (i : Nat) (d : PyData) (a : Addr), f i = some d → I.st[i]? = some a → Dq G.K H (.ref a) d) : ∀ (w : W) (v : V) (d : PyData), RW G H I w v → dW f w = some d → Dq G.K H v d
  | .non, _, _, h, e => by unfold RW at h; unfold dW at e; subst h; cases e; exact .non
  | .bl b, _, _, h, e => by unfold RW at h; unfold dW at e; subst h; cases e; exact .bl b
  | .int b, _, _, h, e => by unfold RW at h; unfold dW at e; subst h; cases e; exact .int b
  | .str b, _, _, h, e => by unfold RW at h; unfold dW at e; subst h; cases e; exact .str b
  | .ty _, _, _, _, e => by unfold dW at e; cases e
  | .glo _, _, _, _, e => by unfold dW at e; cases e
  | .ref i, _, _, h, e => by
    unfold RW at h; unfold dW at e
    obtain ⟨a, rfl, hi⟩ := h
    exact hf i _ a e hi
  | .tup ws, _, _, h, e => by
    unfold RW at h; unfold dW at e
    obtain ⟨a, vs, rfl, s, z⟩ := h
    obtain ⟨ds, e1, rfl⟩ := Option.map_eq_some_iff.mp e
    exact .tup s (dWs_ok hf ws vs ds z e1)
  | .fl t ws, _, _, h, e => by
    unfold RW at h; unfold dW at e
    obtain ⟨a, vs, rfl, s, z⟩ := h
    obtain ⟨ds, e1, rfl⟩ := Option.map_eq_some_iff.mp e
    exact .lst s.now (dWs_ok hf ws vs ds z e1)
  | .fd t ws, _, _, h, e => by
    unfold RW at h; unfold dW at e
    obtain ⟨a, vs, rfl, s, z⟩ := h
    obtain ⟨ds, e1, rfl⟩ := Option.map_eq_some_iff.mp e
    exact .dct s.1 (dKvs_ok hf ws vs ds z e1)
  | .fins _ _ _, _, _, _, e => by unfold dW at e; cases e
theorem dWs_ok (hf : ∀ (i : Nat) (d : PyData) (a : Addr), f i = some d → I.st[i]? = some a → Dq G.K H (.ref a) d) : ∀ (ws : List W) (vs : List V) (ds : List PyData), RWs G H I ws vs → dWs f ws = some ds → DqAll G.K H vs ds
  | [], _, _, h, e => by rw [h.inv0]; unfold dWs at e; cases e; exact .nil
  | w :: ws, _, _, h, e => by
    obtain ⟨v, r, rfl, h1, h2⟩ := h.inv
    unfold dWs at e
    split at e
    · cases e
    · rename_i d hd
      split at e
      · cases e
      · rename_i ds hds
        cases e
        exact .cons (dW_ok hf w v d h1 hd) (dWs_ok hf ws r ds h2 hds)
theorem dKvs_ok (hf : ∀ (i : Nat) (d : PyData) (a : Addr), f i = some d → I.st[i]? = some a → Dq G.K H (.ref a) d) : ∀ (ws : List (Kd × W)) (vs : List (Key × V)) (ds : List (PyData × PyData)), RKs G H I ws vs → dKvs f ws = some ds → DqKv G.K H vs ds
  | [], _, _, h, e => by rw [h.inv0]; unfold dKvs at e; cases e; exact .nil
  | (k, w) :: ws, _, _, h, e => by
    obtain ⟨q, v, r, rfl, ek, h1, h2⟩ := h.inv
    unfold dKvs at e
    split at e
    · cases e
    · rename_i d hd
      split at e
      · cases e
      · rename_i ds hds
        cases e
        rw [kD_of ek]
        exact .cons (dW_ok hf w v d h1 hd) (dKvs_ok hf ws r ds h2 hds)
end
theorem dR_ok (r : Rel G H I S) : ∀ (n i : Nat) (d : PyData) (a : Addr), dR S n i = some d → I.st[i]? = some a → Dq G.K H (.ref a) d
  | 0, _, _, _, e, _ => by unfold dR at e; cases e
  | n + 1, i, d, a, e, hi => by
    unfold dR at e
    split at e
    · rename_i xs hS
      obtain ⟨vs, q, z⟩ := r.obj _ _ _ hS hi
      obtain ⟨ds, e1, rfl⟩ := Option.map_eq_some_iff.mp e
      exact .lst (.inl (.inl q)) (dWs_ok (dR_ok r n) _ _ _ z e1)
    · rename_i xs hS
      obtain ⟨vs, q, z⟩ := r.obj _ _ _ hS hi
      obtain ⟨ds, e1, rfl⟩ := Option.map_eq_some_iff.mp e
      exact .dct q (dKvs_ok (dR_ok r n) _ _ _ z e1)
    · cases e
theorem toD_ok (r : Rel G H I S) {w : W} {v : V} {d : PyData} (h : RW G H I w v) (e : toD S w = some d) : Dq G.K H v d := dW_ok (dR_ok r deepS) w v d h e
end
section
variable {X : Cx} {pins : List (Addr × Obj)} {σ : St} {H : Hp} {s : Shared}
theorem kD_reads {h : Heap} {k : Key} {v : Value} (e : keyIs k v = true) : Reads h v (kDK k) [] := by
  rcases keyIs_shape e with ⟨i, t, e1, e2⟩ | ⟨x, t, e1, e2⟩
  · subst e1 e2; exact Reads.int i t
  · subst e1 e2; exact Reads.str x t
theorem pairs_keys {P : Program} {w : World} {h : Heap} {es : List DictEntry} {vs : List (Key × Value)} (p : Pairs (mixKind P w) es vs) : ∀ {kvs : List (Key × V)} {ds : List (PyData × PyData)}, KV kvs vs → DqKv X.K H kvs ds →
    ReadsAll h (es.map (·.key)) (ds.map (·.1)) [] := by
  induction p with
  | nil => intro kvs ds k d; cases k; cases d; exact .nil
  | @cons e kv es vs h1 h2 _ ih =>
    intro kvs ds k d
    cases k with
    | cons q r =>
      cases d with
      | cons q2 r2 =>
        have h3 : keyIs kv.1 e.key = true := h1
        rw [← q.1] at h3
        exact ReadsAll.cons (kD_reads h3) (ih r r2)
/-- the object that stands at sysModules is a dict, and no thing of ours -/
def Sys (base : Heap) : Prop := ∃ o es ep, base.get? sysModules = some o ∧ o.data = .dict es ep
theorem ne_sys (J : Inv X pins σ H s) (y : Sys X.base) {a : Addr} {u : HO} (h : H a = some u) : a ≠ sysModules := by
  obtain ⟨o, es, ep, e, _⟩ := y
  rintro rfl
  rw [(J.bs _ _ e).2] at h; cases h
theorem ne_sysL (J : Inv X pins σ H s) (y : Sys X.base) {a : Addr} {xs : List V} (h : SqL X.K H a xs) : a ≠ sysModules := by
  rcases h with (h | ⟨o, h⟩) | ⟨o, its, n, e, c, _, d, _⟩
  · exact ne_sys J y h
  · exact ne_sys J y h
  · obtain ⟨o2, es, ep, e2, d2⟩ := y
    rintro rfl
    have e3 := J.mod.kin _ _ e
    rw [e2] at e3; cases e3
    rw [d] at d2; cases d2
mutual
theorem Dq.reads (J : Inv X pins σ H s) (y : Sys X.base) : ∀ (d : PyData) (v : V) (u : Value), Dq X.K H v d → RelV v u → ∃ as, Reads s.heap u d as ∧ sysModules ∉ as
  | .none, _, _, h, r => by cases h; cases r; exact ⟨_, Reads.none, by simp⟩
  | .bool b, _, _, h, r => by cases h; cases r; exact ⟨_, Reads.bool b, by simp⟩
  | .int i, _, _, h, r => by cases h; obtain ⟨t, rfl⟩ := r; exact ⟨_, Reads.int i t, by simp⟩
  | .str x, _, _, h, r => by cases h; obtain ⟨t, rfl⟩ := r; exact ⟨_, Reads.str x t, by simp⟩
  | .list ds, _, _, h, r => by
    cases h with
    | lst hs ha =>
      cases r
      obtain ⟨its, rv, ⟨o, n, ho, hc, _, hd⟩, _⟩ := J.list hs
      obtain ⟨as, hr, hn⟩ := Dq.readsAll J y ds _ its ha rv
      refine ⟨_, Reads.list ho hc hd hr, ?_⟩
      simp only [List.mem_cons, not_or]
      exact ⟨(ne_sysL J y hs).symm, hn⟩
  | .tuple ds, _, _, h, r => by
    cases h with
    | tup hs ha =>
      cases r
      obtain ⟨its, rv, ⟨o, ho, hc, n, hd⟩, _⟩ := J.tuple hs
      obtain ⟨as, hr, hn⟩ := Dq.readsAll J y ds _ its ha rv
      exact ⟨_, Reads.tuple ho hc hd hr, hn⟩
  | .dict ds, _, _, h, r => by
    cases h with
    | dct hs ha =>
      cases r
      obtain ⟨_, hS, vs, rk, o, es, ep, ho, hx, hd, _, hp, _⟩ := J.hok _ _ hs
      obtain ⟨bs, hr, hn⟩ := Dq.readsKv J y ds _ vs _ ha rk hp
      refine ⟨_, Reads.dict ho hx.1 hd (pairs_keys hp rk ha) hr, ?_⟩
      simp only [List.append_nil, List.mem_append, List.mem_cons, List.not_mem_nil, or_false, not_or]
      exact ⟨(ne_sys J y hs).symm, hn⟩
theorem Dq.readsAll (J : Inv X pins σ H s) (y : Sys X.base) : ∀ (ds : List PyData) (vs : List V) (us : List Value), DqAll X.K H vs ds → Vals vs us → ∃ as, ReadsAll s.heap us ds as ∧ sysModules ∉ as
  | [], _, _, h, r => by cases h; cases r; exact ⟨_, ReadsAll.nil, by simp⟩
  | d :: ds, _, _, h, r => by
    cases h with
    | cons h1 h2 =>
      cases r with
      | cons r1 r2 =>
        obtain ⟨as, q1, n1⟩ := Dq.reads J y d _ _ h1 r1
        obtain ⟨bs, q2, n2⟩ := Dq.readsAll J y ds _ _ h2 r2
        exact ⟨_, ReadsAll.cons q1 q2, by simp only [List.mem_append, not_or]; exact ⟨n1, n2⟩⟩
theorem Dq.readsKv (J : Inv X pins σ H s) (y : Sys X.base) : ∀ (ds : List (PyData × PyData)) (kvs : List (Key × V)) (vs : List (Key × Value)) (es : List DictEntry), DqKv X.K H kvs ds → KV kvs vs → Pairs (mixKind X.prog X.w) es vs →
    ∃ as, ReadsAll s.heap (es.map (·.val)) (ds.map (·.2)) as ∧ sysModules ∉ as
  | [], _, _, _, h, r, p => by cases h; cases r; cases p; exact ⟨_, ReadsAll.nil, by simp⟩
  | (k, d) :: ds, _, _, _, h, r, p => by
    cases h with
    | cons h1 h2 =>
      cases r with
      | cons r1 r2 =>
        cases p with
        | cons p1 p2 p3 =>
          obtain ⟨as, q1, n1⟩ := Dq.reads J y d _ _ h1 (p2 ▸ r1.2)
          obtain ⟨bs, q2, n2⟩ := Dq.readsKv J y ds _ _ _ h2 r2 p3
          exact ⟨_, ReadsAll.cons q1 q2, by simp only [List.mem_append, not_or]; exact ⟨n1, n2⟩⟩
end
/-- repr(x) of data -/
theorem call_reprD (hg : X.A.guards = some []) (hu : X.A.units + 200 < cLine) (y : Sys X.base) : CallR X (.builtin "repr") (fun xs H Q => ∃ x d, xs = [x] ∧ Dq X.K H x d ∧ d.showable = true ∧ d.shown.length ≤ sizeLine ∧ d.depth ≤ 150 ∧ Q (.str d.shown) H) := by
  rintro pins s σ H xs us Q J r ⟨x, d, rfl, hd, h1, h2, h3, q⟩
  obtain ⟨u, rfl, rx⟩ := vals1 r
  obtain ⟨as, hr, hn⟩ := Dq.reads J y d x u hd rx
  have fin : ∀ h' t tk, (∀ b o, s.heap.get? b = some o → h'.get? b = some o) → EP X pins σ Q (.str d.shown t) { s with heap := h', toks := tk } := fun h' t tk k => ⟨.str d.shown, H, J.kept k, ⟨_, rfl⟩, q⟩
  cases hr with
  | none => exact PySem.P.repr_of_none (fin s.heap _ _ fun _ _ e => e)
  | bool b => exact PySem.P.repr_of_bool (fin s.heap _ _ fun _ _ e => e)
  | int i t => exact PySem.P.repr_of_int (by unfold PyData.showable at h1; exact of_decide_eq_true h1) (fin s.heap _ _ fun _ _ e => e)
  | str x t => exact PySem.P.repr_of_str (fin s.heap _ _ fun _ _ e => e) h2
  | list a1 a2 a3 a4 => exact repr_of_reads' (.list a1 a2 a3 a4) h1 (fun _ => hn) hg (by omega) (fun _ _ e => e) (fun h' u tk k => fin h' u tk k) h2
  | tuple a1 a2 a3 a4 => exact repr_of_reads' (.tuple a1 a2 a3 a4) h1 (fun _ => hn) hg (by omega) (fun _ _ e => e) (fun h' u tk k => fin h' u tk k) h2
  | dict a1 a2 a3 a4 a5 => exact repr_of_reads' (.dict a1 a2 a3 a4 a5) h1 (fun _ => hn) hg (by omega) (fun _ _ e => e) (fun h' u tk k => fin h' u tk k) h2
end
end Y

/-! A dict is no text. -/
namespace Y
open PySem PySem.Spec L2
section
open PySem.SeqAt AutoSeq1 MeetsSeq
theorem str_eq_dict (b : Str) (u : Tok) (l : Addr) (c : Value) (es : Array DictEntry) (ep : Nat) (dd : Option Addr) (sl : Array (Option Value)) :
    Meets (Builtin.«str.__eq__» ⟨[.str b u, .ref l], []⟩) (fun _ R s => s.heap.get? l = some { cls := c, dict := dd, data := .dict es ep, slots := sl } ∧ R (.ok (.ret .notImplemented)) s) :=
  .of_wp fun prog w A R s h => by obtain ⟨hp, g, d, tk, os⟩ := s; obtain ⟨hl, h⟩ := h; wp_walk using wpAny_loadPart' hl, wpAny_load hl; exact ⟨_, rfl, h⟩
theorem str_ne_dict (b : Str) (u : Tok) (l : Addr) (c : Value) (es : Array DictEntry) (ep : Nat) (dd : Option Addr) (sl : Array (Option Value)) :
    Meets (Builtin.«str.__ne__» ⟨[.str b u, .ref l], []⟩) (fun _ R s => s.heap.get? l = some { cls := c, dict := dd, data := .dict es ep, slots := sl } ∧ R (.ok (.ret .notImplemented)) s) :=
  .of_wp fun prog w A R s h => by obtain ⟨hp, g, d, tk, os⟩ := s; obtain ⟨hl, h⟩ := h; wp_walk using wpAny_loadPart' hl, wpAny_load hl; exact ⟨_, rfl, h⟩
section
variable {prog : Program} {w : World} {A : Around} {E : Value → Shared → Prop} {s : Shared} {Q : Value → Shared → Prop}
theorem dict_eq_str {a : Addr} {b : Str} {u : Tok} (ta : s.TypeIs (.ref a) "dict") (q : Q .notImplemented s) : wpAny (model prog w) A (call (.builtin "dict.__eq__") [.ref a, .str b u]) Q E s := by
  refine wpAny_call_entry PySem.F.slot_dict_eq ta PySem.F.entry_dict_eq ?_ (PySem.F.args_dict_eq_2 _ _)
  show wpAny _ _ (Builtin.Dict.dictSlotArgs "__eq__" ⟨[.ref a, .str b u], []⟩ >>= _) _ _ s
  refine wpAny_bind ?_
  unfold Builtin.Dict.dictSlotArgs
  refine wpAny_bind (wpAny_notOrdered_dict ta ?_)
  show wpAny _ _ (pure (Value.ref a, Value.str b u)) _ _ s
  refine wpAny_pure ?_
  refine wpAny_bind (wpAny_isInstance (T := "str") (typeIs_str s b u) PySem.F.sub_str_dict ?_)
  simp only [Bool.not_false, if_true]
  exact wpAny_bind (wpAny_rule (wpAny_pure ⟨_, rfl, q⟩))
theorem dict_ne_str {a : Addr} {b : Str} {u : Tok} (ta : s.TypeIs (.ref a) "dict") (q : Q .notImplemented s) : wpAny (model prog w) A (call (.builtin "dict.__ne__") [.ref a, .str b u]) Q E s := by
  refine wpAny_call_entry PySem.F.slot_dict_ne ta PySem.F.entry_dict_ne ?_ (PySem.F.args_dict_ne_2 _ _)
  show wpAny _ _ (Builtin.Dict.dictSlotArgs "__ne__" ⟨[.ref a, .str b u], []⟩ >>= _) _ _ s
  refine wpAny_bind ?_
  unfold Builtin.Dict.dictSlotArgs
  refine wpAny_bind (wpAny_notOrdered_dict ta ?_)
  show wpAny _ _ (pure (Value.ref a, Value.str b u)) _ _ s
  refine wpAny_pure ?_
  refine wpAny_bind (wpAny_isInstance (T := "str") (typeIs_str s b u) PySem.F.sub_str_dict ?_)
  simp only [Bool.not_false, if_true]
  exact wpAny_bind (wpAny_rule (wpAny_pure ⟨_, rfl, q⟩))
theorem sub_str_dict' : isSubtype (.type "str") (.type "dict") = pure false := PySem.F.sub_str_dict
theorem rc_dict_str {a : Addr} {b : Str} {u : Tok} {es : Array DictEntry} {ep : Nat} {o : Obj} (ho : s.heap.get? a = some o) (hc : o.cls = .type "dict") (hd : o.data = .dict es ep) (hu : A.units < cLine) (q : Q (.bool false) s) : wpAny (model prog w) A (richCompare .Eq (.ref a) (.str b u)) Q E s := by
  obtain ⟨cls, dd, data, sl⟩ := o
  simp only at hc hd
  subst hc hd
  have ta : s.TypeIs (.ref a) "dict" := ⟨_, ho, rfl⟩
  exact rc_eq_decline_or (k := false) ta (typeIs_str s b u) (by decide) PySem.F.sub_str_dict PySem.F.slot_dict_eq F.slot_str_eq_refl
    (fun _ hq => dict_eq_str ta hq)
    (fun _ hq => call_meets F.slot_str_eq_refl (typeIs_str s b u) F.entry_str_eq (F.args_str_eq_2 _ _) (str_eq_dict b u a (.type "dict") es ep dd sl) ⟨ho, hq⟩)
    (fun _ hq => wpAny_of_eq (rfl : isSame (.ref a) (.str b u) = pure false) hq) (.inr hu) q
theorem rcN_dict_str {a : Addr} {b : Str} {u : Tok} {es : Array DictEntry} {ep : Nat} {o : Obj} (ho : s.heap.get? a = some o) (hc : o.cls = .type "dict") (hd : o.data = .dict es ep) (hu : A.units < cLine) (q : Q (.bool true) s) : wpAny (model prog w) A (richCompare .NotEq (.ref a) (.str b u)) Q E s := by
  obtain ⟨cls, dd, data, sl⟩ := o
  simp only at hc hd
  subst hc hd
  have ta : s.TypeIs (.ref a) "dict" := ⟨_, ho, rfl⟩
  exact rc_ne_decline_or (k := false) ta (typeIs_str s b u) (by decide) PySem.F.sub_str_dict PySem.F.slot_dict_ne F.slot_str_ne_refl
    (fun _ hq => dict_ne_str ta hq)
    (fun _ hq => call_meets F.slot_str_ne_refl (typeIs_str s b u) F.entry_str_ne (F.args_str_ne_2 _ _) (str_ne_dict b u a (.type "dict") es ep dd sl) ⟨ho, hq⟩)
    (fun _ hq => wpAny_of_eq (rfl : isSame (.ref a) (.str b u) = pure false) hq) (.inr hu) q
end
end
end Y

/-! What the comparisons, the built-ins and the methods answer. -/
namespace Y
open PySem PySem.Spec L2
section
variable {X : Cx} {G : Gd} {E : EK}
/-- a comparison by values -/
def rC (G : Gd) (f : W → W → So → Option Bool) : R2 := fun x y H Q => ∃ I S u v b, Rel G H I S ∧ RW G H I u x ∧ RW G H I v y ∧ f u v S = some b ∧ Q (.bl b) H
theorem DqAll.noDict {K : PySem.W.Frag} {H : Hp} {v : V} {d : PyData} (h : Dq K H v d) (q : SeqAt.shaped d = true) : d.hasDict = false := PyData.hasDict_of_canLay d (SeqAt.canLay_of_shaped q)
theorem op_eqZ (hu : X.A.units + 64 < cLine) (y : Sys X.base) : OpR X (compareOp .Eq) (fun x z H Q => ∃ d e, Dq X.K H x d ∧ Dq X.K H z e ∧ SeqAt.shaped d = true ∧ SeqAt.shaped e = true ∧ Q (.bl (PyData.eqv d e)) H) := by
  rintro pins s σ H x z v u Q J rx rz ⟨d, e, hd, he, sd, se, q⟩
  obtain ⟨as, r1, _⟩ := Dq.reads J y d x v hd rx
  obtain ⟨bs, r2, _⟩ := Dq.reads J y e z u he rz
  exact SeqAt.compareEq_shaped r1 r2 sd se hu ⟨.bl _, H, J, rfl, q⟩
theorem op_neZ (hu : X.A.units + 64 < cLine) (y : Sys X.base) : OpR X (compareOp .NotEq) (fun x z H Q => ∃ d e, Dq X.K H x d ∧ Dq X.K H z e ∧ SeqAt.shaped d = true ∧ SeqAt.shaped e = true ∧ Q (.bl (!PyData.eqv d e)) H) := by
  rintro pins s σ H x z v u Q J rx rz ⟨d, e, hd, he, sd, se, q⟩
  obtain ⟨as, r1, _⟩ := Dq.reads J y d x v hd rx
  obtain ⟨bs, r2, _⟩ := Dq.reads J y e z u he rz
  exact SeqAt.compareNe_shaped r1 r2 sd se hu ⟨.bl _, H, J, rfl, q⟩
theorem eqD_ok {H : Hp} {I : Ix} {S : So} {x y : W} {v u : V} {b : Bool} (r : Rel G H I S) (h1 : RW G H I x v) (h2 : RW G H I y u) (e : eqD x y S = some b) :
    ∃ d e, Dq G.K H v d ∧ Dq G.K H u e ∧ SeqAt.shaped d = true ∧ SeqAt.shaped e = true ∧ b = PyData.eqv d e := by
  unfold eqD at e
  split at e
  · rename_i d1 d2 e1 e2
    split at e
    · rename_i hs
      rw [Bool.and_eq_true] at hs
      cases e
      exact ⟨d1, d2, toD_ok r h1 e1, toD_ok r h2 e2, hs.1, hs.2, rfl⟩
    · cases e
  · cases e
theorem flat_ok {H : Hp} {I : Ix} {x : W} {v : V} (h : RW G H I x v) (f : flatW x = true) : flatV v = true := by
  cases x <;> simp only [flatW] at f <;> (try cases f) <;> (unfold RW at h; subst h; rfl)
theorem eqV_ok {H : Hp} {I : Ix} {x y : W} {v u : V} (h1 : RW G H I x v) (h2 : RW G H I y u) (f1 : flatW x = true) (f2 : flatW y = true) : eqV v u = eqW x y := by
  cases x <;> simp only [flatW] at f1 <;> (try cases f1) <;> (unfold RW at h1; subst h1) <;>
    (cases y <;> simp only [flatW] at f2 <;> (try cases f2) <;> (unfold RW at h2; subst h2; first | rfl | (simp [eqV, eqW]; done) | skip))
theorem RWs.allFlat {H : Hp} {I : Ix} : ∀ {ws : List W} {vs : List V}, RWs G H I ws vs → ws.all flatW = true → vs.all flatV = true
  | [], _, h, _ => by rw [h.inv0]; rfl
  | w :: ws, _, h, f => by
    obtain ⟨v, r, rfl, h1, h2⟩ := h.inv
    rw [List.all_cons, Bool.and_eq_true] at f ⊢
    exact ⟨flat_ok h1 f.1, RWs.allFlat h2 f.2⟩
theorem RWs.inV {H : Hp} {I : Ix} {x : W} {v : V} (hx : RW G H I x v) (fx : flatW x = true) : ∀ {ws : List W} {vs : List V}, RWs G H I ws vs → ws.all flatW = true → L2.inV v vs = inW x ws
  | [], _, h, _ => by rw [h.inv0]; rfl
  | w :: ws, _, h, f => by
    obtain ⟨u, r, rfl, h1, h2⟩ := h.inv
    rw [List.all_cons, Bool.and_eq_true] at f
    have q := RWs.inV hx fx h2 f.2
    unfold L2.inV inW at q ⊢
    rw [List.any_cons, List.any_cons, q, eqV_ok h1 hx f.1 fx]
theorem isN_ok {H : Hp} {I : Ix} {x : W} {v : V} (h : RW G H I x v) : decide (v = .non) = (match x with | .non => true | _ => false) := by
  cases x <;> unfold RW at h
  case non => subst h; rfl
  case bl => subst h; rfl
  case int => subst h; rfl
  case str => subst h; rfl
  case ty => subst h; rfl
  case tup => obtain ⟨a, vs, rfl, _⟩ := h; rfl
  case fl => obtain ⟨a, vs, rfl, _⟩ := h; rfl
  case fd => obtain ⟨a, vs, rfl, _⟩ := h; rfl
  case fins => obtain ⟨a, c, dx, vs, rfl, _⟩ := h; rfl
  case ref => obtain ⟨a, rfl, _⟩ := h; rfl
  case glo => obtain ⟨a, rfl, _⟩ := h; rfl
theorem op_eqL (hu : X.A.units + 64 < cLine) : OpR X (compareOp .Eq) (fun x z H Q => ∃ a b xs ys, x = .ref a ∧ z = .ref b ∧ SqL X.K H a xs ∧ SqL X.K H b ys ∧ xs.length ≠ ys.length ∧ Q (.bl false) H) := by
  rintro pins s σ H x z v u Q J rx rz ⟨a, b, xs, ys, rfl, rfl, ha, hb, hl, q⟩
  cases rx
  cases rz
  obtain ⟨its, r, ⟨⟨cls, dd, data, sl⟩, n, ho, hc, _, hd⟩, _⟩ := J.list ha
  obtain ⟨its2, r2, ⟨⟨cls2, dd2, data2, sl2⟩, n2, ho2, hc2, _, hd2⟩, _⟩ := J.list hb
  simp only at hc hd hc2 hd2
  subst hc hd hc2 hd2
  have ta : s.TypeIs (.ref a) "list" := ⟨_, ho, rfl⟩
  have tb : s.TypeIs (.ref b) "list" := ⟨_, ho2, rfl⟩
  have hne : (its.toArray.size != its2.toArray.size) = true := by
    rw [List.size_toArray, List.size_toArray, ← r.length, ← r2.length]
    simpa using hl
  exact wpAny_richCompare_same_room (op := .Eq) ta tb PySem.F.slot_list_eq (call_meets PySem.F.slot_list_eq ta PySem.F.entry_list_eq (PySem.F.args_list_eq_2 _ _) (SeqAt.list_eq_lengthsAt a b its.toArray its2.toArray n n2 dd dd2 sl sl2 hne)
    ⟨ho, ho2, show Value.bool false ≠ Value.notImplemented ∧ _ from ⟨(fun x => nomatch x), ⟨.bl false, H, J, rfl, q⟩⟩⟩) (by omega)
theorem op_neL (hu : X.A.units + 64 < cLine) : OpR X (compareOp .NotEq) (fun x z H Q => ∃ a b xs ys, x = .ref a ∧ z = .ref b ∧ SqL X.K H a xs ∧ SqL X.K H b ys ∧ xs.length ≠ ys.length ∧ Q (.bl true) H) := by
  rintro pins s σ H x z v u Q J rx rz ⟨a, b, xs, ys, rfl, rfl, ha, hb, hl, q⟩
  cases rx
  cases rz
  obtain ⟨its, r, ⟨⟨cls, dd, data, sl⟩, n, ho, hc, _, hd⟩, _⟩ := J.list ha
  obtain ⟨its2, r2, ⟨⟨cls2, dd2, data2, sl2⟩, n2, ho2, hc2, _, hd2⟩, _⟩ := J.list hb
  simp only at hc hd hc2 hd2
  subst hc hd hc2 hd2
  have ta : s.TypeIs (.ref a) "list" := ⟨_, ho, rfl⟩
  have tb : s.TypeIs (.ref b) "list" := ⟨_, ho2, rfl⟩
  have hne : (its.toArray.size != its2.toArray.size) = true := by
    rw [List.size_toArray, List.size_toArray, ← r.length, ← r2.length]
    simpa using hl
  exact wpAny_richCompare_same_room (op := .NotEq) ta tb PySem.F.slot_list_ne (call_meets PySem.F.slot_list_ne ta PySem.F.entry_list_ne (PySem.F.args_list_ne_2 _ _) (SeqAt.list_ne_lengthsAt a b its.toArray its2.toArray n n2 dd dd2 sl sl2 hne)
    ⟨ho, ho2, show Value.bool true ≠ Value.notImplemented ∧ _ from ⟨(fun x => nomatch x), ⟨.bl true, H, J, rfl, q⟩⟩⟩) (by omega)
theorem lenD_ok {H : Hp} {I : Ix} {S : So} {x y : W} {v u : V} (r : Rel G H I S) (h1 : RW G H I x v) (h2 : RW G H I y u) (e : lenD x y S = true) : ∃ a b xs ys, v = .ref a ∧ u = .ref b ∧ SqL G.K H a xs ∧ SqL G.K H b ys ∧ xs.length ≠ ys.length := by
  unfold lenD at e
  split at e
  · rename_i a b e1 e2
    obtain ⟨p, vs, rfl, q1, z1⟩ := lst_of r h1 e1
    obtain ⟨q, us, rfl, q2, z2⟩ := lst_of r h2 e2
    exact ⟨p, q, vs, us, rfl, rfl, q1, q2, by rw [← z1.len, ← z2.len]; simpa using e⟩
  · cases e
theorem op_inZ (hu : X.A.units + 65 < cLine) (y : Sys X.base) : OpR X (compareOp .In) (fun x z H Q => ∃ d ds, Dq X.K H x d ∧ (Dq X.K H z (.list ds) ∧ SeqAt.shaped (.list ds) = true ∨ Dq X.K H z (.tuple ds) ∧ SeqAt.shaped (.tuple ds) = true) ∧ SeqAt.shaped d = true ∧ Q (.bl (ds.any fun z => PyData.eqv z d)) H) := by
  rintro pins s σ H x z v u Q J rx rz ⟨d, ds, hd, he, sd, q⟩
  obtain ⟨as, r1, _⟩ := Dq.reads J y d x v hd rx
  rcases he with ⟨he, se⟩ | ⟨he, se⟩
  · obtain ⟨bs, r2, _⟩ := Dq.reads J y (.list ds) z u he rz
    exact SeqAt.in_list_reads r2 r1 (SeqAt.canLay_of_shaped se) (SeqAt.canLay_of_shaped sd) (PyProof.Rows.room_in_shaped sd hu) ⟨.bl _, H, J, rfl, q⟩
  · obtain ⟨bs, r2, _⟩ := Dq.reads J y (.tuple ds) z u he rz
    exact SeqAt.in_tuple_reads r2 r1 (SeqAt.canLay_of_shaped se) (SeqAt.canLay_of_shaped sd) (PyProof.Rows.room_in_shaped sd hu) ⟨.bl _, H, J, rfl, q⟩
theorem op_niZ (hu : X.A.units + 65 < cLine) (y : Sys X.base) : OpR X (compareOp .NotIn) (fun x z H Q => ∃ d ds, Dq X.K H x d ∧ (Dq X.K H z (.list ds) ∧ SeqAt.shaped (.list ds) = true ∨ Dq X.K H z (.tuple ds) ∧ SeqAt.shaped (.tuple ds) = true) ∧ SeqAt.shaped d = true ∧ Q (.bl (!ds.any fun z => PyData.eqv z d)) H) := by
  rintro pins s σ H x z v u Q J rx rz ⟨d, ds, hd, he, sd, q⟩
  obtain ⟨as, r1, _⟩ := Dq.reads J y d x v hd rx
  rcases he with ⟨he, se⟩ | ⟨he, se⟩
  · obtain ⟨bs, r2, _⟩ := Dq.reads J y (.list ds) z u he rz
    exact SeqAt.notIn_list_reads r2 r1 (SeqAt.canLay_of_shaped se) (SeqAt.canLay_of_shaped sd) (PyProof.Rows.room_in_shaped sd hu) ⟨.bl _, H, J, rfl, q⟩
  · obtain ⟨bs, r2, _⟩ := Dq.reads J y (.tuple ds) z u he rz
    exact SeqAt.notIn_tuple_reads r2 r1 (SeqAt.canLay_of_shaped se) (SeqAt.canLay_of_shaped sd) (PyProof.Rows.room_in_shaped sd hu) ⟨.bl _, H, J, rfl, q⟩
theorem inD_ok {H : Hp} {I : Ix} {S : So} {x y : W} {v u : V} {b : Bool} (r : Rel G H I S) (h1 : RW G H I x v) (h2 : RW G H I y u) (e : inD x y S = some b) :
    ∃ d ds, Dq G.K H v d ∧ (Dq G.K H u (.list ds) ∧ SeqAt.shaped (.list ds) = true ∨ Dq G.K H u (.tuple ds) ∧ SeqAt.shaped (.tuple ds) = true) ∧ SeqAt.shaped d = true ∧ b = ds.any fun z => PyData.eqv z d := by
  unfold inD at e
  split at e
  · rename_i d1 d2 e1 e2
    split at e
    · rename_i hs
      rw [Bool.and_eq_true] at hs
      cases e
      exact ⟨d1, d2, toD_ok r h1 e1, .inl ⟨toD_ok r h2 e2, hs.2⟩, hs.1, rfl⟩
    · cases e
  · rename_i d1 d2 e1 e2
    split at e
    · rename_i hs
      rw [Bool.and_eq_true] at hs
      cases e
      exact ⟨d1, d2, toD_ok r h1 e1, .inr ⟨toD_ok r h2 e2, hs.2⟩, hs.1, rfl⟩
    · cases e
  · cases e
/-- what oddEq tells of the values -/
def Odd (K : PySem.W.Frag) (H : Hp) (v u : V) (b : Bool) : Prop :=
  (∃ a xs z, v = .ref a ∧ u = .str z ∧ (SqT K H a xs ∨ SqL K H a xs) ∧ b = false) ∨ (∃ a ks z, v = .ref a ∧ u = .str z ∧ H a = some (.dK ks) ∧ b = false) ∨ ∃ a c xs, v = .ref a ∧ u = .ref c ∧ SqT K H a xs ∧ SqT K H c [] ∧ b = xs.isEmpty
theorem odd_ok {H : Hp} {I : Ix} {S : So} {x y : W} {v u : V} {b : Bool} (r : Rel G H I S) (h1 : RW G H I x v) (h2 : RW G H I y u) (e : oddEq x y S = some b) : Odd G.K H v u b := by
  unfold oddEq at e
  split at e
  · split at e
    · rename_i xs
      cases e
      unfold RW at h1 h2
      obtain ⟨a, vs, rfl, s1, z1⟩ := h1
      obtain ⟨c, us, rfl, s2, z2⟩ := h2
      have : us = [] := z2.inv0
      subst this
      refine .inr (.inr ⟨a, c, vs, rfl, rfl, s1, s2, ?_⟩)
      have := z1.len
      cases xs <;> cases vs <;> first | rfl | cases this
    · cases e
  · split at e
    · rename_i xs
      cases e
      unfold RW at h1 h2
      obtain ⟨a, vs, rfl, s1, z1⟩ := h1
      exact .inl ⟨a, vs, _, rfl, h2, .inl s1, rfl⟩
    · split at e
      · rename_i hc
        cases e
        have h2q := h2
        unfold RW at h2q
        rw [Bool.or_eq_true] at hc
        rcases hc with hc | hc
        · obtain ⟨ws, ew⟩ := Option.isSome_iff_exists.mp hc
          obtain ⟨a, vs, rfl, q, _⟩ := lst_of r h1 ew
          exact .inl ⟨a, vs, _, rfl, h2q, .inr q, rfl⟩
        · obtain ⟨ws, ew⟩ := Option.isSome_iff_exists.mp hc
          obtain ⟨a, vs, rfl, q, _⟩ := dct_of r h1 ew
          exact .inr (.inl ⟨a, vs, _, rfl, h2q, q, rfl⟩)
      · cases e
  · cases e
theorem op_eqO (hu : X.A.units + 64 < cLine) : OpR X (compareOp .Eq) (fun x z H Q => ∃ b, Odd X.K H x z b ∧ Q (.bl b) H) := by
  rintro pins s σ H x z v u Q J rx rz ⟨b, h, q⟩
  have hu' : X.A.units < cLine := by omega
  rcases h with ⟨a, xs, y, rfl, rfl, h, rfl⟩ | ⟨a, ks, y, rfl, rfl, h, rfl⟩ | ⟨a, c, xs, rfl, rfl, h1, h2, rfl⟩
  · cases rx
    obtain ⟨t, rfl⟩ := rz
    rcases h with h | h
    · obtain ⟨its, rv, p, _⟩ := J.tuple h
      exact SeqAt.RcAt.tuple_str y t (show s.heap.IsTuple a its.toArray from p) hu' _ _ _ _ ⟨.bl false, H, J, rfl, q⟩
    · obtain ⟨its, rv, p, _⟩ := J.list h
      exact SeqAt.RcAt.list_str y t p.isList hu' _ _ _ _ ⟨.bl false, H, J, rfl, q⟩
  · cases rx
    obtain ⟨t, rfl⟩ := rz
    obtain ⟨_, _, vs, _, o, es, ep, ho, hc, hd, _⟩ := (show ObjOk X.prog X.w H s.heap a (.dK ks) from J.hok a _ h)
    exact rc_dict_str ho hc.1 hd hu' ⟨.bl false, H, J, rfl, q⟩
  · cases rx
    cases rz
    obtain ⟨its, rv, p, _⟩ := J.tuple h1
    obtain ⟨its2, rv2, p2, _⟩ := J.tuple h2
    cases rv2
    have := SeqAt.RcAt.tuples (e := fun _ => true) (show s.heap.IsTuple a its.toArray from p) (show s.heap.IsTuple c [].toArray from p2) hu' (fun j h1 h2 => absurd h2 (Nat.not_lt_zero j))
    refine this _ _ _ _ ⟨.bl xs.isEmpty, H, J, ?_, q⟩
    have hl := rv.length
    cases xs <;> cases its <;> first | rfl | cases hl
theorem op_neO (hu : X.A.units + 64 < cLine) : OpR X (compareOp .NotEq) (fun x z H Q => ∃ b, Odd X.K H x z b ∧ Q (.bl (!b)) H) := by
  rintro pins s σ H x z v u Q J rx rz ⟨b, h, q⟩
  have hu' : X.A.units < cLine := by omega
  rcases h with ⟨a, xs, y, rfl, rfl, h, rfl⟩ | ⟨a, ks, y, rfl, rfl, h, rfl⟩ | ⟨a, c, xs, rfl, rfl, h1, h2, rfl⟩
  · cases rx
    obtain ⟨t, rfl⟩ := rz
    rcases h with h | h
    · obtain ⟨its, rv, p, _⟩ := J.tuple h
      exact SeqAt.RcNeAt.tuple_str y t (show s.heap.IsTuple a its.toArray from p) hu' _ _ _ _ ⟨.bl true, H, J, rfl, q⟩
    · obtain ⟨its, rv, p, _⟩ := J.list h
      exact SeqAt.RcNeAt.list_str y t p.isList hu' _ _ _ _ ⟨.bl true, H, J, rfl, q⟩
  · cases rx
    obtain ⟨t, rfl⟩ := rz
    obtain ⟨_, _, vs, _, o, es, ep, ho, hc, hd, _⟩ := (show ObjOk X.prog X.w H s.heap a (.dK ks) from J.hok a _ h)
    exact rcN_dict_str ho hc.1 hd hu' ⟨.bl true, H, J, rfl, q⟩
  · cases rx
    cases rz
    obtain ⟨its, rv, p, _⟩ := J.tuple h1
    obtain ⟨its2, rv2, p2, _⟩ := J.tuple h2
    cases rv2
    have := SeqAt.RcNeAt.tuples (e := fun _ => true) (show s.heap.IsTuple a its.toArray from p) (show s.heap.IsTuple c [].toArray from p2) hu' (fun j h1 h2 => absurd h2 (Nat.not_lt_zero j))
    refine this _ _ _ _ ⟨.bl (!xs.isEmpty), H, J, ?_, q⟩
    have hl := rv.length
    cases xs <;> cases its <;> first | rfl | cases hl
theorem cmp_Z (hG : G.K = X.K) (hu1 : X.A.units + 65 < cLine) (hu : X.A.units + 64 < cLine) (ys : Sys X.base) (op : CmpOp) : OpR X (compareOp op) (rC G (cmp op)) := by
  rintro pins s σ H x y v u Q J rx ry ⟨I, S, a, b, c, r, ha, hb, e, q⟩
  unfold cmp at e
  cases op with
  | Eq =>
    have e : eqX a b S = some c := e
    unfold eqX at e
    split at e
    · cases e; unfold RW at ha hb; subst ha hb
      exact op_eq pins s σ H _ _ v u Q J rx ry ⟨rfl, by simpa using q⟩
    · cases e; unfold RW at ha hb; subst ha hb
      exact op_eq pins s σ H _ _ v u Q J rx ry ⟨rfl, by simpa using q⟩
    · split at e
      · rename_i hl
        cases e
        obtain ⟨p, q', vs, us, rfl, rfl, q1, q2, hn⟩ := lenD_ok r ha hb hl
        rw [hG] at q1 q2
        exact op_eqL hu pins s σ H _ _ v u Q J rx ry ⟨p, q', vs, us, rfl, rfl, q1, q2, hn, q⟩
      · split at e
        · rename_i eo
          cases e
          have o := odd_ok r ha hb eo
          rw [hG] at o
          exact op_eqO hu pins s σ H _ _ v u Q J rx ry ⟨_, o, q⟩
        obtain ⟨d1, d2, q1, q2, s1, s2, rfl⟩ := eqD_ok r ha hb e
        rw [hG] at q1 q2
        exact op_eqZ hu ys pins s σ H _ _ v u Q J rx ry ⟨d1, d2, q1, q2, s1, s2, q⟩
  | NotEq =>
    have e : (eqX a b S).map (!·) = some c := e
    obtain ⟨k, e3, rfl⟩ := Option.map_eq_some_iff.mp e
    unfold eqX at e3
    split at e3
    · cases e3; unfold RW at ha hb; subst ha hb
      exact op_ne pins s σ H _ _ v u Q J rx ry ⟨rfl, by simpa using q⟩
    · cases e3; unfold RW at ha hb; subst ha hb
      exact op_ne pins s σ H _ _ v u Q J rx ry ⟨rfl, by simpa using q⟩
    · split at e3
      · rename_i hl
        cases e3
        obtain ⟨p, q', vs, us, rfl, rfl, q1, q2, hn⟩ := lenD_ok r ha hb hl
        rw [hG] at q1 q2
        exact op_neL hu pins s σ H _ _ v u Q J rx ry ⟨p, q', vs, us, rfl, rfl, q1, q2, hn, q⟩
      · split at e3
        · rename_i eo
          cases e3
          have o := odd_ok r ha hb eo
          rw [hG] at o
          exact op_neO hu pins s σ H _ _ v u Q J rx ry ⟨_, o, q⟩
        obtain ⟨d1, d2, q1, q2, s1, s2, rfl⟩ := eqD_ok r ha hb e3
        rw [hG] at q1 q2
        exact op_neZ hu ys pins s σ H _ _ v u Q J rx ry ⟨d1, d2, q1, q2, s1, s2, q⟩
  | Lt =>
    simp only at e
    split at e
    · cases e; unfold RW at ha hb; subst ha hb
      exact op_lt pins s σ H _ _ v u Q J rx ry ⟨_, _, rfl, rfl, q⟩
    · cases e; unfold RW at ha hb; subst ha hb
      exact op_lt_str pins s σ H _ _ v u Q J rx ry ⟨_, _, rfl, rfl, q⟩
    · cases e
  | LtE =>
    simp only at e
    split at e
    · cases e; unfold RW at ha hb; subst ha hb
      exact op_le pins s σ H _ _ v u Q J rx ry ⟨_, _, rfl, rfl, q⟩
    · cases e; unfold RW at ha hb; subst ha hb
      exact op_le_str pins s σ H _ _ v u Q J rx ry ⟨_, _, rfl, rfl, q⟩
    · cases e
  | Gt =>
    simp only at e
    split at e
    · cases e; unfold RW at ha hb; subst ha hb
      exact op_gt pins s σ H _ _ v u Q J rx ry ⟨_, _, rfl, rfl, q⟩
    · cases e; unfold RW at ha hb; subst ha hb
      exact op_gt_str pins s σ H _ _ v u Q J rx ry ⟨_, _, rfl, rfl, q⟩
    · cases e
  | GtE =>
    simp only at e
    split at e
    · cases e; unfold RW at ha hb; subst ha hb
      exact op_ge pins s σ H _ _ v u Q J rx ry ⟨_, _, rfl, rfl, q⟩
    · cases e; unfold RW at ha hb; subst ha hb
      exact op_ge_str pins s σ H _ _ v u Q J rx ry ⟨_, _, rfl, rfl, q⟩
    · cases e
  | Is =>
    simp only at e
    split at e
    · unfold RW at hb; subst hb
      have h := isN_ok ha
      cases e
      refine op_isN pins s σ H _ _ v u Q J rx ry ⟨rfl, ?_⟩
      rw [h]
      cases a <;> exact q
    · split at e
      · cases e
        unfold RW at ha hb; subst ha hb
        exact op_isBl pins s σ H _ _ v u Q J rx ry ⟨_, _, rfl, rfl, q⟩
      · cases e
    · cases e
  | IsNot =>
    simp only at e
    split at e
    · unfold RW at hb; subst hb
      have h := isN_ok ha
      cases e
      refine op_notN pins s σ H _ _ v u Q J rx ry ⟨rfl, ?_⟩
      rw [h]
      cases a <;> exact q
    · split at e
      · cases e
        unfold RW at ha hb; subst ha hb
        exact op_notBl pins s σ H _ _ v u Q J rx ry ⟨_, _, rfl, rfl, q⟩
      · cases e
    · cases e
  | In =>
    simp only at e
    split at e
    · rename_i ws es
      split at e
      · rename_i hf
        rw [Bool.and_eq_true] at hf
        cases e
        obtain ⟨p, vs, rfl, hs, z⟩ := seq_of r hb es
        rw [hG] at hs
        exact op_in_seq pins s σ H _ _ v u Q J rx ry ⟨p, vs, rfl, hs, flat_ok ha hf.1, z.allFlat hf.2, by rw [RWs.inV ha hf.1 z hf.2]; exact q⟩
      · obtain ⟨d, ds, q1, q2, q3, rfl⟩ := inD_ok r ha hb e
        rw [hG] at q1 q2
        exact op_inZ hu1 ys pins s σ H _ _ v u Q J rx ry ⟨d, ds, q1, q2, q3, q⟩
    · cases e
  | NotIn =>
    simp only at e
    split at e
    · rename_i ws es
      split at e
      · rename_i hf
        rw [Bool.and_eq_true] at hf
        cases e
        obtain ⟨p, vs, rfl, hs, z⟩ := seq_of r hb es
        rw [hG] at hs
        exact op_notIn_seq pins s σ H _ _ v u Q J rx ry ⟨p, vs, rfl, hs, flat_ok ha hf.1, z.allFlat hf.2, by rw [RWs.inV ha hf.1 z hf.2]; exact q⟩
      · obtain ⟨k, e3, rfl⟩ := Option.map_eq_some_iff.mp e
        obtain ⟨d, ds, q1, q2, q3, rfl⟩ := inD_ok r ha hb e3
        rw [hG] at q1 q2
        exact op_niZ hu1 ys pins s σ H _ _ v u Q J rx ry ⟨d, ds, q1, q2, q3, q⟩
    · cases e

/-! ### subscripts -/
theorem ixN_len {n m : Nat} {i : Int} (h : n = m) : ixN n i = ixN m i := by rw [h]
theorem RWs.atI {H : Hp} {I : Ix} {ws : List W} {vs : List V} {i : Int} {w : W} (h : RWs G H I ws vs) (e : L2.atI ws i = some w) : ∃ v, L2.atI vs i = some v ∧ RW G H I w v := by
  unfold L2.atI at e ⊢
  rw [← h.len]
  obtain ⟨j, e1, e2⟩ := Option.bind_eq_some_iff.mp e
  obtain ⟨v, e3, q⟩ := h.get e2
  exact ⟨v, by rw [e1]; exact e3, q⟩
theorem toK_flat {H : Hp} {I : Ix} {y : W} {u : V} {k : Kd} (h : RW G H I y u) (e : toK y = some k) (f : flatK k = true) : ∃ q, kOf k = some q ∧ u = kV q := by
  cases y with
  | int i => unfold toK at e; cases e; unfold RW at h; subst h; exact ⟨_, rfl, rfl⟩
  | str i => unfold toK at e; cases e; unfold RW at h; subst h; exact ⟨_, rfl, rfl⟩
  | tup xs =>
    unfold toK at e
    obtain ⟨ks, _, rfl⟩ := Option.map_eq_some_iff.mp e
    cases f
  | _ => unfold toK at e; cases e
theorem flat_of {k : Kd} (f : flatK k = true) : ∃ q, kOf k = some q := by
  cases k with
  | int i => exact ⟨_, rfl⟩
  | str i => exact ⟨_, rfl⟩
  | tup xs => cases f
theorem see_k {kvs : List (Kd × W)} {k : Kd} (h : seeK kvs k = true) : flatK k = true := by
  unfold seeK at h
  rw [Bool.and_eq_true] at h
  exact h.1
/-- d[k] by values -/
theorem ix_dictZ (hu : X.A.units + 1 < cLine) : IxR X (fun x y H Q => ∃ a z, x = .ref a ∧ DGet H a y (some z) ∧ Q z H) := by
  rintro ve se pins s σ H x y v u Q J rx ry ⟨a, z, rfl, g, q⟩ hs
  obtain rfl : v = Value.ref a := rx
  have isd := dict_typeIs J g
  have tail : wpAny (model X.prog X.w) X.A (subscripted se false (Value.ref a) u) (fun r t => wpAny (model X.prog X.w) X.A (letTemporaryGo ve (Value.ref a) r >>= fun _ => pure r) (EP X pins σ Q) X.xe t) X.xe s := by
    rw [hs]
    refine wpAny_operating (wpAny_mono (d_getItem (Q := EP X pins σ Q) hu J g ry fun w' t It rw' => ⟨z, H, It, rw', q⟩) (fun r t ht => wpAny_bind (wpAny_letTemporaryGo (wpAny_pure ht))) fun _ _ z => z)
  unfold PyProof.Rows.subscriptTail
  refine wpAny_bind ?_
  rw [getitemInPython_of_ne isd.not_modules]
  refine wpAny_bind (wpAny_specialOf isd PySem.F.slot_dict_getitem.lookup ?_)
  first
    | exact wpAny_pure (wpAny_bind tail)
    | exact wpAny_bind (wpAny_pure (wpAny_bind tail))
    | exact wpAny_bind tail
/-- x[y] by values -/
def rIt (G : Gd) : R2 := fun x y H Q => ∃ I S u v w, Rel G H I S ∧ RW G H I u x ∧ RW G H I v y ∧ item u v S = some w ∧ (∀ z, RW G H I w z → Q z H)
theorem ix_Z (hG : G.K = X.K) (hu : X.A.units + 1 < cLine) : IxR X (rIt G) := by
  rintro ve se pins s σ H x y v u Q J rx ry ⟨I, S, a, b, w, r, ha, hb, e, q⟩ hs
  unfold item at e
  split at e
  · unfold RW at ha hb
    obtain ⟨p, vs, rfl, sq, z⟩ := ha
    subst hb
    obtain ⟨v', e1, q1⟩ := z.atI e
    exact ix_tup ve se pins s σ H _ _ v u Q J rx ry ⟨p, vs, _, v', rfl, rfl, by rw [← hG]; exact sq, e1, q _ q1⟩ hs
  · unfold RW at ha hb
    subst ha hb
    split at e
    · rename_i hz
      obtain ⟨c, e1, rfl⟩ := Option.map_eq_some_iff.mp e
      exact ix_str ve se pins s σ H _ _ v u Q J rx ry ⟨_, _, c, rfl, rfl, hz, e1, q _ (by unfold RW; rfl)⟩ hs
    · cases e
  · split at e
    · rename_i xs es
      obtain ⟨p, vs, rfl, sq, z⟩ := lst_of r ha es
      split at e
      · unfold RW at hb
        subst hb
        obtain ⟨v', e1, q2⟩ := z.atI e
        exact ix_list ve se pins s σ H _ _ v u Q J rx ry ⟨p, vs, _, v', rfl, rfl, by rw [← hG]; exact sq, e1, q _ q2⟩ hs
      · cases e
    · split at e
      · rename_i kvs k ek eq
        split at e
        · rename_i hk
          obtain ⟨p, vs, rfl, q1, z⟩ := dct_of r ha ek
          obtain ⟨q', e1, hy⟩ := toK_flat hb eq (see_k hk)
          subst hy
          obtain ⟨v', e3, q2⟩ := z.find e1 e
          exact ix_dictZ hu ve se pins s σ H _ _ v u Q J rx ry ⟨p, v', rfl, by rw [← e3]; exact DGet.k q1, q _ q2⟩ hs
        · cases e
      · cases e
/-- x[lo:hi] by values -/
def rSlZ (G : Gd) (E : EK) (m : Bool) : V → Option Int → Option Int → Hp → VK → Prop := fun x lo hi H Q => ∃ I S u, Rel G H I S ∧ RW G H I u x ∧ RE G E H I (kV' G Q) (slice m u lo hi S)
theorem cut_whole {α : Type} {xs : List α} {lo hi : Option Int} (h : HT.sIx xs.length 0 lo = 0 ∧ HT.sIx xs.length xs.length hi = xs.length) : cutW xs lo hi = xs := by
  unfold cutW
  rw [h.1, h.2]
  simp
theorem sl_Z (hG : G.K = X.K) (m : Bool) : SlR X (rSlZ G E m) := by
  rintro pins s σ H x v vl vu lo hi sl Q J rx hs pl pu ⟨I, S, a, r, ha, h⟩
  unfold slice at h
  split at h
  · unfold RW at ha
    obtain ⟨p, vs, rfl, sq, z⟩ := ha
    refine sl_tupA pins s σ H _ v vl vu lo hi sl Q J rx hs pl pu ⟨p, vs, rfl, by rw [← hG]; exact sq, fun e => ?_, fun _ t ht => ?_⟩
    · rw [← z.len] at e
      rw [cut_whole e] at h
      exact kV_now h r (by unfold RW; exact ⟨p, vs, rfl, sq, z⟩)
    · have kn := Keep.junk (I := I) (o := .tup (cutV vs lo hi)) ht
      refine h _ I kn (r.junk ht) _ ?_
      unfold RW
      exact ⟨t, _, rfl, .of upd_same, (z.cut lo hi).mono kn⟩
  · unfold RW at ha
    subst ha
    split at h
    · rename_i hz
      exact sl_str pins s σ H _ v vl vu lo hi sl Q J rx hs pl pu ⟨_, rfl, hz, kV_now h r (by unfold RW; rfl)⟩
    · exact False.elim h
  · split at h
    · rename_i xs es
      obtain ⟨p, vs, rfl, sq, z⟩ := lst_of r ha es
      exact sl_list pins s σ H _ v vl vu lo hi sl Q J rx hs pl pu ⟨p, vs, rfl, by rw [← hG]; exact sq, mk_lst r (z.cut lo hi) h⟩
    · exact False.elim h
/-- x[y] = v by values -/
theorem kOf_eq {a b : Kd} {p q : Key} (h : kOf a = some p) (h2 : kOf b = some q) : decide (a = b) = decide (p = q) := by
  by_cases e : p = q
  · subst e
    rw [kOf_inj h h2]; simp
  · have n : a ≠ b := fun z => by subst z; rw [h] at h2; exact e (Option.some.inj h2)
    simp [e, n]
theorem RKs.any {H : Hp} {I : Ix} {k : Kd} {p : Key} (ek : kOf k = some p) : ∀ {ws : List (Kd × W)} {vs : List (Key × V)}, RKs G H I ws vs → (ws.any fun kv => decide (kv.1 = k)) = (vs.any fun kv => decide (kv.1 = p))
  | [], _, h => by rw [h.inv0]; rfl
  | (q, x) :: ws, _, h => by
    obtain ⟨q', v, t, rfl, e1, h1, h2⟩ := h.inv
    rw [List.any_cons, List.any_cons, RKs.any ek h2, kOf_eq e1 ek]
theorem RKs.mapP {H : Hp} {I : Ix} {k : Kd} {p : Key} (ek : kOf k = some p) {w : W} {v : V} (h : RW G H I w v) : ∀ {ws : List (Kd × W)} {vs : List (Key × V)}, RKs G H I ws vs →
    RKs G H I (ws.map fun kv => if kv.1 = k then (kv.1, w) else kv) (vs.map fun kv => if kv.1 = p then (kv.1, v) else kv)
  | [], _, h => by rw [h.inv0]; exact .nil
  | (q, x) :: ws, _, h0 => by
    obtain ⟨q', y, r, rfl, e1, h1, h2⟩ := h0.inv
    have t := RKs.mapP ek h h2
    have d := kOf_eq e1 ek
    by_cases z : q = k
    · have z' : q' = p := by simpa [z] using d
      simp only [List.map_cons, z, z', if_true]
      exact .cons (by rw [← z, ← z']; exact e1) h t
    · have z' : ¬ q' = p := by simpa [z] using d
      simp only [List.map_cons, z, z', if_false]
      exact .cons e1 h1 t
theorem RKs.snoc {H : Hp} {I : Ix} {k : Kd} {p : Key} (ek : kOf k = some p) {w : W} {v : V} (h : RW G H I w v) : ∀ {ws : List (Kd × W)} {vs : List (Key × V)}, RKs G H I ws vs → RKs G H I (ws ++ [(k, w)]) (vs ++ [(p, v)])
  | [], _, e => by rw [e.inv0]; exact .cons ek h .nil
  | (q, x) :: ws, _, h0 => by
    obtain ⟨q', y, r, rfl, e1, h1, h2⟩ := h0.inv
    exact .cons e1 h1 (RKs.snoc ek h h2)
theorem RKs.put {H : Hp} {I : Ix} {k : Kd} {p : Key} (ek : kOf k = some p) {w : W} {v : V} {ws : List (Kd × W)} {vs : List (Key × V)} (r : RKs G H I ws vs) (h : RW G H I w v) : RKs G H I (putW ws k w) (putK vs p v) := by
  unfold putW putK
  rw [r.any ek]
  split
  · exact r.mapP ek h
  · exact r.snoc ek h
def rSetZ (G : Gd) : TSet := fun o i v H Q => ∃ I S uo ui uv S', Rel G H I S ∧ RW G H I uo o ∧ RW G H I ui i ∧ RW G H I uv v ∧ Y.setItem uo ui uv S = some S' ∧ (∀ H', Keep H I H' I → Rel G H' I S' → Q H')
theorem set_Z (hu : X.A.units + 1 < cLine) : PSet X (rSetZ G) := by
  rintro pins s σ H o i v ov iv u Q J ro ri rv ⟨I, S, a, b, c, S', r, ha, hb, hc, e, q⟩
  unfold Y.setItem at e
  split at e
  · unfold RW at ha
    obtain ⟨p, rfl, hi⟩ := ha
    split at e
    · rename_i xs hS
      obtain ⟨vs, q1, z⟩ := r.obj _ _ _ hS hi
      split at e
      · unfold RW at hb
        subst hb
        obtain ⟨k, e1, rfl⟩ := Option.map_eq_some_iff.mp e
        have kn := r.keepPut (u := .lst (vs.set k v)) hi
        exact set_list pins s σ H _ _ _ ov iv u Q J ro ri rv ⟨p, vs, _, k, rfl, rfl, q1, by rw [← z.len]; exact e1,
          q _ kn (r.put hi ⟨_, upd_same, (RWs.set hc k z).mono kn⟩)⟩
      · cases e
    · rename_i xs hS
      obtain ⟨vs, q1, z⟩ := r.obj _ _ _ hS hi
      split at e
      · rename_i k ek
        split at e
        · rename_i hl
          cases e
          obtain ⟨p', e1, hy⟩ := toK_flat hb ek (see_k hl.1)
          subst hy
          have kn := r.keepPut (u := .dK (putK vs p' v)) hi
          obtain rfl : ov = Value.ref p := ro
          refine d_setItem hu J (DPut.k q1 (by rw [← z.len]; exact hl.2)) ri rv fun s' J' => ⟨_, J', q _ kn (r.put hi ⟨_, upd_same, (z.put e1 hc).mono kn⟩)⟩
        · cases e
      · cases e
    · cases e
  · cases e
end
end Y

/-! What the built-ins and the methods answer. -/
namespace Y
open PySem PySem.Spec L2
section
variable {X : Cx} {G : Gd} {E : EK}
def rBi (G : Gd) (E : EK) (m : Bool) (f : Str) : List V → Hp → VK → Prop := fun vs H Q => ∃ I S ws, Rel G H I S ∧ RWs G H I ws vs ∧ RE G E H I (kV' G Q) (builtin m f ws S)
theorem RWs.one {H : Hp} {I : Ix} {w : W} {vs : List V} (h : RWs G H I [w] vs) : ∃ v, vs = [v] ∧ RW G H I w v := by
  obtain ⟨v, r, rfl, h1, h2⟩ := h.inv
  rw [h2.inv0]; exact ⟨v, rfl, h1⟩
theorem RWs.two {H : Hp} {I : Ix} {w z : W} {vs : List V} (h : RWs G H I [w, z] vs) : ∃ v u, vs = [v, u] ∧ RW G H I w v ∧ RW G H I z u := by
  obtain ⟨v, r, rfl, h1, h2⟩ := h.inv
  obtain ⟨u, rfl, h3⟩ := h2.one
  exact ⟨v, u, rfl, h1, h3⟩
theorem bi_len (hG : G.K = X.K) (m : Bool) : CallR X (.builtin "len") (rBi G E m "len") := by
  rintro pins s σ H xs us Q J r ⟨I, S, ws, rl, z, h⟩
  unfold builtin at h
  rw [if_pos rfl] at h
  split at h
  · obtain ⟨v, rfl, h1⟩ := z.one
    unfold RW at h1; subst h1
    split at h
    · rename_i hz
      exact call_len_str pins s σ H _ us Q J r ⟨_, rfl, hz, kV_now h rl (by unfold RW; rfl)⟩
    · exact False.elim h
  · obtain ⟨v, rfl, h1⟩ := z.one
    split at h
    · rename_i ys e
      obtain ⟨a, vs, rfl, sq, z2⟩ := seq_of rl h1 e
      rw [hG] at sq
      exact call_len_seq pins s σ H _ us Q J r ⟨a, vs, rfl, sq, by rw [← z2.len]; exact kV_now h rl (by unfold RW; rfl)⟩
    · exact False.elim h
  · exact False.elim h
theorem bi_int  (m : Bool) : CallR X (.type "int") (rBi G E m "int") := by
  rintro pins s σ H xs us Q J r ⟨I, S, ws, rl, z, h⟩
  unfold builtin at h
  rw [if_neg (by decide), if_pos rfl] at h
  split at h
  · obtain ⟨v, rfl, h1⟩ := z.one
    unfold RW at h1; subst h1
    exact call_int1 pins s σ H _ us Q J r (.inl ⟨_, rfl, kV_now h rl (by unfold RW; rfl)⟩)
  · obtain ⟨v, rfl, h1⟩ := z.one
    unfold RW at h1; subst h1
    exact call_int1 pins s σ H _ us Q J r (.inr ⟨_, rfl, kV_now h rl (by unfold RW; rfl)⟩)
  · exact False.elim h
theorem bi_max (hc : X.calm = true) (m : Bool) : CallR X (.builtin "max") (rBi G E m "max") := by
  rintro pins s σ H xs us Q J r ⟨I, S, ws, rl, z, h⟩
  unfold builtin at h
  rw [if_neg (by decide), if_neg (by decide), if_pos rfl] at h
  split at h
  · obtain ⟨v, u, rfl, h1, h2⟩ := z.two
    unfold RW at h1 h2; subst h1 h2
    exact call_max2 hc pins s σ H _ us Q J r ⟨_, _, rfl, kV_now h rl (by unfold RW; rfl)⟩
  · exact False.elim h
theorem bi_min (hc : X.calm = true) (m : Bool) : CallR X (.builtin "min") (rBi G E m "min") := by
  rintro pins s σ H xs us Q J r ⟨I, S, ws, rl, z, h⟩
  unfold builtin at h
  rw [if_neg (by decide), if_neg (by decide), if_neg (by decide), if_pos rfl] at h
  split at h
  · obtain ⟨v, u, rfl, h1, h2⟩ := z.two
    unfold RW at h1 h2; subst h1 h2
    exact call_min2 hc pins s σ H _ us Q J r ⟨_, _, rfl, kV_now h rl (by unfold RW; rfl)⟩
  · exact False.elim h
theorem bi_tuple (hG : G.K = X.K) (m : Bool) : CallR X (.type "tuple") (rBi G E m "tuple") := by
  rintro pins s σ H xs us Q J r ⟨I, S, ws, rl, z, h⟩
  unfold builtin at h
  rw [if_neg (by decide), if_neg (by decide), if_neg (by decide), if_neg (by decide), if_pos rfl] at h
  split at h
  · obtain ⟨v, rfl, h1⟩ := z.one
    have h2 := h1
    unfold RW at h1
    obtain ⟨a, vs, rfl, sq, _⟩ := h1
    rw [hG] at sq
    exact call_tuple_of pins s σ H _ us Q J r ⟨a, vs, rfl, .inr ⟨sq, kV_now h rl h2⟩⟩
  · obtain ⟨v, rfl, h1⟩ := z.one
    split at h
    · rename_i ys e
      obtain ⟨a, vs, rfl, sq, z2⟩ := lst_of rl h1 e
      rw [hG] at sq
      refine call_tuple_of pins s σ H _ us Q J r ⟨a, vs, rfl, .inl ⟨sq, fun t ht => ?_⟩⟩
      have kn := Keep.junk (I := I) (o := .tup vs) ht
      refine h _ I kn (rl.junk ht) _ ?_
      unfold RW
      exact ⟨t, _, rfl, .of upd_same, z2.mono kn⟩
    · exact False.elim h
  · exact False.elim h
theorem bi_list (hG : G.K = X.K) (m : Bool) : CallR X (.type "list") (rBi G E m "list") := by
  rintro pins s σ H xs us Q J r ⟨I, S, ws, rl, z, h⟩
  unfold builtin at h
  rw [if_neg (by decide), if_neg (by decide), if_neg (by decide), if_neg (by decide), if_neg (by decide), if_pos rfl] at h
  split at h
  · obtain ⟨v, rfl, h1⟩ := z.one
    split at h
    · rename_i ys e
      obtain ⟨a, vs, rfl, sq, z2⟩ := seq_of rl h1 e
      rw [hG] at sq
      exact call_list_of pins s σ H _ us Q J r ⟨a, vs, rfl, sq, mk_lst rl z2 h⟩
    · exact False.elim h
  · exact False.elim h
theorem bls_ok {H : Hp} {I : Ix} : ∀ {ws : List W} {vs : List V} {bs : List Bool}, RWs G H I ws vs → blsOf ws = some bs → vs = bs.map V.bl
  | [], _, _, h, e => by rw [h.inv0]; unfold blsOf at e; cases e; rfl
  | .bl x :: ws, _, _, h, e => by
    obtain ⟨v, r, rfl, h1, h2⟩ := h.inv
    unfold blsOf at e
    obtain ⟨bs, e1, rfl⟩ := Option.map_eq_some_iff.mp e
    unfold RW at h1; subst h1
    rw [bls_ok h2 e1]; rfl
  | .non :: _, _, _, _, e => by unfold blsOf at e; cases e
  | .int _ :: _, _, _, _, e => by unfold blsOf at e; cases e
  | .str _ :: _, _, _, _, e => by unfold blsOf at e; cases e
  | .ty _ :: _, _, _, _, e => by unfold blsOf at e; cases e
  | .tup _ :: _, _, _, _, e => by unfold blsOf at e; cases e
  | .fl _ _ :: _, _, _, _, e => by unfold blsOf at e; cases e
  | .fd _ _ :: _, _, _, _, e => by unfold blsOf at e; cases e
  | .fins _ _ _ :: _, _, _, _, e => by unfold blsOf at e; cases e
  | .ref _ :: _, _, _, _, e => by unfold blsOf at e; cases e
  | .glo _ :: _, _, _, _, e => by unfold blsOf at e; cases e
theorem strs_ok {H : Hp} {I : Ix} : ∀ {ws : List W} {vs : List V} {bs : List Str}, RWs G H I ws vs → strsOf ws = some bs → vs = bs.map V.str
  | [], _, _, h, e => by rw [h.inv0]; unfold strsOf at e; cases e; rfl
  | .str x :: ws, _, _, h, e => by
    obtain ⟨v, r, rfl, h1, h2⟩ := h.inv
    unfold strsOf at e
    obtain ⟨bs, e1, rfl⟩ := Option.map_eq_some_iff.mp e
    unfold RW at h1; subst h1
    rw [strs_ok h2 e1]; rfl
  | .non :: _, _, _, _, e => by unfold strsOf at e; cases e
  | .int _ :: _, _, _, _, e => by unfold strsOf at e; cases e
  | .bl _ :: _, _, _, _, e => by unfold strsOf at e; cases e
  | .ty _ :: _, _, _, _, e => by unfold strsOf at e; cases e
  | .tup _ :: _, _, _, _, e => by unfold strsOf at e; cases e
  | .fl _ _ :: _, _, _, _, e => by unfold strsOf at e; cases e
  | .fd _ _ :: _, _, _, _, e => by unfold strsOf at e; cases e
  | .fins _ _ _ :: _, _, _, _, e => by unfold strsOf at e; cases e
  | .ref _ :: _, _, _, _, e => by unfold strsOf at e; cases e
  | .glo _ :: _, _, _, _, e => by unfold strsOf at e; cases e
theorem bi_all (hG : G.K = X.K) (hc : X.calm = true) (m : Bool) : CallR X (.builtin "all") (rBi G E m "all") := by
  rintro pins s σ H xs us Q J r ⟨I, S, ws, rl, z, h⟩
  unfold builtin at h
  rw [if_neg (by decide), if_neg (by decide), if_neg (by decide), if_neg (by decide), if_neg (by decide), if_neg (by decide), if_pos rfl] at h
  split at h
  · obtain ⟨v, rfl, h1⟩ := z.one
    split at h
    · rename_i bs e
      obtain ⟨ys, e1, e2⟩ := Option.bind_eq_some_iff.mp e
      obtain ⟨a, vs, rfl, sq, z2⟩ := lst_of rl h1 e1
      rw [hG, bls_ok z2 e2] at sq
      exact cr_all hc pins s σ H _ us Q J r ⟨a, bs, rfl, sq, kV_now h rl (by unfold RW; rfl)⟩
    · exact False.elim h
  · exact False.elim h
theorem bi_any (hG : G.K = X.K) (hc : X.calm = true) (m : Bool) : CallR X (.builtin "any") (rBi G E m "any") := by
  rintro pins s σ H xs us Q J r ⟨I, S, ws, rl, z, h⟩
  unfold builtin at h
  rw [if_neg (by decide), if_neg (by decide), if_neg (by decide), if_neg (by decide), if_neg (by decide), if_neg (by decide), if_neg (by decide), if_pos rfl] at h
  split at h
  · obtain ⟨v, rfl, h1⟩ := z.one
    split at h
    · rename_i bs e
      obtain ⟨ys, e1, e2⟩ := Option.bind_eq_some_iff.mp e
      obtain ⟨a, vs, rfl, sq, z2⟩ := lst_of rl h1 e1
      rw [hG, bls_ok z2 e2] at sq
      exact cr_any hc pins s σ H _ us Q J r ⟨a, bs, rfl, sq, kV_now h rl (by unfold RW; rfl)⟩
    · exact False.elim h
  · exact False.elim h
theorem SqF.isList {pins : List (Addr × Obj)} {σ : L2.St} {H : Hp} {s : Shared} {a : Addr} {xs : List V} (J : Inv X pins σ H s) (h : SqL X.K H a xs) : TyX X.K H (.ref a) (.type "list") := by
  rcases h with (h | ⟨o, h⟩) | ⟨o, its, n, e, c, _⟩
  · exact .base (.lst h)
  · exact .base (.frz h)
  · exact .kList e c
theorem SqT.isTup {H : Hp} {a : Addr} {xs : List V} (h : SqT X.K H a xs) : TyX X.K H (.ref a) (.type "tuple") := by
  rcases h with (h | ⟨o, h⟩) | ⟨o, its, n, e, c, _⟩
  · exact .base (.tup h)
  · exact .fTuple h
  · exact .kTuple e c
theorem ty_ok (hG : G.K = X.K) {pins : List (Addr × Obj)} {σ : L2.St} {H : Hp} {s : Shared} {I : Ix} {S : So} {x : W} {v : V} {n : String} (J : Inv X pins σ H s) (r : Rel G H I S) (h : RW G H I x v) (e : tyOf x S = some n) : TyX X.K H v (.type n) := by
  unfold tyOf at e
  split at e
  · unfold RW at h; subst h; cases e; exact .base .non
  · unfold RW at h; subst h; cases e; exact .base (.bl _)
  · unfold RW at h; subst h; cases e; exact .base (.int _)
  · unfold RW at h; subst h; cases e; exact .base (.str _)
  · unfold RW at h; obtain ⟨a, vs, rfl, sq, _⟩ := h; cases e; rw [hG] at sq; exact SqT.isTup sq
  · unfold RW at h; obtain ⟨a, vs, rfl, sq, _⟩ := h; cases e
    have q := sq.now
    rw [hG] at q
    exact SqF.isList J q
  · unfold RW at h; obtain ⟨a, vs, rfl, sq, _⟩ := h; cases e
    exact .base (.dK sq.1)
  · unfold RW at h; obtain ⟨a, rfl, hi⟩ := h
    split at e
    · rename_i hS
      obtain ⟨vs, q, _⟩ := r.obj _ _ _ hS hi
      cases e; exact .base (.lst q)
    · rename_i hS
      obtain ⟨vs, q, _⟩ := r.obj _ _ _ hS hi
      cases e; exact .base (.dK q)
    · cases e
  · cases e
theorem bi_isi (hG : G.K = X.K) (m : Bool) : CallR X (.builtin "isinstance") (rBi G E m "isinstance") := by
  rintro pins s σ H xs us Q J r ⟨I, S, ws, rl, z, h⟩
  unfold builtin at h
  rw [if_neg (by decide), if_neg (by decide), if_neg (by decide), if_neg (by decide), if_neg (by decide), if_neg (by decide), if_neg (by decide), if_neg (by decide), if_pos rfl] at h
  split at h
  · obtain ⟨v, u, rfl, h1, h2⟩ := z.two
    unfold RW at h2; subst h2
    split at h
    · rename_i t et
      split at h
      · rename_i b eb
        exact call_isi pins s σ H _ us Q J r ⟨v, .ty _, .type t, .type _, b, rfl, .ty _, ty_ok hG J rl h1 et, kit_ty eb, kV_now h rl (by unfold RW; rfl)⟩
      · exact False.elim h
    · exact False.elim h
  · exact False.elim h
theorem bi_repr (hG : G.K = X.K) (hg : X.A.guards = some []) (hu : X.A.units + 200 < cLine) (y : Sys X.base) (m : Bool) : CallR X (.builtin "repr") (rBi G E m "repr") := by
  rintro pins s σ H xs us Q J r ⟨I, S, ws, rl, z, h⟩
  unfold builtin at h
  rw [if_neg (by decide), if_neg (by decide), if_neg (by decide), if_neg (by decide), if_neg (by decide), if_neg (by decide), if_neg (by decide), if_neg (by decide), if_neg (by decide), if_pos rfl] at h
  split at h
  · obtain ⟨v, rfl, h1⟩ := z.one
    split at h
    · rename_i d ed
      split at h
      · rename_i hc
        simp only [Bool.and_eq_true, decide_eq_true_eq] at hc
        have q := toD_ok rl h1 ed
        rw [hG] at q
        exact call_reprD hg hu y pins s σ H _ us Q J r ⟨v, d, rfl, q, hc.1.1, hc.1.2, hc.2, kV_now h rl (by unfold RW; rfl)⟩
      · exact False.elim h
    · exact False.elim h
  · exact False.elim h

/-! ### methods -/
def rMt (G : Gd) (E : EK) (mu : Bool) (m : Str) : V → List V → Hp → VK → Prop := fun x vs H Q => ∃ I S w ws, Rel G H I S ∧ RW G H I w x ∧ RWs G H I ws vs ∧ RE G E H I (kV' G Q) (method mu w m ws S)
theorem mz_append  (mu : Bool) : MtR X "list.append" (rMt G E mu "append") := by
  rintro pins s σ H x xs v us Q J rx rs ⟨I, S, w, ws, rl, hx, z, h⟩
  unfold method at h
  rw [if_pos rfl] at h
  split at h
  · obtain ⟨y, rfl, h1⟩ := z.one
    unfold RW at hx
    obtain ⟨a, rfl, hi⟩ := hx
    split at h
    · rename_i ys hS
      obtain ⟨vs, q, z2⟩ := rl.obj _ _ _ hS hi
      split at h
      · rename_i hl
        have kn := rl.keepPut (u := .lst (vs ++ [y])) hi
        refine mt_append pins s σ H _ _ v us Q J rx rs ⟨a, vs, y, rfl, rfl, q, by rw [← z2.len]; exact hl, ?_⟩
        exact h _ I kn (rl.put hi ⟨_, upd_same, (z2.append (.cons h1 .nil)).mono kn⟩) _ (by unfold RW; rfl)
      · exact False.elim h
    · exact False.elim h
  · exact False.elim h
theorem mz_join (hG : G.K = X.K) (mu : Bool) : MtR X "str.join" (rMt G E mu "join") := by
  rintro pins s σ H x xs v us Q J rx rs ⟨I, S, w, ws, rl, hx, z, h⟩
  unfold method at h
  rw [if_neg (by decide), if_pos rfl] at h
  split at h
  · obtain ⟨y, rfl, h1⟩ := z.one
    unfold RW at hx; subst hx
    split at h
    · rename_i ys e
      obtain ⟨ks, e1, e2⟩ := Option.bind_eq_some_iff.mp e
      obtain ⟨a, vs, rfl, sq, z2⟩ := seq_of rl h1 e1
      rw [hG, strs_ok z2 e2] at sq
      split at h
      · rename_i hl
        exact mt_join pins s σ H _ _ v us Q J rx rs ⟨_, a, ys, rfl, rfl, sq, hl, kV_now h rl (by unfold RW; rfl)⟩
      · exact False.elim h
    · exact False.elim h
  · exact False.elim h
theorem RWs.strs {H : Hp} {I : Ix} : ∀ ys : List Str, RWs G H I (ys.map W.str) (ys.map V.str)
  | [] => .nil
  | y :: ys => .cons (by unfold RW; rfl) (RWs.strs ys)
theorem mz_split  (mu : Bool) : MtR X "str.split" (rMt G E mu "split") := by
  rintro pins s σ H x xs v us Q J rx rs ⟨I, S, w, ws, rl, hx, z, h⟩
  unfold method at h
  rw [if_neg (by decide), if_neg (by decide), if_pos rfl] at h
  split at h
  · obtain ⟨y, rfl, h1⟩ := z.one
    unfold RW at hx h1; subst hx h1
    split at h
    · rename_i hl
      exact mt_split pins s σ H _ _ v us Q J rx rs ⟨_, _, rfl, rfl, hl.1, hl.2, mk_lst rl (RWs.strs _) h⟩
    · exact False.elim h
  · exact False.elim h
theorem mz_partition  (mu : Bool) : MtR X "str.partition" (rMt G E mu "partition") := by
  rintro pins s σ H x xs v us Q J rx rs ⟨I, S, w, ws, rl, hx, z, h⟩
  unfold method at h
  rw [if_neg (by decide), if_neg (by decide), if_neg (by decide), if_pos rfl] at h
  split at h
  · obtain ⟨y, rfl, h1⟩ := z.one
    unfold RW at hx h1; subst hx h1
    split at h
    · rename_i hl
      refine mt_partition pins s σ H _ _ v us Q J rx rs ⟨_, _, rfl, rfl, hl.1, hl.2, fun t ht => ?_⟩
      refine h _ I (Keep.junk ht) (rl.junk ht) _ ?_
      unfold RW
      exact ⟨t, _, rfl, .of upd_same, .cons (by unfold RW; rfl) (.cons (by unfold RW; rfl) (.cons (by unfold RW; rfl) .nil))⟩
    · exact False.elim h
  · exact False.elim h
end
end Y

/-! Where one stands, calls, arguments. -/
namespace Y
open PySem PySem.Spec L2
/-- the layer's wish of an error, as ours -/
def EKof (G : Gd) (E : XK) : EK := fun x H I => ∃ C, G.mg x.cls = some (.ref C) ∧ ∀ d vs, H d = some (.xd vs) → RFs G H I x.fs vs → E (.ref C) (some d) H
/-- how arguments come in -/
abbrev Bdr := Shared → Args → List (Str × Value) → Prop
/-- a def's own way -/
def BF (fd : FuncData) : Bdr := fun s args bs => BindsTo s fd args bs
structure FnG (P : Program) (w : World) (K : PySem.W.Frag) (mg : Str → Option Value) (base : Heap) (CX : CXT) (k : Nat) (f : Addr) (fd : Bdr) (ps : List Str) (sp : Sp) : Prop where
  len : ∀ vs H Q E, sp vs H Q E → vs.length = ps.length
  run : ∀ (A : Around) (outer : List Env) (s : Shared) (H : Hp) (args : Args) (us : List Value) (vs : List V) (Q : VK) (E : XK), Room k A → A.guards = some [] → Env0 P w K mg base A outer s H → fd s args (ps.zip us) → Vals vs us → sp vs H Q E →
    codeAny (model P w) A (.call (.ref f) args) (CR CX outer P w H s Q E) s
theorem FnG.mono {P : Program} {w : World} {K : PySem.W.Frag} {mg : Str → Option Value} {base : Heap} {CX : CXT} {j k : Nat} {f : Addr} {fd : Bdr} {ps : List Str} {sp : Sp} (F : FnG P w K mg base CX j f fd ps sp) (h : j ≤ k) : FnG P w K mg base CX k f fd ps sp :=
  ⟨F.len, fun A outer s H args us vs Q E hr => F.run A outer s H args us vs Q E (hr.mono h)⟩
def spZ (G : Gd) (call : Cf) (f : Str) (n : Nat) : Sp := fun vs H Q E => ∃ I S ws, Rel G H I S ∧ RWs G H I ws vs ∧ ws.length = n ∧ RE G (EKof G E) H I (kV' G Q) (call f ws S)
/-- a def of the table as it stands behind the top -/
structure CalF (K : PySem.W.Frag) (mg : Str → Option Value) (f : Str) (fi : Fi) (fa : Addr) (fd : Bdr) : Prop where
  mg : mg f = some (.ref fa)
  kp : PySem.W.keepIn K (.ref fa) = true
  bind : ∀ (s : Shared) (us : List Value), us.length = fi.ps.length → fd s ⟨us, []⟩ (fi.ps.zip us)
  kws : ∀ (n : Nat) (ks : List Str), (n, ks) ∈ fi.kws → n + ks.length = fi.ps.length ∧ ∀ us ws : List Value, us.length = n → ws.length = ks.length → (ordK fi.ps ks us ws).length = fi.ps.length ∧ ∀ s : Shared, fd s ⟨us, ks.zip ws⟩ (fi.ps.zip (ordK fi.ps ks us ws))
/-- the module's values: a thing of the written part, or a built-in type -/
def GOk (K : PySem.W.Frag) (mg : Str → Option Value) (P : Pg) : Prop := ∀ x w, P.G x = some w →
  (∃ u v, mg x = some u ∧ RelV v u ∧ ∀ H I, RW ⟨K, mg⟩ H I w v) ∨ (∃ n, w = .ty n ∧ mg x = none ∧ bootBuiltins x = some (.type n))
/-- what the written part says of an own error's class -/
structure ErC (K : PySem.W.Frag) (c : Addr) (x : Str) : Prop where
  cl : (PySem.W.clsIn K c).isSome = true
  ga : PySem.W.findIn K (.ref c) "__getattribute__" = some (some (.builtin "BaseException.__getattribute__"))
  gt : PySem.W.findIn K (.ref c) "__getattr__" = some none
  ex : PySem.W.subIn K (.ref c) (.type "BaseException") = some true
  hd : PySem.W.hasDictIn K c = true
  ha : PySem.W.findIn K (.ref c) "__class__" = some (some (.builtin "object.__class__"))
  hn : PySem.W.specialIn K (.builtin "object.__class__") "__get__" = some (some (.builtin "getset_descriptor.__get__"))
  ht : PySem.W.takesIn K (.builtin "object.__class__") = some true
  hm : PySem.W.mroIn K c (.type "object") = some true
  no : PySem.W.findIn K (.ref c) x = some none
/-- a class as a value -/
def clsAt (mg : Str → Option Value) : W → Value → Prop
  | .glo y, v => ∃ d, mg y = some (.ref d) ∧ v = .ref d
  | .ty n, v => v = .type n
  | _, _ => False
def ErsOk (P : Pg) (K : PySem.W.Frag) (mg : Str → Option Value) : Prop := ∀ C x, P.er C = some x → ∃ c, mg C = some (.ref c) ∧ ErC K c x
def IsaOk (P : Pg) (K : PySem.W.Frag) (mg : Str → Option Value) : Prop := ∀ C D b, P.isa C D = some b → ∃ c x v, mg C = some (.ref c) ∧ ErC K c x ∧ clsAt mg D v ∧ PySem.W.kitOne K (.ref c) v = some b
/-- where one stands -/
structure Cz (P : Pg) (call : Cf) (CX : CXT) (k : Nat) (sx : Sx) (G : Gd) (E : XK) (X : Cx) : Prop where
  hN : X.N = sx.N
  nd : sx.N.Nodup
  sc : X.env.scope = sx.sc
  kind : X.env.scope.kind = .function
  K : G.K = X.K
  mg : G.mg = X.mg
  calm : X.calm = true
  room : Room k X.A
  grd : X.A.guards = some []
  sys : Sys X.base
  fn : ∀ x, sx.fn x = true → X.fn x = true
  glb : GOk X.K X.mg P
  bi : ∀ x ∈ ("range" : Str) :: builtins, P.F x = none → X.mg x = none
  en : P.en = true → X.mg "enumerate" = none
  er : ErsOk P X.K X.mg
  isa : IsaOk P X.K X.mg
  cal : ∀ f fi, P.F f = some fi → ∃ fa fd, CalF X.K X.mg f fi fa fd ∧ FnG X.prog X.w X.K X.mg X.base CX k fa fd fi.ps (spZ G call f fi.ps.length)
  px : Passes CX X E
  p0 : ∀ (outer : List Env) (H : Hp) (s : Shared) (e : Value) (s' : Shared), CX outer H s (fun _ _ _ => False) e s' → False

/-! ### readings -/
def tE (G : Gd) (E : EK) (r : En → So → Res W) : TE := fun σ H Q => ∃ I S e, Rel G H I S ∧ RS G H I e σ ∧ RE G E H I (kV' G Q) (r e S)
def tAs (G : Gd) (E : EK) (r : En → So → Res (List W)) : TA := fun σ H Q => ∃ I S e, Rel G H I S ∧ RS G H I e σ ∧ RE G E H I (kVs G Q) (r e S)
def tT (G : Gd) (E : EK) (r : En → So → Res Bool) : TT := fun σ H Q => ∃ I S e, Rel G H I S ∧ RS G H I e σ ∧ RE G E H I (kB Q) (r e S)
theorem _root_.L2.PE.of {X : Cx} {e : Expr} {t t' : TE} (h : PE X e t) (w : ∀ σ H Q, t' σ H Q → t σ H Q) : PE X e t' := ⟨fun pins s σ H Q J q => h.run pins s σ H Q J (w _ _ _ q)⟩
theorem _root_.L2.PT.of {X : Cx} {e : Expr} {t t' : TT} (h : PT X e t) (w : ∀ σ H Q, t' σ H Q → t σ H Q) : PT X e t' := ⟨fun pins s σ H Q J q => h.run pins s σ H Q J (w _ _ _ q)⟩
theorem _root_.L2.PA.of {X : Cx} {e : List Expr} {t t' : TA} (h : PA X e t) (w : ∀ σ H Q, t' σ H Q → t σ H Q) : PA X e t' := ⟨fun pos pins s σ H Q J q => h.run pos pins s σ H Q J (w _ _ _ q)⟩
/-- a rule chosen by the reading -/
theorem _root_.L2.PE.by {X : Cx} {e : Expr} {t : TE} (h : ∀ σ H Q, t σ H Q → ∃ t', PE X e t' ∧ t' σ H Q) : PE X e t := ⟨fun pins s σ H Q J q => by
  obtain ⟨t', p, q'⟩ := h _ _ _ q
  exact p.run pins s σ H Q J q'⟩
theorem _root_.L2.PE.never {X : Cx} {e : Expr} {t : TE} (h : ∀ σ H Q, t σ H Q → False) : PE X e t := ⟨fun _ _ σ H Q _ q => (h σ H Q q).elim⟩
section
variable {G : Gd} {E : EK} {σ : L2.St} {H : Hp}
/-- the first of two steps -/
theorem tE.step {α : Type} {k : AK α} {I : Ix} {S : So} {e : En} {r : En → So → Res W} {f : W → So → Res α} {Q : VK} (rl : Rel G H I S) (rs : RS G H I e σ) (h : RE G E H I k ((r e S).bind f))
    (c : ∀ w S' H' I' v, Keep H I H' I' → Rel G H' I' S' → RW G H' I' w v → RE G E H' I' k (f w S') → Q v H') : tE G E r σ H Q :=
  ⟨I, S, e, rl, rs, (RE.bind h).imp fun w S' H' I' k2 r2 q v hv => c w S' H' I' v k2 r2 hv q⟩
theorem tAs.step {α : Type} {k : AK α} {I : Ix} {S : So} {e : En} {r : En → So → Res (List W)} {f : List W → So → Res α} {Q : List V → Hp → Prop} (rl : Rel G H I S) (rs : RS G H I e σ) (h : RE G E H I k ((r e S).bind f))
    (c : ∀ w S' H' I' v, Keep H I H' I' → Rel G H' I' S' → RWs G H' I' w v → RE G E H' I' k (f w S') → Q v H') : tAs G E r σ H Q :=
  ⟨I, S, e, rl, rs, (RE.bind h).imp fun w S' H' I' k2 r2 q v hv => c w S' H' I' v k2 r2 hv q⟩
theorem tT.step {α : Type} {k : AK α} {I : Ix} {S : So} {e : En} {r : En → So → Res Bool} {f : Bool → So → Res α} {Q : Bool → Hp → Prop} (rl : Rel G H I S) (rs : RS G H I e σ) (h : RE G E H I k ((r e S).bind f))
    (c : ∀ w S' H' I', Keep H I H' I' → Rel G H' I' S' → RE G E H' I' k (f w S') → Q w H') : tT G E r σ H Q :=
  ⟨I, S, e, rl, rs, (RE.bind h).imp fun w S' H' I' k2 r2 q => c w S' H' I' k2 r2 q⟩
end
/-! ### arguments -/
theorem starE {e : Expr} {es : List Expr} {env : Env} (h : isStar e = false) : starEach (e :: es) env = (false, eval e env) :: starEach es env := by
  cases e <;> first | rfl | cases h
theorem plainS {pos : Pos} {env : Env} : ∀ {es : List Expr}, es.all (fun e => !isStar e) = true → (backTo pos (starEach es env)).any (·.1) = false
  | [], _ => rfl
  | e :: es, h => by
    rw [List.all_cons, Bool.and_eq_true] at h
    rw [starE (by simpa using h.1)]
    show (false || (backTo pos (starEach es env)).any (·.1)) = false
    rw [plainS h.2]; rfl
section
variable {X : Cx} {G : Gd} {E : EK} {f : Expr → En → So → Res W}
theorem pa_Z (hf : ∀ x, PE X x (tE G E (f x))) (hs : ∀ x e S, isStar x = true → f x e S = .bad) : ∀ es : List Expr, PA X es (tAs G E fun e S => evL (fun x => f x e) es S)
  | [] => pa_nil.of fun σ H Q ⟨I, S, e, rl, rs, h⟩ => RE.now (k := kVs G Q) h rl [] .nil
  | x :: es => by
    by_cases hx : isStar x = true
    · refine ⟨fun pos pins s σ H Q J ⟨I, S, e, rl, rs, h⟩ => ?_⟩
      have h2 : RE G E H I (kVs G Q) ((f x e S).bind fun w S1 => (evL (fun x => f x e) es S1).bind fun ws S2 => .ok (w :: ws) S2) := h
      rw [hs x e S hx] at h2
      exact False.elim h2
    · have hx' : isStar x = false := by simpa using hx
      refine (pa_cons (hf x) (pa_Z hf hs es) (starE hx')).of fun σ H Q ⟨I, S, e, rl, rs, h⟩ => ?_
      unfold evL at h
      refine tE.step rl rs h fun w S1 H1 I1 v k1 rl1 hv h1 => ?_
      refine tAs.step (S := S1) rl1 (rs.mono k1) h1 fun ws S2 H2 I2 vs k2 rl2 hvs h2 => ?_
      exact RE.now (k := kVs G Q) h2 rl2 (v :: vs) (.cons (hv.mono k2) hvs)
theorem pk_Z (hf : ∀ x, PE X x (tE G E (f x))) : ∀ es : List Keyword, PK X es (tAs G E fun e S => evK (fun x => f x e) es S)
  | [] => ⟨fun pos pins s σ H Q J ⟨I, S, e, rl, rs, h⟩ => pk_nil.run pos pins s σ H Q J (RE.now (k := kVs G Q) h rl [] .nil)⟩
  | ⟨nm, x, kp⟩ :: es => ⟨fun pos pins s σ H Q J ⟨I, S, e, rl, rs, h⟩ => by
      refine (pk_cons (nm := nm) (kpos := kp) (hf x) (pk_Z hf es)).run pos pins s σ H Q J ?_
      unfold evK at h
      refine tE.step rl rs h fun w S1 H1 I1 v k1 rl1 hv h1 => ?_
      refine tAs.step (S := S1) rl1 (rs.mono k1) h1 fun ws S2 H2 I2 vs k2 rl2 hvs h2 => ?_
      exact RE.now (k := kVs G Q) h2 rl2 (v :: vs) (.cons (hv.mono k2) hvs)⟩
theorem evL_len : ∀ {es : List Expr} {g : Expr → So → Res W} {S S' : So} {ws : List W}, evL g es S = .ok ws S' → ws.length = es.length
  | [], g, S, S', ws, h => by unfold evL at h; cases h; rfl
  | x :: es, g, S, S', ws, h => by
    unfold evL at h
    cases q : g x S with
    | ok w S1 =>
      rw [q] at h
      cases q2 : evL g es S1 with
      | ok r S2 =>
        simp only [Res.bind, q2] at h
        cases h
        simp [evL_len q2]
      | exn _ _ => simp only [Res.bind, q2] at h; cases h
      | bad => simp only [Res.bind, q2] at h; cases h
    | exn _ _ => rw [q] at h; cases h
    | bad => rw [q] at h; cases h
end
/-! ### the order of keyword arguments -/
section
variable {α β : Type} {R : α → β → Prop}
theorem look_zip : ∀ {ks : List Str} {ws : List α} {us : List β} (p : Str), Paired R ws us → (∃ w u, (ks.zip ws).lookup p = some w ∧ (ks.zip us).lookup p = some u ∧ R w u) ∨ ((ks.zip ws).lookup p = none ∧ (ks.zip us).lookup p = none)
  | [], _, _, _, _ => .inr ⟨rfl, rfl⟩
  | k :: ks, _, _, p, .nil => .inr ⟨rfl, rfl⟩
  | k :: ks, _, _, p, .cons (a := a) (b := b) h t => by
    simp only [List.zip_cons_cons, List.lookup_cons]
    cases e : p == k with
    | true => exact .inl ⟨a, b, rfl, rfl, h⟩
    | false => exact look_zip p t
theorem Paired.app : ∀ {a c : List α} {b d : List β}, Paired R a b → Paired R c d → Paired R (a ++ c) (b ++ d)
  | _, _, _, _, .nil, q => q
  | _, _, _, _, .cons h t, q => .cons h (Paired.app t q)
theorem ord_pair {ps ks : List Str} {us ws : List α} {vs zs : List β} (a : Paired R us vs) (b : Paired R ws zs) : Paired R (ordK ps ks us ws) (ordK ps ks vs zs) := by
  unfold ordK
  have hl : us.length = vs.length := Paired.length a
  rw [hl]
  refine Paired.app a ?_
  induction ps.drop vs.length with
  | nil => exact .nil
  | cons p r ih =>
    rcases look_zip (ks := ks) p b with ⟨w, u, e1, e2, h⟩ | ⟨e1, e2⟩
    · rw [List.filterMap_cons, List.filterMap_cons, e1, e2]; exact .cons h ih
    · rw [List.filterMap_cons, List.filterMap_cons, e1, e2]; exact ih
end
theorem RWs.paired {G : Gd} {H : Hp} {I : Ix} : ∀ {ws : List W} {vs : List V}, RWs G H I ws vs → Paired (RW G H I) ws vs
  | [], _, h => by rw [h.inv0]; exact .nil
  | w :: ws, _, h => by
    obtain ⟨v, r, rfl, h1, h2⟩ := h.inv
    exact .cons h1 (RWs.paired h2)
theorem RWs.ofP {G : Gd} {H : Hp} {I : Ix} : ∀ {ws : List W} {vs : List V}, Paired (RW G H I) ws vs → RWs G H I ws vs
  | _, _, .nil => .nil
  | _, _, .cons h t => .cons h (RWs.ofP t)
end Y

/-! Calls. -/
namespace Y
open PySem PySem.Spec L2
section
variable {P : Pg} {call : Cf} {CX : CXT} {k : Nat} {sx : Sx} {G : Gd} {E : XK} {X : Cx}
theorem Cz.gl (C : Cz P call CX k sx G E X) {x : Str} (h : sx.sc.names.lookup x = some .globalImplicit) : Gl X x := by
  show X.env.scope.names.lookup x = _
  rw [C.sc]; exact h
theorem okN_d {x : Str} (h : okN x = true) : (x == ("__debug__" : Str)) = false ∧ (x == ("__classdict__" : Str)) = false ∧ x ≠ "__name__" := by
  unfold okN at h
  simp only [Bool.and_eq_true, Bool.not_eq_true', decide_eq_false_iff_not] at h
  exact ⟨h.1.1, h.1.2, h.2⟩
theorem run_own (C : Cz P call CX k sx G E X) {fa : Addr} {fd : Bdr} {ps : List Str} {sp : Sp} (F : FnG X.prog X.w X.K X.mg X.base CX k fa fd ps sp) {pins : List (Addr × Obj)} {σ : L2.St} {H : Hp} {s : Shared} {Q : VK} {us us' : List Value} {kw : List (Str × Value)} {vs : List V}
    (J : Inv X pins σ H s) (bt : fd s ⟨us, kw⟩ (ps.zip us')) (r : Vals vs us') (h : sp vs H Q E) : wpAny (model X.prog X.w) X.A (PySem.call (.ref fa) us kw) (EP X pins σ Q) X.xe s := by
  refine wpAny_call (codeAny_mono (F.run X.A X.stack s H ⟨us, kw⟩ us' vs Q E C.room C.grd J.env0 bt r h) fun res t hq => ?_)
  cases res with
  | error e => exact C.px pins σ H s e t J hq
  | ok fl =>
    cases fl with
    | ret u => exact J.after hq
    | next => exact False.elim hq
    | brk => exact False.elim hq
    | cont => exact False.elim hq
theorem kw_names : ∀ {kws : List Keyword} {pos : Pos} {env : Env}, (kws.map (·.arg)).all (·.isSome) = true → (backToKw pos (keywordEach kws env)).all (·.1.isSome) = true ∧ (backToKw pos (keywordEach kws env)).any (·.1.isNone) = false ∧
    (backToKw pos (keywordEach kws env)).filterMap (·.1) = (kws.map (·.arg)).filterMap id
  | [], _, _, _ => ⟨rfl, rfl, rfl⟩
  | ⟨nm, x, kp⟩ :: r, pos, env, h => by
    simp only [List.map_cons, List.all_cons, Bool.and_eq_true] at h
    obtain ⟨a, b, c⟩ := kw_names (kws := r) (pos := pos) (env := env) h.2
    cases nm with
    | none => cases h.1
    | some y =>
      refine ⟨?_, ?_, ?_⟩
      · show ((some y).isSome && (backToKw pos (keywordEach r env)).all (·.1.isSome)) = true
        rw [a]; rfl
      · show ((some y).isNone || (backToKw pos (keywordEach r env)).any (·.1.isNone)) = false
        rw [b]; rfl
      · show y :: (backToKw pos (keywordEach r env)).filterMap (·.1) = _
        rw [c]; rfl
theorem fin0 (C : Cz P call CX k sx G E X) {f : Str} {fi : Fi} {sp : Sp} {fa : Addr} {fd : Bdr} (cf : CalF X.K X.mg f fi fa fd) (F : FnG X.prog X.w X.K X.mg X.base CX k fa fd fi.ps sp) {pins : List (Addr × Obj)} {σ : L2.St} {H : Hp} {s : Shared} {Q : VK} {us : List Value} {vs : List V}
    (J : Inv X pins σ H s) (r : Vals vs us) (hl : vs.length = fi.ps.length) (q : sp vs H Q E) : wpAny (model X.prog X.w) X.A (PySem.call (.ref fa) us []) (EP X pins σ Q) X.xe s :=
  run_own C F J (cf.bind s us (by rw [← r.length]; exact hl)) r q
theorem fin1 (C : Cz P call CX k sx G E X) {f : Str} {fi : Fi} {sp : Sp} {fa : Addr} {fd : Bdr} (cf : CalF X.K X.mg f fi fa fd) (F : FnG X.prog X.w X.K X.mg X.base CX k fa fd fi.ps sp) {pins : List (Addr × Obj)} {σ : L2.St} {H : Hp} {s : Shared} {Q : VK} {us ws : List Value} {vs zs : List V} {ks : List Str}
    (J : Inv X pins σ H s) (r : Vals vs us) (rz : Vals zs ws) (hm : (vs.length, ks) ∈ fi.kws) (hl : zs.length = ks.length) (q : sp (ordK fi.ps ks vs zs) H Q E) : wpAny (model X.prog X.w) X.A (PySem.call (.ref fa) us (ks.zip ws)) (EP X pins σ Q) X.xe s := by
  obtain ⟨_, hb⟩ := cf.kws _ _ hm
  obtain ⟨_, hb⟩ := hb us ws r.length.symm (by rw [← rz.length]; exact hl)
  exact run_own C F J (hb s) (ord_pair r rz) q
section
variable {f : Str} {fi : Fi} {p pos : Pos} {e : Expr} {es : List Expr} {kws : List Keyword} {ta tk : TA} {sp : Sp} {fa : Addr} {fd : Bdr}
theorem own0 (C : Cz P call CX k sx G E X) (hok : okN f = true) (hg : sx.sc.names.lookup f = some .globalImplicit) (cf : CalF X.K X.mg f fi fa fd) (F : FnG X.prog X.w X.K X.mg X.base CX k fa fd fi.ps sp) :
    PE X (.Call (.Name f p) [] [] pos) (fun σ H Q => 0 = fi.ps.length ∧ sp [] H Q E) := by
  refine ⟨fun pins s σ H Q J ⟨hl, q⟩ => ?_⟩
  refine wpAny_Call_Name_kw (ld_glob J (C.gl hg) cf.mg ?_ (okN_d hok).1)
  exact PySem.W.callWith_K0 (K := X.K) J.kIn cf.kp (fin0 C cf F J .nil hl q)
theorem own1 (C : Cz P call CX k sx G E X) (hok : okN f = true) (hg : sx.sc.names.lookup f = some .globalImplicit) (cf : CalF X.K X.mg f fi fa fd) (F : FnG X.prog X.w X.K X.mg X.base CX k fa fd fi.ps sp) (ha : PA X (e :: es) ta) (hst : (e :: es).all (fun e => !isStar e) = true) :
    PE X (.Call (.Name f p) (e :: es) [] pos) (fun σ H Q => ta σ H fun vs H1 => vs.length = fi.ps.length ∧ sp vs H1 Q E) := by
  refine ⟨fun pins s σ H Q J h => ?_⟩
  rw [List.all_cons, Bool.and_eq_true] at hst
  refine wpAny_Call_Name_kw (ld_glob J (C.gl hg) cf.mg ?_ (okN_d hok).1)
  exact PySem.W.callWith_K (h₀ := X.base) J.ok.mod.kin cf.kp (thn (ha.run pos pins s σ H _ J h) fun us s1 ⟨vs, H1, J1, rv, hl, q⟩ => ⟨J1.kIn, fin0 C cf F J1 rv hl q⟩) (starE (by simpa using hst.1)) (plainS hst.2)
theorem own2 (C : Cz P call CX k sx G E X) (hok : okN f = true) (hg : sx.sc.names.lookup f = some .globalImplicit) (cf : CalF X.K X.mg f fi fa fd) (F : FnG X.prog X.w X.K X.mg X.base CX k fa fd fi.ps sp) (hk : PK X kws tk) (hkw : (kws.map (·.arg)).all (·.isSome) = true) :
    PE X (.Call (.Name f p) [] kws pos) (fun σ H Q => tk σ H fun zs H1 => (0, (kws.map (·.arg)).filterMap id) ∈ fi.kws ∧ zs.length = ((kws.map (·.arg)).filterMap id).length ∧ sp (ordK fi.ps ((kws.map (·.arg)).filterMap id) [] zs) H1 Q E) := by
  refine ⟨fun pins s σ H Q J h => ?_⟩
  obtain ⟨n1, n2, n3⟩ := kw_names (pos := pos) (env := X.env) hkw
  refine wpAny_Call_Name_kw (ld_glob J (C.gl hg) cf.mg ?_ (okN_d hok).1)
  refine PySem.W.callWith_KW0 (h₀ := X.base) J.ok.mod.kin cf.kp n1 (thn (hk.run pos pins s σ H _ J h) fun ws s1 ⟨zs, H1, J1, rz, hm, hl, q⟩ => ⟨J1.kIn, ?_⟩) (by show (false || _) = false; rw [n2]; rfl)
  rw [n3]
  exact fin1 (us := []) (vs := []) C cf F J1 .nil rz hm hl q
theorem own3 (C : Cz P call CX k sx G E X) (hok : okN f = true) (hg : sx.sc.names.lookup f = some .globalImplicit) (cf : CalF X.K X.mg f fi fa fd) (F : FnG X.prog X.w X.K X.mg X.base CX k fa fd fi.ps sp) (ha : PA X (e :: es) ta) (hst : (e :: es).all (fun e => !isStar e) = true) (hk : PK X kws tk) (hkw : (kws.map (·.arg)).all (·.isSome) = true) :
    PE X (.Call (.Name f p) (e :: es) kws pos) (fun σ H Q => ta σ H fun vs H1 => tk σ H1 fun zs H2 => (vs.length, (kws.map (·.arg)).filterMap id) ∈ fi.kws ∧ zs.length = ((kws.map (·.arg)).filterMap id).length ∧ sp (ordK fi.ps ((kws.map (·.arg)).filterMap id) vs zs) H2 Q E) := by
  refine ⟨fun pins s σ H Q J h => ?_⟩
  obtain ⟨n1, n2, n3⟩ := kw_names (pos := pos) (env := X.env) hkw
  have hpl := plainS (pos := pos) (env := X.env) hst
  rw [List.all_cons, Bool.and_eq_true] at hst
  refine wpAny_Call_Name_kw (ld_glob J (C.gl hg) cf.mg ?_ (okN_d hok).1)
  refine PySem.W.callWith_KW (h₀ := X.base) J.ok.mod.kin cf.kp n1 (thn (ha.run pos pins s σ H _ J h) fun us s1 ⟨vs, H1, J1, rv, q1⟩ => thn (hk.run pos pins s1 σ H1 _ J1 q1) fun ws s2 ⟨zs, H2, J2, rz, hm, hl, q⟩ => ⟨J2.kIn, ?_⟩) (by rw [hpl, n2]; rfl) (starE (by simpa using hst.1))
  rw [n3]
  exact fin1 C cf F J2 rv rz hm hl q
end
end
end Y

/-! Expressions: what the reader answers, the program answers. -/
namespace Y
open PySem PySem.Spec L2
theorem idx_ok {N : List Str} {x : Str} {i : Nat} (h : idx N x = some i) : N[i]? = some x := by
  unfold idx at h
  obtain ⟨hl, h1, _⟩ := List.findIdx?_eq_some_iff_getElem.mp h
  rw [List.getElem?_eq_getElem hl]
  exact congrArg some (of_decide_eq_true h1)
theorem slot_ok {e : En} {i : Nat} {w : W} (h : slot e i = some w) : e[i]? = some (some w) := by
  unfold slot at h
  split at h
  · rename_i q; cases h; exact q
  · cases h
theorem vis_ok {sc : Scope} {x : Str} (h : isVis (sc.names.lookup x) = true) : Vis sc x := by
  unfold Vis
  cases e : sc.names.lookup x with
  | none => rw [e] at h; cases h
  | some k => cases k <;> first | exact .inl rfl | exact .inr (.inl rfl) | exact .inr (.inr rfl) | (rw [e] at h; cases h)
section
variable {P : Pg} {call : Cf} {CX : CXT} {k : Nat} {sx : Sx} {G : Gd} {E : XK} {X : Cx}
theorem RE.ofO {α : Type} {EE : EK} {H : Hp} {I : Ix} {kk : AK α} {o : Option α} {S : So} (h : RE G EE H I kk (ofO o S)) : ∃ a, o = some a ∧ RE G EE H I kk (.ok a S) := by
  cases o with
  | none => exact False.elim h
  | some a => exact ⟨a, rfl, h⟩
/-- a name -/
theorem se_name (C : Cz P call CX k sx G E X) (n : Str) (p : Pos) : PE X (.Name n p) (tE G (EKof G E) fun e S => if okN n = true then ofO (nameE P sx e n) S else .bad) := by
  refine PE.by fun σ H Q ⟨I, S, e, rl, rs, h⟩ => ?_
  simp only at h
  split at h
  · rename_i hok
    obtain ⟨h1, h2, h3⟩ := okN_d hok
    obtain ⟨w, e1, h⟩ := RE.ofO h
    unfold nameE at e1
    split at e1
    · rename_i hv
      obtain ⟨i, e2, e3⟩ := Option.bind_eq_some_iff.mp e1
      obtain ⟨v, e4, q⟩ := rs.get _ _ (slot_ok e3)
      refine ⟨tVar i, pe_var (by rw [C.hN]; exact idx_ok e2) (by rw [C.sc]; exact vis_ok hv) h1 h2, v, e4, kV_now h rl q⟩
    · split at e1
      · rename_i hg
        rcases C.glb n w e1 with ⟨u, v, m1, r1, q⟩ | ⟨t, rfl, m1, b1⟩
        · have hq : RW G H I w v := by
            have := q H I
            rw [← C.K, ← C.mg] at this
            exact this
          exact ⟨tC v, pe_glob (C.gl hg) m1 r1 h1, kV_now h rl hq⟩
        · exact ⟨tC (.ty t), pe_bltn (C.gl hg) m1 b1 rfl h3 h1, kV_now h rl (by unfold RW; rfl)⟩
      · cases e1
  · exact False.elim h
theorem se_const (c : Const) (j : Nat) (p : Pos) : PE X (.Constant c j p) (tE G (EKof G E) fun _ S => constE c S) := by
  refine PE.by fun σ H Q ⟨I, S, e, rl, rs, h⟩ => ?_
  cases c with
  | none => exact ⟨_, pe_non, kV_now h rl (by unfold RW; rfl)⟩
  | bool b => exact ⟨_, pe_bl, kV_now h rl (by unfold RW; rfl)⟩
  | int i => exact ⟨_, pe_int, kV_now h rl (by unfold RW; rfl)⟩
  | str x => exact ⟨_, pe_str, kV_now h rl (by unfold RW; rfl)⟩
  | float _ => exact False.elim h
  | complex _ _ => exact False.elim h
  | bytes _ => exact False.elim h
  | ellipsis => exact False.elim h
/-- two steps, then a rule of values -/
theorem two_Z {a b : Expr} {EE : EK} {ra rb : En → So → Res W} {f : W → W → So → Res W} {t : TE → TE → TE} {x : Expr} (ha : PE X a (tE G EE ra)) (hb : PE X b (tE G EE rb)) (hx : PE X x (tOp (rZ G EE f) (tE G EE ra) (tE G EE rb))) :
    PE X x (tE G EE fun e S => (ra e S).bind fun u S1 => (rb e S1).bind fun v S2 => f u v S2) := by
  refine hx.of fun σ H Q ⟨I, S, e, rl, rs, h⟩ => ?_
  refine tE.step rl rs h fun w S1 H1 I1 v k1 rl1 hv h1 => ?_
  refine tE.step (S := S1) rl1 (rs.mono k1) h1 fun z S2 H2 I2 u k2 rl2 hu h2 => ?_
  exact ⟨I2, S2, w, z, rl2, hv.mono k2, hu, h2⟩
theorem se_bin (C : Cz P call CX k sx G E X) {m : Bool} {a b : Expr} {op : Operator} {p : Pos} {ra rb : En → So → Res W} (ha : PE X a (tE G (EKof G E) ra)) (hb : PE X b (tE G (EKof G E) rb)) :
    PE X (.BinOp a op b p) (tE G (EKof G E) fun e S => (ra e S).bind fun u S1 => (rb e S1).bind fun v S2 => binop m op u v S2) :=
  two_Z (t := fun a b => a) ha hb (pe_op (op_Z C.K m op) ha hb)
/-- a comparison's reading -/
def fC (op : CmpOp) : W → W → So → Res W := fun u v S2 => (ofO (cmp op u v S2) S2).bind fun r S3 => .ok (.bl r) S3
theorem rC_Z {EE : EK} {op : CmpOp} {x y : V} {H : Hp} {Q : VK} (h : rZ G EE (fC op) x y H Q) : rC G (cmp op) x y H Q := by
  obtain ⟨I, S, u, v, rl, h1, h2, h⟩ := h
  unfold fC at h
  cases e : cmp op u v S with
  | none => rw [e] at h; exact False.elim h
  | some b =>
    rw [e] at h
    exact ⟨I, S, u, v, b, rl, h1, h2, e, kV_now (E := EE) (S := S) h rl (by unfold RW; rfl)⟩
theorem units64 {A : Around} {k : Nat} (r : Room k A) : A.units + 64 < cLine := r.units
theorem units65 {A : Around} {k : Nat} (r : Room k A) : A.units + 65 < cLine := by have := r.un; omega
theorem units200 {A : Around} {k : Nat} (r : Room k A) : A.units + 200 < cLine := by have := r.un; omega
theorem mark_ok {op : CmpOp} {b : Expr} (h : isSet b = false) : behindInMarks op b = false := by
  cases b <;> first | rfl | cases h
theorem op_C (C : Cz P call CX k sx G E X) (op : CmpOp) : OpR X (compareOp op) (rZ G (EKof G E) (fC op)) := by
  intro pins s σ H x y v u Q J rx ry h
  exact cmp_Z C.K (units65 C.room) (units64 C.room) C.sys op pins s σ H x y v u Q J rx ry (rC_Z h)
theorem se_cmp (C : Cz P call CX k sx G E X) {a b : Expr} {op : CmpOp} {p : Pos} {ra rb : En → So → Res W} (ha : PE X a (tE G (EKof G E) ra)) (hb : PE X b (tE G (EKof G E) rb)) :
    PE X (.Compare a [op] [b] p) (tE G (EKof G E) fun e S => if isSet b = true then .bad else (ra e S).bind fun u S1 => (rb e S1).bind fun v S2 => fC op u v S2) := by
  by_cases hs : isSet b = true
  · exact PE.never fun σ H Q ⟨I, S, e, rl, rs, h⟩ => by simp only [hs, if_true] at h; exact h
  · simp only [hs, if_false]
    exact two_Z (t := fun a b => a) ha hb (pe_cmpR (op_C C op) ha hb (mark_ok (by simpa using hs)))
/-- two comparisons in a chain -/
def fC2 (op op' : CmpOp) (rc : So → Res W) : W → W → So → Res W := fun u v S2 => (ofO (cmp op u v S2) S2).bind fun r S3 =>
  if r then (rc S3).bind fun z S4 => fC op' v z S4 else .ok (.bl false) S3
theorem chain_Z (C : Cz P call CX k sx G E X) {a b c : Expr} {op op' : CmpOp} {p : Pos} {ra rb rc : En → So → Res W} {σ : L2.St} {H : Hp} {Q : VK} {I : Ix} {S : So} {e : En}
    (rl : Rel G H I S) (rs : RS G H I e σ) (h : RE G (EKof G E) H I (kV' G Q) ((ra e S).bind fun u S1 => (rb e S1).bind fun v S2 => fC2 op op' (rc e) u v S2)) :
    tChain (rZ G (EKof G E) (fC op)) (rZ G (EKof G E) (fC op')) (tE G (EKof G E) ra) (tE G (EKof G E) rb) (tE G (EKof G E) rc) σ H Q := by
  refine tE.step rl rs h fun w S1 H1 I1 v k1 rl1 hv h1 => ?_
  refine tE.step (S := S1) rl1 (rs.mono k1) h1 fun z S2 H2 I2 u k2 rl2 hu h2 => ?_
  refine ⟨I2, S2, w, z, rl2, hv.mono k2, hu, ?_⟩
  unfold fC2 at h2
  unfold fC
  cases q : cmp op w z S2 with
  | none => rw [q] at h2; exact False.elim h2
  | some r =>
    rw [q] at h2
    intro H3 I3 k3 rl3 y hy
    unfold RW at hy
    subst hy
    refine ⟨r, rfl, ?_⟩
    cases r with
    | false => exact iteF (kV_now (h2.mono k3) rl3 (by unfold RW; rfl))
    | true =>
      refine iteT (tE.step (S := S2) rl3 ((rs.mono k1).mono (k2.trans k3)) (show RE G (EKof G E) H3 I3 (kV' G Q) ((rc e S2).bind fun z' S4 => fC op' z z' S4) from h2.mono k3) fun w' S4 H4 I4 v' k4 rl4 hv' h4 => ?_)
      exact ⟨I4, S4, z, w', rl4, hu.mono (k3.trans k4), hv', h4⟩
theorem marks2 {op op' : CmpOp} {b c : Expr} (h : isSet c = false) : lastMarks [op, op'] [b, c] = false := mark_ok (op := op') h
theorem se_cmp2 (C : Cz P call CX k sx G E X) {a b c : Expr} {op op' : CmpOp} {p : Pos} {ra rb rc : En → So → Res W} (ha : PE X a (tE G (EKof G E) ra)) (hb : PE X b (tE G (EKof G E) rb)) (hc : PE X c (tE G (EKof G E) rc)) :
    PE X (.Compare a [op, op'] [b, c] p) (tE G (EKof G E) fun e S => if (isSet b || isSet c) = true then .bad else (ra e S).bind fun u S1 => (rb e S1).bind fun v S2 => fC2 op op' (rc e) u v S2) := by
  by_cases hs : (isSet b || isSet c) = true
  · exact PE.never fun σ H Q ⟨I, S, e, rl, rs, h⟩ => by simp only [hs, if_true] at h; exact h
  · simp only [hs, if_false]
    have hc2 : isSet c = false := by cases q : isSet c <;> simp_all
    refine (pe_chain (op_C C op) (op_C C op') ha hb hc (marks2 hc2)).of fun σ H Q ⟨I, S, e, rl, rs, h⟩ => ?_
    exact chain_Z (a := a) (b := b) (c := c) (p := p) C rl rs h
theorem se_not {EE : EK} (hK : G.K = X.K) {a : Expr} {p : Pos} {ra : En → So → Res W} (ha : PE X a (tE G EE ra)) :
    PE X (.UnaryOp .Not a p) (tE G EE fun e S => (ra e S).bind fun u S1 => match truth u S1 with | some b => .ok (.bl (!b)) S1 | none => .bad) := by
  refine (pe_notT ha).of fun σ H Q ⟨I, S, e, rl, rs, h⟩ => ?_
  refine tE.step rl rs h fun w S1 H1 I1 v k1 rl1 hv h1 => ?_
  cases q : truth w S1 with
  | none => rw [q] at h1; exact False.elim h1
  | some b =>
    rw [q] at h1
    exact ⟨b, by rw [← hK]; exact truth_ok rl1 hv q, kV_now h1 rl1 (by unfold RW; rfl)⟩
theorem se_neg {EE : EK} {a : Expr} {p : Pos} {ra : En → So → Res W} (ha : PE X a (tE G EE ra)) :
    PE X (.UnaryOp .USub a p) (tE G EE fun e S => (ra e S).bind neg) := by
  refine (pe_un un_neg ha).of fun σ H Q ⟨I, S, e, rl, rs, h⟩ => ?_
  refine tE.step rl rs h fun w S1 H1 I1 v k1 rl1 hv h1 => ?_
  cases w with
  | int i =>
    unfold RW at hv
    subst hv
    exact ⟨i, rfl, kV_now h1 rl1 (by unfold RW; rfl)⟩
  | _ => exact False.elim h1
theorem se_bool {EE : EK} (hK : G.K = X.K) {op : BoolOp} {p : Pos} {f : Expr → En → So → Res W} (hf : ∀ x, PE X x (tE G EE (f x))) : ∀ vs : List Expr,
    PE X (.BoolOp op vs p) (tE G EE fun e S => evB (match op with | .And => true | .Or => false) (fun x => f x e) vs S)
  | [] => PE.never fun σ H Q ⟨I, S, e, rl, rs, h⟩ => h
  | [x] => (pe_one (hf x)).of fun σ H Q q => q
  | x :: y :: r => by
    have ih := se_bool (p := p) (op := op) hK hf (y :: r)
    cases op with
    | And =>
      refine (pe_andT (hf x) ih).of fun σ H Q ⟨I, S, e, rl, rs, h⟩ => ?_
      refine tE.step rl rs h fun w S1 H1 I1 v k1 rl1 hv h1 => ?_
      cases q : truth w S1 with
      | none => rw [q] at h1; exact False.elim h1
      | some b =>
        rw [q] at h1
        refine ⟨b, by rw [← hK]; exact truth_ok rl1 hv q, ?_⟩
        cases b with
        | true => exact iteT ⟨I1, S1, e, rl1, rs.mono k1, h1⟩
        | false => exact iteF (kV_now h1 rl1 hv)
    | Or =>
      refine (pe_orT (hf x) ih).of fun σ H Q ⟨I, S, e, rl, rs, h⟩ => ?_
      refine tE.step rl rs h fun w S1 H1 I1 v k1 rl1 hv h1 => ?_
      cases q : truth w S1 with
      | none => rw [q] at h1; exact False.elim h1
      | some b =>
        rw [q] at h1
        refine ⟨b, by rw [← hK]; exact truth_ok rl1 hv q, ?_⟩
        cases b with
        | true => exact iteT (kV_now h1 rl1 hv)
        | false => exact iteF ⟨I1, S1, e, rl1, rs.mono k1, h1⟩
/-- the test of an expression -/
def tst (r : En → So → Res W) : En → So → Res Bool := fun e S => (r e S).bind fun u S1 => ofO (truth u S1) S1
theorem se_if {EE : EK} {c a b : Expr} {p : Pos} {rc ra rb : En → So → Res W} (hc : PT X c (tT G EE (tst rc))) (ha : PE X a (tE G EE ra)) (hb : PE X b (tE G EE rb)) :
    PE X (.IfExp c a b p) (tE G EE fun e S => (rc e S).bind fun u S1 => match truth u S1 with | some true => ra e S1 | some false => rb e S1 | none => .bad) := by
  refine (pe_ifExp hc ha hb).of fun σ H Q ⟨I, S, e, rl, rs, h⟩ => ?_
  refine ⟨I, S, e, rl, rs, ?_⟩
  unfold tst
  simp only at h
  cases q : rc e S with
  | bad => rw [q] at h; exact False.elim h
  | exn x S1 => rw [q] at h; exact h
  | ok u S1 =>
    rw [q] at h
    simp only [Res.bind] at h ⊢
    cases q2 : truth u S1 with
    | none => rw [q2] at h; exact False.elim h
    | some t =>
      rw [q2] at h
      intro H1 I1 k1 rl1
      cases t with
      | true =>
        show if true = true then tE G EE ra σ H1 Q else tE G EE rb σ H1 Q
        exact iteT ⟨I1, S1, e, rl1, rs.mono k1, RE.mono k1 h⟩
      | false =>
        show if false = true then tE G EE ra σ H1 Q else tE G EE rb σ H1 Q
        exact iteF ⟨I1, S1, e, rl1, rs.mono k1, RE.mono k1 h⟩
theorem se_tup {EE : EK} {es : List Expr} {j : Nat} {p : Pos} {rs' : En → So → Res (List W)} (ha : PA X es (tAs G EE rs')) :
    PE X (.Tuple es j p) (tE G EE fun e S => (rs' e S).bind fun ws S1 => if ws.length ≤ sizeLine then .ok (.tup ws) S1 else .bad) := by
  refine (pe_tup ha).of fun σ H Q ⟨I, S, e, rl, rs, h⟩ => ?_
  refine tAs.step rl rs h fun ws S1 H1 I1 vs k1 rl1 hv h1 => ?_
  split at h1
  · rename_i hl
    refine ⟨by rw [← hv.len]; exact hl, fun t ht => ?_⟩
    have kn := Keep.junk (I := I1) (o := .tup vs) ht
    refine h1 _ I1 kn (rl1.junk ht) _ ?_
    unfold RW
    exact ⟨t, vs, rfl, .of upd_same, hv.mono kn⟩
  · exact False.elim h1
theorem se_lst {EE : EK} {m : Bool} {es : List Expr} {p : Pos} {rs' : En → So → Res (List W)} (ha : PA X es (tAs G EE rs')) :
    PE X (.List es p) (tE G EE fun e S => (rs' e S).bind fun ws S1 => if ws.length ≤ sizeLine then mk m ws S1 else .bad) := by
  refine (pe_lst ha).of fun σ H Q ⟨I, S, e, rl, rs, h⟩ => ?_
  refine tAs.step rl rs h fun ws S1 H1 I1 vs k1 rl1 hv h1 => ?_
  split at h1
  · rename_i hl
    exact ⟨by rw [← hv.len]; exact hl, mk_lst rl1 hv h1⟩
  · exact False.elim h1
end
end Y

/-! Errors of one's own in the reader: made by their class's call, read, asked for their class. -/
namespace Y
open PySem PySem.Spec L2
section
variable {P : Pg} {call : Cf} {CX : CXT} {k : Nat} {sx : Sx} {G : Gd} {E : XK} {X : Cx} {EE : EK}
theorem RFs.look {H : Hp} {I : Ix} {n : Str} {w : W} : ∀ {ws : List (Str × W)} {vs : List (Str × V)}, RFs G H I ws vs → ws.lookup n = some w → ∃ v, vs.lookup n = some v ∧ RW G H I w v
  | [], _, _, e => by cases e
  | (y, z) :: ws, _, h, e => by
    rw [RFs] at h
    obtain ⟨v, t, rfl, h1, h2⟩ := h
    rw [List.lookup_cons] at e ⊢
    cases q : n == y with
    | true =>
      rw [q] at e
      cases e
      exact ⟨v, rfl, h1⟩
    | false =>
      rw [q] at e
      exact RFs.look h2 e
/-- what stands at such an address -/
theorem fzI_at {pins : List (Addr × Obj)} {σ : L2.St} {H : Hp} {s : Shared} {I : Ix} {t : Bool} {a c dx : Addr} {vs : List (Str × V)} (J : Inv X pins σ H s) (h : FzI H I t a c dx vs) :
    ∃ (ox od : Obj) (mA : Str → Option Value), PySem.W.InstAt s.heap a ox c (some od) ∧ (∀ f, RelO (vs.lookup f) (mA f)) ∧ ∀ f, PySem.W.lookIn f od = some (mA f) := by
  rcases h with h | ⟨h, q⟩
  · obtain ⟨mA, O, r, _⟩ := ins_get J.hok h.1
    obtain ⟨od, I, l⟩ := O.look
    exact ⟨_, od, mA, I, r, l⟩
  · obtain ⟨t1, ho⟩ := exo_at J.hok h.1
    obtain ⟨mA, hn, r⟩ := exd_at J.hok q.1
    obtain ⟨od, hd, l⟩ := lookIn_ns hn
    exact ⟨_, od, mA, ⟨ho, rfl, rfl, hd⟩, r, l⟩
/-- error.name -/
theorem se_attr (C : Cz P call CX k sx G E X) {o : Expr} {n : Str} {pos : Pos} {ro : En → So → Res W} (ho : PE X o (tE G (EKof G E) ro)) (hb : attributeBase o n X.env (eval o X.env) = eval o X.env) :
    PE X (.Attribute o n pos) (tE G (EKof G E) fun e S => (ro e S).bind fun u S1 => attrV P u n S1) := by
  refine ⟨fun pins s σ H Q J ⟨I, S, e, rl, rs, h⟩ => ?_⟩
  refine attr_of hb (thn (ho.run pins s σ H (fun v H1 => ∃ I1 S1 w, Rel G H1 I1 S1 ∧ RW G H1 I1 w v ∧ RE G (EKof G E) H1 I1 (kV' G Q) (attrV P w n S1)) J (tE.step rl rs h fun w S1 H1 I1 v k1 rl1 hv h1 => ⟨I1, S1, w, rl1, hv, h1⟩)) fun u s1 hh => ?_)
  obtain ⟨v, H1, J1, rv, I1, S1, w, rl1, hv, h1⟩ := hh
  unfold attrV at h1
  cases w with
  | fins t Cn fs =>
    simp only at h1
    split at h1
    · rename_i hEr
      obtain ⟨z, ez, h2⟩ := RE.ofO h1
      rw [RW] at hv
      obtain ⟨a, c, dx, vs, rfl, hm, fz, hfs⟩ := hv
      obtain ⟨c', hm', T⟩ := C.er _ _ hEr
      rw [C.mg] at hm
      have ec : c' = c := by rw [hm] at hm'; cases hm'; rfl
      subst ec
      obtain rfl : u = Value.ref a := rv
      obtain ⟨y, ey, hy⟩ := hfs.look ez
      obtain ⟨ox, od, mA, IA, rr, ll⟩ := fzI_at J1 fz
      obtain ⟨z', hz', rz⟩ := RelO.some_of (v := y) (o := mA n) (by rw [← ey]; exact rr n)
      exact HandSPX.exc_get J1.kIn IA T.ga T.gt T.ex (PySem.W.findObj_own T.hd T.no rfl (by rw [ll, hz'])) (handed_of rz) ⟨y, H1, J1.tok _, rz, RE.now (k := kV' G Q) h2 rl1 y hy⟩
    · exact False.elim h1
  | _ => exact False.elim h1
/-- isinstance, also of such an error -/
def rBiI (P : Pg) (G : Gd) (E : EK) (m : Bool) (f : Str) : List V → Hp → VK → Prop := fun vs H Q => ∃ I S ws, Rel G H I S ∧ RWs G H I ws vs ∧ RE G E H I (kV' G Q) (builtinI P.isa m f ws S)
theorem isi_own (C : Cz P call CX k sx G E X) {pins : List (Addr × Obj)} {σ : L2.St} {H : Hp} {s : Shared} {I : Ix} {S : So} {x D : W} {v u : V} {a b : Value} {Q : VK} (J : Inv X pins σ H s) (rl : Rel G H I S) (h1 : RW G H I x v) (h2 : RW G H I D u) (r1 : RelV v a) (r2 : RelV u b)
    (h : RE G EE H I (kV' G Q) (isiC P.isa x D S)) : wpAny (model X.prog X.w) X.A (PySem.call (.builtin "isinstance") [a, b]) (EP X pins σ Q) X.xe s := by
  unfold isiC at h
  cases x with
  | fins t Cn fs =>
    simp only at h
    split at h
    · rename_i bb eb
      obtain ⟨c, x, cv, hm, T, hD, hk⟩ := C.isa _ _ _ eb
      rw [RW] at h1
      obtain ⟨p, c', dx, vs, rfl, hm', fz, hfs⟩ := h1
      rw [C.mg] at hm'
      have ec : c' = c := by rw [hm] at hm'; cases hm'; rfl
      subst ec
      obtain rfl : a = Value.ref p := r1
      obtain ⟨ox, od, mA, IA, _, _⟩ := fzI_at J fz
      have eb2 : b = cv := by
        cases D with
        | glo y =>
          obtain ⟨d, q1, rfl⟩ := hD
          rw [RW] at h2
          obtain ⟨d2, rfl, q2⟩ := h2
          rw [C.mg, q1] at q2
          cases q2
          exact r2
        | ty n =>
          have hD' : cv = .type n := hD
          subst hD'
          rw [RW] at h2
          subst h2
          exact r2
        | _ => exact hD.elim
      subst eb2
      exact PySem.W.kia_one (PySem.W.kitx_exc T.cl T.ga T.gt T.ex T.ha T.hn T.ht T.hm) J.kIn IA hk (fun z => nomatch z) fun tk => ⟨.bl bb, H, J.tok tk, rfl, RE.now (k := kV' G Q) h rl _ (by rw [RW])⟩
    · exact False.elim h
  | _ => exact False.elim h
theorem bi_isiI (C : Cz P call CX k sx G E X) (m : Bool) : CallR X (.builtin "isinstance") (rBiI P G EE m "isinstance") := by
  rintro pins s σ H xs us Q J r ⟨I, S, ws, rl, z, h⟩
  have old : RE G EE H I (kV' G Q) (builtin m "isinstance" ws S) → wpAny (model X.prog X.w) X.A (PySem.call (.builtin "isinstance") us) (EP X pins σ Q) X.xe s := fun h => bi_isi C.K m pins s σ H xs us Q J r ⟨I, S, ws, rl, z, h⟩
  unfold builtinI at h
  rw [if_pos rfl] at h
  split at h
  · obtain ⟨v, u, rfl, h1, h2⟩ := z.two
    obtain ⟨a, b, rfl, r1, r2⟩ := vals2 r
    exact isi_own C J rl h1 h2 r1 r2 h
  · split at h
    · obtain ⟨v, u, rfl, h1, h2⟩ := z.two
      obtain ⟨a, b, rfl, r1, r2⟩ := vals2 r
      exact isi_own C J rl h1 h2 r1 r2 h
    · exact old h
  · exact old h
theorem builtinI_of {isa : Str → W → Option Bool} {m : Bool} {f : Str} {us : List W} {S : So} (h : f ≠ "isinstance") : builtinI isa m f us S = builtin m f us S := by
  unfold builtinI
  rw [if_neg h]
end
/-! ### such an error made -/
section
open PySem.W PySem.Calls PySem.HandSPX
/-- how the class is given its one thing -/
def BE (x : Str) : Bdr := fun _ args bs => ∃ v, bs = [(x, v)] ∧ (args = ⟨[v], []⟩ ∨ args = ⟨[], [(x, v)]⟩)
/-- how its __init__ is given it -/
def BindsEr (x : Str) : Prop := ∀ (qual msg : Str) (q1 q2 p0 p1 p2 p3 p4 p5 p6 p7 p8 p9 : Pos) (cc cda : Addr) (kV doc pm ct : Value) (an : Option Addr) (u v : Value),
  bindArgs (fnX "__init__" qual (erA q1 q2 x) (erB msg x p0 p1 p2 p3 p4 p5 p6 p7 p8 p9) (erS x) [("__class__", cc)] .none kV doc pm an (.ref cda) ct) ⟨[u, v], []⟩ = pure ([(("self" : Str), u), (x, v)] : List (Str × Value)) ∧
  bindArgs (fnX "__init__" qual (erA q1 q2 x) (erB msg x p0 p1 p2 p3 p4 p5 p6 p7 p8 p9) (erS x) [("__class__", cc)] .none kV doc pm an (.ref cda) ct) ⟨[u], [(x, v)]⟩ = pure ([(("self" : Str), u), (x, v)] : List (Str × Value))
section
variable {Pr : Program} {w : World} {K : PySem.W.Frag} {mg : Str → Option Value} {base : Heap}
theorem erG {P : Pg} {cxt : CXT} {k : Nat} {C fI : Addr} {f x : Str} {fi : Fi} (hF : P.F f = some fi) (hp : fi.ps = [x]) (hE : P.er f = some x) (hmg : mg f = some (.ref C)) (T : ErT Pr K C fI x) (B : BindsEr x) :
    FnG Pr w K mg base cxt (k + 1) C (BE x) fi.ps (spZ ⟨K, mg⟩ (callN P (k + 1)) f fi.ps.length) where
  len := fun vs H Q E h => by
    obtain ⟨I, S, ws, rl, z, hl, _⟩ := h
    rw [← z.len]; exact hl
  run := by
    intro A outer s H args us vs Q E room grd e0 hb rel prom
    obtain ⟨I, S, ws, rl, z, hl, h⟩ := prom
    rw [hp] at hb hl
    obtain ⟨v0, hbs, hargs⟩ := hb
    obtain ⟨w0, rfl⟩ : ∃ w0, ws = [w0] := by
      match ws, hl with
      | [w0], _ => exact ⟨w0, rfl⟩
    obtain ⟨y, rfl, hy⟩ := z.one
    obtain ⟨u0, rfl, r0⟩ : ∃ u0, us = [u0] ∧ RelV y u0 := by
      cases rel with
      | cons a b => cases b; exact ⟨_, rfl, a⟩
    have ev : v0 = u0 := by
      have q : [(x, u0)] = [(x, v0)] := hbs
      injection q with q _
      injection q with _ q
      exact q.symm
    subst ev
    unfold callN at h
    simp only [hF, hp, hE, List.length_cons, List.length_nil, if_true, Option.isSome_some] at h
    have k0 : ∀ b o, base.get? b = some o → s.heap.get? b = some o := fun b o q => (e0.bs b o q).1
    have inK : K.In s.heap := e0.mod.kin.keeps k0
    have lim : s.heap.NoLimit := e0.mod.nolimit.keeps k0
    have glb : s.heap.Ns mainGlobals mg := e0.mod.glob.keeps k0
    obtain ⟨mb, hmb, hbb⟩ := e0.mod.blt
    have blt : s.heap.Ns builtinsNs mb := hmb.keeps k0
    have hbare := e0.bare
    have hok := e0.hok
    obtain ⟨nm, q, N, bs, bm, sn, sub, ab, col, dd, c0, c1, c2, c3, c5, lC, hbm, _⟩ := T.cls
    obtain ⟨hp0, g, d, t, os⟩ := s
    -- the call of the class, with the thing by position or by name
    have go : ∀ (rest : List Value) (kw : List (Str × Value)), (rest = [v0] ∧ kw = []) ∨ (rest = [] ∧ kw = [(x, v0)]) → codeAny (model Pr w) A (.call (.ref C) ⟨rest, kw⟩) (CR cxt outer Pr w H ⟨hp0, g, d, t, os⟩ Q E) ⟨hp0, g, d, t, os⟩ := fun rest kw hrk => by
      have hz : rest.length ≤ sizeLine := by
        rcases hrk with ⟨rfl, _⟩ | ⟨rfl, _⟩
        · show 1 ≤ sizeLine; rw [sizeLine_eq]; omega
        · exact Nat.zero_le _
      refine callK F.excBase_ValueError (fun Y => PySem.HandSPX.refsVE_contains Y bm hbm) (inK _ _ lC) (PySem.W.looks_findIn inK T.ini) (fun self => PySem.W.bind_fn inK self T.ity) hz ?_
      have k1 : ∀ b o, hp0.get? b = some o → ((hp0.push (kdv_tup rest)).push (excO C hp0.objs.size)).get? b = some o := fun b o e => Heap.get?_push_of_some _ (Heap.get?_push_of_some _ e)
      have he1 : ((hp0.push (kdv_tup rest)).push (excO C hp0.objs.size)).get? (hp0.objs.size + 1) = some (excO C hp0.objs.size) := by heap_get
      have neE : ∀ b o, hp0.get? b = some o → b ≠ hp0.objs.size + 1 := fun b o e z => by
        have q := Heap.lt_size e
        rw [z] at q
        exact absurd q (Nat.not_lt.mpr (Nat.le_succ _))
      refine codeAny_mono (init_er (K := K) (mg := mg) (mb := mb) T (room.make C rest kw).depth (inK.keeps k1) (glb.keeps k1) (blt.keeps k1) hbb (lim.keeps k1) he1 (by
        cases q : K.lookup (hp0.objs.size + 1) with
        | none => rfl
        | some o => exact absurd rfl (neE _ _ (inK _ _ q))) (v := v0) (fun fd _ o ho hd => ?_)
        (R := InitBack (hp0.objs.size + 1) (CR cxt outer Pr w H ⟨hp0, g, d, t, os⟩ Q E)) fun h' t' dx t1 kk dn dne he5 hn5 => ?_) fun r s' z => z
      · obtain ⟨oc, od, osl, qual, msg, q1, q2, p0, p1, p2, p3, p4, p5, p6, p7, p8, p9, cc, cda, kV, doc, pm, ct, an, cl, cld, csl, ccl, cdd, vs', ccs, file, tf, lf, _⟩ := T.fn
        have e := k1 _ _ (inK _ _ lf)
        rw [e] at ho
        cases ho
        cases hd
        obtain ⟨b1, b2⟩ := B qual msg q1 q2 p0 p1 p2 p3 p4 p5 p6 p7 p8 p9 cc cda kV doc pm ct an (.ref (hp0.objs.size + 1)) v0
        rcases hrk with ⟨rfl, rfl⟩ | ⟨rfl, rfl⟩
        · exact .of_eq b1
        · exact .of_eq b2
      · refine ⟨rfl, ?_⟩
        -- the abstract heap behind it
        have nE : H (hp0.objs.size + 1) = none := hok.fresh (Nat.le_succ _)
        have nD : H dx = none := hok.gone (by
          cases q : hp0.get? dx with
          | none => rfl
          | some o => rw [k1 _ _ q] at dn; cases dn)
        have gD : hp0.get? dx = none := by
          cases q : hp0.get? dx with
          | none => rfl
          | some o => rw [k1 _ _ q] at dn; cases dn
        have kp : ∀ b o, hp0.get? b = some o → h'.get? b = some o := fun b o e => kk b o (neE b o e) (k1 b o e)
        have nd : ∀ {b : Addr} {o : Obj}, hp0.get? b = some o → b ≠ dx := fun {b o} e z => by rw [z, gD] at e; cases e
        have nE2 : upd H dx (exd dx [(x, y)]) (hp0.objs.size + 1) = none := by rw [upd_ne (Ne.symm dne)]; exact nE
        have kH : Keep H I (upd (upd H dx (exd dx [(x, y)])) (hp0.objs.size + 1) (exo (hp0.objs.size + 1) C (some dx))) I := (Keep.junk nD).trans (Keep.junk nE2)
        have rlH := (rl.junk (u := exd dx [(x, y)]) nD).junk (u := exo (hp0.objs.size + 1) C (some dx)) nE2
        have outs : ∀ {a : Addr}, H a = none → Out I false a := fun {a} n => ⟨(fun z => by
          obtain ⟨_, q2, _⟩ := rl.thereM z
          rw [n] at q2
          cases q2), (rl.apart n).2, fun _ => (rl.apart n).1⟩
        refine ⟨.ref (hp0.objs.size + 1), upd (upd H dx (exd dx [(x, y)])) (hp0.objs.size + 1) (exo (hp0.objs.size + 1) C (some dx)), rfl, hbare, ?_, ?_, rfl, ?_⟩
        · exact {
            keep := fun b o e _ _ _ => kp b o e
            slot := fun b o e _ _ _ => ⟨o.slots, kp b o e⟩
            free := fun b o e n _ => by rw [upd_ne (neE b o e), upd_ne (nd e)]; exact n
            there := fun b o e _ => ⟨o, kp b o e⟩
            tups := kH.tup
            frzs := kH.frz
            tbls := fun b ps e => ⟨#[], by rw [upd_ne (ne_of_none e nE), upd_ne (ne_of_none e nD), e]; simp⟩ }
        · intro b o e
          by_cases hb : b = hp0.objs.size + 1
          · subst hb
            rw [upd_same] at e
            cases e
            exact exo_ok he5
          · rw [upd_ne hb] at e
            by_cases hd : b = dx
            · subst hd
              rw [upd_same] at e
              cases e
              refine exd_ok hn5 fun f => ?_
              rw [lookup_put]
              by_cases hf : f = x
              · rw [if_pos hf, if_pos hf]; exact r0
              · rw [if_neg hf, if_neg hf]; exact True.intro
            · rw [upd_ne hd] at e
              exact (hok b o e).stay (fun c v _ q => kp c v q) (fun c q => by rw [upd_ne (ne_of_none q nE), upd_ne (ne_of_none q nD)]; exact q) (fun c xs q => kH.tup c xs q)
        · refine h _ _ kH rlH _ ?_
          show RW _ _ _ (.fins false f [(x, w0)]) _
          rw [RW]
          refine ⟨_, C, dx, [(x, y)], rfl, hmg, .inr ⟨⟨upd_same, outs nE⟩, by rw [upd_ne dne]; exact upd_same, outs nD⟩, ?_⟩
          rw [RFs]
          exact ⟨y, [], rfl, hy.mono kH, by rw [RFs]⟩
    rcases hargs with rfl | rfl
    · exact go [v0] [] (.inl ⟨rfl, rfl⟩)
    · exact go [] [(x, v0)] (.inr ⟨rfl, rfl⟩)
end
end
end Y

/-! Subscripts, displays of dicts, f-strings, calls of built-ins and methods. -/
namespace Y
open PySem PySem.Spec L2
section
variable {P : Pg} {call : Cf} {CX : CXT} {k : Nat} {sx : Sx} {G : Gd} {E : XK} {X : Cx} {EE : EK}
def tOs (G : Gd) (E : EK) (r : En → So → Res (Option Int)) : TO := fun σ H Q => ∃ I S e, Rel G H I S ∧ RS G H I e σ ∧ RE G E H I (fun o _ H' _ => Q o H') (r e S)
theorem po_Z {f : Expr → En → So → Res W} (hf : ∀ x, PE X x (tE G EE (f x))) : ∀ o : Option Expr, PO X o (tOs G EE fun e S => evO (fun x => f x e) o S)
  | none => ⟨fun pins s σ H Q J ⟨I, S, e, rl, rs, h⟩ => po_none.run pins s σ H Q J (RE.now (k := fun o _ H' _ => Q o H') h rl)⟩
  | some x => ⟨fun pins s σ H Q J ⟨I, S, e, rl, rs, h⟩ => by
      refine (po_some (hf x)).run pins s σ H Q J ?_
      refine tE.step rl rs h fun w S1 H1 I1 v k1 rl1 hv h1 => ?_
      cases w with
      | int i =>
        unfold RW at hv
        subst hv
        exact ⟨i, rfl, RE.now (k := fun o _ H' _ => Q o H') h1 rl1⟩
      | _ => exact False.elim h1⟩
theorem tOs.step {α : Type} {kk : AK α} {σ : L2.St} {H : Hp} {I : Ix} {S : So} {e : En} {r : En → So → Res (Option Int)} {f : Option Int → So → Res α} {Q : Option Int → Hp → Prop} (rl : Rel G H I S) (rs : RS G H I e σ) (h : RE G EE H I kk ((r e S).bind f))
    (c : ∀ w S' H' I', Keep H I H' I' → Rel G H' I' S' → RE G EE H' I' kk (f w S') → Q w H') : tOs G EE r σ H Q :=
  ⟨I, S, e, rl, rs, (RE.bind h).imp fun w S' H' I' k2 r2 q => c w S' H' I' k2 r2 q⟩
theorem se_slice (C : Cz P call CX k sx G E X) {m : Bool} {a : Expr} {lo hi : Option Expr} {p2 p : Pos} {ra : En → So → Res W} {f : Expr → En → So → Res W} (ha : PE X a (tE G EE ra)) (hf : ∀ x, PE X x (tE G EE (f x))) :
    PE X (.Subscript a (.Slice lo hi none p2) p) (tE G EE fun e S => (ra e S).bind fun u S1 => (evO (fun x => f x e) lo S1).bind fun l S2 => (evO (fun x => f x e) hi S2).bind fun h S3 => slice m u l h S3) := by
  refine (pe_slice (sl_Z (G := G) (E := EE) C.K m) ha (po_Z hf lo) (po_Z hf hi)).of fun σ H Q ⟨I, S, e, rl, rs, h⟩ => ?_
  refine tE.step rl rs h fun w S1 H1 I1 v k1 rl1 hv h1 => ?_
  refine tOs.step (S := S1) rl1 (rs.mono k1) h1 fun l S2 H2 I2 k2 rl2 h2 => ?_
  refine tOs.step (S := S2) rl2 ((rs.mono k1).mono k2) h2 fun hh S3 H3 I3 k3 rl3 h3 => ?_
  exact ⟨I3, S3, w, rl3, hv.mono (k2.trans k3), h3⟩
theorem plainIx {b : Expr} (h : isSlice b = false) : PlainIx b := by
  intro o i
  cases b <;> first | rfl | cases h
theorem se_item (C : Cz P call CX k sx G E X) {a b : Expr} {p : Pos} {ra rb : En → So → Res W} (ha : PE X a (tE G EE ra)) (hb : PE X b (tE G EE rb)) :
    PE X (.Subscript a b p) (tE G EE fun e S => if isSlice b = true then .bad else (ra e S).bind fun u S1 => (rb e S1).bind fun v S2 => ofO (item u v S2) S2) := by
  by_cases hs : isSlice b = true
  · exact PE.never fun σ H Q ⟨I, S, e, rl, rs, h⟩ => by simp only [hs, if_true] at h; exact h
  · simp only [hs, if_false]
    refine (pe_ix (ix_Z (G := G) C.K (by have := units200 C.room; omega)) ha hb (plainIx (by simpa using hs))).of fun σ H Q ⟨I, S, e, rl, rs, h⟩ => ?_
    refine tE.step rl rs h fun w S1 H1 I1 v k1 rl1 hv h1 => ?_
    refine tE.step (S := S1) rl1 (rs.mono k1) h1 fun z S2 H2 I2 u k2 rl2 hu h2 => ?_
    obtain ⟨y, e1, h2⟩ := RE.ofO h2
    exact ⟨I2, S2, w, z, y, rl2, hv.mono k2, hu, e1, fun t ht => kV_now h2 rl2 ht⟩

/-! ### displays of dicts -/
theorem se_dict0 {m : Bool} {p : Pos} : PE X (.Dict [] [] p) (tE G EE fun _ S => mkD m [] S) := by
  refine pe_dnewK.of fun σ H Q ⟨I, S, e, rl, rs, h⟩ p hp => ?_
  exact mk_dct rl .nil h p hp
/-- the pairs of a display -/
def RPs (G : Gd) (H : Hp) (I : Ix) : List (Kd × W) → List (V × V) → Prop
  | [], ps => ps = []
  | (q, w) :: r, ps => ∃ u v t, ps = (u, v) :: t ∧ (flatK q = true → ∃ p, kOf q = some p ∧ u = kV p) ∧ RW G H I w v ∧ RPs G H I r t
theorem RPs.mono {H H' : Hp} {I I' : Ix} (k : Keep H I H' I') : ∀ {ws : List (Kd × W)} {vs : List (V × V)}, RPs G H I ws vs → RPs G H' I' ws vs
  | [], _, h => h
  | (_, w) :: ws, _, ⟨u, v, q, e, e2, h1, h2⟩ => ⟨u, v, q, e, e2, h1.mono k, RPs.mono k h2⟩
theorem RPs.kvs {H : Hp} {I : Ix} : ∀ {ws : List (Kd × W)} {ps : List (V × V)}, (ws.all fun kv => flatK kv.1) = true → RPs G H I ws ps → ∃ kvs : List (Key × V), ps = kvs.map (fun kv => (kV kv.1, kv.2)) ∧ RKs G H I ws kvs
  | [], _, _, h => ⟨[], h, .nil⟩
  | (q, w) :: ws, _, f, ⟨u, v, t, e, e2, h1, h2⟩ => by
    rw [List.all_cons, Bool.and_eq_true] at f
    obtain ⟨kvs, e1, r⟩ := RPs.kvs f.2 h2
    obtain ⟨p, e3, e4⟩ := e2 f.1
    exact ⟨(p, v) :: kvs, by rw [e, e1, e4]; rfl, .cons e3 h1 r⟩
theorem RKs.merge {H : Hp} {I : Ix} : ∀ {ws acc : List (Kd × W)} {vs avs : List (Key × V)}, RKs G H I ws vs → RKs G H I acc avs → RKs G H I (ws.foldl (fun r kv => putW r kv.1 kv.2) acc) (mergeK avs vs)
  | [], _, _, _, h, a => by rw [h.inv0]; exact a
  | (q, w) :: ws, acc, _, avs, h, a => by
    obtain ⟨p, v, t, rfl, e, h1, h2⟩ := h.inv
    exact RKs.merge (acc := putW acc q w) (avs := putK avs p v) h2 (a.put e h1)
theorem pps_Z {f : Expr → En → So → Res W} (hf : ∀ x, PE X x (tE G EE (f x))) {pos : Pos} : ∀ (ks : List (Option Expr)) (vs : List Expr), ks.all (·.isSome) = true → ks.length = vs.length →
    ∃ trs, PPs X pos ks vs trs ∧ ∀ (σ : L2.St) (H : Hp) (I : Ix) (S : So) (e : En) (Q : List (V × V) → Hp → Prop) (kk : AK (List (Kd × W))), Rel G H I S → RS G H I e σ → RE G EE H I kk (evP (fun x => f x e) ks vs S) →
      (∀ kvs S' H' I' ps, Keep H I H' I' → Rel G H' I' S' → RPs G H' I' kvs ps → kk kvs S' H' I' → Q ps H') → tPairs trs σ H Q
  | [], [], _, _ => ⟨[], pps_nil, fun σ H I S e Q kk rl rs h c => c [] S H I [] (Keep.refl H I) rl rfl (RE.now h rl)⟩
  | some x :: ks, y :: vs, ha, hl => by
    obtain ⟨trs, p1, r1⟩ := pps_Z hf (pos := pos) ks vs ha (by simpa using hl)
    refine ⟨_, pps_cons (hf x) (hf y) p1, fun σ H I S e Q kk rl rs h c => ?_⟩
    refine tE.step rl rs h fun w S1 H1 I1 v k1 rl1 hv h1 => ?_
    refine tE.step (S := S1) rl1 (rs.mono k1) h1 fun z S2 H2 I2 u k2 rl2 hu h2 => ?_
    cases q : toK w with
    | none => rw [q] at h2; exact False.elim h2
    | some key =>
      rw [q] at h2
      refine r1 σ H2 I2 S2 e _ _ rl2 ((rs.mono k1).mono k2) (RE.bind h2) fun kvs S3 H3 I3 ps k3 rl3 hp h3 => ?_
      exact c ((key, z) :: kvs) S3 H3 I3 _ ((k1.trans k2).trans k3) rl3 ⟨v, u, ps, rfl, fun f => toK_flat (hv.mono (k2.trans k3)) q f, hu.mono k3, hp⟩ (RE.now h3 rl3)
  | none :: _, _ :: _, ha, _ => by cases ha
  | [], _ :: _, _, hl => by cases hl
  | _ :: _, [], _, hl => by cases hl
/-- the wish of an error stays the same where less is being built -/
theorem EK_unb {E : XK} {H : Hp} {I : Ix} {x : Er} {D : Addr} {B : List Addr} {u : HO} (hI : I.bd = D :: B) (h : H D = some u) (m : isM u = true) (q : EKof G E x H I.unb) : EKof G E x H I := by
  obtain ⟨C, e, q⟩ := q
  exact ⟨C, e, fun d vs hd r => q d vs hd (r.mv (Mv.unb hI h m fun _ _ => rfl))⟩
/-- what an answer is worth while D is being built -/
theorem RE.bld {α : Type} {E : XK} {H : Hp} {I : Ix} {S : So} {D : Addr} {u : HO} {kk : AK α} {r : Res α} (rl : Rel G H I S) (hD : H D = none) (m : isM u = true) (h : RE G (EKof G E) H I kk r) :
    RE G (EKof G E) (upd H D u) (I.bld D) (fun a S2 H2 I2 => ∀ H', (∀ b, b ≠ D → H' b = H2 b) → kk a S2 H' I2.unb) r := by
  cases r with
  | ok a S2 =>
    intro H2 I2 k2 r2 H' ho
    exact h H' _ (Keep.unb hD k2 ho) (r2.unb k2.bd (k2.here rl hD) m ho (by rw [k2.bz]; exact rl.apart hD))
  | exn x S2 =>
    intro H2 I2 k2 r2
    have hh := k2.here rl hD
    exact EK_unb (u := u) k2.bd hh m (h H2 _ (Keep.unb hD k2 fun _ _ => rfl) (r2.unb k2.bd hh m (fun _ _ => rfl) (by rw [k2.bz]; exact rl.apart hD)))
  | bad => exact h
/-- an answer's worth where what is being built is changed -/
theorem RE.chg {α : Type} {E : XK} {H : Hp} {I : Ix} {S : So} {D : Addr} {u u' : HO} {kk : AK α} {r : Res α} (rl : Rel G H I S) (hI : D ∈ I.bd) (h0 : H D = some u) (m : isM u = true) (m' : isM u' = true)
    (hK : ∀ a S H H' I, (∀ b, b ≠ D → H' b = H b) → kk a S H I → kk a S H' I) (h : RE G (EKof G E) H I kk r) (hE2 : ∀ C d H H', (∀ b, b ≠ D → H' b = H b) → E C d H → E C d H') : RE G (EKof G E) (upd H D u') I kk r := by
  have hD := (rl.bt D (.inr hI)).2
  cases r with
  | ok a S2 =>
    intro H2 I2 k2 r2
    have hh := (k2.kp D u' upd_same hD).1
    have hI2 : D ∈ I2.bd := by rw [k2.bd]; exact hI
    have r3 : Rel G (upd H2 D u) I2 S2 := r2.chg hI2 hh m' (fun b n => upd_ne n) (by rw [upd_same]; simp)
    exact hK _ _ _ _ _ (fun b n => (upd_ne n).symm) (h _ _ (Keep.chg hD h0 m k2) r3)
  | exn x S2 =>
    intro H2 I2 k2 r2
    have hh := (k2.kp D u' upd_same hD).1
    have hI2 : D ∈ I2.bd := by rw [k2.bd]; exact hI
    have r3 : Rel G (upd H2 D u) I2 S2 := r2.chg hI2 hh m' (fun b n => upd_ne n) (by rw [upd_same]; simp)
    obtain ⟨C, e, q⟩ := h _ _ (Keep.chg hD h0 m k2) r3
    refine ⟨C, e, fun d vs hd rf => ?_⟩
    have nd : d ≠ D := fun z => by subst z; rw [hh] at hd; cases hd; cases m'
    exact hE2 (.ref C) (some d) _ _ (fun b n => (upd_ne n).symm) (q d vs (by rw [upd_ne nd]; exact hd) (rf.mv (Mv.chg hI2 hh m' fun b n => upd_ne n)))
  | bad => exact h
theorem unb_bld {I : Ix} {D : Addr} : (I.bld D).unb = I := rfl
theorem se_dict {m : Bool} {f : Expr → En → So → Res W} (hf : ∀ x, PE X x (tE G (EKof G E) (f x))) {ks : List (Option Expr)} {vs : List Expr} {p : Pos} (ha : ks.all (·.isSome) = true) (hl : ks.length = vs.length) (h0 : ks ≠ []) (h15 : ks.length ≤ 15) :
    PE X (.Dict ks vs p) (tE G (EKof G E) fun e S => (evP (fun x => f x e) ks vs S).bind fun kvs S1 =>
        if kvs.length ≤ 15 ∧ (kvs.all fun kv => flatK kv.1) = true then mkD m (kvs.foldl (fun r kv => putW r kv.1 kv.2) []) S1 else .bad) := by
  obtain ⟨trs, p1, r1⟩ := pps_Z hf (pos := p) ks vs ha hl
  refine (pe_disp p1 ha hl h0 h15).of fun σ H Q ⟨I, S, e, rl, rs, h⟩ D hD => ?_
  have rl0 : Rel G (upd H D (.dK [])) (I.bld D) S := rl.bld hD
  have rs0 : RS G (upd H D (.dK [])) (I.bld D) e σ := rs.mv (Mv.bld hD)
  refine r1 σ _ _ _ e _ _ rl0 rs0 (RE.bld rl hD rfl (RE.bind h)) fun kvs S1 H1 I1 ps k1 rl1 hp h1 => ?_
  have hh := k1.here rl hD
  have h2 := h1 H1 (fun _ _ => rfl)
  split at h2
  · rename_i h15'
    have hp2 : RPs G H1 I1 kvs ps := hp
    obtain ⟨kv, e1, rk⟩ := hp2.kvs h15'.2
    refine ⟨hh, kv, e1, by rw [← rk.len]; exact h15'.1, ?_⟩
    have rk2 : RKs G H1 I1 (kvs.foldl (fun r kv => putW r kv.1 kv.2) []) (mergeK [] kv) := RKs.merge rk .nil
    have ho : ∀ b, b ≠ D → (del H1 D) b = H1 b := fun b n => del_ne n
    have h3 := h1 (del H1 D) ho
    rw [if_pos h15'] at h3
    have r3 : Rel G (del H1 D) I1.unb S1 := rl1.unb k1.bd hh rfl ho (by rw [k1.bz]; exact rl.apart hD)
    have q := mk_dct r3 (RKs.mv (Mv.unb k1.bd hh rfl ho) rk2) h3 D del_at
    rw [upd_del] at q
    exact q
  · exact False.elim h2
/-! ### f-strings -/
theorem se_part {x : Expr} {ra : En → So → Res W} {p : Pos} (hx : PE X x (tE G EE ra)) : PE X (.FormattedValue x (-1) none p) (tFmt (tE G EE ra)) := pe_fmt hx
theorem evJ_Z {f : Expr → En → So → Res W} (hf : ∀ x, PE X x (tE G EE (f x))) : ∀ es : List Expr, (∃ ts, PJ X es ts ∧ ∀ (acc : Str) (σ : L2.St) (H : Hp) (I : Ix) (S : So) (e : En) (Q : Str → Hp → Prop) (kk : AK Str), Rel G H I S → RS G H I e σ → RE G EE H I kk (evJ (fun x => f x e) es acc S) →
      (∀ out S' H' I', Keep H I H' I' → Rel G H' I' S' → kk out S' H' I' → Q out H') → tJs ts acc σ H Q) ∨ ∃ x, x ∈ es ∧ (∀ y j q, x ≠ .Constant (.str y) j q) ∧ ∀ y p, x ≠ .FormattedValue y (-1) none p
  | [] => .inl ⟨[], .nil, fun acc σ H I S e Q kk rl rs h c => c acc S H I (Keep.refl H I) rl (RE.now h rl)⟩
  | x :: es => by
    rcases evJ_Z hf es with ⟨ts, pj, ih⟩ | ⟨y, hy, hn⟩
    · by_cases h1 : ∃ y j q, x = .Constant (.str y) j q
      · obtain ⟨y, j, q, rfl⟩ := h1
        refine .inl ⟨_, .cons pe_str pj, fun acc σ H I S e Q kk rl rs h c => ?_⟩
        unfold evJ at h
        split at h
        · rename_i hl
          exact ⟨y, rfl, hl, ih _ σ H I S e Q kk rl rs h c⟩
        · exact False.elim h
      · by_cases h2 : ∃ y p, x = .FormattedValue y (-1) none p
        · obtain ⟨y, p, rfl⟩ := h2
          refine .inl ⟨_, .cons (pe_fmt (hf y)) pj, fun acc σ H I S e Q kk rl rs h c => ?_⟩
          unfold evJ at h
          refine tE.step rl rs h fun w S1 H1 I1 v k1 rl1 hv h3 => ?_
          cases w with
          | str z =>
            unfold RW at hv
            subst hv
            simp only at h3
            split at h3
            · rename_i hl
              refine .inl ⟨z, rfl, hl.1, z, rfl, hl.2, ih _ σ H1 I1 S1 e Q kk rl1 (rs.mono k1) h3 fun out S' H' I' k2 => c out S' H' I' (k1.trans k2)⟩
            · exact False.elim h3
          | _ => exact False.elim h3
        · exact .inr ⟨x, List.mem_cons_self, fun y j q z => h1 ⟨y, j, q, z⟩, fun y p z => h2 ⟨y, p, z⟩⟩
    · exact .inr ⟨y, List.mem_cons_of_mem _ hy, hn⟩
theorem se_joined {f : Expr → En → So → Res W} (hf : ∀ x, PE X x (tE G EE (f x))) {es : List Expr} {p : Pos} (ha : es.all partJ = true) (h2 : 2 ≤ es.length) :
    PE X (.JoinedStr es p) (tE G EE fun e S => (evJ (fun x => f x e) es Str.empty S).bind fun x S1 => .ok (.str x) S1) := by
  rcases evJ_Z hf es with ⟨ts, pj, ih⟩ | ⟨y, hy, n1, n2⟩
  · cases es with
    | nil => simp at h2
    | cons a r =>
      cases r with
      | nil => simp at h2
      | cons b r =>
        refine (pe_joined pj).of fun σ H Q ⟨I, S, e, rl, rs, h⟩ => ?_
        exact ih Str.empty σ H I S e _ _ rl rs (RE.bind h) fun out S' H' I' k1 rl1 h1 => kV_now (E := EE) (S := S') h1 rl1 (by unfold RW; rfl)
  · have q := List.all_eq_true.mp ha y hy
    unfold partJ at q
    split at q
    · exact absurd rfl (n1 _ _ _)
    · have := of_decide_eq_true q
      subst this
      exact absurd rfl (n2 _ _)
    · cases q

/-! ### calls of built-ins and methods -/
theorem builtin_nil (m : Bool) (f : Str) (S : So) : builtin m f [] S = .bad := by
  unfold builtin
  simp only [ite_self]
theorem tCB_Z {m : Bool} {es : List Expr} {rs' : En → So → Res (List W)} {f : Str} {σ : L2.St} {H : Hp} {Q : VK} (h : tE G EE (fun e S => (rs' e S).bind fun us S1 => builtin m f us S1) σ H Q) : tCB (rBi G EE m f) (tAs G EE rs') σ H Q := by
  obtain ⟨I, S, e, rl, rs, h⟩ := h
  exact tAs.step rl rs h fun ws S1 H1 I1 vs k1 rl1 hv h1 => ⟨I1, S1, ws, rl1, hv, h1⟩
theorem se_builtin (C : Cz P call CX k sx G E X) {m : Bool} {f : Str} {p pos : Pos} {es : List Expr} {rs' : En → So → Res (List W)} (hF : P.F f = none) (hb : f ∈ builtins) (hg : sx.sc.names.lookup f = some .globalImplicit) (ha : PA X es (tAs G EE rs')) (hst : es.all (fun e => !isStar e) = true)
    (hn : ∀ e S, es = [] → rs' e S = .ok [] S) : PE X (.Call (.Name f p) es [] pos) (tE G EE fun e S => (rs' e S).bind fun us S1 => builtinI P.isa m f us S1) := by
  cases es with
  | nil =>
    refine PE.never fun σ H Q ⟨I, S, e, rl, rs, h⟩ => ?_
    have e1 : builtinI P.isa m f [] S = builtin m f [] S := by
      unfold builtinI
      split <;> rfl
    simp only [hn e S rfl, Res.bind, e1, builtin_nil] at h
    exact h
  | cons x r =>
    have hst2 := hst
    rw [List.all_cons, Bool.and_eq_true] at hst2
    have hs1 := starE (es := r) (env := X.env) (e := x) (by simpa using hst2.1)
    have hs2 := plainS (pos := pos) (env := X.env) hst2.2
    · have hm : X.mg f = none := C.bi f (List.mem_cons_of_mem _ hb) hF
      have gl := C.gl hg
      have u1 : X.A.units + 200 < cLine := units200 C.room
      by_cases hii : f = "isinstance"
      · subst hii
        exact (pe_callB (bi_isiI (EE := EE) C m) gl hm (by decide +kernel) ha (by decide) (by decide) hs1 hs2).of fun σ H Q ⟨I, S, e, rl, rs, h⟩ => tAs.step rl rs h fun ws S1 H1 I1 v k1 rl1 hv h1 => ⟨I1, S1, ws, rl1, hv, h1⟩
      simp only [builtinI_of hii]
      unfold builtins at hb
      simp only [List.mem_cons, List.not_mem_nil, or_false] at hb
      rcases hb with rfl | rfl | rfl | rfl | rfl | rfl | rfl | rfl | rfl | rfl
      · exact (pe_callB (bi_len C.K m) gl hm PySem.boot_len ha (by decide) (by decide) hs1 hs2).of fun σ H Q h => tCB_Z (es := []) h
      · exact (pe_callTy (bi_int m) gl hm (by decide +kernel) ha (by decide) (by decide) hs1 hs2).of fun σ H Q h => tCB_Z (es := []) h
      · exact (pe_callB (bi_max C.calm m) gl hm (by decide +kernel) ha (by decide) (by decide) hs1 hs2).of fun σ H Q h => tCB_Z (es := []) h
      · exact (pe_callB (bi_min C.calm m) gl hm (by decide +kernel) ha (by decide) (by decide) hs1 hs2).of fun σ H Q h => tCB_Z (es := []) h
      · exact (pe_callTy (bi_tuple C.K m) gl hm (by decide +kernel) ha (by decide) (by decide) hs1 hs2).of fun σ H Q h => tCB_Z (es := []) h
      · exact (pe_callTy (bi_list C.K m) gl hm (by decide +kernel) ha (by decide) (by decide) hs1 hs2).of fun σ H Q h => tCB_Z (es := []) h
      · exact (pe_callB (bi_all C.K C.calm m) gl hm (by decide +kernel) ha (by decide) (by decide) hs1 hs2).of fun σ H Q h => tCB_Z (es := []) h
      · exact (pe_callB (bi_any C.K C.calm m) gl hm (by decide +kernel) ha (by decide) (by decide) hs1 hs2).of fun σ H Q h => tCB_Z (es := []) h
      · exact absurd rfl hii
      · exact (pe_callB (bi_repr C.K C.grd u1 C.sys m) gl hm (by decide +kernel) ha (by decide) (by decide) hs1 hs2).of fun σ H Q h => tCB_Z (es := []) h
end
end Y

/-! Methods, own calls. -/
namespace Y
open PySem PySem.Spec L2
section
variable {P : Pg} {call : Cf} {CX : CXT} {k : Nat} {sx : Sx} {G : Gd} {E : XK} {X : Cx} {EE : EK}
theorem base_ok {o : Expr} {m : Str} {env : Env} {whole : Sem Value} (h : isSuper o = false) : attributeBase o m env whole = whole := by
  unfold attributeBase
  split
  · cases h
  · rfl
theorem valTy_ok (hG : G.K = X.K) {H : Hp} {I : Ix} {S : So} {x : W} {v : V} {T : String} (r : Rel G H I S) (h : RW G H I x v) (e : valTy x S = some T) : tyV X.K T v H := by
  unfold valTy at e
  split at e
  · unfold RW at h; subst h; cases e; rfl
  · unfold RW at h; obtain ⟨a, vs, rfl, sq, _⟩ := h; cases e
    have q := sq.now
    rw [hG] at q
    exact .inl ⟨rfl, vs, q⟩
  · unfold RW at h; obtain ⟨a, rfl, hi⟩ := h
    split at e
    · rename_i hS
      obtain ⟨vs, q, _⟩ := r.obj _ _ _ hS hi
      cases e; exact .inl ⟨rfl, vs, .of q⟩
    · rename_i hS
      obtain ⟨vs, q, _⟩ := r.obj _ _ _ hS hi
      cases e; exact .inr (.inr (.inl ⟨rfl, .inl ⟨vs, q⟩⟩))
    · cases e
  · cases e
theorem few_ok {es : List Expr} {cp : Pos} {env : Env} (hst : es.all (fun e => !isStar e) = true) (hl : es.length < 20) :
    ((backTo cp (starEach es env)).all (fun x => !x.1) && (backToKw cp (keywordEach [] env)).all (fun x => x.1.isSome) && decide (es.length + ([] : List Keyword).length + (if ([] : List Keyword).isEmpty then 0 else 1) < 30)) = true := by
  have h1 : (backTo cp (starEach es env)).all (fun x => !x.1) = true := by
    have := plainS (pos := cp) (env := env) hst
    rw [List.any_eq_false] at this
    rw [List.all_eq_true]
    intro x hx
    have := this x hx
    simpa using this
  rw [h1]
  simp only [Bool.true_and, keywordEach, backToKw, List.map_nil, List.all_nil, List.length_nil, List.isEmpty_nil, if_true]
  exact decide_eq_true (by omega)
theorem tBM_Z (hG : G.K = X.K) {mu : Bool} {ra : En → So → Res W} {rs' : En → So → Res (List W)} {m : Str} {T : String} {σ : L2.St} {H : Hp} {Q : VK}
    (h : tE G EE (fun e S => (ra e S).bind fun u S1 => if valTy u S1 = some T then (rs' e S1).bind fun us S2 => method mu u m us S2 else .bad) σ H Q) : tBM X.K T (rMt G EE mu m) (tE G EE ra) (tAs G EE rs') σ H Q := by
  obtain ⟨I, S, e, rl, rs, h⟩ := h
  refine tE.step rl rs h fun w S1 H1 I1 v k1 rl1 hv h1 => ?_
  split at h1
  · rename_i hty
    refine ⟨valTy_ok hG rl1 hv hty, ?_⟩
    exact tAs.step (S := S1) rl1 (rs.mono k1) h1 fun ws S2 H2 I2 vs k2 rl2 hvs h2 => ⟨I2, S2, w, ws, rl2, hv.mono k2, hvs, h2⟩
  · exact False.elim h1
theorem se_meth (C : Cz P call CX k sx G E X) {mu : Bool} {o : Expr} {m : Str} {ap cp : Pos} {es : List Expr} {ra : En → So → Res W} {rs' : En → So → Res (List W)} (ho : PE X o (tE G EE ra)) (ha : PA X es (tAs G EE rs'))
    (hl : (ap.endLine == cp.line) = true) (hst : es.all (fun e => !isStar e) = true) (h1 : 1 ≤ es.length) (h20 : es.length < 20) (hs : isSuper o = false) {T : String} (hT : methTy m = some T) :
    PE X (.Call (.Attribute o m ap) es [] cp) (tE G EE fun e S => (ra e S).bind fun u S1 => if valTy u S1 = some T then (rs' e S1).bind fun us S2 => method mu u m us S2 else .bad) := by
  cases es with
  | nil => simp at h1
  | cons x r =>
    have hfew := few_ok (cp := cp) (env := X.env) hst h20
    rw [List.all_cons, Bool.and_eq_true] at hst
    have hs1 := starE (es := r) (env := X.env) (e := x) (by simpa using hst.1)
    have hs2 := plainS (pos := cp) (env := X.env) hst.2
    have hb := base_ok (m := m) (env := X.env) (whole := eval o X.env) hs
    by_cases m1 : m = "append"
    · subst m1
      cases hT
      exact (pe_bm PySem.F.plainAttrs_list PySem.F.slot_list_append PySem.F.type_list_append (mz_append mu) ho ha hb hfew hl hs1 hs2).of fun σ H Q h => tBM_Z C.K h
    · by_cases m2 : m = "join"
      · subst m2
        cases hT
        exact (pe_bm PySem.F.plainAttrs_str PySem.F.slot_str_join PySem.F.type_str_join (mz_join C.K mu) ho ha hb hfew hl hs1 hs2).of fun σ H Q h => tBM_Z C.K h
      · by_cases m3 : m = "split"
        · subst m3
          cases hT
          exact (pe_bm PySem.F.plainAttrs_str PySem.F.slot_str_split PySem.F.type_str_split (mz_split mu) ho ha hb hfew hl hs1 hs2).of fun σ H Q h => tBM_Z C.K h
        · by_cases m4 : m = "partition"
          · subst m4
            cases hT
            exact (pe_bm PySem.F.plainAttrs_str PySem.F.slot_str_partition PySem.F.type_str_partition (mz_partition mu) ho ha hb hfew hl hs1 hs2).of fun σ H Q h => tBM_Z C.K h
          · have hn : methTy m = none := by
              unfold methTy
              rw [if_neg m1, if_neg m2, if_neg m3, if_neg m4]
            rw [hn] at hT
            cases hT
/-- the call of a def of the program -/
def ownR (call : Cf) (f : Str) (fi : Fi) (ks : List (Option Str)) (us ws : List W) (S : So) : Res W := match argsOf fi us ks ws with
  | some vs => call f vs S
  | none => .bad
theorem sp_of {f : Str} {fi : Fi} {H : Hp} {I : Ix} {S : So} {ws : List W} {vs : List V} {Q : VK} (rl : Rel G H I S) (h : RWs G H I ws vs) (hl : ws.length = fi.ps.length) (q : RE G (EKof G E) H I (kV' G Q) (call f ws S)) : spZ G call f fi.ps.length vs H Q E :=
  ⟨I, S, ws, rl, h, hl, q⟩
theorem se_own (C : Cz P call CX k sx G E X) {f : Str} {fi : Fi} {p pos : Pos} {es : List Expr} {kws : List Keyword} {g : Expr → En → So → Res W} (hF : P.F f = some fi) (hok : okN f = true) (hg : sx.sc.names.lookup f = some .globalImplicit)
    (hf : ∀ x, PE X x (tE G (EKof G E) (g x))) (hs : ∀ x e S, isStar x = true → g x e S = .bad) (hpl : plainA es kws = true) :
    PE X (.Call (.Name f p) es kws pos) (tE G (EKof G E) fun e S => (evL (fun x => g x e) es S).bind fun us S1 => (evK (fun x => g x e) kws S1).bind fun ws S2 => ownR call f fi (kws.map (·.arg)) us ws S2) := by
  obtain ⟨fa, fd, cf, F⟩ := C.cal f fi hF
  unfold plainA at hpl
  rw [Bool.and_eq_true] at hpl
  obtain ⟨hst, hkw⟩ := hpl
  have ha := pa_Z hf hs es
  have hk := pk_Z hf kws
  have noK : ∀ {us : List W} {S : So} {H : Hp} {I : Ix} {vs : List V} {Q : VK}, Rel G H I S → RWs G H I us vs → RE G (EKof G E) H I (kV' G Q) (ownR call f fi [] us [] S) → vs.length = fi.ps.length ∧ spZ G call f fi.ps.length vs H Q E := fun {us S H I vs Q} rl hv h => by
    unfold ownR argsOf at h
    simp only [List.isEmpty_nil, if_true] at h
    by_cases hl : us.length = fi.ps.length
    · simp only [hl, if_true] at h
      exact ⟨by rw [← hv.len]; exact hl, sp_of rl hv hl h⟩
    · simp only [hl, if_false] at h
      exact False.elim h
  have wiK : ∀ {us ws : List W} {S : So} {H : Hp} {I : Ix} {vs zs : List V} {Q : VK} {kw : Keyword} {kr : List Keyword}, kws = kw :: kr → ws.length = kws.length → Rel G H I S → RWs G H I us vs → RWs G H I ws zs → RE G (EKof G E) H I (kV' G Q) (ownR call f fi (kws.map (·.arg)) us ws S) →
      (vs.length, (kws.map (·.arg)).filterMap id) ∈ fi.kws ∧ zs.length = ((kws.map (·.arg)).filterMap id).length ∧ spZ G call f fi.ps.length (ordK fi.ps ((kws.map (·.arg)).filterMap id) vs zs) H Q E := fun {us ws S H I vs zs Q kw kr} ek hwl rl hv hz h => by
    unfold ownR argsOf at h
    have he : (kws.map (·.arg)).isEmpty = false := by rw [ek]; rfl
    simp only [he, Bool.false_eq_true, if_false] at h
    split at h
    · rename_i q
      split at q
      · rename_i hm
        cases q
        have hfl : ((kws.map (·.arg)).filterMap id).length = kws.length := by
          have : ∀ l : List Keyword, (l.map (·.arg)).all (·.isSome) = true → ((l.map (·.arg)).filterMap id).length = l.length := by
            intro l
            induction l with
            | nil => intro _; rfl
            | cons a r ih =>
              intro ha
              simp only [List.map_cons, List.all_cons, Bool.and_eq_true] at ha
              obtain ⟨y, hy⟩ := Option.isSome_iff_exists.mp ha.1
              rw [List.map_cons, List.filterMap_cons, hy]
              show (_ :: _).length = _
              rw [List.length_cons, List.length_cons, ih ha.2]
          exact this kws hkw
        have hzl : zs.length = ((kws.map (·.arg)).filterMap id).length := by rw [hfl, ← hwl, hz.len]
        refine ⟨by rw [← hv.len]; exact hm.1, hzl, sp_of rl (.ofP (ord_pair hv.paired hz.paired)) ?_ h⟩
        obtain ⟨_, hb⟩ := cf.kws _ _ hm.1
        obtain ⟨h1, _⟩ := hb (us.map fun _ => Value.none) (ws.map fun _ => Value.none) (by simp) (by rw [List.length_map, hwl, hfl])
        have h2 : (ordK fi.ps ((kws.map (·.arg)).filterMap id) us ws).length = (ordK fi.ps ((kws.map (·.arg)).filterMap id) (us.map fun _ => Value.none) (ws.map fun _ => Value.none)).length := by
          have pr : ∀ l : List W, Paired (fun (_ : W) (_ : Value) => True) l (l.map fun _ => Value.none) := fun l => by
            induction l with
            | nil => exact .nil
            | cons a r ih => exact .cons True.intro ih
          exact Paired.length (ord_pair (R := fun (_ : W) (_ : Value) => True) (pr us) (pr ws))
        rw [h2]; exact h1
      · cases q
    · exact False.elim h
  have kLen : ∀ {e : En} {S S' : So} {ws : List W} {l : List Keyword}, evK (fun x => g x e) l S = .ok ws S' → ws.length = l.length := by
    intro e S S' ws l
    induction l generalizing S ws with
    | nil => intro h; unfold evK at h; cases h; rfl
    | cons a r ih =>
      intro h
      unfold evK at h
      cases q : g a.value e S with
      | ok w S1 =>
        simp only [q, Res.bind] at h
        cases q2 : evK (fun x => g x e) r S1 with
        | ok r' S2 => simp only [q2] at h; cases h; simp [ih q2]
        | exn _ _ => simp only [q2] at h; cases h
        | bad => simp only [q2] at h; cases h
      | exn _ _ => simp only [q, Res.bind] at h; cases h
      | bad => simp only [q, Res.bind] at h; cases h
  cases kws with
  | nil =>
    cases es with
    | nil =>
      refine (own0 C hok hg cf F).of fun σ H Q ⟨I, S, e, rl, rs, h⟩ => ?_
      exact noK (us := []) (vs := []) rl .nil h
    | cons x r =>
      refine (own1 C hok hg cf F ha hst).of fun σ H Q ⟨I, S, e, rl, rs, h⟩ => ?_
      exact tAs.step rl rs h fun us S1 H1 I1 vs k1 rl1 hv h1 => noK rl1 hv h1
  | cons kw kr =>
    have kstep : ∀ {σ : L2.St} {H : Hp} {I : Ix} {S : So} {e : En} {us : List W} {vs : List V} {Q : VK}, Rel G H I S → RS G H I e σ → RWs G H I us vs → RE G (EKof G E) H I (kV' G Q) ((evK (fun x => g x e) (kw :: kr) S).bind fun ws S2 => ownR call f fi ((kw :: kr).map (·.arg)) us ws S2) →
        tAs G (EKof G E) (fun e S => evK (fun x => g x e) (kw :: kr) S) σ H (fun zs H1 => (vs.length, ((kw :: kr).map (·.arg)).filterMap id) ∈ fi.kws ∧ zs.length = (((kw :: kr).map (·.arg)).filterMap id).length ∧ spZ G call f fi.ps.length (ordK fi.ps (((kw :: kr).map (·.arg)).filterMap id) vs zs) H1 Q E) := fun {σ H I S e us vs Q} rl rs hv h => by
      refine ⟨I, S, e, rl, rs, ?_⟩
      show RE G (EKof G E) H I _ (evK (fun x => g x e) (kw :: kr) S)
      cases q : evK (fun x => g x e) (kw :: kr) S with
      | bad => rw [q] at h; exact h
      | exn x S1 => rw [q] at h; exact h
      | ok ws S1 =>
        rw [q] at h
        exact fun H1 I1 k1 rl1 zs hz => wiK rfl (kLen q) rl1 (hv.mono k1) hz (RE.mono k1 h)
    cases es with
    | nil =>
      refine (own2 C hok hg cf F hk hkw).of fun σ H Q ⟨I, S, e, rl, rs, h⟩ => ?_
      exact kstep (us := []) (vs := []) rl rs .nil h
    | cons x r =>
      refine (own3 C hok hg cf F ha hst hk hkw).of fun σ H Q ⟨I, S, e, rl, rs, h⟩ => ?_
      exact tAs.step rl rs h fun us S1 H1 I1 vs k1 rl1 hv h1 => kstep rl1 (rs.mono k1) hv h1
end
end Y

/-! Walks, targets, comprehensions. -/
namespace Y
open PySem PySem.Spec L2
section
variable {P : Pg} {call : Cf} {CX : CXT} {k : Nat} {sx : Sx} {G : Gd} {E : XK} {X : Cx} {EE : EK}
/-- the layer's walk J does what ours does -/
def WkJ (G : Gd) (q : Wk) (J : It) (H : Hp) (I : Ix) : Prop := ∀ H2 I2 S2 j, Mv H I H2 I2 → Rel G H2 I2 S2 →
  (∀ w, q.at j S2 = some (some w) → J.go j H2 ∧ ∀ x H3, J.yld j H2 x H3 → Keep H2 I2 H3 I2 ∧ Rel G H3 I2 S2 ∧ RW G H3 I2 w x) ∧ (q.at j S2 = some none → J.stop j H2)
def kW (G : Gd) (R : It → Hp → Prop) : AK Wk := fun q _ H I => ∀ J, WkJ G q J H I → R J H
def tI (G : Gd) (EE : EK) (r : En → So → Res Wk) : TI := fun σ H R => ∃ I S e, Rel G H I S ∧ RS G H I e σ ∧ RE G EE H I (kW G R) (r e S)
theorem RWs.inv2 {H : Hp} {I : Ix} {ws : List W} {vs us : List V} (h : RWs G H I ws vs) (j : Nat) {w : W} (e : ws[j]? = some w) : ∃ v, vs[j]? = some v ∧ RW G H I w v := h.get e
theorem wk_tup (hG : G.K = X.K) {pins : List (Addr × Obj)} {σ : L2.St} {s : Shared} {H : Hp} {I : Ix} {a : Addr} {ws : List W} {vs : List V} (sq : SqT G.K H a vs) (z : RWs G H I ws vs)
    : WkJ G (.seq ws) (Itt X.K a) H I := by
  intro H2 I2 S2 j k2 rl2
  rw [hG] at sq
  have sq2 := k2.sqT sq
  have z2 := z.mv k2
  refine ⟨fun w e => ?_, fun e => ?_⟩
  · have e' : ws[j]? = some w := Option.some.inj e
    obtain ⟨v, e1, hv⟩ := z2.get e'
    refine ⟨⟨vs, v, sq2, e1⟩, fun x H3 ⟨e2, e3⟩ => ?_⟩
    subst e2
    have e4 := e3 vs sq2
    rw [e1] at e4; cases e4
    exact ⟨Keep.refl _ _, rl2, hv⟩
  · have e' : ws[j]? = none := Option.some.inj e
    have e1 := z2.getN e'
    exact ⟨vs, sq2, by rw [List.getElem?_eq_none_iff] at e1; exact e1⟩
theorem wk_fl (hG : G.K = X.K) {H : Hp} {I : Ix} {t : Bool} {a : Addr} {ws : List W} {vs : List V} (sq : FzL G.K H I t a vs) (z : RWs G H I ws vs) : WkJ G (.seq ws) (Itl X.K a) H I := by
  intro H2 I2 S2 j k2 rl2
  have sq2 := (k2.fzL sq).now
  rw [hG] at sq2
  have z2 := z.mv k2
  refine ⟨fun w e => ?_, fun e => ?_⟩
  · have e' : ws[j]? = some w := Option.some.inj e
    obtain ⟨v, e1, hv⟩ := z2.get e'
    refine ⟨⟨vs, v, sq2, e1⟩, fun x H3 ⟨e2, e3⟩ => ?_⟩
    subst e2
    have e4 := e3 vs sq2
    rw [e1] at e4; cases e4
    exact ⟨Keep.refl _ _, rl2, hv⟩
  · have e' : ws[j]? = none := Option.some.inj e
    have e1 := z2.getN e'
    exact ⟨vs, sq2, by rw [List.getElem?_eq_none_iff] at e1; exact e1⟩
theorem wk_live {H : Hp} {I : Ix} {a : Addr} {i n : Nat} (hi : I.st[i]? = some a) : WkJ G (.live i n) (Itl X.K a) H I := by
  intro H2 I2 S2 j k2 rl2
  have hi2 := pre_get k2.st hi
  refine ⟨fun w e => ?_, fun e => ?_⟩
  · unfold Wk.at at e
    simp only at e
    split at e
    · rename_i xs hS
      have e' : xs[j]? = some w := Option.some.inj e
      obtain ⟨vs, q, z⟩ := rl2.obj _ _ _ hS hi2
      obtain ⟨v, e1, hv⟩ := z.get e'
      refine ⟨⟨vs, v, .of q, e1⟩, fun x H3 ⟨e2, e3⟩ => ?_⟩
      subst e2
      have e4 := e3 vs (.of q)
      rw [e1] at e4; cases e4
      exact ⟨Keep.refl _ _, rl2, hv⟩
    · cases e
  · unfold Wk.at at e
    simp only at e
    split at e
    · rename_i xs hS
      have e' : xs[j]? = none := Option.some.inj e
      obtain ⟨vs, q, z⟩ := rl2.obj _ _ _ hS hi2
      have e1 := z.getN e'
      exact ⟨vs, .of q, by rw [List.getElem?_eq_none_iff] at e1; exact e1⟩
    · cases e
theorem wk_str {H : Hp} {I : Ix} (z : Str) : WkJ G (.seq (z.cps.toList.map fun c => W.str ⟨#[c]⟩)) (Its z) H I := by
  intro H2 I2 S2 j k2 rl2
  refine ⟨fun w e => ?_, fun e => ?_⟩
  · have e' := Option.some.inj e
    rw [List.getElem?_map] at e'
    obtain ⟨c, e1, e2⟩ := Option.map_eq_some_iff.mp e'
    rw [Array.getElem?_toList] at e1
    refine ⟨(Array.getElem?_eq_some_iff.mp e1).1, fun x H3 ⟨e3, c', e4, e5⟩ => ?_⟩
    subst e3 e5 e2
    rw [e1] at e4; cases e4
    exact ⟨Keep.refl _ _, rl2, by unfold RW; rfl⟩
  · have e' := Option.some.inj e
    rw [List.getElem?_map, Option.map_eq_none_iff, Array.getElem?_toList] at e'
    exact Array.getElem?_eq_none_iff.mp e'
theorem wk_range {H : Hp} {I : Ix} (lo : Int) (n : Nat) : WkJ G (.seq (rangeW lo n)) (Itr lo n) H I := by
  intro H2 I2 S2 j k2 rl2
  unfold rangeW
  refine ⟨fun w e => ?_, fun e => ?_⟩
  · have e' := Option.some.inj e
    rw [List.getElem?_map] at e'
    obtain ⟨c, e1, e2⟩ := Option.map_eq_some_iff.mp e'
    obtain ⟨hl, e3⟩ := List.getElem?_eq_some_iff.mp e1
    rw [List.getElem_range] at e3
    rw [List.length_range] at hl
    subst e3
    refine ⟨hl, fun x H3 ⟨e4, e5⟩ => ?_⟩
    subst e4 e5 e2
    exact ⟨Keep.refl _ _, rl2, by unfold RW; rfl⟩
  · have e' := Option.some.inj e
    rw [List.getElem?_map, Option.map_eq_none_iff, List.getElem?_eq_none_iff, List.length_range] at e'
    exact e'
theorem enumW_get : ∀ {ws : List W} (i j : Nat), (enumW i ws)[j]? = (ws[j]?).map fun w => W.tup [.int ((i + j : Nat) : Int), w]
  | [], i, j => by simp [enumW]
  | w :: ws, i, 0 => by simp [enumW]
  | w :: ws, i, j + 1 => by
    simp only [enumW, List.getElem?_cons_succ]
    rw [enumW_get (i + 1) j, show i + 1 + j = i + (j + 1) by omega]
theorem wk_enum (hG : G.K = X.K) {H : Hp} {I : Ix} {t : Bool} {a : Addr} {ws : List W} {vs : List V} (sq : FzL G.K H I t a vs) (z : RWs G H I ws vs) : WkJ G (.seq (enumW 0 ws)) (Ite X.K a) H I := by
  intro H2 I2 S2 j k2 rl2
  have sq2 := (k2.fzL sq).now
  rw [hG] at sq2
  have z2 := z.mv k2
  refine ⟨fun w e => ?_, fun e => ?_⟩
  · have e' : (enumW 0 ws)[j]? = some w := Option.some.inj e
    rw [enumW_get] at e'
    obtain ⟨y, e1, rfl⟩ := Option.map_eq_some_iff.mp e'
    obtain ⟨v, e2, hv⟩ := z2.get e1
    refine ⟨⟨vs, v, sq2, e2⟩, fun x H3 ⟨T, x', ex, hT, e3, e4⟩ => ?_⟩
    subst ex e3
    have e5 := e4 vs sq2
    rw [e2] at e5; cases e5
    have k3 : Keep H2 I2 (L2.upd H2 T (.tup [.int (j : Nat), v])) I2 := Keep.junk hT
    refine ⟨k3, rl2.junk hT, ?_⟩
    rw [RW]
    refine ⟨T, _, rfl, .inl (.inl upd_same), .cons ?_ (.cons (hv.mono k3) .nil)⟩
    rw [RW, Nat.zero_add]
  · have e' : (enumW 0 ws)[j]? = none := Option.some.inj e
    rw [enumW_get, Option.map_eq_none_iff] at e'
    have e1 := z2.getN e'
    exact ⟨vs, sq2, by rw [List.getElem?_eq_none_iff] at e1; exact e1⟩
theorem isEnum_ok {iter x : Expr} (h : isEnum iter = some x) : ∃ p pos, iter = .Call (.Name "enumerate" p) [x] [] pos ∧ isStar x = false := by
  unfold isEnum at h
  split at h
  · split at h
    · rename_i hc
      cases h
      obtain ⟨rfl, h1⟩ := hc
      exact ⟨_, _, rfl, h1⟩
    · cases h
  · cases h
theorem isTupE_ok {tg : Expr} (h : isTupE tg = true) : ∃ es k p, tg = .Tuple es k p := by
  cases tg <;> first | exact ⟨_, _, _, rfl⟩ | cases h
theorem fold_ok {iter : Expr} {env : Env} (h : isSet iter = false) (x : Value) : foldedSetIterable iter env x = pure x := by
  cases iter <;> first | rfl | cases h
theorem isRange_ok {iter : Expr} {es : List Expr} (h : isRange iter = some es) : ∃ p pos, iter = .Call (.Name "range" p) es [] pos ∧ es.all (fun e => !isStar e) = true ∧ (es.length = 1 ∨ es.length = 2) := by
  unfold isRange at h
  split at h
  · split at h
    · rename_i hc
      cases h
      obtain ⟨rfl, h1, h2⟩ := hc
      exact ⟨_, _, rfl, h1, h2⟩
    · cases h
  · cases h
theorem pi_Z (C : Cz P call CX k sx G E X) {tg : Expr} {f : Expr → En → So → Res W} (hf : ∀ x, PE X x (tE G EE (f x))) (hs : ∀ x e S, isStar x = true → f x e S = .bad) (iter : Expr) : PI X tg iter (tI G EE fun e S => walkE (rgOk P sx) tg (fun x => f x e) iter S) := by
  refine ⟨fun pins s σ H R J ⟨I, S, e, rl, rs, h⟩ => ?_⟩
  unfold walkE at h
  simp only at h
  split at h
  · exact False.elim h
  · rename_i hset
    split at h
    · rename_i x er
      obtain ⟨p, pos, rfl, hst⟩ := isEnum_ok er
      split at h
      · rename_i hrt
        obtain ⟨hrg, htg⟩ := hrt
        obtain ⟨elts, kk, tpos, rfl⟩ := isTupE_ok htg
        unfold rgOk at hrg
        rw [Bool.and_eq_true, Bool.and_eq_true] at hrg
        have hm := C.en (by
          have q := hrg.1.1
          rw [Bool.or_eq_true, decide_eq_true_iff] at q
          exact q.resolve_left (by decide))
        have hg := C.gl (of_decide_eq_true hrg.2)
        have ha := pa_Z hf hs [x]
        refine (pi_enum hg hm ha (by rw [starE hst]; rfl)).run pins s σ H R J ⟨I, S, e, rl, rs, ?_⟩
        show RE G EE H I _ ((f x e S).bind fun w S1 => (Res.ok [] S1).bind fun ws S2 => .ok (w :: ws) S2)
        cases q : f x e S with
        | bad => rw [q] at h; exact False.elim h
        | exn y S1 => rw [q] at h; exact h
        | ok u S1 =>
          rw [q] at h
          simp only [Res.bind] at h ⊢
          unfold enumV at h
          cases u with
          | fl tg' ws =>
            intro H1 I1 k1 rl1 vs hv
            obtain ⟨v, rfl, q⟩ := hv.one
            rw [RW] at q
            obtain ⟨a, zs, rfl, sq, z⟩ := q
            exact ⟨a, zs, rfl, by rw [← C.K]; exact sq.now, h H1 I1 k1 rl1 _ (wk_enum C.K sq z)⟩
          | _ => exact False.elim h
      · exact False.elim h
    split at h
    · rename_i es er
      obtain ⟨p, pos, rfl, hst, hl⟩ := isRange_ok er
      split at h
      · rename_i hrg
        unfold rgOk at hrg
        rw [Bool.and_eq_true, Bool.and_eq_true] at hrg
        have hF : P.F "range" = none := by simpa using hrg.1.2
        have hg := C.gl (of_decide_eq_true hrg.2)
        have hm := C.bi "range" List.mem_cons_self hF
        have ha := pa_Z hf hs es
        cases q : evL (fun x => f x e) es S with
        | bad => rw [q] at h; exact False.elim h
        | exn y S1 =>
          rw [q] at h
          cases es with
          | nil => rcases hl with h | h <;> simp at h
          | cons a r =>
            rw [List.all_cons, Bool.and_eq_true] at hst
            cases r with
            | nil => exact (pi_range1 hg hm ha (by rw [starE (by simpa using hst.1)]; rfl)).run pins s σ H R J ⟨I, S, e, rl, rs, by show RE G EE H I _ (evL (fun x => f x e) _ S); rw [q]; exact h⟩
            | cons b r =>
              rw [List.all_cons, Bool.and_eq_true] at hst
              cases r with
              | nil => exact (pi_range2 hg hm ha (by rw [starE (by simpa using hst.1), starE (by simpa using hst.2.1)]; rfl) (by rw [starE (by simpa using hst.2.1)]; rfl)).run pins s σ H R J ⟨I, S, e, rl, rs, by show RE G EE H I _ (evL (fun x => f x e) _ S); rw [q]; exact h⟩
              | cons c r => rcases hl with h | h <;> simp at h
        | ok us S1 =>
          rw [q] at h
          simp only [Res.bind] at h
          have hul := evL_len q
          cases es with
          | nil => rcases hl with h | h <;> simp at h
          | cons a r =>
            rw [List.all_cons, Bool.and_eq_true] at hst
            cases r with
            | nil =>
              refine (pi_range1 hg hm ha (by rw [starE (by simpa using hst.1)]; rfl)).run pins s σ H R J ⟨I, S, e, rl, rs, ?_⟩
              show RE G EE H I _ (evL (fun x => f x e) _ S)
              rw [q]
              intro H1 I1 k1 rl1 vs hv
              split at h
              · obtain ⟨v, rfl, q⟩ := hv.one
                unfold RW at q; subst q
                split at h
                · rename_i hb
                  exact ⟨_, rfl, hb.1, hb.2, h H1 I1 k1 rl1 _ (wk_range 0 _)⟩
                · exact False.elim h
              · simp at hul
              · exact False.elim h
            | cons b r =>
              rw [List.all_cons, Bool.and_eq_true] at hst
              cases r with
              | nil =>
                refine (pi_range2 hg hm ha (by rw [starE (by simpa using hst.1), starE (by simpa using hst.2.1)]; rfl) (by rw [starE (by simpa using hst.2.1)]; rfl)).run pins s σ H R J ⟨I, S, e, rl, rs, ?_⟩
                show RE G EE H I _ (evL (fun x => f x e) _ S)
                rw [q]
                intro H1 I1 k1 rl1 vs hv
                split at h
                · simp at hul
                · obtain ⟨v, u, rfl, q1, q2⟩ := hv.two
                  unfold RW at q1 q2; subst q1 q2
                  split at h
                  · rename_i hb
                    exact ⟨_, _, rfl, ⟨hb.1.1, hb.1.2, hb.2.1, hb.2.2⟩, h H1 I1 k1 rl1 _ (wk_range _ _)⟩
                  · exact False.elim h
                · exact False.elim h
              | cons c r => rcases hl with h | h <;> simp at h
      · exact False.elim h
    · cases q : f iter e S with
      | bad => rw [q] at h; exact False.elim h
      | exn x S1 =>
        rw [q] at h
        exact (pi_list (hf iter)).run pins s σ H R J ⟨I, S, e, rl, rs, by rw [q]; exact h⟩
      | ok u S1 =>
        rw [q] at h
        simp only [Res.bind] at h
        unfold walkV at h
        cases u with
        | tup ws =>
          refine (pi_tup (hf iter)).run pins s σ H R J ⟨I, S, e, rl, rs, ?_⟩
          rw [q]
          intro H1 I1 k1 rl1 v hv
          unfold RW at hv
          obtain ⟨a, vs, rfl, sq, z⟩ := hv
          exact ⟨a, rfl, ⟨vs, by rw [← C.K]; exact sq⟩, h H1 I1 k1 rl1 _ (wk_tup (pins := pins) (σ := σ) (s := s) C.K sq z)⟩
        | fl tg' ws =>
          refine (pi_list (hf iter)).run pins s σ H R J ⟨I, S, e, rl, rs, ?_⟩
          rw [q]
          intro H1 I1 k1 rl1 v hv
          unfold RW at hv
          obtain ⟨a, vs, rfl, sq, z⟩ := hv
          exact ⟨a, rfl, ⟨vs, by rw [← C.K]; exact sq.now⟩, h H1 I1 k1 rl1 _ (wk_fl C.K sq z)⟩
        | str z =>
          refine (pi_str (hf iter)).run pins s σ H R J ⟨I, S, e, rl, rs, ?_⟩
          rw [q]
          intro H1 I1 k1 rl1 v hv
          unfold RW at hv
          subst hv
          exact ⟨z, rfl, h H1 I1 k1 rl1 _ (wk_str z)⟩
        | ref i =>
          simp only at h
          split at h
          · rename_i xs hS
            refine (pi_list (hf iter)).run pins s σ H R J ⟨I, S, e, rl, rs, ?_⟩
            rw [q]
            intro H1 I1 k1 rl1 v hv
            unfold RW at hv
            obtain ⟨a, rfl, hi⟩ := hv
            obtain ⟨vs, q1, z⟩ := rl1.obj _ _ _ hS hi
            exact ⟨a, rfl, ⟨vs, .of q1⟩, h H1 I1 k1 rl1 _ (wk_live hi)⟩
          · exact False.elim h
        | _ => exact False.elim h

/-! ### targets -/
theorem loc_ok {sc : Scope} {x : Str} (h : sc.names.lookup x = some .local ∨ sc.names.lookup x = some .cell) : Loc sc x := h
/-- what a store leaves: the names' new values; other slots as they were -/
def gZ (G : Gd) (sx : Sx) (tg : Expr) : TG := fun v σ H Q => ∃ I S e w e2, Rel G H I S ∧ RS G H I e σ ∧ RW G H I w v ∧ asg sx e tg w = some e2 ∧
  ∀ σ', RS G H I e2 σ' → σ'.length = σ.length → (∀ i, i ∉ slotsT sx.N tg → σ'[i]? = σ[i]?) → Q σ' H
theorem asgN_ok {e e2 : En} {x : Str} {w : W} (h : asgN sx e x w = some e2) : ∃ i, idx sx.N x = some i ∧ e2 = e.set i (some w) ∧ (sx.sc.names.lookup x = some .local ∨ (sx.sc.names.lookup x = some .cell ∧ sx.fn x = true)) := by
  unfold asgN at h
  split at h
  · rename_i hl
    obtain ⟨i, e1, rfl⟩ := Option.map_eq_some_iff.mp h
    exact ⟨i, e1, rfl, .inl hl⟩
  · rename_i hl
    split at h
    · rename_i hf
      obtain ⟨i, e1, rfl⟩ := Option.map_eq_some_iff.mp h
      exact ⟨i, e1, rfl, .inr ⟨hl, hf⟩⟩
    · cases h
  · cases h
theorem pg_nameZ (C : Cz P call CX k sx G E X) {x : Str} {p : Pos} {i : Nat} (h1 : idx sx.N x = some i) (h2 : sx.sc.names.lookup x = some .local ∨ (sx.sc.names.lookup x = some .cell ∧ sx.fn x = true)) : PG X (.Name x p) (gName i) := by
  refine pg_name (by rw [C.hN]; exact C.nd) (by rw [C.hN]; exact idx_ok h1) (by rw [C.sc]; exact h2.elim .inl fun q => .inr q.1) ?_
  rcases h2 with q | q
  · exact .inr (by rw [C.sc]; exact q)
  · exact .inl (C.fn x q.2)
theorem set_other {σ : L2.St} {i j : Nat} {v : Option V} (h : j ≠ i) : (σ.set i v)[j]? = σ[j]? := List.getElem?_set_ne (Ne.symm h)
/-- several names, one after another -/
theorem pgs_Z (C : Cz P call CX k sx G E X) : ∀ (es : List Expr) (ws : List W) (e e2 : En), asgL sx es ws e = some e2 → ∃ t, PGs X es t ∧ ws.length = es.length ∧ ∀ (vs : List V) (σ : L2.St) (H : Hp) (I : Ix) (Q : L2.St → Hp → Prop), RS G H I e σ → RWs G H I ws vs →
    (∀ σ', RS G H I e2 σ' → σ'.length = σ.length → (∀ i, i ∉ slotsL sx.N es → σ'[i]? = σ[i]?) → Q σ' H) → t vs σ H Q
  | [], [], e, e2, h => by
    unfold asgL at h; cases h
    exact ⟨gNil, pgs_nil, rfl, fun vs σ H I Q rs z q => ⟨z.inv0, q σ rs rfl fun _ _ => rfl⟩⟩
  | x :: r, w :: ws, e, e2, h => by
    cases x with
    | Name x p =>
      unfold asgL at h
      obtain ⟨e1, h1, h2⟩ := Option.bind_eq_some_iff.mp h
      obtain ⟨i, hi, rfl, hk⟩ := asgN_ok h1
      obtain ⟨t, pt, hl, ht⟩ := pgs_Z C r ws _ e2 h2
      refine ⟨_, pgs_cons (pg_nameZ C hi hk) pt, by simp [hl], fun vs σ H I Q rs z q => ?_⟩
      obtain ⟨v, vr, rfl, hv, hz⟩ := z.inv
      refine ⟨v, vr, rfl, ht vr _ H I Q (rs.put hv i) hz fun σ' rs' hl' ho => q σ' rs' (by rw [hl']; simp) fun j hj => ?_⟩
      have hj' : j ∉ (idx sx.N x).toList ++ slotsL sx.N r := hj
      rw [hi] at hj'
      simp only [Option.toList_some, List.mem_append, List.mem_singleton, not_or] at hj'
      rw [ho j hj'.2, set_other hj'.1]
    | _ => simp [asgL] at h
  | [], _ :: _, _, _, h => by simp [asgL] at h
  | .Name _ _ :: _, [], _, _, h => by simp [asgL] at h
  | _ :: _, [], _, _, h => by simp [asgL] at h
theorem each_len {env : Env} : ∀ {es : List Expr}, (∀ x ∈ es, ∃ y p, x = .Name y p) → (assignEach es env).length = es.length ∧ (assignEach es env).findIdx? (·.1) = none
  | [], _ => ⟨rfl, rfl⟩
  | x :: es, h => by
    obtain ⟨y, p, rfl⟩ := h x List.mem_cons_self
    obtain ⟨a, b⟩ := each_len (es := es) (env := env) fun z hz => h z (List.mem_cons_of_mem _ hz)
    refine ⟨?_, ?_⟩
    · show ((false, assign (.Name y p) env) :: assignEach es env).length = _
      rw [List.length_cons, a]; rfl
    · show ((false, assign (.Name y p) env) :: assignEach es env).findIdx? (·.1) = none
      rw [List.findIdx?_cons, b]; rfl
theorem asgL_names : ∀ {es : List Expr} {ws : List W} {e e2 : En}, asgL sx es ws e = some e2 → ∀ x ∈ es, ∃ y p, x = .Name y p
  | [], _, _, _, _, x, hx => by cases hx
  | x :: r, [], e, e2, h, _, _ => by cases x <;> simp [asgL] at h
  | x :: r, w :: ws, e, e2, h, y, hy => by
    cases x with
    | Name x p =>
      unfold asgL at h
      obtain ⟨e1, h1, h2⟩ := Option.bind_eq_some_iff.mp h
      rcases List.mem_cons.mp hy with rfl | hy
      · exact ⟨x, p, rfl⟩
      · exact asgL_names h2 y hy
    | _ => simp [asgL] at h
theorem pg_Z (C : Cz P call CX k sx G E X) (tg : Expr) : PG X tg (gZ G sx tg) := by
  refine ⟨fun pins s σ H v u Q J rv ⟨I, S, e, w, e2, rl, rs, hw, ha, q⟩ => ?_⟩
  cases tg with
  | Name x p =>
    obtain ⟨i, hi, rfl, hk⟩ := asgN_ok ha
    refine (pg_nameZ C hi hk).run pins s σ H v u Q J rv (q _ (rs.put hw i) (by simp) fun j hj => set_other ?_)
    have hj' : j ∉ (idx sx.N x).toList := hj
    rw [hi] at hj'
    simpa using hj'
  | Tuple es kk p =>
    unfold asg at ha
    simp only at ha
    split at ha
    · rename_i ws
      obtain ⟨t, pt, hl, ht⟩ := pgs_Z C es ws e e2 ha
      obtain ⟨l1, l2⟩ := each_len (env := X.env) (asgL_names ha)
      unfold RW at hw
      obtain ⟨a, vs, rfl, sq, z⟩ := hw
      rw [C.K] at sq
      exact (pg_tup C.calm pt l1 l2).run pins s σ H _ u Q J rv ⟨a, vs, rfl, sq, by rw [← z.len]; exact hl, ht vs σ H I Q rs z q⟩
    · cases ha
  | _ => cases ha
end
end Y

/-! Comprehensions; every expression. -/
namespace Y
open PySem PySem.Spec L2
theorem RE.noX {α : Type} {G : Gd} {E E' : EK} {H : Hp} {I : Ix} {k : AK α} {r : Res α} (h : RE G E H I k (noX r)) : RE G E' H I k r := by
  cases r with
  | ok a S => exact h
  | exn x S => exact False.elim h
  | bad => exact h
/-- forgotten slots: two lists that differ in them alone are the same behind -/
theorem wipe_at {σ : L2.St} {i : Nat} : ∀ {vs : List Nat}, i ∈ vs → i < σ.length → (wipe σ vs)[i]? = some none
  | v :: vs, h, hl => by
    unfold wipe
    by_cases e : v = i
    · subst e
      exact List.getElem?_set_self (by rw [wipe_length]; exact hl)
    · rw [List.getElem?_set_ne e]
      exact wipe_at ((List.mem_cons.mp h).resolve_left fun q => e q.symm) hl
theorem wipe_eq {σ σ2 : L2.St} {vs : List Nat} (hl : σ2.length = σ.length) (h : ∀ i, i ∉ vs → σ2[i]? = (wipe σ vs)[i]?) : wipe σ2 vs = wipe σ vs := by
  apply List.ext_getElem?
  intro i
  by_cases hi : i ∈ vs
  · by_cases hlt : i < σ.length
    · rw [wipe_at hi hlt, wipe_at hi (by rw [hl]; exact hlt)]
    · rw [List.getElem?_eq_none (by rw [wipe_length]; omega), List.getElem?_eq_none (by rw [wipe_length]; omega)]
  · rw [wipe_out hi, h i hi]
section
variable {P : Pg} {call : Cf} {CX : CXT} {k : Nat} {sx : Sx} {G : Gd} {E : XK} {X : Cx} {EE : EK}
abbrev E0' : XK := fun _ _ _ => False
/-- the context of a comprehension's block -/
def sxB (sx : Sx) (scope : Scope) : Sx := ⟨sx.N, relS scope sx.sc, fun x => scope.names.lookup x == some .cell⟩
theorem Cz.blk (C : Cz P call CX k sx G E X) {scope : Scope} (hk : scope.kind = .function) (s : Shared) (H : Hp) (D : Addr) (cl : List (Str × Addr)) (fp : List Addr) :
    Cz P call CX k (sxB sx scope) G E0' (X.blk s H scope (compEnvC scope cl D X.env) fp) where
  hN := C.hN
  nd := C.nd
  sc := by
    show relS scope X.env.scope = relS scope sx.sc
    rw [C.sc]
  kind := hk
  K := C.K
  mg := C.mg
  calm := C.calm
  room := C.room
  grd := C.grd
  sys := C.sys
  fn := fun x h => h
  glb := C.glb
  bi := C.bi
  en := C.en
  er := C.er
  isa := C.isa
  cal := C.cal
  px := fun pins σ H' s' e t J h => C.p0 _ _ _ _ _ h
  p0 := C.p0
theorem pts_Z {f : Expr → En → So → Res W} {Y : Cx} (hf : ∀ x, PT Y x (tT G EE (tst (f x)))) : ∀ ifs : List Expr, ifs.length ≤ 1 → PTs Y ifs (tT G EE fun e S => ifsE (fun x => f x e) ifs S)
  | [], _ => ⟨fun pins s σ H Q J ⟨I, S, e, rl, rs, h⟩ => pts_nil.run pins s σ H Q J (RE.now (k := kB Q) h rl)⟩
  | [c], _ => ⟨fun pins s σ H Q J q => (pts_one (hf c)).run pins s σ H Q J q⟩
  | _ :: _ :: _, h => by simp at h
theorem lcTurn_eq {f : En → Expr → So → Res W} {sx : Sx} {e : En} {tg : Expr} {ifs : List Expr} {elt : Expr} {w : W} {acc : List W} {S : So} : lcTurn f sx e tg ifs elt w acc S = (match asg sx e tg w with
  | none => .bad
  | some e2 => (ifsE (f e2) ifs S).bind fun b S3 => if b then (f e2 elt S3).bind fun y S4 => if acc.length < sizeLine then .ok (acc ++ [y], true) S4 else .bad
    else .ok (acc, true) S3) := rfl
abbrev compR (P : Pg) (sx : Sx) (f : Sx → En → Expr → So → Res W) (m : Bool) (elt tg iter : Expr) (ifs : List Expr) (scope : Scope) : En → So → Res W := fun e S => (walkE (rgOk P sx) tg (f sx e) iter S).bind fun q S1 =>
      (noX (turns q (lcTurn (f (sxB sx scope)) (sxB sx scope) (wipeW e ((ownOf sx.N scope).map (·.2))) tg ifs elt) q.len 0 [] S1)).bind fun acc S6 => mk m acc S6
abbrev compT (P : Pg) (sx : Sx) (G : Gd) (E : XK) (f : Sx → En → Expr → So → Res W) (elt tg iter : Expr) (ifs : List Expr) (scope : Scope) : TE :=
  tLc (tI G (EKof G E) fun e S => walkE (rgOk P sx) tg (fun x => f sx e x) iter S) (gZ G (sxB sx scope) tg) (tT G (EKof G E0') fun e S => ifsE (fun x => f (sxB sx scope) e x) ifs S) (tE G (EKof G E0') fun e S => f (sxB sx scope) e elt S) ((ownOf sx.N scope).map (·.2))
/-- what is wished behind the list's last turn -/
abbrev kLc (G : Gd) (E : XK) (Q : VK) (m : Bool) (D : Addr) : AK (List W) := fun acc S6 H6 I6 => ∀ H', (∀ b, b ≠ D → H' b = H6 b) → RE G (EKof G E) H' I6.unb (kV' G Q) (mk m acc S6)
theorem kLc_ok {G : Gd} {E : XK} {Q : VK} {m : Bool} {D : Addr} {a : List W} {S : So} {H H' : Hp} {I : Ix} (o : ∀ b, b ≠ D → H' b = H b) (h : kLc G E Q m D a S H I) : kLc G E Q m D a S H' I :=
  fun H2 o2 => h H2 fun b n => (o2 b n).trans (o b n)
theorem upd_id {H : Hp} {D : Addr} {u : HO} (h : H D = some u) : upd H D u = H := by
  funext b
  unfold upd
  split
  · rename_i e; rw [e, h]
  · rfl
theorem lc_Z {f : Sx → En → Expr → So → Res W} {m : Bool} {elt tg iter : Expr} {ifs : List Expr} {scope : Scope} (ho : ((slotsT sx.N tg).all fun i => ((ownOf sx.N scope).map (·.2)).contains i) = true) :
    ∀ (σ : L2.St) (H : Hp) (Q : VK), tE G (EKof G E) (compR P sx f m elt tg iter ifs scope) σ H Q → compT P sx G E f elt tg iter ifs scope σ H Q := by
  rintro σ H Q ⟨I, S, e, rl, rs, h⟩
  refine ⟨I, S, e, rl, rs, (RE.bind h).imp fun q S1 H1 I1 k1 rl1 h1 J hJ D hD => ?_⟩
  -- the new list
  have rl2 : Rel G (upd H1 D (.lst [])) (I1.bld D) S1 := rl1.bld hD
  have rs1 := rs.mono k1
  have ap := rl1.apart hD
  have h2 : RE G (EKof G E0') (upd H1 D (.lst [])) (I1.bld D) (kLc G E Q m D) (turns q (lcTurn (f (sxB sx scope)) (sxB sx scope) (wipeW e ((ownOf sx.N scope).map (·.2))) tg ifs elt) q.len 0 [] S1) :=
    RE.bld rl1 hD rfl (RE.noX (E' := EKof G E0') (RE.bind h1))
  refine ⟨fun j m' Hj => ∃ Ij Sj acc vs, Rel G Hj Ij Sj ∧ Mv H1 I1 Hj Ij ∧ Ij.bd = D :: I1.bd ∧ Ij.bz = I1.bz ∧ Hj D = some (.lst vs) ∧ RWs G Hj Ij acc vs ∧ RE G (EKof G E0') Hj Ij (kLc G E Q m D) (turns q (lcTurn (f (sxB sx scope)) (sxB sx scope) (wipeW e ((ownOf sx.N scope).map (·.2))) tg ifs elt) m' j acc Sj), ⟨q.len, _, _, [], [], rl2, Mv.bld hD, rfl, rfl, upd_same, .nil, h2⟩, ?_⟩
  rintro j m' Hj ⟨Ij, Sj, acc, vs, rlj, kj, bdj, bzj, hDj, zj, hj⟩
  have inD : D ∈ Ij.bd := by rw [bdj]; exact List.mem_cons_self
  have outD := (rlj.bt D (.inr inD)).2
  obtain ⟨w1, w2⟩ := hJ Hj Ij Sj j kj rlj
  unfold turns at hj
  cases qa : q.at j Sj with
  | none => rw [qa] at hj; exact False.elim hj
  | some o =>
    rw [qa] at hj
    cases o with
    | none =>
      have h3 := RE.now (k := kLc G E Q m D) hj rlj (del Hj D) fun b n => del_ne n
      have r3 : Rel G (del Hj D) Ij.unb Sj := rlj.unb bdj hDj rfl (fun b n => del_ne n) (by rw [bzj]; exact ap)
      have q3 := mk_lst r3 (zj.mv (Mv.unb bdj hDj rfl fun b n => del_ne n)) h3 D del_at
      rw [upd_del, upd_id hDj] at q3
      exact .inl ⟨w2 qa, q3⟩
    | some w =>
      cases m' with
      | zero => exact False.elim hj
      | succ m' =>
        simp only at hj
        obtain ⟨jg, jy⟩ := w1 w qa
        refine .inr ⟨jg, fun H' => ∃ I' S' acc' vs', Rel G H' I' S' ∧ Mv H1 I1 H' I' ∧ I'.bd = D :: I1.bd ∧ I'.bz = I1.bz ∧ H' D = some (.lst vs') ∧ RWs G H' I' acc' vs' ∧ RE G (EKof G E0') H' I' (kLc G E Q m D) (turns q (lcTurn (f (sxB sx scope)) (sxB sx scope) (wipeW e ((ownOf sx.N scope).map (·.2))) tg ifs elt) m' (j + 1) acc' S'),
          fun H' nx => ⟨m', Nat.lt_succ_self m', nx⟩, fun x H3 hy => ?_⟩
        obtain ⟨k3, rl3, hw3⟩ := jy x H3 hy
        have hj3 := hj.mono k3
        have hD3 := (k3.kp D _ hDj outD).1
        rw [lcTurn_eq] at hj3
        cases ea : asg (sxB sx scope) (wipeW e ((ownOf sx.N scope).map (·.2))) tg w with
        | none => rw [ea] at hj3; exact False.elim hj3
        | some e2 =>
          rw [ea] at hj3
          simp only at hj3
          have m3 := kj.trans k3.mv
          have rs3 : RS G H3 Ij (wipeW e ((ownOf sx.N scope).map (·.2))) (wipe σ ((ownOf sx.N scope).map (·.2))) := (rs1.mv m3).wipe _
          refine ⟨Ij, Sj, _, w, e2, rl3, rs3, hw3, ea, fun σ2 rs4 hl4 ho4 => ?_⟩
          refine ⟨wipe_eq (by rw [hl4, wipe_length]) fun i hi => ho4 i fun hm => ?_, ?_⟩
          · have := List.all_eq_true.mp ho i hm
            exact hi (List.contains_iff_mem.mp this)
          · refine ⟨Ij, Sj, e2, rl3, rs4, (RE.bind (RE.bind hj3)).imp fun b S4 H4 I4 k4 rl4 h4 => ?_⟩
            cases b with
            | false =>
              unfold kB
              simp only [Bool.false_eq_true, if_false] at h4 ⊢
              exact ⟨I4, S4, acc, vs, rl4, m3.trans k4.mv, k4.bd.trans bdj, k4.bz.trans bzj, (k4.kp D _ hD3 outD).1, (zj.mono k3).mono k4, RE.now h4 rl4⟩
            | true =>
              unfold kB
              simp only [if_true] at h4 ⊢
              have hD4 := k4.kp D _ hD3 outD
              refine ⟨I4, S4, e2, rl4, rs4.mono k4, (RE.bind h4).imp fun y S5 H5 I5 k5 rl5 h5 v hv => ?_⟩
              have hD5 := k5.kp D _ hD4.1 hD4.2
              have in5 : D ∈ I5.bd := by rw [k5.bd, k4.bd]; exact inD
              have z5 := ((zj.mono k3).mono k4).mono k5
              split at h5
              · rename_i hlt
                have mc := Mv.chg (H' := upd H5 D (.lst (vs ++ [v]))) in5 hD5.1 rfl fun b n => upd_ne n
                refine ⟨vs, hD5.1, by rw [← z5.len]; exact hlt, I5, S5, acc ++ [y], vs ++ [v], rl5.chg in5 hD5.1 rfl (fun b n => upd_ne n) (by rw [upd_same]; simp), ((m3.trans k4.mv).trans k5.mv).trans mc, (k5.bd.trans k4.bd).trans bdj, (k5.bz.trans k4.bz).trans bzj, upd_same, (z5.append (.cons hv .nil)).mv mc, ?_⟩
                have h6 : RE G (EKof G E0') H5 I5 (kLc G E Q m D) (turns q (lcTurn (f (sxB sx scope)) (sxB sx scope) (wipeW e ((ownOf sx.N scope).map (·.2))) tg ifs elt) m' (j + 1) (acc ++ [y]) S5) := RE.now h5 rl5
                exact RE.chg rl5 in5 hD5.1 rfl rfl (fun a S H H' I o h => kLc_ok o h) h6 fun _ _ _ _ _ q => q
              · exact False.elim h5
theorem se_comp (C : Cz P call CX k sx G E X) {f : Sx → En → Expr → So → Res W}
    (hE : ∀ sx E X, Cz P call CX k sx G E X → ∀ x, PE X x (tE G (EKof G E) fun e => f sx e x))
    (hT : ∀ sx E X, Cz P call CX k sx G E X → ∀ x, PT X x (tT G (EKof G E) (tst fun e => f sx e x)))
    (hs : ∀ sx x e S, isStar x = true → f sx e x S = .bad) {m : Bool} {elt tg iter : Expr} {ifs : List Expr} {scope : Scope} {pos : Pos}
    (hb : blkC sx.N sx.sc scope (ownOf sx.N scope) = true) (ho : ((slotsT sx.N tg).all fun i => ((ownOf sx.N scope).map (·.2)).contains i) = true) (hi1 : ifs.length ≤ 1) (hset : isSet iter = false) :
    PE X (.ListComp elt [⟨tg, iter, ifs, 0⟩] scope pos) (tE G (EKof G E) (compR P sx f m elt tg iter ifs scope)) := by
  have ok := blkOk_by hb
  have hw := pi_Z (tg := tg) C (hE sx E X C) (fun x e S h => hs sx x e S h) iter
  have ok' : BlkOk X.N X.env.scope scope (ownOf sx.N scope) := by rw [C.hN, C.sc]; exact ok
  exact (pe_lc (own := ownOf sx.N scope) C.calm (by rw [C.hN]; exact C.nd) hw ok' (fun s H D cl fp => pg_Z (C.blk ok.kind s H D cl fp) tg) (fun s H D cl fp => pts_Z (hT _ _ _ (C.blk ok.kind s H D cl fp)) ifs hi1) (fun s H D cl fp => hE _ _ _ (C.blk ok.kind s H D cl fp) elt) (fold_ok hset)).of (lc_Z ho)
/-- name = [..] where the list's name is stored ahead of the block's end -/
theorem ss_comp (C : Cz P call CX k sx G E X) {f : Sx → En → Expr → So → Res W}
    (hE : ∀ sx E X, Cz P call CX k sx G E X → ∀ x, PE X x (tE G (EKof G E) fun e => f sx e x))
    (hT : ∀ sx E X, Cz P call CX k sx G E X → ∀ x, PT X x (tT G (EKof G E) (tst fun e => f sx e x)))
    (hs : ∀ sx x e S, isStar x = true → f sx e x S = .bad) {m : Bool} {elt tg iter : Expr} {ifs : List Expr} {scope : Scope} {pos py spos : Pos} {y : Str} {i : Nat}
    (hb : blkC sx.N sx.sc scope (ownOf sx.N scope) = true) (hi1 : ifs.length ≤ 1) (hset : isSet iter = false) (hy : idx sx.N y = some i) (hyl : sx.sc.names.lookup y = some .local)
    (hsw : swapsWith (.ListComp elt [⟨tg, iter, ifs, 0⟩] scope pos) (some (.Name y py)) spos.line X.env = pure true) :
    PS X (.Assign [.Name y py] (.ListComp elt [⟨tg, iter, ifs, 0⟩] scope pos) spos) (tAsg (compT P sx G E f elt tg iter ifs scope) (gName i)) := by
  have ok := blkOk_by hb
  have hw := pi_Z (tg := tg) C (hE sx E X C) (fun x e S h => hs sx x e S h) iter
  have ok' : BlkOk X.N X.env.scope scope (ownOf sx.N scope) := by rw [C.hN, C.sc]; exact ok
  exact ps_setLc (own := ownOf sx.N scope) C.calm (by rw [C.hN]; exact C.nd) (by rw [C.hN]; exact idx_ok hy) (by rw [C.sc]; exact hyl) hsw hw ok' (fun s H D cl fp => pg_Z (C.blk ok.kind s H D cl fp) tg) (fun s H D cl fp => pts_Z (hT _ _ _ (C.blk ok.kind s H D cl fp)) ifs hi1) (fun s H D cl fp => hE _ _ _ (C.blk ok.kind s H D cl fp) elt) (fold_ok hset)
end
end Y

/-! Every expression. -/
namespace Y
open PySem PySem.Spec L2
section
variable {P : Pg} {call : Cf} {CX : CXT} {k : Nat} {G : Gd}
def SE (P : Pg) (call : Cf) (CX : CXT) (k : Nat) (G : Gd) (d : Nat) : Prop := ∀ (sx : Sx) (E : XK) (X : Cx), Cz P call CX k sx G E X → ∀ x, PE X x (tE G (EKof G E) fun e S => evalE P call d sx e x S)
def ST (P : Pg) (call : Cf) (CX : CXT) (k : Nat) (G : Gd) (d : Nat) : Prop := ∀ (sx : Sx) (E : XK) (X : Cx), Cz P call CX k sx G E X → ∀ x, PT X x (tT G (EKof G E) (tst fun e S => evalE P call d sx e x S))
theorem star_bad {d : Nat} {sx : Sx} {e : En} {x : Expr} {S : So} (h : isStar x = true) : evalE P call d sx e x S = .bad := by
  cases x <;> first | (cases d <;> rfl) | cases h
theorem se_bad {X : Cx} {x : Expr} {EE : EK} {r : En → So → Res W} (h : ∀ e S, r e S = .bad) : PE X x (tE G EE r) := PE.never fun σ H Q ⟨I, S, e, rl, rs, q⟩ => by rw [h] at q; exact q
theorem se_of {X : Cx} {x : Expr} {EE : EK} {r r' : En → So → Res W} (h : PE X x (tE G EE r)) (q : ∀ e S, r' e S = r e S) : PE X x (tE G EE r') := by
  have : r' = r := funext fun e => funext fun S => q e S
  rw [this]; exact h
theorem se_succ {d : Nat} (hE : SE P call CX k G d) (hT : ST P call CX k G d) : SE P call CX k G (d + 1) := by
  intro sx E X C x
  have hf := hE sx E X C
  have sb : ∀ x e S, isStar x = true → evalE P call d sx e x S = .bad := fun x e S h => star_bad h
  cases x with
  | Constant c j p => exact se_const c j p
  | Name n p => exact se_name C n p
  | BinOp a op b p => exact se_bin C (hf a) (hf b)
  | UnaryOp op a p =>
    cases op with
    | Not => exact se_not C.K (hf a)
    | USub => exact se_neg (hf a)
    | _ => exact se_bad fun e S => rfl
  | BoolOp op vs p => exact se_bool (f := fun x e S => evalE P call d sx e x S) C.K hf vs
  | Compare a ops cs p =>
    cases ops with
    | nil => exact se_bad fun e S => by cases cs <;> rfl
    | cons op r =>
      cases r with
      | nil =>
        cases cs with
        | nil => exact se_bad fun e S => rfl
        | cons b t =>
          cases t with
          | nil => exact se_cmp C (hf a) (hf b)
          | cons c t => exact se_bad fun e S => rfl
      | cons op' r =>
        cases r with
        | nil =>
          cases cs with
          | nil => exact se_bad fun e S => rfl
          | cons b t =>
            cases t with
            | nil => exact se_bad fun e S => rfl
            | cons c t =>
              cases t with
              | nil => exact se_cmp2 C (hf a) (hf b) (hf c)
              | cons _ _ => exact se_bad fun e S => rfl
        | cons _ _ => exact se_bad fun e S => by cases cs with | nil => rfl | cons _ t => (cases t with | nil => rfl | cons _ t => (cases t <;> rfl))
  | IfExp c a b p => exact se_if (rc := fun e S => evalE P call d sx e c S) (hT sx E X C c) (hf a) (hf b)
  | Tuple es j p => exact se_tup (pa_Z (f := fun x e S => evalE P call d sx e x S) hf sb es)
  | List es p => exact se_lst (pa_Z (f := fun x e S => evalE P call d sx e x S) hf sb es)
  | Dict ks vs p =>
    by_cases h0 : ks = []
    · subst h0
      cases vs with
      | nil => exact se_dict0
      | cons v r => exact se_bad fun e S => rfl
    · have hd : ∀ e S, evalE P call (d + 1) sx e (.Dict ks vs p) S = (if (ks.all (·.isSome) = true ∧ ks.length = vs.length) ∧ ks.length ≤ 15 then (evP (evalE P call d sx e) ks vs S).bind fun kvs S1 =>
        if kvs.length ≤ 15 ∧ (kvs.all fun kv => flatK kv.1) = true then mkD (P.mu p) (kvs.foldl (fun r kv => putW r kv.1 kv.2) []) S1 else .bad
      else .bad) := fun e S => by
        cases ks with
        | nil => exact absurd rfl h0
        | cons a r => rfl
      by_cases h : (ks.all (·.isSome) = true ∧ ks.length = vs.length) ∧ ks.length ≤ 15
      · refine se_of (se_dict (m := P.mu p) (f := fun x e S => evalE P call d sx e x S) (p := p) hf h.1.1 h.1.2 h0 h.2) fun e S => ?_
        rw [hd, if_pos h]
        try rfl
      · exact se_bad fun e S => by rw [hd, if_neg h]
  | Subscript a b p =>
    by_cases hb : ∃ lo hi q, b = .Slice lo hi none q
    · obtain ⟨lo, hi, q, rfl⟩ := hb
      exact se_slice (f := fun x e S => evalE P call d sx e x S) C (hf a) hf
    · refine se_of (se_item C (hf a) (hf b)) fun e S => ?_
      cases b with
      | Slice lo hi st q =>
        cases st with
        | none => exact absurd ⟨lo, hi, q, rfl⟩ hb
        | some _ => rfl
      | _ => rfl
  | JoinedStr es p =>
    by_cases h : es.all partJ = true ∧ 2 ≤ es.length
    · refine se_of (se_joined (f := fun x e S => evalE P call d sx e x S) (p := p) hf h.1 h.2) fun e S => ?_
      show (if es.all partJ = true ∧ 2 ≤ es.length then _ else _) = _
      rw [if_pos h]
    · exact se_bad fun e S => by
        show (if es.all partJ = true ∧ 2 ≤ es.length then _ else _) = _
        rw [if_neg h]
  | Call fn es kws pos =>
    cases fn with
    | Name f p =>
      have hd : ∀ e S, evalE P call (d + 1) sx e (.Call (.Name f p) es kws pos) S = (if (okN f = true ∧ plainA es kws = true) ∧ sx.sc.names.lookup f = some .globalImplicit then match P.F f with
        | some fi => (evL (evalE P call d sx e) es S).bind fun us S1 => (evK (evalE P call d sx e) kws S1).bind fun ws S2 => ownR call f fi (kws.map (·.arg)) us ws S2
        | none => if kws.isEmpty = true ∧ f ∈ builtins then (evL (evalE P call d sx e) es S).bind fun us S1 => builtinI P.isa (P.mu pos) f us S1 else .bad
        else .bad) := fun e S => rfl
      by_cases h : (okN f = true ∧ plainA es kws = true) ∧ sx.sc.names.lookup f = some .globalImplicit
      · cases hF : P.F f with
        | some fi =>
          refine se_of (se_own (g := fun x e S => evalE P call d sx e x S) (p := p) (pos := pos) C hF h.1.1 h.2 hf sb h.1.2) fun e S => ?_
          rw [hd, if_pos h, hF]
        | none =>
          by_cases hb : kws.isEmpty = true ∧ f ∈ builtins
          · have hk : kws = [] := List.isEmpty_iff.mp hb.1
            subst hk
            have hst : es.all (fun e => !isStar e) = true := by
              have := h.1.2
              unfold plainA at this
              rw [Bool.and_eq_true] at this
              exact this.1
            refine se_of (se_builtin (m := P.mu pos) (p := p) (pos := pos) C hF hb.2 h.2 (pa_Z (f := fun x e S => evalE P call d sx e x S) hf sb es) hst fun e S he => by subst he; rfl) fun e S => ?_
            rw [hd, if_pos h, hF]
            exact if_pos hb
          · exact se_bad fun e S => by
              rw [hd, if_pos h, hF]
              exact if_neg hb
      · exact se_bad fun e S => by rw [hd, if_neg h]
    | Attribute o m ap =>
      cases kws with
      | cons _ _ => exact se_bad fun e S => rfl
      | nil =>
        have hd : ∀ e S, evalE P call (d + 1) sx e (.Call (.Attribute o m ap) es [] pos) S = (match methTy m with
          | none => .bad
          | some T => if ((ap.endLine == pos.line) = true ∧ plainA es [] = true) ∧ (1 ≤ es.length ∧ es.length < 20) ∧ isSuper o = false then
              (evalE P call d sx e o S).bind fun u S1 => if valTy u S1 = some T then (evL (evalE P call d sx e) es S1).bind fun us S2 => method (P.mu pos) u m us S2 else .bad
            else .bad) := fun e S => rfl
        cases hT : methTy m with
        | none => exact se_bad fun e S => by rw [hd, hT]
        | some T =>
          by_cases h : ((ap.endLine == pos.line) = true ∧ plainA es [] = true) ∧ (1 ≤ es.length ∧ es.length < 20) ∧ isSuper o = false
          · have hst : es.all (fun e => !isStar e) = true := by
              have := h.1.2
              unfold plainA at this
              rw [Bool.and_eq_true] at this
              exact this.1
            refine se_of (se_meth (mu := P.mu pos) (ap := ap) (cp := pos) C (hf o) (pa_Z (f := fun x e S => evalE P call d sx e x S) hf sb es) h.1.1 hst h.2.1.1 h.2.1.2 h.2.2 hT) fun e S => ?_
            rw [hd, hT]
            exact if_pos h
          · exact se_bad fun e S => by
              rw [hd, hT]
              exact if_neg h
    | _ => exact se_bad fun e S => rfl
  | Attribute o n pos =>
    by_cases hs : isSuper o = false
    · refine se_of (se_attr (n := n) (pos := pos) C (hf o) (base_ok hs)) fun e S => ?_
      show (if isSuper o = false then _ else _) = _
      rw [if_pos hs]
    · exact se_bad fun e S => by
        show (if isSuper o = false then _ else _) = _
        rw [if_neg hs]
  | ListComp elt gs scope pos =>
    cases gs with
    | nil => exact se_bad fun e S => rfl
    | cons g r =>
      cases r with
      | cons _ _ => exact se_bad fun e S => by obtain ⟨tg, iter, ifs, a⟩ := g; cases a with | ofNat n => (cases n <;> rfl) | negSucc n => rfl
      | nil =>
        obtain ⟨tg, iter, ifs, a⟩ := g
        by_cases ha : a = 0
        · subst ha
          have hd : ∀ e S, evalE P call (d + 1) sx e (.ListComp elt [⟨tg, iter, ifs, 0⟩] scope pos) S = (if blkC sx.N sx.sc scope (ownOf sx.N scope) = true ∧ ((slotsT sx.N tg).all fun i => ((ownOf sx.N scope).map (·.2)).contains i) = true ∧ ifs.length ≤ 1 then
              (walkE (rgOk P sx) tg (evalE P call d sx e) iter S).bind fun q S1 =>
              (noX (turns q (lcTurn (evalE P call d (sxB sx scope)) (sxB sx scope) (wipeW e ((ownOf sx.N scope).map (·.2))) tg ifs elt) q.len 0 [] S1)).bind fun acc S6 => mk (P.mu pos) acc S6
            else .bad) := fun e S => rfl
          by_cases h : blkC sx.N sx.sc scope (ownOf sx.N scope) = true ∧ ((slotsT sx.N tg).all fun i => ((ownOf sx.N scope).map (·.2)).contains i) = true ∧ ifs.length ≤ 1
          · by_cases hset : isSet iter = true
            · exact se_bad fun e S => by
                rw [hd, if_pos h]
                unfold walkE
                rw [if_pos hset]; rfl
            · refine se_of (se_comp (m := P.mu pos) (f := fun sx e x S => evalE P call d sx e x S) (pos := pos) C hE hT (fun sx x e S h => star_bad h) h.1 h.2.1 h.2.2 (by simpa using hset)) fun e S => ?_
              rw [hd, if_pos h]
          · exact se_bad fun e S => by rw [hd, if_neg h]
        · exact se_bad fun e S => by
            cases a with
            | ofNat n => cases n with
              | zero => exact absurd rfl ha
              | succ n => rfl
            | negSucc n => rfl
  | _ => exact se_bad fun e S => rfl
/-! ### tests -/
theorem tst_Z {X : Cx} {EE : EK} (hG : G.K = X.K) {a : Expr} {r : En → So → Res W} (h : PE X a (tE G EE r)) (he : ∀ whole, isTrue a X.env whole = (do let v ← whole; standAt a.pos; holding [v] (truthy v))) : PT X a (tT G EE (tst r)) := by
  refine (pt_truth h he).of fun σ H Q ⟨I, S, e, rl, rs, h⟩ => ?_
  unfold tst at h
  refine tE.step rl rs h fun w S1 H1 I1 v k1 rl1 hv h1 => ?_
  obtain ⟨b, e1, h2⟩ := RE.ofO h1
  exact ⟨b, by rw [← hG]; exact truth_ok rl1 hv e1, RE.now (k := kB Q) h2 rl1⟩
theorem PT.never' {X : Cx} {e : Expr} {t : TT} (h : ∀ σ H Q, t σ H Q → False) : PT X e t := ⟨fun _ _ σ H Q _ q => (h σ H Q q).elim⟩
theorem st_bad {X : Cx} {x : Expr} {EE : EK} {r : En → So → Res W} (h : ∀ e S, r e S = .bad) : PT X x (tT G EE (tst r)) := PT.never' fun σ H Q ⟨I, S, e, rl, rs, q⟩ => by unfold tst at q; rw [h] at q; exact q
theorem st_of {X : Cx} {x : Expr} {EE : EK} {r r' : En → So → Res Bool} (h : PT X x (tT G EE r)) (q : ∀ e S, r' e S = r e S) : PT X x (tT G EE r') := by
  have : r' = r := funext fun e => funext fun S => q e S
  rw [this]; exact h
theorem st_not {X : Cx} {EE : EK} {a : Expr} {p : Pos} {r : En → So → Res W} (h : PT X a (tT G EE (tst r))) :
    PT X (.UnaryOp .Not a p) (tT G EE (tst fun e S => (r e S).bind fun u S1 => match truth u S1 with | some b => .ok (.bl (!b)) S1 | none => .bad)) := by
  refine (pt_not h).of fun σ H Q ⟨I, S, e, rl, rs, h⟩ => ⟨I, S, e, rl, rs, ?_⟩
  unfold tst at h ⊢
  cases q : r e S with
  | bad => simp only [q] at h; exact h
  | exn x S1 => simp only [q] at h; exact h
  | ok u S1 =>
    simp only [q, Res.bind] at h ⊢
    cases q2 : truth u S1 with
    | none => simp only [q2] at h; exact h
    | some b =>
      simp only [q2] at h
      exact h
theorem st_bool {X : Cx} {EE : EK} {op : BoolOp} {p : Pos} {f : Expr → En → So → Res W} (hf : ∀ x, PT X x (tT G EE (tst (f x)))) : ∀ vs : List Expr, vs ≠ [] →
    PW X (.BoolOp op vs p) (tT G EE (tst fun e S => evB (match op with | .And => true | .Or => false) (fun x => f x e) vs S))
  | [], h => absurd rfl h
  | [x], _ => by
    cases op with
    | And => exact pw_and1 (hf x)
    | Or => exact pw_or1 (hf x)
  | x :: y :: r, _ => by
    have ih := st_bool (p := p) (op := op) hf (y :: r) (by simp)
    have core : ∀ (isAnd : Bool) (σ : L2.St) (H : Hp) (Q : Bool → Hp → Prop), tT G EE (tst fun e S => evB isAnd (fun x => f x e) (x :: y :: r) S) σ H Q →
        tT G EE (tst (f x)) σ H (fun c H1 => if c = isAnd then tT G EE (tst fun e S => evB isAnd (fun x => f x e) (y :: r) S) σ H1 Q else Q c H1) := fun isAnd σ H Q ⟨I, S, e, rl, rs, h⟩ => by
      refine ⟨I, S, e, rl, rs, ?_⟩
      unfold tst at h ⊢
      have hd : evB isAnd (fun x => f x e) (x :: y :: r) S = (f x e S).bind fun w S1 => match truth w S1 with
        | some b => if b = isAnd then evB isAnd (fun x => f x e) (y :: r) S1 else .ok w S1
        | none => .bad := rfl
      simp only [hd] at h
      cases q : f x e S with
      | bad => simp only [q] at h; exact h
      | exn x S1 => simp only [q] at h; exact h
      | ok u S1 =>
        simp only [q, Res.bind] at h ⊢
        cases q2 : truth u S1 with
        | none => simp only [q2] at h; exact h
        | some b =>
          simp only [q2] at h
          intro H1 I1 k1 rl1
          by_cases hb : b = isAnd
          · simp only [hb, if_true] at h
            unfold kB
            dsimp only
            rw [if_pos hb]
            exact ⟨I1, S1, e, rl1, rs.mono k1, RE.mono k1 h⟩
          · simp only [hb, if_false, q2, ofO] at h
            unfold kB
            dsimp only
            rw [if_neg hb]
            exact RE.now (k := kB Q) (RE.mono k1 h) rl1
    cases op with
    | And =>
      refine ⟨fun whole pins s σ H Q J h => (pw_and (hf x) ih).run whole pins s σ H Q J ?_⟩
      have h2 := core true σ H Q h
      obtain ⟨I, S, e, rl, rs, h3⟩ := h2
      refine ⟨I, S, e, rl, rs, h3.imp fun b S1 H1 I1 k1 rl1 q => ?_⟩
      cases b with
      | true => exact q
      | false => exact q
    | Or =>
      refine ⟨fun whole pins s σ H Q J h => (pw_or (hf x) ih).run whole pins s σ H Q J ?_⟩
      have h2 := core false σ H Q h
      obtain ⟨I, S, e, rl, rs, h3⟩ := h2
      refine ⟨I, S, e, rl, rs, h3.imp fun b S1 H1 I1 k1 rl1 q => ?_⟩
      cases b with
      | true => exact q
      | false => exact q
theorem _root_.Y.Res.assoc {α β γ : Type} {r : Res α} {f : α → So → Res β} {g : β → So → Res γ} : (r.bind f).bind g = r.bind fun a S => (f a S).bind g := by
  cases r <;> rfl
theorem st_cmp {sx : Sx} {E : XK} {X : Cx} (C : Cz P call CX k sx G E X) {a b : Expr} {op : CmpOp} {p : Pos} {ra rb : En → So → Res W} (ha : PE X a (tE G (EKof G E) ra)) (hb : PE X b (tE G (EKof G E) rb)) :
    PT X (.Compare a [op] [b] p) (tT G (EKof G E) (tst fun e S => if isSet b = true then .bad else (ra e S).bind fun u S1 => (rb e S1).bind fun v S2 => fC op u v S2)) := by
  by_cases hs : isSet b = true
  · exact st_bad fun e S => by simp only [hs, if_true]
  · refine (pt_cmpR (op_C C op) ha hb (mark_ok (by simpa using hs))).of fun σ H Q ⟨I, S, e, rl, rs, h⟩ => ?_
    unfold tst at h
    simp only [hs, Bool.false_eq_true, if_false, Res.assoc] at h
    refine tE.step rl rs h fun w S1 H1 I1 v k1 rl1 hv h1 => ?_
    refine tE.step (S := S1) rl1 (rs.mono k1) h1 fun z S2 H2 I2 u k2 rl2 hu h2 => ?_
    refine ⟨I2, S2, w, z, rl2, hv.mono k2, hu, ?_⟩
    unfold fC at h2 ⊢
    cases q : cmp op w z S2 with
    | none => rw [q] at h2; exact h2
    | some t =>
      rw [q] at h2
      intro H3 I3 k3 rl3 y hy
      unfold RW at hy
      exact ⟨t, hy, RE.now (k := kB Q) (RE.mono k3 (show RE G (EKof G E) H2 I2 (kB Q) (.ok t S2) from h2)) rl3⟩
theorem st_cmp2 {sx : Sx} {E : XK} {X : Cx} (C : Cz P call CX k sx G E X) {a b c : Expr} {op op' : CmpOp} {p : Pos} {ra rb rc : En → So → Res W} (ha : PE X a (tE G (EKof G E) ra)) (hb : PE X b (tE G (EKof G E) rb)) (hc : PE X c (tE G (EKof G E) rc)) :
    PT X (.Compare a [op, op'] [b, c] p) (tT G (EKof G E) (tst fun e S => if (isSet b || isSet c) = true then .bad else (ra e S).bind fun u S1 => (rb e S1).bind fun v S2 => fC2 op op' (rc e) u v S2)) := by
  by_cases hs : (isSet b || isSet c) = true
  · exact st_bad fun e S => by simp only [hs, if_true]
  · have hc2 : isSet c = false := by cases q : isSet c <;> simp_all
    refine (pt_chain (op_C C op) (op_C C op') ha hb hc (marks2 hc2)).of fun σ H Q ⟨I, S, e, rl, rs, h⟩ => ?_
    unfold tst at h
    simp only [hs, Bool.false_eq_true, if_false, Res.assoc] at h
    refine tE.step rl rs h fun w S1 H1 I1 v k1 rl1 hv h1 => ?_
    refine tE.step (S := S1) rl1 (rs.mono k1) h1 fun z S2 H2 I2 u k2 rl2 hu h2 => ?_
    refine ⟨I2, S2, w, z, rl2, hv.mono k2, hu, ?_⟩
    unfold fC2 at h2
    unfold fC
    cases q : cmp op w z S2 with
    | none => rw [q] at h2; exact h2
    | some t =>
      rw [q] at h2
      intro H3 I3 k3 rl3 y hy
      unfold RW at hy
      refine ⟨t, hy, ?_⟩
      have h3 := RE.mono k3 h2
      cases t with
      | false => exact iteF ⟨false, rfl, RE.now (k := kB Q) (show RE G (EKof G E) H3 I3 (kB Q) (.ok false S2) from h3) rl3⟩
      | true =>
        have h4 : RE G (EKof G E) H3 I3 (kB Q) ((rc e S2).bind fun z' S4 => (fC op' z z' S4).bind fun u S1 => ofO (truth u S1) S1) := by
          rw [← Res.assoc]; exact h3
        refine iteT (tE.step (S := S2) rl3 ((rs.mono k1).mono (k2.trans k3)) h4 fun w' S4 H4 I4 v' k4 rl4 hv' h5 => ?_)
        refine ⟨I4, S4, z, w', rl4, hu.mono (k3.trans k4), hv', ?_⟩
        unfold fC at h5
        dsimp only
        cases q2 : cmp op' z w' S4 with
        | none => rw [q2] at h5; exact h5
        | some t =>
          rw [q2] at h5
          intro H5 I5 k5 rl5 y hy
          unfold RW at hy
          exact ⟨t, hy, RE.now (k := kB Q) (RE.mono k5 (show RE G (EKof G E) H4 I4 (kB Q) (.ok t S4) from h5)) rl5⟩
theorem st_if {X : Cx} {EE : EK} {c a b : Expr} {p : Pos} {rc ra rb : En → So → Res W} (hc : PT X c (tT G EE (tst rc))) (ha : PT X a (tT G EE (tst ra))) (hb : PT X b (tT G EE (tst rb))) :
    PT X (.IfExp c a b p) (tT G EE (tst fun e S => (rc e S).bind fun u S1 => match truth u S1 with | some true => ra e S1 | some false => rb e S1 | none => .bad)) := by
  refine ⟨fun pins s σ H Q J ⟨I, S, e, rl, rs, h⟩ => ?_⟩
  refine PyProof.Rows.isTrue_IfExp (thn (hc.run pins s σ H (fun t H1 => if t = true then tT G EE (tst ra) σ H1 Q else tT G EE (tst rb) σ H1 Q) J ⟨I, S, e, rl, rs, ?_⟩) fun t s1 ⟨H1, J1, q⟩ => ?_)
  · unfold tst at h ⊢
    cases q : rc e S with
    | bad => simp only [q] at h; exact h
    | exn x S1 => simp only [q] at h; exact h
    | ok u S1 =>
      simp only [q, Res.bind] at h ⊢
      cases q2 : truth u S1 with
      | none => simp only [q2] at h; exact h
      | some t =>
        simp only [q2] at h
        intro H1 I1 k1 rl1
        unfold kB
        dsimp only
        cases t with
        | true => exact iteT ⟨I1, S1, e, rl1, rs.mono k1, RE.mono k1 h⟩
        | false => exact iteF ⟨I1, S1, e, rl1, rs.mono k1, RE.mono k1 h⟩
  · cases t with
    | true => exact ha.run pins s1 σ H1 Q J1 q
    | false => exact hb.run pins s1 σ H1 Q J1 q
theorem st_succ {d : Nat} (hE1 : SE P call CX k G (d + 1)) (hE : SE P call CX k G d) (hT : ST P call CX k G d) : ST P call CX k G (d + 1) := by
  intro sx E X C x
  have hf := hE sx E X C
  have hft := hT sx E X C
  have hx := hE1 sx E X C
  cases x with
  | UnaryOp op a p =>
    cases op with
    | Not => exact st_not (r := fun e S => evalE P call d sx e a S) (hft a)
    | USub => exact tst_Z C.K (hx _) (fun _ => rfl)
    | _ => exact st_bad fun e S => rfl
  | BoolOp op vs p =>
    by_cases hv : vs = []
    · subst hv; exact st_bad fun e S => rfl
    · exact (st_bool (p := p) (f := fun x e S => evalE P call d sx e x S) hft vs hv).pt
  | Compare a ops cs p =>
    cases ops with
    | nil => exact st_bad fun e S => by cases cs <;> rfl
    | cons op r =>
      cases r with
      | nil =>
        cases cs with
        | nil => exact st_bad fun e S => rfl
        | cons b t =>
          cases t with
          | nil => exact st_cmp C (hf a) (hf b)
          | cons c t => exact st_bad fun e S => rfl
      | cons op' r =>
        cases r with
        | nil =>
          cases cs with
          | nil => exact st_bad fun e S => rfl
          | cons b t =>
            cases t with
            | nil => exact st_bad fun e S => rfl
            | cons c t =>
              cases t with
              | nil => exact st_cmp2 C (hf a) (hf b) (hf c)
              | cons _ _ => exact st_bad fun e S => rfl
        | cons _ _ => exact st_bad fun e S => by cases cs with | nil => rfl | cons _ t => (cases t with | nil => rfl | cons _ t => (cases t <;> rfl))
  | IfExp c a b p => exact st_if (rc := fun e S => evalE P call d sx e c S) (hft c) (hft a) (hft b)
  | _ => exact tst_Z C.K (hx _) (fun _ => rfl)
theorem se_zero : SE P call CX k G 0 := fun sx E X C x => se_bad fun e S => rfl
theorem st_zero : ST P call CX k G 0 := fun sx E X C x => st_bad fun e S => rfl
/-- EVERY EXPRESSION, at any depth -/
theorem se_all : ∀ d, SE P call CX k G d ∧ ST P call CX k G d
  | 0 => ⟨se_zero, st_zero⟩
  | d + 1 => by
    obtain ⟨a, b⟩ := se_all d
    have c := se_succ a b
    exact ⟨c, st_succ c a b⟩
end
end Y

/-! Statements. -/
namespace Y
open PySem PySem.Spec L2
def kS (G : Gd) (D : Ends) : AK (En × Fl) := fun r _ H' I' => match r.2 with
  | .nx => ∀ σ', RS G H' I' r.1 σ' → D.nx σ' H'
  | .brk => ∀ σ', RS G H' I' r.1 σ' → D.bk σ' H'
  | .ct => ∀ σ', RS G H' I' r.1 σ' → D.ct σ' H'
  | .ret w => ∀ v, RW G H' I' w v → D.rt v H'
def tS (G : Gd) (E : EK) (r : En → So → Res (En × Fl)) : TS := fun D σ H => ∃ I S e, Rel G H I S ∧ RS G H I e σ ∧ RE G E H I (kS G D) (r e S)
theorem _root_.L2.PS.of {X : Cx} {e : Stmt} {t t' : TS} (h : PS X e t) (w : ∀ D σ H, t' D σ H → t D σ H) : PS X e t' := ⟨fun pins s σ H Q J q => h.run pins s σ H Q J (w _ _ _ q)⟩
theorem _root_.L2.PSs.of {X : Cx} {e : List Stmt} {t t' : TS} (h : PSs X e t) (w : ∀ D σ H, t' D σ H → t D σ H) : PSs X e t' := ⟨fun pins s σ H Q J q => h.run pins s σ H Q J (w _ _ _ q)⟩
theorem _root_.L2.PS.never' {X : Cx} {e : Stmt} {t : TS} (h : ∀ D σ H, t D σ H → False) : PS X e t := ⟨fun _ _ σ H Q _ q => (h Q σ H q).elim⟩
section
variable {P : Pg} {call : Cf} {CX : CXT} {k : Nat} {sx : Sx} {G : Gd} {E : XK} {X : Cx} {EE : EK}
theorem ss_bad {x : Stmt} {r : En → So → Res (En × Fl)} (h : ∀ e S, r e S = .bad) : PS X x (tS G EE r) := PS.never' fun D σ H ⟨I, S, e, rl, rs, q⟩ => by rw [h] at q; exact q
theorem ss_of {x : Stmt} {r r' : En → So → Res (En × Fl)} (h : PS X x (tS G EE r)) (q : ∀ e S, r' e S = r e S) : PS X x (tS G EE r') := by
  have : r' = r := funext fun e => funext fun S => q e S
  rw [this]; exact h
theorem ss_blk {f : Stmt → En → So → Res (En × Fl)} (hf : ∀ x, PS X x (tS G EE (f x))) : ∀ l : List Stmt, PSs X l (tS G EE fun e S => evS (fun x => f x) l e S)
  | [] => pss_nil.of fun D σ H ⟨I, S, e, rl, rs, h⟩ => RE.now (k := kS G D) h rl σ rs
  | x :: l => (pss_cons (hf x) (ss_blk hf l)).of fun D σ H ⟨I, S, e, rl, rs, h⟩ => by
    refine ⟨I, S, e, rl, rs, (RE.bind (r := f x e S) h).imp fun r S1 H1 I1 k1 rl1 h1 => ?_⟩
    obtain ⟨e1, fl⟩ := r
    cases fl with
    | nx => exact fun σ' rs' => ⟨I1, S1, e1, rl1, rs', h1⟩
    | brk => exact RE.now (k := kS G D) h1 rl1
    | ct => exact RE.now (k := kS G D) h1 rl1
    | ret w => exact RE.now (k := kS G D) h1 rl1
theorem ss_if {c : Expr} {a b : List Stmt} {p : Pos} {rc : En → So → Res W} {ra rb : En → So → Res (En × Fl)} (hc : PT X c (tT G EE (tst rc))) (ha : PSs X a (tS G EE ra)) (hb : PSs X b (tS G EE rb)) :
    PS X (.If c a b p) (tS G EE fun e S => (rc e S).bind fun u S1 => match truth u S1 with | some true => ra e S1 | some false => rb e S1 | none => .bad) := by
  refine (ps_if hc ha hb).of fun D σ H ⟨I, S, e, rl, rs, h⟩ => ⟨I, S, e, rl, rs, ?_⟩
  unfold tst
  cases q : rc e S with
  | bad => simp only [q] at h; exact h
  | exn x S1 => simp only [q] at h; exact h
  | ok u S1 =>
    simp only [q, Res.bind] at h ⊢
    cases q2 : truth u S1 with
    | none => simp only [q2] at h; exact h
    | some t =>
      simp only [q2] at h
      intro H1 I1 k1 rl1
      unfold kB
      dsimp only
      cases t with
      | true => exact iteT ⟨I1, S1, e, rl1, rs.mono k1, RE.mono k1 h⟩
      | false => exact iteF ⟨I1, S1, e, rl1, rs.mono k1, RE.mono k1 h⟩
theorem ss_expr {v : Expr} {p : Pos} {r : En → So → Res W} (hc : isComp v = false) (h : PE X v (tE G EE r)) : PS X (.Expr v p) (tS G EE fun e S => (r e S).bind fun _ S1 => .ok (e, .nx) S1) := by
  refine (ps_expr h (by cases v <;> first | rfl | cases hc)).of fun D σ H ⟨I, S, e, rl, rs, h⟩ => ?_
  refine tE.step rl rs h fun w S1 H1 I1 v k1 rl1 hv h1 => ?_
  exact RE.now (k := kS G D) h1 rl1 σ (rs.mono k1)
theorem ss_ret {v : Expr} {p : Pos} {r : En → So → Res W} (h : PE X v (tE G EE r)) : PS X (.Return (some v) p) (tS G EE fun e S => (r e S).bind fun w S1 => .ok (e, .ret w) S1) := by
  refine (ps_ret h).of fun D σ H ⟨I, S, e, rl, rs, h⟩ => ?_
  refine tE.step rl rs h fun w S1 H1 I1 v k1 rl1 hv h1 => ?_
  exact RE.now (k := kS G D) h1 rl1 v hv
theorem asgL_len : ∀ {es : List Expr} {ws : List W} {e e2 : En}, asgL sx es ws e = some e2 → e2.length = e.length
  | [], [], e, e2, h => by unfold asgL at h; cases h; rfl
  | x :: r, w :: ws, e, e2, h => by
    cases x with
    | Name x p =>
      unfold asgL at h
      obtain ⟨e1, h1, h2⟩ := Option.bind_eq_some_iff.mp h
      obtain ⟨i, hi, rfl, hk⟩ := asgN_ok h1
      rw [asgL_len h2]; simp
    | _ => simp [asgL] at h
  | [], _ :: _, _, _, h => by simp [asgL] at h
  | .Name _ _ :: _, [], _, _, h => by simp [asgL] at h
  | _ :: _, [], _, _, h => by simp [asgL] at h
/-- target = value, one store after the value -/
theorem ss_asg (C : Cz P call CX k sx G E X) {tg v : Expr} {p : Pos} {r : En → So → Res W} (h : PE X v (tE G EE r)) (hs : swapsWithSole [tg] v p.line X.env = pure false) (hw : swappedStores [tg] v X.env = pure none) (h1 : (assignEach [tg] X.env).map (·.2) = [assign tg X.env]) :
    PS X (.Assign [tg] v p) (tS G EE fun e S => (r e S).bind fun w S1 => (ofO (asg sx e tg w) S1).bind fun e2 S2 => .ok (e2, .nx) S2) := by
  refine (ps_asg h (pg_Z C tg) hs hw h1).of fun D σ H ⟨I, S, e, rl, rs, h⟩ => ?_
  refine tE.step rl rs h fun w S1 H1 I1 v k1 rl1 hv h1 => ?_
  obtain ⟨e2, ea, h2⟩ := RE.ofO (RE.bind h1)
  exact ⟨I1, S1, e, w, e2, rl1, rs.mono k1, hv, ea, fun σ' rs' _ _ => RE.now (k := kS G D) (RE.now h2 rl1) rl1 σ' rs'⟩
theorem plainSub {o i : Expr} {pos : Pos} {env : Env} (h : isSlice i = false) : ∀ v, assign (.Subscript o i pos) env v = (do
      let ov ← holding [v] (eval o env)
      let iv ← holding [v, ov] (eval i env)
      standAt pos
      holding [v, ov, iv] (PySem.setItem ov iv v)
      release [v, ov, iv] []) := by
  intro v
  cases i <;> first | rfl | cases h
theorem sw_sub {o i v : Expr} {p : Pos} {l : Nat} {env : Env} : swapsWithSole [.Subscript o i p] v l env = pure false := by
  cases v <;> rfl
theorem sw_subS {o i v : Expr} {p : Pos} {env : Env} : swappedStores [.Subscript o i p] v env = pure none := by rfl
theorem ss_sub (C : Cz P call CX k sx G E X) {o i v : Expr} {p p' : Pos} {ro ri rv : En → So → Res W} (ho : PE X o (tE G EE ro)) (hi : PE X i (tE G EE ri)) (hv : PE X v (tE G EE rv)) (hs : isSlice i = false) :
    PS X (.Assign [.Subscript o i p'] v p) (tS G EE fun e S => (rv e S).bind fun w S1 => (ro e S1).bind fun u S2 => (ri e S2).bind fun k S3 => (ofO (Y.setItem u k w S3) S3).bind fun S4 _ => .ok (e, .nx) S4) := by
  refine (ps_asg hv (pg_sub ho hi (set_Z (G := G) (by have := units200 C.room; omega)) (plainSub hs)) sw_sub sw_subS rfl).of fun D σ H ⟨I, S, e, rl, rs, h⟩ => ?_
  refine tE.step rl rs h fun w S1 H1 I1 v k1 rl1 hv h1 => ?_
  refine tE.step (S := S1) rl1 (rs.mono k1) h1 fun u S2 H2 I2 y k2 rl2 hu h2 => ?_
  refine tE.step (S := S2) rl2 (rs.mono (k1.trans k2)) h2 fun q S3 H3 I3 z k3 rl3 hq h3 => ?_
  cases es : Y.setItem u q w S3 with
  | none => rw [es] at h3; exact False.elim h3
  | some S4 =>
    rw [es] at h3
    refine ⟨I3, S3, u, q, w, S4, rl3, hu.mono k3, hq, hv.mono (k2.trans k3), es, fun H4 k4 rl4 => ?_⟩
    have h4 : RE G EE H3 I3 (kS G D) (.ok (e, .nx) S4) := h3
    exact h4 H4 I3 k4 rl4 σ ((rs.mono (k1.trans (k2.trans k3))).mono k4)
/-! ### for -/
theorem ss_for (C : Cz P call CX k sx G E X) (po : PassesOwn (model X.prog X.w) X.A X.env X.xe) {tg iter : Expr} {body : List Stmt} {p : Pos} {f : Expr → En → So → Res W} {g : En → So → Res (En × Fl)} (hf : ∀ x, PE X x (tE G EE (f x))) (hs : ∀ x e S, isStar x = true → f x e S = .bad) (hb : PSs X body (tS G EE g)) (hset : isSet iter = false) :
    PS X (.For tg iter body [] p) (tS G EE fun e S => (walkE (rgOk P sx) tg (fun x => f x e) iter S).bind fun q S1 => turns q (forTurn sx tg g) q.len 0 (e, Fl.nx) S1) := by
  refine (ps_forE po C.calm (pi_Z (tg := tg) C hf hs iter) (pg_Z C tg) hb pss_nil (fold_ok hset)).of fun D σ H ⟨I, S, e, rl, rs, h⟩ => ?_
  refine ⟨I, S, e, rl, rs, (RE.bind h).imp fun q S1 H1 I1 k1 rl1 h1 J hJ => ?_⟩
  refine ⟨fun j m σj Hj => ∃ Ij Sj ej, Rel G Hj Ij Sj ∧ RS G Hj Ij ej σj ∧ Mv H1 I1 Hj Ij ∧ RE G EE Hj Ij (kS G D) (turns q (forTurn sx tg g) m j (ej, Fl.nx) Sj), ⟨q.len, I1, S1, e, rl1, rs.mono k1, Mv.refl _ _, h1⟩, ?_⟩
  rintro j m σj Hj ⟨Ij, Sj, ej, rlj, rsj, kj, hj⟩
  obtain ⟨w1, w2⟩ := hJ Hj Ij Sj j kj rlj
  unfold turns at hj
  cases qa : q.at j Sj with
  | none => rw [qa] at hj; exact False.elim hj
  | some o =>
    rw [qa] at hj
    cases o with
    | none => exact .inl ⟨w2 qa, RE.now (k := kS G D) hj rlj σj rsj⟩
    | some w =>
      cases m with
      | zero => exact False.elim hj
      | succ m =>
        simp only at hj
        obtain ⟨jg, jy⟩ := w1 w qa
        refine .inr ⟨jg, fun σ' H' => ∃ I' S' e', Rel G H' I' S' ∧ RS G H' I' e' σ' ∧ Mv H1 I1 H' I' ∧ RE G EE H' I' (kS G D) (turns q (forTurn sx tg g) m (j + 1) (e', Fl.nx) S'),
          fun σ' H' nx => ⟨m, Nat.lt_succ_self m, nx⟩, fun x H3 hy => ?_⟩
        obtain ⟨k3, rl3, hw3⟩ := jy x H3 hy
        have hj3 := hj.mono k3
        unfold forTurn at hj3
        simp only at hj3
        cases ea : asg sx ej tg w with
        | none => rw [ea] at hj3; exact False.elim hj3
        | some e2 =>
          rw [ea] at hj3
          simp only at hj3
          refine ⟨Ij, Sj, ej, w, e2, rl3, rsj.mono k3, hw3, ea, fun σ2 rs4 hl4 ho4 => ?_⟩
          refine ⟨Ij, Sj, e2, rl3, rs4, (RE.bind (RE.bind hj3)).imp fun r S4 H4 I4 k4 rl4 h4 => ?_⟩
          obtain ⟨e4, fl⟩ := r
          cases fl with
          | nx => exact fun σ' rs' => ⟨I4, S4, e4, rl4, rs', (kj.trans k3.mv).trans k4.mv, RE.now h4 rl4⟩
          | ct => exact fun σ' rs' => ⟨I4, S4, e4, rl4, rs', (kj.trans k3.mv).trans k4.mv, RE.now h4 rl4⟩
          | brk => exact RE.now (k := kS G D) (RE.now h4 rl4) rl4
          | ret w => exact RE.now (k := kS G D) (RE.now h4 rl4) rl4
theorem sw_name {x : Str} {v : Expr} {p : Pos} {env : Env} : swappedStores [.Name x p] v env = pure none := rfl
theorem sole_plain {tg v : Expr} {l : Nat} {env : Env} (h : isComp v = false) : swapsWithSole [tg] v l env = pure false := by
  cases v <;> first | rfl | cases h
theorem bk_fn (C : Cz P call CX k sx G E X) : X.env.blockKind = .function := by
  unfold Env.blockKind
  rw [C.kind]; rfl
theorem eqK {o : Option NameKind} {k : NameKind} : (o == some k) = decide (o = some k) := by
  cases o with
  | none => cases k <;> rfl
  | some a => cases a <;> cases k <;> rfl
theorem star_fun {vs : List Expr} : (vs.any fun | .Starred .. => true | _ => false) = vs.any isStar := by
  induction vs with
  | nil => rfl
  | cons a r ih =>
    rw [List.any_cons, List.any_cons, ← ih]
    cases a <;> rfl
theorem swS (C : Cz P call CX k sx G E X) {ts vs : List Expr} {kk k2 : Nat} {p p2 : Pos} : ∃ A : List Str, A = (ts.filterMap fun t => match t with
        | .Name id pos => if (decide (sx.sc.names.lookup id = some .local) && pos.line == (ts.head?.map (·.pos.line)).getD 0) = true then some id else none
        | _ => none) ∧ swappedStores [.Tuple ts kk p] (.Tuple vs k2 p2) X.env = (if (!(ts.length == 2 || ts.length == 3) || vs.length != ts.length) = true then pure none else if (vs.any isStar) = true then pure none
      else if (A.length != ts.length || A.eraseDups.length != A.length) = true then pure none
      else if vs.all (foldedForSure 8) = true then pure none
      else if vs.all (constantsAlone 8) = true then (do unsupported "assign.tuple-of-constant-expressions:order-of-the-stores"; pure (some A)) else pure (some A)) := by
  refine ⟨_, rfl, ?_⟩
  unfold swappedStores
  simp only [bk_fn C]
  generalize hA : List.filterMap _ ts = A
  generalize hB : List.filterMap _ ts = B
  have e : A = B := by
    rw [← hA, ← hB]
    congr 1
    funext x
    cases x with
    | Name id pos =>
      show (if _ then _ else _) = (if _ then _ else _)
      rw [eqK]
      unfold Env.kindOf
      rw [C.sc]
    | _ => rfl
  subst e
  have hs : ((vs.any fun x => match x with | .Starred .. => true | _ => false)) = vs.any isStar := star_fun
  simp only [bne_self_eq_false, Bool.or_false]
  rw [← hs]
  rfl
theorem swK_eq {ts vs : List Expr} {kk k2 : Nat} {p p2 : Pos} {A : List Str} (hA : A = (ts.filterMap fun t => match t with
        | .Name id pos => if (decide (sx.sc.names.lookup id = some .local) && pos.line == (ts.head?.map (·.pos.line)).getD 0) = true then some id else none
        | _ => none)) : swK sx (.Tuple ts kk p) (.Tuple vs k2 p2) = (if (!(ts.length == 2 || ts.length == 3) || vs.length != ts.length) = true then some false else if (vs.any isStar) = true then none
      else if (A.length != ts.length || A.eraseDups.length != A.length) = true then some false
      else if vs.all (foldedForSure 8) = true then some false
      else if vs.all (constantsAlone 8) = true then none else some true) := by
  subst hA; rfl
theorem sw_tup (C : Cz P call CX k sx G E X) {ts : List Expr} {v : Expr} {kk : Nat} {p : Pos} (h : swK sx (.Tuple ts kk p) v = some false) : swappedStores [.Tuple ts kk p] v X.env = pure none := by
  cases v with
  | Tuple vs k2 p2 =>
    obtain ⟨A, hA, e⟩ := swS (ts := ts) (vs := vs) (kk := kk) (k2 := k2) (p := p) (p2 := p2) C
    rw [e]
    rw [swK_eq hA] at h
    split at h
    · rename_i c; rw [if_pos c]
    · rename_i c; rw [if_neg c]
      split at h
      · cases h
      · rename_i c; rw [if_neg c]
        split at h
        · rename_i c; rw [if_pos c]
        · rename_i c; rw [if_neg c]
          split at h
          · rename_i c; rw [if_pos c]
          · rename_i c; rw [if_neg c]
            split at h <;> cases h
  | _ => rfl
theorem names_mem {f : Expr → Option Str} : ∀ {ts : List Expr}, (ts.filterMap f).length = ts.length → ∀ t ∈ ts, ∃ x, f t = some x
  | [], _, t, h => by cases h
  | a :: r, hl, t, h => by
    rw [List.filterMap_cons] at hl
    cases q : f a with
    | none =>
      rw [q] at hl
      have := List.length_filterMap_le f r
      simp only [List.length_cons] at hl
      omega
    | some x =>
      rw [q] at hl
      rcases List.mem_cons.mp h with rfl | h
      · exact ⟨x, q⟩
      · exact names_mem (by simpa using hl) t h
/-- plain names, stored from the right -/
theorem sw_names (C : Cz P call CX k sx G E X) {ts : List Expr} {v : Expr} {kk : Nat} {p : Pos} (h : swK sx (.Tuple ts kk p) v = some true) :
    ∃ (A : List Str) (vs : List Expr) (k2 : Nat) (p2 : Pos), v = .Tuple vs k2 p2 ∧ (ts.length = 2 ∨ ts.length = 3) ∧ vs.length = ts.length ∧ A.length = ts.length ∧ A.eraseDups.length = A.length ∧
      (∀ (i : Nat) (t : Expr), ts[i]? = some t → ∃ x q, t = .Name x q ∧ A[i]? = some x ∧ sx.sc.names.lookup x = some .local) ∧ swappedStores [.Tuple ts kk p] v X.env = pure (some A) := by
  cases v with
  | Tuple vs k2 p2 =>
    obtain ⟨A, hA, e⟩ := swS (ts := ts) (vs := vs) (kk := kk) (k2 := k2) (p := p) (p2 := p2) C
    rw [swK_eq hA] at h
    split at h
    · cases h
    · rename_i c1
      rw [if_neg c1] at e
      split at h
      · cases h
      · rename_i c2
        rw [if_neg c2] at e
        split at h
        · cases h
        · rename_i c3
          rw [if_neg c3] at e
          split at h
          · cases h
          · rename_i c4
            rw [if_neg c4] at e
            split at h
            · cases h
            · rename_i c5
              rw [if_neg c5] at e
              rw [Bool.or_eq_true, not_or, Bool.not_eq_true, Bool.not_eq_true] at c1 c3
              have l1 : ts.length = 2 ∨ ts.length = 3 := by
                have q := c1.1
                rw [Bool.not_eq_false', Bool.or_eq_true] at q
                simpa using q
              have l2 : vs.length = ts.length := by simpa using c1.2
              have l3 : A.length = ts.length := by simpa using c3.1
              have l4 : A.eraseDups.length = A.length := by simpa using c3.2
              refine ⟨A, vs, k2, p2, rfl, l1, l2, l3, l4, fun i t hi => ?_, e⟩
              have key : ∀ (us : List Expr) (B : List Str), B = (us.filterMap fun t => match t with
                  | .Name id pos => if (decide (sx.sc.names.lookup id = some .local) && pos.line == (ts.head?.map (·.pos.line)).getD 0) = true then some id else none
                  | _ => none) → B.length = us.length → ∀ (i : Nat) (t : Expr), us[i]? = some t → ∃ x q, t = .Name x q ∧ B[i]? = some x ∧ sx.sc.names.lookup x = some .local := by
                intro us
                induction us with
                | nil => intro B _ _ i t hi; simp at hi
                | cons u us ih =>
                  intro B hB hl i t hi
                  have nm := names_mem (ts := u :: us) (by rw [← hB]; exact hl) u (by simp)
                  obtain ⟨x, hx⟩ := nm
                  rw [List.filterMap_cons, hx] at hB
                  dsimp only at hB
                  subst hB
                  cases i with
                  | zero =>
                    simp only [List.getElem?_cons_zero, Option.some.injEq] at hi
                    subst hi
                    cases u with
                    | Name y q =>
                      dsimp only at hx
                      split at hx
                      · rename_i d1
                        cases hx
                        rw [Bool.and_eq_true] at d1
                        exact ⟨x, q, rfl, by simp, of_decide_eq_true d1.1⟩
                      · cases hx
                    | _ => simp at hx
                  | succ i =>
                    obtain ⟨y, q, a, b, c⟩ := ih _ rfl (by simpa using hl) i t (by simpa using hi)
                    exact ⟨y, q, a, by simpa using b, c⟩
              exact key ts A hA l3 i t hi
  | _ => simp [swK] at h
theorem dups2 {x y : Str} (h : [x, y].eraseDups.length = [x, y].length) : x ≠ y := by
  rintro rfl
  simp [List.eraseDups_cons] at h
theorem dups3 {x y z : Str} (h : [x, y, z].eraseDups.length = [x, y, z].length) : x ≠ y ∧ x ≠ z ∧ y ≠ z := by
  refine ⟨?_, ?_, ?_⟩
  · rintro rfl
    by_cases q : z = x
    · subst q; simp [List.eraseDups_cons] at h
    · have q2 : ¬ x = z := fun e => q e.symm
      simp [List.eraseDups_cons, q, q2] at h
  · rintro rfl
    by_cases q : y = x
    · subst q; simp [List.eraseDups_cons] at h
    · have q2 : ¬ x = y := fun e => q e.symm
      simp [List.eraseDups_cons, q, q2] at h
  · rintro rfl
    by_cases q : y = x
    · subst q; simp [List.eraseDups_cons] at h
    · have q2 : ¬ x = y := fun e => q e.symm
      simp [List.eraseDups_cons, q, q2] at h
theorem sw_par (C : Cz P call CX k sx G E X) {ts : List Expr} {v : Expr} {kk : Nat} {p : Pos} (h : swK sx (.Tuple ts kk p) v = some true) :
    (∃ x y px py a b k2 p2, ts = [.Name x px, .Name y py] ∧ v = .Tuple [a, b] k2 p2 ∧ x ≠ y ∧ sx.sc.names.lookup x = some .local ∧ sx.sc.names.lookup y = some .local ∧ swappedStores [.Tuple ts kk p] v X.env = pure (some [x, y])) ∨
    ∃ x y z px py pz a b c k2 p2, ts = [.Name x px, .Name y py, .Name z pz] ∧ v = .Tuple [a, b, c] k2 p2 ∧ (x ≠ y ∧ x ≠ z ∧ y ≠ z) ∧ sx.sc.names.lookup x = some .local ∧ sx.sc.names.lookup y = some .local ∧ sx.sc.names.lookup z = some .local ∧ swappedStores [.Tuple ts kk p] v X.env = pure (some [x, y, z]) := by
  obtain ⟨A, vs, k2, p2, rfl, l1, l2, l3, l4, nm, e⟩ := sw_names C h
  rcases l1 with l1 | l1
  · rw [l1] at l2 l3
    match ts, l1, vs, l2, A, l3 with
    | [t1, t2], _, [a, b], _, [x, y], _ =>
      obtain ⟨x1, q1, rfl, e1, n1⟩ := nm 0 t1 rfl
      obtain ⟨x2, q2, rfl, e2, n2⟩ := nm 1 t2 rfl
      simp at e1 e2
      subst e1 e2
      exact .inl ⟨x, y, q1, q2, a, b, k2, p2, rfl, rfl, dups2 l4, n1, n2, e⟩
  · rw [l1] at l2 l3
    match ts, l1, vs, l2, A, l3 with
    | [t1, t2, t3], _, [a, b, c], _, [x, y, z], _ =>
      obtain ⟨x1, q1, rfl, e1, n1⟩ := nm 0 t1 rfl
      obtain ⟨x2, q2, rfl, e2, n2⟩ := nm 1 t2 rfl
      obtain ⟨x3, q3, rfl, e3, n3⟩ := nm 2 t3 rfl
      simp at e1 e2 e3
      subst e1 e2 e3
      exact .inr ⟨x, y, z, q1, q2, q3, a, b, c, k2, p2, rfl, rfl, dups3 l4, n1, n2, n3, e⟩
theorem _root_.Y.RWs.three {H : Hp} {I : Ix} {w z y : W} {vs : List V} (h : RWs G H I [w, z, y] vs) : ∃ v u t, vs = [v, u, t] ∧ RW G H I w v ∧ RW G H I z u ∧ RW G H I y t := by
  obtain ⟨v, r, rfl, h1, h2⟩ := h.inv
  obtain ⟨u, t, rfl, h3, h4⟩ := h2.two
  exact ⟨v, u, t, rfl, h1, h3, h4⟩
theorem ss_par2 (C : Cz P call CX k sx G E X) {x y : Str} {px py : Pos} {a b : Expr} {kk k2 : Nat} {p p2 pos : Pos} {d : Nat} (ht : tgOk sx.N (.Tuple [.Name x px, .Name y py] kk p) = true) (hE : SE P call CX k G d) (hxy : x ≠ y) (hx : sx.sc.names.lookup x = some .local) (hy : sx.sc.names.lookup y = some .local)
    (hw : swappedStores [.Tuple [.Name x px, .Name y py] kk p] (.Tuple [a, b] k2 p2) X.env = pure (some [x, y])) :
    PS X (.Assign [.Tuple [.Name x px, .Name y py] kk p] (.Tuple [a, b] k2 p2) pos) (tS G (EKof G E) fun e S => (evalE P call (d + 1) sx e (.Tuple [a, b] k2 p2) S).bind fun w S1 => (ofO (asg sx e (.Tuple [.Name x px, .Name y py] kk p) w) S1).bind fun e2 S2 => .ok (e2, .nx) S2) := by
  have ha := pa_Z (f := fun x e S => evalE P call d sx e x S) (hE sx E X C) (fun x e S h => star_bad h) [a, b]
  have hd : ∀ e S, evalE P call (d + 1) sx e (.Tuple [a, b] k2 p2) S = ((evL (evalE P call d sx e) [a, b] S).bind fun ws S1 => if ws.length ≤ sizeLine then .ok (.tup ws) S1 else .bad) := fun _ _ => rfl
  have ht2 : ((idx sx.N x).isSome && ((idx sx.N y).isSome && true)) = true := ht
  simp only [Bool.and_eq_true, and_true] at ht2
  obtain ⟨i, hi⟩ := Option.isSome_iff_exists.mp ht2.1
  obtain ⟨j, hj⟩ := Option.isSome_iff_exists.mp ht2.2
  have hij : i ≠ j := by
    rintro rfl
    have a1 := idx_ok hi
    rw [idx_ok hj] at a1
    cases a1
    exact hxy rfl
  refine (ps_par C.calm (by rw [C.hN]; exact C.nd) (by rw [C.hN]; exact idx_ok hi) (by rw [C.hN]; exact idx_ok hj) hij (by rw [C.sc]; exact hx) (by rw [C.sc]; exact hy) ha hw).of fun D σ H ⟨I, S, e, rl, rs, h⟩ => ?_
  dsimp only at h
  rw [hd, Res.assoc] at h
  refine tAs.step rl rs h fun ws S1 H1 I1 vs k1 rl1 hv h1 => ?_
  split at h1
  · simp only [Res.bind] at h1
    obtain ⟨e2, ea, h2⟩ := RE.ofO (RE.bind h1)
    have h3 := RE.now (k := kS G D) (RE.now h2 rl1) rl1
    have ea2 : asgL sx [.Name x px, .Name y py] ws e = some e2 := ea
    match ws, hv, ea2 with
    | [], _, ea2 => simp [asgL] at ea2
    | [w1], _, ea2 => simp [asgL] at ea2
    | [w1, w2], hv, ea2 =>
      obtain ⟨v, u, rfl, q1, q2⟩ := hv.two
      have e3 : e2 = (e.set i (some w1)).set j (some w2) := by
        simp only [asgL, asgN, hx, hy, hi, hj, Option.map_some, Option.bind_some] at ea2
        exact (Option.some.inj ea2).symm
      subst e3
      exact ⟨v, u, rfl, h3 _ (((rs.mono k1).put q1 i).put q2 j)⟩
    | _ :: _ :: _ :: _, _, ea2 => simp [asgL] at ea2
  · exact False.elim h1
theorem ss_par (C : Cz P call CX k sx G E X) {ts : List Expr} {v : Expr} {kk : Nat} {p pos : Pos} {d : Nat} (h : swK sx (.Tuple ts kk p) v = some true) (ht : tgOk sx.N (.Tuple ts kk p) = true) (hE : SE P call CX k G d) :
    PS X (.Assign [.Tuple ts kk p] v pos) (tS G (EKof G E) fun e S => (evalE P call (d + 1) sx e v S).bind fun w S1 => (ofO (asg sx e (.Tuple ts kk p) w) S1).bind fun e2 S2 => .ok (e2, .nx) S2) := by
  rcases sw_par C h with ⟨x, y, px, py, a, b, k2, p2, rfl, rfl, hxy, hx, hy, hw⟩ | ⟨x, y, z, px, py, pz, a, b, c, k2, p2, rfl, rfl, hne, hx, hy, hz, hw⟩
  · exact ss_par2 C ht hE hxy hx hy hw
  have ha := pa_Z (f := fun x e S => evalE P call d sx e x S) (hE sx E X C) (fun x e S h => star_bad h) [a, b, c]
  have hd : ∀ e S, evalE P call (d + 1) sx e (.Tuple [a, b, c] k2 p2) S = ((evL (evalE P call d sx e) [a, b, c] S).bind fun ws S1 => if ws.length ≤ sizeLine then .ok (.tup ws) S1 else .bad) := fun _ _ => rfl
  have ht2 : ((idx sx.N x).isSome && ((idx sx.N y).isSome && ((idx sx.N z).isSome && true))) = true := ht
  simp only [Bool.and_eq_true, and_true] at ht2
  obtain ⟨i, hi⟩ := Option.isSome_iff_exists.mp ht2.1
  obtain ⟨j, hj⟩ := Option.isSome_iff_exists.mp ht2.2.1
  obtain ⟨l, hl⟩ := Option.isSome_iff_exists.mp ht2.2.2
  have apart : ∀ {m n : Nat} {x y : Str}, idx sx.N x = some m → idx sx.N y = some n → x ≠ y → m ≠ n := fun {m n x y} h1 h2 hne e => by
    subst e
    have a1 := idx_ok h1
    rw [idx_ok h2] at a1
    cases a1
    exact hne rfl
  refine (ps_par3 C.calm (by rw [C.hN]; exact C.nd) (by rw [C.hN]; exact idx_ok hi) (by rw [C.hN]; exact idx_ok hj) (by rw [C.hN]; exact idx_ok hl) (apart hi hj hne.1) (apart hi hl hne.2.1) (apart hj hl hne.2.2) (by rw [C.sc]; exact hx) (by rw [C.sc]; exact hy) (by rw [C.sc]; exact hz) ha hw).of fun D σ H ⟨I, S, e, rl, rs, h⟩ => ?_
  dsimp only at h
  rw [hd, Res.assoc] at h
  refine tAs.step rl rs h fun ws S1 H1 I1 vs k1 rl1 hv h1 => ?_
  split at h1
  · simp only [Res.bind] at h1
    obtain ⟨e2, ea, h2⟩ := RE.ofO (RE.bind h1)
    have h3 := RE.now (k := kS G D) (RE.now h2 rl1) rl1
    have ea2 : asgL sx [.Name x px, .Name y py, .Name z pz] ws e = some e2 := ea
    match ws, hv, ea2 with
    | [], _, ea2 => simp [asgL] at ea2
    | [w1], _, ea2 => simp [asgL] at ea2
    | [w1, w2], _, ea2 => simp [asgL] at ea2
    | [w1, w2, w3], hv, ea2 =>
      obtain ⟨v, u, t, rfl, q1, q2, q3⟩ := hv.three
      have e3 : e2 = ((e.set i (some w1)).set j (some w2)).set l (some w3) := by
        simp only [asgL, asgN, hx, hy, hz, hi, hj, hl, Option.map_some, Option.bind_some] at ea2
        exact (Option.some.inj ea2).symm
      subst e3
      exact ⟨v, u, t, rfl, h3 _ ((((rs.mono k1).put q1 i).put q2 j).put q3 l)⟩
    | _ :: _ :: _ :: _ :: _, _, ea2 => simp [asgL] at ea2
  · exact False.elim h1
/-- name = [..] -/
theorem ss_nmc (C : Cz P call CX k sx G E X) {y : Str} {py pos : Pos} {v : Expr} {d : Nat} (ht : tgOk sx.N (.Name y py) = true) (hc : isComp v = true) (hA : ∀ d, SE P call CX k G d ∧ ST P call CX k G d) :
    PS X (.Assign [.Name y py] v pos) (tS G (EKof G E) fun e S => (evalE P call d sx e v S).bind fun w S1 => (ofO (asg sx e (.Name y py) w) S1).bind fun e2 S2 => .ok (e2, .nx) S2) := by
  cases d with
  | zero => exact ss_bad fun e S => rfl
  | succ d =>
  cases v with
  | ListComp elt gs scope cp =>
    cases hb : (X.env.blockKind == .function && X.env.kindOf y == some .local && py.line == cp.line && !(scope.names.any fun (n, k) => n == y && (k == .local || k == .cell))) with
    | false =>
      have hs : swapsWithSole [.Name y py] (.ListComp elt gs scope cp) pos.line X.env = pure (X.env.blockKind == .function && X.env.kindOf y == some .local && py.line == cp.line && !(scope.names.any fun (n, k) => n == y && (k == .local || k == .cell))) := rfl
      rw [hb] at hs
      exact ss_asg C ((hA (d + 1)).1 sx E X C (.ListComp elt gs scope cp)) hs rfl rfl
    | true =>
      have hs : swapsWith (.ListComp elt gs scope cp) (some (.Name y py)) pos.line X.env = pure (X.env.blockKind == .function && X.env.kindOf y == some .local && py.line == cp.line && !(scope.names.any fun (n, k) => n == y && (k == .local || k == .cell))) := rfl
      rw [hb] at hs
      cases gs with
      | nil => exact ss_bad fun e S => rfl
      | cons g r =>
        cases r with
        | cons _ _ => exact ss_bad fun e S => by obtain ⟨tg, iter, ifs, a⟩ := g; cases a with | ofNat n => (cases n <;> rfl) | negSucc n => rfl
        | nil =>
          obtain ⟨tg, iter, ifs, a⟩ := g
          by_cases ha : a = 0
          · subst ha
            have hd : ∀ e S, evalE P call (d + 1) sx e (.ListComp elt [⟨tg, iter, ifs, 0⟩] scope cp) S = (if blkC sx.N sx.sc scope (ownOf sx.N scope) = true ∧ ((slotsT sx.N tg).all fun i => ((ownOf sx.N scope).map (·.2)).contains i) = true ∧ ifs.length ≤ 1 then
                compR P sx (fun sx e x S => evalE P call d sx e x S) (P.mu cp) elt tg iter ifs scope e S
              else .bad) := fun e S => rfl
            by_cases h : blkC sx.N sx.sc scope (ownOf sx.N scope) = true ∧ ((slotsT sx.N tg).all fun i => ((ownOf sx.N scope).map (·.2)).contains i) = true ∧ ifs.length ≤ 1
            · by_cases hset : isSet iter = true
              · exact ss_bad fun e S => by
                  rw [hd, if_pos h]
                  unfold compR walkE
                  rw [if_pos hset]; rfl
              · obtain ⟨i, hi⟩ := Option.isSome_iff_exists.mp (show (idx sx.N y).isSome = true from ht)
                have hyl : sx.sc.names.lookup y = some .local := by
                  rw [Bool.and_eq_true, Bool.and_eq_true, Bool.and_eq_true] at hb
                  have := hb.1.1.2
                  rw [eqK] at this
                  rw [← C.sc]
                  exact of_decide_eq_true this
                refine (ss_comp (m := P.mu cp) (f := fun sx e x S => evalE P call d sx e x S) C (hA d).1 (hA d).2 (fun sx x e S h => star_bad h) h.1 h.2.2 (by simpa using hset) hi hyl hs).of fun D σ H ⟨I, S, e, rl, rs, h4⟩ => ?_
                dsimp only at h4
                rw [hd, if_pos h] at h4
                show compT _ _ _ _ _ _ _ _ _ _ σ H (fun x H1 => D.nx (σ.set i (some x)) H1)
                refine lc_Z (m := P.mu cp) (ifs := ifs) h.2.1 σ H _ ?_
                refine tE.step rl rs h4 fun w S1 H1 I1 v k1 rl1 hv h1 => ?_
                obtain ⟨e2, ea, h2⟩ := RE.ofO (RE.bind h1)
                have h3 := RE.now (k := kS G D) (RE.now h2 rl1) rl1
                have e3 : e2 = e.set i (some w) := by
                  unfold asg asgN at ea
                  simp only [hyl, hi, Option.map_some] at ea
                  exact (Option.some.inj ea).symm
                subst e3
                exact h3 _ ((rs.mono k1).put hv i)
            · exact ss_bad fun e S => by rw [hd, if_neg h]; rfl
          · exact ss_bad fun e S => by
              cases a with
              | ofNat n => cases n with
                | zero => exact absurd rfl ha
                | succ n => rfl
              | negSucc n => rfl
  | SetComp _ _ _ _ => exact ss_bad fun e S => rfl
  | DictComp _ _ _ _ _ => exact ss_bad fun e S => rfl
  | _ => cases hc
def SS (P : Pg) (call : Cf) (CX : CXT) (k : Nat) (G : Gd) (d : Nat) : Prop := ∀ (sx : Sx) (E : XK) (X : Cx), Cz P call CX k sx G E X → PassesOwn (model X.prog X.w) X.A X.env X.xe → ∀ x, PS X x (tS G (EKof G E) fun e S => execS P call d sx x e S)
theorem ss_asgs (C : Cz P call CX k sx G E X) {tg v : Expr} {pos : Pos} {d : Nat} (hA : ∀ d, SE P call CX k G d ∧ ST P call CX k G d) : PS X (.Assign [tg] v pos) (tS G (EKof G E) fun e S => if swK sx tg v = none ∨ tgOk sx.N tg = false then .bad else (evalE P call d sx e v S).bind fun w S1 => (ofO (asg sx e tg w) S1).bind fun e2 S2 => .ok (e2, .nx) S2) := by
  by_cases h : swK sx tg v = none ∨ tgOk sx.N tg = false
  · exact ss_bad fun e S => if_pos h
  · refine ss_of (r := fun e S => (evalE P call d sx e v S).bind fun w S1 => (ofO (asg sx e tg w) S1).bind fun e2 S2 => .ok (e2, .nx) S2) ?_ fun e S => if_neg h
    have h2 : tgOk sx.N tg = true := by
      cases q : tgOk sx.N tg with
      | true => rfl
      | false => exact absurd (.inr q) h
    cases tg with
    | Name y py =>
      cases hc : isComp v with
      | true => exact ss_nmc C h2 hc hA
      | false => exact ss_asg C ((hA d).1 sx E X C v) (sole_plain hc) rfl rfl
    | Tuple ts kk p =>
      cases q : swK sx (.Tuple ts kk p) v with
      | none => exact absurd (.inl q) h
      | some b =>
        cases b with
        | false => exact ss_asg C ((hA d).1 sx E X C v) (by cases v <;> rfl) (sw_tup C q) rfl
        | true =>
          cases d with
          | zero => exact ss_bad fun e S => rfl
          | succ d => exact ss_par C q h2 (hA d).1
    | _ => cases h2
theorem ss_succ {d : Nat} (hA : ∀ d, SE P call CX k G d ∧ ST P call CX k G d) (ih : SS P call CX k G d) : SS P call CX k G (d + 1) := by
  intro sx E X C po x
  have hf := (hA d).1 sx E X C
  have ht := (hA d).2 sx E X C
  have hb := ss_blk (ih sx E X C po)
  cases x with
  | Assign ts v pos =>
    cases ts with
    | nil => exact ss_bad fun e S => rfl
    | cons tg r =>
      cases r with
      | cons _ _ => exact ss_bad fun e S => by cases tg <;> rfl
      | nil =>
        cases tg with
        | Subscript o i p' =>
          by_cases hs : isSlice i = true
          · exact ss_bad fun e S => if_pos hs
          · exact ss_of (ss_sub (p := pos) (p' := p') C (hf o) (hf i) (hf v) (by simpa using hs)) fun e S => if_neg hs
        | _ => exact ss_of (ss_asgs (d := d) C hA) fun e S => rfl
  | Expr v pos =>
    by_cases hc : isComp v = true
    · exact ss_bad fun e S => if_pos hc
    · exact ss_of (ss_expr (p := pos) (by simpa using hc) (hf v)) fun e S => if_neg hc
  | Return v pos =>
    cases v with
    | none => exact ps_retN.of fun D σ H ⟨I, S, e, rl, rs, h⟩ => RE.now (k := kS G D) h rl .non (by unfold RW; rfl)
    | some v => exact ss_ret (hf v)
  | If c a b pos => exact ss_if (rc := fun e S => evalE P call d sx e c S) (ht c) (hb a) (hb b)
  | For tg iter body orelse pos =>
    cases orelse with
    | cons _ _ => exact ss_bad fun e S => rfl
    | nil =>
      by_cases hset : isSet iter = true
      · exact ss_bad fun e S => by
          show (walkE (rgOk P sx) tg (evalE P call d sx e) iter S).bind _ = _
          unfold walkE
          rw [if_pos hset]; rfl
      · exact ss_for C po (f := fun x e S => evalE P call d sx e x S) hf (fun x e S h => star_bad h) (hb body) (by simpa using hset)
  | Pass pos => exact ps_pass.of fun D σ H ⟨I, S, e, rl, rs, h⟩ => RE.now (k := kS G D) h rl σ rs
  | Break pos => exact ps_break.of fun D σ H ⟨I, S, e, rl, rs, h⟩ => RE.now (k := kS G D) h rl σ rs
  | Continue pos => exact ps_continue.of fun D σ H ⟨I, S, e, rl, rs, h⟩ => RE.now (k := kS G D) h rl σ rs
  | _ => exact ss_bad fun e S => rfl
/-- EVERY STATEMENT, at any depth -/
theorem ss_all : ∀ d, SS P call CX k G d
  | 0 => fun sx E X C po x => ss_bad fun e S => rfl
  | d + 1 => ss_succ se_all (ss_all d)
end
end Y

/-! What is locked, what is borrowed. -/
namespace Y
open PySem PySem.Spec L2
/-- from the things of I2 to those of I': the first n stand as they stood -/
structure Lk (I2 I' : Ix) (n : Nat) : Prop where
  st : ∀ (i : Nat) (a : Addr), i < n → I2.st[i]? = some a → I'.st[i]? = some a
  out : ∀ (t : Bool) (a : Addr), Out I2 t a → Out I' t a
section
variable {G : Gd} {H : Hp} {I2 I' : Ix} {n : Nat} {f : Nat → Option W}
mutual
theorem lkW_ok (L : Lk I2 I' n) (hf : ∀ (i : Nat) (w : W) (a : Addr), n ≤ i → f i = some w → I2.st[i]? = some a → RW G H I' w (.ref a)) : ∀ (w w' : W) (v : V), RW G H I2 w v → lkW n f w = some w' → RW G H I' w' v
  | .non, _, _, h, e => by unfold lkW at e; cases e; unfold RW at h ⊢; exact h
  | .bl _, _, _, h, e => by unfold lkW at e; cases e; unfold RW at h ⊢; exact h
  | .int _, _, _, h, e => by unfold lkW at e; cases e; unfold RW at h ⊢; exact h
  | .str _, _, _, h, e => by unfold lkW at e; cases e; unfold RW at h ⊢; exact h
  | .ty _, _, _, h, e => by unfold lkW at e; cases e; unfold RW at h ⊢; exact h
  | .glo _, _, _, h, e => by unfold lkW at e; cases e; unfold RW at h ⊢; exact h
  | .ref i, _, _, h, e => by
    unfold RW at h
    obtain ⟨a, rfl, hi⟩ := h
    unfold lkW at e
    split at e
    · rename_i hl
      cases e
      unfold RW
      exact ⟨a, rfl, L.st i a hl hi⟩
    · rename_i hl
      exact hf i _ a (by omega) e hi
  | .tup ws, _, _, h, e => by
    unfold RW at h
    obtain ⟨a, vs, rfl, s, z⟩ := h
    unfold lkW at e
    obtain ⟨ws', e1, rfl⟩ := Option.map_eq_some_iff.mp e
    unfold RW
    exact ⟨a, vs, rfl, s, lkWs_ok L hf ws ws' vs z e1⟩
  | .fl t ws, _, _, h, e => by
    unfold RW at h
    obtain ⟨a, vs, rfl, s, z⟩ := h
    unfold lkW at e
    obtain ⟨ws', e1, rfl⟩ := Option.map_eq_some_iff.mp e
    unfold RW
    exact ⟨a, vs, rfl, s.imp (fun q => ⟨q.1, L.out _ _ q.2⟩) id, lkWs_ok L hf ws ws' vs z e1⟩
  | .fd t ws, _, _, h, e => by
    unfold RW at h
    obtain ⟨a, vs, rfl, s, z⟩ := h
    unfold lkW at e
    obtain ⟨ws', e1, rfl⟩ := Option.map_eq_some_iff.mp e
    unfold RW
    exact ⟨a, vs, rfl, ⟨s.1, L.out _ _ s.2⟩, lkKs_ok L hf ws ws' vs z e1⟩
  | .fins t C ws, _, _, h, e => by
    unfold RW at h
    obtain ⟨a, c, dx, vs, rfl, m, s, z⟩ := h
    unfold lkW at e
    obtain ⟨ws', e1, rfl⟩ := Option.map_eq_some_iff.mp e
    unfold RW
    exact ⟨a, c, dx, vs, rfl, m, s.imp (fun q => ⟨q.1, L.out _ _ q.2⟩) (fun q => ⟨⟨q.1.1, L.out _ _ q.1.2⟩, q.2.1, L.out _ _ q.2.2⟩), lkFs_ok L hf ws ws' vs z e1⟩
theorem lkWs_ok (L : Lk I2 I' n) (hf : ∀ (i : Nat) (w : W) (a : Addr), n ≤ i → f i = some w → I2.st[i]? = some a → RW G H I' w (.ref a)) : ∀ (w w' : List W) (v : List V), RWs G H I2 w v → lkWs n f w = some w' → RWs G H I' w' v
  | [], _, _, h, e => by rw [h.inv0]; unfold lkWs at e; cases e; exact .nil
  | w :: ws, _, _, h, e => by
    obtain ⟨v, r, rfl, h1, h2⟩ := h.inv
    unfold lkWs at e
    split at e
    · cases e
    · rename_i y hy
      obtain ⟨ws', e1, rfl⟩ := Option.map_eq_some_iff.mp e
      exact .cons (lkW_ok L hf w y v h1 hy) (lkWs_ok L hf ws ws' r h2 e1)
theorem lkKs_ok (L : Lk I2 I' n) (hf : ∀ (i : Nat) (w : W) (a : Addr), n ≤ i → f i = some w → I2.st[i]? = some a → RW G H I' w (.ref a)) : ∀ (w w' : List (Kd × W)) (v : List (Key × V)), RKs G H I2 w v → lkKs n f w = some w' → RKs G H I' w' v
  | [], _, _, h, e => by rw [h.inv0]; unfold lkKs at e; cases e; exact .nil
  | (k, w) :: ws, _, _, h, e => by
    obtain ⟨q, v, r, rfl, ek, h1, h2⟩ := h.inv
    unfold lkKs at e
    split at e
    · cases e
    · rename_i y hy
      obtain ⟨ws', e1, rfl⟩ := Option.map_eq_some_iff.mp e
      exact .cons ek (lkW_ok L hf w y v h1 hy) (lkKs_ok L hf ws ws' r h2 e1)
theorem lkFs_ok (L : Lk I2 I' n) (hf : ∀ (i : Nat) (w : W) (a : Addr), n ≤ i → f i = some w → I2.st[i]? = some a → RW G H I' w (.ref a)) : ∀ (w w' : List (Str × W)) (v : List (Str × V)), RFs G H I2 w v → lkFs n f w = some w' → RFs G H I' w' v
  | [], _, _, h, e => by unfold RFs at h; subst h; unfold lkFs at e; cases e; unfold RFs; rfl
  | (k, w) :: ws, _, _, h, e => by
    rw [RFs] at h
    obtain ⟨v, r, rfl, h1, h2⟩ := h
    unfold lkFs at e
    split at e
    · cases e
    · rename_i y hy
      obtain ⟨ws', e1, rfl⟩ := Option.map_eq_some_iff.mp e
      rw [RFs]
      exact ⟨v, r, rfl, lkW_ok L hf w y v h1 hy, lkFs_ok L hf ws ws' r h2 e1⟩
end
theorem lkO_ok (L : Lk I2 I' n) (hf : ∀ (i : Nat) (w : W) (a : Addr), n ≤ i → f i = some w → I2.st[i]? = some a → RW G H I' w (.ref a)) {a : Addr} {o o' : O} (h : RO G H I2 a o) (e : lkO n f o = some o') : RO G H I' a o' := by
  cases o with
  | lst ws =>
    obtain ⟨vs, q, z⟩ := h
    unfold lkO at e
    obtain ⟨ws', e1, rfl⟩ := Option.map_eq_some_iff.mp e
    exact ⟨vs, q, lkWs_ok L hf _ _ _ z e1⟩
  | dct ws =>
    obtain ⟨vs, q, z⟩ := h
    unfold lkO at e
    obtain ⟨ws', e1, rfl⟩ := Option.map_eq_some_iff.mp e
    exact ⟨vs, q, lkKs_ok L hf _ _ _ z e1⟩
  | ins C ws =>
    obtain ⟨c, dx, vs, m, q, z⟩ := h
    unfold lkO at e
    obtain ⟨ws', e1, rfl⟩ := Option.map_eq_some_iff.mp e
    exact ⟨c, dx, vs, m, q, lkFs_ok L hf _ _ _ z e1⟩
theorem lkOs_get : ∀ {S S' : List O} {i : Nat} {o' : O}, lkOs n f S = some S' → S'[i]? = some o' → ∃ o, S[i]? = some o ∧ lkO n f o = some o'
  | [], _, _, _, e, h => by unfold lkOs at e; cases e; simp at h
  | x :: xs, _, i, o', e, h => by
    unfold lkOs at e
    split at e
    · cases e
    · rename_i y hy
      obtain ⟨ws', e1, rfl⟩ := Option.map_eq_some_iff.mp e
      cases i with
      | zero => simp at h; subst h; exact ⟨x, by simp, hy⟩
      | succ i =>
        obtain ⟨o, q1, q2⟩ := lkOs_get (i := i) e1 (by simpa using h)
        exact ⟨o, by simpa using q1, q2⟩
theorem lkOs_len : ∀ {S S' : List O}, lkOs n f S = some S' → S'.length = S.length
  | [], _, e => by unfold lkOs at e; cases e; rfl
  | x :: xs, _, e => by
    unfold lkOs at e
    split at e
    · cases e
    · obtain ⟨ws', e1, rfl⟩ := Option.map_eq_some_iff.mp e
      simp [lkOs_len e1]
/-- a thing from the n-th on, locked -/
theorem lkR_ok {S : So} {t : Bool} (L : Lk I2 I' n) (r : Rel G H I2 S) (ho : ∀ (i : Nat) (a : Addr), n ≤ i → I2.st[i]? = some a → Out I' t a) : ∀ (d i : Nat) (w : W) (a : Addr), n ≤ i → lkR n t S d i = some w → I2.st[i]? = some a → RW G H I' w (.ref a)
  | 0, _, _, _, _, e, _ => by unfold lkR at e; cases e
  | d + 1, i, w, a, hi, e, h => by
    unfold lkR at e
    have ih := lkR_ok L r ho d
    split at e
    · rename_i xs hS
      obtain ⟨vs, q, z⟩ := r.obj _ _ _ hS h
      obtain ⟨ws', e1, rfl⟩ := Option.map_eq_some_iff.mp e
      unfold RW
      exact ⟨a, vs, rfl, .inl ⟨q, ho i a hi h⟩, lkWs_ok L ih _ _ _ z e1⟩
    · rename_i xs hS
      obtain ⟨vs, q, z⟩ := r.obj _ _ _ hS h
      obtain ⟨ws', e1, rfl⟩ := Option.map_eq_some_iff.mp e
      unfold RW
      exact ⟨a, vs, rfl, ⟨q, ho i a hi h⟩, lkKs_ok L ih _ _ _ z e1⟩
    · rename_i C fs hS
      obtain ⟨c, dx, vs, m, q, z⟩ := r.obj _ _ _ hS h
      obtain ⟨ws', e1, rfl⟩ := Option.map_eq_some_iff.mp e
      unfold RW
      exact ⟨a, c, dx, vs, rfl, m, .inl ⟨q, ho i a hi h⟩, lkFs_ok L ih _ _ _ z e1⟩
    · cases e
end
section
variable {G : Gd} {H : Hp} {I I0 : Ix}
mutual
/-- what is free may be handed out of a borrowing -/
theorem free_ok (hout : ∀ a, Out I0 false a → Out I false a) : ∀ (w : W) (v : V), RW G H I0 w v → freeW w = true → RW G H I w v
  | .non, _, h, _ => by unfold RW at h ⊢; exact h
  | .bl _, _, h, _ => by unfold RW at h ⊢; exact h
  | .int _, _, h, _ => by unfold RW at h ⊢; exact h
  | .str _, _, h, _ => by unfold RW at h ⊢; exact h
  | .ty _, _, h, _ => by unfold RW at h ⊢; exact h
  | .glo _, _, h, _ => by unfold RW at h ⊢; exact h
  | .ref i, _, _, e => by unfold freeW at e; cases e
  | .tup ws, _, h, e => by
    unfold RW at h
    obtain ⟨a, vs, rfl, s, z⟩ := h
    unfold freeW at e
    unfold RW
    exact ⟨a, vs, rfl, s, frees_ok hout ws vs z e⟩
  | .fl t ws, _, h, e => by
    unfold RW at h
    obtain ⟨a, vs, rfl, s, z⟩ := h
    unfold freeW at e
    rw [Bool.and_eq_true] at e
    have ht : t = false := by simpa using e.1
    subst ht
    unfold RW
    exact ⟨a, vs, rfl, s.imp (fun q => ⟨q.1, hout _ q.2⟩) id, frees_ok hout ws vs z e.2⟩
  | .fd t ws, _, h, e => by
    unfold RW at h
    obtain ⟨a, vs, rfl, s, z⟩ := h
    unfold freeW at e
    rw [Bool.and_eq_true] at e
    have ht : t = false := by simpa using e.1
    subst ht
    unfold RW
    exact ⟨a, vs, rfl, ⟨s.1, hout _ s.2⟩, freeks_ok hout ws vs z e.2⟩
  | .fins t C ws, _, h, e => by
    unfold RW at h
    obtain ⟨a, c, dx, vs, rfl, m, s, z⟩ := h
    unfold freeW at e
    rw [Bool.and_eq_true] at e
    have ht : t = false := by simpa using e.1
    subst ht
    unfold RW
    exact ⟨a, c, dx, vs, rfl, m, s.imp (fun q => ⟨q.1, hout _ q.2⟩) (fun q => ⟨⟨q.1.1, hout _ q.1.2⟩, q.2.1, hout _ q.2.2⟩), freefs_ok hout ws vs z e.2⟩
theorem frees_ok (hout : ∀ a, Out I0 false a → Out I false a) : ∀ (w : List W) (v : List V), RWs G H I0 w v → freeWs w = true → RWs G H I w v
  | [], _, h, _ => by rw [h.inv0]; exact .nil
  | w :: ws, _, h, e => by
    obtain ⟨v, r, rfl, h1, h2⟩ := h.inv
    unfold freeWs at e
    rw [Bool.and_eq_true] at e
    exact .cons (free_ok hout w v h1 e.1) (frees_ok hout ws r h2 e.2)
theorem freeks_ok (hout : ∀ a, Out I0 false a → Out I false a) : ∀ (w : List (Kd × W)) (v : List (Key × V)), RKs G H I0 w v → freeKs w = true → RKs G H I w v
  | [], _, h, _ => by rw [h.inv0]; exact .nil
  | (k, w) :: ws, _, h, e => by
    obtain ⟨q, v, r, rfl, ek, h1, h2⟩ := h.inv
    unfold freeKs at e
    rw [Bool.and_eq_true] at e
    exact .cons ek (free_ok hout w v h1 e.1) (freeks_ok hout ws r h2 e.2)
theorem freefs_ok (hout : ∀ a, Out I0 false a → Out I false a) : ∀ (w : List (Str × W)) (v : List (Str × V)), RFs G H I0 w v → freeFs w = true → RFs G H I w v
  | [], _, h, _ => by unfold RFs at h ⊢; exact h
  | (k, w) :: ws, _, h, e => by
    rw [RFs] at h
    obtain ⟨v, r, rfl, h1, h2⟩ := h
    unfold freeFs at e
    rw [Bool.and_eq_true] at e
    rw [RFs]
    exact ⟨v, r, rfl, free_ok hout w v h1 e.1, freefs_ok hout ws r h2 e.2⟩
end
end
section
variable {G : Gd} {E : XK} {H : Hp} {I : Ix} {S : So} {Q : VK} {r : Res W}
theorem pre_mem {l m : List Addr} (p : l <+: m) {i : Nat} {a : Addr} (hi : i < l.length) (h : m[i]? = some a) : l[i]? = some a := by
  obtain ⟨t, rfl⟩ := p
  rw [List.getElem?_append_left hi] at h; exact h
/-- behind a def that locks -/
theorem RE.lock (rl : Rel G H I S) (h : RE G (EKof G E) H I (kV' G Q) (lockR S.length r)) : RE G (EKof G E) H I (kV' G Q) r := by
  have core : ∀ {H2 : Hp} {I2 : Ix} {S2 : So}, Keep H I H2 I2 → Rel G H2 I2 S2 → Lk I2 I S.length ∧ (∀ (i : Nat) (w : W) (a : Addr), S.length ≤ i → lkR S.length false S2 deepS i = some w → I2.st[i]? = some a → RW G H2 I w (.ref a)) ∧ Keep H I H2 I ∧
      ∀ S', lkOs S.length (lkR S.length false S2 deepS) (S2.take S.length) = some S' → Rel G H2 I S' := by
    intro H2 I2 S2 k2 r2
    have hl : I.st.length = S.length := rl.len
    have hle : S.length ≤ S2.length := by
      rw [← r2.len, ← hl]; exact k2.st.length_le
    have hsub : ∀ a, a ∈ I.st → a ∈ I2.st := fun a z => k2.st.subset z
    have L : Lk I2 I S.length := ⟨fun i a hi e => pre_mem k2.st (by omega) e, fun t a x => ⟨fun z => x.st (hsub a z), by rw [← k2.bd]; exact x.bd, by rw [← k2.bz]; exact x.bz⟩⟩
    have ho : ∀ (i : Nat) (a : Addr), S.length ≤ i → I2.st[i]? = some a → Out I false a := fun i a hi e => by
      have hm : a ∈ I2.st := List.mem_of_getElem? e
      refine ⟨fun z => ?_, fun z => (r2.bt a (.inr (by rw [k2.bd]; exact z))).2 hm, fun _ z => (r2.bt a (.inl (by rw [k2.bz]; exact z))).2 hm⟩
      obtain ⟨j, hj⟩ := List.getElem?_of_mem z
      have hj2 : j < I.st.length := (List.getElem?_eq_some_iff.mp hj).1
      have := r2.nd j i a (pre_get k2.st hj) e
      omega
    have hf := lkR_ok (t := false) L r2 ho deepS
    have kk : Keep H I H2 I := ⟨List.prefix_refl _, rfl, rfl, fun a o e n => ⟨(k2.kp a o e n).1, n⟩, k2.tup, k2.frz, k2.xd⟩
    refine ⟨L, hf, kk, fun S' e => ⟨?_, rl.nd, fun i o a e1 e2 => ?_, fun a z => ?_⟩⟩
    · rw [hl, lkOs_len e, List.length_take]; omega
    · obtain ⟨o0, q1, q2⟩ := lkOs_get e e1
      have hi : i < S.length := by rw [← hl]; exact (List.getElem?_eq_some_iff.mp e2).1
      rw [List.getElem?_take_of_lt hi] at q1
      exact lkO_ok L hf (r2.obj i o0 a q1 (pre_get k2.st e2)) q2
    · have q := r2.bt a (z.imp (fun q => by rw [k2.bz]; exact q) fun q => by rw [k2.bd]; exact q)
      exact ⟨q.1, fun z => q.2 (hsub a z)⟩
  cases r with
  | bad => exact h
  | ok w S2 =>
    intro H2 I2 k2 r2 v hv
    obtain ⟨L, hf, kk, hr⟩ := core k2 r2
    simp only [lockR] at h
    split at h
    · rename_i w' S' e1 e2
      exact h H2 I kk (hr S' e2) v (lkW_ok L hf w w' v hv e1)
    · exact False.elim h
  | exn x S2 =>
    intro H2 I2 k2 r2
    obtain ⟨L, hf, kk, hr⟩ := core k2 r2
    simp only [lockR] at h
    split at h
    · rename_i fs S' e1 e2
      obtain ⟨C, e, q⟩ := h H2 I kk (hr S' e2)
      exact ⟨C, e, fun d vs hd rf => q d vs hd (lkFs_ok L hf _ _ _ rf e1)⟩
    · exact False.elim h
/-- the addresses of one who borrows -/
def Ix.bor (I : Ix) : Ix := ⟨[], I.st ++ I.bz, I.bd⟩
theorem bor_rel (rl : Rel G H I S) : Rel G H I.bor [] :=
  ⟨rfl, fun i j a e => by simp [Ix.bor] at e, fun i o a e => by simp at e, fun a z => ⟨by
    rcases z with z | z
    · rcases List.mem_append.mp z with z | z
      · obtain ⟨u, q, _⟩ := rl.thereM z; rw [q]; simp
      · exact (rl.bt a (.inl z)).1
    · exact (rl.bt a (.inr z)).1, fun q => by cases q⟩⟩
theorem bor_args (rl : Rel G H I S) {ws us : List W} {vs : List V} (z : RWs G H I ws vs) (e : lkWs 0 (lkR 0 true S deepS) ws = some us) : RWs G H I.bor us vs := by
  have L : Lk I I.bor 0 := ⟨fun i a hi => by omega, fun t a x => ⟨by simp [Ix.bor], x.bd, fun ht q => (List.mem_append.mp q).elim x.st (x.bz ht)⟩⟩
  exact lkWs_ok L (lkR_ok (t := true) L rl (fun i a _ hi => ⟨by simp [Ix.bor], fun q => (rl.bt a (.inr q)).2 (List.mem_of_getElem? hi), fun q => by cases q⟩) deepS) ws us vs z e
theorem RE.borrow (rl : Rel G H I S) (h : RE G (EKof G E) H I (kV' G Q) (backR S (lockR 0 r))) : RE G (EKof G E) H I.bor (kV' G Q) r := by
  have core : ∀ {H2 : Hp} {I2 : Ix} {S2 : So}, Keep H I.bor H2 I2 → Rel G H2 I2 S2 → Lk I2 I.bor 0 ∧ (∀ (i : Nat) (w : W) (a : Addr), 0 ≤ i → lkR 0 false S2 deepS i = some w → I2.st[i]? = some a → RW G H2 I.bor w (.ref a)) ∧ Keep H I H2 I ∧ Rel G H2 I S := by
    intro H2 I2 S2 k2 r2
    have L : Lk I2 I.bor 0 := ⟨fun i a hi => by omega, fun t a x => ⟨by simp [Ix.bor], by have := x.bd; rw [k2.bd] at this; exact this, fun ht => by have := x.bz ht; rw [k2.bz] at this; exact this⟩⟩
    have ho : ∀ (i : Nat) (a : Addr), 0 ≤ i → I2.st[i]? = some a → Out I.bor false a := fun i a _ e => by
      have hm : a ∈ I2.st := List.mem_of_getElem? e
      exact ⟨by simp [Ix.bor], fun z => (r2.bt a (.inr (by rw [k2.bd]; exact z))).2 hm, fun _ z => (r2.bt a (.inl (by rw [k2.bz]; exact z))).2 hm⟩
    have all : ∀ a o, H a = some o → H2 a = some o := fun a o e => (k2.kp a o e (by simp [Ix.bor])).1
    have kk : Keep H I H2 I := ⟨List.prefix_refl _, rfl, rfl, fun a o e n => ⟨all a o e, n⟩, k2.tup, k2.frz, k2.xd⟩
    refine ⟨L, lkR_ok (t := false) L r2 ho deepS, kk, rl.len, rl.nd, fun i o a e1 e2 => ?_, fun a z => ?_⟩
    · have q := rl.obj i o a e1 e2
      obtain ⟨u, hu, _⟩ := q.some
      exact q.mono kk ((all a u hu).trans hu.symm)
    · obtain ⟨q1, q2⟩ := rl.bt a z
      refine ⟨?_, q2⟩
      cases q : H a with
      | none => exact absurd q q1
      | some o => rw [all a o q]; simp
  have hout : ∀ a, Out I.bor false a → Out I false a := fun a x => ⟨fun z => x.bz rfl (List.mem_append_left _ z), x.bd, fun _ z => x.bz rfl (List.mem_append_right _ z)⟩
  cases r with
  | bad => exact h
  | ok w S2 =>
    intro H2 I2 k2 r2 v hv
    obtain ⟨L, hf, kk, hr⟩ := core k2 r2
    simp only [lockR] at h
    split at h
    · rename_i w' S' e1 e2
      simp only [backR] at h
      split at h
      · rename_i fr
        exact h H2 I kk hr v (free_ok hout w' v (lkW_ok L hf w w' v hv e1) fr)
      · exact False.elim h
    · exact False.elim h
  | exn x S2 =>
    intro H2 I2 k2 r2
    obtain ⟨L, hf, kk, hr⟩ := core k2 r2
    simp only [lockR] at h
    split at h
    · rename_i fs S' e1 e2
      simp only [backR] at h
      split at h
      · rename_i fr
        obtain ⟨C, e, q⟩ := h H2 I kk hr
        exact ⟨C, e, fun d vs hd rf => q d vs hd (freefs_ok hout _ _ (lkFs_ok L hf _ _ _ rf e1) fr)⟩
      · exact False.elim h
    · exact False.elim h
/-- a def's call, whatever it locks or borrows: its body, over some store -/
theorem RE.body {P : Pg} {call : Cf} {fi : Fi} {ws : List W} {vs : List V} (rl : Rel G H I S) (z : RWs G H I ws vs) (h : RE G (EKof G E) H I (kV' G Q) (if fi.bw = true then match lkWs 0 (lkR 0 true S deepS) ws with
          | none => .bad
          | some us => backR S (lockR 0 (bodyN P call fi us []))
        else if fi.fz = true then lockR S.length (bodyN P call fi ws S)
        else bodyN P call fi ws S)) : ∃ I' S' us, Rel G H I' S' ∧ RWs G H I' us vs ∧ RE G (EKof G E) H I' (kV' G Q) (bodyN P call fi us S') := by
  split at h
  · split at h
    · exact False.elim h
    · rename_i us e
      exact ⟨I.bor, [], us, bor_rel rl, bor_args rl z e, RE.borrow rl h⟩
  · split at h
    · exact ⟨I, S, ws, rl, z, RE.lock rl h⟩
    · exact ⟨I, S, ws, rl, z, h⟩
end
end Y

/-! Defs: each def of the table keeps its promise, at any depth of calls. -/
namespace Y
open PySem PySem.Spec L2 PyProof.Rows
/-- how a def of the table stands behind the top -/
structure DefAt (K : PySem.W.Frag) (mg : Str → Option Value) (f : Str) (fi : Fi) (fa : Addr) (fd : FuncData) : Prop where
  cal : CalF K mg f fi fa (BF fd)
  ex : ∃ (x qual : Str) (oc : Value) (od : Option Addr) (kV doc pm : Value) (an : Option Addr) (cdv ct : Value) (osl : Array (Option Value)),
    fd = PySem.W.fnOf x qual (defArgs fi.st) (defBody fi.st) (defScope fi.st) .none kV doc pm an cdv ct ∧ K.lookup fa = some ⟨oc, od, .func fd, osl⟩ ∧ PySem.W.codeIn K cdv qual = true
  sc : FnScope fi.N fi.ps (defScope fi.st)
section
variable {Pr : Program} {w : World} {K : PySem.W.Frag} {mg : Str → Option Value} {base : Heap}
theorem fnG_of {cxt : CXT} {k : Nat} {fa : Addr} {nm ql : Str} {pars : Arguments} {bd : List Stmt} {sc : Scope} {d1 d2 d3 d4 cdv ct oc : Value} {an od : Option Addr} {osl : Array (Option Value)} {N ps : List Str} {sp : Sp}
    (look : K.lookup fa = some ⟨oc, od, .func (PySem.W.fnOf nm ql pars bd sc d1 d2 d3 d4 an cdv ct), osl⟩) (code : PySem.W.codeIn K cdv ql = true) (F : FnScope N ps sc) (hlen : ∀ vs H Q E, sp vs H Q E → vs.length = ps.length)
    (bodyOk : ∀ (A : Around) (outer : List Env) (s : Shared) (H : Hp) (vs : List V) (Q : VK) (E : XK), Room k (A.deeper (envOfC ql sc s.heap.objs.size fa cdv)) → A.guards = some [] → Sys base → sp vs H Q E →
      ∃ t, PSs (cxOf cxt Pr w K mg base N ql sc fa cdv A outer s H E) bd t ∧ t { nx := fun _ H' => Q .non H', rt := Q } (L2.start N vs) H) (sys : Sys base) :
    FnG Pr w K mg base cxt (k + 1) fa (BF (PySem.W.fnOf nm ql pars bd sc d1 d2 d3 d4 an cdv ct)) ps sp where
  len := hlen
  run := by
    intro A outer s H args us vs Q E room grd e0 bnd rel prom
    have lens := hlen _ _ _ _ prom
    have inK : K.In s.heap := e0.mod.kin.keeps fun b o q => (e0.bs b o q).1
    have noLim : s.heap.NoLimit := e0.mod.nolimit.keeps fun b o q => (e0.bs b o q).1
    refine codeAny_call_function room.depth (inK _ _ look) rfl F.co F.gen rfl (PySem.W.codeRec_of inK code) (bnd _ _ _ _ ?_)
    refine wpAny_newFunctionEnv_cells F.kind (fun y hy => ?_) fun env he s1 x => ?_
    · obtain ⟨n, v⟩ := y
      exact (F.par n (List.of_mem_zip hy).1).imp id fun q => ⟨q, PySem.W.cellsFrom_some _ _ _ (.inl q)⟩
    · subst he
      obtain ⟨t, body, fin⟩ := bodyOk A outer s H vs Q E (room.deeper _) grd sys prom
      have I0 : Inv (cxOf cxt Pr w K mg base N ql sc fa cdv A outer s H E) [] (L2.start N vs) H s1 := inv_start F room.hd e0 lens rel x
      refine ⟨noLim.keeps x.toInCall.keep, codeAny_func (wpAny_mono (body.run [] s1 (L2.start N vs) H _ I0 fin) (fun fl s' q => ?_) fun e s' q => q)⟩
      cases fl with
      | ret u => obtain ⟨v, σ', H', J, r, z⟩ := q; exact ⟨v, H', J.os, J.bare, J.base, J.hok, r, z⟩
      | next => obtain ⟨σ', H', J, z⟩ := q; exact ⟨.non, H', J.os, J.bare, J.base, J.hok, rfl, z⟩
      | brk => obtain ⟨_, _, _, z⟩ := q; exact z.elim
      | cont => obtain ⟨_, _, _, z⟩ := q; exact z.elim
end
/-- how an own error's class stands behind the top -/
structure ErAt (Pr : Program) (K : PySem.W.Frag) (mg : Str → Option Value) (f x : Str) (fi : Fi) : Prop where
  ps : fi.ps = [x]
  kws : fi.kws = [(0, [x])]
  bd : BindsEr x
  cl : ∃ C fI, mg f = some (.ref C) ∧ PySem.W.keepIn K (.ref C) = true ∧ ErT Pr K C fI x
/-- the table as it stands -/
structure TabE (P : Pg) (Pr : Program) (K : PySem.W.Frag) (mg : Str → Option Value) : Prop where
  defs : ∀ f fi, P.F f = some fi → P.er f = none → ∃ fa fd, DefAt K mg f fi fa fd
  ers : ∀ f fi x, P.F f = some fi → P.er f = some x → ErAt Pr K mg f x fi
  glb : GOk K mg P
  bi : ∀ x ∈ ("range" : Str) :: builtins, P.F x = none → mg x = none
  en : P.en = true → mg "enumerate" = none
  erc : ErsOk P K mg
  isa : IsaOk P K mg
/-- the table as it stands, where there is no own error -/
structure TabAt (P : Pg) (K : PySem.W.Frag) (mg : Str → Option Value) : Prop where
  defs : ∀ f fi, P.F f = some fi → ∃ fa fd, DefAt K mg f fi fa fd
  glb : GOk K mg P
  bi : ∀ x ∈ ("range" : Str) :: builtins, P.F x = none → mg x = none
theorem TabAt.toE {P : Pg} {Pr : Program} {K : PySem.W.Frag} {mg : Str → Option Value} (T : TabAt P K mg) (h1 : P.er = fun _ => none) (h2 : P.isa = fun _ _ => none) (h3 : P.en = false) : TabE P Pr K mg where
  defs := fun f fi h _ => T.defs f fi h
  ers := fun f fi x _ h => by rw [h1] at h; cases h
  glb := T.glb
  bi := T.bi
  en := fun h => by rw [h3] at h; cases h
  erc := fun C x h => by rw [h1] at h; cases h
  isa := fun C D b h => by rw [h2] at h; cases h
theorem er_cal {Pr : Program} {K : PySem.W.Frag} {mg : Str → Option Value} {f x : Str} {fi : Fi} {C : Addr} (A : ErAt Pr K mg f x fi) (hm : mg f = some (.ref C)) (hk : PySem.W.keepIn K (.ref C) = true) : CalF K mg f fi C (BE x) where
  mg := hm
  kp := hk
  bind := fun s us hl => by
    rw [A.ps] at hl ⊢
    match us, hl with
    | [v], _ => exact ⟨v, rfl, .inl rfl⟩
  kws := fun n ks h => by
    rw [A.kws] at h
    rw [List.mem_singleton] at h
    cases h
    rw [A.ps]
    refine ⟨rfl, fun us ws h1 h2 => ?_⟩
    match us, h1, ws, h2 with
    | [], _, [v], _ =>
      have e : ordK [x] [x] ([] : List Value) [v] = [v] := by
        unfold ordK
        simp
      rw [e]
      exact ⟨rfl, fun s => ⟨v, rfl, .inr rfl⟩⟩
theorem start_ok {G : Gd} {H : Hp} {I : Ix} {ws : List W} {vs : List V} {N : List Str} (z : RWs G H I ws vs) : RS G H I (ws.map some ++ List.replicate (N.length - ws.length) none) (L2.start N vs) := by
  have hl := z.len
  refine ⟨by unfold L2.start; simp [hl], fun i w h => ?_⟩
  unfold L2.start
  by_cases hi : i < ws.length
  · rw [List.getElem?_append_left (by simpa using hi), List.getElem?_map] at h
    cases q : ws[i]? with
    | none => rw [q] at h; cases h
    | some x =>
      rw [q] at h; cases h
      obtain ⟨v, e, r⟩ := z.get q
      exact ⟨v, by rw [List.getElem?_append_left (by rw [List.length_map, ← hl]; exact hi), List.getElem?_map, e]; rfl, r⟩
  · rw [List.getElem?_append_right (by simpa using hi), List.getElem?_replicate] at h
    split at h <;> cases h
theorem spZ_len {G : Gd} {call : Cf} {f : Str} {n : Nat} {vs : List V} {H : Hp} {Q : VK} {E : XK} (h : spZ G call f n vs H Q E) : vs.length = n := by
  obtain ⟨I, S, ws, rl, z, hl, _⟩ := h
  rw [← z.len]; exact hl
/-- EVERY DEF -/
theorem fn_all {P : Pg} {Pr : Program} {w : World} {K : PySem.W.Frag} {mg : Str → Option Value} {base : Heap} (T : TabE P Pr K mg) (sys : Sys base) : ∀ (k : Nat) (f : Str) (fi : Fi), P.F f = some fi → P.er f = none → ∀ (fa : Addr) (fd : FuncData), DefAt K mg f fi fa fd →
    FnG Pr w K mg base (L2.CX Pr w) k fa (BF fd) fi.ps (spZ ⟨K, mg⟩ (callN P k) f fi.ps.length)
  | 0, f, fi, hf, he, fa, fd, D => ⟨fun vs H Q E h => spZ_len h, fun A outer s H args us vs Q E _ _ _ _ _ h => by obtain ⟨I, S, ws, _, _, _, h⟩ := h; exact False.elim h⟩
  | k + 1, f, fi, hf, he, fa, fd, D => by
    obtain ⟨x, qual, oc, od, kV, doc, pm, an, cdv, ct, osl, rfl, lk, hcd⟩ := D.ex
    refine fnG_of lk hcd D.sc (fun vs H Q E h => spZ_len h) (fun A outer s H vs Q E hr hg sys h => ?_) sys
    obtain ⟨I0, S0, ws0, rl0, z0, hl0, h⟩ := h
    unfold callN at h
    simp only [hf, hl0, he, if_true, Option.isSome_none, Bool.false_eq_true, if_false] at h
    obtain ⟨I, S, ws, rl, z, h⟩ := RE.body (call := callN P k) rl0 z0 h
    have hl : ws.length = fi.ps.length := by rw [z.len, ← z0.len]; exact hl0
    have C : Cz P (callN P k) (L2.CX Pr w) k ⟨fi.N, defScope fi.st, fun _ => true⟩ ⟨K, mg⟩ E (cxOf (L2.CX Pr w) Pr w K mg base fi.N qual (defScope fi.st) fa cdv A outer s H E) :=
      { hN := rfl
        nd := D.sc.nd
        sc := rfl
        kind := D.sc.kind
        K := rfl
        mg := rfl
        calm := rfl
        room := hr
        grd := hg
        sys := sys
        fn := fun _ _ => rfl
        glb := T.glb
        bi := T.bi
        en := T.en
        er := T.erc
        isa := T.isa
        cal := fun g gi hg => by
          cases hge : P.er g with
          | none =>
            obtain ⟨ga, gd, Dg⟩ := T.defs g gi hg hge
            exact ⟨ga, BF gd, Dg.cal, fn_all T sys k g gi hg hge ga gd Dg⟩
          | some x =>
            have Ag := T.ers g gi x hg hge
            obtain ⟨gc, fI, hm, hk, TE⟩ := Ag.cl
            refine ⟨gc, BE x, er_cal Ag hm hk, ?_⟩
            cases k with
            | zero => exact ⟨fun vs H Q E h => spZ_len h, fun A outer s H args us vs Q E _ _ _ _ _ h => by obtain ⟨I, S, ws, _, _, _, h⟩ := h; exact False.elim h⟩
            | succ k => exact erG hg Ag.ps hge hm TE Ag.bd
        px := passes_call (takes_of rfl rfl rfl rfl) fun _ _ _ _ h => h
        p0 := fun _ _ _ _ _ ⟨_, _, _, _, _, _, _, _, _, _, _, _, h⟩ => h }
    have po : PassesOwn (model Pr w) (A.deeper (envOfC qual (defScope fi.st) s.heap.objs.size fa cdv)) (envOfC qual (defScope fi.st) s.heap.objs.size fa cdv) (cxOf (L2.CX Pr w) Pr w K mg base fi.N qual (defScope fi.st) fa cdv A outer s H E).xe :=
      passes_of (X := cxOf (L2.CX Pr w) Pr w K mg base fi.N qual (defScope fi.st) fa cdv A outer s H E) rfl
    refine ⟨_, ss_blk (f := fun x e S => execS P (callN P k) deepT ⟨fi.N, defScope fi.st, fun _ => true⟩ x e S) (ss_all deepT _ _ _ C po) (defBody fi.st), I, S, ws.map some ++ List.replicate (fi.N.length - ws.length) none, rl, start_ok z, ?_⟩
    unfold bodyN at h
    rw [hl] at h ⊢
    refine (RE.bind h).imp fun r S1 H1 I1 k1 rl1 h1 => ?_
    obtain ⟨e1, fl⟩ := r
    cases fl with
    | nx => exact fun σ' _ => RE.now (k := kV' _ Q) h1 rl1 .non (by unfold RW; rfl)
    | ret w => exact RE.now (k := kV' _ Q) h1 rl1
    | brk => exact False.elim h1
    | ct => exact False.elim h1
end Y

/-! The end: a law of the program, from the reader's answer. -/
namespace Y
open PySem PySem.Spec L2 PyProof.Rows
theorem ints_W {G : Gd} {H : Hp} {I : Ix} : ∀ ns : List Int, RWs G H I (ns.map W.int) (ns.map V.int)
  | [] => .nil
  | n :: r => .cons (by unfold RW; rfl) (ints_W r)
/-- behind the top, from a heap of which nothing is tracked but the script a -/
theorem law_mid {P : Pg} {Pr : Program} {w : World} {K : PySem.W.Frag} {mg mb : Str → Option Value} {kd : Nat} {fa a : Addr} {fi : Fi} {nm : Str} {s₁ : Shared} {vs : List Value} {ns : List Int} {H : Hp}
    (inK : K.In s₁.heap) (gl : s₁.heap.Ns mainGlobals mg) (bl : s₁.heap.Ns builtinsNs mb) (bb : ∀ x : Str, x ≠ "__name__" → mb x = bootBuiltins x) (nl : s₁.heap.NoLimit) (nt : s₁.heap.NoSeer) (gs : s₁.gens = #[])
    (ob : s₁.heap.get? a = some { cls := .type "list", data := .seq vs.toArray }) (room : Room kd callerA) (T : TabE P Pr K mg) (hF : P.F nm = some fi) (he : P.er nm = none) (hm : mg nm = some (.ref fa)) (h1 : fi.ps.length = 1)
    (only : ∀ b, H b = none ∨ (b = a ∧ K.lookup a = none ∧ ∃ o xs, H b = some (.frz o (.lst xs)))) (hS : FzL K H ⟨[], [], []⟩ false a (ns.map V.int)) (hok : HOk Pr w H s₁.heap)
    (ans : ∃ S, callN P kd nm [.fl false (ns.map W.int)] [] = .ok (.bl true) S) :
    codeAny (model Pr w) callerA (.call (.ref fa) ⟨[.ref a], []⟩) (fun r s' => r = .ok (.ret (.bool true)) ∧ OldK s₁.heap s'.heap ∧ s'.os = s₁.os ∧ AllBare s'.gens) s₁ := by
  have clear : ∀ {b : Addr} {o : Obj}, s₁.heap.get? b = some o → (b = a → K.lookup a ≠ none ∨ ∃ es ep, o.data = .dict es ep) → H b = none := fun {b o} e q => by
    rcases only b with z | ⟨rfl, z, _⟩
    · exact z
    · rcases q rfl with q | ⟨es, ep, q⟩
      · exact absurd z q
      · rw [ob] at e; cases e; cases q
  have keepNs : ∀ {b : Addr} {m : Str → Option Value}, s₁.heap.Ns b m → (hidT s₁.heap H).Ns b m := fun {b m} ⟨o, es, ep, e, d, r⟩ => ⟨o, es, ep, hidT_get e (clear e fun _ => .inr ⟨es, ep, d⟩), d, r⟩
  have inK2 : K.In (hidT s₁.heap H) := fun b o e => hidT_get (inK b o e) (clear (inK b o e) fun q => .inl (by subst q; rw [e]; simp))
  have md : Mod K mg (hidT s₁.heap H) := ⟨inK2, keepNs gl, ⟨mb, keepNs bl, bb⟩, by obtain ⟨mc, q1, q2⟩ := nl; exact ⟨mc, keepNs q1, q2⟩⟩
  have env : Env0 Pr w K mg (hidT s₁.heap H) callerA [] s₁ H := ⟨rfl, md, fun b o e => of_hidT e, Nat.le_of_eq (hidT_size _ _), trivial, fun b q => (by cases q), hok, .of_eq gs⟩
  have sys : Sys (hidT s₁.heap H) := by
    obtain ⟨mm, q, _⟩ := nt.mods
    obtain ⟨o, es, ep, e, d, _⟩ := keepNs q
    exact ⟨o, es, ep, e, d⟩
  obtain ⟨ga, gd, D⟩ := T.defs nm fi hF he
  obtain rfl : fa = ga := by
    have q := D.cal.mg
    rw [hm] at q; cases q; rfl
  obtain ⟨S, ea⟩ := ans
  have fin := (fn_all (Pr := Pr) (w := w) T sys kd nm fi hF he fa gd D).run callerA [] s₁ H ⟨[.ref a], []⟩ [.ref a] [.ref a] (fun v _ => v = .bl true) (fun _ _ _ => False) room rfl env (D.cal.bind s₁ [.ref a] (by rw [h1]; rfl)) (.cons rfl .nil)
    ⟨⟨[], [], []⟩, [], [.fl false (ns.map W.int)], ⟨rfl, fun i j b e => by simp at e, fun i o b e => by simp at e, fun b z => by simp at z⟩, .cons (by unfold RW; exact ⟨a, _, rfl, hS, ints_W ns⟩) .nil, by rw [h1]; rfl, by
      rw [ea]
      intro H2 I2 k2 rl2 v hv
      unfold RW at hv
      exact hv⟩
  refine codeAny_mono fin fun r s' h => ?_
  cases r with
  | error e => obtain ⟨_, _, _, _, _, _, _, _, _, _, _, _, h⟩ := h; exact h.elim
  | ok fl =>
    cases fl with
    | next => exact False.elim h
    | brk => exact False.elim h
    | cont => exact False.elim h
    | ret u =>
      obtain ⟨v, H2, os, bare, un, hok2, rv, q⟩ := h
      have q : v = .bl true := q
      subst q
      obtain rfl : u = Value.bool true := rv
      refine ⟨rfl, OldK.of_keep fun b o e => ?_, os, bare⟩
      rcases only b with z | ⟨_, _, o2, xs, z⟩
      · exact un.keep b o e z (by intro q; cases q) (by simp)
      · have z2 := un.frzs b o2 _ z
        obtain ⟨e1, _⟩ := hok b _ z
        obtain ⟨e2, _⟩ := hok2 b _ z2
        rw [e] at e1; cases e1
        exact e2
theorem law_end {P : Pg} {Pr : Program} {w : World} {K : PySem.W.Frag} {mg mb : Str → Option Value} {kd : Nat} {fa a : Addr} {fi : Fi} {nm : Str} {s₁ : Shared} {vs : List Value} {ns : List Int}
    (inK : K.In s₁.heap) (gl : s₁.heap.Ns mainGlobals mg) (bl : s₁.heap.Ns builtinsNs mb) (bb : ∀ x : Str, x ≠ "__name__" → mb x = bootBuiltins x) (nl : s₁.heap.NoLimit) (nt : s₁.heap.NoSeer) (gs : s₁.gens = #[])
    (ob : s₁.heap.get? a = some { cls := .type "list", data := .seq vs.toArray }) (it : IntsAre vs ns) (hl : ns.length ≤ sizeLine) (room : Room kd callerA) (T : TabE P Pr K mg) (hF : P.F nm = some fi) (he : P.er nm = none) (hm : mg nm = some (.ref fa)) (h1 : fi.ps.length = 1)
    (ans : ∃ S, callN P kd nm [.fl false (ns.map W.int)] [] = .ok (.bl true) S) :
    codeAny (model Pr w) callerA (.call (.ref fa) ⟨[.ref a], []⟩) (fun r s' => r = .ok (.ret (.bool true)) ∧ OldK s₁.heap s'.heap ∧ s'.os = s₁.os ∧ AllBare s'.gens) s₁ := by
  have rv := vals_ints it
  have len := it.length
  cases hk : K.lookup a with
  | some o =>
    have e := inK a o hk
    rw [ob] at e
    cases e
    refine law_mid (H := fun _ => none) inK gl bl bb nl nt gs ob room T hF he hm h1 (fun b => .inl rfl) (.inr (.inr ⟨_, vs.toArray, _, hk, rfl, rfl, rfl, ?_, ?_⟩)) (fun b u z => by cases z) ans
    · rw [List.size_toArray, len]; exact hl
    · simpa using rv
  | none =>
    have here : (fun b => if b = a then some (HO.frz { cls := .type "list", data := .seq vs.toArray } (.lst (ns.map V.int))) else none) a = some (HO.frz { cls := .type "list", data := .seq vs.toArray } (.lst (ns.map V.int))) := if_pos rfl
    refine law_mid (H := fun b => if b = a then some (HO.frz { cls := .type "list", data := .seq vs.toArray } (.lst (ns.map V.int))) else none) inK gl bl bb nl nt gs ob room T hF he hm h1 (fun b => ?_) (.inr (.inl ⟨_, here⟩)) (fun b u z => ?_) ans
    · by_cases q : b = a
      · subst q; exact .inr ⟨rfl, hk, _, _, here⟩
      · exact .inl (if_neg q)
    · by_cases q : b = a
      · subst q
        have z2 := here.symm.trans z
        cases z2
        exact ⟨ob, by rw [List.length_map]; exact hl, vs, _, rv, ob⟩
      · have z2 := (if_neg q).symm.trans z
        cases z2
/-- the goal that the head leaves, from the reader's answer -/
theorem walkZE {l : PySem.W.OpenLaw} {n kd : Nat} {q : Program} {loose : List Str} {XP : (Str → Option Value) → Heap → Prop} {YP : World → Heap → Prop} {d : DefRec} {K : Params → PySem.W.Frag} {P : Pg} {fi : Fi}
    (most : l.most = some n) (most2 : n ≤ sizeLine) (nodf : d.params.defaults = []) (room : Room kd callerA) (seer : importsNone q = true) (inK : ∀ (w : World) (h : Heap), YP w h → (K w.params).In h)
    (T : ∀ (w : World) (mg : Str → Option Value) (h : Heap), (K w.params).In h → h.Ns mainGlobals mg → TabE P l.prog (K w.params) mg) (hF : P.F d.name = some fi) (he : P.er d.name = none) (h1 : fi.ps.length = 1)
    (ans : ∀ ns : List Int, ns.length ≤ n → (∀ z ∈ ns, Builtin.Int.intBits z ≤ 1048576) → ∃ S, callN P kd d.name [.fl false (ns.map W.int)] [] = .ok (.bl true) S) :
    PySem.W.WalkO q loose XP YP l.row.toRowW d [] (fun f vs => PySem.call f vs) := by
  refine Att.attach_callB most nodf fun w s₀ s₁ mg mb fa o pm cd doc a vs ns G Y ho hd hcd hm ob it len bits gs => ?_
  exact law_end (inK w _ Y) G.T.g G.T.b G.T.builtins G.T.nolimit (G.T.seer seer) gs ob it (Nat.le_trans len most2) room (T w mg _ (inK w _ Y) G.T.g) hF he hm h1 (ans ns len bits)
/-- .. where there is no own error -/
theorem walkZ {l : PySem.W.OpenLaw} {n kd : Nat} {q : Program} {loose : List Str} {XP : (Str → Option Value) → Heap → Prop} {YP : World → Heap → Prop} {d : DefRec} {K : Params → PySem.W.Frag} {P : Pg} {fi : Fi}
    (most : l.most = some n) (most2 : n ≤ sizeLine) (nodf : d.params.defaults = []) (room : Room kd callerA) (seer : importsNone q = true) (inK : ∀ (w : World) (h : Heap), YP w h → (K w.params).In h)
    (T : ∀ (w : World) (mg : Str → Option Value) (h : Heap), (K w.params).In h → h.Ns mainGlobals mg → TabAt P (K w.params) mg) (hF : P.F d.name = some fi) (h1 : fi.ps.length = 1)
    (ans : ∀ ns : List Int, ns.length ≤ n → (∀ z ∈ ns, Builtin.Int.intBits z ≤ 1048576) → ∃ S, callN P kd d.name [.fl false (ns.map W.int)] [] = .ok (.bl true) S) (e1 : P.er = fun _ => none := by rfl) (e2 : P.isa = fun _ _ => none := by rfl) (e3 : P.en = false := by rfl) :
    PySem.W.WalkO q loose XP YP l.row.toRowW d [] (fun f vs => PySem.call f vs) :=
  walkZE most most2 nodf room seer inK (fun w mg h X G => (T w mg h X G).toE e1 e2 e3) hF (by rw [e1]) h1 ans
end Y

/-! What the top has written, for the table. -/
namespace Y
open PySem PySem.Spec L2 PyProof.Rows
/-- how arguments bind, told by the parameters alone -/
def BindsAll (fi : Fi) : Prop := ∀ (x qual : Str) (kV doc pm : Value) (an : Option Addr) (cdv ct : Value),
  (∀ us : List Value, us.length = fi.ps.length → bindArgs (PySem.W.fnOf x qual (defArgs fi.st) (defBody fi.st) (defScope fi.st) .none kV doc pm an cdv ct) ⟨us, []⟩ = pure (fi.ps.zip us)) ∧
  ∀ (n : Nat) (ks : List Str), (n, ks) ∈ fi.kws → n + ks.length = fi.ps.length ∧ ∀ us ws : List Value, us.length = n → ws.length = ks.length → (ordK fi.ps ks us ws).length = fi.ps.length ∧ bindArgs (PySem.W.fnOf x qual (defArgs fi.st) (defBody fi.st) (defScope fi.st) .none kV doc pm an cdv ct) ⟨us, ks.zip ws⟩ = pure (fi.ps.zip (ordK fi.ps ks us ws))
theorem defAt_mk {K : PySem.W.Frag} {mg : Str → Option Value} {h : Heap} {f : Str} {fi : Fi} {fa : Addr} {x qual : Str} {oc : Value} {od : Option Addr} {kV doc pm : Value} {an : Option Addr} {cdv ct : Value} {osl : Array (Option Value)} (X : K.In h) (G : h.Ns mainGlobals mg)
    (a : PySem.W.nsIn K mainGlobals f = some (some (.ref fa))) (l : K.lookup fa = some ⟨oc, od, .func (PySem.W.fnOf x qual (defArgs fi.st) (defBody fi.st) (defScope fi.st) .none kV doc pm an cdv ct), osl⟩) (c : PySem.W.codeIn K cdv qual = true) (k : PySem.W.keepIn K (.ref fa) = true)
    (sc : FnScope fi.N fi.ps (defScope fi.st)) (b : BindsAll fi) : ∃ fa fd, DefAt K mg f fi fa fd :=
  ⟨fa, _, ⟨PySem.W.mg_of X G a, k, fun s us hl => .of_eq ((b x qual kV doc pm an cdv ct).1 us hl), fun n ks m => ⟨((b x qual kV doc pm an cdv ct).2 n ks m).1, fun us ws h1 h2 => ⟨(((b x qual kV doc pm an cdv ct).2 n ks m).2 us ws h1 h2).1, fun s => .of_eq (((b x qual kV doc pm an cdv ct).2 n ks m).2 us ws h1 h2).2⟩⟩⟩, ⟨x, qual, oc, od, kV, doc, pm, an, cdv, ct, osl, rfl, l, c⟩, sc⟩
/-- a place is told by its line, its column, its end's column -/
def atPos (l : List (Nat × Nat × Nat)) (p : Pos) : Bool := l.any fun q => q.1 == p.line && q.2.1 == p.col && q.2.2 == p.endCol
def pgT (gs : List (Str × W)) (fs : List (Str × Fi)) (mu : List (Nat × Nat × Nat)) : Pg := ⟨fun x => gs.lookup x, fun x => fs.lookup x, atPos mu, fun _ => none, fun _ _ => none, false⟩
theorem tab_mk {K : PySem.W.Frag} {mg : Str → Option Value} {gs : List (Str × W)} {fs : List (Str × Fi)} {mu : List (Nat × Nat × Nat)} (defs : ∀ p ∈ fs, ∃ fa fd, DefAt K mg p.1 p.2 fa fd) (glb : GOk K mg (pgT gs fs mu)) (bi : ∀ x ∈ ("range" : Str) :: builtins, mg x = none) : TabAt (pgT gs fs mu) K mg :=
  ⟨fun f fi h => defs (f, fi) (PySem.mem_of_lookup h), glb, fun x h _ => bi x h⟩
/-! ### own errors -/
def erFi (x : Str) : Fi := ⟨.Pass ⟨0, 0, 0, 0⟩, [x], [], [(0, [x])], false, false⟩
/-- a table with own errors: es: each class with its one thing; isas: its heirs' answers -/
def pgE (gs : List (Str × W)) (fs : List (Str × Fi)) (es : List (Str × Str)) (isa : Str → W → Option Bool) (mu : List (Nat × Nat × Nat)) : Pg := ⟨fun x => gs.lookup x, fun x => match es.lookup x with | some y => some (erFi y) | none => fs.lookup x, atPos mu, fun x => es.lookup x, isa, true⟩
theorem tab_mkE {Pr : Program} {K : PySem.W.Frag} {mg : Str → Option Value} {gs : List (Str × W)} {fs : List (Str × Fi)} {es : List (Str × Str)} {isa : Str → W → Option Bool} {mu : List (Nat × Nat × Nat)} (defs : ∀ p ∈ fs, ∃ fa fd, DefAt K mg p.1 p.2 fa fd) (ers : ∀ p ∈ es, ErAt Pr K mg p.1 p.2 (erFi p.2)) (erc : ∀ p ∈ es, ∃ c, mg p.1 = some (.ref c) ∧ ErC K c p.2)
    (glb : GOk K mg (pgE gs fs es isa mu)) (bi : ∀ x ∈ ("range" : Str) :: builtins, mg x = none) (en : mg "enumerate" = none) (hi : IsaOk (pgE gs fs es isa mu) K mg) : TabE (pgE gs fs es isa mu) Pr K mg where
  defs := fun f fi h he => by
    have h : (match es.lookup f with | some y => some (erFi y) | none => fs.lookup f) = some fi := h
    have he : es.lookup f = none := he
    rw [he] at h
    exact defs (f, fi) (PySem.mem_of_lookup h)
  ers := fun f fi x h he => by
    have h : (match es.lookup f with | some y => some (erFi y) | none => fs.lookup f) = some fi := h
    have he : es.lookup f = some x := he
    rw [he] at h
    cases h
    exact ers (f, x) (PySem.mem_of_lookup he)
  glb := glb
  bi := fun x h _ => bi x h
  en := fun _ => en
  erc := fun C x h => erc (C, x) (PySem.mem_of_lookup h)
  isa := hi
/-- whose heirs such classes are: their own, top, ValueError -/
def isaE (es : List (Str × Str)) (top : Str) : Str → W → Option Bool := fun C D => if (es.lookup C).isNone = true then none else match D with
  | .glo y => if y = C ∨ y = top then some true else if (es.lookup y).isSome = true then some false else none
  | .ty n => if n = "ValueError" then some true else none
  | _ => none
/-- told by the classes' addresses -/
theorem isa_mk {gs : List (Str × W)} {fs : List (Str × Fi)} {es : List (Str × Str)} {mu : List (Nat × Nat × Nat)} {K : PySem.W.Frag} {mg : Str → Option Value} {ads : List (Str × Addr)} {top : Str} {S : Addr} (erc : ∀ p ∈ es, ∃ c, mg p.1 = some (.ref c) ∧ ErC K c p.2)
    (hm : ∀ p ∈ ads, mg p.1 = some (.ref p.2)) (hs : mg top = some (.ref S)) (h1 : ads.map (·.1) = es.map (·.1)) (chk : (ads.all fun C => ((top, S) :: ads).all fun D => decide (PySem.W.kitOne K (.ref C.2) (.ref D.2) = some (decide (D.1 = C.1) || decide (D.1 = top)))) = true)
    (chv : (ads.all fun C => decide (PySem.W.kitOne K (.ref C.2) (.type "ValueError") = some true)) = true) : IsaOk (pgE gs fs es (isaE es top) mu) K mg := by
  intro C D b h
  have h : isaE es top C D = some b := h
  unfold isaE at h
  split at h
  · cases h
  · rename_i hn
    have inA : ∀ y, (es.lookup y).isSome = true → ∃ a x, (y, a) ∈ ads ∧ mg y = some (.ref a) ∧ ErC K a x := fun y hy => by
      obtain ⟨x, hx⟩ := Option.isSome_iff_exists.mp hy
      have m := PySem.mem_of_lookup hx
      have m2 : y ∈ ads.map (·.1) := by rw [h1]; exact List.mem_map_of_mem (f := (·.1)) m
      obtain ⟨p, hp, rfl⟩ := List.mem_map.mp m2
      obtain ⟨c, hc, T⟩ := erc _ m
      have hc2 := hm p hp
      have hc3 : mg p.1 = some (.ref c) := hc
      rw [hc2] at hc3
      cases hc3
      exact ⟨p.2, x, hp, hc2, T⟩
    obtain ⟨a, x, ha, hma, T⟩ := inA C (by
      cases q : es.lookup C with
      | none => rw [q] at hn; exact absurd rfl hn
      | some _ => rfl)
    have row := fun D hD => of_decide_eq_true (List.all_eq_true.mp (List.all_eq_true.mp chk _ ha) D hD)
    cases D with
    | glo y =>
      simp only at h
      split at h
      · rename_i hy
        cases h
        rcases hy with rfl | rfl
        · refine ⟨a, x, .ref a, hma, T, ⟨a, hma, rfl⟩, ?_⟩
          rw [row _ (List.mem_cons_of_mem _ ha)]
          simp
        · refine ⟨a, x, .ref S, hma, T, ⟨S, hs, rfl⟩, ?_⟩
          rw [row _ List.mem_cons_self]
          simp
      · rename_i hy
        split at h
        · rename_i hi
          cases h
          obtain ⟨d, _, hd, hmd, _⟩ := inA y hi
          refine ⟨a, x, .ref d, hma, T, ⟨d, hmd, rfl⟩, ?_⟩
          rw [row _ (List.mem_cons_of_mem _ hd)]
          rw [not_or] at hy
          simp [hy.1, hy.2]
        · cases h
    | ty n =>
      simp only at h
      split at h
      · rename_i hv
        cases h
        subst hv
        exact ⟨a, x, _, hma, T, rfl, of_decide_eq_true (List.all_eq_true.mp chv _ ha)⟩
      · cases h
    | _ => cases h
/-- the facts of one class -/
theorem er_mk {Pr : Program} {K : PySem.W.Frag} {mg : Str → Option Value} {h : Heap} {f x : Str} {c fI : Addr} {nm q : Str} {N : Addr} {bs bm : List Value} {sn : List Str} {sub : List Value} {ab : Bool} {col : Option Bool} {dd : Option Addr} {k0 k1 k2 k3 k5 : Option Value}
    {oc : Value} {od : Option Addr} {osl : Array (Option Value)} {qual msg : Str} {q1 q2 p0 p1 p2 p3 p4 p5 p6 p7 p8 p9 : Pos} {cc cda : Addr} {kV doc pm ct : Value} {an : Option Addr} {cl : Value} {cld : Option Addr} {csl : Array (Option Value)} {ccl : Value} {cdd : Option Addr} {vs : Array Value} {ccs : Array (Option Value)} {file : Str} {tf : Tok}
    (X : K.In h) (G : h.Ns mainGlobals mg) (a : PySem.W.nsIn K mainGlobals f = some (some (.ref c))) (kp : PySem.W.keepIn K (.ref c) = true) (l : K.lookup c = some (excClassObj nm q c N bs bm true sn sub ab col dd k0 k1 k2 k3 k5 "ValueError.__new__")) (bd : BindsEr x)
    (ini : PySem.W.findIn K (.ref c) "__init__" = some (some (.ref fI))) (ity : PySem.W.typeIn K (.ref fI) = some (.type "function"))
    (lf : K.lookup fI = some ⟨oc, od, .func (PySem.W.fnX "__init__" qual (erA q1 q2 x) (erB msg x p0 p1 p2 p3 p4 p5 p6 p7 p8 p9) (erS x) [("__class__", cc)] .none kV doc pm an (.ref cda) ct), osl⟩) (cdk : PySem.W.codeIn K (.ref cda) qual = true)
    (lcc : K.lookup cc = some ⟨cl, cld, .cell (some (.ref c)), csl⟩) (lcd : K.lookup cda = some ⟨ccl, cdd, .fields vs, ccs⟩) (hvs : vs[2]? = some (.str file tf)) (hfl : ((Pr.main.file : Str) == file) = true) (hsw : (p2.endLine == p4.line) = true)
    (sup : PySem.W.nsIn K mainGlobals "super" = some none) (ope : PySem.W.nsIn K cStatics "thirdparty.any" = some none) (subV : PySem.W.subIn K (.ref c) (.type "ValueError") = some true) (sa : PySem.W.findIn K (.ref c) "__setattr__" = some (some (.builtin "object.__setattr__"))) (att : PySem.W.findIn K (.ref c) x = some none)
    (ga : PySem.W.findIn K (.ref c) "__getattribute__" = some (some (.builtin "BaseException.__getattribute__"))) (gt : PySem.W.findIn K (.ref c) "__getattr__" = some none) (ex : PySem.W.subIn K (.ref c) (.type "BaseException") = some true) (hd : PySem.W.hasDictIn K c = true)
    (ha : PySem.W.findIn K (.ref c) "__class__" = some (some (.builtin "object.__class__"))) (hn : PySem.W.specialIn K (.builtin "object.__class__") "__get__" = some (some (.builtin "getset_descriptor.__get__"))) (ht : PySem.W.takesIn K (.builtin "object.__class__") = some true) (hm : PySem.W.mroIn K c (.type "object") = some true)
    (top : (Pr.main.scope.names.lookup ("super" : Str)).isSome = false) (nx : x ≠ "self" ∧ x ≠ "__class__" ∧ x ≠ "super" ∧ (x == ("__debug__" : Str)) = false) (hbm : PySem.HandSPX.refsVE bm = true) (hal : PySem.W.alongIn K "__init__" bm = some (some (.builtin "ValueError.__init__"))) :
    ErAt Pr K mg f x (erFi x) ∧ ∃ c, mg f = some (.ref c) ∧ ErC K c x := by
  have hmg := PySem.W.mg_of X G a
  refine ⟨⟨rfl, rfl, bd, c, fI, hmg, kp, ⟨⟨nm, q, N, bs, bm, sn, sub, ab, col, dd, k0, k1, k2, k3, k5, l, hbm, hal⟩, ini, ity, ⟨oc, od, osl, qual, msg, q1, q2, p0, p1, p2, p3, p4, p5, p6, p7, p8, p9, cc, cda, kV, doc, pm, ct, an, cl, cld, csl, ccl, cdd, vs, ccs, file, tf, lf, cdk, lcc, lcd, hvs, hfl, hsw⟩, top, sup, ope, subV, sa, att, nx⟩⟩, c, hmg, ⟨?_, ga, gt, ex, hd, ha, hn, ht, hm, att⟩⟩
  unfold PySem.W.clsIn
  rw [l]
  rfl
end Y

/-! The reader once more, from the left: what follows is handed in, so that a def's text reads off as one term. -/
namespace Y
open PySem L2
theorem Res.assoc' {α β γ : Type} {r : Res α} {f : α → So → Res β} {g : β → So → Res γ} : (r.bind f).bind g = r.bind fun a S => (f a S).bind g := by
  cases r <;> rfl
/-- a truth value that is there -/
def iB {α : Type} (t : Option Bool) (f : Bool → Res α) : Res α := match t with
  | some b => f b
  | none => .bad
def iF {α : Type} (t : Option Bool) (a b : Res α) : Res α := match t with
  | some true => a
  | some false => b
  | none => .bad
theorem iF_t {α : Type} {a b : Res α} : iF (some true) a b = a := rfl
theorem iF_f {α : Type} {a b : Res α} : iF (some false) a b = b := rfl
theorem iB_s {α : Type} {t : Bool} {f : Bool → Res α} : iB (some t) f = f t := rfl
section
variable {α : Type}
def iI (w : W) (f : Int → Res α) : Res α := match w with
  | .int i => f i
  | _ => .bad
def ifTy (u : W) (S : So) (T : String) (a : Res α) : Res α := if valTy u S = some T then a else .bad
def jW (w : W) (acc : Str) (f : Str → Res α) : Res α := match w with
  | .str y => if y.length ≤ sizeLine ∧ (acc ++ y).length ≤ sizeLine then f (acc ++ y) else .bad
  | _ => .bad
def jC (y acc : Str) (f : Str → Res α) : Res α := if (acc ++ y).length ≤ sizeLine then f (acc ++ y) else .bad
/-- what range(..) gives to walk -/
def rgC (us : List W) (k : Wk → Res α) : Res α := match us with
  | [.int j] => if -(2 ^ 62) ≤ j ∧ j < 2 ^ 62 then k (.seq (rangeW 0 j.toNat)) else .bad
  | [.int i, .int j] => if (-(2 ^ 62) ≤ i ∧ i < 2 ^ 62) ∧ -(2 ^ 62) ≤ j ∧ j < 2 ^ 62 then k (.seq (rangeW i (j - i).toNat)) else .bad
  | _ => .bad
def evJC (g : Expr → So → (W → So → Res α) → Res α) : List Expr → Str → So → (Str → So → Res α) → Res α
  | [], acc, S, k => k acc S
  | .Constant (.str y) _ _ :: r, acc, S, k => jC y acc fun acc' => evJC g r acc' S k
  | .FormattedValue x (-1) none _ :: r, acc, S, k => g x S fun w S1 => jW w acc fun acc' => evJC g r acc' S1 k
  | _, _, _, _ => .bad
def evPC (g : Expr → So → (W → So → Res α) → Res α) : List (Option Expr) → List Expr → So → (List (Kd × W) → So → Res α) → Res α
  | [], [], S, k => k [] S
  | some x :: ks, v :: vs, S, k => g x S fun w S1 => g v S1 fun y S2 => match toK w with
    | some q => evPC g ks vs S2 fun r S3 => k ((q, y) :: r) S3
    | none => .bad
  | _, _, _, _ => .bad
def evLC (f : Expr → So → (W → So → Res α) → Res α) : List Expr → So → (List W → So → Res α) → Res α
  | [], S, k => k [] S
  | x :: xs, S, k => f x S fun w S1 => evLC f xs S1 fun ws S2 => k (w :: ws) S2
def evKC (f : Expr → So → (W → So → Res α) → Res α) : List Keyword → So → (List W → So → Res α) → Res α
  | [], S, k => k [] S
  | x :: xs, S, k => f x.value S fun w S1 => evKC f xs S1 fun ws S2 => k (w :: ws) S2
def evOC (f : Expr → So → (W → So → Res α) → Res α) : Option Expr → So → (Option Int → So → Res α) → Res α
  | none, S, k => k none S
  | some x, S, k => f x S fun w S1 => iI w fun i => k (some i) S1
def evBC (isAnd : Bool) (f : Expr → So → (W → So → Res α) → Res α) : List Expr → So → (W → So → Res α) → Res α
  | [], _, _ => .bad
  | [x], S, k => f x S k
  | x :: y :: xs, S, k => f x S fun w S1 => iB (truth w S1) fun b => if b = isAnd then evBC isAnd f (y :: xs) S1 k else k w S1
/-- a chain of tests: from the first that decides -/
def tsBC (isAnd : Bool) (f : Expr → So → (So → Res α) → (So → Res α) → Res α) : List Expr → So → (So → Res α) → (So → Res α) → Res α
  | [], _, _, _ => .bad
  | [x], S, a, b => f x S a b
  | x :: y :: xs, S, a, b => if isAnd then f x S (fun S1 => tsBC isAnd f (y :: xs) S1 a b) b else f x S a (fun S1 => tsBC isAnd f (y :: xs) S1 a b)
end
section
variable {α : Type} {f : Expr → So → Res W} {g : Expr → So → (W → So → Res α) → Res α}
theorem evLC_eq (h : ∀ x S k, g x S k = (f x S).bind k) : ∀ (es : List Expr) (S : So) (k : List W → So → Res α), evLC g es S k = (evL f es S).bind k
  | [], S, k => rfl
  | x :: xs, S, k => by
    unfold evLC evL
    rw [h, Res.assoc']
    congr 1; funext w S1
    rw [evLC_eq h xs, Res.assoc']
    rfl
theorem evKC_eq (h : ∀ x S k, g x S k = (f x S).bind k) : ∀ (es : List Keyword) (S : So) (k : List W → So → Res α), evKC g es S k = (evK f es S).bind k
  | [], S, k => rfl
  | x :: xs, S, k => by
    unfold evKC evK
    rw [h, Res.assoc']
    congr 1; funext w S1
    rw [evKC_eq h xs, Res.assoc']
    rfl
theorem evOC_eq (h : ∀ x S k, g x S k = (f x S).bind k) : ∀ (o : Option Expr) (S : So) (k : Option Int → So → Res α), evOC g o S k = (evO f o S).bind k
  | none, S, k => rfl
  | some x, S, k => by
    show g x S _ = ((f x S).bind _).bind k
    rw [h, Res.assoc']
    congr 1; funext w S1
    cases w <;> rfl
theorem evBC_eq (h : ∀ x S k, g x S k = (f x S).bind k) (i : Bool) : ∀ (es : List Expr) (S : So) (k : W → So → Res α), evBC i g es S k = (evB i f es S).bind k
  | [], S, k => rfl
  | [x], S, k => by unfold evBC evB; rw [h]
  | x :: y :: xs, S, k => by
    unfold evBC evB
    rw [h, Res.assoc']
    congr 1; funext w S1
    cases q : truth w S1 with
    | none => rfl
    | some b =>
      show (if b = i then _ else _) = Res.bind (if b = i then _ else _) k
      split
      · exact evBC_eq h i (y :: xs) S1 k
      · rfl
end
theorem evJC_eq {α : Type} {f : Expr → So → Res W} {g : Expr → So → (W → So → Res α) → Res α} (h : ∀ x S k, g x S k = (f x S).bind k) : ∀ (es : List Expr) (acc : Str) (S : So) (k : Str → So → Res α), evJC g es acc S k = (evJ f es acc S).bind k
  | [], acc, S, k => rfl
  | x :: r, acc, S, k => by
    by_cases h1 : ∃ y j q, x = .Constant (.str y) j q
    · obtain ⟨y, j, q, rfl⟩ := h1
      show jC y acc _ = Res.bind (if (acc ++ y).length ≤ sizeLine then evJ f r (acc ++ y) S else .bad) k
      unfold jC
      split
      · exact evJC_eq h r _ S k
      · rfl
    · by_cases h2 : ∃ y p, x = .FormattedValue y (-1) none p
      · obtain ⟨y, p, rfl⟩ := h2
        show g y S _ = Res.bind ((f y S).bind _) k
        rw [h, Res.assoc']
        congr 1; funext w S1
        cases w with
        | str z =>
          show jW (.str z) acc _ = Res.bind (if z.length ≤ sizeLine ∧ (acc ++ z).length ≤ sizeLine then evJ f r (acc ++ z) S1 else .bad) k
          show (if z.length ≤ sizeLine ∧ (acc ++ z).length ≤ sizeLine then evJC g r (acc ++ z) S1 k else .bad) = _
          split
          · exact evJC_eq h r _ S1 k
          · rfl
        | _ => rfl
      · have e1 : evJC g (x :: r) acc S k = .bad := by
          cases x with
          | Constant c j q => cases c with
            | str y => exact absurd ⟨y, j, q, rfl⟩ h1
            | _ => rfl
          | FormattedValue y c s q =>
            by_cases hc : c = -1
            · subst hc
              cases s with
              | none => exact absurd ⟨y, q, rfl⟩ h2
              | some _ => rfl
            · cases c with
              | ofNat n => rfl
              | negSucc n => cases n with
                | zero => exact absurd rfl hc
                | succ n => rfl
          | _ => rfl
        have e2 : evJ f (x :: r) acc S = .bad := by
          cases x with
          | Constant c j q => cases c with
            | str y => exact absurd ⟨y, j, q, rfl⟩ h1
            | _ => rfl
          | FormattedValue y c s q =>
            by_cases hc : c = -1
            · subst hc
              cases s with
              | none => exact absurd ⟨y, q, rfl⟩ h2
              | some _ => rfl
            · cases c with
              | ofNat n => rfl
              | negSucc n => cases n with
                | zero => exact absurd rfl hc
                | succ n => rfl
          | _ => rfl
        rw [e1, e2]; rfl
theorem evPC_eq {α : Type} {f : Expr → So → Res W} {g : Expr → So → (W → So → Res α) → Res α} (h : ∀ x S k, g x S k = (f x S).bind k) : ∀ (ks : List (Option Expr)) (vs : List Expr) (S : So) (k : List (Kd × W) → So → Res α), evPC g ks vs S k = (evP f ks vs S).bind k
  | [], [], S, k => rfl
  | [], _ :: _, S, k => rfl
  | none :: _, _, S, k => by cases ‹List Expr› <;> rfl
  | some _ :: _, [], S, k => rfl
  | some x :: ks, v :: vs, S, k => by
    unfold evPC evP
    rw [h, Res.assoc']; congr 1; funext w S1
    rw [h, Res.assoc']; congr 1; funext y S2
    cases toK w with
    | none => rfl
    | some q =>
      show evPC g ks vs S2 _ = Res.bind (Res.bind _ _) k
      rw [evPC_eq h ks vs, Res.assoc']; rfl
/-- what follows a test -/
def tsK {α : Type} (a b : So → Res α) : W → So → Res α := fun u S => iF (truth u S) (a S) (b S)
theorem tsBC_eq {α : Type} {f : Expr → So → Res W} {g : Expr → So → (So → Res α) → (So → Res α) → Res α} (h : ∀ x S a b, g x S a b = (f x S).bind (tsK a b)) (i : Bool) : ∀ (es : List Expr) (S : So) (a b : So → Res α), tsBC i g es S a b = (evB i f es S).bind (tsK a b)
  | [], S, a, b => rfl
  | [x], S, a, b => by unfold tsBC evB; rw [h]
  | x :: y :: xs, S, a, b => by
    have ih := fun S => tsBC_eq h i (y :: xs) S a b
    unfold tsBC evB
    cases i with
    | true =>
      simp only [if_true]
      rw [h, Res.assoc']
      congr 1; funext w S1
      unfold tsK
      cases q : truth w S1 with
      | none => rfl
      | some t =>
        cases t with
        | true => simp only [iF_t, if_true]; exact ih S1
        | false => simp only [iF_f, Bool.false_eq_true, if_false, Res.bind, q]
    | false =>
      simp only [Bool.false_eq_true, if_false]
      rw [h, Res.assoc']
      congr 1; funext w S1
      unfold tsK
      cases q : truth w S1 with
      | none => rfl
      | some t =>
        cases t with
        | false => simp only [iF_f, if_true]; exact ih S1
        | true => simp only [iF_t, Bool.true_eq_false, if_false, Res.bind, q]
def walkC {α : Type} (rg : Str → Bool) (tg : Expr) (g : Expr → So → (W → So → Res α) → Res α) (iter : Expr) (S : So) (k : Wk → So → Res α) : Res α := if isSet iter = true then .bad else match isEnum iter with
  | some x => if rg "enumerate" = true ∧ isTupE tg = true then g x S fun u S1 => (enumV u S1).bind k else .bad
  | none => match isRange iter with
  | some es => if rg "range" = true then evLC g es S fun us S1 => rgC us fun q => k q S1
    else .bad
  | none => g iter S fun u S1 => (walkV u S1).bind k
theorem walkC_eq {α : Type} {rg : Str → Bool} {tg : Expr} {f : Expr → So → Res W} {g : Expr → So → (W → So → Res α) → Res α} (h : ∀ x S k, g x S k = (f x S).bind k) (iter : Expr) (S : So) (k : Wk → So → Res α) : walkC rg tg g iter S k = (walkE rg tg f iter S).bind k := by
  unfold walkC walkE
  by_cases hs : isSet iter = true
  · simp only [hs, if_true]; rfl
  · simp only [hs, Bool.false_eq_true, if_false]
    cases qe : isEnum iter with
    | some x =>
      simp only
      split
      · rw [h, Res.assoc']
      · rfl
    | none =>
    simp only
    cases q : isRange iter with
    | none =>
      simp only
      rw [h, Res.assoc']
    | some es =>
      simp only
      by_cases hr : rg "range" = true
      · simp only [hr, if_true]
        rw [evLC_eq h, Res.assoc']
        congr 1; funext us S1
        match us with
        | [] => rfl
        | [.int j] =>
          show (if _ then _ else _) = Res.bind (if _ then _ else _) k
          split <;> rfl
        | [.int i, .int j] =>
          show (if _ then _ else _) = Res.bind (if _ then _ else _) k
          split <;> rfl
        | .non :: r => cases r with | nil => rfl | cons a r => (cases r <;> rfl)
        | .bl _ :: r => cases r with | nil => rfl | cons a r => (cases r <;> rfl)
        | .str _ :: r => cases r with | nil => rfl | cons a r => (cases r <;> rfl)
        | .ty _ :: r => cases r with | nil => rfl | cons a r => (cases r <;> rfl)
        | .tup _ :: r => cases r with | nil => rfl | cons a r => (cases r <;> rfl)
        | .fl _ _ :: r => cases r with | nil => rfl | cons a r => (cases r <;> rfl)
        | .fd _ _ :: r => cases r with | nil => rfl | cons a r => (cases r <;> rfl)
        | .fins _ _ _ :: r => cases r with | nil => rfl | cons a r => (cases r <;> rfl)
        | .ref _ :: r => cases r with | nil => rfl | cons a r => (cases r <;> rfl)
        | .glo _ :: r => cases r with | nil => rfl | cons a r => (cases r <;> rfl)
        | .int _ :: a :: b :: r => cases a <;> rfl
        | [.int _, .non] => rfl
        | [.int _, .bl _] => rfl
        | [.int _, .str _] => rfl
        | [.int _, .ty _] => rfl
        | [.int _, .tup _] => rfl
        | [.int _, .fl _ _] => rfl
        | [.int _, .fd _ _] => rfl
        | [.int _, .fins _ _ _] => rfl
        | [.int _, .ref _] => rfl
        | [.int _, .glo _] => rfl
      · simp only [hr, Bool.false_eq_true, if_false]; rfl
section
variable {α : Type} (P : Pg) (call : Cf) (sx : Sx) (g : Expr → So → (W → So → Res α) → Res α)
def callC (f : Str) (es : List Expr) (kws : List Keyword) (p : Pos) (S : So) (k : W → So → Res α) : Res α :=
      if (okN f = true ∧ plainA es kws = true) ∧ sx.sc.names.lookup f = some .globalImplicit then match P.F f with
        | some fi => evLC g es S fun us S1 => evKC g kws S1 fun ws S2 => match argsOf fi us (kws.map (·.arg)) ws with
          | some vs => (call f vs S2).bind k
          | none => .bad
        | none => if kws.isEmpty = true ∧ f ∈ builtins then evLC g es S fun us S1 => (builtinI P.isa (P.mu p) f us S1).bind k else .bad
      else .bad
def methC (o : Expr) (m : Str) (ap : Pos) (es : List Expr) (cp : Pos) (S : So) (k : W → So → Res α) : Res α := match methTy m with
      | none => .bad
      | some T => if ((ap.endLine == cp.line) = true ∧ plainA es [] = true) ∧ (1 ≤ es.length ∧ es.length < 20) ∧ isSuper o = false then
          g o S fun u S1 => ifTy u S1 T (evLC g es S1 fun us S2 => (method (P.mu cp) u m us S2).bind k)
        else .bad
end
mutual
/-- an expression; k: what follows -/
def evalC {α : Type} (P : Pg) (call : Cf) : Nat → Sx → En → Expr → So → (W → So → Res α) → Res α
  | 0, _, _, _, _, _ => .bad
  | d + 1, sx, e, x, S, k => match x with
    | .Constant c _ _ => (constE c S).bind k
    | .Name n _ => if okN n = true then (ofO (nameE P sx e n) S).bind k else .bad
    | .BinOp a op b p => evalC P call d sx e a S fun u S1 => evalC P call d sx e b S1 fun v S2 => (binop (P.mu p) op u v S2).bind k
    | .UnaryOp .Not a _ => testC P call d sx e a S (fun S1 => k (.bl false) S1) (fun S1 => k (.bl true) S1)
    | .UnaryOp .USub a _ => evalC P call d sx e a S fun u S1 => (neg u S1).bind k
    | .BoolOp op vs _ => evBC (match op with | .And => true | .Or => false) (evalC P call d sx e) vs S k
    | .Compare a [op] [b] _ => if isSet b = true then .bad else evalC P call d sx e a S fun u S1 => evalC P call d sx e b S1 fun v S2 => iB (cmp op u v S2) fun r => k (.bl r) S2
    | .Compare a [op, op'] [b, c] _ => if (isSet b || isSet c) = true then .bad else evalC P call d sx e a S fun u S1 => evalC P call d sx e b S1 fun v S2 =>
        iF (cmp op u v S2) (evalC P call d sx e c S2 fun z S4 => iB (cmp op' v z S4) fun r => k (.bl r) S4) (k (.bl false) S2)
    | .IfExp c a b _ => testC P call d sx e c S (fun S1 => evalC P call d sx e a S1 k) (fun S1 => evalC P call d sx e b S1 k)
    | .Tuple es _ _ => evLC (evalC P call d sx e) es S fun ws S1 => if ws.length ≤ sizeLine then k (.tup ws) S1 else .bad
    | .List es p => evLC (evalC P call d sx e) es S fun ws S1 => if ws.length ≤ sizeLine then (mk (P.mu p) ws S1).bind k else .bad
    | .Subscript a (.Slice lo hi none _) p => evalC P call d sx e a S fun u S1 => evOC (evalC P call d sx e) lo S1 fun l S2 => evOC (evalC P call d sx e) hi S2 fun h S3 => (slice (P.mu p) u l h S3).bind k
    | .Subscript a b _ => if isSlice b = true then .bad else evalC P call d sx e a S fun u S1 => evalC P call d sx e b S1 fun v S2 => (ofO (item u v S2) S2).bind k
    | .Call (.Name f _) es kws p => callC P call sx (evalC P call d sx e) f es kws p S k
    | .Call (.Attribute o m ap) es [] cp => methC P (evalC P call d sx e) o m ap es cp S k
    | .JoinedStr es _ => if es.all partJ = true ∧ 2 ≤ es.length then evJC (evalC P call d sx e) es Str.empty S fun x S1 => k (.str x) S1 else .bad
    | .Dict [] [] p => (mkD (P.mu p) [] S).bind k
    | .Dict ks vs p => if (ks.all (·.isSome) = true ∧ ks.length = vs.length) ∧ ks.length ≤ 15 then evPC (evalC P call d sx e) ks vs S fun kvs S1 =>
        if kvs.length ≤ 15 ∧ (kvs.all fun kv => flatK kv.1) = true then (mkD (P.mu p) (kvs.foldl (fun r kv => putW r kv.1 kv.2) []) S1).bind k else .bad
      else .bad
    | .ListComp elt [⟨tg, iter, ifs, 0⟩] scope p =>
      if blkC sx.N sx.sc scope (ownOf sx.N scope) = true ∧ ((slotsT sx.N tg).all fun i => ((ownOf sx.N scope).map (·.2)).contains i) = true ∧ ifs.length ≤ 1 then
        walkC (rgOk P sx) tg (evalC P call d sx e) iter S fun q S1 =>
        (noX (turns q (lcTurn (evalE P call d ⟨sx.N, relS scope sx.sc, fun x => scope.names.lookup x == some .cell⟩) ⟨sx.N, relS scope sx.sc, fun x => scope.names.lookup x == some .cell⟩ (wipeW e ((ownOf sx.N scope).map (·.2))) tg ifs elt) q.len 0 [] S1)).bind fun acc S6 => (mk (P.mu p) acc S6).bind k
      else .bad
    | .Attribute o n _ => if isSuper o = false then evalC P call d sx e o S fun u S1 => (attrV P u n S1).bind k else .bad
    | x => (evalE P call (d + 1) sx e x S).bind k
/-- a test; a: what follows where it holds, b: where not -/
def testC {α : Type} (P : Pg) (call : Cf) : Nat → Sx → En → Expr → So → (So → Res α) → (So → Res α) → Res α
  | 0, _, _, _, _, _, _ => .bad
  | d + 1, sx, e, x, S, a, b => match x with
    | .UnaryOp .Not x _ => testC P call d sx e x S b a
    | .BoolOp op vs _ => tsBC (match op with | .And => true | .Or => false) (testC P call d sx e) vs S a b
    | .Compare x [op] [y] _ => if isSet y = true then .bad else evalC P call d sx e x S fun u S1 => evalC P call d sx e y S1 fun v S2 => iF (cmp op u v S2) (a S2) (b S2)
    | .Compare x [op, op'] [y, z] _ => if (isSet y || isSet z) = true then .bad else evalC P call d sx e x S fun u S1 => evalC P call d sx e y S1 fun v S2 =>
        iF (cmp op u v S2) (evalC P call d sx e z S2 fun w S4 => iF (cmp op' v w S4) (a S4) (b S4)) (b S2)
    | .Name n _ => if okN n = true then (ofO (nameE P sx e n) S).bind (tsK a b) else .bad
    | .Call (.Name f _) es kws p => callC P call sx (evalC P call d sx e) f es kws p S (tsK a b)
    | .Call (.Attribute o m ap) es [] cp => methC P (evalC P call d sx e) o m ap es cp S (tsK a b)
    | .Subscript x (.Slice lo hi st q) p => (evalE P call (d + 1) sx e (.Subscript x (.Slice lo hi st q) p) S).bind (tsK a b)
    | .Subscript x y _ => evalC P call d sx e x S fun u S1 => evalC P call d sx e y S1 fun v S2 => (ofO (item u v S2) S2).bind (tsK a b)
    | x => (evalE P call (d + 1) sx e x S).bind (tsK a b)
end
section
variable {α : Type} {P : Pg} {call : Cf} {sx : Sx}
theorem callC_eq {f : Expr → So → Res W} {g : Expr → So → (W → So → Res α) → Res α} (h : ∀ x S k, g x S k = (f x S).bind k) (n : Str) (es : List Expr) (kws : List Keyword) (p : Pos) (S : So) (k : W → So → Res α) :
    callC P call sx g n es kws p S k = Res.bind (α := W) (if (okN n = true ∧ plainA es kws = true) ∧ sx.sc.names.lookup n = some NameKind.globalImplicit then match P.F n with
        | some fi => (evL f es S).bind fun us S1 => (evK f kws S1).bind fun ws S2 => match argsOf fi us (kws.map (·.arg)) ws with
          | some vs => call n vs S2
          | none => .bad
        | none => if kws.isEmpty = true ∧ n ∈ builtins then (evL f es S).bind fun us S1 => builtinI P.isa (P.mu p) n us S1 else .bad
      else .bad) k := by
  unfold callC
  split
  · cases P.F n with
    | some fi =>
      simp only
      rw [evLC_eq h, Res.assoc']
      congr 1; funext us S1
      rw [evKC_eq h, Res.assoc']
      congr 1; funext ws S2
      split <;> rfl
    | none =>
      simp only
      split
      · rw [evLC_eq h, Res.assoc']
      · rfl
  · rfl
theorem methC_eq {f : Expr → So → Res W} {g : Expr → So → (W → So → Res α) → Res α} (h : ∀ x S k, g x S k = (f x S).bind k) (o : Expr) (m : Str) (ap : Pos) (es : List Expr) (cp : Pos) (S : So) (k : W → So → Res α) :
    methC P g o m ap es cp S k = (match methTy m with
      | none => .bad
      | some T => if ((ap.endLine == cp.line) = true ∧ plainA es [] = true) ∧ (1 ≤ es.length ∧ es.length < 20) ∧ isSuper o = false then
          (f o S).bind fun u S1 => if valTy u S1 = some T then (evL f es S1).bind fun us S2 => method (P.mu cp) u m us S2 else .bad
        else .bad : Res W).bind k := by
  unfold methC
  cases methTy m with
  | none => rfl
  | some T =>
    simp only
    split
    · rw [h, Res.assoc']
      congr 1; funext u S1
      unfold ifTy
      split
      · rw [evLC_eq h, Res.assoc']
      · rfl
    · rfl
end
section
variable {P : Pg} {call : Cf}
theorem iB_eq {α : Type} {t : Option Bool} {S : So} {k : W → So → Res α} : iB t (fun r => k (.bl r) S) = ((ofO t S).bind fun r S3 => (.ok (.bl r) S3 : Res W)).bind k := by
  cases t <;> rfl
theorem both_eq : ∀ d : Nat, (∀ {α : Type} (sx : Sx) (e : En) (x : Expr) (S : So) (k : W → So → Res α), evalC P call d sx e x S k = (evalE P call d sx e x S).bind k) ∧
    (∀ {α : Type} (sx : Sx) (e : En) (x : Expr) (S : So) (a b : So → Res α), testC P call d sx e x S a b = (evalE P call d sx e x S).bind (tsK a b))
  | 0 => ⟨fun _ _ _ _ _ => rfl, fun _ _ _ _ _ _ => rfl⟩
  | d + 1 => by
    obtain ⟨ihE, ihT⟩ := both_eq d
    have hC : ∀ {α : Type} (sx : Sx) (e : En) (n : Str) (q : Pos) (es : List Expr) (kws : List Keyword) (p : Pos) (S : So) (k : W → So → Res α), callC P call sx (evalC P call d sx e) n es kws p S k = (evalE P call (d + 1) sx e (.Call (.Name n q) es kws p) S).bind k := fun sx e n q es kws p S k => by
      rw [callC_eq (f := evalE P call d sx e) (fun x S k => ihE sx e x S k)]; rfl
    have hM : ∀ {α : Type} (sx : Sx) (e : En) (o : Expr) (m : Str) (ap : Pos) (es : List Expr) (cp : Pos) (S : So) (k : W → So → Res α), methC P (evalC P call d sx e) o m ap es cp S k = (evalE P call (d + 1) sx e (.Call (.Attribute o m ap) es [] cp) S).bind k := fun sx e o m ap es cp S k => by
      rw [methC_eq (f := evalE P call d sx e) (fun x S k => ihE sx e x S k)]; rfl
    have hC1 : ∀ (sx : Sx) (e : En) (a b : Expr) (op : CmpOp) (p : Pos) (S : So), evalE P call (d + 1) sx e (.Compare a [op] [b] p) S = if isSet b = true then .bad else (evalE P call d sx e a S).bind fun u S1 => (evalE P call d sx e b S1).bind fun v S2 => (ofO (cmp op u v S2) S2).bind fun r S3 => .ok (.bl r) S3 := fun _ _ _ _ _ _ _ => rfl
    have hC2 : ∀ (sx : Sx) (e : En) (a b c : Expr) (op op' : CmpOp) (p : Pos) (S : So), evalE P call (d + 1) sx e (.Compare a [op, op'] [b, c] p) S = if (isSet b || isSet c) = true then .bad else (evalE P call d sx e a S).bind fun u S1 => (evalE P call d sx e b S1).bind fun v S2 => (ofO (cmp op u v S2) S2).bind fun r S3 =>
        if r then (evalE P call d sx e c S3).bind fun z S4 => (ofO (cmp op' v z S4) S4).bind fun r S5 => .ok (.bl r) S5 else .ok (.bl false) S3 := fun _ _ _ _ _ _ _ _ _ => rfl
    refine ⟨fun {α} sx e x S k => ?_, fun {α} sx e x S a b => ?_⟩
    · cases x with
      | Constant c j p => rfl
      | Name n p =>
        show (if okN n = true then _ else _) = Res.bind (if okN n = true then _ else _) k
        split <;> rfl
      | BinOp a op b p =>
        show evalC P call d sx e a S _ = Res.bind (Res.bind _ _) k
        rw [ihE, Res.assoc']; congr 1; funext u S1
        rw [ihE, Res.assoc']
      | UnaryOp op a p =>
        cases op with
        | Not =>
          show testC P call d sx e a S _ _ = Res.bind (Res.bind _ _) k
          rw [ihT, Res.assoc']; congr 1; funext u S1
          unfold tsK
          cases truth u S1 with
          | none => rfl
          | some t => cases t <;> rfl
        | USub =>
          show evalC P call d sx e a S _ = Res.bind (Res.bind _ _) k
          rw [ihE, Res.assoc']
        | _ => rfl
      | BoolOp op vs p => exact evBC_eq (fun x S k => ihE sx e x S k) _ vs S k
      | Compare a ops cs p =>
        match ops, cs with
        | [op], [b] =>
          rw [hC1]
          show (if isSet b = true then _ else _) = _
          split
          · rfl
          · rw [ihE, Res.assoc']; congr 1; funext u S1
            rw [ihE, Res.assoc']; congr 1; funext v S2
            exact iB_eq
        | [op, op'], [b, c] =>
          rw [hC2]
          show (if (isSet b || isSet c) = true then _ else _) = _
          split
          · rfl
          · rw [ihE, Res.assoc']; congr 1; funext u S1
            rw [ihE, Res.assoc']; congr 1; funext v S2
            cases cmp op u v S2 with
            | none => rfl
            | some t =>
              cases t with
              | false => rfl
              | true =>
                show evalC P call d sx e c S2 _ = Res.bind (Res.bind (evalE P call d sx e c S2) _) k
                rw [ihE, Res.assoc']; congr 1; funext z S4
                exact iB_eq
        | [], _ => rfl
        | [_], [] => rfl
        | [_], _ :: _ :: _ => rfl
        | [_, _], [] => rfl
        | [_, _], [_] => rfl
        | [_, _], _ :: _ :: _ :: _ => rfl
        | _ :: _ :: _ :: _, _ => rfl
      | IfExp c a b p =>
        show testC P call d sx e c S _ _ = Res.bind (Res.bind _ _) k
        rw [ihT, Res.assoc']; congr 1; funext u S1
        unfold tsK
        cases truth u S1 with
        | none => rfl
        | some t =>
          cases t with
          | true => exact ihE sx e a S1 k
          | false => exact ihE sx e b S1 k
      | Tuple es j p =>
        show evLC _ es S _ = Res.bind (Res.bind _ _) k
        rw [evLC_eq (f := evalE P call d sx e) (fun x S k => ihE sx e x S k), Res.assoc']; congr 1; funext ws S1
        split <;> rfl
      | List es p =>
        show evLC _ es S _ = Res.bind (Res.bind _ _) k
        rw [evLC_eq (f := evalE P call d sx e) (fun x S k => ihE sx e x S k), Res.assoc']; congr 1; funext ws S1
        split <;> rfl
      | Subscript a b p =>
        by_cases hb : ∃ lo hi q, b = .Slice lo hi none q
        · obtain ⟨lo, hi, q, rfl⟩ := hb
          show evalC P call d sx e a S _ = Res.bind (Res.bind _ _) k
          rw [ihE, Res.assoc']; congr 1; funext u S1
          rw [evOC_eq (f := evalE P call d sx e) (fun x S k => ihE sx e x S k), Res.assoc']; congr 1; funext l S2
          rw [evOC_eq (f := evalE P call d sx e) (fun x S k => ihE sx e x S k), Res.assoc']
        · have e1 : evalC P call (d + 1) sx e (.Subscript a b p) S k = if isSlice b = true then .bad else evalC P call d sx e a S fun u S1 => evalC P call d sx e b S1 fun v S2 => (ofO (item u v S2) S2).bind k := by
            cases b with
            | Slice lo hi st q =>
              cases st with
              | none => exact absurd ⟨lo, hi, q, rfl⟩ hb
              | some _ => rfl
            | _ => rfl
          have e2 : evalE P call (d + 1) sx e (.Subscript a b p) S = if isSlice b = true then .bad else (evalE P call d sx e a S).bind fun u S1 => (evalE P call d sx e b S1).bind fun v S2 => ofO (item u v S2) S2 := by
            cases b with
            | Slice lo hi st q =>
              cases st with
              | none => exact absurd ⟨lo, hi, q, rfl⟩ hb
              | some _ => rfl
            | _ => rfl
          rw [e1, e2]
          split
          · rfl
          · rw [ihE, Res.assoc']; congr 1; funext u S1
            rw [ihE, Res.assoc']
      | JoinedStr es p =>
        show (if es.all partJ = true ∧ 2 ≤ es.length then _ else _) = Res.bind (if es.all partJ = true ∧ 2 ≤ es.length then _ else _) k
        split
        · rw [evJC_eq (f := evalE P call d sx e) (fun x S k => ihE sx e x S k), Res.assoc']; rfl
        · rfl
      | Attribute o n p =>
        show (if isSuper o = false then _ else _) = Res.bind (if isSuper o = false then _ else _) k
        split
        · rw [ihE, Res.assoc']
        · rfl
      | Dict ks vs p =>
        by_cases h0 : ks = [] ∧ vs = []
        · obtain ⟨rfl, rfl⟩ := h0
          rfl
        · have e1 : evalC P call (d + 1) sx e (.Dict ks vs p) S k = if (ks.all (·.isSome) = true ∧ ks.length = vs.length) ∧ ks.length ≤ 15 then evPC (evalC P call d sx e) ks vs S fun kvs S1 =>
              if kvs.length ≤ 15 ∧ (kvs.all fun kv => flatK kv.1) = true then (mkD (P.mu p) (kvs.foldl (fun r kv => putW r kv.1 kv.2) []) S1).bind k else .bad
            else .bad := by
            cases ks with
            | nil => cases vs with
              | nil => exact absurd ⟨rfl, rfl⟩ h0
              | cons _ _ => rfl
            | cons _ _ => rfl
          have e2 : evalE P call (d + 1) sx e (.Dict ks vs p) S = if (ks.all (·.isSome) = true ∧ ks.length = vs.length) ∧ ks.length ≤ 15 then (evP (evalE P call d sx e) ks vs S).bind fun kvs S1 =>
              if kvs.length ≤ 15 ∧ (kvs.all fun kv => flatK kv.1) = true then mkD (P.mu p) (kvs.foldl (fun r kv => putW r kv.1 kv.2) []) S1 else .bad
            else .bad := by
            cases ks with
            | nil => cases vs with
              | nil => exact absurd ⟨rfl, rfl⟩ h0
              | cons _ _ => rfl
            | cons _ _ => rfl
          rw [e1, e2]
          split
          · rw [evPC_eq (f := evalE P call d sx e) (fun x S k => ihE sx e x S k), Res.assoc']; congr 1; funext kvs S1
            split <;> rfl
          · rfl
      | ListComp elt gs scope p =>
        match gs with
        | [] => rfl
        | ⟨_, _, _, a⟩ :: _ :: _ => (cases a with | ofNat n => (cases n <;> rfl) | negSucc n => rfl)
        | [⟨tg, iter, ifs, a⟩] =>
          by_cases ha : a = 0
          · subst ha
            show (if _ then _ else _) = Res.bind (if _ then _ else _) k
            split
            · rw [walkC_eq (f := evalE P call d sx e) (fun x S k => ihE sx e x S k), Res.assoc']; congr 1; funext q S1
              rw [Res.assoc']
            · rfl
          · cases a with
            | ofNat n => cases n with
              | zero => exact absurd rfl ha
              | succ n => rfl
            | negSucc n => rfl
      | Call fn es kws pos =>
        cases fn with
        | Name f q => exact hC sx e f q es kws pos S k
        | Attribute o m ap =>
          cases kws with
          | nil => exact hM sx e o m ap es pos S k
          | cons _ _ => rfl
        | _ => rfl
      | _ => rfl
    · cases x with
      | Constant c j p => rfl
      | Name n p =>
        show (if okN n = true then _ else _) = Res.bind (if okN n = true then _ else _) _
        split <;> rfl
      | UnaryOp op x p =>
        cases op with
        | Not =>
          show testC P call d sx e x S b a = Res.bind (Res.bind _ _) _
          rw [ihT, Res.assoc']; congr 1; funext u S1
          unfold tsK
          cases truth u S1 with
          | none => rfl
          | some t => cases t <;> rfl
        | _ => rfl
      | BoolOp op vs p => exact tsBC_eq (fun x S a b => ihT sx e x S a b) _ vs S a b
      | Compare x ops cs p =>
        match ops, cs with
        | [op], [y] =>
          rw [hC1]
          show (if isSet y = true then _ else _) = _
          split
          · rfl
          · rw [ihE, Res.assoc']; congr 1; funext u S1
            rw [ihE, Res.assoc']; congr 1; funext v S2
            cases cmp op u v S2 with
            | none => rfl
            | some t => cases t <;> rfl
        | [op, op'], [y, z] =>
          rw [hC2]
          show (if (isSet y || isSet z) = true then _ else _) = _
          split
          · rfl
          · rw [ihE, Res.assoc']; congr 1; funext u S1
            rw [ihE, Res.assoc']; congr 1; funext v S2
            cases cmp op u v S2 with
            | none => rfl
            | some t =>
              cases t with
              | false => rfl
              | true =>
                show evalC P call d sx e z S2 _ = Res.bind (Res.bind (evalE P call d sx e z S2) _) _
                rw [ihE, Res.assoc']; congr 1; funext w S4
                cases cmp op' v w S4 with
                | none => rfl
                | some t => cases t <;> rfl
        | [], _ => rfl
        | [_], [] => rfl
        | [_], _ :: _ :: _ => rfl
        | [_, _], [] => rfl
        | [_, _], [_] => rfl
        | [_, _], _ :: _ :: _ :: _ => rfl
        | _ :: _ :: _ :: _, _ => rfl
      | Subscript x y p =>
        cases y with
        | Slice lo hi st q => rfl
        | _ =>
          show evalC P call d sx e x S _ = Res.bind (Res.bind (evalE P call d sx e x S) _) _
          rw [ihE, Res.assoc']; congr 1; funext u S1
          rw [ihE, Res.assoc']
      | Call fn es kws pos =>
        cases fn with
        | Name f q => exact hC sx e f q es kws pos S _
        | Attribute o m ap =>
          cases kws with
          | nil => exact hM sx e o m ap es pos S _
          | cons _ _ => rfl
        | _ => rfl
      | _ => rfl
end
end Y

/-! Statements from the left; what a def's call is worth. -/
namespace Y
open PySem L2
/-- what follows a statement: it goes on, returns, breaks, continues -/
structure Kn (α : Type) where
  nx : En → So → Res α
  rt : En → W → So → Res α
  bk : En → So → Res α
  ct : En → So → Res α
def kof {α : Type} (K : Kn α) : En × Fl → So → Res α := fun r S => match r.2 with
  | .nx => K.nx r.1 S
  | .ret w => K.rt r.1 w S
  | .brk => K.bk r.1 S
  | .ct => K.ct r.1 S
def evSC {α : Type} (f : Stmt → En → So → Kn α → Res α) : List Stmt → En → So → Kn α → Res α
  | [], e, S, K => K.nx e S
  | x :: xs, e, S, K => f x e S ⟨fun e1 S1 => evSC f xs e1 S1 K, K.rt, K.bk, K.ct⟩
theorem evSC_eq {α : Type} {f : Stmt → En → So → Res (En × Fl)} {g : Stmt → En → So → Kn α → Res α} (h : ∀ x e S K, g x e S K = (f x e S).bind (kof K)) : ∀ (l : List Stmt) (e : En) (S : So) (K : Kn α), evSC g l e S K = (evS f l e S).bind (kof K)
  | [], e, S, K => rfl
  | x :: xs, e, S, K => by
    unfold evSC evS
    rw [h, Res.assoc']
    congr 1; funext r S1
    obtain ⟨e1, fl⟩ := r
    cases fl with
    | nx => exact evSC_eq h xs e1 S1 K
    | ret w => rfl
    | brk => rfl
    | ct => rfl
/-- a block in two pieces -/
theorem evSC_cut {α : Type} {f : Stmt → En → So → Kn α → Res α} : ∀ (n : Nat) {l : List Stmt} {e : En} {S : So} {K : Kn α}, evSC f l e S K = evSC f (l.take n) e S ⟨fun e1 S1 => evSC f (l.drop n) e1 S1 K, K.rt, K.bk, K.ct⟩
  | 0, l, e, S, K => rfl
  | n + 1, [], e, S, K => rfl
  | n + 1, x :: xs, e, S, K => by
    show f x e S _ = f x e S _
    congr 1
    have h : (fun e1 S1 => evSC f xs e1 S1 K) = fun e1 S1 => evSC f (xs.take n) e1 S1 ⟨fun e1 S1 => evSC f (xs.drop n) e1 S1 K, K.rt, K.bk, K.ct⟩ := by
      funext e1 S1
      exact evSC_cut n
    show (⟨fun e1 S1 => evSC f xs e1 S1 K, K.rt, K.bk, K.ct⟩ : Kn α) = ⟨fun e1 S1 => evSC f (xs.take n) e1 S1 ⟨fun e1 S1 => evSC f (xs.drop n) e1 S1 K, K.rt, K.bk, K.ct⟩, K.rt, K.bk, K.ct⟩
    rw [h]
def execC {α : Type} (P : Pg) (call : Cf) : Nat → Sx → Stmt → En → So → Kn α → Res α
  | 0, _, _, _, _, _ => .bad
  | d + 1, sx, x, e, S, K => match x with
    | .Assign [.Subscript o i _] v _ => if isSlice i = true then .bad else evalC P call d sx e v S fun w S1 => evalC P call d sx e o S1 fun u S2 => evalC P call d sx e i S2 fun k S3 => (ofO (setItem u k w S3) S3).bind fun S4 _ => K.nx e S4
    | .Assign [tg] v _ => if swK sx tg v = none ∨ tgOk sx.N tg = false then .bad else evalC P call d sx e v S fun w S1 => (ofO (asg sx e tg w) S1).bind fun e2 S2 => K.nx e2 S2
    | .Expr v _ => if isComp v = true then .bad else evalC P call d sx e v S fun _ S1 => K.nx e S1
    | .Return (some v) _ => evalC P call d sx e v S fun w S1 => K.rt e w S1
    | .Return none _ => K.rt e .non S
    | .If c a b _ => testC P call d sx e c S (fun S1 => evSC (execC P call d sx) a e S1 K) (fun S1 => evSC (execC P call d sx) b e S1 K)
    | .For tg iter body [] _ => walkC (rgOk P sx) tg (evalC P call d sx e) iter S fun q S1 => (turns q (forTurn sx tg (evS (execS P call d sx) body)) q.len 0 (e, Fl.nx) S1).bind (kof K)
    | .Pass _ => K.nx e S
    | .Break _ => K.bk e S
    | .Continue _ => K.ct e S
    | x => (execS P call (d + 1) sx x e S).bind (kof K)
theorem execC_eq {P : Pg} {call : Cf} : ∀ (d : Nat) {α : Type} (sx : Sx) (x : Stmt) (e : En) (S : So) (K : Kn α), execC P call d sx x e S K = (execS P call d sx x e S).bind (kof K)
  | 0, _, _, _, _, _, _ => rfl
  | d + 1, α, sx, x, e, S, K => by
    have hE : ∀ {β : Type} (e : En) (x : Expr) (S : So) (k : W → So → Res β), evalC P call d sx e x S k = (evalE P call d sx e x S).bind k := fun e x S k => (both_eq d).1 sx e x S k
    have hT : ∀ {β : Type} (e : En) (x : Expr) (S : So) (a b : So → Res β), testC P call d sx e x S a b = (evalE P call d sx e x S).bind (tsK a b) := fun e x S a b => (both_eq d).2 sx e x S a b
    have hB : ∀ (l : List Stmt) (e : En) (S : So) (K : Kn α), evSC (execC P call d sx) l e S K = (evS (execS P call d sx) l e S).bind (kof K) := evSC_eq fun x e S K => execC_eq d sx x e S K
    have plain : ∀ (tg v : Expr) (p : Pos), (∀ o i q, tg ≠ .Subscript o i q) → execC P call (d + 1) sx (.Assign [tg] v p) e S K = (execS P call (d + 1) sx (.Assign [tg] v p) e S).bind (kof K) := fun tg v p hn => by
      have e1 : execC P call (d + 1) sx (.Assign [tg] v p) e S K = if swK sx tg v = none ∨ tgOk sx.N tg = false then .bad else evalC P call d sx e v S fun w S1 => (ofO (asg sx e tg w) S1).bind fun e2 S2 => K.nx e2 S2 := by
        cases tg <;> first | rfl | exact absurd rfl (hn _ _ _)
      have e2 : execS P call (d + 1) sx (.Assign [tg] v p) e S = if swK sx tg v = none ∨ tgOk sx.N tg = false then .bad else (evalE P call d sx e v S).bind fun w S1 => (ofO (asg sx e tg w) S1).bind fun e2 S2 => .ok (e2, .nx) S2 := by
        cases tg <;> first | rfl | exact absurd rfl (hn _ _ _)
      rw [e1, e2]
      split
      · rfl
      · rw [hE, Res.assoc']; congr 1; funext w S1
        rw [Res.assoc']; rfl
    cases x with
    | Assign tgs v p =>
      match tgs with
      | [] => rfl
      | t1 :: _ :: _ => cases t1 <;> rfl
      | [tg] =>
        cases tg with
        | Subscript o i q =>
          show (if isSlice i = true then _ else _) = Res.bind (if isSlice i = true then _ else _) _
          split
          · rfl
          · rw [hE, Res.assoc']; congr 1; funext w S1
            rw [hE, Res.assoc']; congr 1; funext u S2
            rw [hE, Res.assoc']; congr 1; funext k S3
            rw [Res.assoc']; rfl
        | _ => exact plain _ v p (fun o i q h => by cases h)
    | Expr v p =>
      show (if isComp v = true then _ else _) = Res.bind (if isComp v = true then _ else _) _
      split
      · rfl
      · rw [hE, Res.assoc']; rfl
    | Return v p =>
      cases v with
      | none => rfl
      | some v =>
        show evalC P call d sx e v S _ = Res.bind (Res.bind _ _) _
        rw [hE, Res.assoc']; rfl
    | If c a b p =>
      show testC P call d sx e c S _ _ = Res.bind (Res.bind _ _) _
      rw [hT, Res.assoc']; congr 1; funext u S1
      unfold tsK
      cases truth u S1 with
      | none => rfl
      | some t =>
        cases t with
        | true => exact hB a e S1 K
        | false => exact hB b e S1 K
    | For tg iter body els p =>
      cases els with
      | cons _ _ => rfl
      | nil =>
        have e1 : execC P call (d + 1) sx (.For tg iter body [] p) e S K = walkC (rgOk P sx) tg (evalC P call d sx e) iter S fun q S1 => (turns q (forTurn sx tg (evS (execS P call d sx) body)) q.len 0 (e, Fl.nx) S1).bind (kof K) := rfl
        have e2 : execS P call (d + 1) sx (.For tg iter body [] p) e S = (walkE (rgOk P sx) tg (evalE P call d sx e) iter S).bind fun q S1 => turns q (forTurn sx tg (evS (execS P call d sx) body)) q.len 0 (e, Fl.nx) S1 := rfl
        rw [e1, e2, walkC_eq (f := evalE P call d sx e) (fun x S k => hE e x S k), Res.assoc']
    | _ => rfl
/-- a def's body, read from the left -/
theorem bodyN_eq {P : Pg} {call : Cf} {fi : Fi} {vs : List W} {S : So} : bodyN P call fi vs S = evSC (execC P call deepT ⟨fi.N, defScope fi.st, fun _ => true⟩) (defBody fi.st) (vs.map some ++ List.replicate (fi.N.length - vs.length) none) S
    ⟨fun _ S => .ok .non S, fun _ w S => .ok w S, fun _ _ => .bad, fun _ _ => .bad⟩ := by
  rw [evSC_eq (f := execS P call deepT ⟨fi.N, defScope fi.st, fun _ => true⟩) fun x e S K => execC_eq deepT _ x e S K]
  unfold bodyN
  congr 1; funext r S1
  obtain ⟨e1, fl⟩ := r
  cases fl <;> rfl
/-- one turn of a for, read from the left -/
theorem turn_eq {P : Pg} {call : Cf} {d : Nat} {sx : Sx} {tg : Expr} {body : List Stmt} {w : W} {r : En × Fl} {S : So} : forTurn sx tg (evS (execS P call d sx) body) w r S = (ofO (asg sx r.1 tg w) S).bind fun e2 S2 => evSC (execC P call d sx) body e2 S2
    ⟨fun e S => .ok ((e, Fl.nx), true) S, fun e w S => .ok ((e, Fl.ret w), false) S, fun e S => .ok ((e, Fl.nx), false) S, fun e S => .ok ((e, Fl.nx), true) S⟩ := by
  unfold forTurn
  cases asg sx r.1 tg w with
  | none => rfl
  | some e2 =>
    show Res.bind _ _ = evSC _ body e2 S _
    rw [evSC_eq (f := execS P call d sx) fun x e S K => execC_eq d _ x e S K]
    congr 1; funext r S1
    obtain ⟨e1, fl⟩ := r
    cases fl <;> rfl
/-- the tests of a comprehension -/
def ifsC {α : Type} (g : Expr → So → (So → Res α) → (So → Res α) → Res α) : List Expr → So → (So → Res α) → (So → Res α) → Res α
  | [], S, a, _ => a S
  | [c], S, a, b => g c S a b
  | _, _, _, _ => .bad
/-- one turn of a comprehension, read from the left -/
theorem lct_eq {P : Pg} {call : Cf} {d : Nat} {sx : Sx} {e : En} {tg elt : Expr} {ifs : List Expr} {w : W} {acc : List W} {S : So} : lcTurn (evalE P call d sx) sx e tg ifs elt w acc S = (ofO (asg sx e tg w) S).bind fun e2 S2 =>
    ifsC (testC P call d sx e2) ifs S2 (fun S3 => evalC P call d sx e2 elt S3 fun y S4 => if acc.length < sizeLine then .ok (acc ++ [y], true) S4 else .bad) (fun S3 => .ok (acc, true) S3) := by
  unfold lcTurn
  cases asg sx e tg w with
  | none => rfl
  | some e2 =>
    show (ifsE (evalE P call d sx e2) ifs S).bind _ = ifsC _ ifs S _ _
    match ifs with
    | [] =>
      show (evalE P call d sx e2 elt S).bind _ = evalC P call d sx e2 elt S _
      rw [(both_eq d).1]
    | [c] =>
      show Res.bind (Res.bind _ _) _ = testC P call d sx e2 c S _ _
      rw [(both_eq d).2, Res.assoc']
      congr 1; funext u S1
      unfold tsK
      cases truth u S1 with
      | none => rfl
      | some t =>
        cases t with
        | true =>
          show (evalE P call d sx e2 elt S1).bind _ = evalC P call d sx e2 elt S1 _
          rw [(both_eq d).1]
        | false => rfl
    | _ :: _ :: _ => rfl
/-! ### calls -/
theorem callN_plain {P : Pg} {k : Nat} {f : Str} {fi : Fi} {vs : List W} {S : So} (h : P.F f = some fi) (hl : vs.length = fi.ps.length) (hb : fi.bw = false) (hf : fi.fz = false) (he : P.er f = none := by rfl) : callN P (k + 1) f vs S = bodyN P (callN P k) fi vs S := by
  unfold callN
  simp only [h, hl, hb, hf, he, if_true, Bool.false_eq_true, if_false, Option.isSome_none]
theorem callN_fz {P : Pg} {k : Nat} {f : Str} {fi : Fi} {vs : List W} {S : So} (h : P.F f = some fi) (hl : vs.length = fi.ps.length) (hb : fi.bw = false) (hf : fi.fz = true) (he : P.er f = none := by rfl) : callN P (k + 1) f vs S = lockR S.length (bodyN P (callN P k) fi vs S) := by
  unfold callN
  simp only [h, hl, hb, hf, he, if_true, Bool.false_eq_true, if_false, Option.isSome_none]
theorem callN_bw {P : Pg} {k : Nat} {f : Str} {fi : Fi} {vs us : List W} {S : So} (h : P.F f = some fi) (hl : vs.length = fi.ps.length) (hb : fi.bw = true) (hu : lkWs 0 (lkR 0 true S deepS) vs = some us) (he : P.er f = none := by rfl) : callN P (k + 1) f vs S = backR S (lockR 0 (bodyN P (callN P k) fi us [])) := by
  unfold callN
  simp only [h, hl, hb, hu, he, if_true, Bool.false_eq_true, if_false, Option.isSome_none]
/-- an own error made -/
theorem callN_er {P : Pg} {k : Nat} {f : Str} {fi : Fi} {vs : List W} {S : So} (h : P.F f = some fi) (hl : vs.length = fi.ps.length) (he : (P.er f).isSome = true) : callN P (k + 1) f vs S = .ok (.fins false f (fi.ps.zip vs)) S := by
  unfold callN
  simp only [h, hl, he, if_true]
/-! ### the way to a piece of a text -/
def sN (i : Nat) (l : List Stmt) : Stmt := l.getD i (.Pass ⟨0, 0, 0, 0⟩)
def xNo : Expr := .Constant .none 0 ⟨0, 0, 0, 0⟩
/-- a statement's blocks: 0 the first, 1 the other -/
def sBlk (i : Nat) : Stmt → List Stmt
  | .If _ a b _ => if i = 0 then a else b
  | .For _ _ a _ _ => a
  | .While _ a _ _ => a
  | .Try a _ _ _ _ => a
  | _ => []
/-- a statement's expressions -/
def sX (i : Nat) : Stmt → Expr
  | .Assign [tg] v _ => if i = 0 then v else tg
  | .Expr v _ => v
  | .Return (some v) _ => v
  | .If c _ _ _ => c
  | .For tg it _ _ _ => if i = 0 then it else tg
  | .While c _ _ _ => c
  | .AugAssign t _ v _ => if i = 0 then v else t
  | .Raise (some x) _ _ => x
  | _ => xNo
/-- an expression's pieces -/
def xX (i : Nat) : Expr → Expr
  | .BinOp a _ b _ => if i = 0 then a else b
  | .UnaryOp _ a _ => a
  | .BoolOp _ vs _ => vs.getD i xNo
  | .Compare a _ bs _ => if i = 0 then a else bs.getD (i - 1) xNo
  | .IfExp c a b _ => if i = 0 then c else if i = 1 then a else b
  | .Tuple es _ _ => es.getD i xNo
  | .List es _ => es.getD i xNo
  | .Dict ks vs _ => if i % 2 = 0 then ((ks.getD (i / 2) none).getD xNo) else vs.getD (i / 2) xNo
  | .Subscript a b _ => if i = 0 then a else b
  | .Slice lo hi _ _ => if i = 0 then lo.getD xNo else hi.getD xNo
  | .JoinedStr es _ => es.getD i xNo
  | .FormattedValue x _ _ _ => x
  | .Call f es kws _ => if i = 0 then f else if i ≤ es.length then es.getD (i - 1) xNo else (kws[i - 1 - es.length]?).elim xNo (·.value)
  | .Attribute o _ _ => o
  | .Starred x _ => x
  | .ListComp elt gs _ _ => if i = 0 then elt else match gs with
    | g :: _ => if i = 1 then g.iter else if i = 2 then g.target else g.ifs.getD (i - 3) xNo
    | _ => xNo
  | _ => xNo
/-- the turn of a comprehension that stands in the text -/
def lcF (P : Pg) (call : Cf) (d : Nat) (sx : Sx) (e : En) : Expr → W → List W → So → Res (List W × Bool)
  | .ListComp elt [⟨tg, _, ifs, _⟩] scope _ => lcTurn (evalE P call d ⟨sx.N, relS scope sx.sc, fun x => scope.names.lookup x == some .cell⟩) ⟨sx.N, relS scope sx.sc, fun x => scope.names.lookup x == some .cell⟩ (wipeW e ((ownOf sx.N scope).map (·.2))) tg ifs elt
  | _ => fun _ _ _ => .bad
/-- the turn of a for that stands in the text -/
def foF (P : Pg) (call : Cf) (d : Nat) (sx : Sx) : Stmt → W → En × Fl → So → Res ((En × Fl) × Bool)
  | .For tg _ body _ _ => forTurn sx tg (evS (execS P call d sx) body)
  | _ => fun _ _ _ => .bad
/-- the same, from the left -/
def lcC (P : Pg) (call : Cf) (d : Nat) (sx : Sx) (e : En) : Expr → W → List W → So → Res (List W × Bool)
  | .ListComp elt [⟨tg, _, ifs, _⟩] scope _ => fun w acc S => (ofO (asg ⟨sx.N, relS scope sx.sc, fun x => scope.names.lookup x == some .cell⟩ (wipeW e ((ownOf sx.N scope).map (·.2))) tg w) S).bind fun e2 S2 =>
    ifsC (testC P call d ⟨sx.N, relS scope sx.sc, fun x => scope.names.lookup x == some .cell⟩ e2) ifs S2 (fun S3 => evalC P call d ⟨sx.N, relS scope sx.sc, fun x => scope.names.lookup x == some .cell⟩ e2 elt S3 fun y S4 => if acc.length < sizeLine then .ok (acc ++ [y], true) S4 else .bad) (fun S3 => .ok (acc, true) S3)
  | _ => fun _ _ _ => .bad
def foC (P : Pg) (call : Cf) (d : Nat) (sx : Sx) : Stmt → W → En × Fl → So → Res ((En × Fl) × Bool)
  | .For tg _ body _ _ => fun w r S => (ofO (asg sx r.1 tg w) S).bind fun e2 S2 => evSC (execC P call d sx) body e2 S2
    ⟨fun e S => .ok ((e, Fl.nx), true) S, fun e w S => .ok ((e, Fl.ret w), false) S, fun e S => .ok ((e, Fl.nx), false) S, fun e S => .ok ((e, Fl.nx), true) S⟩
  | _ => fun _ _ _ => .bad
theorem lcF_eq {P : Pg} {call : Cf} {d : Nat} {sx : Sx} {e : En} {x : Expr} {w : W} {acc : List W} {S : So} : lcF P call d sx e x w acc S = lcC P call d sx e x w acc S := by
  unfold lcF lcC
  split
  · exact lct_eq
  · rfl
theorem foF_eq {P : Pg} {call : Cf} {d : Nat} {sx : Sx} {x : Stmt} {w : W} {r : En × Fl} {S : So} : foF P call d sx x w r S = foC P call d sx x w r S := by
  unfold foF foC
  split
  · exact turn_eq
  · rfl
def isFor : Stmt → Bool
  | .For _ _ _ _ _ => true
  | _ => false
/-- a turn, once its target is stored -/
theorem foF_asg {P : Pg} {call : Cf} {d : Nat} {sx : Sx} {x : Stmt} {w : W} {r : En × Fl} {S : So} {e2 : En} (hx : isFor x = true) (h : asg sx r.1 (sX 1 x) w = some e2) : foF P call d sx x w r S = evSC (execC P call d sx) (sBlk 0 x) e2 S
    ⟨fun e S => .ok ((e, Fl.nx), true) S, fun e w S => .ok ((e, Fl.ret w), false) S, fun e S => .ok ((e, Fl.nx), false) S, fun e S => .ok ((e, Fl.nx), true) S⟩ := by
  cases x with
  | For tg it body els p =>
    have h : asg sx r.1 tg w = some e2 := h
    rw [foF_eq]
    show (ofO (asg sx r.1 tg w) S).bind _ = _
    rw [h]
    rfl
  | _ => cases hx
def sxF (fi : Fi) : Sx := ⟨fi.N, defScope fi.st, fun _ => true⟩
end Y

namespace Y
open PySem L2
/-- a slot alone -/
def sl1 (o : Option W) : Option W := slot [o] 0
/-- where a comprehension's pieces stand -/
def sxL (sx : Sx) : Expr → Sx
  | .ListComp _ _ scope _ => ⟨sx.N, relS scope sx.sc, fun x => scope.names.lookup x == some .cell⟩
  | _ => sx
end Y

/-! Rules for reading on: one construct a lemma. -/
namespace Y
open PySem L2
/-- the answer is there, and Q holds of it -/
def Yes {α : Type} (r : Res α) (Q : α → So → Prop) : Prop := ∃ a S, r = .ok a S ∧ Q a S
section
variable {α β : Type}
theorem yes_bind {r : Res α} {g : α → So → Res β} {R : α → So → Prop} {Q : β → So → Prop} (h : Yes r R) (k : ∀ a S, R a S → Yes (g a S) Q) : Yes (r.bind g) Q := by
  obtain ⟨a, S, rfl, q⟩ := h
  exact k a S q
theorem yes_ok {a : α} {S : So} {Q : α → So → Prop} (h : Q a S) : Yes (.ok a S) Q := ⟨a, S, rfl, h⟩
theorem yes_imp {r : Res α} {R Q : α → So → Prop} (h : Yes r R) (k : ∀ a S, R a S → Q a S) : Yes r Q := by
  obtain ⟨a, S, e, q⟩ := h
  exact ⟨a, S, e, k a S q⟩
theorem yes_eq {r : Res α} {a : α} {S : So} (h : Yes r fun x T => x = a ∧ T = S) : r = .ok a S := by
  obtain ⟨x, T, e, rfl, rfl⟩ := h; exact e
theorem of_eq {r : Res α} {a : α} {S : So} {Q : α → So → Prop} (h : r = .ok a S) (q : Q a S) : Yes r Q := ⟨a, S, h, q⟩
theorem bOk {a : α} {S : So} {f : α → So → Res β} : (Res.ok a S).bind f = f a S := rfl
theorem oOk {a : α} {S : So} : ofO (some a) S = .ok a S := rfl
theorem kNx {K : Kn α} {e : En} {S : So} : kof K (e, Fl.nx) S = K.nx e S := rfl
theorem kRt {K : Kn α} {e : En} {w : W} {S : So} : kof K (e, Fl.ret w) S = K.rt e w S := rfl
theorem kBk {K : Kn α} {e : En} {S : So} : kof K (e, Fl.brk) S = K.bk e S := rfl
theorem kCt {K : Kn α} {e : En} {S : So} : kof K (e, Fl.ct) S = K.ct e S := rfl
theorem iI_i {i : Int} {f : Int → Res α} : iI (.int i) f = f i := rfl
end
theorem sl1_s {w : W} : sl1 (some w) = some w := rfl
theorem sl0 {w : W} {r : En} : slot (some w :: r) 0 = some w := rfl
theorem slS {a : Option W} {r : En} {i : Nat} : slot (a :: r) (i + 1) = slot r i := by
  unfold slot; rw [List.getElem?_cons_succ]
section
variable {S : So} {m : Bool}
theorem tr_bl {b : Bool} : truth (.bl b) S = some b := rfl
theorem tr_non : truth .non S = some false := rfl
theorem tr_tup {xs : List W} : truth (.tup xs) S = some (!xs.isEmpty) := rfl
theorem tr_fl {t : Bool} {xs : List W} : truth (.fl t xs) S = some (!xs.isEmpty) := rfl
theorem tr_fd {t : Bool} {xs : List (Kd × W)} : truth (.fd t xs) S = some (!xs.isEmpty) := rfl
theorem tr_int {i : Int} : truth (.int i) S = some (i != 0) := rfl
theorem c_eqI {i j : Int} : cmp .Eq (.int i) (.int j) S = some (decide (i = j)) := rfl
theorem c_neI {i j : Int} : cmp .NotEq (.int i) (.int j) S = some (!decide (i = j)) := rfl
theorem c_ltI {i j : Int} : cmp .Lt (.int i) (.int j) S = some (decide (i < j)) := rfl
theorem c_leI {i j : Int} : cmp .LtE (.int i) (.int j) S = some (decide (i ≤ j)) := rfl
theorem c_gtI {i j : Int} : cmp .Gt (.int i) (.int j) S = some (decide (j < i)) := rfl
theorem c_geI {i j : Int} : cmp .GtE (.int i) (.int j) S = some (decide (j ≤ i)) := rfl
theorem c_eqS {x y : Str} : cmp .Eq (.str x) (.str y) S = some (decide (x = y)) := rfl
theorem c_neS {x y : Str} : cmp .NotEq (.str x) (.str y) S = some (!decide (x = y)) := rfl
theorem b_addI {i j : Int} : binop m .Add (.int i) (.int j) S = .ok (.int (i + j)) S := rfl
theorem b_subI {i j : Int} : binop m .Sub (.int i) (.int j) S = .ok (.int (i - j)) S := rfl
theorem b_mod {i j : Int} (h : 0 < j) : binop m .Mod (.int i) (.int j) S = .ok (.int (i % j)) S := if_pos h
theorem b_div {i j : Int} (h : 0 < j ∧ j < 1073741824) : binop m .FloorDiv (.int i) (.int j) S = .ok (.int (i / j)) S := if_pos h
theorem b_mul {i j : Int} (h : Builtin.Int.intBits i + Builtin.Int.intBits j ≤ 134217728) : binop m .Mult (.int i) (.int j) S = .ok (.int (i * j)) S := if_pos h
theorem b_pow {i j : Int} (h : 0 ≤ j ∧ (Builtin.Int.intBits i : Int) * j ≤ 134217728) : binop m .Pow (.int i) (.int j) S = .ok (.int (i ^ j.toNat)) S := if_pos h
theorem b_addS {x y : Str} (h : x.length + y.length ≤ sizeLine) : binop m .Add (.str x) (.str y) S = .ok (.str (x ++ y)) S := if_pos h
theorem b_addT {x y : List W} (h : x.length + y.length ≤ sizeLine) : binop m .Add (.tup x) (.tup y) S = .ok (.tup (x ++ y)) S := if_pos h
theorem b_addF {s t : Bool} {x y : List W} (h : x.length + y.length ≤ sizeLine) : binop false .Add (.fl s x) (.fl t y) S = .ok (.fl false (x ++ y)) S := if_pos h
theorem vb_intI {i : Int} : builtin m "int" [.int i] S = .ok (.int i) S := rfl
theorem vb_intB {b : Bool} : builtin m "int" [.bl b] S = .ok (.int (if b then 1 else 0)) S := rfl
theorem vb_max {i j : Int} : builtin m "max" [.int i, .int j] S = .ok (.int (if j > i then j else i)) S := rfl
theorem vb_min {i j : Int} : builtin m "min" [.int i, .int j] S = .ok (.int (if j < i then j else i)) S := rfl
theorem len_tup {xs : List W} : builtin m "len" [.tup xs] S = .ok (.int xs.length) S := rfl
theorem len_fl {t : Bool} {xs : List W} : builtin m "len" [.fl t xs] S = .ok (.int xs.length) S := rfl
theorem len_str {z : Str} (h : z.length ≤ sizeLine) : builtin m "len" [.str z] S = .ok (.int z.length) S := if_pos h
theorem vb_listT {xs : List W} : builtin false "list" [.tup xs] S = .ok (.fl false xs) S := rfl
theorem vb_listF {t : Bool} {xs : List W} : builtin false "list" [.fl t xs] S = .ok (.fl false xs) S := rfl
theorem vb_tupT {xs : List W} : builtin m "tuple" [.tup xs] S = .ok (.tup xs) S := rfl
theorem vb_tupF {t : Bool} {xs : List W} : builtin m "tuple" [.fl t xs] S = .ok (.tup xs) S := rfl
theorem vw_tup {xs : List W} : walkV (.tup xs) S = .ok (.seq xs) S := rfl
theorem vw_fl {t : Bool} {xs : List W} : walkV (.fl t xs) S = .ok (.seq xs) S := rfl
/-- a sign as a text -/
def one (c : Nat) : Str := ⟨#[c]⟩
theorem vw_str {z : Str} : walkV (.str z) S = .ok (.seq (z.cps.toList.map fun c => W.str (one c))) S := rfl
theorem vs_tup {xs : List W} {lo hi : Option Int} : slice m (.tup xs) lo hi S = .ok (.tup (cutW xs lo hi)) S := rfl
theorem vs_fl {t : Bool} {xs : List W} {lo hi : Option Int} : slice false (.fl t xs) lo hi S = .ok (.fl false (cutW xs lo hi)) S := rfl
theorem it_tup {xs : List W} {i : Int} : item (.tup xs) (.int i) S = L2.atI xs i := rfl
theorem it_fl {t : Bool} {xs : List W} {i : Int} : item (.fl t xs) (.int i) S = L2.atI xs i := rfl
theorem atI_ok {ws : List W} {i : Int} {w : W} (h0 : 0 ≤ i) (h : ws[i.toNat]? = some w) : L2.atI ws i = some w := by
  have hl := (List.getElem?_eq_some_iff.mp h).1
  unfold L2.atI L2.ixN
  rw [if_pos h0, if_pos (by omega)]
  exact h
theorem at0 {x : W} {r : List W} : L2.atI (x :: r) 0 = some x := atI_ok (by decide) rfl
theorem at1 {x y : W} {r : List W} : L2.atI (x :: y :: r) 1 = some y := atI_ok (by decide) rfl
theorem at2 {x y z : W} {r : List W} : L2.atI (x :: y :: z :: r) 2 = some z := atI_ok (by decide) rfl
end
theorem bits_ltI {x : Int} {n : Nat} (h0 : 0 ≤ x) (h : x < 2 ^ n) : Builtin.Int.intBits x ≤ n := by
  rw [intBits_le_iff]
  have e : ((x.natAbs : Nat) : Int) = x := Int.natAbs_of_nonneg h0
  have e2 : (((2 : Nat) ^ n : Nat) : Int) = (2 : Int) ^ n := by simp
  omega
/-! loops -/
theorem turns_seq {α : Type} {ws : List W} {f : W → α → So → Res (α × Bool)} {Inv : Nat → α → So → Prop} (step : ∀ j a S w, ws[j]? = some w → Inv j a S → Yes (f w a S) fun r S' => r.2 = true ∧ Inv (j + 1) r.1 S') : ∀ (n j : Nat) (a : α) (S : So), j + n = ws.length → Inv j a S → Yes (turns (.seq ws) f n j a S) (Inv ws.length)
  | 0, j, a, S, h, q => by
    have e : ws[j]? = none := by rw [List.getElem?_eq_none_iff]; omega
    have hj : j = ws.length := by omega
    unfold turns Wk.at
    simp only [e]
    exact yes_ok (by rw [← hj]; exact q)
  | n + 1, j, a, S, h, q => by
    have hj : j < ws.length := by omega
    have e : ws[j]? = some ws[j] := List.getElem?_eq_getElem hj
    unfold turns Wk.at
    simp only [e]
    refine yes_bind (step j a S _ e q) fun r S' ⟨h1, h2⟩ => ?_
    rw [h1]
    exact turns_seq step n (j + 1) r.1 S' (by omega) h2
/-- a walk over what is written down: an invariant -/
theorem yes_turns {α β : Type} {ws : List W} {f : W → α → So → Res (α × Bool)} {a : α} {S : So} {g : α → So → Res β} {Q : β → So → Prop} (Inv : Nat → α → So → Prop) (h0 : Inv 0 a S) (step : ∀ j a S w, ws[j]? = some w → Inv j a S → Yes (f w a S) fun r S' => r.2 = true ∧ Inv (j + 1) r.1 S') (k : ∀ a S, Inv ws.length a S → Yes (g a S) Q) :
    Yes ((turns (.seq ws) f (Wk.seq ws).len 0 a S).bind g) Q :=
  yes_bind (turns_seq step ws.length 0 a S (by simp) h0) k
theorem noX_ok {α : Type} {r : Res α} {Q : α → So → Prop} (h : Yes r Q) : Yes (noX r) Q := by
  obtain ⟨a, S, rfl, q⟩ := h
  exact ⟨a, S, rfl, q⟩
/-- a comprehension: an invariant over what the list has so far -/
theorem yes_lc {β : Type} {ws : List W} {f : W → List W → So → Res (List W × Bool)} {S : So} {g : List W → So → Res β} {Q : β → So → Prop} (Inv : Nat → List W → So → Prop) (h0 : Inv 0 [] S) (step : ∀ j a S w, ws[j]? = some w → Inv j a S → Yes (f w a S) fun r S' => r.2 = true ∧ Inv (j + 1) r.1 S') (k : ∀ a S, Inv ws.length a S → Yes (g a S) Q) :
    Yes ((noX (turns (.seq ws) f (Wk.seq ws).len 0 [] S)).bind g) Q :=
  yes_bind (noX_ok (turns_seq step ws.length 0 [] S (by simp) h0)) k
/-- a comprehension whose turns leave the store as it is: fm w: what the turn with w puts in -/
theorem lc_pure {ws : List W} {f : W → List W → So → Res (List W × Bool)} {S : So} (fm : W → List W) (step : ∀ w ∈ ws, ∀ acc : List W, acc.length ≤ (ws.flatMap fm).length → f w acc S = .ok (acc ++ fm w, true) S) : noX (turns (.seq ws) f (Wk.seq ws).len 0 [] S) = .ok (ws.flatMap fm) S := by
  have core : Yes (turns (.seq ws) f (Wk.seq ws).len 0 [] S) fun a T => a = (ws.take ws.length).flatMap fm ∧ T = S := by
    refine turns_seq (Inv := fun j a T => a = (ws.take j).flatMap fm ∧ T = S) (fun j a T w hw ⟨e1, e2⟩ => ?_) ws.length 0 [] S (by simp) ⟨by simp, rfl⟩
    subst e1 e2
    have hm := List.mem_of_getElem? hw
    have hl : ((ws.take j).flatMap fm).length ≤ (ws.flatMap fm).length := by
      rw [List.length_flatMap, List.length_flatMap, List.map_take]
      have h0 : (ws.map fun x => (fm x).length) = (ws.map fun x => (fm x).length).take j ++ (ws.map fun x => (fm x).length).drop j := (List.take_append_drop j _).symm
      have := congrArg List.sum h0
      rw [List.sum_append_nat] at this
      omega
    refine ⟨_, _, step w hm _ hl, rfl, ?_, rfl⟩
    rw [List.take_add_one, hw]
    simp
  obtain ⟨a, T, e, e1, e2⟩ := core
  rw [e, e1, e2, List.take_length]
  rfl
theorem rg_at {n j : Nat} {lo : Int} {w : W} (h : (rangeW lo n)[j]? = some w) : w = .int (lo + (j : Int)) ∧ j < n := by
  unfold rangeW at h
  rw [List.getElem?_map] at h
  obtain ⟨c, e1, e2⟩ := Option.map_eq_some_iff.mp h
  obtain ⟨hl, e3⟩ := List.getElem?_eq_some_iff.mp e1
  rw [List.getElem_range] at e3
  rw [List.length_range] at hl
  subst e3
  exact ⟨e2.symm, hl⟩
theorem rg_len {lo : Int} {n : Nat} : (rangeW lo n).length = n := by unfold rangeW; simp
theorem rgC1 {α : Type} {j : Int} {k : Wk → Res α} (h : -(2 ^ 62) ≤ j ∧ j < 2 ^ 62) : rgC [.int j] k = k (.seq (rangeW 0 j.toNat)) := if_pos h
theorem rgC2 {α : Type} {i j : Int} {k : Wk → Res α} (h : (-(2 ^ 62) ≤ i ∧ i < 2 ^ 62) ∧ -(2 ^ 62) ≤ j ∧ j < 2 ^ 62) : rgC [.int i, .int j] k = k (.seq (rangeW i (j - i).toNat)) := if_pos h
/-! isinstance of data -/
def isStr : W → Bool
  | .str _ => true
  | _ => false
def isTup : W → Bool
  | .tup _ => true
  | _ => false
def isLst : W → Bool
  | .fl _ _ => true
  | _ => false
def isDct : W → Bool
  | .fd _ _ => true
  | _ => false
/-- a value of data: no thing of the store, no class, no instance -/
def top1 : W → Bool
  | .non => true
  | .bl _ => true
  | .int _ => true
  | .str _ => true
  | .tup _ => true
  | .fl _ _ => true
  | .fd _ _ => true
  | _ => false
theorem isi_str {w : W} {S : So} {m : Bool} (h : top1 w = true) : builtin m "isinstance" [w, .ty "str"] S = .ok (.bl (isStr w)) S := by
  cases w <;> first | rfl | cases h
theorem isi_tup {w : W} {S : So} {m : Bool} (h : top1 w = true) : builtin m "isinstance" [w, .ty "tuple"] S = .ok (.bl (isTup w)) S := by
  cases w <;> first | rfl | cases h
theorem isi_lst {w : W} {S : So} {m : Bool} (h : top1 w = true) : builtin m "isinstance" [w, .ty "list"] S = .ok (.bl (isLst w)) S := by
  cases w <;> first | rfl | cases h
theorem isi_dct {w : W} {S : So} {m : Bool} (h : top1 w = true) : builtin m "isinstance" [w, .ty "dict"] S = .ok (.bl (isDct w)) S := by
  cases w <;> first | rfl | cases h
theorem isi_s {z : Str} {S : So} {m : Bool} : builtin m "isinstance" [.str z, .ty "str"] S = .ok (.bl true) S := rfl
theorem isi_t {z : List W} {S : So} {m : Bool} : builtin m "isinstance" [.tup z, .ty "tuple"] S = .ok (.bl true) S := rfl
theorem bls_map : ∀ l : List Bool, blsOf (l.map W.bl) = some l
  | [] => rfl
  | b :: r => by
    show (blsOf (r.map W.bl)).map (b :: ·) = _
    rw [bls_map r]; rfl
theorem all_fl {l : List Bool} {t : Bool} {S : So} {m : Bool} : builtin m "all" [.fl t (l.map W.bl)] S = .ok (.bl (l.all id)) S := by
  show (match blsOf (l.map W.bl) with | some bs => Res.ok (W.bl (bs.all id)) S | none => Res.bad) = _
  rw [bls_map]
theorem any_fl {l : List Bool} {t : Bool} {S : So} {m : Bool} : builtin m "any" [.fl t (l.map W.bl)] S = .ok (.bl (l.any id)) S := by
  show (match blsOf (l.map W.bl) with | some bs => Res.ok (W.bl (bs.any id)) S | none => Res.bad) = _
  rw [bls_map]
/-! one sign against a text of one sign -/
theorem lt_one {a b : Nat} : decide ((one a).cps.toList < (one b).cps.toList) = decide (a < b) := by
  have : ((one a).cps.toList < (one b).cps.toList) ↔ a < b := by
    show ([a] < [b]) ↔ _
    rw [List.cons_lt_cons_iff]
    constructor
    · rintro (h | ⟨rfl, h⟩)
      · exact h
      · exact absurd h (List.not_lt_nil _)
    · exact .inl
  simp [this]
theorem c_le1 {a b : Nat} {S : So} : cmp .LtE (.str (one a)) (.str (one b)) S = some (decide (a ≤ b)) := by
  show some (!decide ((one b).cps.toList < (one a).cps.toList)) = _
  rw [lt_one]
  congr 1
  by_cases h : a ≤ b <;> simp [h] <;> omega
end Y

/-! Data: what is read of it, its repr, its equality. -/
namespace Y
open PySem L2
section
variable {f g : Nat → Option PyData}
mutual
theorem dW_le (h : ∀ i d, f i = some d → g i = some d) : ∀ (w : W) (d : PyData), dW f w = some d → dW g w = some d
  | .non, _, e => by unfold dW at e ⊢; exact e
  | .bl _, _, e => by unfold dW at e ⊢; exact e
  | .int _, _, e => by unfold dW at e ⊢; exact e
  | .str _, _, e => by unfold dW at e ⊢; exact e
  | .ty _, _, e => by unfold dW at e; cases e
  | .glo _, _, e => by unfold dW at e; cases e
  | .fins _ _ _, _, e => by unfold dW at e; cases e
  | .ref i, _, e => by unfold dW at e ⊢; exact h _ _ e
  | .tup xs, _, e => by
    unfold dW at e ⊢
    obtain ⟨ds, e1, rfl⟩ := Option.map_eq_some_iff.mp e
    rw [dWs_le h xs ds e1]; rfl
  | .fl _ xs, _, e => by
    unfold dW at e ⊢
    obtain ⟨ds, e1, rfl⟩ := Option.map_eq_some_iff.mp e
    rw [dWs_le h xs ds e1]; rfl
  | .fd _ xs, _, e => by
    unfold dW at e ⊢
    obtain ⟨ds, e1, rfl⟩ := Option.map_eq_some_iff.mp e
    rw [dKvs_le h xs ds e1]; rfl
theorem dWs_le (h : ∀ i d, f i = some d → g i = some d) : ∀ (w : List W) (d : List PyData), dWs f w = some d → dWs g w = some d
  | [], _, e => by unfold dWs at e ⊢; exact e
  | x :: xs, _, e => by
    unfold dWs at e ⊢
    split at e
    · cases e
    · rename_i d hd
      split at e
      · cases e
      · rename_i ds hds
        cases e
        rw [dW_le h x d hd, dWs_le h xs ds hds]
theorem dKvs_le (h : ∀ i d, f i = some d → g i = some d) : ∀ (w : List (Kd × W)) (d : List (PyData × PyData)), dKvs f w = some d → dKvs g w = some d
  | [], _, e => by unfold dKvs at e ⊢; exact e
  | (k, x) :: xs, _, e => by
    unfold dKvs at e ⊢
    split at e
    · cases e
    · rename_i d hd
      split at e
      · cases e
      · rename_i ds hds
        cases e
        rw [dW_le h x d hd, dKvs_le h xs ds hds]
end
end
/-- what is read of a value that is no thing of the store -/
def dt (w : W) : Option PyData := dW (fun _ => none) w
theorem toD_dt {w : W} {d : PyData} {S : So} (h : dt w = some d) : toD S w = some d := dW_le (fun i d e => by cases e) w d h
theorem dt_str {z : Str} : dt (.str z) = some (.str z) := rfl
/-- repr may be asked -/
def reOk (d : PyData) : Bool := d.showable && decide (d.shown.length ≤ sizeLine) && decide (d.depth ≤ 150)
theorem vb_repr {w : W} {d : PyData} {S : So} {m : Bool} (h : dt w = some d) (hr : reOk d = true) : builtin m "repr" [w] S = .ok (.str d.shown) S := by
  show (match toD S w with | some d => if (d.showable && decide (d.shown.length ≤ sizeLine) && decide (d.depth ≤ 150)) = true then Res.ok (W.str d.shown) S else Res.bad | none => Res.bad) = _
  rw [toD_dt h]
  exact if_pos hr
theorem reOk_of {d : PyData} (h1 : d.showable = true) (h2 : d.depth ≤ 150) (h3 : d.leavesShort 8 = true) (h4 : d.weight ≤ 2 ^ 20) : reOk d = true := by
  unfold reOk
  rw [h1, decide_eq_true (PyData.shown_fits (B := 8) (by decide) (by decide) h3 h4), decide_eq_true h2]
  rfl
/-! small data -/
def fitS (z : Str) : Bool := decide (z.length ≤ 40) && z.cps.toList.all fun c => decide (c < 128)
def fit : Nat → W → Bool
  | _, .non => true
  | _, .bl _ => true
  | _, .int i => decide (0 ≤ i) && decide (i ≤ 100)
  | _, .str z => fitS z
  | n + 1, .tup xs => decide (xs.length ≤ 10) && xs.all (fit n)
  | n + 1, .fl _ xs => decide (xs.length ≤ 10) && xs.all (fit n)
  | _ + 1, .fd _ kvs => kvs.isEmpty
  | _, _ => false
theorem int_short : ∀ n : Nat, n ≤ 100 → PyData.leavesShort 8 (.int n) = true ∧ PyData.showable (.int n) = true ∧ PyData.weight (.int n) ≤ 40 := by
  intro n hn
  have h : ∀ m ∈ List.range 101, PyData.leavesShort 8 (.int m) = true ∧ PyData.showable (.int m) = true ∧ PyData.weight (.int m) ≤ 40 := by decide +kernel
  exact h n (List.mem_range.mpr (by omega))
/-- what is known of small data -/
structure Sm (n : Nat) (d : PyData) : Prop where
  sh : d.showable = true
  dp : d.depth ≤ n
  sl : d.leavesShort 8 = true
  wt : d.weight ≤ 40 * 11 ^ n
theorem p41 (n : Nat) : 1 ≤ 11 ^ n := Nat.one_le_pow _ _ (by decide)
theorem fit_str {z : Str} (h : fitS z = true) (n : Nat) : Sm n (.str z) := by
  unfold fitS at h
  rw [Bool.and_eq_true] at h
  refine ⟨rfl, Nat.zero_le _, ?_, ?_⟩
  · show (z.cps.toList.all fun c => decide (c < 16 ^ 8)) = true
    rw [List.all_eq_true]
    intro c hc
    have := of_decide_eq_true (List.all_eq_true.mp h.2 c hc)
    have e : (16 : Nat) ^ 8 = 4294967296 := by decide
    rw [e]
    exact decide_eq_true (by omega)
  · show z.cps.size ≤ _
    have : z.length ≤ 40 := of_decide_eq_true h.1
    have e : z.cps.size = z.length := rfl
    have := p41 n
    rw [e]
    calc z.length ≤ 40 * 1 := by omega
      _ ≤ 40 * 11 ^ n := Nat.mul_le_mul_left _ this
theorem fits_ok (n : Nat) (ih : ∀ w, fit n w = true → ∃ d, dt w = some d ∧ Sm n d) : ∀ xs : List W, xs.all (fit n) = true → ∃ ds, dWs (fun _ => none) xs = some ds ∧ ds.length = xs.length ∧ PyData.showableAll ds = true ∧ PyData.depthAll ds ≤ n ∧ PyData.leavesShortAll 8 ds = true ∧ PyData.weightAll ds ≤ xs.length * (40 * 11 ^ n + 1)
  | [], _ => ⟨[], rfl, rfl, rfl, Nat.zero_le _, rfl, Nat.zero_le _⟩
  | x :: xs, h => by
    rw [List.all_cons, Bool.and_eq_true] at h
    obtain ⟨d, e, s⟩ := ih x h.1
    obtain ⟨ds, e1, l1, a1, a2, a3, a4⟩ := fits_ok n ih xs h.2
    refine ⟨d :: ds, ?_, by simp [l1], ?_, ?_, ?_, ?_⟩
    · unfold dWs
      rw [show dW (fun _ => none) x = some d from e, e1]
    · show (d.showable && PyData.showableAll ds) = true
      rw [s.sh, a1]; rfl
    · show max d.depth (PyData.depthAll ds) ≤ n
      exact Nat.max_le.mpr ⟨s.dp, a2⟩
    · show (d.leavesShort 8 && PyData.leavesShortAll 8 ds) = true
      rw [s.sl, a3]; rfl
    · show d.weight + 1 + PyData.weightAll ds ≤ _
      have := s.wt
      rw [List.length_cons, Nat.add_mul]
      omega
theorem fit_ok : ∀ (n : Nat) (w : W), fit n w = true → ∃ d, dt w = some d ∧ Sm n d
  | n, .non, _ => ⟨_, rfl, rfl, Nat.zero_le _, rfl, Nat.zero_le _⟩
  | n, .bl _, _ => ⟨_, rfl, rfl, Nat.zero_le _, rfl, Nat.zero_le _⟩
  | n, .int i, h => by
    have h' : (decide (0 ≤ i) && decide (i ≤ 100)) = true := by cases n <;> exact h
    rw [Bool.and_eq_true] at h'
    have h0 := of_decide_eq_true h'.1
    have h1 := of_decide_eq_true h'.2
    obtain ⟨m, rfl⟩ := Int.eq_ofNat_of_zero_le h0
    obtain ⟨a, b, c⟩ := int_short m (by omega)
    refine ⟨_, rfl, b, Nat.zero_le _, a, Nat.le_trans c ?_⟩
    have := p41 n
    calc 40 = 40 * 1 := rfl
      _ ≤ 40 * 11 ^ n := Nat.mul_le_mul_left _ this
  | n, .str z, h => ⟨_, rfl, fit_str (by cases n <;> exact h) n⟩
  | n + 1, .tup xs, h => by
    have h' : (decide (xs.length ≤ 10) && xs.all (fit n)) = true := h
    rw [Bool.and_eq_true] at h'
    obtain ⟨ds, e1, l1, a1, a2, a3, a4⟩ := fits_ok n (fit_ok n) xs h'.2
    refine ⟨.tuple ds, ?_, a1, Nat.succ_le_succ a2, a3, ?_⟩
    · show (dWs _ xs).map _ = _
      rw [e1]; rfl
    · have hl : xs.length ≤ 10 := of_decide_eq_true h'.1
      have h2 : xs.length * (40 * 11 ^ n + 1) ≤ 10 * (40 * 11 ^ n + 1) := Nat.mul_le_mul_right _ hl
      have := p41 n
      have e : (11 : Nat) ^ (n + 1) = 11 * 11 ^ n := by rw [Nat.pow_succ, Nat.mul_comm]
      show PyData.weightAll ds ≤ _
      rw [e]
      omega
  | n + 1, .fl _ xs, h => by
    have h' : (decide (xs.length ≤ 10) && xs.all (fit n)) = true := h
    rw [Bool.and_eq_true] at h'
    obtain ⟨ds, e1, l1, a1, a2, a3, a4⟩ := fits_ok n (fit_ok n) xs h'.2
    refine ⟨.list ds, ?_, a1, Nat.succ_le_succ a2, a3, ?_⟩
    · show (dWs _ xs).map _ = _
      rw [e1]; rfl
    · have hl : xs.length ≤ 10 := of_decide_eq_true h'.1
      have h2 : xs.length * (40 * 11 ^ n + 1) ≤ 10 * (40 * 11 ^ n + 1) := Nat.mul_le_mul_right _ hl
      have := p41 n
      have e : (11 : Nat) ^ (n + 1) = 11 * 11 ^ n := by rw [Nat.pow_succ, Nat.mul_comm]
      show PyData.weightAll ds ≤ _
      rw [e]
      omega
  | n + 1, .fd _ kvs, h => by
    have h' : kvs.isEmpty = true := h
    have e : kvs = [] := List.isEmpty_iff.mp h'
    subst e
    exact ⟨.dict [], rfl, rfl, Nat.succ_le_succ (Nat.zero_le _), rfl, Nat.zero_le _⟩
  | 0, .fd _ _, h => by cases h
  | 0, .tup _, h => by cases h
  | 0, .fl _ _, h => by cases h
  | n, .ref _, h => by cases n <;> cases h
  | n, .ty _, h => by cases n <;> cases h
  | n, .glo _, h => by cases n <;> cases h
  | n, .fins _ _ _, h => by cases n <;> cases h
theorem fit_re {n : Nat} {w : W} (h : fit n w = true) (hn : n ≤ 4) : ∃ d, dt w = some d ∧ reOk d = true := by
  obtain ⟨d, e, s⟩ := fit_ok n w h
  refine ⟨d, e, reOk_of s.sh (by have := s.dp; omega) s.sl (Nat.le_trans s.wt ?_)⟩
  have : (11 : Nat) ^ n ≤ 11 ^ 4 := Nat.pow_le_pow_right (by decide) hn
  have e2 : (11 : Nat) ^ 4 = 14641 := by decide
  have e3 : (2 : Nat) ^ 20 = 1048576 := by decide
  omega
theorem fit_repr {n : Nat} {w : W} (h : fit n w = true) (hn : n ≤ 4) : ∃ x : Str, ∀ (m : Bool) (S : So), builtin m "repr" [w] S = .ok (.str x) S := by
  obtain ⟨d, e, r⟩ := fit_re h hn
  exact ⟨d.shown, fun m S => vb_repr e r⟩
theorem fit_up {n m : Nat} (hm : n ≤ m) : ∀ {w : W}, fit n w = true → fit m w = true := by
  induction n generalizing m with
  | zero =>
    intro w h
    cases w <;> first | (cases m <;> exact h) | cases h
  | succ n ih =>
    intro w h
    obtain ⟨m, rfl⟩ : ∃ k, m = k + 1 := ⟨m - 1, by omega⟩
    cases w with
    | tup xs =>
      have h' : (decide (xs.length ≤ 10) && xs.all (fit n)) = true := h
      rw [Bool.and_eq_true, List.all_eq_true] at h'
      show (decide (xs.length ≤ 10) && xs.all (fit m)) = true
      rw [h'.1, Bool.true_and, List.all_eq_true]
      exact fun x hx => ih (by omega) (h'.2 x hx)
    | fl t xs =>
      have h' : (decide (xs.length ≤ 10) && xs.all (fit n)) = true := h
      rw [Bool.and_eq_true, List.all_eq_true] at h'
      show (decide (xs.length ≤ 10) && xs.all (fit m)) = true
      rw [h'.1, Bool.true_and, List.all_eq_true]
      exact fun x hx => ih (by omega) (h'.2 x hx)
    | _ => exact h
/-! equality -/
theorem c_eqX {x y : W} {d e : PyData} {S : So} (hx : dt x = some d) (hy : dt y = some e) (sx : SeqAt.shaped d = true) (sy : SeqAt.shaped e = true) (n : ∀ z, x ≠ .str z) (n2 : ∀ z, x ≠ .int z) (nl : lenD x y S = false) (no : oddEq x y S = none) : cmp .Eq x y S = some (PyData.eqv d e) := by
  show eqX x y S = _
  unfold eqX
  split
  · exact absurd rfl (n _)
  · exact absurd rfl (n2 _)
  · rw [nl]
    unfold eqD
    rw [toD_dt hx, toD_dt hy]
    simp only [no, sx, sy, Bool.and_self, if_true, Bool.false_eq_true, if_false]
/-- against the empty list -/
theorem c_eqE {t u : Bool} {xs : List W} {S : So} : cmp .Eq (.fl t xs) (.fl u []) S = some xs.isEmpty := by
  cases xs with
  | nil => rfl
  | cons a r =>
    have h : lenD (.fl t (a :: r)) (.fl u []) S = true := rfl
    show eqX (.fl t (a :: r)) (.fl u []) S = _
    unfold eqX
    simp only [h, if_true]
    rfl
theorem c_neE {t u : Bool} {xs : List W} {S : So} : cmp .NotEq (.fl t xs) (.fl u []) S = some (!xs.isEmpty) := by
  have h := c_eqE (t := t) (u := u) (xs := xs) (S := S)
  show (eqX (.fl t xs) (.fl u []) S).map (!·) = _
  rw [show eqX (.fl t xs) (.fl u []) S = some xs.isEmpty from h]; rfl
end Y

/-! What is locked already stays as it is; things of the store. -/
namespace Y
open PySem L2
section
variable {n : Nat} {f : Nat → Option W}
mutual
theorem lkW_id : ∀ w : W, freeW w = true → lkW n f w = some w
  | .non, _ => rfl
  | .bl _, _ => rfl
  | .int _, _ => rfl
  | .str _, _ => rfl
  | .ty _, _ => rfl
  | .glo _, _ => rfl
  | .ref _, h => by unfold freeW at h; cases h
  | .tup xs, h => by unfold freeW at h; unfold lkW; rw [lkWs_id xs h]; rfl
  | .fl t xs, h => by unfold freeW at h; rw [Bool.and_eq_true] at h; unfold lkW; rw [lkWs_id xs h.2]; rfl
  | .fd t xs, h => by unfold freeW at h; rw [Bool.and_eq_true] at h; unfold lkW; rw [lkKs_id xs h.2]; rfl
  | .fins t C xs, h => by unfold freeW at h; rw [Bool.and_eq_true] at h; unfold lkW; rw [lkFs_id xs h.2]; rfl
theorem lkWs_id : ∀ w : List W, freeWs w = true → lkWs n f w = some w
  | [], _ => rfl
  | x :: xs, h => by unfold freeWs at h; rw [Bool.and_eq_true] at h; unfold lkWs; rw [lkW_id x h.1, lkWs_id xs h.2]; rfl
theorem lkKs_id : ∀ w : List (Kd × W), freeKs w = true → lkKs n f w = some w
  | [], _ => rfl
  | (k, x) :: xs, h => by unfold freeKs at h; rw [Bool.and_eq_true] at h; unfold lkKs; rw [lkW_id x h.1, lkKs_id xs h.2]; rfl
theorem lkFs_id : ∀ w : List (Str × W), freeFs w = true → lkFs n f w = some w
  | [], _ => rfl
  | (k, x) :: xs, h => by unfold freeFs at h; rw [Bool.and_eq_true] at h; unfold lkFs; rw [lkW_id x h.1, lkFs_id xs h.2]; rfl
end
end
/-- nothing in the store's things refers to the store -/
def shutO (o : O) : Prop := ∀ n f, lkO n f o = some o
def Shut (S : So) : Prop := ∀ o ∈ S, shutO o
theorem lkOs_id {n : Nat} {f : Nat → Option W} : ∀ {S : So}, Shut S → lkOs n f S = some S
  | [], _ => rfl
  | x :: xs, h => by
    unfold lkOs
    rw [h x List.mem_cons_self n f, lkOs_id fun o m => h o (List.mem_cons_of_mem _ m)]; rfl
theorem Shut.set {S : So} {i : Nat} {o : O} (h : Shut S) (q : shutO o) : Shut (S.set i o) := fun x m => by
  rcases List.mem_or_eq_of_mem_set m with m | rfl
  · exact h x m
  · exact q
theorem Shut.push {S : So} {o : O} (h : Shut S) (q : shutO o) : Shut (S ++ [o]) := fun x m => by
  rcases List.mem_append.mp m with m | m
  · exact h x m
  · rw [List.mem_singleton] at m; subst m; exact q
theorem Shut.nil : Shut [] := fun _ m => by cases m
theorem shutO_lst {xs : List W} (h : freeWs xs = true) : shutO (.lst xs) := fun n f => by show (lkWs n f xs).map O.lst = _; rw [lkWs_id xs h]; rfl
theorem shutO_dct {xs : List (Kd × W)} (h : freeKs xs = true) : shutO (.dct xs) := fun n f => by show (lkKs n f xs).map O.dct = _; rw [lkKs_id xs h]; rfl
/-- behind a def that locks, where its answer is free -/
theorem lock_ok {w : W} {S S' T : So} (hw : freeW w = true) (hS : S' = S ++ T) (h : Shut S) : lockR S.length (.ok w S') = .ok w S := by
  subst hS
  simp only [lockR]
  rw [lkW_id w hw]
  have : (S ++ T).take S.length = S := by simp
  rw [this, lkOs_id h]
theorem freeWs_mem : ∀ {xs : List W} {w : W}, freeWs xs = true → w ∈ xs → freeW w = true
  | x :: xs, w, h, m => by
    unfold freeWs at h
    rw [Bool.and_eq_true] at h
    rcases List.mem_cons.mp m with rfl | m
    · exact h.1
    · exact freeWs_mem h.2 m
theorem freeWs_app : ∀ {xs ys : List W}, freeWs (xs ++ ys) = (freeWs xs && freeWs ys)
  | [], ys => by simp [freeWs]
  | x :: xs, ys => by simp [freeWs, freeWs_app, Bool.and_assoc]
theorem get_set {S : So} {i : Nat} {x o : O} (h : S[i]? = some x) : (S.set i o)[i]? = some o := List.getElem?_set_self (List.getElem?_eq_some_iff.mp h).1
theorem get_new {S : So} {o : O} : (S ++ [o])[S.length]? = some o := by
  rw [List.getElem?_append_right (Nat.le_refl _)]; simp
theorem get_app {S : So} {D : Nat} {x o : O} (h : S[D]? = some x) : (S ++ [o])[D]? = some x := by
  rw [List.getElem?_append_left (List.getElem?_eq_some_iff.mp h).1]; exact h
theorem get_other {S : So} {i D : Nat} {x o : O} (h : S[D]? = some x) (n : D ≠ i) : (S.set i o)[D]? = some x := by rw [List.getElem?_set_ne (Ne.symm n)]; exact h
theorem set_new {S : So} {a b : O} : (S ++ [a]).set S.length b = S ++ [b] := by
  rw [List.set_append_right _ _ (Nat.le_refl _)]
  simp
theorem set_app {S : So} {i : Nat} {a b x : O} (h : S[i]? = some x) : (S ++ [a]).set i b = S.set i b ++ [a] := by
  rw [List.set_append_left _ _ (List.getElem?_eq_some_iff.mp h).1]
theorem lst_ref {S : So} {i : Nat} {xs : List W} (h : S[i]? = some (.lst xs)) : lstOf (.ref i) S = some xs := by
  unfold lstOf; simp only [h]
theorem seq_ref {S : So} {i : Nat} {xs : List W} (h : S[i]? = some (.lst xs)) : seqOf (.ref i) S = some xs := lst_ref h
theorem lst_none {S : So} {i : Nat} {xs : List (Kd × W)} (h : S[i]? = some (.dct xs)) : lstOf (.ref i) S = none := by
  unfold lstOf; simp only [h]
theorem dct_ref {S : So} {i : Nat} {xs : List (Kd × W)} (h : S[i]? = some (.dct xs)) : dctOf (.ref i) S = some xs := by
  unfold dctOf; simp only [h]
theorem it_dct {S : So} {i : Nat} {kvs : List (Kd × W)} {y : W} {k : Kd} (h : S[i]? = some (.dct kvs)) (hk : toK y = some k) (hs : seeK kvs k = true) : item (.ref i) y S = findK kvs k := by
  show (match lstOf (.ref i) S with
    | some xs => (match y with | .int i => L2.atI xs i | _ => none)
    | none => match dctOf (.ref i) S, toK y with
      | some kvs, some k => if seeK kvs k = true then findK kvs k else none
      | _, _ => none) = _
  rw [lst_none h, dct_ref h, hk]
  exact if_pos hs
theorem it_lst {S : So} {i : Nat} {xs : List W} {j : Int} (h : S[i]? = some (.lst xs)) : item (.ref i) (.int j) S = L2.atI xs j := by
  show (match lstOf (.ref i) S with
    | some xs => L2.atI xs j
    | none => match dctOf (.ref i) S, toK (.int j) with
      | some kvs, some k => if seeK kvs k = true then findK kvs k else none
      | _, _ => none) = _
  rw [lst_ref h]
theorem len_ref {S : So} {i : Nat} {xs : List W} {m : Bool} (h : S[i]? = some (.lst xs)) : builtin m "len" [.ref i] S = .ok (.int xs.length) S := by
  show (match seqOf (.ref i) S with | some xs => Res.ok (W.int xs.length) S | none => Res.bad) = _
  rw [seq_ref h]
theorem ty_ref {α : Type} {S : So} {i : Nat} {xs : List W} {a : Res α} (h : S[i]? = some (.lst xs)) : ifTy (.ref i) S "list" a = a := by
  have e : valTy (.ref i) S = some "list" := by
    show (match S[i]? with | some (.lst _) => some "list" | some (.dct _) => some "dict" | _ => none) = _
    rw [h]
  unfold ifTy
  exact if_pos e
theorem app_ref {S : So} {i : Nat} {xs : List W} {w : W} {m : Bool} (h : S[i]? = some (.lst xs)) (hl : xs.length < sizeLine) : method m (.ref i) "append" [w] S = .ok .non (S.set i (.lst (xs ++ [w]))) := by
  show (match S[i]? with
      | some (.lst xs) => if xs.length < sizeLine then Res.ok W.non (S.set i (.lst (xs ++ [w]))) else Res.bad
      | _ => Res.bad) = _
  rw [h]
  exact if_pos hl
end Y

/-! Texts cut at a sign. -/
namespace Y
open PySem L2 Builtin.Str
def ofL (l : List Nat) : Str := ⟨l.toArray⟩
theorem ofL_to (z : Str) : ofL z.cps.toList = z := rfl
theorem to_ofL (l : List Nat) : (ofL l).cps.toList = l := rfl
theorem len_ofL (l : List Nat) : (ofL l).length = l.length := by simp [ofL, Str.length]
/-- cut at every c -/
def spl (c : Nat) : List Nat → List (List Nat)
  | [] => [[]]
  | a :: r => if a = c then [] :: spl c r else match spl c r with
    | [] => [[a]]
    | p :: ps => (a :: p) :: ps
theorem spl_none {c : Nat} : ∀ {l : List Nat}, c ∉ l → spl c l = [l]
  | [], _ => rfl
  | a :: r, h => by
    have h1 : ¬ a = c := fun e => h (by rw [e]; exact List.mem_cons_self ..)
    have h2 := spl_none (c := c) (l := r) fun m => h (List.mem_cons_of_mem _ m)
    unfold spl
    rw [if_neg h1, h2]
theorem spl_cut {c : Nat} : ∀ {p q : List Nat}, c ∉ p → spl c (p ++ c :: q) = p :: spl c q
  | [], q, _ => by show (if c = c then [] :: spl c q else _) = _; rw [if_pos rfl]
  | a :: r, q, h => by
    have h1 : ¬ a = c := fun e => h (by rw [e]; exact List.mem_cons_self ..)
    have h2 := spl_cut (c := c) (p := r) (q := q) fun m => h (List.mem_cons_of_mem _ m)
    show (if a = c then _ else _) = _
    rw [if_neg h1]
    show (match spl c (r ++ c :: q) with | [] => [[a]] | p :: ps => (a :: p) :: ps) = _
    rw [h2]
theorem spl_ne {c : Nat} {l : List Nat} : spl c l ≠ [] := by
  cases l with
  | nil => nofun
  | cons a r =>
    unfold spl
    split
    · nofun
    · split <;> nofun
/-- at the first c, or nowhere -/
theorem cut_or (c : Nat) (l : List Nat) : c ∉ l ∨ ∃ p q, l = p ++ c :: q ∧ c ∉ p := by
  induction l with
  | nil => exact .inl (by simp)
  | cons a r ih =>
    by_cases h : a = c
    · exact .inr ⟨[], r, by rw [h]; rfl, by simp⟩
    · rcases ih with ih | ⟨p, q, rfl, ih⟩
      · exact .inl fun m => by
          rcases List.mem_cons.mp m with e | m
          · exact h e.symm
          · exact ih m
      · exact .inr ⟨a :: p, q, rfl, fun m => by
          rcases List.mem_cons.mp m with e | m
          · exact h e.symm
          · exact ih m⟩
def hits (l : List Nat) (c b n : Nat) : List Nat := (List.range' b n).filter fun i => decide (l[i]? = some c)
theorem occ_run (s : Str) (c limit : Nat) : ∀ (n b : Nat) (arr : Array Nat) (free : Nat), free ≤ b → arr.size + n ≤ limit → (forIn (List.range' b n) (arr, free) (StrLaws.occBody s ⟨#[c]⟩ s.length limit)).run.fst.toList = arr.toList ++ hits s.cps.toList c b n
  | 0, b, arr, free, _, _ => by simp [hits]
  | n + 1, b, arr, free, h1, h2 => by
    unfold hits
    rw [List.range'_succ, List.forIn_cons, List.filter_cons]
    unfold StrLaws.occBody
    by_cases hc : s.cps.toList[b]? = some c
    · have q := (StrLaws.subAt_one s c b).mpr hc
      rw [if_pos ⟨⟨⟨by show arr.size < limit; omega, h1⟩, q.1⟩, q.2⟩, if_pos (decide_eq_true hc)]
      have ih := occ_run s c limit n (b + 1) (arr.push b) (b + 1) (Nat.le_refl _) (by rw [Array.size_push]; omega)
      refine Eq.trans ih ?_
      rw [Array.toList_push, List.append_assoc]
      rfl
    · have q : ¬ (((((arr, free) : Array Nat × Nat).fst.size < limit ∧ ((arr, free) : Array Nat × Nat).snd ≤ b) ∧ b + (⟨#[c]⟩ : Str).length ≤ s.length) ∧ subAt s ⟨#[c]⟩ b = true) := fun z => hc ((StrLaws.subAt_one s c b).mp ⟨z.1.2, z.2⟩)
      rw [if_neg q, if_neg (by rw [decide_eq_false hc]; nofun)]
      exact occ_run s c limit n (b + 1) arr free (by omega) (by omega)
theorem sub_eq (x : Str) {a b : Nat} : strSub x a b = ofL ((x.cps.toList.drop a).take (b - a)) := by
  apply Str.ext'
  apply Array.toList_inj.mp
  rw [StrLaws.strSub_toList, to_ofL]
theorem parts_spl (x : Str) (c : Nat) : ∀ (n b a : Nat), b + n = x.length + 1 → a ≤ b → (∀ i, a ≤ i → i < b → x.cps.toList[i]? ≠ some c) → StrLaws.partsFrom x 1 a (hits x.cps.toList c b n) = (spl c (x.cps.toList.drop a)).map ofL
  | 0, b, a, h1, h2, h3 => by
    have hx : x.cps.toList.length = x.length := by simp [Str.length]
    have e : c ∉ x.cps.toList.drop a := fun m => by
      obtain ⟨j, hj⟩ := List.mem_iff_getElem?.mp m
      rw [List.getElem?_drop] at hj
      have := (List.getElem?_eq_some_iff.mp hj).1
      exact h3 (a + j) (by omega) (by omega) hj
    rw [spl_none e]
    show [strSub x a x.length] = _
    rw [sub_eq, List.take_of_length_le (by rw [List.length_drop]; omega)]
    rfl
  | n + 1, b, a, h1, h2, h3 => by
    have hx : x.cps.toList.length = x.length := by simp [Str.length]
    unfold hits
    rw [List.range'_succ, List.filter_cons]
    by_cases hc : x.cps.toList[b]? = some c
    · rw [if_pos (decide_eq_true hc)]
      obtain ⟨hb, hv⟩ := List.getElem?_eq_some_iff.mp hc
      have ih := parts_spl x c n (b + 1) (b + 1) (by omega) (Nat.le_refl _) (fun i q1 q2 => by omega)
      show strSub x a b :: StrLaws.partsFrom x 1 (b + 1) (hits x.cps.toList c (b + 1) n) = _
      have e1 : x.cps.toList.drop a = (x.cps.toList.drop a).take (b - a) ++ c :: x.cps.toList.drop (b + 1) := by
        have e2 : x.cps.toList.drop b = c :: x.cps.toList.drop (b + 1) := by rw [List.drop_eq_getElem_cons hb, hv]
        have e3 : (x.cps.toList.drop a).drop (b - a) = x.cps.toList.drop b := by rw [List.drop_drop]; congr 1; omega
        rw [← e2, ← e3, List.take_append_drop]
      have e4 : c ∉ (x.cps.toList.drop a).take (b - a) := fun m => by
        obtain ⟨j, hj⟩ := List.mem_iff_getElem?.mp m
        have q : j < b - a := by
          have := (List.getElem?_eq_some_iff.mp hj).1
          rw [List.length_take] at this; omega
        rw [List.getElem?_take_of_lt q, List.getElem?_drop] at hj
        exact h3 (a + j) (by omega) (by omega) hj
      rw [e1, spl_cut e4, List.map_cons, ih, sub_eq]
    · rw [if_neg (by rw [decide_eq_false hc]; nofun)]
      refine parts_spl x c n (b + 1) a (by omega) (by omega) fun i q1 q2 => ?_
      by_cases hi : i = b
      · rw [hi]; exact hc
      · exact h3 i q1 (by omega)
theorem split_one (x : Str) (c : Nat) : Txt.split x (one c) = (spl c x.cps.toList).map ofL := by
  have h := PySem.W.m_split x (one c) (show ((one c).length == 0) = false from rfl)
  have h2 : PySem.W.GW2.means .split (.str x) (.str (one c)) = some (PySem.W.WData.list ((partsBetween x (occurrences x (one c) 0 x.length (x.length + 1)) (one c).length).map PySem.W.WData.str)) := by
    show (if ((one c).length == 0) = true then Option.none else some (PySem.W.WData.list ((partsBetween x (occurrences x (one c) 0 x.length (x.length + 1)) (one c).length).map PySem.W.WData.str))) = _
    exact if_neg (by rw [show ((one c).length == 0) = false from rfl]; nofun)
  rw [h2] at h
  have h3 := PySem.W.WData.list.inj (Option.some.inj h)
  have h4 : Txt.split x (one c) = partsBetween x (occurrences x (one c) 0 x.length (x.length + 1)) (one c).length := by
    generalize Txt.split x (one c) = A at h3
    generalize partsBetween x (occurrences x (one c) 0 x.length (x.length + 1)) (one c).length = B at h3
    clear h h2
    induction A generalizing B with
    | nil => cases B with
      | nil => rfl
      | cons b r => cases h3
    | cons a r ih => cases B with
      | nil => cases h3
      | cons b t =>
        rw [List.map_cons, List.map_cons] at h3
        injection h3 with q1 q2
        injection q1 with q1
        rw [q1, ih _ q2]
  rw [h4, StrLaws.partsBetween_eq, StrLaws.occ_eq]
  have e := occ_run x c (x.length + 1) (x.length + 1 - 0) 0 #[] 0 (Nat.le_refl _) (by simp)
  have e' : (forIn (List.range' 0 (x.length + 1 - 0)) ((#[] : Array Nat), 0) (StrLaws.occBody x (one c) x.length (x.length + 1))).run.fst.toList = hits x.cps.toList c 0 (x.length + 1) := by
    refine Eq.trans e ?_
    simp
  rw [e']
  exact parts_spl x c (x.length + 1) 0 0 (by omega) (Nat.le_refl _) fun i q1 q2 => by omega
theorem part_one (x : Str) (c : Nat) : (c ∉ x.cps.toList ∧ Txt.partition x (one c) = (x, Str.empty, Str.empty)) ∨ ∃ p q, x.cps.toList = p ++ c :: q ∧ c ∉ p ∧ Txt.partition x (one c) = (ofL p, one c, ofL q) := by
  have hx : x.cps.toList.length = x.length := by simp [Str.length]
  rcases StrLaws.occ_head x (one c) 1 (Nat.le_refl _) with ⟨h, no⟩ | ⟨i, r, h, hi, no⟩
  · refine .inl ⟨fun m => ?_, ?_⟩
    · obtain ⟨j, hj⟩ := List.mem_iff_getElem?.mp m
      exact no j ((StrLaws.subAt_one x c j).mpr hj)
    · unfold Txt.partition; rw [h]
  · have hc := (StrLaws.subAt_one x c i).mp hi
    obtain ⟨hb, hv⟩ := List.getElem?_eq_some_iff.mp hc
    refine .inr ⟨x.cps.toList.take i, x.cps.toList.drop (i + 1), ?_, fun m => ?_, ?_⟩
    · rw [show c :: x.cps.toList.drop (i + 1) = x.cps.toList.drop i by rw [List.drop_eq_getElem_cons hb, hv], List.take_append_drop]
    · obtain ⟨j, hj⟩ := List.mem_iff_getElem?.mp m
      have q : j < i := by
        have := (List.getElem?_eq_some_iff.mp hj).1
        rw [List.length_take] at this; omega
      rw [List.getElem?_take_of_lt q] at hj
      exact no j q ((StrLaws.subAt_one x c j).mpr hj)
    · unfold Txt.partition
      rw [h]
      show (strSub x 0 i, one c, strSub x (i + 1) x.length) = _
      rw [sub_eq, sub_eq, List.drop_zero, Nat.sub_zero]
      rw [List.take_of_length_le (l := x.cps.toList.drop (i + 1)) (by rw [List.length_drop]; omega)]
section
variable {S : So}
theorem one_len (c : Nat) : ((one c).length == 0) = false := rfl
theorem m_split {z : Str} {c : Nat} (h : z.length + 2 ≤ sizeLine) : method false (.str z) "split" [.str (one c)] S = .ok (.fl false ((spl c z.cps.toList).map fun l => W.str (ofL l))) S := by
  show (if ((one c).length == 0) = false ∧ z.length + 2 ≤ sizeLine then mk false ((Txt.split z (one c)).map .str) S else .bad) = _
  rw [if_pos ⟨rfl, h⟩, split_one, List.map_map]
  rfl
theorem m_part {z : Str} {c : Nat} (h : z.length ≤ sizeLine) : method false (.str z) "partition" [.str (one c)] S = .ok (.tup [.str (Txt.partition z (one c)).1, .str (Txt.partition z (one c)).2.1, .str (Txt.partition z (one c)).2.2]) S := by
  show (if ((one c).length == 0) = false ∧ z.length ≤ sizeLine then _ else _) = _
  rw [if_pos ⟨rfl, h⟩]
end
end Y

namespace K4
open PySem Y L2
def top (i : Nat) : Stmt := PySem.Challenge.pw_sharerules_k04_errors_made.main.body.getD i (.Pass ⟨0, 0, 0, 0⟩)
def f_law_well : Fi := ⟨top 18, ["script", "start"], ["script", "start", "mixed", "entry", "digits"], [], false, false⟩
def f_law_draw : Fi := ⟨top 19, ["well", "size"], ["well", "size", "found"], [], false, false⟩
def f_law_choose : Fi := ⟨top 20, ["well", "things"], ["well", "things"], [], false, false⟩
def f_law_values : Fi := ⟨top 21, ["well", "turn"], ["well", "turn", "some", "spot", "line", "found"], [], false, false⟩
def f_law_kinds : Fi := ⟨top 22, ["error"], ["error", "kinds"], [], false, false⟩
def f_law_of_one_kind : Fi := ⟨top 23, ["error", "at"], ["error", "at", "k"], [], false, false⟩
def f_law_made : Fi := ⟨top 24, ["one"], ["one", "some"], [], false, false⟩
def f_law_named : Fi := ⟨top 25, ["one"], ["one", "some"], [], false, false⟩
def f_law : Fi := ⟨top 26, ["script"], ["script", "start", "well", "turn", "one", "other", "line", "some", "more", "held", "errors", "due", "found", "error", "at"], [], false, false⟩
def glo : List (Str × W) := [("BadRules", (.glo "BadRules")), ("RefusingRing", (.glo "RefusingRing")), ("BadRow", (.glo "BadRow")), ("BadQuestion", (.glo "BadQuestion")), ("BadVersion", (.glo "BadVersion")), ("BadText", (.glo "BadText")), ("BadCommand", (.glo "BadCommand")), ("TakenRow", (.glo "TakenRow")), ("UnknownRow", (.glo "UnknownRow")), ("TooMany", (.glo "TooMany")), ("NotPlain", (.glo "NotPlain")), ("NotSingle", (.glo "NotSingle")), ("NotAlike", (.glo "NotAlike")), ("NotSteady", (.glo "NotSteady")), ("BadGuard", (.glo "BadGuard")), ("ShareError", (.glo "ShareError")), ("ValueError", (.ty "ValueError"))]
def tab : List (Str × Fi) := [("_law_well", f_law_well), ("_law_draw", f_law_draw), ("_law_choose", f_law_choose), ("_law_values", f_law_values), ("_law_kinds", f_law_kinds), ("_law_of_one_kind", f_law_of_one_kind), ("_law_made", f_law_made), ("_law_named", f_law_named), ("law", f_law)]
def ers : List (Str × Str) := [("BadRules", "value"), ("RefusingRing", "ring"), ("BadRow", "value"), ("BadQuestion", "value"), ("BadVersion", "value"), ("BadText", "value"), ("BadCommand", "command"), ("TakenRow", "row"), ("UnknownRow", "row"), ("TooMany", "count"), ("NotPlain", "place"), ("NotSingle", "place"), ("NotAlike", "place"), ("NotSteady", "place"), ("BadGuard", "number")]
def P : Pg := pgE glo tab ers (isaE ers "ShareError") [(85, 11, 45), (124, 15, 39), (126, 82, 96)]
theorem e_law_well (k : Nat) (S : So) (script_ : W) (start_ : W) : callN P (k + 1) "_law_well" [script_, start_] S =
  ((binop false .Mult start_ (.int 97) S).bind fun w1 S2 => (binop false .Add (.int 6007) w1 S2).bind fun w3 S4 => (walkV script_ S4).bind fun q5 S6 => (turns q5 (foF P (callN P k) 39 (sxF f_law_well) (sN 1 (defBody f_law_well.st))) q5.len 0 ([some script_, some start_, some w3, none, none], Fl.nx) S6).bind (kof ⟨fun e7 S11 => let j16 := fun (w17 : W) (S18 : So) => (ofO (slot (List.set e7 4 (some w17)) 4) S18).bind fun w19 S20 => (ofO (slot (List.set e7 4 (some w17)) 2) S20).bind fun w21 S22 => (mkD true [(.str "digits", w19), (.str "mixed", w21)] S22).bind fun w23 S24 => .ok w23 S24; (ofO (slot e7 1) S11).bind fun w27 S28 => (ofO (slot e7 0) S28).bind fun w29 S30 => (builtin false "len" [w29] S30).bind fun w31 S32 => iF (cmp .Lt w27 w31 S32) ((ofO (slot e7 0) S32).bind fun w33 S34 => (ofO (slot e7 1) S34).bind fun w35 S36 => (ofO (item w33 w35 S36) S36).bind fun w37 S38 => (binop false .Pow (.int 10) (.int 18) S38).bind fun w39 S40 => iF (cmp .GtE w37 w39 S40) ((ofO (slot e7 0) S40).bind fun w41 S42 => (ofO (slot e7 1) S42).bind fun w43 S44 => (ofO (item w41 w43 S44) S44).bind fun w45 S46 => (binop false .Pow (.int 10) (.int 18) S46).bind fun w47 S48 => (binop false .Sub w45 w47 S48).bind fun w49 S50 => j16 w49 S50) (j16 (.int 0) S40)) (j16 (.int 0) S32), fun e8 w15 S12 => .ok w15 S12, fun e9 S13 => .bad, fun e10 S14 => .bad⟩) : Res W) := (callN_plain rfl rfl rfl rfl).trans (by rw [bodyN_eq]; kernel_rfl)
theorem b_law_well_1 (k : Nat) (S : So) (it : W) (fl : Fl) (script_ : W) (start_ : W) (mixed_ : W) (entry_ : Option W) (digits_ : Option W) : foF P (callN P k) 39 (sxF f_law_well) (sN 1 (defBody f_law_well.st)) it ([some script_, some start_, some mixed_, entry_, digits_], fl) S =
  ((binop false .Mult mixed_ (.int 80021) S).bind fun w1 S2 => (binop false .Mult it it S2).bind fun w3 S4 => (binop false .Add w1 w3 S4).bind fun w5 S6 => (binop false .Add w5 (.int 41) S6).bind fun w7 S8 => (binop false .Pow w7 (.int 2) S8).bind fun w9 S10 => (builtin false "int" [w9] S10).bind fun w11 S12 => (binop false .Mod w11 (.int 2147483423) S12).bind fun w13 S14 => (binop false .Add w13 (.int 13) S14).bind fun w15 S16 => .ok (([some script_, some start_, some w15, some it, digits_], Fl.nx), true) S16 : Res ((En × Fl) × Bool)) := by rw [foF_eq]; kernel_rfl
theorem e_law_draw (k : Nat) (S : So) (well_ : W) (size_ : W) : callN P (k + 1) "_law_draw" [well_, size_] S =
  ((ofO (item well_ (.str "digits") S) S).bind fun w1 S2 => iF (cmp .GtE w1 size_ S2) ((ofO (item well_ (.str "digits") S2) S2).bind fun w3 S4 => (builtin false "int" [w3] S4).bind fun w5 S6 => (binop false .Mod w5 size_ S6).bind fun w7 S8 => (ofO (item well_ (.str "digits") S8) S8).bind fun w9 S10 => (binop false .FloorDiv w9 size_ S10).bind fun w11 S12 => (ofO (setItem well_ (.str "digits") w11 S12) S12).bind fun S13 z14 => .ok w7 S13) ((ofO (item well_ (.str "mixed") S2) S2).bind fun w15 S16 => (binop false .Mult w15 (.int 52391) S16).bind fun w17 S18 => (binop false .Add w17 (.int 7079) S18).bind fun w19 S20 => (builtin false "int" [w19] S20).bind fun w21 S22 => (binop false .Mod w21 (.int 2147483647) S22).bind fun w23 S24 => (ofO (setItem well_ (.str "mixed") w23 S24) S24).bind fun S25 z26 => (ofO (item well_ (.str "mixed") S25) S25).bind fun w27 S28 => (binop false .Pow w27 (.int 2) S28).bind fun w29 S30 => (builtin false "int" [w29] S30).bind fun w31 S32 => (binop false .Mod w31 (.int 2147483549) S32).bind fun w33 S34 => (binop false .Pow w33 (.int 3) S34).bind fun w35 S36 => (builtin false "int" [w35] S36).bind fun w37 S38 => (binop false .Mod w37 (.int 1000000033) S38).bind fun w39 S40 => (binop false .FloorDiv w39 (.int 19) S40).bind fun w41 S42 => (binop false .Mod w41 size_ S42).bind fun w43 S44 => .ok w43 S44) : Res W) := (callN_plain rfl rfl rfl rfl).trans (by rw [bodyN_eq]; kernel_rfl)
theorem e_law_choose (k : Nat) (S : So) (well_ : W) (things_ : W) : callN P (k + 1) "_law_choose" [well_, things_] S =
  ((builtin false "len" [things_] S).bind fun w1 S2 => (callN P k "_law_draw" [well_, w1] S2).bind fun w3 S4 => (ofO (item things_ w3 S4) S4).bind fun w5 S6 => .ok w5 S6 : Res W) := (callN_plain rfl rfl rfl rfl).trans (by rw [bodyN_eq]; kernel_rfl)
theorem h_law_values_0 (k : Nat) (S : So) (well_ : W) (turn_ : W) (KK : Kn W) : evSC (execC P (callN P k) 40 (sxF f_law_values)) ((defBody f_law_values.st).take 4) [some well_, some turn_, none, none, none, none] S KK =
  ((neg (.int 1) S).bind fun w1 S2 => (binop false .Pow (.int 10) (.int 59) S2).bind fun w3 S4 => (callN P k "_law_choose" [well_, (.fl false [(.str "a"), (.str "viewer"), (.str "owner")])] S4).bind fun w5 S6 => (callN P k "_law_choose" [well_, (.fl false [(.int 0), w1, w3, (.bl true), .non, (.str ""), (.str "a"), (.tup []), (.tup [(.int 0), (.tup [(.int 1)])]), (.fl false [(.int 1), turn_]), (.fd false [])])] S6).bind fun w7 S8 => (callN P k "_law_choose" [well_, (.fl false [(.int 0), w1, w3, (.bl true), .non, (.str ""), (.str "a"), (.tup []), (.tup [(.int 0), (.tup [(.int 1)])]), (.fl false [(.int 1), turn_]), (.fd false [])])] S8).bind fun w9 S10 => (callN P k "_law_choose" [well_, (.fl false [(.int 0), w1, w3, (.bl true), .non, (.str ""), (.str "a"), (.tup []), (.tup [(.int 0), (.tup [(.int 1)])]), (.fl false [(.int 1), turn_]), (.fd false [])])] S10).bind fun w11 S12 => (callN P k "_law_choose" [well_, (.fl false [(.int 0), w1, w3, (.bl true), .non, (.str ""), (.str "a"), (.tup []), (.tup [(.int 0), (.tup [(.int 1)])]), (.fl false [(.int 1), turn_]), (.fd false [])])] S12).bind fun w13 S14 => (callN P k "_law_choose" [well_, (.fl false [(.int 0), w1, w3, (.bl true), .non, (.str ""), (.str "a"), (.tup []), (.tup [(.int 0), (.tup [(.int 1)])]), (.fl false [(.int 1), turn_]), (.fd false [])])] S14).bind fun w15 S16 => (binop false .Add (.fl false [w7, (.fl false [(.tup [(.str "doc"), w5]), (.tup [(.str "doc"), (.str "b")])]), w9, (.tup [(.tup [(.str "doc"), w5]), (.str "viewer"), .non])]) (.fl false [w11, w13, w15, (.tup [(.tup [(.str "doc"), (.str "a")]), (.str "viewer"), (.tup [(.str "user"), (.str "ann")])])]) S16).bind fun w17 S18 => KK.nx [some well_, some turn_, some (.fl false [(.int 0), w1, w3, (.bl true), .non, (.str ""), (.str "a"), (.tup []), (.tup [(.int 0), (.tup [(.int 1)])]), (.fl false [(.int 1), turn_]), (.fd false [])]), some (.tup [(.str "doc"), w5]), some (.tup [(.tup [(.str "doc"), (.str "a")]), (.str "viewer"), (.tup [(.str "user"), (.str "ann")])]), some w17] S18 : Res W) := by kernel_rfl
theorem k_law_values_4 (k : Nat) (S : So) (well_ : W) (turn_ : W) (some_ : W) (spot_ : W) (line_ : W) (found_ : W) : evSC (execC P (callN P k) 40 (sxF f_law_values)) ((defBody f_law_values.st).drop 4) [some well_, some turn_, some some_, some spot_, some line_, some found_] S ⟨fun _ S => .ok .non S, fun _ w S => .ok w S, fun _ _ => .bad, fun _ _ => .bad⟩ =
  ((callN P k "_law_draw" [well_, (.int 9)] S).bind fun w1 S2 => (binop false .Add (.int 101) w1 S2).bind fun w3 S4 => (binop false .Add found_ (.fl false [(.tup [spot_, (.str "owner"), (.tup [(.str "user"), (.str "b")])]), w3, spot_, (.tup [(.str "doc"), (.str "x")]), (.tup [(.str "doc"), (.str "")])]) S4).bind fun w5 S6 => (callN P k "_law_draw" [well_, (.int 9)] S6).bind fun w7 S8 => (binop false .Add w5 (.fl false [(.tup [(.str "a"), (.str "b")]), w7]) S8).bind fun w9 S10 => .ok w9 S10 : Res W) := by kernel_rfl
theorem e_law_values (k : Nat) (S : So) (well_ : W) (turn_ : W) : callN P (k + 1) "_law_values" [well_, turn_] S =
  ((neg (.int 1) S).bind fun w1 S2 => (binop false .Pow (.int 10) (.int 59) S2).bind fun w3 S4 => (callN P k "_law_choose" [well_, (.fl false [(.str "a"), (.str "viewer"), (.str "owner")])] S4).bind fun w5 S6 => (callN P k "_law_choose" [well_, (.fl false [(.int 0), w1, w3, (.bl true), .non, (.str ""), (.str "a"), (.tup []), (.tup [(.int 0), (.tup [(.int 1)])]), (.fl false [(.int 1), turn_]), (.fd false [])])] S6).bind fun w7 S8 => (callN P k "_law_choose" [well_, (.fl false [(.int 0), w1, w3, (.bl true), .non, (.str ""), (.str "a"), (.tup []), (.tup [(.int 0), (.tup [(.int 1)])]), (.fl false [(.int 1), turn_]), (.fd false [])])] S8).bind fun w9 S10 => (callN P k "_law_choose" [well_, (.fl false [(.int 0), w1, w3, (.bl true), .non, (.str ""), (.str "a"), (.tup []), (.tup [(.int 0), (.tup [(.int 1)])]), (.fl false [(.int 1), turn_]), (.fd false [])])] S10).bind fun w11 S12 => (callN P k "_law_choose" [well_, (.fl false [(.int 0), w1, w3, (.bl true), .non, (.str ""), (.str "a"), (.tup []), (.tup [(.int 0), (.tup [(.int 1)])]), (.fl false [(.int 1), turn_]), (.fd false [])])] S12).bind fun w13 S14 => (callN P k "_law_choose" [well_, (.fl false [(.int 0), w1, w3, (.bl true), .non, (.str ""), (.str "a"), (.tup []), (.tup [(.int 0), (.tup [(.int 1)])]), (.fl false [(.int 1), turn_]), (.fd false [])])] S14).bind fun w15 S16 => (binop false .Add (.fl false [w7, (.fl false [(.tup [(.str "doc"), w5]), (.tup [(.str "doc"), (.str "b")])]), w9, (.tup [(.tup [(.str "doc"), w5]), (.str "viewer"), .non])]) (.fl false [w11, w13, w15, (.tup [(.tup [(.str "doc"), (.str "a")]), (.str "viewer"), (.tup [(.str "user"), (.str "ann")])])]) S16).bind fun w17 S18 => evSC (execC P (callN P k) 40 (sxF f_law_values)) ((defBody f_law_values.st).drop 4) [some well_, some turn_, some (.fl false [(.int 0), w1, w3, (.bl true), .non, (.str ""), (.str "a"), (.tup []), (.tup [(.int 0), (.tup [(.int 1)])]), (.fl false [(.int 1), turn_]), (.fd false [])]), some (.tup [(.str "doc"), w5]), some (.tup [(.tup [(.str "doc"), (.str "a")]), (.str "viewer"), (.tup [(.str "user"), (.str "ann")])]), some w17] S18 ⟨fun _ S => .ok .non S, fun _ w S => .ok w S, fun _ _ => .bad, fun _ _ => .bad⟩ : Res W) := (callN_plain rfl rfl rfl rfl).trans (by rw [bodyN_eq]; exact (evSC_cut 4).trans (h_law_values_0 k S well_ turn_ ⟨fun e1 S1 => evSC (execC P (callN P k) 40 (sxF f_law_values)) ((defBody f_law_values.st).drop 4) e1 S1 ⟨fun _ S => .ok .non S, fun _ w S => .ok w S, fun _ _ => .bad, fun _ _ => .bad⟩, fun _ w S => .ok w S, fun _ _ => .bad, fun _ _ => .bad⟩))
theorem e_law_kinds (k : Nat) (S : So) (error_ : W) : callN P (k + 1) "_law_kinds" [error_] S =
  ((isiC P.isa error_ (.glo "BadRules") S).bind fun w1 S2 => (isiC P.isa error_ (.glo "RefusingRing") S2).bind fun w3 S4 => (isiC P.isa error_ (.glo "BadRow") S4).bind fun w5 S6 => (isiC P.isa error_ (.glo "BadQuestion") S6).bind fun w7 S8 => (isiC P.isa error_ (.glo "BadVersion") S8).bind fun w9 S10 => (isiC P.isa error_ (.glo "BadText") S10).bind fun w11 S12 => (binop false .Add (.fl false [w1, w3, w5]) (.fl false [w7, w9, w11]) S12).bind fun w13 S14 => (isiC P.isa error_ (.glo "BadCommand") S14).bind fun w15 S16 => (isiC P.isa error_ (.glo "TakenRow") S16).bind fun w17 S18 => (isiC P.isa error_ (.glo "UnknownRow") S18).bind fun w19 S20 => (binop false .Add w13 (.fl false [w15, w17, w19]) S20).bind fun w21 S22 => (isiC P.isa error_ (.glo "TooMany") S22).bind fun w23 S24 => (isiC P.isa error_ (.glo "NotPlain") S24).bind fun w25 S26 => (isiC P.isa error_ (.glo "NotSingle") S26).bind fun w27 S28 => (binop false .Add w21 (.fl false [w23, w25, w27]) S28).bind fun w29 S30 => (isiC P.isa error_ (.glo "NotAlike") S30).bind fun w31 S32 => (isiC P.isa error_ (.glo "NotSteady") S32).bind fun w33 S34 => (isiC P.isa error_ (.glo "BadGuard") S34).bind fun w35 S36 => (binop false .Add w29 (.fl false [w31, w33, w35]) S36).bind fun w37 S38 => .ok w37 S38 : Res W) := (callN_plain rfl rfl rfl rfl).trans (by rw [bodyN_eq]; kernel_rfl)
theorem e_law_of_one_kind (k : Nat) (S : So) (error_ : W) (at_ : W) : callN P (k + 1) "_law_of_one_kind" [error_, at_] S =
  ((isiC P.isa error_ (.glo "ShareError") S).bind fun w3 S4 => iF (truth w3 S4) ((isiC P.isa error_ (.ty "ValueError") S4).bind fun w5 S6 => iF (truth w5 S6) ((callN P k "_law_kinds" [error_] S6).bind fun w7 S8 => rgC [(.int 15)] fun q9 => (noX (turns q9 (lcF P (callN P k) 37 (sxF f_law_of_one_kind) [some error_, some at_, none] (xX 1 (sX 0 (sN 1 (defBody f_law_of_one_kind.st))))) q9.len 0 [] S8)).bind fun acc10 S11 => iB (cmp .Eq w7 (.fl false acc10) S11) fun b12 => .ok (.bl b12) S11) (.ok (.bl false) S6)) (.ok (.bl false) S4) : Res W) := (callN_plain rfl rfl rfl rfl).trans (by rw [bodyN_eq]; kernel_rfl)
theorem c_law_of_one_kind_1 (k : Nat) (S : So) (it : W) (acc : List W) (error_ : W) (at_ : W) (k_ : Option W) : lcF P (callN P k) 37 (sxF f_law_of_one_kind) [some error_, some at_, k_] (xX 1 (sX 0 (sN 1 (defBody f_law_of_one_kind.st)))) it acc S =
  (iB (cmp .Eq it at_ S) fun b1 => if acc.length < sizeLine then .ok (acc ++ [(.bl b1)], true) S else .bad : Res (List W × Bool)) := by rw [lcF_eq]; kernel_rfl
theorem e_law_made (k : Nat) (S : So) (one_ : W) : callN P (k + 1) "_law_made" [one_] S =
  ((ofO (item one_ (.int 0) S) S).bind fun w1 S2 => (callN P k "BadRules" [w1] S2).bind fun w3 S4 => (ofO (item one_ (.int 1) S4) S4).bind fun w5 S6 => (callN P k "RefusingRing" [w5] S6).bind fun w7 S8 => (ofO (item one_ (.int 2) S8) S8).bind fun w9 S10 => (callN P k "BadRow" [w9] S10).bind fun w11 S12 => (ofO (item one_ (.int 3) S12) S12).bind fun w13 S14 => (callN P k "BadQuestion" [w13] S14).bind fun w15 S16 => (ofO (item one_ (.int 4) S16) S16).bind fun w17 S18 => (callN P k "BadVersion" [w17] S18).bind fun w19 S20 => (ofO (item one_ (.int 5) S20) S20).bind fun w21 S22 => (callN P k "BadText" [w21] S22).bind fun w23 S24 => (ofO (item one_ (.int 6) S24) S24).bind fun w25 S26 => (callN P k "BadCommand" [w25] S26).bind fun w27 S28 => (ofO (item one_ (.int 7) S28) S28).bind fun w29 S30 => (callN P k "TakenRow" [w29] S30).bind fun w31 S32 => (ofO (item one_ (.int 8) S32) S32).bind fun w33 S34 => (callN P k "UnknownRow" [w33] S34).bind fun w35 S36 => (ofO (item one_ (.int 9) S36) S36).bind fun w37 S38 => (callN P k "TooMany" [w37] S38).bind fun w39 S40 => (binop false .Add (.fl false [w3, w7, w11, w15, w19]) (.fl false [w23, w27, w31, w35, w39]) S40).bind fun w41 S42 => (ofO (item one_ (.int 10) S42) S42).bind fun w43 S44 => (callN P k "NotPlain" [w43] S44).bind fun w45 S46 => (ofO (item one_ (.int 11) S46) S46).bind fun w47 S48 => (callN P k "NotSingle" [w47] S48).bind fun w49 S50 => (ofO (item one_ (.int 12) S50) S50).bind fun w51 S52 => (callN P k "NotAlike" [w51] S52).bind fun w53 S54 => (ofO (item one_ (.int 13) S54) S54).bind fun w55 S56 => (callN P k "NotSteady" [w55] S56).bind fun w57 S58 => (ofO (item one_ (.int 14) S58) S58).bind fun w59 S60 => (callN P k "BadGuard" [w59] S60).bind fun w61 S62 => (binop false .Add w41 (.fl false [w45, w49, w53, w57, w61]) S62).bind fun w63 S64 => .ok w63 S64 : Res W) := (callN_plain rfl rfl rfl rfl).trans (by rw [bodyN_eq]; kernel_rfl)
theorem h_law_named_0 (k : Nat) (S : So) (one_ : W) (KK : Kn W) : evSC (execC P (callN P k) 40 (sxF f_law_named)) ((defBody f_law_named.st).take 3) [some one_, none] S KK =
  ((ofO (item one_ (.int 0) S) S).bind fun w1 S2 => (callN P k "BadRules" [w1] S2).bind fun w3 S4 => (ofO (item one_ (.int 1) S4) S4).bind fun w5 S6 => (callN P k "RefusingRing" [w5] S6).bind fun w7 S8 => (ofO (item one_ (.int 2) S8) S8).bind fun w9 S10 => (callN P k "BadRow" [w9] S10).bind fun w11 S12 => (ofO (item one_ (.int 3) S12) S12).bind fun w13 S14 => (callN P k "BadQuestion" [w13] S14).bind fun w15 S16 => (ofO (item one_ (.int 4) S16) S16).bind fun w17 S18 => (callN P k "BadVersion" [w17] S18).bind fun w19 S20 => (ofO (item one_ (.int 5) S20) S20).bind fun w21 S22 => (callN P k "BadText" [w21] S22).bind fun w23 S24 => (ofO (item one_ (.int 6) S24) S24).bind fun w25 S26 => (callN P k "BadCommand" [w25] S26).bind fun w27 S28 => (binop false .Add (.fl false [w3, w7, w11, w15]) (.fl false [w19, w23, w27]) S28).bind fun w29 S30 => (ofO (item one_ (.int 7) S30) S30).bind fun w31 S32 => (callN P k "TakenRow" [w31] S32).bind fun w33 S34 => (ofO (item one_ (.int 8) S34) S34).bind fun w35 S36 => (callN P k "UnknownRow" [w35] S36).bind fun w37 S38 => (ofO (item one_ (.int 9) S38) S38).bind fun w39 S40 => (callN P k "TooMany" [w39] S40).bind fun w41 S42 => (ofO (item one_ (.int 10) S42) S42).bind fun w43 S44 => (callN P k "NotPlain" [w43] S44).bind fun w45 S46 => (binop false .Add w29 (.fl false [w33, w37, w41, w45]) S46).bind fun w47 S48 => KK.nx [some one_, some w47] S48 : Res W) := by kernel_rfl
theorem k_law_named_3 (k : Nat) (S : So) (one_ : W) (some_ : W) : evSC (execC P (callN P k) 40 (sxF f_law_named)) ((defBody f_law_named.st).drop 3) [some one_, some some_] S ⟨fun _ S => .ok .non S, fun _ w S => .ok w S, fun _ _ => .bad, fun _ _ => .bad⟩ =
  ((ofO (item one_ (.int 11) S) S).bind fun w1 S2 => (callN P k "NotSingle" [w1] S2).bind fun w3 S4 => (ofO (item one_ (.int 12) S4) S4).bind fun w5 S6 => (callN P k "NotAlike" [w5] S6).bind fun w7 S8 => (ofO (item one_ (.int 13) S8) S8).bind fun w9 S10 => (callN P k "NotSteady" [w9] S10).bind fun w11 S12 => (binop false .Add some_ (.fl false [w3, w7, w11]) S12).bind fun w13 S14 => (ofO (item one_ (.int 14) S14) S14).bind fun w15 S16 => (callN P k "BadGuard" [w15] S16).bind fun w17 S18 => (binop false .Add w13 (.fl false [w17]) S18).bind fun w19 S20 => .ok w19 S20 : Res W) := by kernel_rfl
theorem e_law_named (k : Nat) (S : So) (one_ : W) : callN P (k + 1) "_law_named" [one_] S =
  ((ofO (item one_ (.int 0) S) S).bind fun w1 S2 => (callN P k "BadRules" [w1] S2).bind fun w3 S4 => (ofO (item one_ (.int 1) S4) S4).bind fun w5 S6 => (callN P k "RefusingRing" [w5] S6).bind fun w7 S8 => (ofO (item one_ (.int 2) S8) S8).bind fun w9 S10 => (callN P k "BadRow" [w9] S10).bind fun w11 S12 => (ofO (item one_ (.int 3) S12) S12).bind fun w13 S14 => (callN P k "BadQuestion" [w13] S14).bind fun w15 S16 => (ofO (item one_ (.int 4) S16) S16).bind fun w17 S18 => (callN P k "BadVersion" [w17] S18).bind fun w19 S20 => (ofO (item one_ (.int 5) S20) S20).bind fun w21 S22 => (callN P k "BadText" [w21] S22).bind fun w23 S24 => (ofO (item one_ (.int 6) S24) S24).bind fun w25 S26 => (callN P k "BadCommand" [w25] S26).bind fun w27 S28 => (binop false .Add (.fl false [w3, w7, w11, w15]) (.fl false [w19, w23, w27]) S28).bind fun w29 S30 => (ofO (item one_ (.int 7) S30) S30).bind fun w31 S32 => (callN P k "TakenRow" [w31] S32).bind fun w33 S34 => (ofO (item one_ (.int 8) S34) S34).bind fun w35 S36 => (callN P k "UnknownRow" [w35] S36).bind fun w37 S38 => (ofO (item one_ (.int 9) S38) S38).bind fun w39 S40 => (callN P k "TooMany" [w39] S40).bind fun w41 S42 => (ofO (item one_ (.int 10) S42) S42).bind fun w43 S44 => (callN P k "NotPlain" [w43] S44).bind fun w45 S46 => (binop false .Add w29 (.fl false [w33, w37, w41, w45]) S46).bind fun w47 S48 => evSC (execC P (callN P k) 40 (sxF f_law_named)) ((defBody f_law_named.st).drop 3) [some one_, some w47] S48 ⟨fun _ S => .ok .non S, fun _ w S => .ok w S, fun _ _ => .bad, fun _ _ => .bad⟩ : Res W) := (callN_plain rfl rfl rfl rfl).trans (by rw [bodyN_eq]; exact (evSC_cut 3).trans (h_law_named_0 k S one_ ⟨fun e1 S1 => evSC (execC P (callN P k) 40 (sxF f_law_named)) ((defBody f_law_named.st).drop 3) e1 S1 ⟨fun _ S => .ok .non S, fun _ w S => .ok w S, fun _ _ => .bad, fun _ _ => .bad⟩, fun _ w S => .ok w S, fun _ _ => .bad, fun _ _ => .bad⟩))
theorem e_law (k : Nat) (S : So) (script_ : W) : callN P (k + 1) "law" [script_] S =
  ((builtin false "len" [script_] S).bind fun w2 S3 => (builtin false "min" [(.int 4), w2] S3).bind fun w4 S5 => (builtin false "max" [(.int 1), w4] S5).bind fun w6 S7 => rgC [w6] fun q1 => (turns q1 (foF P (callN P k) 39 (sxF f_law) (sN 0 (defBody f_law.st))) q1.len 0 ([some script_, none, none, none, none, none, none, none, none, none, none, none, none, none, none], Fl.nx) S7).bind (kof ⟨fun e8 S12 => .ok (.bl true) S12, fun e9 w16 S13 => .ok w16 S13, fun e10 S14 => .bad, fun e11 S15 => .bad⟩) : Res W) := (callN_plain rfl rfl rfl rfl).trans (by rw [bodyN_eq]; kernel_rfl)
theorem b_law_1 (k : Nat) (S : So) (it : W) (fl : Fl) (script_ : W) (start_ : Option W) (well_ : Option W) (turn_ : Option W) (one_ : Option W) (other_ : Option W) (line_ : Option W) (some_ : Option W) (more_ : Option W) (held_ : Option W) (errors_ : Option W) (due_ : Option W) (found_ : Option W) (error_ : Option W) (at_ : Option W) : foF P (callN P k) 39 (sxF f_law) (sN 0 (defBody f_law.st)) it ([some script_, start_, well_, turn_, one_, other_, line_, some_, more_, held_, errors_, due_, found_, error_, at_], fl) S =
  ((callN P k "_law_well" [script_, it] S).bind fun w1 S2 => rgC [(.int 4)] fun q3 => (turns q3 (foF P (callN P k) 38 (sxF f_law) (sN 1 (sBlk 0 (sN 0 (defBody f_law.st))))) q3.len 0 ([some script_, some it, some w1, turn_, one_, other_, line_, some_, more_, held_, errors_, due_, found_, error_, at_], Fl.nx) S2).bind (kof ⟨fun e4 S8 => .ok ((e4, Fl.nx), true) S8, fun e5 w12 S9 => .ok ((e5, Fl.ret w12), false) S9, fun e6 S10 => .ok ((e6, Fl.nx), false) S10, fun e7 S11 => .ok ((e7, Fl.nx), true) S11⟩) : Res ((En × Fl) × Bool)) := by rw [foF_eq]; kernel_rfl
theorem h_law_2_0 (k : Nat) (S : So) (it : W) (script_ : W) (start_ : W) (well_ : W) (turn_ : Option W) (one_ : Option W) (other_ : Option W) (line_ : Option W) (some_ : Option W) (more_ : Option W) (held_ : Option W) (errors_ : Option W) (due_ : Option W) (found_ : Option W) (error_ : Option W) (at_ : Option W) (KK : Kn ((En × Fl) × Bool)) : evSC (execC P (callN P k) 38 (sxF f_law)) ((sBlk 0 (sN 1 (sBlk 0 (sN 0 (defBody f_law.st))))).take 3) [some script_, some start_, some well_, some it, one_, other_, line_, some_, more_, held_, errors_, due_, found_, error_, at_] S KK =
  ((callN P k "_law_values" [well_, it] S).bind fun w1 S2 => (callN P k "_law_values" [well_, it] S2).bind fun w3 S4 => (mk true [(.tup [(.str "doc"), (.str "a")])] S4).bind fun w5 S6 => (callN P k "_law_made" [w1] S6).bind fun w7 S8 => (callN P k "_law_named" [w3] S8).bind fun w9 S10 => (callN P k "RefusingRing" [w5] S10).bind fun w11 S12 => (attrV P w11 "ring" S12).bind fun w13 S14 => (callN P k "BadRules" [w5] S14).bind fun w15 S16 => (attrV P w15 "value" S16).bind fun w17 S18 => (callN P k "BadRow" [w5] S18).bind fun w19 S20 => (attrV P w19 "value" S20).bind fun w21 S22 => (callN P k "BadVersion" [w5] S22).bind fun w23 S24 => (attrV P w23 "value" S24).bind fun w25 S26 => KK.nx [some script_, some start_, some well_, some it, some w1, some w3, some w5, some w7, some w9, some (.fl false [w13, w17, w21, w25]), errors_, due_, found_, error_, at_] S26 : Res ((En × Fl) × Bool)) := by kernel_rfl
theorem k_law_2_3 (k : Nat) (S : So) (script_ : W) (start_ : W) (well_ : W) (turn_ : W) (one_ : W) (other_ : W) (line_ : W) (some_ : W) (more_ : W) (held_ : W) (errors_ : Option W) (due_ : Option W) (found_ : Option W) (error_ : Option W) (at_ : Option W) : evSC (execC P (callN P k) 38 (sxF f_law)) ((sBlk 0 (sN 1 (sBlk 0 (sN 0 (defBody f_law.st))))).drop 3) [some script_, some start_, some well_, some turn_, some one_, some other_, some line_, some some_, some more_, some held_, errors_, due_, found_, error_, at_] S ⟨fun e S => .ok ((e, Fl.nx), true) S, fun e w S => .ok ((e, Fl.ret w), false) S, fun e S => .ok ((e, Fl.nx), false) S, fun e S => .ok ((e, Fl.nx), true) S⟩ =
  ((callN P k "BadText" [line_] S).bind fun w1 S2 => (attrV P w1 "value" S2).bind fun w3 S4 => (callN P k "BadCommand" [line_] S4).bind fun w5 S6 => (attrV P w5 "command" S6).bind fun w7 S8 => (binop false .Add held_ (.fl false [w3, w7]) S8).bind fun w9 S10 => ifTy line_ S10 "list" ((method false line_ "append" [(.tup [(.str "doc"), (.str "b")])] S10).bind fun w11 S12 => (builtin false "repr" [w9] S12).bind fun w13 S14 => (binop false .Mult (.fl false [(.fl false [(.tup [(.str "doc"), (.str "a")]), (.tup [(.str "doc"), (.str "b")])])]) (.int 6) S14).bind fun w15 S16 => (builtin false "repr" [w15] S16).bind fun w17 S18 => iF (cmp .NotEq w13 w17 S18) (.ok (([some script_, some start_, some well_, some turn_, some one_, some other_, some line_, some some_, some more_, some w9, errors_, due_, found_, error_, at_], Fl.ret (.bl false)), false) S18) ((walkV (.fl false [(.tup [some_, one_]), (.tup [more_, other_]), (.tup [some_, one_])]) S18).bind fun q19 S20 => (turns q19 (foF P (callN P k) 37 (sxF f_law) (sN 6 (sBlk 0 (sN 1 (sBlk 0 (sN 0 (defBody f_law.st))))))) q19.len 0 ([some script_, some start_, some well_, some turn_, some one_, some other_, some line_, some some_, some more_, some w9, errors_, due_, found_, error_, at_], Fl.nx) S20).bind (kof ⟨fun e21 S25 => .ok ((e21, Fl.nx), true) S25, fun e22 w29 S26 => .ok ((e22, Fl.ret w29), false) S26, fun e23 S27 => .ok ((e23, Fl.nx), false) S27, fun e24 S28 => .ok ((e24, Fl.nx), true) S28⟩))) : Res ((En × Fl) × Bool)) := by kernel_rfl
theorem b_law_2 (k : Nat) (S : So) (it : W) (fl : Fl) (script_ : W) (start_ : W) (well_ : W) (turn_ : Option W) (one_ : Option W) (other_ : Option W) (line_ : Option W) (some_ : Option W) (more_ : Option W) (held_ : Option W) (errors_ : Option W) (due_ : Option W) (found_ : Option W) (error_ : Option W) (at_ : Option W) : foF P (callN P k) 38 (sxF f_law) (sN 1 (sBlk 0 (sN 0 (defBody f_law.st)))) it ([some script_, some start_, some well_, turn_, one_, other_, line_, some_, more_, held_, errors_, due_, found_, error_, at_], fl) S =
  ((callN P k "_law_values" [well_, it] S).bind fun w1 S2 => (callN P k "_law_values" [well_, it] S2).bind fun w3 S4 => (mk true [(.tup [(.str "doc"), (.str "a")])] S4).bind fun w5 S6 => (callN P k "_law_made" [w1] S6).bind fun w7 S8 => (callN P k "_law_named" [w3] S8).bind fun w9 S10 => (callN P k "RefusingRing" [w5] S10).bind fun w11 S12 => (attrV P w11 "ring" S12).bind fun w13 S14 => (callN P k "BadRules" [w5] S14).bind fun w15 S16 => (attrV P w15 "value" S16).bind fun w17 S18 => (callN P k "BadRow" [w5] S18).bind fun w19 S20 => (attrV P w19 "value" S20).bind fun w21 S22 => (callN P k "BadVersion" [w5] S22).bind fun w23 S24 => (attrV P w23 "value" S24).bind fun w25 S26 => evSC (execC P (callN P k) 38 (sxF f_law)) ((sBlk 0 (sN 1 (sBlk 0 (sN 0 (defBody f_law.st))))).drop 3) [some script_, some start_, some well_, some it, some w1, some w3, some w5, some w7, some w9, some (.fl false [w13, w17, w21, w25]), errors_, due_, found_, error_, at_] S26 ⟨fun e S => .ok ((e, Fl.nx), true) S, fun e w S => .ok ((e, Fl.ret w), false) S, fun e S => .ok ((e, Fl.nx), false) S, fun e S => .ok ((e, Fl.nx), true) S⟩ : Res ((En × Fl) × Bool)) := by exact (foF_asg (by kernel_rfl) (by kernel_rfl)).trans ((evSC_cut 3).trans (h_law_2_0 k S it script_ start_ well_ turn_ one_ other_ line_ some_ more_ held_ errors_ due_ found_ error_ at_ ⟨fun e1 S1 => evSC (execC P (callN P k) 38 (sxF f_law)) ((sBlk 0 (sN 1 (sBlk 0 (sN 0 (defBody f_law.st))))).drop 3) e1 S1 ⟨fun e S => .ok ((e, Fl.nx), true) S, fun e w S => .ok ((e, Fl.ret w), false) S, fun e S => .ok ((e, Fl.nx), false) S, fun e S => .ok ((e, Fl.nx), true) S⟩, fun e w S => .ok ((e, Fl.ret w), false) S, fun e S => .ok ((e, Fl.nx), false) S, fun e S => .ok ((e, Fl.nx), true) S⟩))
theorem h_law_3_0 (k : Nat) (S : So) (it0 : W) (it1 : W) (script_ : W) (start_ : W) (well_ : W) (turn_ : W) (one_ : W) (other_ : W) (line_ : W) (some_ : W) (more_ : W) (held_ : W) (errors_ : Option W) (due_ : Option W) (found_ : Option W) (error_ : Option W) (at_ : Option W) (KK : Kn ((En × Fl) × Bool)) : evSC (execC P (callN P k) 37 (sxF f_law)) ((sBlk 0 (sN 6 (sBlk 0 (sN 1 (sBlk 0 (sN 0 (defBody f_law.st))))))).take 1) [some script_, some start_, some well_, some turn_, some one_, some other_, some line_, some some_, some more_, some held_, some it0, some it1, found_, error_, at_] S KK =
  ((ofO (item it0 (.int 0) S) S).bind fun w1 S2 => (attrV P w1 "value" S2).bind fun w3 S4 => (ofO (item it0 (.int 1) S4) S4).bind fun w5 S6 => (attrV P w5 "ring" S6).bind fun w7 S8 => (ofO (item it0 (.int 2) S8) S8).bind fun w9 S10 => (attrV P w9 "value" S10).bind fun w11 S12 => (ofO (item it0 (.int 3) S12) S12).bind fun w13 S14 => (attrV P w13 "value" S14).bind fun w15 S16 => (ofO (item it0 (.int 4) S16) S16).bind fun w17 S18 => (attrV P w17 "value" S18).bind fun w19 S20 => KK.nx [some script_, some start_, some well_, some turn_, some one_, some other_, some line_, some some_, some more_, some held_, some it0, some it1, some (.fl false [w3, w7, w11, w15, w19]), error_, at_] S20 : Res ((En × Fl) × Bool)) := by kernel_rfl
theorem h_law_3_1 (k : Nat) (S : So) (script_ : W) (start_ : W) (well_ : W) (turn_ : W) (one_ : W) (other_ : W) (line_ : W) (some_ : W) (more_ : W) (held_ : W) (errors_ : W) (due_ : W) (found_ : W) (error_ : Option W) (at_ : Option W) (KK : Kn ((En × Fl) × Bool)) : evSC (execC P (callN P k) 37 (sxF f_law)) (((sBlk 0 (sN 6 (sBlk 0 (sN 1 (sBlk 0 (sN 0 (defBody f_law.st))))))).drop 1).take 1) [some script_, some start_, some well_, some turn_, some one_, some other_, some line_, some some_, some more_, some held_, some errors_, some due_, some found_, error_, at_] S KK =
  ((ofO (item errors_ (.int 5) S) S).bind fun w1 S2 => (attrV P w1 "value" S2).bind fun w3 S4 => (ofO (item errors_ (.int 6) S4) S4).bind fun w5 S6 => (attrV P w5 "command" S6).bind fun w7 S8 => (ofO (item errors_ (.int 7) S8) S8).bind fun w9 S10 => (attrV P w9 "row" S10).bind fun w11 S12 => (ofO (item errors_ (.int 8) S12) S12).bind fun w13 S14 => (attrV P w13 "row" S14).bind fun w15 S16 => (ofO (item errors_ (.int 9) S16) S16).bind fun w17 S18 => (attrV P w17 "count" S18).bind fun w19 S20 => (binop false .Add found_ (.fl false [w3, w7, w11, w15, w19]) S20).bind fun w21 S22 => KK.nx [some script_, some start_, some well_, some turn_, some one_, some other_, some line_, some some_, some more_, some held_, some errors_, some due_, some w21, error_, at_] S22 : Res ((En × Fl) × Bool)) := by kernel_rfl
theorem h_law_3_2 (k : Nat) (S : So) (script_ : W) (start_ : W) (well_ : W) (turn_ : W) (one_ : W) (other_ : W) (line_ : W) (some_ : W) (more_ : W) (held_ : W) (errors_ : W) (due_ : W) (found_ : W) (error_ : Option W) (at_ : Option W) (KK : Kn ((En × Fl) × Bool)) : evSC (execC P (callN P k) 37 (sxF f_law)) ((((sBlk 0 (sN 6 (sBlk 0 (sN 1 (sBlk 0 (sN 0 (defBody f_law.st))))))).drop 1).drop 1).take 1) [some script_, some start_, some well_, some turn_, some one_, some other_, some line_, some some_, some more_, some held_, some errors_, some due_, some found_, error_, at_] S KK =
  ((slice false errors_ (some 10) (some 14) S).bind fun w1 S2 => (walkV w1 S2).bind fun q3 S4 => (noX (turns q3 (lcF P (callN P k) 33 (sxF f_law) [some script_, some start_, some well_, some turn_, some one_, some other_, some line_, some some_, some more_, some held_, some errors_, some due_, some found_, error_, at_] (xX 1 (xX 0 (sX 0 (sN 2 (sBlk 0 (sN 6 (sBlk 0 (sN 1 (sBlk 0 (sN 0 (defBody f_law.st)))))))))))) q3.len 0 [] S4)).bind fun acc5 S6 => (binop false .Add found_ (.fl false acc5) S6).bind fun w7 S8 => (ofO (item errors_ (.int 14) S8) S8).bind fun w9 S10 => (attrV P w9 "number" S10).bind fun w11 S12 => (binop false .Add w7 (.fl false [w11]) S12).bind fun w13 S14 => KK.nx [some script_, some start_, some well_, some turn_, some one_, some other_, some line_, some some_, some more_, some held_, some errors_, some due_, some w13, error_, at_] S14 : Res ((En × Fl) × Bool)) := by kernel_rfl
theorem k_law_3_3 (k : Nat) (S : So) (script_ : W) (start_ : W) (well_ : W) (turn_ : W) (one_ : W) (other_ : W) (line_ : W) (some_ : W) (more_ : W) (held_ : W) (errors_ : W) (due_ : W) (found_ : W) (error_ : Option W) (at_ : Option W) : evSC (execC P (callN P k) 37 (sxF f_law)) ((((sBlk 0 (sN 6 (sBlk 0 (sN 1 (sBlk 0 (sN 0 (defBody f_law.st))))))).drop 1).drop 1).drop 1) [some script_, some start_, some well_, some turn_, some one_, some other_, some line_, some some_, some more_, some held_, some errors_, some due_, some found_, error_, at_] S ⟨fun e S => .ok ((e, Fl.nx), true) S, fun e w S => .ok ((e, Fl.ret w), false) S, fun e S => .ok ((e, Fl.nx), false) S, fun e S => .ok ((e, Fl.nx), true) S⟩ =
  ((builtin false "repr" [found_] S).bind fun w1 S2 => (builtin false "repr" [due_] S2).bind fun w3 S4 => iF (cmp .NotEq w1 w3 S4) (.ok (([some script_, some start_, some well_, some turn_, some one_, some other_, some line_, some some_, some more_, some held_, some errors_, some due_, some found_, error_, at_], Fl.ret (.bl false)), false) S4) ((enumV errors_ S4).bind fun q5 S6 => (noX (turns q5 (lcF P (callN P k) 34 (sxF f_law) [some script_, some start_, some well_, some turn_, some one_, some other_, some line_, some some_, some more_, some held_, some errors_, some due_, some found_, error_, at_] (xX 1 (sX 0 (sN 4 (sBlk 0 (sN 6 (sBlk 0 (sN 1 (sBlk 0 (sN 0 (defBody f_law.st))))))))))) q5.len 0 [] S6)).bind fun acc7 S8 => iF (cmp .In (.bl false) (.fl false acc7) S8) (.ok (([some script_, some start_, some well_, some turn_, some one_, some other_, some line_, some some_, some more_, some held_, some errors_, some due_, some found_, error_, at_], Fl.ret (.bl false)), false) S8) (.ok (([some script_, some start_, some well_, some turn_, some one_, some other_, some line_, some some_, some more_, some held_, some errors_, some due_, some found_, error_, at_], Fl.nx), true) S8)) : Res ((En × Fl) × Bool)) := by kernel_rfl
theorem k_law_3_2 (k : Nat) (S : So) (script_ : W) (start_ : W) (well_ : W) (turn_ : W) (one_ : W) (other_ : W) (line_ : W) (some_ : W) (more_ : W) (held_ : W) (errors_ : W) (due_ : W) (found_ : W) (error_ : Option W) (at_ : Option W) : evSC (execC P (callN P k) 37 (sxF f_law)) (((sBlk 0 (sN 6 (sBlk 0 (sN 1 (sBlk 0 (sN 0 (defBody f_law.st))))))).drop 1).drop 1) [some script_, some start_, some well_, some turn_, some one_, some other_, some line_, some some_, some more_, some held_, some errors_, some due_, some found_, error_, at_] S ⟨fun e S => .ok ((e, Fl.nx), true) S, fun e w S => .ok ((e, Fl.ret w), false) S, fun e S => .ok ((e, Fl.nx), false) S, fun e S => .ok ((e, Fl.nx), true) S⟩ =
  ((slice false errors_ (some 10) (some 14) S).bind fun w1 S2 => (walkV w1 S2).bind fun q3 S4 => (noX (turns q3 (lcF P (callN P k) 33 (sxF f_law) [some script_, some start_, some well_, some turn_, some one_, some other_, some line_, some some_, some more_, some held_, some errors_, some due_, some found_, error_, at_] (xX 1 (xX 0 (sX 0 (sN 2 (sBlk 0 (sN 6 (sBlk 0 (sN 1 (sBlk 0 (sN 0 (defBody f_law.st)))))))))))) q3.len 0 [] S4)).bind fun acc5 S6 => (binop false .Add found_ (.fl false acc5) S6).bind fun w7 S8 => (ofO (item errors_ (.int 14) S8) S8).bind fun w9 S10 => (attrV P w9 "number" S10).bind fun w11 S12 => (binop false .Add w7 (.fl false [w11]) S12).bind fun w13 S14 => evSC (execC P (callN P k) 37 (sxF f_law)) ((((sBlk 0 (sN 6 (sBlk 0 (sN 1 (sBlk 0 (sN 0 (defBody f_law.st))))))).drop 1).drop 1).drop 1) [some script_, some start_, some well_, some turn_, some one_, some other_, some line_, some some_, some more_, some held_, some errors_, some due_, some w13, error_, at_] S14 ⟨fun e S => .ok ((e, Fl.nx), true) S, fun e w S => .ok ((e, Fl.ret w), false) S, fun e S => .ok ((e, Fl.nx), false) S, fun e S => .ok ((e, Fl.nx), true) S⟩ : Res ((En × Fl) × Bool)) := (evSC_cut 1).trans (h_law_3_2 k S script_ start_ well_ turn_ one_ other_ line_ some_ more_ held_ errors_ due_ found_ error_ at_ ⟨fun e1 S1 => evSC (execC P (callN P k) 37 (sxF f_law)) ((((sBlk 0 (sN 6 (sBlk 0 (sN 1 (sBlk 0 (sN 0 (defBody f_law.st))))))).drop 1).drop 1).drop 1) e1 S1 ⟨fun e S => .ok ((e, Fl.nx), true) S, fun e w S => .ok ((e, Fl.ret w), false) S, fun e S => .ok ((e, Fl.nx), false) S, fun e S => .ok ((e, Fl.nx), true) S⟩, fun e w S => .ok ((e, Fl.ret w), false) S, fun e S => .ok ((e, Fl.nx), false) S, fun e S => .ok ((e, Fl.nx), true) S⟩)
theorem k_law_3_1 (k : Nat) (S : So) (script_ : W) (start_ : W) (well_ : W) (turn_ : W) (one_ : W) (other_ : W) (line_ : W) (some_ : W) (more_ : W) (held_ : W) (errors_ : W) (due_ : W) (found_ : W) (error_ : Option W) (at_ : Option W) : evSC (execC P (callN P k) 37 (sxF f_law)) ((sBlk 0 (sN 6 (sBlk 0 (sN 1 (sBlk 0 (sN 0 (defBody f_law.st))))))).drop 1) [some script_, some start_, some well_, some turn_, some one_, some other_, some line_, some some_, some more_, some held_, some errors_, some due_, some found_, error_, at_] S ⟨fun e S => .ok ((e, Fl.nx), true) S, fun e w S => .ok ((e, Fl.ret w), false) S, fun e S => .ok ((e, Fl.nx), false) S, fun e S => .ok ((e, Fl.nx), true) S⟩ =
  ((ofO (item errors_ (.int 5) S) S).bind fun w1 S2 => (attrV P w1 "value" S2).bind fun w3 S4 => (ofO (item errors_ (.int 6) S4) S4).bind fun w5 S6 => (attrV P w5 "command" S6).bind fun w7 S8 => (ofO (item errors_ (.int 7) S8) S8).bind fun w9 S10 => (attrV P w9 "row" S10).bind fun w11 S12 => (ofO (item errors_ (.int 8) S12) S12).bind fun w13 S14 => (attrV P w13 "row" S14).bind fun w15 S16 => (ofO (item errors_ (.int 9) S16) S16).bind fun w17 S18 => (attrV P w17 "count" S18).bind fun w19 S20 => (binop false .Add found_ (.fl false [w3, w7, w11, w15, w19]) S20).bind fun w21 S22 => evSC (execC P (callN P k) 37 (sxF f_law)) (((sBlk 0 (sN 6 (sBlk 0 (sN 1 (sBlk 0 (sN 0 (defBody f_law.st))))))).drop 1).drop 1) [some script_, some start_, some well_, some turn_, some one_, some other_, some line_, some some_, some more_, some held_, some errors_, some due_, some w21, error_, at_] S22 ⟨fun e S => .ok ((e, Fl.nx), true) S, fun e w S => .ok ((e, Fl.ret w), false) S, fun e S => .ok ((e, Fl.nx), false) S, fun e S => .ok ((e, Fl.nx), true) S⟩ : Res ((En × Fl) × Bool)) := (evSC_cut 1).trans (h_law_3_1 k S script_ start_ well_ turn_ one_ other_ line_ some_ more_ held_ errors_ due_ found_ error_ at_ ⟨fun e1 S1 => evSC (execC P (callN P k) 37 (sxF f_law)) (((sBlk 0 (sN 6 (sBlk 0 (sN 1 (sBlk 0 (sN 0 (defBody f_law.st))))))).drop 1).drop 1) e1 S1 ⟨fun e S => .ok ((e, Fl.nx), true) S, fun e w S => .ok ((e, Fl.ret w), false) S, fun e S => .ok ((e, Fl.nx), false) S, fun e S => .ok ((e, Fl.nx), true) S⟩, fun e w S => .ok ((e, Fl.ret w), false) S, fun e S => .ok ((e, Fl.nx), false) S, fun e S => .ok ((e, Fl.nx), true) S⟩)
theorem b_law_3 (k : Nat) (S : So) (it0 : W) (it1 : W) (fl : Fl) (script_ : W) (start_ : W) (well_ : W) (turn_ : W) (one_ : W) (other_ : W) (line_ : W) (some_ : W) (more_ : W) (held_ : W) (errors_ : Option W) (due_ : Option W) (found_ : Option W) (error_ : Option W) (at_ : Option W) : foF P (callN P k) 37 (sxF f_law) (sN 6 (sBlk 0 (sN 1 (sBlk 0 (sN 0 (defBody f_law.st)))))) (.tup [it0, it1]) ([some script_, some start_, some well_, some turn_, some one_, some other_, some line_, some some_, some more_, some held_, errors_, due_, found_, error_, at_], fl) S =
  ((ofO (item it0 (.int 0) S) S).bind fun w1 S2 => (attrV P w1 "value" S2).bind fun w3 S4 => (ofO (item it0 (.int 1) S4) S4).bind fun w5 S6 => (attrV P w5 "ring" S6).bind fun w7 S8 => (ofO (item it0 (.int 2) S8) S8).bind fun w9 S10 => (attrV P w9 "value" S10).bind fun w11 S12 => (ofO (item it0 (.int 3) S12) S12).bind fun w13 S14 => (attrV P w13 "value" S14).bind fun w15 S16 => (ofO (item it0 (.int 4) S16) S16).bind fun w17 S18 => (attrV P w17 "value" S18).bind fun w19 S20 => evSC (execC P (callN P k) 37 (sxF f_law)) ((sBlk 0 (sN 6 (sBlk 0 (sN 1 (sBlk 0 (sN 0 (defBody f_law.st))))))).drop 1) [some script_, some start_, some well_, some turn_, some one_, some other_, some line_, some some_, some more_, some held_, some it0, some it1, some (.fl false [w3, w7, w11, w15, w19]), error_, at_] S20 ⟨fun e S => .ok ((e, Fl.nx), true) S, fun e w S => .ok ((e, Fl.ret w), false) S, fun e S => .ok ((e, Fl.nx), false) S, fun e S => .ok ((e, Fl.nx), true) S⟩ : Res ((En × Fl) × Bool)) := by exact (foF_asg (by kernel_rfl) (by kernel_rfl)).trans ((evSC_cut 1).trans (h_law_3_0 k S it0 it1 script_ start_ well_ turn_ one_ other_ line_ some_ more_ held_ errors_ due_ found_ error_ at_ ⟨fun e1 S1 => evSC (execC P (callN P k) 37 (sxF f_law)) ((sBlk 0 (sN 6 (sBlk 0 (sN 1 (sBlk 0 (sN 0 (defBody f_law.st))))))).drop 1) e1 S1 ⟨fun e S => .ok ((e, Fl.nx), true) S, fun e w S => .ok ((e, Fl.ret w), false) S, fun e S => .ok ((e, Fl.nx), false) S, fun e S => .ok ((e, Fl.nx), true) S⟩, fun e w S => .ok ((e, Fl.ret w), false) S, fun e S => .ok ((e, Fl.nx), false) S, fun e S => .ok ((e, Fl.nx), true) S⟩))
theorem c_law_1 (k : Nat) (S : So) (it : W) (acc : List W) (script_ : W) (start_ : W) (well_ : W) (turn_ : W) (one_ : W) (other_ : W) (line_ : W) (some_ : W) (more_ : W) (held_ : W) (errors_ : W) (due_ : W) (found_ : W) (error_ : Option W) (at_ : Option W) : lcF P (callN P k) 33 (sxF f_law) [some script_, some start_, some well_, some turn_, some one_, some other_, some line_, some some_, some more_, some held_, some errors_, some due_, some found_, error_, at_] (xX 1 (xX 0 (sX 0 (sN 2 (sBlk 0 (sN 6 (sBlk 0 (sN 1 (sBlk 0 (sN 0 (defBody f_law.st))))))))))) it acc S =
  ((attrV P it "place" S).bind fun w1 S2 => if acc.length < sizeLine then .ok (acc ++ [w1], true) S2 else .bad : Res (List W × Bool)) := by rw [lcF_eq]; kernel_rfl
theorem c_law_2 (k : Nat) (S : So) (it0 : W) (it1 : W) (acc : List W) (script_ : W) (start_ : W) (well_ : W) (turn_ : W) (one_ : W) (other_ : W) (line_ : W) (some_ : W) (more_ : W) (held_ : W) (errors_ : W) (due_ : W) (found_ : W) (error_ : Option W) (at_ : Option W) : lcF P (callN P k) 34 (sxF f_law) [some script_, some start_, some well_, some turn_, some one_, some other_, some line_, some some_, some more_, some held_, some errors_, some due_, some found_, error_, at_] (xX 1 (sX 0 (sN 4 (sBlk 0 (sN 6 (sBlk 0 (sN 1 (sBlk 0 (sN 0 (defBody f_law.st)))))))))) (.tup [it0, it1]) acc S =
  ((callN P k "_law_of_one_kind" [it1, it0] S).bind fun w1 S2 => if acc.length < sizeLine then .ok (acc ++ [w1], true) S2 else .bad : Res (List W × Bool)) := by rw [lcF_eq]; kernel_rfl
end K4

namespace K4
open PySem Y L2
/-! the well -/
def Wl (d m : Int) : O := .dct [(.str "digits", .int d), (.str "mixed", .int m)]
def Ok (m : Int) : Prop := 0 ≤ m ∧ m < 4294967296
theorem w_dig {S : So} {i : Nat} {d m : Int} (h : S[i]? = some (Wl d m)) : item (.ref i) (.str "digits") S = some (.int d) := (it_dct h rfl rfl).trans rfl
theorem w_mix {S : So} {i : Nat} {d m : Int} (h : S[i]? = some (Wl d m)) : item (.ref i) (.str "mixed") S = some (.int m) := (it_dct h rfl rfl).trans rfl
theorem w_sdig {S : So} {i : Nat} {d m v : Int} (h : S[i]? = some (Wl d m)) : Y.setItem (.ref i) (.str "digits") (.int v) S = some (S.set i (Wl v m)) := by
  unfold Y.setItem; simp only [h]; rfl
theorem w_smix {S : So} {i : Nat} {d m v : Int} (h : S[i]? = some (Wl d m)) : Y.setItem (.ref i) (.str "mixed") (.int v) S = some (S.set i (Wl d v)) := by
  unfold Y.setItem; simp only [h]; rfl
theorem bB {m : Int} (h : Ok m) : Builtin.Int.intBits m ≤ 32 := bits_ltI h.1 (by have := h.2; omega)
theorem shutW {d m : Int} : shutO (Wl d m) := shutO_dct rfl
/-- a well stands at i -/
def At (S : So) (i : Nat) : Prop := ∃ d m, S[i]? = some (Wl d m) ∧ Ok m
/-- nothing but the well has moved -/
def Adv (i : Nat) (S S' : So) : Prop := ∃ d m, S' = S.set i (Wl d m) ∧ Ok m
theorem Adv.at {i : Nat} {S S' : So} (h : At S i) (a : Adv i S S') : At S' i := by
  obtain ⟨d, m, e, _⟩ := h
  obtain ⟨d', m', rfl, o⟩ := a
  exact ⟨d', m', get_set e, o⟩
theorem Adv.trans {i : Nat} {S S1 S2 : So} (a : Adv i S S1) (b : Adv i S1 S2) : Adv i S S2 := by
  obtain ⟨d, m, rfl, _⟩ := a
  obtain ⟨d', m', rfl, o⟩ := b
  exact ⟨d', m', by rw [List.set_set], o⟩
theorem Adv.refl {i : Nat} {S : So} (h : At S i) : Adv i S S := by
  obtain ⟨d, m, e, o⟩ := h
  refine ⟨d, m, ?_, o⟩
  apply List.ext_getElem?
  intro j
  by_cases hj : j = i
  · subst hj; rw [get_set e, e]
  · rw [List.getElem?_set_ne (Ne.symm hj)]
theorem Adv.shut {i : Nat} {S S' : So} (a : Adv i S S') (h : Shut S) : Shut S' := by
  obtain ⟨d, m, rfl, _⟩ := a
  exact h.set shutW
theorem Adv.len {i : Nat} {S S' : So} (a : Adv i S S') : S'.length = S.length := by
  obtain ⟨d, m, rfl, _⟩ := a
  simp
theorem draw {k i : Nat} {S : So} {size : Int} (h : At S i) (h0 : 0 < size) (h1 : size < 1073741824) : Yes (callN P (k + 1) "_law_draw" [.ref i, .int size] S) fun r S' => ∃ x : Int, r = .int x ∧ 0 ≤ x ∧ x < size ∧ Adv i S S' := by
  obtain ⟨d, m, hS, hm⟩ := h
  rw [e_law_draw, w_dig hS]
  simp only [oOk, bOk, c_geI]
  by_cases h : size ≤ d
  · simp only [decide_eq_true h, iF_t, vb_intI, bOk, b_mod h0, b_div ⟨h0, h1⟩, w_sdig hS, oOk, w_dig hS]
    exact yes_ok ⟨_, rfl, Int.emod_nonneg _ (by omega), Int.emod_lt_of_pos _ h0, _, _, rfl, hm⟩
  · have m1 : Ok ((m * 52391 + 7079) % 2147483647) := ⟨Int.emod_nonneg _ (by decide), Int.lt_trans (Int.emod_lt_of_pos _ (by decide)) (by decide)⟩
    generalize hM : (m * 52391 + 7079) % 2147483647 = M at m1
    have x2 : Ok (M ^ (2 : Int).toNat % 2147483549) := ⟨Int.emod_nonneg _ (by decide), Int.lt_trans (Int.emod_lt_of_pos _ (by decide)) (by decide)⟩
    have g1 : Builtin.Int.intBits m + Builtin.Int.intBits 52391 ≤ 134217728 := Nat.le_trans (Nat.add_le_add (bB hm) (show Builtin.Int.intBits 52391 ≤ 16 by decide +kernel)) (by decide)
    have g2 : (0 : Int) ≤ 2 ∧ (Builtin.Int.intBits M : Int) * 2 ≤ 134217728 := by have := bB m1; omega
    have g3 : (0 : Int) ≤ 3 ∧ (Builtin.Int.intBits (M ^ (2 : Int).toNat % 2147483549) : Int) * 3 ≤ 134217728 := by have := bB x2; omega
    simp (disch := decide +kernel) only [decide_eq_false h, iF_f, w_mix hS, oOk, bOk, b_mul g1, b_addI, vb_intI, b_mod, hM, w_smix hS, w_mix (get_set hS), b_pow g2, b_pow g3, b_mod h0, b_div]
    exact yes_ok ⟨_, rfl, Int.emod_nonneg _ (by omega), Int.emod_lt_of_pos _ h0, _, _, rfl, m1⟩
theorem choose {k i : Nat} {S : So} {t : Bool} {xs : List W} (h : At S i) (h0 : 0 < xs.length) (h1 : xs.length < 1000) : Yes (callN P (k + 2) "_law_choose" [.ref i, .fl t xs] S) fun r S' => r ∈ xs ∧ Adv i S S' := by
  rw [e_law_choose, len_fl, bOk]
  refine yes_bind (draw h (by omega) (by omega)) ?_
  rintro _ S' ⟨x, rfl, q0, q1, a⟩
  have hx : x.toNat < xs.length := by omega
  rw [it_fl, atI_ok q0 (List.getElem?_eq_getElem hx)]
  exact yes_ok ⟨List.getElem_mem hx, a⟩
theorem chooseR {k i D : Nat} {S : So} {xs : List W} (h : At S i) (hD : S[D]? = some (.lst xs)) (h0 : 0 < xs.length) (h1 : xs.length < 1000) : Yes (callN P (k + 2) "_law_choose" [.ref i, .ref D] S) fun r S' => r ∈ xs ∧ Adv i S S' := by
  rw [e_law_choose, len_ref hD, bOk]
  refine yes_bind (draw h (by omega) (by omega)) ?_
  rintro _ S' ⟨x, rfl, q0, q1, d', m', rfl, o⟩
  have hx : x.toNat < xs.length := by omega
  have nD : D ≠ i := by
    rintro rfl
    obtain ⟨d, m, e, _⟩ := h
    rw [e] at hD; cases hD
  rw [it_lst (get_other hD nD), atI_ok q0 (List.getElem?_eq_getElem hx)]
  exact yes_ok ⟨List.getElem_mem hx, d', m', rfl, o⟩
theorem okMod {x : Int} : Ok (x % 2147483423 + 13) := by
  have h1 := Int.emod_nonneg x (show (2147483423 : Int) ≠ 0 by decide)
  have h2 := Int.emod_lt_of_pos x (show (0 : Int) < 2147483423 by decide)
  exact ⟨by omega, by omega⟩
theorem p18 {S : So} {m : Bool} : binop m .Pow (.int 10) (.int 18) S = .ok (.int ((10 : Int) ^ (18 : Int).toNat)) S := b_pow (by decide +kernel)
theorem well {k : Nat} {S : So} {ns : List Int} {start : Int} (hb : ∀ z ∈ ns, Builtin.Int.intBits z ≤ 1048576) (h0 : 0 ≤ start) (h1 : start < 1000) : Yes (callN P (k + 1) "_law_well" [.fl false (ns.map W.int), .int start] S) fun r S' => ∃ d m, r = .ref S.length ∧ S' = S ++ [Wl d m] ∧ Ok m := by
  rw [e_law_well]
  have g1 : Builtin.Int.intBits start + Builtin.Int.intBits 97 ≤ 134217728 := Nat.le_trans (Nat.add_le_add (bits_ltI (n := 10) h0 (by omega)) (show Builtin.Int.intBits 97 ≤ 16 by decide +kernel)) (by decide)
  simp only [b_mul g1, bOk, b_addI, vw_fl]
  refine yes_turns (fun j r S' => S' = S ∧ r.2 = .nx ∧ ∃ (M : Int) (a : Option W), Ok M ∧ r.1 = [some (.fl false (ns.map W.int)), some (.int start), some (.int M), a, none]) ?_ ?_ ?_
  · exact ⟨rfl, rfl, _, none, ⟨by omega, by omega⟩, rfl⟩
  · rintro j ⟨e, fl⟩ S' w hw ⟨rfl, hfl, M, a, hM, he⟩
    dsimp only at hfl he
    subst hfl he
    rw [List.getElem?_map] at hw
    obtain ⟨z, hz, rfl⟩ := Option.map_eq_some_iff.mp hw
    have bz := hb z (List.mem_of_getElem? hz)
    have g2 : Builtin.Int.intBits M + Builtin.Int.intBits 80021 ≤ 134217728 := Nat.le_trans (Nat.add_le_add (bB hM) (show Builtin.Int.intBits 80021 ≤ 17 by decide +kernel)) (by decide)
    have g3 : Builtin.Int.intBits z + Builtin.Int.intBits z ≤ 134217728 := by omega
    have b1 := intBits_mul_le (bB hM) (show Builtin.Int.intBits 80021 ≤ 17 by decide +kernel)
    have b2 := intBits_add_le (intBits_add_le b1 (intBits_mul_le bz bz)) (show Builtin.Int.intBits 41 ≤ 6 by decide +kernel)
    have g4 : (0 : Int) ≤ 2 ∧ (Builtin.Int.intBits (M * 80021 + z * z + 41) : Int) * 2 ≤ 134217728 := by
      have : Builtin.Int.intBits (M * 80021 + z * z + 41) ≤ 4000000 := Nat.le_trans b2 (by decide)
      omega
    rw [b_law_well_1]
    simp (disch := decide +kernel) only [b_mul g2, b_mul g3, b_addI, b_pow g4, b_mod, vb_intI, bOk]
    exact yes_ok ⟨rfl, rfl, rfl, _, _, okMod, rfl⟩
  · rintro ⟨e, fl⟩ S' ⟨rfl, hfl, M, a, hM, he⟩
    dsimp only at hfl he
    subst hfl he
    have fin : ∀ dd : Int, (mkD true [(.str "digits", .int dd), (.str "mixed", .int M)] S').bind (fun w23 S24 => (Res.ok w23 S24 : Res W)) = .ok (.ref S'.length) (S' ++ [Wl dd M]) := fun _ => rfl
    simp only [kNx, sl0, slS, oOk, bOk, len_fl, c_ltI, List.set_cons_succ, List.set_cons_zero, p18, c_geI, fin]
    by_cases hlt : start < ((List.map W.int ns).length : Int)
    · rw [decide_eq_true hlt, iF_t]
      have hl : start.toNat < ns.length := by rw [List.length_map] at hlt; omega
      have hi : item (.fl false (ns.map W.int)) (.int start) S' = some (.int ns[start.toNat]) := by
        rw [it_fl, atI_ok h0 (show (ns.map W.int)[start.toNat]? = some (.int ns[start.toNat]) by rw [List.getElem?_map, List.getElem?_eq_getElem hl]; rfl)]
      simp only [hi, oOk, bOk, p18, c_geI, b_subI, fin]
      by_cases hv : (10 : Int) ^ (18 : Int).toNat ≤ ns[start.toNat]
      · rw [decide_eq_true hv, iF_t]
        exact yes_ok ⟨_, _, rfl, rfl, hM⟩
      · rw [decide_eq_false hv, iF_f]
        exact yes_ok ⟨_, _, rfl, rfl, hM⟩
    · rw [decide_eq_false hlt, iF_f]
      exact yes_ok ⟨_, _, rfl, rfl, hM⟩
end K4

namespace K4
open PySem Y L2
/-! data of which repr may be asked -/
def el (v : W) : Bool := match dt v with
  | some d => d.showable && d.leavesShort 64 && decide (d.depth ≤ 20) && decide (d.weight ≤ 1000)
  | none => false
theorem el_ok {v : W} (h : el v = true) : ∃ d, dt v = some d ∧ d.showable = true ∧ d.leavesShort 64 = true ∧ d.depth ≤ 20 ∧ d.weight ≤ 1000 := by
  unfold el at h
  split at h
  · rename_i d e
    rw [Bool.and_eq_true, Bool.and_eq_true, Bool.and_eq_true] at h
    exact ⟨d, e, h.1.1.1, h.1.1.2, of_decide_eq_true h.1.2, of_decide_eq_true h.2⟩
  · cases h
theorem els_ok : ∀ vs : List W, vs.all el = true → ∃ ds, dWs (fun _ => none) vs = some ds ∧ PyData.showableAll ds = true ∧ PyData.leavesShortAll 64 ds = true ∧ PyData.depthAll ds ≤ 20 ∧ PyData.weightAll ds ≤ vs.length * 1001
  | [], _ => ⟨[], rfl, rfl, rfl, Nat.zero_le _, Nat.zero_le _⟩
  | x :: xs, h => by
    rw [List.all_cons, Bool.and_eq_true] at h
    obtain ⟨d, e, a1, a2, a3, a4⟩ := el_ok h.1
    obtain ⟨ds, e1, b1, b2, b3, b4⟩ := els_ok xs h.2
    refine ⟨d :: ds, ?_, ?_, ?_, ?_, ?_⟩
    · unfold dWs
      rw [show dW (fun _ => none) x = some d from e, e1]
    · show (d.showable && PyData.showableAll ds) = true
      rw [a1, b1]; rfl
    · show (d.leavesShort 64 && PyData.leavesShortAll 64 ds) = true
      rw [a2, b2]; rfl
    · show max d.depth (PyData.depthAll ds) ≤ 20
      exact Nat.max_le.mpr ⟨a3, b3⟩
    · show d.weight + 1 + PyData.weightAll ds ≤ _
      rw [List.length_cons, Nat.add_mul]
      omega
theorem re_fl {vs : List W} {t : Bool} (h : vs.all el = true) (hl : vs.length ≤ 100) : ∃ d, dt (.fl t vs) = some d ∧ reOk d = true := by
  obtain ⟨ds, e, b1, b2, b3, b4⟩ := els_ok vs h
  refine ⟨.list ds, ?_, ?_⟩
  · show (dWs _ vs).map _ = _
    rw [e]; rfl
  · have h1 : (PyData.list ds).showable = true := b1
    have h2 : (PyData.list ds).depth ≤ 150 := by
      have : (PyData.list ds).depth = PyData.depthAll ds + 1 := rfl
      omega
    have h3 : (PyData.list ds).shown.length ≤ sizeLine := by
      have q := PyData.shown_le 64 (by decide) (.list ds) b2
      have e1 : (PyData.list ds).weight = PyData.weightAll ds := rfl
      have e2 : vs.length * 1001 ≤ 100 * 1001 := Nat.mul_le_mul_right _ hl
      have e3 : (64 + 2) * (PyData.list ds).weight ≤ (64 + 2) * 100100 := Nat.mul_le_mul_left _ (by omega)
      rw [sizeLine_eq]
      omega
    unfold reOk
    rw [h1, decide_eq_true h2, decide_eq_true h3]
    rfl
theorem fl_repr {vs : List W} {t : Bool} (h : vs.all el = true) (hl : vs.length ≤ 100) : ∃ z : Str, ∀ (m : Bool) (S : So), builtin m "repr" [.fl t vs] S = .ok (.str z) S := by
  obtain ⟨d, e, r⟩ := re_fl (t := t) h hl
  exact ⟨d.shown, fun m S => vb_repr e r⟩
/-! the values -/
theorem el_int {x : Int} {a b : Nat} (h : ∀ m ∈ List.range b, el (.int ((a + m : Nat) : Int)) = true) (h0 : (a : Int) ≤ x) (h1 : x < a + b) : el (.int x) = true := by
  obtain ⟨m, rfl⟩ := Int.le.dest h0
  have hm : m < b := by omega
  have q := h m (List.mem_range.mpr hm)
  rw [Int.natCast_add] at q
  exact q
theorem p59 {S : So} {m : Bool} : binop m .Pow (.int 10) (.int 59) S = .ok (.int ((10 : Int) ^ (59 : Int).toNat)) S := b_pow (by decide +kernel)
theorem n1 {S : So} : neg (.int 1) S = .ok (.int (-1)) S := rfl
def some11 (turn : Int) : List W := [.int 0, .int (-1), .int ((10 : Int) ^ (59 : Int).toNat), .bl true, .non, .str "", .str "a", .tup [], .tup [.int 0, .tup [.int 1]], .fl false [.int 1, .int turn], .fd false []]
theorem some_el {t : Int} (h0 : 0 ≤ t) (h1 : t < 4) : (some11 t).all el = true := by
  have h : ∀ m ∈ List.range 4, (some11 ((m : Nat) : Int)).all el = true := by decide +kernel
  obtain ⟨m, rfl⟩ := Int.eq_ofNat_of_zero_le h0
  exact h m (List.mem_range.mpr (by omega))
def spots : List W := [.str "a", .str "viewer", .str "owner"]
theorem spot_el : ∀ w ∈ spots, el (.fl false [.tup [.str "doc", w], .tup [.str "doc", .str "b"]]) = true ∧ el (.tup [.tup [.str "doc", w], .str "viewer", .non]) = true ∧ el (.tup [.tup [.str "doc", w], .str "owner", .tup [.str "user", .str "b"]]) = true ∧ el (.tup [.str "doc", w]) = true := by
  intro w hw
  have h : (spots.all fun w => el (.fl false [.tup [.str "doc", w], .tup [.str "doc", .str "b"]]) && (el (.tup [.tup [.str "doc", w], .str "viewer", .non]) && (el (.tup [.tup [.str "doc", w], .str "owner", .tup [.str "user", .str "b"]]) && el (.tup [.str "doc", w])))) = true := by decide +kernel
  have q := List.all_eq_true.mp h w hw
  rw [Bool.and_eq_true, Bool.and_eq_true, Bool.and_eq_true] at q
  exact q
theorem values {k i : Nat} {S : So} {turn : Int} (h : At S i) (h0 : 0 ≤ turn) (h1 : turn < 4) : Yes (callN P (k + 3) "_law_values" [.ref i, .int turn] S) fun r S' => ∃ vs, r = .fl false vs ∧ vs.length = 15 ∧ vs.all el = true ∧ Adv i S S' := by
  rw [e_law_values, n1, bOk, p59, bOk]
  refine yes_bind (choose (xs := spots) h (by decide) (by decide)) ?_
  rintro w5 S1 ⟨m5, a1⟩
  have hs := some_el h0 h1
  have g : ∀ w ∈ some11 turn, el w = true := fun w hw => List.all_eq_true.mp hs w hw
  have l11 : (0 : Nat) < (some11 turn).length ∧ (some11 turn).length < 1000 := ⟨(by show 0 < 11; decide), (by show 11 < 1000; decide)⟩
  refine yes_bind (choose (xs := some11 turn) (a1.at h) l11.1 l11.2) ?_
  rintro w7 S2 ⟨m7, a2⟩
  have a2 := a1.trans a2
  refine yes_bind (choose (xs := some11 turn) (a2.at h) l11.1 l11.2) ?_
  rintro w9 S3 ⟨m9, a3⟩
  have a3 := a2.trans a3
  refine yes_bind (choose (xs := some11 turn) (a3.at h) l11.1 l11.2) ?_
  rintro w11 S4 ⟨m11, a4⟩
  have a4 := a3.trans a4
  refine yes_bind (choose (xs := some11 turn) (a4.at h) l11.1 l11.2) ?_
  rintro w13 S5 ⟨m13, a5⟩
  have a5 := a4.trans a5
  refine yes_bind (choose (xs := some11 turn) (a5.at h) l11.1 l11.2) ?_
  rintro w15 S6 ⟨m15, a6⟩
  have a6 := a5.trans a6
  rw [b_addF (by show 8 ≤ sizeLine; rw [sizeLine_eq]; omega), bOk, k_law_values_4]
  refine yes_bind (draw (a6.at h) (by decide) (by decide)) ?_
  rintro _ S7 ⟨x, rfl, x0, x1, a7⟩
  have a7 := a6.trans a7
  rw [b_addI, bOk, b_addF (by show 13 ≤ sizeLine; rw [sizeLine_eq]; omega), bOk]
  refine yes_bind (draw (a7.at h) (by decide) (by decide)) ?_
  rintro _ S8 ⟨y, rfl, y0, y1, a8⟩
  have a8 := a7.trans a8
  rw [b_addF (by show 15 ≤ sizeLine; rw [sizeLine_eq]; omega), bOk]
  refine yes_ok ⟨_, rfl, rfl, ?_, a8⟩
  obtain ⟨s1, s2, s3, s4⟩ := spot_el w5 m5
  have ex : el (.int (101 + x)) = true := el_int (a := 101) (b := 9) (by decide +kernel) (by omega) (by omega)
  have ey : el (.int y) = true := el_int (a := 0) (b := 9) (by decide +kernel) (by omega) (by omega)
  have e1 : el (.tup [.tup [.str "doc", .str "a"], .str "viewer", .tup [.str "user", .str "ann"]]) = true := by decide +kernel
  have e2 : el (.tup [.str "doc", .str "x"]) = true := by decide +kernel
  have e3 : el (.tup [.str "doc", .str ""]) = true := by decide +kernel
  have e4 : el (.tup [.str "a", .str "b"]) = true := by decide +kernel
  show ([w7, _, w9, _, w11, w13, w15, _, _, _, _, _, _, _, _] : List W).all el = true
  simp only [List.all_cons, List.all_nil, g w7 m7, g w9 m9, g w11 m11, g w13 m13, g w15 m15, s1, s2, s3, s4, ex, ey, e1, e2, e3, e4, Bool.and_self]
end K4

namespace K4
open PySem Y L2
/-! the errors -/
/-- the error of the class C that bears v as x -/
def eR (C x : Str) (v : W) : W := .fins false C [(x, v)]
def erL : List (Str × Str) → List W → List W
  | (C, x) :: r, v :: vs => eR C x v :: erL r vs
  | _, _ => []
/-- the fifteen, of fifteen values -/
def all15 (vs : List W) : List W := erL ers vs
theorem m_BadRules {k : Nat} {S : So} {v : W} : callN P (k + 1) "BadRules" [v] S = .ok (eR "BadRules" "value" v) S := (callN_er (fi := erFi "value") (by kernel_rfl) rfl (by kernel_rfl)).trans rfl
theorem a_BadRules {S : So} {v : W} : attrV P (eR "BadRules" "value" v) "value" S = .ok v S := by kernel_rfl
theorem m_RefusingRing {k : Nat} {S : So} {v : W} : callN P (k + 1) "RefusingRing" [v] S = .ok (eR "RefusingRing" "ring" v) S := (callN_er (fi := erFi "ring") (by kernel_rfl) rfl (by kernel_rfl)).trans rfl
theorem a_RefusingRing {S : So} {v : W} : attrV P (eR "RefusingRing" "ring" v) "ring" S = .ok v S := by kernel_rfl
theorem m_BadRow {k : Nat} {S : So} {v : W} : callN P (k + 1) "BadRow" [v] S = .ok (eR "BadRow" "value" v) S := (callN_er (fi := erFi "value") (by kernel_rfl) rfl (by kernel_rfl)).trans rfl
theorem a_BadRow {S : So} {v : W} : attrV P (eR "BadRow" "value" v) "value" S = .ok v S := by kernel_rfl
theorem m_BadQuestion {k : Nat} {S : So} {v : W} : callN P (k + 1) "BadQuestion" [v] S = .ok (eR "BadQuestion" "value" v) S := (callN_er (fi := erFi "value") (by kernel_rfl) rfl (by kernel_rfl)).trans rfl
theorem a_BadQuestion {S : So} {v : W} : attrV P (eR "BadQuestion" "value" v) "value" S = .ok v S := by kernel_rfl
theorem m_BadVersion {k : Nat} {S : So} {v : W} : callN P (k + 1) "BadVersion" [v] S = .ok (eR "BadVersion" "value" v) S := (callN_er (fi := erFi "value") (by kernel_rfl) rfl (by kernel_rfl)).trans rfl
theorem a_BadVersion {S : So} {v : W} : attrV P (eR "BadVersion" "value" v) "value" S = .ok v S := by kernel_rfl
theorem m_BadText {k : Nat} {S : So} {v : W} : callN P (k + 1) "BadText" [v] S = .ok (eR "BadText" "value" v) S := (callN_er (fi := erFi "value") (by kernel_rfl) rfl (by kernel_rfl)).trans rfl
theorem a_BadText {S : So} {v : W} : attrV P (eR "BadText" "value" v) "value" S = .ok v S := by kernel_rfl
theorem m_BadCommand {k : Nat} {S : So} {v : W} : callN P (k + 1) "BadCommand" [v] S = .ok (eR "BadCommand" "command" v) S := (callN_er (fi := erFi "command") (by kernel_rfl) rfl (by kernel_rfl)).trans rfl
theorem a_BadCommand {S : So} {v : W} : attrV P (eR "BadCommand" "command" v) "command" S = .ok v S := by kernel_rfl
theorem m_TakenRow {k : Nat} {S : So} {v : W} : callN P (k + 1) "TakenRow" [v] S = .ok (eR "TakenRow" "row" v) S := (callN_er (fi := erFi "row") (by kernel_rfl) rfl (by kernel_rfl)).trans rfl
theorem a_TakenRow {S : So} {v : W} : attrV P (eR "TakenRow" "row" v) "row" S = .ok v S := by kernel_rfl
theorem m_UnknownRow {k : Nat} {S : So} {v : W} : callN P (k + 1) "UnknownRow" [v] S = .ok (eR "UnknownRow" "row" v) S := (callN_er (fi := erFi "row") (by kernel_rfl) rfl (by kernel_rfl)).trans rfl
theorem a_UnknownRow {S : So} {v : W} : attrV P (eR "UnknownRow" "row" v) "row" S = .ok v S := by kernel_rfl
theorem m_TooMany {k : Nat} {S : So} {v : W} : callN P (k + 1) "TooMany" [v] S = .ok (eR "TooMany" "count" v) S := (callN_er (fi := erFi "count") (by kernel_rfl) rfl (by kernel_rfl)).trans rfl
theorem a_TooMany {S : So} {v : W} : attrV P (eR "TooMany" "count" v) "count" S = .ok v S := by kernel_rfl
theorem m_NotPlain {k : Nat} {S : So} {v : W} : callN P (k + 1) "NotPlain" [v] S = .ok (eR "NotPlain" "place" v) S := (callN_er (fi := erFi "place") (by kernel_rfl) rfl (by kernel_rfl)).trans rfl
theorem a_NotPlain {S : So} {v : W} : attrV P (eR "NotPlain" "place" v) "place" S = .ok v S := by kernel_rfl
theorem m_NotSingle {k : Nat} {S : So} {v : W} : callN P (k + 1) "NotSingle" [v] S = .ok (eR "NotSingle" "place" v) S := (callN_er (fi := erFi "place") (by kernel_rfl) rfl (by kernel_rfl)).trans rfl
theorem a_NotSingle {S : So} {v : W} : attrV P (eR "NotSingle" "place" v) "place" S = .ok v S := by kernel_rfl
theorem m_NotAlike {k : Nat} {S : So} {v : W} : callN P (k + 1) "NotAlike" [v] S = .ok (eR "NotAlike" "place" v) S := (callN_er (fi := erFi "place") (by kernel_rfl) rfl (by kernel_rfl)).trans rfl
theorem a_NotAlike {S : So} {v : W} : attrV P (eR "NotAlike" "place" v) "place" S = .ok v S := by kernel_rfl
theorem m_NotSteady {k : Nat} {S : So} {v : W} : callN P (k + 1) "NotSteady" [v] S = .ok (eR "NotSteady" "place" v) S := (callN_er (fi := erFi "place") (by kernel_rfl) rfl (by kernel_rfl)).trans rfl
theorem a_NotSteady {S : So} {v : W} : attrV P (eR "NotSteady" "place" v) "place" S = .ok v S := by kernel_rfl
theorem m_BadGuard {k : Nat} {S : So} {v : W} : callN P (k + 1) "BadGuard" [v] S = .ok (eR "BadGuard" "number" v) S := (callN_er (fi := erFi "number") (by kernel_rfl) rfl (by kernel_rfl)).trans rfl
theorem a_BadGuard {S : So} {v : W} : attrV P (eR "BadGuard" "number" v) "number" S = .ok v S := by kernel_rfl
theorem all15_eq {v0 v1 v2 v3 v4 v5 v6 v7 v8 v9 v10 v11 v12 v13 v14 : W} : all15 [v0, v1, v2, v3, v4, v5, v6, v7, v8, v9, v10, v11, v12, v13, v14] = [eR "BadRules" "value" v0, eR "RefusingRing" "ring" v1, eR "BadRow" "value" v2, eR "BadQuestion" "value" v3, eR "BadVersion" "value" v4, eR "BadText" "value" v5, eR "BadCommand" "command" v6, eR "TakenRow" "row" v7, eR "UnknownRow" "row" v8, eR "TooMany" "count" v9, eR "NotPlain" "place" v10, eR "NotSingle" "place" v11, eR "NotAlike" "place" v12, eR "NotSteady" "place" v13, eR "BadGuard" "number" v14] := by kernel_rfl
theorem i_0 {S : So} {v0 v1 v2 v3 v4 v5 v6 v7 v8 v9 v10 v11 v12 v13 v14 : W} : item (.fl false [v0, v1, v2, v3, v4, v5, v6, v7, v8, v9, v10, v11, v12, v13, v14]) (.int 0) S = some v0 := by kernel_rfl
theorem i_1 {S : So} {v0 v1 v2 v3 v4 v5 v6 v7 v8 v9 v10 v11 v12 v13 v14 : W} : item (.fl false [v0, v1, v2, v3, v4, v5, v6, v7, v8, v9, v10, v11, v12, v13, v14]) (.int 1) S = some v1 := by kernel_rfl
theorem i_2 {S : So} {v0 v1 v2 v3 v4 v5 v6 v7 v8 v9 v10 v11 v12 v13 v14 : W} : item (.fl false [v0, v1, v2, v3, v4, v5, v6, v7, v8, v9, v10, v11, v12, v13, v14]) (.int 2) S = some v2 := by kernel_rfl
theorem i_3 {S : So} {v0 v1 v2 v3 v4 v5 v6 v7 v8 v9 v10 v11 v12 v13 v14 : W} : item (.fl false [v0, v1, v2, v3, v4, v5, v6, v7, v8, v9, v10, v11, v12, v13, v14]) (.int 3) S = some v3 := by kernel_rfl
theorem i_4 {S : So} {v0 v1 v2 v3 v4 v5 v6 v7 v8 v9 v10 v11 v12 v13 v14 : W} : item (.fl false [v0, v1, v2, v3, v4, v5, v6, v7, v8, v9, v10, v11, v12, v13, v14]) (.int 4) S = some v4 := by kernel_rfl
theorem i_5 {S : So} {v0 v1 v2 v3 v4 v5 v6 v7 v8 v9 v10 v11 v12 v13 v14 : W} : item (.fl false [v0, v1, v2, v3, v4, v5, v6, v7, v8, v9, v10, v11, v12, v13, v14]) (.int 5) S = some v5 := by kernel_rfl
theorem i_6 {S : So} {v0 v1 v2 v3 v4 v5 v6 v7 v8 v9 v10 v11 v12 v13 v14 : W} : item (.fl false [v0, v1, v2, v3, v4, v5, v6, v7, v8, v9, v10, v11, v12, v13, v14]) (.int 6) S = some v6 := by kernel_rfl
theorem i_7 {S : So} {v0 v1 v2 v3 v4 v5 v6 v7 v8 v9 v10 v11 v12 v13 v14 : W} : item (.fl false [v0, v1, v2, v3, v4, v5, v6, v7, v8, v9, v10, v11, v12, v13, v14]) (.int 7) S = some v7 := by kernel_rfl
theorem i_8 {S : So} {v0 v1 v2 v3 v4 v5 v6 v7 v8 v9 v10 v11 v12 v13 v14 : W} : item (.fl false [v0, v1, v2, v3, v4, v5, v6, v7, v8, v9, v10, v11, v12, v13, v14]) (.int 8) S = some v8 := by kernel_rfl
theorem i_9 {S : So} {v0 v1 v2 v3 v4 v5 v6 v7 v8 v9 v10 v11 v12 v13 v14 : W} : item (.fl false [v0, v1, v2, v3, v4, v5, v6, v7, v8, v9, v10, v11, v12, v13, v14]) (.int 9) S = some v9 := by kernel_rfl
theorem i_10 {S : So} {v0 v1 v2 v3 v4 v5 v6 v7 v8 v9 v10 v11 v12 v13 v14 : W} : item (.fl false [v0, v1, v2, v3, v4, v5, v6, v7, v8, v9, v10, v11, v12, v13, v14]) (.int 10) S = some v10 := by kernel_rfl
theorem i_11 {S : So} {v0 v1 v2 v3 v4 v5 v6 v7 v8 v9 v10 v11 v12 v13 v14 : W} : item (.fl false [v0, v1, v2, v3, v4, v5, v6, v7, v8, v9, v10, v11, v12, v13, v14]) (.int 11) S = some v11 := by kernel_rfl
theorem i_12 {S : So} {v0 v1 v2 v3 v4 v5 v6 v7 v8 v9 v10 v11 v12 v13 v14 : W} : item (.fl false [v0, v1, v2, v3, v4, v5, v6, v7, v8, v9, v10, v11, v12, v13, v14]) (.int 12) S = some v12 := by kernel_rfl
theorem i_13 {S : So} {v0 v1 v2 v3 v4 v5 v6 v7 v8 v9 v10 v11 v12 v13 v14 : W} : item (.fl false [v0, v1, v2, v3, v4, v5, v6, v7, v8, v9, v10, v11, v12, v13, v14]) (.int 13) S = some v13 := by kernel_rfl
theorem i_14 {S : So} {v0 v1 v2 v3 v4 v5 v6 v7 v8 v9 v10 v11 v12 v13 v14 : W} : item (.fl false [v0, v1, v2, v3, v4, v5, v6, v7, v8, v9, v10, v11, v12, v13, v14]) (.int 14) S = some v14 := by kernel_rfl
theorem le15 {n : Nat} (h : n ≤ 15) : n ≤ sizeLine := by rw [sizeLine_eq]; omega
theorem made {k : Nat} {S : So} {v0 v1 v2 v3 v4 v5 v6 v7 v8 v9 v10 v11 v12 v13 v14 : W} : callN P (k + 2) "_law_made" [.fl false [v0, v1, v2, v3, v4, v5, v6, v7, v8, v9, v10, v11, v12, v13, v14]] S = .ok (.fl false (all15 [v0, v1, v2, v3, v4, v5, v6, v7, v8, v9, v10, v11, v12, v13, v14])) S := by
  rw [e_law_made, all15_eq]
  rw [i_0, oOk, bOk, m_BadRules, bOk]
  rw [i_1, oOk, bOk, m_RefusingRing, bOk]
  rw [i_2, oOk, bOk, m_BadRow, bOk]
  rw [i_3, oOk, bOk, m_BadQuestion, bOk]
  rw [i_4, oOk, bOk, m_BadVersion, bOk]
  rw [i_5, oOk, bOk, m_BadText, bOk]
  rw [i_6, oOk, bOk, m_BadCommand, bOk]
  rw [i_7, oOk, bOk, m_TakenRow, bOk]
  rw [i_8, oOk, bOk, m_UnknownRow, bOk]
  rw [i_9, oOk, bOk, m_TooMany, bOk]
  rw [b_addF (by exact le15 (n := 10) (by decide)), bOk]
  rw [i_10, oOk, bOk, m_NotPlain, bOk]
  rw [i_11, oOk, bOk, m_NotSingle, bOk]
  rw [i_12, oOk, bOk, m_NotAlike, bOk]
  rw [i_13, oOk, bOk, m_NotSteady, bOk]
  rw [i_14, oOk, bOk, m_BadGuard, bOk]
  rw [b_addF (by exact le15 (n := 15) (by decide)), bOk]
  rfl
theorem named {k : Nat} {S : So} {v0 v1 v2 v3 v4 v5 v6 v7 v8 v9 v10 v11 v12 v13 v14 : W} : callN P (k + 2) "_law_named" [.fl false [v0, v1, v2, v3, v4, v5, v6, v7, v8, v9, v10, v11, v12, v13, v14]] S = .ok (.fl false (all15 [v0, v1, v2, v3, v4, v5, v6, v7, v8, v9, v10, v11, v12, v13, v14])) S := by
  rw [e_law_named, all15_eq]
  rw [i_0, oOk, bOk, m_BadRules, bOk]
  rw [i_1, oOk, bOk, m_RefusingRing, bOk]
  rw [i_2, oOk, bOk, m_BadRow, bOk]
  rw [i_3, oOk, bOk, m_BadQuestion, bOk]
  rw [i_4, oOk, bOk, m_BadVersion, bOk]
  rw [i_5, oOk, bOk, m_BadText, bOk]
  rw [i_6, oOk, bOk, m_BadCommand, bOk]
  rw [b_addF (by exact le15 (n := 7) (by decide)), bOk]
  rw [i_7, oOk, bOk, m_TakenRow, bOk]
  rw [i_8, oOk, bOk, m_UnknownRow, bOk]
  rw [i_9, oOk, bOk, m_TooMany, bOk]
  rw [i_10, oOk, bOk, m_NotPlain, bOk]
  rw [b_addF (by exact le15 (n := 11) (by decide)), bOk]
  rw [k_law_named_3]
  rw [i_11, oOk, bOk, m_NotSingle, bOk]
  rw [i_12, oOk, bOk, m_NotAlike, bOk]
  rw [i_13, oOk, bOk, m_NotSteady, bOk]
  rw [b_addF (by exact le15 (n := 14) (by decide)), bOk]
  rw [i_14, oOk, bOk, m_BadGuard, bOk]
  rw [b_addF (by exact le15 (n := 15) (by decide)), bOk]
  rfl
/-- whose error it is, one after the other -/
def kin (j : Nat) : List W := (List.range 15).map fun i => W.bl (decide (i = j))
theorem kinds_0 {k : Nat} {S : So} {v : W} : callN P (k + 1) "_law_kinds" [eR "BadRules" "value" v] S = .ok (.fl false (kin 0)) S := (e_law_kinds k S _).trans (by kernel_rfl)
theorem kinds_1 {k : Nat} {S : So} {v : W} : callN P (k + 1) "_law_kinds" [eR "RefusingRing" "ring" v] S = .ok (.fl false (kin 1)) S := (e_law_kinds k S _).trans (by kernel_rfl)
theorem kinds_2 {k : Nat} {S : So} {v : W} : callN P (k + 1) "_law_kinds" [eR "BadRow" "value" v] S = .ok (.fl false (kin 2)) S := (e_law_kinds k S _).trans (by kernel_rfl)
theorem kinds_3 {k : Nat} {S : So} {v : W} : callN P (k + 1) "_law_kinds" [eR "BadQuestion" "value" v] S = .ok (.fl false (kin 3)) S := (e_law_kinds k S _).trans (by kernel_rfl)
theorem kinds_4 {k : Nat} {S : So} {v : W} : callN P (k + 1) "_law_kinds" [eR "BadVersion" "value" v] S = .ok (.fl false (kin 4)) S := (e_law_kinds k S _).trans (by kernel_rfl)
theorem kinds_5 {k : Nat} {S : So} {v : W} : callN P (k + 1) "_law_kinds" [eR "BadText" "value" v] S = .ok (.fl false (kin 5)) S := (e_law_kinds k S _).trans (by kernel_rfl)
theorem kinds_6 {k : Nat} {S : So} {v : W} : callN P (k + 1) "_law_kinds" [eR "BadCommand" "command" v] S = .ok (.fl false (kin 6)) S := (e_law_kinds k S _).trans (by kernel_rfl)
theorem kinds_7 {k : Nat} {S : So} {v : W} : callN P (k + 1) "_law_kinds" [eR "TakenRow" "row" v] S = .ok (.fl false (kin 7)) S := (e_law_kinds k S _).trans (by kernel_rfl)
theorem kinds_8 {k : Nat} {S : So} {v : W} : callN P (k + 1) "_law_kinds" [eR "UnknownRow" "row" v] S = .ok (.fl false (kin 8)) S := (e_law_kinds k S _).trans (by kernel_rfl)
theorem kinds_9 {k : Nat} {S : So} {v : W} : callN P (k + 1) "_law_kinds" [eR "TooMany" "count" v] S = .ok (.fl false (kin 9)) S := (e_law_kinds k S _).trans (by kernel_rfl)
theorem kinds_10 {k : Nat} {S : So} {v : W} : callN P (k + 1) "_law_kinds" [eR "NotPlain" "place" v] S = .ok (.fl false (kin 10)) S := (e_law_kinds k S _).trans (by kernel_rfl)
theorem kinds_11 {k : Nat} {S : So} {v : W} : callN P (k + 1) "_law_kinds" [eR "NotSingle" "place" v] S = .ok (.fl false (kin 11)) S := (e_law_kinds k S _).trans (by kernel_rfl)
theorem kinds_12 {k : Nat} {S : So} {v : W} : callN P (k + 1) "_law_kinds" [eR "NotAlike" "place" v] S = .ok (.fl false (kin 12)) S := (e_law_kinds k S _).trans (by kernel_rfl)
theorem kinds_13 {k : Nat} {S : So} {v : W} : callN P (k + 1) "_law_kinds" [eR "NotSteady" "place" v] S = .ok (.fl false (kin 13)) S := (e_law_kinds k S _).trans (by kernel_rfl)
theorem kinds_14 {k : Nat} {S : So} {v : W} : callN P (k + 1) "_law_kinds" [eR "BadGuard" "number" v] S = .ok (.fl false (kin 14)) S := (e_law_kinds k S _).trans (by kernel_rfl)
theorem kq {j : Nat} (hj : j < 15) : ((rangeW 0 15).map fun w => W.bl (match w with | .int x => decide (x = (j : Int)) | _ => false)) = kin j := by
  have h : ∀ m ∈ List.range 15, ((rangeW 0 15).map fun w => W.bl (match w with | .int x => decide (x = (m : Int)) | _ => false)) = kin m := by
    intro m hm
    have hm := List.mem_range.mp hm
    unfold rangeW kin
    rw [List.map_map]
    refine List.map_congr_left fun i _ => ?_
    show W.bl (decide ((0 + (i : Int)) = (m : Int))) = W.bl (decide (i = m))
    congr 1
    exact decide_eq_decide.mpr (by omega)
  exact h j (List.mem_range.mpr hj)
theorem same (j : Nat) {S : So} (hj : j < 15) : cmp .Eq (.fl false (kin j)) (.fl false (kin j)) S = some true := by
  have h : ∀ m ∈ List.range 15, cmp .Eq (.fl false (kin m)) (.fl false (kin m)) S = some true := by
    intro m hm
    have hm := List.mem_range.mp hm
    match m, hm with
    | 0, _ => kernel_rfl
    | 1, _ => kernel_rfl
    | 2, _ => kernel_rfl
    | 3, _ => kernel_rfl
    | 4, _ => kernel_rfl
    | 5, _ => kernel_rfl
    | 6, _ => kernel_rfl
    | 7, _ => kernel_rfl
    | 8, _ => kernel_rfl
    | 9, _ => kernel_rfl
    | 10, _ => kernel_rfl
    | 11, _ => kernel_rfl
    | 12, _ => kernel_rfl
    | 13, _ => kernel_rfl
    | 14, _ => kernel_rfl
  exact h j (List.mem_range.mpr hj)
theorem flat1 {α β : Type} {f : α → β} : ∀ l : List α, l.flatMap (fun w => [f w]) = l.map f
  | [] => rfl
  | a :: r => by rw [List.flatMap_cons, flat1 r]; rfl
theorem of_kind {k : Nat} {S : So} {e : W} {j : Nat} (hj : j < 15) (h1 : isiC P.isa e (.glo "ShareError") S = .ok (.bl true) S) (h2 : isiC P.isa e (.ty "ValueError") S = .ok (.bl true) S) (h3 : callN P (k + 1) "_law_kinds" [e] S = .ok (.fl false (kin j)) S) :
    callN P (k + 2) "_law_of_one_kind" [e, .int (j : Int)] S = .ok (.bl true) S := by
  rw [e_law_of_one_kind, h1, bOk, tr_bl, iF_t, h2, bOk, tr_bl, iF_t, h3, bOk, rgC1 (by decide)]
  have lc : noX (turns (.seq (rangeW 0 (15 : Int).toNat)) (lcF P (callN P (k + 1)) 37 (sxF f_law_of_one_kind) [some e, some (.int (j : Int)), none] (xX 1 (sX 0 (sN 1 (defBody f_law_of_one_kind.st))))) (Wk.seq (rangeW 0 (15 : Int).toNat)).len 0 [] S) = .ok (kin j) S := by
    refine (lc_pure (fun w => [W.bl (match w with | .int x => decide (x = (j : Int)) | _ => false)]) ?_).trans ?_
    · intro w hw acc hacc
      obtain ⟨i, hi⟩ := List.getElem?_of_mem hw
      obtain ⟨rfl, _⟩ := rg_at hi
      rw [c_law_of_one_kind_1, c_eqI, iB_s, if_pos]
      have hl : ((rangeW 0 (15 : Int).toNat).flatMap fun w => [W.bl (match w with | .int x => decide (x = (j : Int)) | _ => false)]).length = 15 := by
        rw [flat1, List.length_map, rg_len]
        rfl
      rw [hl] at hacc
      rw [sizeLine_eq]
      omega
    · rw [← kq hj, flat1]
      rfl
  rw [lc, bOk, same j hj, iB_s]
/-- each of the fifteen is of its own class alone -/
theorem kind_at {k : Nat} {S : So} : ∀ (j : Nat) (vs : List W) (e : W), vs.length = 15 → (all15 vs)[j]? = some e → callN P (k + 2) "_law_of_one_kind" [e, .int (j : Int)] S = .ok (.bl true) S := by
  intro j vs e hl he
  match vs, hl with
  | [v0, v1, v2, v3, v4, v5, v6, v7, v8, v9, v10, v11, v12, v13, v14], _ =>
    rw [all15_eq] at he
    match j, he with
    | 0, he =>
      cases he
      exact of_kind (by decide) (by kernel_rfl) (by kernel_rfl) kinds_0
    | 1, he =>
      cases he
      exact of_kind (by decide) (by kernel_rfl) (by kernel_rfl) kinds_1
    | 2, he =>
      cases he
      exact of_kind (by decide) (by kernel_rfl) (by kernel_rfl) kinds_2
    | 3, he =>
      cases he
      exact of_kind (by decide) (by kernel_rfl) (by kernel_rfl) kinds_3
    | 4, he =>
      cases he
      exact of_kind (by decide) (by kernel_rfl) (by kernel_rfl) kinds_4
    | 5, he =>
      cases he
      exact of_kind (by decide) (by kernel_rfl) (by kernel_rfl) kinds_5
    | 6, he =>
      cases he
      exact of_kind (by decide) (by kernel_rfl) (by kernel_rfl) kinds_6
    | 7, he =>
      cases he
      exact of_kind (by decide) (by kernel_rfl) (by kernel_rfl) kinds_7
    | 8, he =>
      cases he
      exact of_kind (by decide) (by kernel_rfl) (by kernel_rfl) kinds_8
    | 9, he =>
      cases he
      exact of_kind (by decide) (by kernel_rfl) (by kernel_rfl) kinds_9
    | 10, he =>
      cases he
      exact of_kind (by decide) (by kernel_rfl) (by kernel_rfl) kinds_10
    | 11, he =>
      cases he
      exact of_kind (by decide) (by kernel_rfl) (by kernel_rfl) kinds_11
    | 12, he =>
      cases he
      exact of_kind (by decide) (by kernel_rfl) (by kernel_rfl) kinds_12
    | 13, he =>
      cases he
      exact of_kind (by decide) (by kernel_rfl) (by kernel_rfl) kinds_13
    | 14, he =>
      cases he
      exact of_kind (by decide) (by kernel_rfl) (by kernel_rfl) kinds_14
    | n + 15, he => simp at he
end K4

namespace K4
open PySem Y L2
/-! one turn over the errors and what is due -/
theorem j_0 {S : So} {v0 v1 v2 v3 v4 v5 v6 v7 v8 v9 v10 v11 v12 v13 v14 : W} : item (.fl false [eR "BadRules" "value" v0, eR "RefusingRing" "ring" v1, eR "BadRow" "value" v2, eR "BadQuestion" "value" v3, eR "BadVersion" "value" v4, eR "BadText" "value" v5, eR "BadCommand" "command" v6, eR "TakenRow" "row" v7, eR "UnknownRow" "row" v8, eR "TooMany" "count" v9, eR "NotPlain" "place" v10, eR "NotSingle" "place" v11, eR "NotAlike" "place" v12, eR "NotSteady" "place" v13, eR "BadGuard" "number" v14]) (.int 0) S = some (eR "BadRules" "value" v0) := by kernel_rfl
theorem j_1 {S : So} {v0 v1 v2 v3 v4 v5 v6 v7 v8 v9 v10 v11 v12 v13 v14 : W} : item (.fl false [eR "BadRules" "value" v0, eR "RefusingRing" "ring" v1, eR "BadRow" "value" v2, eR "BadQuestion" "value" v3, eR "BadVersion" "value" v4, eR "BadText" "value" v5, eR "BadCommand" "command" v6, eR "TakenRow" "row" v7, eR "UnknownRow" "row" v8, eR "TooMany" "count" v9, eR "NotPlain" "place" v10, eR "NotSingle" "place" v11, eR "NotAlike" "place" v12, eR "NotSteady" "place" v13, eR "BadGuard" "number" v14]) (.int 1) S = some (eR "RefusingRing" "ring" v1) := by kernel_rfl
theorem j_2 {S : So} {v0 v1 v2 v3 v4 v5 v6 v7 v8 v9 v10 v11 v12 v13 v14 : W} : item (.fl false [eR "BadRules" "value" v0, eR "RefusingRing" "ring" v1, eR "BadRow" "value" v2, eR "BadQuestion" "value" v3, eR "BadVersion" "value" v4, eR "BadText" "value" v5, eR "BadCommand" "command" v6, eR "TakenRow" "row" v7, eR "UnknownRow" "row" v8, eR "TooMany" "count" v9, eR "NotPlain" "place" v10, eR "NotSingle" "place" v11, eR "NotAlike" "place" v12, eR "NotSteady" "place" v13, eR "BadGuard" "number" v14]) (.int 2) S = some (eR "BadRow" "value" v2) := by kernel_rfl
theorem j_3 {S : So} {v0 v1 v2 v3 v4 v5 v6 v7 v8 v9 v10 v11 v12 v13 v14 : W} : item (.fl false [eR "BadRules" "value" v0, eR "RefusingRing" "ring" v1, eR "BadRow" "value" v2, eR "BadQuestion" "value" v3, eR "BadVersion" "value" v4, eR "BadText" "value" v5, eR "BadCommand" "command" v6, eR "TakenRow" "row" v7, eR "UnknownRow" "row" v8, eR "TooMany" "count" v9, eR "NotPlain" "place" v10, eR "NotSingle" "place" v11, eR "NotAlike" "place" v12, eR "NotSteady" "place" v13, eR "BadGuard" "number" v14]) (.int 3) S = some (eR "BadQuestion" "value" v3) := by kernel_rfl
theorem j_4 {S : So} {v0 v1 v2 v3 v4 v5 v6 v7 v8 v9 v10 v11 v12 v13 v14 : W} : item (.fl false [eR "BadRules" "value" v0, eR "RefusingRing" "ring" v1, eR "BadRow" "value" v2, eR "BadQuestion" "value" v3, eR "BadVersion" "value" v4, eR "BadText" "value" v5, eR "BadCommand" "command" v6, eR "TakenRow" "row" v7, eR "UnknownRow" "row" v8, eR "TooMany" "count" v9, eR "NotPlain" "place" v10, eR "NotSingle" "place" v11, eR "NotAlike" "place" v12, eR "NotSteady" "place" v13, eR "BadGuard" "number" v14]) (.int 4) S = some (eR "BadVersion" "value" v4) := by kernel_rfl
theorem j_5 {S : So} {v0 v1 v2 v3 v4 v5 v6 v7 v8 v9 v10 v11 v12 v13 v14 : W} : item (.fl false [eR "BadRules" "value" v0, eR "RefusingRing" "ring" v1, eR "BadRow" "value" v2, eR "BadQuestion" "value" v3, eR "BadVersion" "value" v4, eR "BadText" "value" v5, eR "BadCommand" "command" v6, eR "TakenRow" "row" v7, eR "UnknownRow" "row" v8, eR "TooMany" "count" v9, eR "NotPlain" "place" v10, eR "NotSingle" "place" v11, eR "NotAlike" "place" v12, eR "NotSteady" "place" v13, eR "BadGuard" "number" v14]) (.int 5) S = some (eR "BadText" "value" v5) := by kernel_rfl
theorem j_6 {S : So} {v0 v1 v2 v3 v4 v5 v6 v7 v8 v9 v10 v11 v12 v13 v14 : W} : item (.fl false [eR "BadRules" "value" v0, eR "RefusingRing" "ring" v1, eR "BadRow" "value" v2, eR "BadQuestion" "value" v3, eR "BadVersion" "value" v4, eR "BadText" "value" v5, eR "BadCommand" "command" v6, eR "TakenRow" "row" v7, eR "UnknownRow" "row" v8, eR "TooMany" "count" v9, eR "NotPlain" "place" v10, eR "NotSingle" "place" v11, eR "NotAlike" "place" v12, eR "NotSteady" "place" v13, eR "BadGuard" "number" v14]) (.int 6) S = some (eR "BadCommand" "command" v6) := by kernel_rfl
theorem j_7 {S : So} {v0 v1 v2 v3 v4 v5 v6 v7 v8 v9 v10 v11 v12 v13 v14 : W} : item (.fl false [eR "BadRules" "value" v0, eR "RefusingRing" "ring" v1, eR "BadRow" "value" v2, eR "BadQuestion" "value" v3, eR "BadVersion" "value" v4, eR "BadText" "value" v5, eR "BadCommand" "command" v6, eR "TakenRow" "row" v7, eR "UnknownRow" "row" v8, eR "TooMany" "count" v9, eR "NotPlain" "place" v10, eR "NotSingle" "place" v11, eR "NotAlike" "place" v12, eR "NotSteady" "place" v13, eR "BadGuard" "number" v14]) (.int 7) S = some (eR "TakenRow" "row" v7) := by kernel_rfl
theorem j_8 {S : So} {v0 v1 v2 v3 v4 v5 v6 v7 v8 v9 v10 v11 v12 v13 v14 : W} : item (.fl false [eR "BadRules" "value" v0, eR "RefusingRing" "ring" v1, eR "BadRow" "value" v2, eR "BadQuestion" "value" v3, eR "BadVersion" "value" v4, eR "BadText" "value" v5, eR "BadCommand" "command" v6, eR "TakenRow" "row" v7, eR "UnknownRow" "row" v8, eR "TooMany" "count" v9, eR "NotPlain" "place" v10, eR "NotSingle" "place" v11, eR "NotAlike" "place" v12, eR "NotSteady" "place" v13, eR "BadGuard" "number" v14]) (.int 8) S = some (eR "UnknownRow" "row" v8) := by kernel_rfl
theorem j_9 {S : So} {v0 v1 v2 v3 v4 v5 v6 v7 v8 v9 v10 v11 v12 v13 v14 : W} : item (.fl false [eR "BadRules" "value" v0, eR "RefusingRing" "ring" v1, eR "BadRow" "value" v2, eR "BadQuestion" "value" v3, eR "BadVersion" "value" v4, eR "BadText" "value" v5, eR "BadCommand" "command" v6, eR "TakenRow" "row" v7, eR "UnknownRow" "row" v8, eR "TooMany" "count" v9, eR "NotPlain" "place" v10, eR "NotSingle" "place" v11, eR "NotAlike" "place" v12, eR "NotSteady" "place" v13, eR "BadGuard" "number" v14]) (.int 9) S = some (eR "TooMany" "count" v9) := by kernel_rfl
theorem j_10 {S : So} {v0 v1 v2 v3 v4 v5 v6 v7 v8 v9 v10 v11 v12 v13 v14 : W} : item (.fl false [eR "BadRules" "value" v0, eR "RefusingRing" "ring" v1, eR "BadRow" "value" v2, eR "BadQuestion" "value" v3, eR "BadVersion" "value" v4, eR "BadText" "value" v5, eR "BadCommand" "command" v6, eR "TakenRow" "row" v7, eR "UnknownRow" "row" v8, eR "TooMany" "count" v9, eR "NotPlain" "place" v10, eR "NotSingle" "place" v11, eR "NotAlike" "place" v12, eR "NotSteady" "place" v13, eR "BadGuard" "number" v14]) (.int 10) S = some (eR "NotPlain" "place" v10) := by kernel_rfl
theorem j_11 {S : So} {v0 v1 v2 v3 v4 v5 v6 v7 v8 v9 v10 v11 v12 v13 v14 : W} : item (.fl false [eR "BadRules" "value" v0, eR "RefusingRing" "ring" v1, eR "BadRow" "value" v2, eR "BadQuestion" "value" v3, eR "BadVersion" "value" v4, eR "BadText" "value" v5, eR "BadCommand" "command" v6, eR "TakenRow" "row" v7, eR "UnknownRow" "row" v8, eR "TooMany" "count" v9, eR "NotPlain" "place" v10, eR "NotSingle" "place" v11, eR "NotAlike" "place" v12, eR "NotSteady" "place" v13, eR "BadGuard" "number" v14]) (.int 11) S = some (eR "NotSingle" "place" v11) := by kernel_rfl
theorem j_12 {S : So} {v0 v1 v2 v3 v4 v5 v6 v7 v8 v9 v10 v11 v12 v13 v14 : W} : item (.fl false [eR "BadRules" "value" v0, eR "RefusingRing" "ring" v1, eR "BadRow" "value" v2, eR "BadQuestion" "value" v3, eR "BadVersion" "value" v4, eR "BadText" "value" v5, eR "BadCommand" "command" v6, eR "TakenRow" "row" v7, eR "UnknownRow" "row" v8, eR "TooMany" "count" v9, eR "NotPlain" "place" v10, eR "NotSingle" "place" v11, eR "NotAlike" "place" v12, eR "NotSteady" "place" v13, eR "BadGuard" "number" v14]) (.int 12) S = some (eR "NotAlike" "place" v12) := by kernel_rfl
theorem j_13 {S : So} {v0 v1 v2 v3 v4 v5 v6 v7 v8 v9 v10 v11 v12 v13 v14 : W} : item (.fl false [eR "BadRules" "value" v0, eR "RefusingRing" "ring" v1, eR "BadRow" "value" v2, eR "BadQuestion" "value" v3, eR "BadVersion" "value" v4, eR "BadText" "value" v5, eR "BadCommand" "command" v6, eR "TakenRow" "row" v7, eR "UnknownRow" "row" v8, eR "TooMany" "count" v9, eR "NotPlain" "place" v10, eR "NotSingle" "place" v11, eR "NotAlike" "place" v12, eR "NotSteady" "place" v13, eR "BadGuard" "number" v14]) (.int 13) S = some (eR "NotSteady" "place" v13) := by kernel_rfl
theorem j_14 {S : So} {v0 v1 v2 v3 v4 v5 v6 v7 v8 v9 v10 v11 v12 v13 v14 : W} : item (.fl false [eR "BadRules" "value" v0, eR "RefusingRing" "ring" v1, eR "BadRow" "value" v2, eR "BadQuestion" "value" v3, eR "BadVersion" "value" v4, eR "BadText" "value" v5, eR "BadCommand" "command" v6, eR "TakenRow" "row" v7, eR "UnknownRow" "row" v8, eR "TooMany" "count" v9, eR "NotPlain" "place" v10, eR "NotSingle" "place" v11, eR "NotAlike" "place" v12, eR "NotSteady" "place" v13, eR "BadGuard" "number" v14]) (.int 14) S = some (eR "BadGuard" "number" v14) := by kernel_rfl
theorem cut4 {v0 v1 v2 v3 v4 v5 v6 v7 v8 v9 v10 v11 v12 v13 v14 : W} : cutW [eR "BadRules" "value" v0, eR "RefusingRing" "ring" v1, eR "BadRow" "value" v2, eR "BadQuestion" "value" v3, eR "BadVersion" "value" v4, eR "BadText" "value" v5, eR "BadCommand" "command" v6, eR "TakenRow" "row" v7, eR "UnknownRow" "row" v8, eR "TooMany" "count" v9, eR "NotPlain" "place" v10, eR "NotSingle" "place" v11, eR "NotAlike" "place" v12, eR "NotSteady" "place" v13, eR "BadGuard" "number" v14] (some 10) (some 14) = [eR "NotPlain" "place" v10, eR "NotSingle" "place" v11, eR "NotAlike" "place" v12, eR "NotSteady" "place" v13] := by kernel_rfl
def fm4 : W → List W
  | .fins _ _ [(_, v)] => [v]
  | _ => []
theorem in15 {t : Bool} {S : So} : cmp .In (.bl false) (.fl t (List.replicate 15 (W.bl true))) S = some false := by kernel_rfl
theorem ne_s {z : Str} {S : So} : cmp .NotEq (.str z) (.str z) S = some false := by
  rw [c_neS, decide_eq_true rfl]
  rfl
theorem turn3 {k : Nat} {S : So} {fl : Fl} {sc a b c d e f g h i : W} {errors_ due_ found_ error_ at_ : Option W} {v0 v1 v2 v3 v4 v5 v6 v7 v8 v9 v10 v11 v12 v13 v14 : W} (hre : ∃ z : Str, ∀ (m : Bool) (S : So), builtin m "repr" [.fl false [v0, v1, v2, v3, v4, v5, v6, v7, v8, v9, v10, v11, v12, v13, v14]] S = .ok (.str z) S) :
    foF P (callN P (k + 2)) 37 (sxF f_law) (sN 6 (sBlk 0 (sN 1 (sBlk 0 (sN 0 (defBody f_law.st)))))) (.tup [.fl false (all15 [v0, v1, v2, v3, v4, v5, v6, v7, v8, v9, v10, v11, v12, v13, v14]), .fl false [v0, v1, v2, v3, v4, v5, v6, v7, v8, v9, v10, v11, v12, v13, v14]]) ([some sc, some a, some b, some c, some d, some e, some f, some g, some h, some i, errors_, due_, found_, error_, at_], fl) S = .ok (([some sc, some a, some b, some c, some d, some e, some f, some g, some h, some i, some (.fl false (all15 [v0, v1, v2, v3, v4, v5, v6, v7, v8, v9, v10, v11, v12, v13, v14])), some (.fl false [v0, v1, v2, v3, v4, v5, v6, v7, v8, v9, v10, v11, v12, v13, v14]), some (.fl false [v0, v1, v2, v3, v4, v5, v6, v7, v8, v9, v10, v11, v12, v13, v14]), error_, at_], Fl.nx), true) S := by
  obtain ⟨z, hz⟩ := hre
  rw [b_law_3, all15_eq]
  rw [j_0, oOk, bOk, a_BadRules, bOk]
  rw [j_1, oOk, bOk, a_RefusingRing, bOk]
  rw [j_2, oOk, bOk, a_BadRow, bOk]
  rw [j_3, oOk, bOk, a_BadQuestion, bOk]
  rw [j_4, oOk, bOk, a_BadVersion, bOk]
  rw [k_law_3_1]
  rw [j_5, oOk, bOk, a_BadText, bOk]
  rw [j_6, oOk, bOk, a_BadCommand, bOk]
  rw [j_7, oOk, bOk, a_TakenRow, bOk]
  rw [j_8, oOk, bOk, a_UnknownRow, bOk]
  rw [j_9, oOk, bOk, a_TooMany, bOk]
  rw [b_addF (by exact le15 (n := 10) (by decide)), bOk]
  rw [k_law_3_2, vs_fl, bOk, cut4, vw_fl, bOk]
  rw [lc_pure fm4 (fun w hw acc hacc => ?_)]
  · rw [bOk]
    rw [b_addF (x := [v0, v1, v2, v3, v4] ++ [v5, v6, v7, v8, v9]) (by exact le15 (n := 14) (by decide)), bOk]
    rw [j_14, oOk, bOk, a_BadGuard, bOk]
    rw [b_addF (by exact le15 (n := 15) (by decide)), bOk]
    rw [k_law_3_3]
    rw [show ([v0, v1, v2, v3, v4] ++ [v5, v6, v7, v8, v9] ++ List.flatMap fm4 [eR "NotPlain" "place" v10, eR "NotSingle" "place" v11, eR "NotAlike" "place" v12, eR "NotSteady" "place" v13] ++ [v14] : List W) = [v0, v1, v2, v3, v4, v5, v6, v7, v8, v9, v10, v11, v12, v13, v14] from rfl, hz, bOk, hz, bOk, ne_s, iF_f]
    rw [show enumV (.fl false [eR "BadRules" "value" v0, eR "RefusingRing" "ring" v1, eR "BadRow" "value" v2, eR "BadQuestion" "value" v3, eR "BadVersion" "value" v4, eR "BadText" "value" v5, eR "BadCommand" "command" v6, eR "TakenRow" "row" v7, eR "UnknownRow" "row" v8, eR "TooMany" "count" v9, eR "NotPlain" "place" v10, eR "NotSingle" "place" v11, eR "NotAlike" "place" v12, eR "NotSteady" "place" v13, eR "BadGuard" "number" v14]) S = .ok (.seq (enumW 0 [eR "BadRules" "value" v0, eR "RefusingRing" "ring" v1, eR "BadRow" "value" v2, eR "BadQuestion" "value" v3, eR "BadVersion" "value" v4, eR "BadText" "value" v5, eR "BadCommand" "command" v6, eR "TakenRow" "row" v7, eR "UnknownRow" "row" v8, eR "TooMany" "count" v9, eR "NotPlain" "place" v10, eR "NotSingle" "place" v11, eR "NotAlike" "place" v12, eR "NotSteady" "place" v13, eR "BadGuard" "number" v14])) S from rfl, bOk]
    rw [lc_pure (fun _ => [W.bl true]) (fun w hw acc hacc => ?_)]
    · rw [bOk, show (List.flatMap (fun _ => [W.bl true]) (enumW 0 [eR "BadRules" "value" v0, eR "RefusingRing" "ring" v1, eR "BadRow" "value" v2, eR "BadQuestion" "value" v3, eR "BadVersion" "value" v4, eR "BadText" "value" v5, eR "BadCommand" "command" v6, eR "TakenRow" "row" v7, eR "UnknownRow" "row" v8, eR "TooMany" "count" v9, eR "NotPlain" "place" v10, eR "NotSingle" "place" v11, eR "NotAlike" "place" v12, eR "NotSteady" "place" v13, eR "BadGuard" "number" v14]) : List W) = List.replicate 15 (W.bl true) from rfl, in15, iF_f]
    · obtain ⟨j, hj⟩ := List.getElem?_of_mem hw
      rw [enumW_get] at hj
      obtain ⟨q, hq, rfl⟩ := Option.map_eq_some_iff.mp hj
      rw [c_law_2, Nat.zero_add, kind_at j [v0, v1, v2, v3, v4, v5, v6, v7, v8, v9, v10, v11, v12, v13, v14] q rfl (by rw [all15_eq]; exact hq), bOk, if_pos (Nat.lt_of_le_of_lt hacc (by show 15 < sizeLine; rw [sizeLine_eq]; omega))]
  · have hl : acc.length < sizeLine := Nat.lt_of_le_of_lt hacc (by show 4 < sizeLine; rw [sizeLine_eq]; omega)
    simp only [List.mem_cons, List.not_mem_nil, or_false] at hw
    rcases hw with rfl | rfl | rfl | rfl
    · rw [c_law_1, a_NotPlain, bOk, if_pos hl]; rfl
    · rw [c_law_1, a_NotSingle, bOk, if_pos hl]; rfl
    · rw [c_law_1, a_NotAlike, bOk, if_pos hl]; rfl
    · rw [c_law_1, a_NotSteady, bOk, if_pos hl]; rfl
end K4

namespace K4
open PySem Y L2
/-! one turn of the law -/
abbrev pA : W := .tup [.str "doc", .str "a"]
abbrev pB : W := .tup [.str "doc", .str "b"]
abbrev En15 (sc : W) (a b c d e f g h i j l m n o : Option W) : En := [some sc, a, b, c, d, e, f, g, h, i, j, l, m, n, o]
theorem six {S : So} : binop false .Mult (.fl false [.fl false [pA, pB]]) (.int 6) S = .ok (.fl false (List.replicate 6 (.fl false [pA, pB]))) S := by kernel_rfl
def d6 : PyData := .list (List.replicate 6 (.list [.tuple [.str "doc", .str "a"], .tuple [.str "doc", .str "b"]]))
theorem d6_re : reOk d6 = true := by decide +kernel
theorem re6 {S : So} {m : Bool} : builtin m "repr" [.fl false (List.replicate 6 (.fl false [pA, pB]))] S = .ok (.str d6.shown) S := vb_repr rfl d6_re
theorem toD6 {S : So} {D : Nat} (h : S[D]? = some (.lst [pA, pB])) : toD S (.fl false (List.replicate 6 (.ref D))) = some d6 := by
  have q : dR S deepS D = some (.list [.tuple [.str "doc", .str "a"], .tuple [.str "doc", .str "b"]]) := by
    unfold deepS dR
    simp only [h]
    rfl
  have e : ∀ n : Nat, dWs (dR S deepS) (List.replicate n (.ref D)) = some (List.replicate n (.list [.tuple [.str "doc", .str "a"], .tuple [.str "doc", .str "b"]])) := fun n => by
    induction n with
    | zero => rfl
    | succ n ih =>
      rw [List.replicate_succ, List.replicate_succ]
      unfold dWs
      rw [show dW (dR S deepS) (.ref D) = some (.list [.tuple [.str "doc", .str "a"], .tuple [.str "doc", .str "b"]]) from q, ih]
  show (dWs (dR S deepS) _).map _ = _
  rw [e 6]
  rfl
theorem re6r {S : So} {m : Bool} {D : Nat} (h : S[D]? = some (.lst [pA, pB])) : builtin m "repr" [.fl false (List.replicate 6 (.ref D))] S = .ok (.str d6.shown) S := by
  show (match toD S (.fl false (List.replicate 6 (.ref D))) with | some d => if (d.showable && decide (d.shown.length ≤ sizeLine) && decide (d.depth ≤ 150)) = true then Res.ok (W.str d.shown) S else Res.bad | none => Res.bad) = _
  rw [toD6 h]
  exact if_pos d6_re
theorem At.app {S : So} {i : Nat} {o : O} (h : At S i) : At (S ++ [o]) i := by
  obtain ⟨d, m, e, q⟩ := h
  exact ⟨d, m, get_app e, q⟩
theorem At.lt {S : So} {i : Nat} (h : At S i) : i < S.length := by
  obtain ⟨d, m, e, q⟩ := h
  exact (List.getElem?_eq_some_iff.mp e).1
theorem turn2 {k w : Nat} {S : So} {fl : Fl} {sc st : W} {t : Int} {c d e f g h i j l m n o : Option W} (hA : At S w) (h0 : 0 ≤ t) (h1 : t < 4) :
    Yes (foF P (callN P (k + 3)) 38 (sxF f_law) (sN 1 (sBlk 0 (sN 0 (defBody f_law.st)))) (.int t) (En15 sc (some st) (some (.ref w)) c d e f g h i j l m n o, fl) S) fun r S' => r.2 = true ∧ r.1.2 = .nx ∧ (∃ c d e f g h i j l m n o, r.1.1 = En15 sc (some st) (some (.ref w)) c d e f g h i j l m n o) ∧ At S' w := by
  rw [b_law_2]
  refine yes_bind (values hA h0 h1) ?_
  rintro _ S1 ⟨vs, rfl, lv, ev, a1⟩
  have A1 := a1.at hA
  refine yes_bind (values A1 h0 h1) ?_
  rintro _ S2 ⟨us, rfl, lu, eu, a2⟩
  have A2 := a2.at A1
  have rv := fl_repr (t := false) ev (by omega)
  have ru := fl_repr (t := false) eu (by omega)
  match vs, lv, us, lu, rv, ru with
  | [v0, v1, v2, v3, v4, v5, v6, v7, v8, v9, v10, v11, v12, v13, v14], _, [u0, u1, u2, u3, u4, u5, u6, u7, u8, u9, u10, u11, u12, u13, u14], _, rv, ru =>
  rw [show mk true [pA] S2 = .ok (.ref S2.length) (S2 ++ [.lst [pA]]) from rfl, bOk, made, bOk, named, bOk]
  rw [m_RefusingRing, bOk, a_RefusingRing, bOk, m_BadRules, bOk, a_BadRules, bOk, m_BadRow, bOk, a_BadRow, bOk, m_BadVersion, bOk, a_BadVersion, bOk]
  rw [k_law_2_3]
  have hD : (S2 ++ [O.lst [pA]])[S2.length]? = some (.lst [pA]) := get_new
  rw [m_BadText, bOk, a_BadText, bOk, m_BadCommand, bOk, a_BadCommand, bOk, b_addF (by exact le15 (n := 6) (by decide)), bOk, ty_ref hD, app_ref hD (by show 1 < sizeLine; rw [sizeLine_eq]; omega), bOk]
  have hD2 : ((S2 ++ [O.lst [pA]]).set S2.length (O.lst ([pA] ++ [pB])))[S2.length]? = some (.lst [pA, pB]) := get_set hD
  have A3 : At ((S2 ++ [O.lst [pA]]).set S2.length (O.lst ([pA] ++ [pB]))) w := by
    obtain ⟨dd, mm, q1, q2⟩ := A2.app (o := O.lst [pA])
    exact ⟨dd, mm, get_other q1 (Nat.ne_of_lt A2.lt), q2⟩
  generalize (S2 ++ [O.lst [pA]]).set S2.length (O.lst ([pA] ++ [pB])) = S3 at hD2 A3
  rw [show ([W.ref S2.length, .ref S2.length, .ref S2.length, .ref S2.length] ++ [W.ref S2.length, .ref S2.length] : List W) = List.replicate 6 (.ref S2.length) from rfl, re6r hD2, bOk, six, bOk, re6, bOk, ne_s, iF_f, vw_fl, bOk]
  refine yes_turns (fun _ r S' => S' = S3 ∧ r.2 = .nx ∧ ∃ x1 x2 x3 x4 x5, r.1 = En15 sc (some st) (some (.ref w)) (some (.int t)) (some (.fl false [v0, v1, v2, v3, v4, v5, v6, v7, v8, v9, v10, v11, v12, v13, v14])) (some (.fl false [u0, u1, u2, u3, u4, u5, u6, u7, u8, u9, u10, u11, u12, u13, u14])) (some (.ref S2.length)) (some (.fl false (all15 [v0, v1, v2, v3, v4, v5, v6, v7, v8, v9, v10, v11, v12, v13, v14]))) (some (.fl false (all15 [u0, u1, u2, u3, u4, u5, u6, u7, u8, u9, u10, u11, u12, u13, u14]))) (some (.fl false (List.replicate 6 (.ref S2.length)))) x1 x2 x3 x4 x5) ⟨rfl, rfl, _, _, _, _, _, rfl⟩ ?_ ?_
  · rintro jj ⟨en, fl⟩ S' z hz ⟨rfl, hfl, x1, x2, x3, x4, x5, he⟩
    dsimp only at hfl he
    subst hfl he
    have hm := List.mem_of_getElem? hz
    simp only [List.mem_cons, List.not_mem_nil, or_false] at hm
    rcases hm with rfl | rfl | rfl
    · exact of_eq (turn3 rv) ⟨rfl, rfl, rfl, _, _, _, _, _, rfl⟩
    · exact of_eq (turn3 ru) ⟨rfl, rfl, rfl, _, _, _, _, _, rfl⟩
    · exact of_eq (turn3 rv) ⟨rfl, rfl, rfl, _, _, _, _, _, rfl⟩
  · rintro ⟨en, fl⟩ S' ⟨rfl, hfl, x1, x2, x3, x4, x5, he⟩
    dsimp only at hfl he
    subst hfl he
    rw [kNx]
    exact yes_ok ⟨rfl, rfl, ⟨_, _, _, _, _, _, _, _, _, _, _, _, rfl⟩, A3⟩
theorem lawTurn {k : Nat} {S : So} {ns : List Int} {x : Int} {fl : Fl} {a b c d e f g h i j l m n o : Option W} (hb : ∀ z ∈ ns, Builtin.Int.intBits z ≤ 1048576) (h0 : 0 ≤ x) (h1 : x < 1000) :
    Yes (foF P (callN P (k + 3)) 39 (sxF f_law) (sN 0 (defBody f_law.st)) (.int x) (En15 (.fl false (ns.map W.int)) a b c d e f g h i j l m n o, fl) S) fun r S' => r.2 = true ∧ r.1.2 = .nx ∧ ∃ a b c d e f g h i j l m n o, r.1.1 = En15 (.fl false (ns.map W.int)) a b c d e f g h i j l m n o := by
  rw [b_law_1]
  refine yes_bind (show Yes (callN P (k + 3) "_law_well" [.fl false (ns.map W.int), .int x] S) _ from well hb h0 h1) ?_
  rintro _ S1 ⟨d0, m0, rfl, rfl, o⟩
  rw [rgC1 (by decide)]
  refine yes_turns (fun _ r S' => r.2 = Fl.nx ∧ (∃ c d e f g h i j l m n o, r.1 = En15 (.fl false (ns.map W.int)) (some (.int x)) (some (.ref S.length)) c d e f g h i j l m n o) ∧ At S' S.length) ⟨rfl, ⟨_, _, _, _, _, _, _, _, _, _, _, _, rfl⟩, ⟨d0, m0, get_new, o⟩⟩ ?_ ?_
  · rintro jj ⟨e, fl⟩ S' w hw ⟨rfl, ⟨_, _, _, _, _, _, _, _, _, _, _, _, rfl⟩, hA⟩
    obtain ⟨rfl, hj⟩ := rg_at hw
    have hj : jj < 4 := hj
    refine yes_imp (turn2 hA (by omega) (by omega)) ?_
    rintro r S2 ⟨q1, q2, q3, q4⟩
    exact ⟨q1, q2, q3, q4⟩
  · rintro ⟨e, fl⟩ S' ⟨rfl, ⟨_, _, _, _, _, _, _, _, _, _, _, _, rfl⟩, hA⟩
    rw [kNx]
    exact yes_ok ⟨rfl, rfl, ⟨_, _, _, _, _, _, _, _, _, _, _, _, _, _, rfl⟩⟩
theorem ans (ns : List Int) (hl : ns.length ≤ 63) (hb : ∀ z ∈ ns, Builtin.Int.intBits z ≤ 1048576) : ∃ S, callN P 8 "law" [.fl false (ns.map W.int)] [] = .ok (.bl true) S := by
  suffices h : Yes (callN P (4 + 3 + 1) "law" [.fl false (ns.map W.int)] []) fun r _ => r = .bl true by
    obtain ⟨r, S, e, rfl⟩ := h
    exact ⟨S, e⟩
  rw [e_law]
  simp only [len_fl, bOk, vb_min, vb_max, List.length_map]
  generalize hv : (if (if (ns.length : Int) < 4 then (ns.length : Int) else 4) > 1 then (if (ns.length : Int) < 4 then (ns.length : Int) else 4) else 1) = v
  have v0 : 0 ≤ v ∧ v ≤ 4 := by
    subst hv
    split <;> split at * <;> omega
  rw [rgC1 (by omega)]
  refine yes_turns (fun _ r S' => r.2 = Fl.nx ∧ (∃ a b c d e f g h i j l m n o, r.1 = En15 (.fl false (ns.map W.int)) a b c d e f g h i j l m n o)) ⟨rfl, ⟨_, _, _, _, _, _, _, _, _, _, _, _, _, _, rfl⟩⟩ ?_ ?_
  · rintro j ⟨e, fl⟩ S' w hw ⟨rfl, ⟨_, _, _, _, _, _, _, _, _, _, _, _, _, _, rfl⟩⟩
    obtain ⟨rfl, hj⟩ := rg_at hw
    refine yes_imp (lawTurn hb (by omega) (by omega)) ?_
    rintro r S2 ⟨q1, q2, q3⟩
    exact ⟨q1, q2, q3⟩
  · rintro ⟨e, fl⟩ S' ⟨rfl, ⟨_, _, _, _, _, _, _, _, _, _, _, _, _, _, rfl⟩⟩
    rw [kNx]
    exact yes_ok rfl
end K4

namespace K4
open PySem Y L2
theorem sc_f_law_well : FnScope f_law_well.N f_law_well.ps (defScope f_law_well.st) := ⟨rfl, rfl, rfl, by decide +kernel, rfl, by decide +kernel, by decide +kernel⟩
theorem bi_f_law_well : BindsAll f_law_well := fun x qual kV doc pm an cdv ct => ⟨fun us hl => match us, (show us.length = 2 from hl) with | [u0, u1], _ => rfl, fun n ks m => nomatch m⟩
theorem sc_f_law_draw : FnScope f_law_draw.N f_law_draw.ps (defScope f_law_draw.st) := ⟨rfl, rfl, rfl, by decide +kernel, rfl, by decide +kernel, by decide +kernel⟩
theorem bi_f_law_draw : BindsAll f_law_draw := fun x qual kV doc pm an cdv ct => ⟨fun us hl => match us, (show us.length = 2 from hl) with | [u0, u1], _ => rfl, fun n ks m => nomatch m⟩
theorem sc_f_law_choose : FnScope f_law_choose.N f_law_choose.ps (defScope f_law_choose.st) := ⟨rfl, rfl, rfl, by decide +kernel, rfl, by decide +kernel, by decide +kernel⟩
theorem bi_f_law_choose : BindsAll f_law_choose := fun x qual kV doc pm an cdv ct => ⟨fun us hl => match us, (show us.length = 2 from hl) with | [u0, u1], _ => rfl, fun n ks m => nomatch m⟩
theorem sc_f_law_values : FnScope f_law_values.N f_law_values.ps (defScope f_law_values.st) := ⟨rfl, rfl, rfl, by decide +kernel, rfl, by decide +kernel, by decide +kernel⟩
theorem bi_f_law_values : BindsAll f_law_values := fun x qual kV doc pm an cdv ct => ⟨fun us hl => match us, (show us.length = 2 from hl) with | [u0, u1], _ => rfl, fun n ks m => nomatch m⟩
theorem sc_f_law_kinds : FnScope f_law_kinds.N f_law_kinds.ps (defScope f_law_kinds.st) := ⟨rfl, rfl, rfl, by decide +kernel, rfl, by decide +kernel, by decide +kernel⟩
theorem bi_f_law_kinds : BindsAll f_law_kinds := fun x qual kV doc pm an cdv ct => ⟨fun us hl => match us, (show us.length = 1 from hl) with | [u0], _ => rfl, fun n ks m => nomatch m⟩
theorem sc_f_law_of_one_kind : FnScope f_law_of_one_kind.N f_law_of_one_kind.ps (defScope f_law_of_one_kind.st) := ⟨rfl, rfl, rfl, by decide +kernel, rfl, by decide +kernel, by decide +kernel⟩
theorem bi_f_law_of_one_kind : BindsAll f_law_of_one_kind := fun x qual kV doc pm an cdv ct => ⟨fun us hl => match us, (show us.length = 2 from hl) with | [u0, u1], _ => rfl, fun n ks m => nomatch m⟩
theorem sc_f_law_made : FnScope f_law_made.N f_law_made.ps (defScope f_law_made.st) := ⟨rfl, rfl, rfl, by decide +kernel, rfl, by decide +kernel, by decide +kernel⟩
theorem bi_f_law_made : BindsAll f_law_made := fun x qual kV doc pm an cdv ct => ⟨fun us hl => match us, (show us.length = 1 from hl) with | [u0], _ => rfl, fun n ks m => nomatch m⟩
theorem sc_f_law_named : FnScope f_law_named.N f_law_named.ps (defScope f_law_named.st) := ⟨rfl, rfl, rfl, by decide +kernel, rfl, by decide +kernel, by decide +kernel⟩
theorem bi_f_law_named : BindsAll f_law_named := fun x qual kV doc pm an cdv ct => ⟨fun us hl => match us, (show us.length = 1 from hl) with | [u0], _ => rfl, fun n ks m => nomatch m⟩
theorem sc_f_law : FnScope f_law.N f_law.ps (defScope f_law.st) := ⟨rfl, rfl, rfl, by decide +kernel, rfl, by decide +kernel, by decide +kernel⟩
theorem bi_f_law : BindsAll f_law := fun x qual kV doc pm an cdv ct => ⟨fun us hl => match us, (show us.length = 1 from hl) with | [u0], _ => rfl, fun n ks m => nomatch m⟩
theorem glo_ok {K : PySem.W.Frag} {mg : Str → Option Value} {h : Heap} (X : K.In h) (G : h.Ns mainGlobals mg) {a0 : Addr} (g0 : PySem.W.nsIn K mainGlobals "BadRules" = some (some (.ref a0))) {a1 : Addr} (g1 : PySem.W.nsIn K mainGlobals "RefusingRing" = some (some (.ref a1))) {a2 : Addr} (g2 : PySem.W.nsIn K mainGlobals "BadRow" = some (some (.ref a2))) {a3 : Addr} (g3 : PySem.W.nsIn K mainGlobals "BadQuestion" = some (some (.ref a3))) {a4 : Addr} (g4 : PySem.W.nsIn K mainGlobals "BadVersion" = some (some (.ref a4))) {a5 : Addr} (g5 : PySem.W.nsIn K mainGlobals "BadText" = some (some (.ref a5))) {a6 : Addr} (g6 : PySem.W.nsIn K mainGlobals "BadCommand" = some (some (.ref a6))) {a7 : Addr} (g7 : PySem.W.nsIn K mainGlobals "TakenRow" = some (some (.ref a7))) {a8 : Addr} (g8 : PySem.W.nsIn K mainGlobals "UnknownRow" = some (some (.ref a8))) {a9 : Addr} (g9 : PySem.W.nsIn K mainGlobals "TooMany" = some (some (.ref a9))) {a10 : Addr} (g10 : PySem.W.nsIn K mainGlobals "NotPlain" = some (some (.ref a10))) {a11 : Addr} (g11 : PySem.W.nsIn K mainGlobals "NotSingle" = some (some (.ref a11))) {a12 : Addr} (g12 : PySem.W.nsIn K mainGlobals "NotAlike" = some (some (.ref a12))) {a13 : Addr} (g13 : PySem.W.nsIn K mainGlobals "NotSteady" = some (some (.ref a13))) {a14 : Addr} (g14 : PySem.W.nsIn K mainGlobals "BadGuard" = some (some (.ref a14))) {a15 : Addr} (g15 : PySem.W.nsIn K mainGlobals "ShareError" = some (some (.ref a15))) (g16 : PySem.W.nsIn K mainGlobals "ValueError" = some none) : GOk K mg P := by
  intro x w hx
  have m := PySem.mem_of_lookup (show glo.lookup x = some w from hx)
  unfold glo at m
  simp only [List.mem_cons, List.not_mem_nil, or_false, Prod.mk.injEq] at m
  rcases m with ⟨rfl, rfl⟩ | ⟨rfl, rfl⟩ | ⟨rfl, rfl⟩ | ⟨rfl, rfl⟩ | ⟨rfl, rfl⟩ | ⟨rfl, rfl⟩ | ⟨rfl, rfl⟩ | ⟨rfl, rfl⟩ | ⟨rfl, rfl⟩ | ⟨rfl, rfl⟩ | ⟨rfl, rfl⟩ | ⟨rfl, rfl⟩ | ⟨rfl, rfl⟩ | ⟨rfl, rfl⟩ | ⟨rfl, rfl⟩ | ⟨rfl, rfl⟩ | ⟨rfl, rfl⟩
  · exact .inl ⟨_, .ref a0, PySem.W.mg_of X G g0, rfl, fun H I => by rw [RW]; exact ⟨a0, rfl, PySem.W.mg_of X G g0⟩⟩
  · exact .inl ⟨_, .ref a1, PySem.W.mg_of X G g1, rfl, fun H I => by rw [RW]; exact ⟨a1, rfl, PySem.W.mg_of X G g1⟩⟩
  · exact .inl ⟨_, .ref a2, PySem.W.mg_of X G g2, rfl, fun H I => by rw [RW]; exact ⟨a2, rfl, PySem.W.mg_of X G g2⟩⟩
  · exact .inl ⟨_, .ref a3, PySem.W.mg_of X G g3, rfl, fun H I => by rw [RW]; exact ⟨a3, rfl, PySem.W.mg_of X G g3⟩⟩
  · exact .inl ⟨_, .ref a4, PySem.W.mg_of X G g4, rfl, fun H I => by rw [RW]; exact ⟨a4, rfl, PySem.W.mg_of X G g4⟩⟩
  · exact .inl ⟨_, .ref a5, PySem.W.mg_of X G g5, rfl, fun H I => by rw [RW]; exact ⟨a5, rfl, PySem.W.mg_of X G g5⟩⟩
  · exact .inl ⟨_, .ref a6, PySem.W.mg_of X G g6, rfl, fun H I => by rw [RW]; exact ⟨a6, rfl, PySem.W.mg_of X G g6⟩⟩
  · exact .inl ⟨_, .ref a7, PySem.W.mg_of X G g7, rfl, fun H I => by rw [RW]; exact ⟨a7, rfl, PySem.W.mg_of X G g7⟩⟩
  · exact .inl ⟨_, .ref a8, PySem.W.mg_of X G g8, rfl, fun H I => by rw [RW]; exact ⟨a8, rfl, PySem.W.mg_of X G g8⟩⟩
  · exact .inl ⟨_, .ref a9, PySem.W.mg_of X G g9, rfl, fun H I => by rw [RW]; exact ⟨a9, rfl, PySem.W.mg_of X G g9⟩⟩
  · exact .inl ⟨_, .ref a10, PySem.W.mg_of X G g10, rfl, fun H I => by rw [RW]; exact ⟨a10, rfl, PySem.W.mg_of X G g10⟩⟩
  · exact .inl ⟨_, .ref a11, PySem.W.mg_of X G g11, rfl, fun H I => by rw [RW]; exact ⟨a11, rfl, PySem.W.mg_of X G g11⟩⟩
  · exact .inl ⟨_, .ref a12, PySem.W.mg_of X G g12, rfl, fun H I => by rw [RW]; exact ⟨a12, rfl, PySem.W.mg_of X G g12⟩⟩
  · exact .inl ⟨_, .ref a13, PySem.W.mg_of X G g13, rfl, fun H I => by rw [RW]; exact ⟨a13, rfl, PySem.W.mg_of X G g13⟩⟩
  · exact .inl ⟨_, .ref a14, PySem.W.mg_of X G g14, rfl, fun H I => by rw [RW]; exact ⟨a14, rfl, PySem.W.mg_of X G g14⟩⟩
  · exact .inl ⟨_, .ref a15, PySem.W.mg_of X G g15, rfl, fun H I => by rw [RW]; exact ⟨a15, rfl, PySem.W.mg_of X G g15⟩⟩
  · exact .inr ⟨"ValueError", rfl, PySem.W.mg_none_of X G g16, by decide +kernel⟩
theorem bE_command : BindsEr "command" := fun _ _ _ _ _ _ _ _ _ _ _ _ _ _ _ _ _ _ _ _ _ u v => ⟨rfl, rfl⟩
theorem bE_count : BindsEr "count" := fun _ _ _ _ _ _ _ _ _ _ _ _ _ _ _ _ _ _ _ _ _ u v => ⟨rfl, rfl⟩
theorem bE_number : BindsEr "number" := fun _ _ _ _ _ _ _ _ _ _ _ _ _ _ _ _ _ _ _ _ _ u v => ⟨rfl, rfl⟩
theorem bE_place : BindsEr "place" := fun _ _ _ _ _ _ _ _ _ _ _ _ _ _ _ _ _ _ _ _ _ u v => ⟨rfl, rfl⟩
theorem bE_ring : BindsEr "ring" := fun _ _ _ _ _ _ _ _ _ _ _ _ _ _ _ _ _ _ _ _ _ u v => ⟨rfl, rfl⟩
theorem bE_row : BindsEr "row" := fun _ _ _ _ _ _ _ _ _ _ _ _ _ _ _ _ _ _ _ _ _ u v => ⟨rfl, rfl⟩
theorem bE_value : BindsEr "value" := fun _ _ _ _ _ _ _ _ _ _ _ _ _ _ _ _ _ _ _ _ _ u v => ⟨rfl, rfl⟩
theorem tabE {Pr : Program} {K : PySem.W.Frag} {mg : Str → Option Value} {h : Heap} {b0 b1 b2 b3 b4 b5 b6 b7 b8 b9 b10 b11 b12 b13 b14 sh : Addr} (X : K.In h) (G : h.Ns mainGlobals mg) (D : ∀ p ∈ tab, ∃ fa fd, DefAt K mg p.1 p.2 fa fd) (Er : ∀ p ∈ ers, ErAt Pr K mg p.1 p.2 (erFi p.2) ∧ ∃ c, mg p.1 = some (.ref c) ∧ ErC K c p.2) (B : ∀ x ∈ ("range" : Str) :: builtins, PySem.W.nsIn K mainGlobals x = some none) (en : PySem.W.nsIn K mainGlobals "enumerate" = some none) (Gl : GOk K mg P)
    (n0 : PySem.W.nsIn K mainGlobals "BadRules" = some (some (.ref b0))) (n1 : PySem.W.nsIn K mainGlobals "RefusingRing" = some (some (.ref b1))) (n2 : PySem.W.nsIn K mainGlobals "BadRow" = some (some (.ref b2))) (n3 : PySem.W.nsIn K mainGlobals "BadQuestion" = some (some (.ref b3))) (n4 : PySem.W.nsIn K mainGlobals "BadVersion" = some (some (.ref b4))) (n5 : PySem.W.nsIn K mainGlobals "BadText" = some (some (.ref b5))) (n6 : PySem.W.nsIn K mainGlobals "BadCommand" = some (some (.ref b6))) (n7 : PySem.W.nsIn K mainGlobals "TakenRow" = some (some (.ref b7))) (n8 : PySem.W.nsIn K mainGlobals "UnknownRow" = some (some (.ref b8))) (n9 : PySem.W.nsIn K mainGlobals "TooMany" = some (some (.ref b9))) (n10 : PySem.W.nsIn K mainGlobals "NotPlain" = some (some (.ref b10))) (n11 : PySem.W.nsIn K mainGlobals "NotSingle" = some (some (.ref b11))) (n12 : PySem.W.nsIn K mainGlobals "NotAlike" = some (some (.ref b12))) (n13 : PySem.W.nsIn K mainGlobals "NotSteady" = some (some (.ref b13))) (n14 : PySem.W.nsIn K mainGlobals "BadGuard" = some (some (.ref b14))) (ns : PySem.W.nsIn K mainGlobals "ShareError" = some (some (.ref sh)))
    (chk : (([("BadRules", b0), ("RefusingRing", b1), ("BadRow", b2), ("BadQuestion", b3), ("BadVersion", b4), ("BadText", b5), ("BadCommand", b6), ("TakenRow", b7), ("UnknownRow", b8), ("TooMany", b9), ("NotPlain", b10), ("NotSingle", b11), ("NotAlike", b12), ("NotSteady", b13), ("BadGuard", b14)] : List (Str × Addr)).all fun C => (("ShareError", sh) :: [("BadRules", b0), ("RefusingRing", b1), ("BadRow", b2), ("BadQuestion", b3), ("BadVersion", b4), ("BadText", b5), ("BadCommand", b6), ("TakenRow", b7), ("UnknownRow", b8), ("TooMany", b9), ("NotPlain", b10), ("NotSingle", b11), ("NotAlike", b12), ("NotSteady", b13), ("BadGuard", b14)] : List (Str × Addr)).all fun D => decide (PySem.W.kitOne K (.ref C.2) (.ref D.2) = some (decide (D.1 = C.1) || decide (D.1 = "ShareError")))) = true)
    (chv : (([("BadRules", b0), ("RefusingRing", b1), ("BadRow", b2), ("BadQuestion", b3), ("BadVersion", b4), ("BadText", b5), ("BadCommand", b6), ("TakenRow", b7), ("UnknownRow", b8), ("TooMany", b9), ("NotPlain", b10), ("NotSingle", b11), ("NotAlike", b12), ("NotSteady", b13), ("BadGuard", b14)] : List (Str × Addr)).all fun C => decide (PySem.W.kitOne K (.ref C.2) (.type "ValueError") = some true)) = true) : TabE P Pr K mg :=
  tab_mkE D (fun p m => (Er p m).1) (fun p m => (Er p m).2) Gl (fun x hx => PySem.W.mg_none_of X G (B x hx)) (PySem.W.mg_none_of X G en)
    (isa_mk (ads := [("BadRules", b0), ("RefusingRing", b1), ("BadRow", b2), ("BadQuestion", b3), ("BadVersion", b4), ("BadText", b5), ("BadCommand", b6), ("TakenRow", b7), ("UnknownRow", b8), ("TooMany", b9), ("NotPlain", b10), ("NotSingle", b11), ("NotAlike", b12), ("NotSteady", b13), ("BadGuard", b14)]) (fun p m => (Er p m).2) (by
      simp only [List.forall_mem_cons, List.not_mem_nil, false_imp_iff, implies_true, and_true]
      exact ⟨PySem.W.mg_of X G n0, PySem.W.mg_of X G n1, PySem.W.mg_of X G n2, PySem.W.mg_of X G n3, PySem.W.mg_of X G n4, PySem.W.mg_of X G n5, PySem.W.mg_of X G n6, PySem.W.mg_of X G n7, PySem.W.mg_of X G n8, PySem.W.mg_of X G n9, PySem.W.mg_of X G n10, PySem.W.mg_of X G n11, PySem.W.mg_of X G n12, PySem.W.mg_of X G n13, PySem.W.mg_of X G n14⟩) (PySem.W.mg_of X G ns) rfl chk chv)
theorem allE {p : Str × Str → Prop} (a0 : p ("BadRules", "value")) (a1 : p ("RefusingRing", "ring")) (a2 : p ("BadRow", "value")) (a3 : p ("BadQuestion", "value")) (a4 : p ("BadVersion", "value")) (a5 : p ("BadText", "value")) (a6 : p ("BadCommand", "command")) (a7 : p ("TakenRow", "row")) (a8 : p ("UnknownRow", "row")) (a9 : p ("TooMany", "count")) (a10 : p ("NotPlain", "place")) (a11 : p ("NotSingle", "place")) (a12 : p ("NotAlike", "place")) (a13 : p ("NotSteady", "place")) (a14 : p ("BadGuard", "number")) : ∀ q ∈ ers, p q := by
  unfold ers
  simp only [List.forall_mem_cons, List.not_mem_nil, false_imp_iff, implies_true, and_true]
  exact ⟨a0, a1, a2, a3, a4, a5, a6, a7, a8, a9, a10, a11, a12, a13, a14⟩
theorem allD {p : Str × Fi → Prop} (a0 : p ("_law_well", f_law_well)) (a1 : p ("_law_draw", f_law_draw)) (a2 : p ("_law_choose", f_law_choose)) (a3 : p ("_law_values", f_law_values)) (a4 : p ("_law_kinds", f_law_kinds)) (a5 : p ("_law_of_one_kind", f_law_of_one_kind)) (a6 : p ("_law_made", f_law_made)) (a7 : p ("_law_named", f_law_named)) (a8 : p ("law", f_law)) : ∀ q ∈ tab, p q := by
  unfold tab
  simp only [List.forall_mem_cons, List.not_mem_nil, false_imp_iff, implies_true, and_true]
  exact ⟨a0, a1, a2, a3, a4, a5, a6, a7, a8⟩
theorem allB {p : Str → Prop} (a0 : p "range") (a1 : p "len") (a2 : p "int") (a3 : p "max") (a4 : p "min") (a5 : p "tuple") (a6 : p "list") (a7 : p "all") (a8 : p "any") (a9 : p "isinstance") (a10 : p "repr") : ∀ q ∈ ("range" : Str) :: builtins, p q := by
  unfold builtins
  simp only [List.forall_mem_cons, List.not_mem_nil, false_imp_iff, implies_true, and_true]
  exact ⟨a0, a1, a2, a3, a4, a5, a6, a7, a8, a9, a10⟩
end K4
open PySem PySem.W PyProof.Rows in
set_option maxRecDepth 100000 in
set_option maxHeartbeats 0 in
theorem PySem.Challenge.cw_sharerules_k04_errors_made_holds : PySem.Challenge.rw_sharerules_k04_errors_made.Holds := by
  w_on; o_law; k_head; (case hw => w_witness2)
  k_fill
  refine Y.walkZE (P := K4.P) (fi := K4.f_law) (kd := 8) (n := 63) rfl (by decide) rfl ⟨rfl, by decide, by decide⟩ (by decide +kernel) (fun w h Y => PySem.W.kIn_of Y) (fun w mg h KX G => ?T) rfl rfl rfl (fun ns h1 h2 => K4.ans ns h1 h2)
  case T =>
    refine' K4.tabE KX G ?D ?Er ?B ?en ?Gl ?n0 ?n1 ?n2 ?n3 ?n4 ?n5 ?n6 ?n7 ?n8 ?n9 ?n10 ?n11 ?n12 ?n13 ?n14 ?ns ?chk ?chv
    (case n0 => k_is); (case n1 => k_is); (case n2 => k_is); (case n3 => k_is); (case n4 => k_is); (case n5 => k_is); (case n6 => k_is); (case n7 => k_is); (case n8 => k_is); (case n9 => k_is); (case n10 => k_is); (case n11 => k_is); (case n12 => k_is); (case n13 => k_is); (case n14 => k_is); (case ns => k_is); (case en => k_is)
    case chk => kernel_rfl
    case chv => kernel_rfl
    case D =>
      refine K4.allD ?_ ?_ ?_ ?_ ?_ ?_ ?_ ?_ ?_
      · refine' Y.defAt_mk KX G ?a ?l ?c ?k K4.sc_f_law_well K4.bi_f_law_well; (case a => k_is); (case l => k_is); (case c => k_is); (case k => k_is)
      · refine' Y.defAt_mk KX G ?a ?l ?c ?k K4.sc_f_law_draw K4.bi_f_law_draw; (case a => k_is); (case l => k_is); (case c => k_is); (case k => k_is)
      · refine' Y.defAt_mk KX G ?a ?l ?c ?k K4.sc_f_law_choose K4.bi_f_law_choose; (case a => k_is); (case l => k_is); (case c => k_is); (case k => k_is)
      · refine' Y.defAt_mk KX G ?a ?l ?c ?k K4.sc_f_law_values K4.bi_f_law_values; (case a => k_is); (case l => k_is); (case c => k_is); (case k => k_is)
      · refine' Y.defAt_mk KX G ?a ?l ?c ?k K4.sc_f_law_kinds K4.bi_f_law_kinds; (case a => k_is); (case l => k_is); (case c => k_is); (case k => k_is)
      · refine' Y.defAt_mk KX G ?a ?l ?c ?k K4.sc_f_law_of_one_kind K4.bi_f_law_of_one_kind; (case a => k_is); (case l => k_is); (case c => k_is); (case k => k_is)
      · refine' Y.defAt_mk KX G ?a ?l ?c ?k K4.sc_f_law_made K4.bi_f_law_made; (case a => k_is); (case l => k_is); (case c => k_is); (case k => k_is)
      · refine' Y.defAt_mk KX G ?a ?l ?c ?k K4.sc_f_law_named K4.bi_f_law_named; (case a => k_is); (case l => k_is); (case c => k_is); (case k => k_is)
      · refine' Y.defAt_mk KX G ?a ?l ?c ?k K4.sc_f_law K4.bi_f_law; (case a => k_is); (case l => k_is); (case c => k_is); (case k => k_is)
    case Er =>
      refine K4.allE ?_ ?_ ?_ ?_ ?_ ?_ ?_ ?_ ?_ ?_ ?_ ?_ ?_ ?_ ?_
      · refine' Y.er_mk KX G ?a ?kp ?l K4.bE_value ?ini ?ity ?lf ?cdk ?lcc ?lcd ?hvs ?hfl ?hsw ?sup ?ope ?subV ?sa ?att ?ga ?gt ?ex ?hd ?ha ?hn ?ht ?hm ?top ?nx ?hbm ?hal
        (case a => k_is); (case kp => k_is); (case l => k_is); (case ini => k_is); (case ity => k_is); (case lf => k_is); (case cdk => k_is); (case lcc => k_is); (case lcd => k_is); (case sup => k_is); (case ope => k_is); (case subV => k_is); (case sa => k_is); (case att => k_is); (case ga => k_is); (case gt => k_is); (case ex => k_is); (case hd => k_is); (case ha => k_is); (case hn => k_is); (case ht => k_is); (case hm => k_is)
        (case hvs => rfl)
        (case hfl => decide)
        (case hsw => rfl)
        (case top => rfl)
        (case nx => decide)
        (case hbm => rfl)
        (case hal => kernel_rfl)
      · refine' Y.er_mk KX G ?a ?kp ?l K4.bE_ring ?ini ?ity ?lf ?cdk ?lcc ?lcd ?hvs ?hfl ?hsw ?sup ?ope ?subV ?sa ?att ?ga ?gt ?ex ?hd ?ha ?hn ?ht ?hm ?top ?nx ?hbm ?hal
        (case a => k_is); (case kp => k_is); (case l => k_is); (case ini => k_is); (case ity => k_is); (case lf => k_is); (case cdk => k_is); (case lcc => k_is); (case lcd => k_is); (case sup => k_is); (case ope => k_is); (case subV => k_is); (case sa => k_is); (case att => k_is); (case ga => k_is); (case gt => k_is); (case ex => k_is); (case hd => k_is); (case ha => k_is); (case hn => k_is); (case ht => k_is); (case hm => k_is)
        (case hvs => rfl)
        (case hfl => decide)
        (case hsw => rfl)
        (case top => rfl)
        (case nx => decide)
        (case hbm => rfl)
        (case hal => kernel_rfl)
      · refine' Y.er_mk KX G ?a ?kp ?l K4.bE_value ?ini ?ity ?lf ?cdk ?lcc ?lcd ?hvs ?hfl ?hsw ?sup ?ope ?subV ?sa ?att ?ga ?gt ?ex ?hd ?ha ?hn ?ht ?hm ?top ?nx ?hbm ?hal
        (case a => k_is); (case kp => k_is); (case l => k_is); (case ini => k_is); (case ity => k_is); (case lf => k_is); (case cdk => k_is); (case lcc => k_is); (case lcd => k_is); (case sup => k_is); (case ope => k_is); (case subV => k_is); (case sa => k_is); (case att => k_is); (case ga => k_is); (case gt => k_is); (case ex => k_is); (case hd => k_is); (case ha => k_is); (case hn => k_is); (case ht => k_is); (case hm => k_is)
        (case hvs => rfl)
        (case hfl => decide)
        (case hsw => rfl)
        (case top => rfl)
        (case nx => decide)
        (case hbm => rfl)
        (case hal => kernel_rfl)
      · refine' Y.er_mk KX G ?a ?kp ?l K4.bE_value ?ini ?ity ?lf ?cdk ?lcc ?lcd ?hvs ?hfl ?hsw ?sup ?ope ?subV ?sa ?att ?ga ?gt ?ex ?hd ?ha ?hn ?ht ?hm ?top ?nx ?hbm ?hal
        (case a => k_is); (case kp => k_is); (case l => k_is); (case ini => k_is); (case ity => k_is); (case lf => k_is); (case cdk => k_is); (case lcc => k_is); (case lcd => k_is); (case sup => k_is); (case ope => k_is); (case subV => k_is); (case sa => k_is); (case att => k_is); (case ga => k_is); (case gt => k_is); (case ex => k_is); (case hd => k_is); (case ha => k_is); (case hn => k_is); (case ht => k_is); (case hm => k_is)
        (case hvs => rfl)
        (case hfl => decide)
        (case hsw => rfl)
        (case top => rfl)
        (case nx => decide)
        (case hbm => rfl)
        (case hal => kernel_rfl)
      · refine' Y.er_mk KX G ?a ?kp ?l K4.bE_value ?ini ?ity ?lf ?cdk ?lcc ?lcd ?hvs ?hfl ?hsw ?sup ?ope ?subV ?sa ?att ?ga ?gt ?ex ?hd ?ha ?hn ?ht ?hm ?top ?nx ?hbm ?hal
        (case a => k_is); (case kp => k_is); (case l => k_is); (case ini => k_is); (case ity => k_is); (case lf => k_is); (case cdk => k_is); (case lcc => k_is); (case lcd => k_is); (case sup => k_is); (case ope => k_is); (case subV => k_is); (case sa => k_is); (case att => k_is); (case ga => k_is); (case gt => k_is); (case ex => k_is); (case hd => k_is); (case ha => k_is); (case hn => k_is); (case ht => k_is); (case hm => k_is)
        (case hvs => rfl)
        (case hfl => decide)
        (case hsw => rfl)
        (case top => rfl)
        (case nx => decide)
        (case hbm => rfl)
        (case hal => kernel_rfl)
      · refine' Y.er_mk KX G ?a ?kp ?l K4.bE_value ?ini ?ity ?lf ?cdk ?lcc ?lcd ?hvs ?hfl ?hsw ?sup ?ope ?subV ?sa ?att ?ga ?gt ?ex ?hd ?ha ?hn ?ht ?hm ?top ?nx ?hbm ?hal
        (case a => k_is); (case kp => k_is); (case l => k_is); (case ini => k_is); (case ity => k_is); (case lf => k_is); (case cdk => k_is); (case lcc => k_is); (case lcd => k_is); (case sup => k_is); (case ope => k_is); (case subV => k_is); (case sa => k_is); (case att => k_is); (case ga => k_is); (case gt => k_is); (case ex => k_is); (case hd => k_is); (case ha => k_is); (case hn => k_is); (case ht => k_is); (case hm => k_is)
        (case hvs => rfl)
        (case hfl => decide)
        (case hsw => rfl)
        (case top => rfl)
        (case nx => decide)
        (case hbm => rfl)
        (case hal => kernel_rfl)
      · refine' Y.er_mk KX G ?a ?kp ?l K4.bE_command ?ini ?ity ?lf ?cdk ?lcc ?lcd ?hvs ?hfl ?hsw ?sup ?ope ?subV ?sa ?att ?ga ?gt ?ex ?hd ?ha ?hn ?ht ?hm ?top ?nx ?hbm ?hal
        (case a => k_is); (case kp => k_is); (case l => k_is); (case ini => k_is); (case ity => k_is); (case lf => k_is); (case cdk => k_is); (case lcc => k_is); (case lcd => k_is); (case sup => k_is); (case ope => k_is); (case subV => k_is); (case sa => k_is); (case att => k_is); (case ga => k_is); (case gt => k_is); (case ex => k_is); (case hd => k_is); (case ha => k_is); (case hn => k_is); (case ht => k_is); (case hm => k_is)
        (case hvs => rfl)
        (case hfl => decide)
        (case hsw => rfl)
        (case top => rfl)
        (case nx => decide)
        (case hbm => rfl)
        (case hal => kernel_rfl)
      · refine' Y.er_mk KX G ?a ?kp ?l K4.bE_row ?ini ?ity ?lf ?cdk ?lcc ?lcd ?hvs ?hfl ?hsw ?sup ?ope ?subV ?sa ?att ?ga ?gt ?ex ?hd ?ha ?hn ?ht ?hm ?top ?nx ?hbm ?hal
        (case a => k_is); (case kp => k_is); (case l => k_is); (case ini => k_is); (case ity => k_is); (case lf => k_is); (case cdk => k_is); (case lcc => k_is); (case lcd => k_is); (case sup => k_is); (case ope => k_is); (case subV => k_is); (case sa => k_is); (case att => k_is); (case ga => k_is); (case gt => k_is); (case ex => k_is); (case hd => k_is); (case ha => k_is); (case hn => k_is); (case ht => k_is); (case hm => k_is)
        (case hvs => rfl)
        (case hfl => decide)
        (case hsw => rfl)
        (case top => rfl)
        (case nx => decide)
        (case hbm => rfl)
        (case hal => kernel_rfl)
      · refine' Y.er_mk KX G ?a ?kp ?l K4.bE_row ?ini ?ity ?lf ?cdk ?lcc ?lcd ?hvs ?hfl ?hsw ?sup ?ope ?subV ?sa ?att ?ga ?gt ?ex ?hd ?ha ?hn ?ht ?hm ?top ?nx ?hbm ?hal
        (case a => k_is); (case kp => k_is); (case l => k_is); (case ini => k_is); (case ity => k_is); (case lf => k_is); (case cdk => k_is); (case lcc => k_is); (case lcd => k_is); (case sup => k_is); (case ope => k_is); (case subV => k_is); (case sa => k_is); (case att => k_is); (case ga => k_is); (case gt => k_is); (case ex => k_is); (case hd => k_is); (case ha => k_is); (case hn => k_is); (case ht => k_is); (case hm => k_is)
        (case hvs => rfl)
        (case hfl => decide)
        (case hsw => rfl)
        (case top => rfl)
        (case nx => decide)
        (case hbm => rfl)
        (case hal => kernel_rfl)
      · refine' Y.er_mk KX G ?a ?kp ?l K4.bE_count ?ini ?ity ?lf ?cdk ?lcc ?lcd ?hvs ?hfl ?hsw ?sup ?ope ?subV ?sa ?att ?ga ?gt ?ex ?hd ?ha ?hn ?ht ?hm ?top ?nx ?hbm ?hal
        (case a => k_is); (case kp => k_is); (case l => k_is); (case ini => k_is); (case ity => k_is); (case lf => k_is); (case cdk => k_is); (case lcc => k_is); (case lcd => k_is); (case sup => k_is); (case ope => k_is); (case subV => k_is); (case sa => k_is); (case att => k_is); (case ga => k_is); (case gt => k_is); (case ex => k_is); (case hd => k_is); (case ha => k_is); (case hn => k_is); (case ht => k_is); (case hm => k_is)
        (case hvs => rfl)
        (case hfl => decide)
        (case hsw => rfl)
        (case top => rfl)
        (case nx => decide)
        (case hbm => rfl)
        (case hal => kernel_rfl)
      · refine' Y.er_mk KX G ?a ?kp ?l K4.bE_place ?ini ?ity ?lf ?cdk ?lcc ?lcd ?hvs ?hfl ?hsw ?sup ?ope ?subV ?sa ?att ?ga ?gt ?ex ?hd ?ha ?hn ?ht ?hm ?top ?nx ?hbm ?hal
        (case a => k_is); (case kp => k_is); (case l => k_is); (case ini => k_is); (case ity => k_is); (case lf => k_is); (case cdk => k_is); (case lcc => k_is); (case lcd => k_is); (case sup => k_is); (case ope => k_is); (case subV => k_is); (case sa => k_is); (case att => k_is); (case ga => k_is); (case gt => k_is); (case ex => k_is); (case hd => k_is); (case ha => k_is); (case hn => k_is); (case ht => k_is); (case hm => k_is)
        (case hvs => rfl)
        (case hfl => decide)
        (case hsw => rfl)
        (case top => rfl)
        (case nx => decide)
        (case hbm => rfl)
        (case hal => kernel_rfl)
      · refine' Y.er_mk KX G ?a ?kp ?l K4.bE_place ?ini ?ity ?lf ?cdk ?lcc ?lcd ?hvs ?hfl ?hsw ?sup ?ope ?subV ?sa ?att ?ga ?gt ?ex ?hd ?ha ?hn ?ht ?hm ?top ?nx ?hbm ?hal
        (case a => k_is); (case kp => k_is); (case l => k_is); (case ini => k_is); (case ity => k_is); (case lf => k_is); (case cdk => k_is); (case lcc => k_is); (case lcd => k_is); (case sup => k_is); (case ope => k_is); (case subV => k_is); (case sa => k_is); (case att => k_is); (case ga => k_is); (case gt => k_is); (case ex => k_is); (case hd => k_is); (case ha => k_is); (case hn => k_is); (case ht => k_is); (case hm => k_is)
        (case hvs => rfl)
        (case hfl => decide)
        (case hsw => rfl)
        (case top => rfl)
        (case nx => decide)
        (case hbm => rfl)
        (case hal => kernel_rfl)
      · refine' Y.er_mk KX G ?a ?kp ?l K4.bE_place ?ini ?ity ?lf ?cdk ?lcc ?lcd ?hvs ?hfl ?hsw ?sup ?ope ?subV ?sa ?att ?ga ?gt ?ex ?hd ?ha ?hn ?ht ?hm ?top ?nx ?hbm ?hal
        (case a => k_is); (case kp => k_is); (case l => k_is); (case ini => k_is); (case ity => k_is); (case lf => k_is); (case cdk => k_is); (case lcc => k_is); (case lcd => k_is); (case sup => k_is); (case ope => k_is); (case subV => k_is); (case sa => k_is); (case att => k_is); (case ga => k_is); (case gt => k_is); (case ex => k_is); (case hd => k_is); (case ha => k_is); (case hn => k_is); (case ht => k_is); (case hm => k_is)
        (case hvs => rfl)
        (case hfl => decide)
        (case hsw => rfl)
        (case top => rfl)
        (case nx => decide)
        (case hbm => rfl)
        (case hal => kernel_rfl)
      · refine' Y.er_mk KX G ?a ?kp ?l K4.bE_place ?ini ?ity ?lf ?cdk ?lcc ?lcd ?hvs ?hfl ?hsw ?sup ?ope ?subV ?sa ?att ?ga ?gt ?ex ?hd ?ha ?hn ?ht ?hm ?top ?nx ?hbm ?hal
        (case a => k_is); (case kp => k_is); (case l => k_is); (case ini => k_is); (case ity => k_is); (case lf => k_is); (case cdk => k_is); (case lcc => k_is); (case lcd => k_is); (case sup => k_is); (case ope => k_is); (case subV => k_is); (case sa => k_is); (case att => k_is); (case ga => k_is); (case gt => k_is); (case ex => k_is); (case hd => k_is); (case ha => k_is); (case hn => k_is); (case ht => k_is); (case hm => k_is)
        (case hvs => rfl)
        (case hfl => decide)
        (case hsw => rfl)
        (case top => rfl)
        (case nx => decide)
        (case hbm => rfl)
        (case hal => kernel_rfl)
      · refine' Y.er_mk KX G ?a ?kp ?l K4.bE_number ?ini ?ity ?lf ?cdk ?lcc ?lcd ?hvs ?hfl ?hsw ?sup ?ope ?subV ?sa ?att ?ga ?gt ?ex ?hd ?ha ?hn ?ht ?hm ?top ?nx ?hbm ?hal
        (case a => k_is); (case kp => k_is); (case l => k_is); (case ini => k_is); (case ity => k_is); (case lf => k_is); (case cdk => k_is); (case lcc => k_is); (case lcd => k_is); (case sup => k_is); (case ope => k_is); (case subV => k_is); (case sa => k_is); (case att => k_is); (case ga => k_is); (case gt => k_is); (case ex => k_is); (case hd => k_is); (case ha => k_is); (case hn => k_is); (case ht => k_is); (case hm => k_is)
        (case hvs => rfl)
        (case hfl => decide)
        (case hsw => rfl)
        (case top => rfl)
        (case nx => decide)
        (case hbm => rfl)
        (case hal => kernel_rfl)
    case B =>
      refine K4.allB ?_ ?_ ?_ ?_ ?_ ?_ ?_ ?_ ?_ ?_ ?_ <;> k_is
    case Gl =>
      refine' K4.glo_ok KX G ?yg0 ?yg1 ?yg2 ?yg3 ?yg4 ?yg5 ?yg6 ?yg7 ?yg8 ?yg9 ?yg10 ?yg11 ?yg12 ?yg13 ?yg14 ?yg15 ?yg16
      (case yg0 => k_is)
      (case yg1 => k_is)
      (case yg2 => k_is)
      (case yg3 => k_is)
      (case yg4 => k_is)
      (case yg5 => k_is)
      (case yg6 => k_is)
      (case yg7 => k_is)
      (case yg8 => k_is)
      (case yg9 => k_is)
      (case yg10 => k_is)
      (case yg11 => k_is)
      (case yg12 => k_is)
      (case yg13 => k_is)
      (case yg14 => k_is)
      (case yg15 => k_is)
      (case yg16 => k_is)

