import PyProof.Rows.All
import HandS.ForMost
import HandS.TupAny
import HandS.DeepEq
import HandS.RaiseMore
import HandS.IsInst
import HandS.More
import HandS.Dict
import HandS.SortKw
import KE.DataMinMax
import HandS.FStr
import HandS.Flow
import PySem.Challenge.RW_flowform_k02_places_and_depths
import HandS.Codes
set_option Elab.async false
set_option linter.all false
set_option maxRecDepth 100000
set_option maxHeartbeats 4000000
/-! U1: a small language of programs over plain data, and what its programs yield. -/
namespace U
open PySem

/-- plain data; loc: a list that is shared, by its place in the store; fl: a list that nothing else holds; rol: a list that is only read -/
inductive PV where
  | non | bl (b : Bool) | int (i : Int) | str (s : Str) | tup (xs : List PV) | loc (n : Nat) | fl (xs : List PV) | rol (xs : List PV)
  deriving Inhabited
/-- what stands at a place of the store: a list -/
inductive Cell where
  | lst (xs : List PV)
  deriving Inhabited
abbrev Store := List Cell
abbrev En := List (Option PV)

inductive Res (α : Type) where
  | ok (a : α) (st : Store)
  | bad
def Res.bind {α β : Type} : Res α → (α → Store → Res β) → Res β
  | .ok a st, f => f a st
  | .bad, _ => .bad
def opt {α : Type} (o : Option α) (st : Store) : Res α := match o with
  | some a => .ok a st
  | none => .bad

inductive BOp where | add | sub | mul | fdiv | mod | pow
inductive COp where | eq | ne | lt | le | gt | ge | isN | notN | inn | nin
inductive BF where | len | int | abs | max | min | str | repr | reprD | list | tuple | sum | all | any
inductive MF where | append | split | partition | join
inductive Ty where | int | bool | str | tuple | list
inductive MG where
  | nm (i : Nat)
  | tp (is : List Nat)

mutual
inductive ME where
  | var (i : Nat)
  | con (v : PV)
  | glb (x : Str) (v : PV)
  | bin (o : BOp) (a b : ME)
  | neg (a : ME)
  | cmp (o : COp) (a b : ME)
  | cmp2 (o o' : COp) (a b c : ME)
  | not (a : ME)
  | and (a b : ME)
  | or (a b : ME)
  | ite (t a b : ME)
  | fn (f : Nat) (as : MEs)
  | bi (f : BF) (as : MEs)
  | mt (m : MF) (o : ME) (as : MEs)
  | tup (as : MEs)
  | lst (as : MEs)
  | ix (a i : ME)
  | sl (a lo hi : ME)
  | lc (elt : ME) (g : MG) (src : ME) (has : Bool) (c : ME)
  | rng (a b : ME)
  | isi (t : Ty) (a : ME)
  | fmt (a : ME)
  | mxd (a : ME) (d : Int)
  | fstr (as : MEs)
  | dix (x : Str) (kvs : List (Str × PV)) (a : ME)
  | gget (x : Str) (kvs : List (Str × PV)) (a b : ME)
inductive MEs where
  | nil
  | cons (a : ME) (as : MEs)
end
mutual
inductive MS where
  | set (i : Nat) (e : ME) (own : Bool)
  | setT (is : List Nat) (e : ME)
  | par (i j : Nat) (as : MEs)
  | setIx (a i e : ME)
  | aug (i : Nat) (o : BOp) (e : ME)
  | ex (e : ME)
  | app (i : Nat) (e : ME)
  | ext (i : Nat) (e : ME)
  | ret (e : ME)
  | ret0
  | ite (t : ME) (a b : MSs)
  | whl (t : ME) (b : MSs)
  | for_ (g : MG) (src : ME) (b : MSs)
  | brk | cnt | pass
inductive MSs where
  | nil
  | cons (s : MS) (ss : MSs)
end

/-! ### values -/
def PV.isFl : PV → Bool
  | .fl _ => true
  | _ => false
/-- the items of a list or tuple -/
def seqOf (v : PV) (st : Store) : Option (List PV) := match v with
  | .tup xs => some xs
  | .fl xs => some xs
  | .rol xs => some xs
  | .loc n => match st[n]? with
    | some (.lst xs) => some xs
    | none => none
  | _ => none
/-- .. of a list that is read -/
def rdOf (v : PV) (st : Store) : Option (List PV) := match v with
  | .tup _ => none
  | v => seqOf v st
/-- .. of a list -/
def listOf (v : PV) (st : Store) : Option (List PV) := match v with
  | .fl xs => some xs
  | .loc n => match st[n]? with
    | some (.lst xs) => some xs
    | none => none
  | _ => none
def truth (v : PV) (st : Store) : Option Bool := match v with
  | .non => some false
  | .bl b => some b
  | .int i => some (i != 0)
  | .str s => if s.length ≤ sizeLine then some ((s.length : Int) != 0) else none
  | v => (seqOf v st).map fun xs => !xs.isEmpty
def ckM (i j : Int) : Bool := (decide (-(2 ^ 64) < i) && decide (i < 2 ^ 64)) || (decide (-(2 ^ 64) < j) && decide (j < 2 ^ 64))
def binV (o : BOp) (a b : PV) (st : Store) : Option PV := match o, a, b with
  | .add, .int i, .int j => some (.int (i + j))
  | .add, .str x, .str y => if x.length + y.length ≤ sizeLine then some (.str (x ++ y)) else none
  | .add, .tup xs, .tup ys => if xs.length + ys.length ≤ sizeLine then some (.tup (xs ++ ys)) else none
  | .add, a, b => match listOf a st, listOf b st with
    | some xs, some ys => if xs.length + ys.length ≤ sizeLine then some (.fl (xs ++ ys)) else none
    | _, _ => none
  | .sub, .int i, .int j => some (.int (i - j))
  | .mul, .int i, .int j => if ckM i j then some (.int (i * j)) else none
  | .mul, .str x, .int j => if -1000000 ≤ j ∧ j ≤ 1000000 ∧ x.length * j.toNat ≤ 1000000 then some (.str (⟨((List.replicate j.toNat x.cps.toList).flatten).toArray⟩)) else none
  | .fdiv, .int i, .int j => if 0 < j ∧ j < 1073741824 then some (.int (i / j)) else none
  | .mod, .int i, .int j => if 0 < j then some (.int (i % j)) else none
  | .pow, .int i, .int j => if 0 ≤ j ∧ j ≤ 1000000 ∧ i.natAbs < 2 ^ 64 then some (.int (i ^ j.toNat)) else none
  | _, _, _ => none
/-- a flat value -/
def flV : PV → Option L2.V
  | .non => some .non
  | .bl b => some (.bl b)
  | .int i => some (.int i)
  | .str s => some (.str s)
  | _ => none
def flL : List PV → Option (List L2.V)
  | [] => some []
  | x :: r => match flV x, flL r with
    | some v, some vs => some (v :: vs)
    | _, _ => none
/-- == of two scalars -/
def eqS (a b : PV) : Option Bool := match flV a, flV b with
  | some x, some y => if L2.scal x y = true then some (decide (x = y)) else none
  | _, _ => none
/-- a flat thing among flat things -/
def memF (a : PV) (ys : List PV) : Option Bool := match flV a, flL ys with
  | some x, some vs => some (L2.inV x vs)
  | _, _ => none
def inV (a b : PV) (st : Store) : Option Bool := match a, b with
  | .str x, .str z => match x.cps.toList with
    | [c] => some (decide (c ∈ z.cps.toList))
    | _ => none
  | a, b => match seqOf b st with
    | some ys => memF a ys
    | none => none
def cmpV (o : COp) (a b : PV) (st : Store) : Option Bool := match o with
  | .eq => eqS a b
  | .ne => (eqS a b).map (!·)
  | .lt => match a, b with
    | .int i, .int j => some (decide (i < j))
    | _, _ => none
  | .le => match a, b with
    | .int i, .int j => some (decide (i ≤ j))
    | _, _ => none
  | .gt => match a, b with
    | .int i, .int j => some (decide (j < i))
    | _, _ => none
  | .ge => match a, b with
    | .int i, .int j => some (decide (j ≤ i))
    | _, _ => none
  | .isN => match b with
    | .non => match a with
      | .non => some true
      | .fl _ => none
      | _ => some false
    | _ => none
  | .notN => match b with
    | .non => match a with
      | .non => some false
      | .fl _ => none
      | _ => some true
    | _ => none
  | .inn => inV a b st
  | .nin => (inV a b st).map (!·)
def ixV (a i : PV) (st : Store) : Option PV := match i with
  | .int k => match a with
    | .str z => if z.length ≤ sizeLine then (L2.atI z.cps.toList k).map fun c => .str ⟨#[c]⟩ else none
    | a => match seqOf a st with
      | some xs => L2.atI xs k
      | none => none
  | _ => none
/-- a slice's bound; absent: none is written -/
def bound (absent : Bool) (v : PV) : Option (Option Int) := match absent, v with
  | true, .non => some none
  | false, .int i => some (some i)
  | _, _ => none
def cutL (xs : List PV) (lo hi : Option Int) : List PV := (xs.drop (HT.sIx xs.length 0 lo)).take (HT.sIx xs.length xs.length hi - HT.sIx xs.length 0 lo)
def slV (a : PV) (lo hi : Option Int) (st : Store) : Option PV := match a with
  | .str z => if z.length ≤ sizeLine then some (.str (L2.cutS z lo hi)) else none
  | .tup xs => some (.tup (cutL xs lo hi))
  | a => match seqOf a st with
    | some xs => some (.fl (cutL xs lo hi))
    | none => none
def bools : List PV → Option (List Bool)
  | [] => some []
  | .bl b :: r => (bools r).map (b :: ·)
  | _ :: _ => none
def intsL : List PV → Option (List Int)
  | [] => some []
  | .int b :: r => (intsL r).map (b :: ·)
  | _ :: _ => none
def strsL : List PV → Option (List Str)
  | [] => some []
  | .str b :: r => (strsL r).map (b :: ·)
  | _ :: _ => none
mutual
/-- a value as the library's data -/
def pyOf : PV → Option PyData
  | .non => some .none
  | .bl b => some (.bool b)
  | .int i => some (.int i)
  | .str s => some (.str s)
  | .tup xs => (pyOfL xs).map .tuple
  | _ => none
def pyOfL : List PV → Option (List PyData)
  | [] => some []
  | x :: xs => match pyOf x, pyOfL xs with
    | some d, some ds => some (d :: ds)
    | _, _ => none
end
/-- the text of data -/
def shownV (v : PV) : Option PV := match pyOf v with
  | some d => if d.showable = true ∧ d.hasDict = false ∧ d.depth ≤ 100 ∧ d.shown.length ≤ sizeLine then some (.str d.shown) else none
  | none => none
def biV (f : BF) (as : List PV) (st : Store) : Option PV := match f, as with
  | .len, [.str z] => if z.length ≤ sizeLine then some (.int z.length) else none
  | .len, [a] => (seqOf a st).map fun xs => .int xs.length
  | .int, [.int i] => some (.int i)
  | .int, [.bl k] => some (.int (if k then 1 else 0))
  | .abs, [.int i] => some (.int (if i < 0 then -i else i))
  | .max, [.int i, .int j] => some (.int (if j > i then j else i))
  | .min, [.int i, .int j] => some (.int (if j < i then j else i))
  | .str, [.int i] => if i.natAbs < 1000000 then some (.str (toString i)) else none
  | .str, [.str z] => some (.str z)
  | .max, [a] => match rdOf a st with
    | some xs => match intsL xs with
      | some (n :: r) => some (.int (r.foldl max n))
      | _ => none
    | none => none
  | .reprD, [.tup xs] => shownV (.tup xs)
  | .reprD, [.int i] => if i.natAbs < 1000000 then some (.str (toString i)) else none
  | .repr, [.bl b] => some (.str (if b then Str.ofString "True" else Str.ofString "False"))
  | .repr, [.str z] => if (reprText z).length ≤ sizeLine then some (.str (reprText z)) else none
  | .list, [a] => (seqOf a st).map fun xs => .fl xs
  | .tuple, [.tup xs] => some (.tup xs)
  | .tuple, [a] => (seqOf a st).map fun xs => .tup xs
  | .sum, [a] => match rdOf a st with
    | some xs => (intsL xs).map fun ns => .int ns.sum
    | none => none
  | .all, [a] => match rdOf a st with
    | some xs => (bools xs).map fun bs => .bl (bs.all id)
    | none => none
  | .any, [a] => match rdOf a st with
    | some xs => (bools xs).map fun bs => .bl (bs.any id)
    | none => none
  | _, _ => none
def setAt (st : Store) (n : Nat) (xs : List PV) : Store := st.set n (.lst xs)
/-- max of a list of ints, d where it is empty -/
def maxdV (d : Int) (x : PV) (st : Store) : Option PV := match rdOf x st with
  | some xs => match intsL xs with
    | some [] => some (.int d)
    | some (n :: r) => some (.int (r.foldl max n))
    | none => none
  | none => none
/-- {x} -/
def fmtV (x : PV) : Option PV := match x with
  | .str z => if z.length ≤ sizeLine then some (.str z) else none
  | .int i => if i.natAbs < 1000000 then some (.str (toString i)) else none
  | _ => none
/-- texts one behind the other -/
def glueV : List PV → Str → Option Str
  | [], acc => some acc
  | .str y :: r, acc => if (acc ++ y).length ≤ sizeLine then glueV r (acc ++ y) else none
  | _ :: _, _ => none
/-- the value at a text among a dict's -/
def dixV (kvs : List (Str × PV)) (x : PV) : Option PV := match x with
  | .str z => kvs.lookup z
  | _ => none
/-- the value at a text among a dict's, or another one -/
def getV (kvs : List (Str × PV)) (x y : PV) : Option PV := match x with
  | .str z => if y.isFl then none else some ((kvs.lookup z).getD y)
  | _ => none
/-- isinstance -/
def isiV (t : Ty) (v : PV) : Bool := match t, v with
  | .int, .int _ => true
  | .int, .bl _ => true
  | .bool, .bl _ => true
  | .str, .str _ => true
  | .tuple, .tup _ => true
  | .list, .loc _ => true
  | .list, .fl _ => true
  | .list, .rol _ => true
  | _, _ => false
/-- a method of a list or text: the answer, the store -/
def mtV (m : MF) (o : PV) (as : List PV) (st : Store) : Res PV := match m, o, as with
  | .append, .loc n, [x] => match st[n]? with
    | some (.lst xs) => if xs.length < sizeLine ∧ x.isFl = false then .ok .non (setAt st n (xs ++ [x])) else .bad
    | _ => .bad
  | .split, .str a, [.str b] => if b.length = 0 ∨ sizeLine < a.length + 2 then .bad else .ok (.fl ((Txt.split a b).map .str)) st
  | .partition, .str a, [.str b] => if b.length = 0 ∨ sizeLine < a.length then .bad else .ok (.tup [.str (Txt.partition a b).1, .str (Txt.partition a b).2.1, .str (Txt.partition a b).2.2]) st
  | .join, .str a, [x] => match seqOf x st with
    | some xs => match strsL xs with
      | some ys => if (ys.map (·.length)).sum + a.length * ys.length ≤ 16000000 then .ok (.str (Txt.join a ys)) st else .bad
      | none => .bad
    | none => .bad
  | _, _, _ => .bad
/-- a list that comes to be shared -/
def esc (v : PV) (st : Store) : PV × Store := match v with
  | .fl xs => (.loc st.length, st ++ [.lst xs])
  | v => (v, st)

/-! ### what a walk goes over -/
inductive Src where
  | items (xs : List PV)
  | live (n : Nat) (many : Nat)
def Src.many : Src → Nat
  | .items xs => xs.length
  | .live _ m => m
/-- the j-th item; the source must be as long as it was -/
def Src.get (s : Src) (j : Nat) (st : Store) : Option PV := match s with
  | .items xs => xs[j]?
  | .live n m => match seqOf (.loc n) st with
    | some xs => if xs.length = m then xs[j]? else none
    | none => none
def Src.fits (s : Src) (st : Store) : Bool := match s with
  | .items _ => true
  | .live n m => match seqOf (.loc n) st with
    | some xs => xs.length == m
    | none => false
def srcV (v : PV) (st : Store) : Option Src := match v with
  | .str s => some (.items (s.cps.toList.map fun c => .str ⟨#[c]⟩))
  | .tup xs => some (.items xs)
  | .fl xs => some (.items xs)
  | .rol xs => some (.items xs)
  | .loc n => (seqOf (.loc n) st).map fun xs => .live n xs.length
  | _ => none
def setEach : List Nat → List PV → En → Option En
  | [], [], env => some env
  | i :: is, x :: xs, env => setEach is xs (env.set i (some x))
  | _, _, _ => none
def MG.put (g : MG) (x : PV) (env : En) : Option En := match g with
  | .nm i => some (env.set i (some x))
  | .tp is => match x with
    | .tup xs => setEach is xs env
    | _ => none
def MG.slots : MG → List Nat
  | .nm i => [i]
  | .tp is => is
def wipe (env : En) : List Nat → En
  | [] => env
  | v :: vs => (wipe env vs).set v none

/-! ### expressions -/
section
variable (call : Nat → List PV → Store → Res PV)
/-- the comprehension's turns -/
def lcLoop (test : En → Store → Res Bool) (elt : En → Store → Res PV) (put : PV → En → Option En) (env : En) (src : Src) : Nat → Nat → List PV → Store → Res PV
  | _, 0, acc, st => if src.fits st then .ok (.fl acc) st else .bad
  | j, m + 1, acc, st => match src.get j st with
    | none => .bad
    | some x => match put x env with
      | none => .bad
      | some env' => (test env' st).bind fun b st1 =>
        if b then (elt env' st1).bind fun y st2 => if acc.length < sizeLine then lcLoop test elt put env src (j + 1) m (acc ++ [(esc y st2).1]) (esc y st2).2 else .bad
        else lcLoop test elt put env src (j + 1) m acc st1
def ME.absent : ME → Bool
  | .con .non => true
  | _ => false
/-- for a value, for an immediate use that keeps no list, for its truth -/
inductive Md where | val | use | test
def done (m : Md) (v : PV) (st : Store) : Res PV := match m with
  | .test => (opt (truth v st) st).bind fun k st1 => .ok (.bl k) st1
  | _ => .ok v st
def isBl : PV → Option Bool
  | .bl k => some k
  | _ => none
def rngV (x y : PV) (st : Store) : Res Src := match x, y with
  | .int i, .int j => if (-(2 ^ 62) ≤ i ∧ i < 2 ^ 62 ∧ -(2 ^ 62) ≤ j ∧ j < 2 ^ 62) then .ok (.items ((List.range (j - i).toNat).map fun (k : Nat) => .int (i + k))) st else .bad
  | _, _ => .bad
def varV (m : Md) (o : Option (Option PV)) (st : Store) : Res PV := match o with
  | some (some v) => match m with
    | .val => match v with
      | .fl _ => .bad
      | v => .ok v st
    | m => done m v st
  | _ => .bad
mutual
/-- the value; a list that comes is fresh, but of a name that is used -/
def ev : ME → Md → En → Store → Res PV
  | .var i, m, env, st => varV m env[i]? st
  | .con v, m, _, st => done m v st
  | .glb _ v, m, _, st => done m v st
  | .bin o a b, m, env, st => (ev a .use env st).bind fun x st1 => (ev b .use env st1).bind fun y st2 => (opt (binV o x y st2) st2).bind fun v st3 => done m v st3
  | .neg a, m, env, st => (ev a .val env st).bind fun x st1 => match x with
    | .int i => done m (.int (-i)) st1
    | _ => .bad
  | .cmp o a b, _, env, st => (ev a .use env st).bind fun x st1 => (ev b .use env st1).bind fun y st2 => (opt (cmpV o x y st2) st2).bind fun k st3 => .ok (.bl k) st3
  | .cmp2 o o' a b c, _, env, st => (ev a .use env st).bind fun x st1 => (ev b .use env st1).bind fun y st2 => (opt (cmpV o x y st2) st2).bind fun k st3 =>
      if k then (ev c .use env st3).bind fun z st4 => (opt (cmpV o' y z st4) st4).bind fun k' st5 => .ok (.bl k') st5 else .ok (.bl false) st3
  | .not a, m, env, st => match m with
    | .test => (ev a .test env st).bind fun x st1 => (opt (isBl x) st1).bind fun k st2 => .ok (.bl (!k)) st2
    | _ => (ev a .use env st).bind fun x st1 => (opt (truth x st1) st1).bind fun k st2 => .ok (.bl (!k)) st2
  | .and a b, m, env, st => (ev a m env st).bind fun x st1 => (opt (isBl x) st1).bind fun k st2 => if k then ev b m env st2 else .ok (.bl false) st2
  | .or a b, m, env, st => (ev a m env st).bind fun x st1 => (opt (isBl x) st1).bind fun k st2 => if k then .ok (.bl true) st2 else ev b m env st2
  | .ite _ _ _, .test, _, _ => .bad
  | .ite t a b, m, env, st => (ev t .test env st).bind fun x st1 => (opt (isBl x) st1).bind fun k st2 => if k then ev a m env st2 else ev b m env st2
  | .fn f as, m, env, st => (evA as env st).bind fun xs st1 => (call f xs st1).bind fun v st2 => done m v st2
  | .bi f as, m, env, st => (evCs as env st).bind fun xs st1 => (opt (biV f xs st1) st1).bind fun v st2 => done m v st2
  | .mt f o as, m, env, st => (ev o .use env st).bind fun x st1 => (evCs as env st1).bind fun xs st2 => (mtV f x xs st2).bind fun v st3 => done m v st3
  | .tup as, m, env, st => (evA as env st).bind fun xs st1 => if xs.length ≤ sizeLine then done m (.tup xs) st1 else .bad
  | .lst as, m, env, st => (evA as env st).bind fun xs st1 => if xs.length ≤ sizeLine then done m (.fl xs) st1 else .bad
  | .ix a i, m, env, st => (ev a .use env st).bind fun x st1 => (ev i .val env st1).bind fun y st2 => (opt (ixV x y st2) st2).bind fun v st3 => done m v st3
  | .sl a lo hi, m, env, st => (ev a .use env st).bind fun x st1 => (ev lo .val env st1).bind fun l st2 => (ev hi .val env st2).bind fun h st3 =>
      (opt (bound lo.absent l) st3).bind fun l' st4 => (opt (bound hi.absent h) st4).bind fun h' st5 => (opt (slV x l' h' st5) st5).bind fun v st6 => done m v st6
  | .lc elt g (.rng a b) has c, m, env, st => (ev a .val env st).bind fun x st1 => (ev b .val env st1).bind fun y st2 => (rngV x y st2).bind fun s st3 =>
      (lcLoop (fun e s => if has then (ev c .test e s).bind fun x s1 => opt (isBl x) s1 else .ok true s) (ev elt .val) g.put (wipe env g.slots) s 0 s.many [] st3).bind fun v st4 => done m v st4
  | .lc elt g src has c, m, env, st => (ev src .use env st).bind fun x st1 => (opt (srcV x st1) st1).bind fun s st3 =>
      (lcLoop (fun e s => if has then (ev c .test e s).bind fun x s1 => opt (isBl x) s1 else .ok true s) (ev elt .val) g.put (wipe env g.slots) s 0 s.many [] st3).bind fun v st4 => done m v st4
  | .rng _ _, _, _, _ => .bad
  | .isi t a, m, env, st => (ev a .use env st).bind fun x st1 => done m (.bl (isiV t x)) st1
  | .mxd a d, m, env, st => (ev a .use env st).bind fun x st1 => (opt (maxdV d x st1) st1).bind fun v st2 => done m v st2
  | .fmt a, m, env, st => (ev a .use env st).bind fun x st1 => (opt (fmtV x) st1).bind fun v st2 => done m v st2
  | .fstr as, m, env, st => (evCs as env st).bind fun xs st1 => (opt (glueV xs Str.empty) st1).bind fun z st2 => done m (.str z) st2
  | .dix _ kvs a, m, env, st => (ev a .val env st).bind fun x st1 => (opt (dixV kvs x) st1).bind fun v st2 => done m v st2
  | .gget _ kvs a b, m, env, st => (ev a .use env st).bind fun x st1 => (ev b .val env st1).bind fun y st2 => (opt (getV kvs x y) st2).bind fun v st3 => done m v st3
/-- arguments, items of a display: a list that comes is shared from then on -/
def evA : MEs → En → Store → Res (List PV)
  | .nil, _, st => .ok [] st
  | .cons a as, env, st => (ev a .val env st).bind fun x st1 => (evA as env (esc x st1).2).bind fun xs st2 => .ok ((esc x st1).1 :: xs) st2
/-- arguments of a built-in, which keeps none of them -/
def evCs : MEs → En → Store → Res (List PV)
  | .nil, _, st => .ok [] st
  | .cons a as, env, st => (ev a .use env st).bind fun x st1 => (evCs as env st1).bind fun xs st2 => .ok (x :: xs) st2
end
/-- what a for goes over -/
def evSrc : ME → En → Store → Res Src
  | .rng a b, env, st => (ev call a .val env st).bind fun x st1 => (ev call b .val env st1).bind fun y st2 => rngV x y st2
  | e, env, st => (ev call e .val env st).bind fun v st1 => opt (srcV v st1) st1

/-! ### statements -/
inductive SR where
  | nx (env : En) (st : Store)
  | rt (v : PV) (st : Store)
  | bk (env : En) (st : Store)
  | ct (env : En) (st : Store)
  | bad
def SR.then : SR → (En → Store → SR) → SR
  | .nx env st, f => f env st
  | r, _ => r
def Res.to {α : Type} : Res α → (α → Store → SR) → SR
  | .ok a st, f => f a st
  | .bad, _ => .bad
/-- a loop's turns -/
def forLoop (put : PV → En → Option En) (body : En → Store → SR) (src : Src) : Nat → Nat → En → Store → SR
  | _, 0, env, st => if src.fits st then .nx env st else .bad
  | j, m + 1, env, st => match src.get j st with
    | none => .bad
    | some x => match put x env with
      | none => .bad
      | some env' => match body env' st with
        | .nx e s => forLoop put body src (j + 1) m e s
        | .ct e s => forLoop put body src (j + 1) m e s
        | .bk e s => .nx e s
        | r => r
/-- at most so many turns of a while -/
def whlLoop (test : En → Store → Res PV) (body : En → Store → SR) : Nat → En → Store → SR
  | 0, _, _ => .bad
  | n + 1, env, st => (test env st).to fun x st1 => match isBl x with
    | some true => match body env st1 with
      | .nx e s => whlLoop test body n e s
      | .ct e s => whlLoop test body n e s
      | .bk e s => .nx e s
      | r => r
    | some false => .nx env st1
    | none => .bad
/-- a name that holds a list of its own -/
def ME.held : ME → En → Option (Nat × List PV)
  | .var i, env => match env[i]? with
    | some (some (.fl xs)) => some (i, xs)
    | _ => none
  | _, _ => none
variable (turns : Nat)
mutual
def evS : MS → En → Store → SR
  | .set i e own, env, st => (ev call e .val env st).to fun x st1 => if own then .nx (env.set i (some x)) st1 else .nx (env.set i (some (esc x st1).1)) (esc x st1).2
  | .setT is e, env, st => (ev call e .val env st).to fun x st1 => match x with
    | .tup xs => match setEach is xs env with
      | some env' => .nx env' st1
      | none => .bad
    | _ => .bad
  | .par i j as, env, st => (evA call as env st).to fun xs st1 => match xs with
    | [v, w] => .nx ((env.set i (some v)).set j (some w)) st1
    | _ => .bad
  | .setIx a i e, env, st => (ev call e .val env st).to fun v st1 => (ev call a .val env st1).to fun o st2 => (ev call i .val env st2).to fun k st3 =>
      match o, k with
      | .loc n, .int k => match st3[n]? with
        | some (.lst xs) => match L2.ixN xs.length k with
          | some j => if v.isFl then .bad else .nx env (setAt st3 n (xs.set j v))
          | none => .bad
        | _ => .bad
      | _, _ => .bad
  | .aug i o e, env, st => match env[i]? with
    | some (some (.int x)) => (ev call e .val env st).to fun y st1 => match y with
      | .int z => match o with
        | .add => .nx (env.set i (some (.int (x + z)))) st1
        | .sub => .nx (env.set i (some (.int (x - z)))) st1
        | _ => .bad
      | _ => .bad
    | _ => .bad
  | .ex e, env, st => (ev call e .val env st).to fun _ st1 => .nx env st1
  | .app i e, env, st => (ev call e .val env st).to fun x st1 => match env[i]? with
    | some (some (.fl xs)) => if xs.length < sizeLine then .nx (env.set i (some (.fl (xs ++ [(esc x st1).1])))) (esc x st1).2 else .bad
    | _ => .bad
  | .ext i e, env, st => (ev call e .val env st).to fun x st1 => match env[i]?, x with
    | some (some (.fl xs)), .fl ys => if xs.length + ys.length ≤ sizeLine then .nx (env.set i (some (.fl (xs ++ ys)))) st1 else .bad
    | _, _ => .bad
  | .ret e, env, st => match e.held env with
    | some (_, xs) => .rt (.fl xs) st
    | none => (ev call e .val env st).to fun x st1 => .rt x st1
  | .ret0, _, st => .rt .non st
  | .ite t a b, env, st => (ev call t .test env st).to fun x st1 => match isBl x with
    | some true => evSs a env st1
    | some false => evSs b env st1
    | none => .bad
  | .whl t b, env, st => whlLoop (ev call t .test) (evSs b) turns env st
  | .for_ g src b, env, st => (evSrc call src env st).to fun s st1 => forLoop g.put (evSs b) s 0 s.many env st1
  | .brk, env, st => .bk env st
  | .cnt, env, st => .ct env st
  | .pass, env, st => .nx env st
def evSs : MSs → En → Store → SR
  | .nil, env, st => .nx env st
  | .cons s ss, env, st => (evS s env st).then fun env1 st1 => evSs ss env1 st1
end
end

mutual
def PV.same : PV → PV → Bool
  | .non, .non => true
  | .bl a, .bl b => a == b
  | .int a, .int b => decide (a = b)
  | .str a, .str b => decide (a = b)
  | .tup a, .tup b => PV.sameL a b
  | _, _ => false
def PV.sameL : List PV → List PV → Bool
  | [], [] => true
  | x :: xs, y :: ys => PV.same x y && PV.sameL xs ys
  | _, _ => false
end
def sameD : List (Str × PV) → List (Str × PV) → Bool
  | [], [] => true
  | (x, v) :: r, (y, w) :: q => decide (x = y) && PV.same v w && sameD r q
  | _, _ => false
/-! ### a program -/
mutual
/-- no list in it stands at a place of the store from n on -/
def PV.low (n : Nat) : PV → Bool
  | .tup xs => PV.lowL n xs
  | .fl xs => PV.lowL n xs
  | .rol xs => PV.lowL n xs
  | .loc k => decide (k < n)
  | _ => true
def PV.lowL (n : Nat) : List PV → Bool
  | [] => true
  | x :: xs => PV.low n x && PV.lowL n xs
end
def Cell.low (n : Nat) : Cell → Bool
  | .lst xs => PV.lowL n xs
structure Def where
  np : Nat
  nl : Nat
  body : MSs
/-- behind a call: what nothing can reach any more is forgotten -/
def leave (n : Nat) (v : PV) (st : Store) : Res PV :=
  if st.length ≤ n then .ok v st
  else if PV.low n v && (st.take n).all (Cell.low n) then .ok v (st.take n) else .ok v st
def evCall (turns : Nat) (D : Nat → Option Def) : Nat → Nat → List PV → Store → Res PV
  | 0, _, _, _ => .bad
  | k + 1, f, args, st => match D f with
    | none => .bad
    | some d => if args.length = d.np ∧ (args.any PV.isFl) = false then
        match evSs (evCall turns D k) turns d.body (args.map some ++ List.replicate (d.nl - d.np) none) st with
        | .nx _ s => leave st.length .non s
        | .rt v s => leave st.length v s
        | _ => .bad
      else .bad
end U

set_option maxHeartbeats 4000000
/-! U2: how the store's data stand in the heap. -/
namespace U
open PySem PySem.Spec PyProof.Rows L2

section
variable (K : PySem.W.Frag)
/-- what is only read: the script, a written list -/
def Kl (H : Hp) (a : Addr) (vs : List V) : Prop :=
  (∃ o, H a = some (.frz o (.lst vs))) ∨
    ∃ (o : Obj) (its : Array Value) (n : Nat), K.lookup a = some o ∧ o.cls = .type "list" ∧ o.dict = none ∧ o.data = .seq its n ∧ its.size ≤ sizeLine ∧ Vals vs its.toList
mutual
inductive RV (μ : Nat → Addr) (L : Nat) (H : Hp) : PV → V → Prop
  | non : RV μ L H .non .non
  | bl (b : Bool) : RV μ L H (.bl b) (.bl b)
  | int (i : Int) : RV μ L H (.int i) (.int i)
  | str (s : Str) : RV μ L H (.str s) (.str s)
  | tup {xs : List PV} {a : Addr} {vs : List V} (h : SqT K H a vs) (r : RVs μ L H xs vs) : RV μ L H (.tup xs) (.ref a)
  | loc {n : Nat} (h : n < L) : RV μ L H (.loc n) (.ref (μ n))
  | fl {xs : List PV} {a : Addr} {vs : List V} (h : H a = some (.lst vs)) (n : ∀ n, n < L → μ n ≠ a) (r : RVs μ L H xs vs) : RV μ L H (.fl xs) (.ref a)
  | rol {xs : List PV} {a : Addr} {vs : List V} (h : Kl K H a vs) (r : RVs μ L H xs vs) : RV μ L H (.rol xs) (.ref a)
inductive RVs (μ : Nat → Addr) (L : Nat) (H : Hp) : List PV → List V → Prop
  | nil : RVs μ L H [] []
  | cons {x : PV} {v : V} {xs : List PV} {vs : List V} (f : x.isFl = false) (h : RV μ L H x v) (r : RVs μ L H xs vs) : RVs μ L H (x :: xs) (v :: vs)
end
/-- the store stands in the heap -/
structure Ok (μ : Nat → Addr) (st : Store) (H : Hp) : Prop where
  inj : ∀ n m, n < st.length → m < st.length → μ n = μ m → n = m
  cell : ∀ n xs, st[n]? = some (.lst xs) → ∃ vs, H (μ n) = some (.lst vs) ∧ RVs K μ st.length H xs vs
end
/-- from one state to a later one; what stands at S may have been changed besides the store -/
structure StX (S : Addr → Prop) (μ : Nat → Addr) (L : Nat) (H : Hp) (μ' : Nat → Addr) (L' : Nat) (H' : Hp) : Prop where
  le : L ≤ L'
  ext : ∀ n, n < L → μ' n = μ n
  keep : ∀ b o, H b = some o → (∀ n, n < L → μ n ≠ b) → ¬ S b → H' b = some o
  tup : ∀ b xs, H b = some (.tup xs) → H' b = some (.tup xs)
  frz : ∀ b o u, H b = some (.frz o u) → H' b = some (.frz o u)
  there : ∀ b, H' b = none → H b = none
  new : ∀ n, L ≤ n → n < L' → H (μ' n) = none
abbrev NoS : Addr → Prop := fun _ => False
abbrev Stp := StX NoS

section
variable {K : PySem.W.Frag} {μ μ1 μ2 : Nat → Addr} {L L1 L2 : Nat} {H H1 H2 : Hp} {S S1 : Addr → Prop}
theorem StX.refl : StX S μ L H μ L H := ⟨Nat.le_refl _, fun _ _ => rfl, fun _ _ h _ _ => h, fun _ _ h => h, fun _ _ _ h => h, fun _ h => h, fun n h1 h2 => absurd h2 (by omega)⟩
theorem StX.some (s : StX S μ L H μ1 L1 H1) {b : Addr} {o : HO} (h : H b = some o) : ∃ o', H1 b = Option.some o' := by
  cases q : H1 b with
  | none => rw [s.there b q] at h; cases h
  | some o' => exact ⟨o', rfl⟩
theorem StX.trans (s : StX S μ L H μ1 L1 H1) (t : StX S1 μ1 L1 H1 μ2 L2 H2) (hs : ∀ b, S1 b → S b ∨ H b = none) : StX S μ L H μ2 L2 H2 := by
  refine ⟨Nat.le_trans s.le t.le, fun n h => (t.ext n (Nat.lt_of_lt_of_le h s.le)).trans (s.ext n h), fun b o h n hS => ?_, fun b xs h => t.tup b xs (s.tup b xs h), fun b o u h => t.frz b o u (s.frz b o u h), fun b h => s.there b (t.there b h), fun n h1 h2 => ?_⟩
  · refine t.keep b o (s.keep b o h n hS) (fun k hk e => ?_) fun z => ?_
    · by_cases hl : k < L
      · exact n k hl ((s.ext k hl).symm.trans e)
      · have := s.new k (by omega) hk
        rw [e, h] at this
        cases this
    · rcases hs b z with z | z
      · exact hS z
      · rw [h] at z; cases z
  · by_cases hl : n < L1
    · have := s.new n h1 hl
      rw [t.ext n hl]
      exact this
    · exact s.there _ (t.new n (by omega) h2)
theorem Stp.trans (s : Stp μ L H μ1 L1 H1) (t : Stp μ1 L1 H1 μ2 L2 H2) : Stp μ L H μ2 L2 H2 := StX.trans s t fun _ h => h.elim
theorem StX.weak (s : StX S μ L H μ1 L1 H1) (hs : ∀ b, S b → S1 b) : StX S1 μ L H μ1 L1 H1 := ⟨s.le, s.ext, fun b o h n hS => s.keep b o h n fun z => hS (hs b z), s.tup, s.frz, s.there, s.new⟩
theorem Stp.wide (s : Stp μ L H μ1 L1 H1) : StX S μ L H μ1 L1 H1 := StX.weak s fun _ h => h.elim

theorem StX.sqT (s : StX S μ L H μ1 L1 H1) {a : Addr} {vs : List V} (h : SqT K H a vs) : SqT K H1 a vs := by
  rcases h with (h | ⟨o, h⟩) | h
  · exact .inl (.inl (s.tup _ _ h))
  · exact .inl (.inr ⟨o, s.frz _ _ _ h⟩)
  · exact .inr h
theorem StX.kl (s : StX S μ L H μ1 L1 H1) {a : Addr} {vs : List V} (h : Kl K H a vs) : Kl K H1 a vs := by
  rcases h with ⟨o, h⟩ | h
  · exact .inl ⟨o, s.frz _ _ _ h⟩
  · exact .inr h
theorem Kl.sq {a : Addr} {vs : List V} (h : Kl K H a vs) : SqL K H a vs := by
  rcases h with ⟨o, h⟩ | h
  · exact .inl (.inr ⟨o, h⟩)
  · exact .inr h

theorem RVs.len {xs : List PV} {vs : List V} : RVs K μ L H xs vs → xs.length = vs.length
  | .nil => rfl
  | .cons _ _ r => congrArg (· + 1) (RVs.len r)
theorem RVs.get : ∀ {xs : List PV} {vs : List V} {i : Nat} {x : PV}, RVs K μ L H xs vs → xs[i]? = some x → ∃ v, vs[i]? = some v ∧ RV K μ L H x v ∧ x.isFl = false
  | _, _, _, _, .nil, e => by simp at e
  | _, _, 0, _, .cons f h r, e => by
    simp only [List.getElem?_cons_zero, Option.some.injEq] at e
    subst e
    exact ⟨_, rfl, h, f⟩
  | _, _, i + 1, _, .cons f h r, e => by
    obtain ⟨v, h1, h2⟩ := RVs.get (i := i) r (by simpa using e)
    exact ⟨v, by simpa using h1, h2⟩
theorem RVs.app {xs ys : List PV} {vs ws : List V} : RVs K μ L H xs vs → RVs K μ L H ys ws → RVs K μ L H (xs ++ ys) (vs ++ ws)
  | .nil, s => s
  | .cons f h r, s => .cons f h (RVs.app r s)
theorem RVs.set {x : PV} {v : V} (f : x.isFl = false) (q : RV K μ L H x v) : ∀ {xs : List PV} {vs : List V} (i : Nat), RVs K μ L H xs vs → RVs K μ L H (xs.set i x) (vs.set i v)
  | _, _, _, .nil => .nil
  | _, _, 0, .cons _ _ r => .cons f q r
  | _, _, i + 1, .cons f' h r => .cons f' h (RVs.set f q i r)
theorem RVs.take : ∀ {xs : List PV} {vs : List V} (n : Nat), RVs K μ L H xs vs → RVs K μ L H (xs.take n) (vs.take n)
  | _, _, 0, _ => .nil
  | _, _, _ + 1, .nil => .nil
  | _, _, n + 1, .cons f h r => .cons f h (RVs.take n r)
theorem RVs.drop : ∀ {xs : List PV} {vs : List V} (n : Nat), RVs K μ L H xs vs → RVs K μ L H (xs.drop n) (vs.drop n)
  | _, _, 0, r => r
  | _, _, _ + 1, .nil => .nil
  | _, _, n + 1, .cons _ _ r => RVs.drop n r
theorem RVs.one {x : PV} {v : V} (f : x.isFl = false) (q : RV K μ L H x v) : RVs K μ L H [x] [v] := .cons f q .nil

/-- an own list stands off S -/
def Off (S : Addr → Prop) : PV → V → Prop
  | .fl _, .ref a => ¬ S a
  | _, _ => True
mutual
theorem RV.mono (s : StX S μ L H μ1 L1 H1) : ∀ {x : PV} {v : V}, Off S x v → RV K μ L H x v → RV K μ1 L1 H1 x v
  | _, _, _, .non => .non
  | _, _, _, .bl b => .bl b
  | _, _, _, .int i => .int i
  | _, _, _, .str z => .str z
  | _, _, _, .tup h r => .tup (StX.sqT s h) (RVs.mono s r)
  | _, _, _, .loc (n := n) h => by
    have e := s.ext n h
    rw [← e]
    exact .loc (Nat.lt_of_lt_of_le h s.le)
  | .fl _, .ref a, o, .fl h n r => by
    refine .fl (s.keep _ _ h n o) (fun k hk e => ?_) (RVs.mono s r)
    by_cases hl : k < L
    · exact n k hl ((s.ext k hl).symm.trans e)
    · have := s.new k (by omega) hk
      rw [e, h] at this
      cases this
  | _, _, _, .rol h r => .rol (StX.kl s h) (RVs.mono s r)
theorem RVs.mono (s : StX S μ L H μ1 L1 H1) : ∀ {xs : List PV} {vs : List V}, RVs K μ L H xs vs → RVs K μ1 L1 H1 xs vs
  | _, _, .nil => .nil
  | _, _, .cons (x := x) f h r => .cons f (RV.mono s (by cases x <;> first | trivial | cases f) h) (RVs.mono s r)
end
theorem off_no {x : PV} {v : V} : Off NoS x v := by
  unfold Off
  split <;> simp
theorem RV.mono0 (s : Stp μ L H μ1 L1 H1) {x : PV} {v : V} (h : RV K μ L H x v) : RV K μ1 L1 H1 x v := RV.mono s off_no h

/-- a list of the store is written -/
theorem Ok.write {st : Store} {n : Nat} {ys : List PV} {ws : List V} (o : Ok K μ st H) (hn : n < st.length) (r : RVs K μ st.length H ys ws) :
    Stp μ st.length H μ (setAt st n ys).length (upd H (μ n) (.lst ws)) ∧ Ok K μ (setAt st n ys) (upd H (μ n) (.lst ws)) := by
  have hl : (setAt st n ys).length = st.length := by simp [setAt]
  obtain ⟨xs, hx⟩ : ∃ xs, st[n]? = some (.lst xs) := by
    rw [List.getElem?_eq_getElem hn]
    cases st[n] with
    | lst xs => exact ⟨xs, rfl⟩
  obtain ⟨vs, hv, _⟩ := o.cell n xs hx
  have s : Stp μ st.length H μ (setAt st n ys).length (upd H (μ n) (.lst ws)) := by
    rw [hl]
    refine ⟨Nat.le_refl _, fun _ _ => rfl, fun b u h k _ => ?_, fun b zs h => ?_, fun b u z h => ?_, fun b h => ?_, fun k h1 h2 => absurd h2 (by omega)⟩
    · rw [upd_ne (fun e => k n hn e.symm)]; exact h
    · rw [upd_ne (fun e => by rw [e, hv] at h; cases h)]; exact h
    · rw [upd_ne (fun e => by rw [e, hv] at h; cases h)]; exact h
    · by_cases e : b = μ n
      · rw [e, upd_same] at h; cases h
      · rw [upd_ne e] at h; exact h
  refine ⟨s, ⟨fun a b ha hb e => o.inj a b (by omega) (by omega) e, fun k zs hk => ?_⟩⟩
  by_cases e : k = n
  · subst e
    have e2 : zs = ys := by
      have hk' : some (Cell.lst ys) = some (.lst zs) := by
        rw [← hk]
        simp [setAt, hn]
      cases hk'; rfl
    subst e2
    exact ⟨ws, upd_same, RVs.mono s r⟩
  · have hk' : st[k]? = some (.lst zs) := by
      rw [← hk]
      simp [setAt, List.getElem?_set_ne (Ne.symm e)]
    obtain ⟨us, h1, h2⟩ := o.cell k zs hk'
    have hkl : k < st.length := (List.getElem?_eq_some_iff.mp hk').1
    refine ⟨us, ?_, RVs.mono s h2⟩
    rw [upd_ne (fun z => e (o.inj k n hkl hn z))]
    exact h1
/-- a new object is laid -/
theorem Stp.laid {p : Addr} {u : HO} (h : H p = none) : Stp μ L H μ L (upd H p u) := by
  refine ⟨Nat.le_refl _, fun _ _ => rfl, fun b o hb _ _ => ?_, fun b o hb => ?_, fun b o z hb => ?_, fun b hb => ?_, fun n h1 h2 => absurd h2 (by omega)⟩
  · rw [upd_ne (ne_of_none hb h)]; exact hb
  · rw [upd_ne (ne_of_none hb h)]; exact hb
  · rw [upd_ne (ne_of_none hb h)]; exact hb
  · by_cases e : b = p
    · rw [e, upd_same] at hb; cases hb
    · rw [upd_ne e] at hb; exact hb
theorem Ok.stp {st : Store} (o : Ok K μ st H) (s : Stp μ st.length H μ st.length H1) (k : ∀ n, n < st.length → ∀ u, H (μ n) = some u → H1 (μ n) = some u) : Ok K μ st H1 :=
  ⟨o.inj, fun n xs h => by
    obtain ⟨vs, h1, h2⟩ := o.cell n xs h
    exact ⟨vs, k n (List.getElem?_eq_some_iff.mp h).1 _ h1, RVs.mono s h2⟩⟩
theorem Ok.laid {st : Store} {p : Addr} {u : HO} (o : Ok K μ st H) (h : H p = none) : Ok K μ st (upd H p u) :=
  o.stp (Stp.laid h) fun n _ u hu => by rw [upd_ne (ne_of_none hu h)]; exact hu
theorem Ok.apart {st : Store} {p : Addr} (o : Ok K μ st H) (h : H p = none) : ∀ n, n < st.length → μ n ≠ p := fun n hn e => by
  have : ∃ xs, st[n]? = some (.lst xs) := by
    rw [List.getElem?_eq_getElem hn]
    cases st[n] with
    | lst xs => exact ⟨xs, rfl⟩
  obtain ⟨xs, hx⟩ := this
  obtain ⟨vs, h1, _⟩ := o.cell n xs hx
  rw [e, h] at h1
  cases h1
mutual
/-- one place more -/
theorem RV.grow {a : Addr} : ∀ {x : PV} {v : V}, x.isFl = false → RV K μ L H x v → RV K (fun k => if k = L then a else μ k) (L + 1) H x v
  | _, _, _, .non => .non
  | _, _, _, .bl b => .bl b
  | _, _, _, .int i => .int i
  | _, _, _, .str z => .str z
  | _, _, _, .tup h r => .tup h (RVs.grow r a)
  | _, _, _, .loc (n := n) h => by
    have : RV K (fun k => if k = L then a else μ k) (L + 1) H (.loc n) (.ref ((fun k => if k = L then a else μ k) n)) := .loc (by omega)
    have e : (fun k => if k = L then a else μ k) n = μ n := if_neg (by omega)
    rw [e] at this
    exact this
  | _, _, f, .fl _ _ _ => by cases f
  | _, _, _, .rol h r => .rol h (RVs.grow r a)
theorem RVs.grow : ∀ {xs : List PV} {vs : List V}, RVs K μ L H xs vs → ∀ a : Addr, RVs K (fun k => if k = L then a else μ k) (L + 1) H xs vs
  | _, _, .nil, _ => .nil
  | _, _, .cons f h r, a => .cons f (RV.grow f h) (RVs.grow r a)
end
/-- fresh behind H -/
def Fr (H : Hp) : PV → V → Prop
  | .fl _, .ref a => H a = none
  | _, _ => True
theorem Fr.back {x : PV} {v : V} (s : StX S μ L H μ1 L1 H1) (f : Fr H1 x v) : Fr H x v := by
  unfold Fr at f ⊢
  split <;> simp_all
  exact s.there _ f
theorem fr_of {x : PV} {v : V} (h : x.isFl = false) : Fr H x v := by
  cases x <;> first | trivial | cases h
/-- a fresh list comes to be shared -/
theorem Ok.esc {μ0 : Nat → Addr} {L0 : Nat} {H0 : Hp} {st : Store} {x : PV} {v : V} (s : Stp μ0 L0 H0 μ st.length H) (o : Ok K μ st H) (r : RV K μ st.length H x v) (f : Fr H0 x v) :
    ∃ μ', Stp μ0 L0 H0 μ' (esc x st).2.length H ∧ Ok K μ' (esc x st).2 H ∧ RV K μ' (esc x st).2.length H (esc x st).1 v ∧ (esc x st).1.isFl = false ∧ (∀ n, n < st.length → μ' n = μ n) := by
  cases x with
  | fl xs =>
    cases r with
    | fl h n r =>
      rename_i a vs
      have f : H0 a = none := f
      have el : (U.esc (PV.fl xs) st).2.length = st.length + 1 := by simp [U.esc]
      refine ⟨fun k => if k = st.length then a else μ k, ?_, ?_, ?_, rfl, fun k hk => if_neg (by omega)⟩
      · rw [el]
        refine ⟨by have := s.le; omega, fun k hk => ?_, s.keep, s.tup, s.frz, s.there, fun k h1 h2 => ?_⟩
        · show (if k = st.length then a else μ k) = μ0 k
          rw [if_neg (by have := s.le; omega)]
          exact s.ext k hk
        · show H0 (if k = st.length then a else μ k) = none
          by_cases e : k = st.length
          · rw [if_pos e]; exact f
          · rw [if_neg e]; exact s.new k h1 (by omega)
      · have grow : ∀ {zs : List PV} {us : List V}, RVs K μ st.length H zs us → RVs K (fun k => if k = st.length then a else μ k) (st.length + 1) H zs us := by
          have go : ∀ (m : Nat), True := fun _ => trivial
          intro zs us q
          exact RVs.grow q a
        refine ⟨fun k m hk hm e => ?_, fun k zs hk => ?_⟩
        · rw [el] at hk hm
          have e : (if k = st.length then a else μ k) = (if m = st.length then a else μ m) := e
          by_cases h1 : k = st.length
          · by_cases h2 : m = st.length
            · omega
            · rw [if_pos h1, if_neg h2] at e
              exact absurd e.symm (n m (by omega))
          · by_cases h2 : m = st.length
            · rw [if_neg h1, if_pos h2] at e
              exact absurd e (n k (by omega))
            · rw [if_neg h1, if_neg h2] at e
              exact o.inj k m (by omega) (by omega) e
        · rw [el]
          have hk : (st ++ [Cell.lst xs])[k]? = some (.lst zs) := hk
          by_cases h1 : k = st.length
          · subst h1
            have e : xs = zs := by simpa using hk
            subst e
            exact ⟨vs, by simpa using h, grow r⟩
          · have hk2 : st[k]? = some (.lst zs) := by
              by_cases h2 : k < st.length
              · rw [List.getElem?_append_left h2] at hk; exact hk
              · rw [List.getElem?_eq_none (by simp; omega)] at hk; cases hk
            obtain ⟨us, h2, h3⟩ := o.cell k zs hk2
            exact ⟨us, by simpa [h1] using h2, grow h3⟩
      · rw [el]
        have : RV K (fun k => if k = st.length then a else μ k) (st.length + 1) H (.loc st.length) (.ref ((fun k => if k = st.length then a else μ k) st.length)) := .loc (by omega)
        have e : (fun k => if k = List.length st then a else μ k) (List.length st) = a := if_pos rfl
        rw [e] at this
        exact this
  | _ => exact ⟨μ, s, o, r, rfl, fun _ _ => rfl⟩
end
end U

set_option maxHeartbeats 4000000
/-! U3: the operations, from the store's data to the heap's. -/
namespace U
open PySem PySem.Spec PyProof.Rows L2

section
variable {K : PySem.W.Frag} {μ : Nat → Addr} {st : Store} {H : Hp}
/-- what is wanted behind an operation that leaves the store -/
def Go (K : PySem.W.Frag) (μ : Nat → Addr) (st : Store) (H : Hp) (v : PV) (Q : VK) : Prop :=
  ∀ H' v', Stp μ st.length H μ st.length H' → Ok K μ st H' → RV K μ st.length H' v v' → Fr H v v' → Q v' H'
theorem Go.same {v : PV} {v' : V} {Q : VK} (g : Go K μ st H v Q) (o : Ok K μ st H) (r : RV K μ st.length H v v') (f : v.isFl = false) : Q v' H := g H v' StX.refl o r (fr_of f)
theorem Go.lst {xs : List PV} {vs : List V} {Q : VK} (g : Go K μ st H (.fl xs) Q) (o : Ok K μ st H) (r : RVs K μ st.length H xs vs) : ∀ p, H p = none → Q (.ref p) (upd H p (.lst vs)) := fun p hp =>
  g _ _ (Stp.laid hp) (o.laid hp) (.fl upd_same (o.apart hp) (RVs.mono (Stp.laid hp) r)) hp
theorem Go.tup {xs : List PV} {vs : List V} {Q : VK} (g : Go K μ st H (.tup xs) Q) (o : Ok K μ st H) (r : RVs K μ st.length H xs vs) : ∀ p, H p = none → Q (.ref p) (upd H p (.tup vs)) := fun p hp =>
  g _ _ (Stp.laid hp) (o.laid hp) (.tup (SqT.of upd_same) (RVs.mono (Stp.laid hp) r)) trivial

theorem list_at {x : PV} {x' : V} {xs : List PV} (o : Ok K μ st H) (r : RV K μ st.length H x x') (h : listOf x st = some xs) : ∃ a vs, x' = .ref a ∧ H a = some (.lst vs) ∧ RVs K μ st.length H xs vs := by
  cases r with
  | fl h1 n r1 =>
    cases h
    exact ⟨_, _, rfl, h1, r1⟩
  | loc hn =>
    rename_i n
    unfold listOf at h
    cases q : st[n]? with
    | none => simp only [q] at h; cases h
    | some c =>
      cases c with
      | lst ys =>
        simp only [q] at h
        cases h
        obtain ⟨vs, h1, h2⟩ := o.cell n _ q
        exact ⟨_, _, rfl, h1, h2⟩
  | _ => cases h
theorem seq_at {x : PV} {x' : V} {xs : List PV} (o : Ok K μ st H) (r : RV K μ st.length H x x') (h : seqOf x st = some xs) : ∃ a vs, x' = .ref a ∧ (SqL K H a vs ∨ SqT K H a vs) ∧ RVs K μ st.length H xs vs := by
  cases r with
  | tup h1 r1 => cases h; exact ⟨_, _, rfl, .inr h1, r1⟩
  | rol h1 r1 => cases h; exact ⟨_, _, rfl, .inl h1.sq, r1⟩
  | fl h1 n r1 => cases h; exact ⟨_, _, rfl, .inl (SqL.of h1), r1⟩
  | loc hn =>
    rename_i n
    unfold seqOf at h
    cases q : st[n]? with
    | none => simp only [q] at h; cases h
    | some c =>
      cases c with
      | lst ys =>
        simp only [q] at h
        cases h
        obtain ⟨vs, h1, h2⟩ := o.cell n _ q
        exact ⟨_, _, rfl, .inl (SqL.of h1), h2⟩
  | _ => cases h
theorem RVs.nil_iff {L : Nat} {xs : List PV} {vs : List V} (r : RVs K μ L H xs vs) : xs.isEmpty = vs.isEmpty := by cases r <;> rfl

variable {X : Cx} {σ : L2.St} {pins : List (Addr × Obj)}
theorem OpR.imp {f : Value → Value → Sem Value} {r r' : R2} (h : OpR X f r) (i : ∀ x y H Q, r' x y H Q → r x y H Q) : OpR X f r' := fun pins s σ H x y v u Q I rx ry q => h pins s σ H x y v u Q I rx ry (i _ _ _ _ q)
theorem CallR.imp {f : Value} {r r' : List V → Hp → VK → Prop} (h : CallR X f r) (i : ∀ xs H Q, r' xs H Q → r xs H Q) : CallR X f r' := fun pins s σ H xs us Q I rx q => h pins s σ H xs us Q I rx (i _ _ _ q)
theorem MtR.imp {id : String} {r r' : V → List V → Hp → VK → Prop} (h : MtR X id r) (i : ∀ x xs H Q, r' x xs H Q → r x xs H Q) : MtR X id r' := fun pins s σ H x xs v us Q I rx rs q => h pins s σ H x xs v us Q I rx rs (i _ _ _ _ q)
theorem IxR.imp {r r' : R2} (h : IxR X r) (i : ∀ x y H Q, r' x y H Q → r x y H Q) : IxR X r' := fun a b pins s σ H x y v u Q I rx ry q hs => h a b pins s σ H x y v u Q I rx ry (i _ _ _ _ q) hs
theorem SlR.imp {r r' : V → Option Int → Option Int → Hp → VK → Prop} (h : SlR X r) (i : ∀ x l u H Q, r' x l u H Q → r x l u H Q) : SlR X r' := fun pins s σ H x v vl vu lo hi sl Q I rx hs pl pu q => h pins s σ H x v vl vu lo hi sl Q I rx hs pl pu (i _ _ _ _ _ q)

/-- the reading of an operation on values -/
def rO (K : PySem.W.Frag) (f : PV → PV → Store → Option PV) : R2 := fun x' y' H Q => ∃ μ st x y v, Ok K μ st H ∧ RV K μ st.length H x x' ∧ RV K μ st.length H y y' ∧ f x y st = some v ∧ Go K μ st H v Q

/-- text * int -/
def rMulS : R2 := fun x y H Q => ∃ z j, x = .str z ∧ y = .int j ∧ -1000000 ≤ j ∧ j ≤ 1000000 ∧ z.length * j.toNat ≤ 1000000 ∧ Q (.str ⟨((List.replicate j.toNat z.cps.toList).flatten).toArray⟩) H
theorem fold_cps (a : Array Nat) : ∀ (n : Nat) (acc : Array Nat), (List.replicate n a).foldl (· ++ ·) acc = acc ++ ((List.replicate n a.toList).flatten).toArray
  | 0, acc => by simp
  | n + 1, acc => by
    rw [List.replicate_succ, List.foldl_cons, fold_cps a n, List.replicate_succ, List.flatten_cons]
    apply Array.toList_inj.mp
    simp
theorem op_mulS : OpR X (binaryOp .Mult) rMulS := by
  intro pins s σ H x y v u Q I rx ry h
  obtain ⟨z, j, rfl, rfl, h1, h2, hz, q⟩ := h
  obtain ⟨t, rfl⟩ := rx
  obtain ⟨t', rfl⟩ := ry
  have sl := sizeLine_eq
  refine P.mul_str ?_ (fun n1 n2 => ?_) (fun n1 n2 => ?_) ?_
  · rw [decide_eq_false (by omega), decide_eq_false (by omega)]; rfl
  · have n3 : 1 ≤ j := by omega
    intro c
    have hm : ((z.length * j.toNat : Nat) : Int) ≤ 1000000 := Int.ofNat_le.mpr hz
    have e : ((z.length * j.toNat : Nat) : Int) = (z.length : Int) * j := by
      rw [Int.natCast_mul, Int.toNat_of_nonneg (by omega)]
    rw [e] at hm
    have := (Int.le_ediv_iff_mul_le (by omega : 0 < j)).mpr (show (z.length : Int) * j ≤ 2 ^ 63 - 1 by omega)
    omega
  · show decide (z.length * j.toNat > sizeLine) = false
    exact decide_eq_false (by omega)
  · by_cases n1 : j < 1
    · rw [if_pos n1]
      refine ⟨by decide, .str _, H, I.tok _, ⟨_, rfl⟩, ?_⟩
      have e : j.toNat = 0 := by omega
      rw [e] at q
      exact q
    · rw [if_neg n1]
      by_cases n2 : (j == 1 || z.length == 0) = true
      · rw [if_pos n2]
        refine ⟨.str z, H, I, ⟨_, rfl⟩, ?_⟩
        have e : (⟨((List.replicate j.toNat z.cps.toList).flatten).toArray⟩ : Str) = z := by
          refine TL.ext_tl ?_
          show ((List.replicate j.toNat z.cps.toList).flatten) = z.cps.toList
          rcases (by simpa using n2 : j = 1 ∨ z.length = 0) with e | e
          · subst e
            simp
          · have e2 : z.cps.toList = [] := by
              have h0 := TL.len_tl z
              exact List.length_eq_zero_iff.mp (h0.symm.trans e)
            show _ = z.cps.toList
            rw [e2]
            simp
        rw [e] at q
        exact q
      · rw [if_neg n2]
        have e : ((List.replicate j.toNat z.cps).foldl (· ++ ·) #[]) = ((List.replicate j.toNat z.cps.toList).flatten).toArray := by
          rw [fold_cps]; simp
        refine ⟨?_, .str _, H, I.tok _, ⟨_, rfl⟩, ?_⟩
        · rw [e]
          show ((List.replicate j.toNat z.cps.toList).flatten).toArray.size ≤ sizeLine
          have : ((List.replicate j.toNat z.cps.toList).flatten).length = j.toNat * z.length := by
            rw [List.length_flatten, List.map_replicate, List.sum_replicate_nat]
            rfl
          rw [List.size_toArray, this, Nat.mul_comm]
          omega
        · rw [e]; exact q
def bop : BOp → Operator
  | .add => .Add | .sub => .Sub | .mul => .Mult | .fdiv => .FloorDiv | .mod => .Mod | .pow => .Pow
theorem op_bin (o : BOp) : OpR X (binaryOp (bop o)) (rO X.K (binV o)) := by
  cases o with
  | add =>
    refine OpR.imp (op_add.or (op_add_str.or (op_catA.or op_cat))) fun x y H Q ⟨μ, st, a, b, v, o, ra, rb, e, g⟩ => ?_
    unfold binV at e
    split at e
    case _ _ _ _ i j h1 => cases ra; cases rb; cases e; exact .inl ⟨i, j, rfl, rfl, g.same o (.int _) rfl⟩
    case _ _ _ _ i j h1 =>
      cases ra; cases rb
      split at e
      · rename_i hz
        cases e
        exact .inr (.inl ⟨i, j, rfl, rfl, hz, g.same o (.str _) rfl⟩)
      · cases e
    case _ xs ys h1 =>
      cases ra with
      | tup h1 r1 =>
        cases rb with
        | tup h2 r2 =>
          split at e
          · rename_i hz
            cases e
            rename_i a1 v1 a2 v2
            have l1 := r1.len
            have l2 := r2.len
            refine .inr (.inr (.inl ⟨_, _, _, _, rfl, rfl, h1, h2, by omega, fun z => ?_, fun z z2 => ?_, fun _ _ => g.tup o (r1.app r2)⟩))
            · subst z
              cases r1
              exact g.same o (.tup h2 r2) rfl
            · subst z2
              cases r2
              rw [List.append_nil] at g
              exact g.same o (.tup h1 r1) rfl
          · cases e
    case _ =>
      split at e
      · rename_i xs ys h1 h2
        split at e
        · rename_i hz
          cases e
          obtain ⟨a1, v1, rfl, q1, r1⟩ := list_at o ra h1
          obtain ⟨a2, v2, rfl, q2, r2⟩ := list_at o rb h2
          have l1 := r1.len
          have l2 := r2.len
          exact .inr (.inr (.inr ⟨a1, a2, v1, v2, rfl, rfl, q1, q2, by omega, g.lst o (r1.app r2)⟩))
        · cases e
      · cases e
    all_goals contradiction
  | sub =>
    refine OpR.imp op_sub fun x y H Q ⟨μ, st, a, b, v, o, ra, rb, e, g⟩ => ?_
    unfold binV at e
    split at e <;> first | contradiction | (cases ra; cases rb; cases e; exact ⟨_, _, rfl, rfl, g.same o (.int _) rfl⟩) | cases e
  | mul =>
    refine OpR.imp (op_mul.or op_mulS) fun x y H Q ⟨μ, st, a, b, v, o, ra, rb, e, g⟩ => ?_
    unfold binV at e
    split at e <;> first | contradiction | skip
    · cases ra; cases rb
      split at e
      · rename_i hc
        cases e
        refine .inl ⟨_, _, rfl, rfl, ?_, g.same o (.int _) rfl⟩
        simpa [ckM, CMul] using hc
      · cases e
    · cases ra; cases rb
      split at e
      · rename_i hc
        cases e
        exact .inr ⟨_, _, rfl, rfl, hc.1, hc.2.1, hc.2.2, g.same o (.str _) rfl⟩
      · cases e
  | fdiv =>
    refine OpR.imp op_fdiv fun x y H Q ⟨μ, st, a, b, v, o, ra, rb, e, g⟩ => ?_
    unfold binV at e
    split at e <;> first | contradiction | skip
    · cases ra; cases rb
      split at e
      · rename_i hc
        cases e
        exact ⟨_, _, rfl, rfl, hc, g.same o (.int _) rfl⟩
      · cases e
  | mod =>
    refine OpR.imp op_mod fun x y H Q ⟨μ, st, a, b, v, o, ra, rb, e, g⟩ => ?_
    unfold binV at e
    split at e <;> first | contradiction | skip
    · cases ra; cases rb
      split at e
      · rename_i hc
        cases e
        exact ⟨_, _, rfl, rfl, hc, g.same o (.int _) rfl⟩
      · cases e
  | pow =>
    refine OpR.imp op_pow fun x y H Q ⟨μ, st, a, b, v, o, ra, rb, e, g⟩ => ?_
    unfold binV at e
    split at e <;> first | contradiction | skip
    · cases ra; cases rb
      split at e
      · rename_i hc
        cases e
        exact ⟨_, _, rfl, rfl, hc, g.same o (.int _) rfl⟩
      · cases e
end
end U

set_option maxHeartbeats 4000000
/-! U4: comparisons, items, slices, built-in functions and methods. -/
namespace U
open PySem PySem.Spec PyProof.Rows L2
section
variable {K : PySem.W.Frag} {μ : Nat → Addr} {L : Nat} {st : Store} {H : Hp} {X : Cx} {σ : L2.St} {pins : List (Addr × Obj)}
theorem flV_at {x : PV} {v v' : V} (r : RV K μ L H x v') (h : flV x = some v) : v' = v ∧ flatV v = true := by
  cases r <;> first | (cases h; exact ⟨rfl, rfl⟩) | cases h
theorem flL_at : ∀ {xs : List PV} {vs vs' : List V}, RVs K μ L H xs vs' → flL xs = some vs → vs' = vs ∧ vs.all flatV = true
  | _, _, _, .nil, h => by cases h; exact ⟨rfl, rfl⟩
  | _, _, _, .cons (x := x) (xs := xs) f r rs, h => by
    unfold flL at h
    cases h1 : flV x with
    | none => rw [h1] at h; cases h
    | some v =>
      cases h2 : flL xs with
      | none => rw [h1, h2] at h; cases h
      | some vs =>
        rw [h1, h2] at h
        cases h
        obtain ⟨e1, f1⟩ := flV_at r h1
        obtain ⟨e2, f2⟩ := flL_at rs h2
        subst e1; subst e2
        exact ⟨rfl, by simp [f1, f2]⟩
def cop : COp → CmpOp
  | .eq => .Eq | .ne => .NotEq | .lt => .Lt | .le => .LtE | .gt => .Gt | .ge => .GtE | .isN => .Is | .notN => .IsNot | .inn => .In | .nin => .NotIn
/-- the reading of a comparison -/
def rC (K : PySem.W.Frag) (f : PV → PV → Store → Option Bool) : R2 := fun x' y' H Q => ∃ μ st x y k, Ok K μ st H ∧ RV K μ st.length H x x' ∧ RV K μ st.length H y y' ∧ f x y st = some k ∧ Q (.bl k) H
theorem eqS_at {x y : PV} {x' y' : V} {k : Bool} (rx : RV K μ L H x x') (ry : RV K μ L H y y') (h : eqS x y = some k) : scal x' y' = true ∧ k = decide (x' = y') := by
  unfold eqS at h
  cases h1 : flV x with
  | none => rw [h1] at h; cases h
  | some v =>
    cases h2 : flV y with
    | none => rw [h1, h2] at h; cases h
    | some w =>
      rw [h1, h2] at h
      obtain ⟨e1, _⟩ := flV_at rx h1
      obtain ⟨e2, _⟩ := flV_at ry h2
      subst e1; subst e2
      simp only at h
      split at h
      · rename_i hs
        cases h
        exact ⟨hs, rfl⟩
      · cases h
theorem inV_at {x y : PV} {x' y' : V} {k : Bool} (o : Ok K μ st H) (rx : RV K μ st.length H x x') (ry : RV K μ st.length H y y') (h : U.inV x y st = some k) :
    (∃ c z, x' = .str ⟨#[c]⟩ ∧ y' = .str z ∧ k = decide (c ∈ z.cps.toList)) ∨ ∃ p xs, y' = .ref p ∧ (SqL K H p xs ∨ SqT K H p xs) ∧ flatV x' = true ∧ xs.all flatV = true ∧ k = L2.inV x' xs := by
  unfold U.inV at h
  split at h
  · cases rx; cases ry
    split at h
    · rename_i c hc
      cases h
      exact .inl ⟨c, _, congrArg V.str (TL.ext_tl hc), rfl, rfl⟩
    · cases h
  · split at h
    · rename_i ys hy
      obtain ⟨a, vs, rfl, q, r⟩ := seq_at o ry hy
      unfold memF at h
      cases h1 : flV x with
      | none => rw [h1] at h; cases h
      | some v =>
        cases h2 : flL ys with
        | none => rw [h1, h2] at h; cases h
        | some ws =>
          rw [h1, h2] at h
          cases h
          obtain ⟨e1, f1⟩ := flV_at rx h1
          obtain ⟨e2, f2⟩ := flL_at r h2
          subst e1; subst e2
          exact .inr ⟨a, _, rfl, q, f1, f2, rfl⟩
    · cases h
theorem op_cmp (o : COp) : OpR X (compareOp (cop o)) (rC X.K (cmpV o)) := by
  cases o with
  | eq =>
    refine OpR.imp op_eq fun x y H Q ⟨μ, st, a, b, k, o, ra, rb, e, g⟩ => ?_
    obtain ⟨h1, rfl⟩ := eqS_at ra rb e
    exact ⟨h1, g⟩
  | ne =>
    refine OpR.imp op_ne fun x y H Q ⟨μ, st, a, b, k, o, ra, rb, e, g⟩ => ?_
    obtain ⟨c, hc, rfl⟩ := Option.map_eq_some_iff.mp e
    obtain ⟨h1, rfl⟩ := eqS_at ra rb hc
    exact ⟨h1, g⟩
  | lt =>
    refine OpR.imp op_lt fun x y H Q ⟨μ, st, a, b, k, o, ra, rb, e, g⟩ => ?_
    unfold cmpV at e
    simp only at e
    split at e
    · cases ra; cases rb; cases e; exact ⟨_, _, rfl, rfl, g⟩
    · cases e
  | le =>
    refine OpR.imp op_le fun x y H Q ⟨μ, st, a, b, k, o, ra, rb, e, g⟩ => ?_
    unfold cmpV at e
    simp only at e
    split at e
    · cases ra; cases rb; cases e; exact ⟨_, _, rfl, rfl, g⟩
    · cases e
  | gt =>
    refine OpR.imp op_gt fun x y H Q ⟨μ, st, a, b, k, o, ra, rb, e, g⟩ => ?_
    unfold cmpV at e
    simp only at e
    split at e
    · cases ra; cases rb; cases e; exact ⟨_, _, rfl, rfl, g⟩
    · cases e
  | ge =>
    refine OpR.imp op_ge fun x y H Q ⟨μ, st, a, b, k, o, ra, rb, e, g⟩ => ?_
    unfold cmpV at e
    simp only at e
    split at e
    · cases ra; cases rb; cases e; exact ⟨_, _, rfl, rfl, g⟩
    · cases e
  | isN =>
    refine OpR.imp op_isN fun x y H Q ⟨μ, st, a, b, k, o, ra, rb, e, g⟩ => ?_
    unfold cmpV at e
    simp only at e
    split at e
    · cases rb
      refine ⟨rfl, ?_⟩
      have : decide (x = V.non) = k := by cases ra <;> first | (cases e; rfl) | cases e
      rw [this]; exact g
    · cases e
  | notN =>
    refine OpR.imp op_notN fun x y H Q ⟨μ, st, a, b, k, o, ra, rb, e, g⟩ => ?_
    unfold cmpV at e
    simp only at e
    split at e
    · cases rb
      refine ⟨rfl, ?_⟩
      have : (!decide (x = V.non)) = k := by cases ra <;> first | (cases e; rfl) | cases e
      rw [this]; exact g
    · cases e
  | inn =>
    refine OpR.imp (op_in_sign.or op_in_seq) fun x y H Q ⟨μ, st, a, b, k, o, ra, rb, e, g⟩ => ?_
    rcases inV_at o ra rb e with ⟨c, z, rfl, rfl, rfl⟩ | ⟨p, xs, rfl, q, f1, f2, rfl⟩
    · exact .inl ⟨c, z, rfl, rfl, g⟩
    · exact .inr ⟨p, xs, rfl, q, f1, f2, g⟩
  | nin =>
    refine OpR.imp (op_notIn_sign.or op_notIn_seq) fun x y H Q ⟨μ, st, a, b, k, o, ra, rb, e, g⟩ => ?_
    obtain ⟨c, hc, rfl⟩ := Option.map_eq_some_iff.mp e
    rcases inV_at o ra rb hc with ⟨c, z, rfl, rfl, rfl⟩ | ⟨p, xs, rfl, q, f1, f2, rfl⟩
    · exact .inl ⟨c, z, rfl, rfl, g⟩
    · exact .inr ⟨p, xs, rfl, q, f1, f2, g⟩

/-- truth -/
theorem truth_at {x : PV} {x' : V} {k : Bool} (o : Ok K μ st H) (r : RV K μ st.length H x x') (h : truth x st = some k) : TruV K x' H k := by
  have seqs : ∀ {y : PV} {y' : V}, RV K μ st.length H y y' → (seqOf y st).map (fun xs => !xs.isEmpty) = some k → TruV K y' H k := fun {y y'} r e => by
    obtain ⟨xs, h1, rfl⟩ := Option.map_eq_some_iff.mp e
    obtain ⟨a, vs, rfl, q, rs⟩ := seq_at o r h1
    rw [rs.nil_iff]
    rcases q with q | q
    · exact .inl ⟨vs, q, rfl⟩
    · exact .inr (.inl ⟨vs, q, rfl⟩)
  cases x with
  | non => cases r; cases h; rfl
  | bl b => cases r; cases h; rfl
  | int i => cases r; cases h; rfl
  | str s =>
    cases r
    unfold truth at h
    simp only at h
    split at h
    · rename_i hz
      cases h
      exact ⟨hz, rfl⟩
    · cases h
  | tup xs => exact seqs r h
  | fl xs => exact seqs r h
  | rol xs => exact seqs r h
  | loc n => exact seqs r h

/-- items -/
theorem atI_map {L : Nat} {xs : List PV} {vs : List V} {i : Int} {x : PV} (r : RVs K μ L H xs vs) (h : atI xs i = some x) : ∃ v, atI vs i = some v ∧ RV K μ L H x v ∧ x.isFl = false := by
  unfold atI at h ⊢
  rw [← r.len]
  cases q : ixN xs.length i with
  | none => rw [q] at h; cases h
  | some j =>
    rw [q] at h
    exact r.get h
theorem op_ix : IxR X (rO X.K ixV) := by
  refine IxR.imp ix_seq fun x y H Q ⟨μ, st, a, b, v, o, ra, rb, e, g⟩ => ?_
  unfold ixV at e
  split at e
  · cases rb
    split at e
    · cases ra
      split at e
      · rename_i hz
        obtain ⟨c, hc, rfl⟩ := Option.map_eq_some_iff.mp e
        exact .inr (.inr ⟨_, _, c, rfl, rfl, hz, hc, g.same o (.str _) rfl⟩)
      · cases e
    · split at e
      · rename_i xs hx
        obtain ⟨p, vs, rfl, q, r⟩ := seq_at o ra hx
        obtain ⟨w, h1, h2, h3⟩ := atI_map r e
        rcases q with q | q
        · exact .inl ⟨p, vs, _, w, rfl, rfl, q, h1, g.same o h2 h3⟩
        · exact .inr (.inl ⟨p, vs, _, w, rfl, rfl, q, h1, g.same o h2 h3⟩)
      · cases e
  · cases e
/-- slices -/
theorem cut_at {L : Nat} {xs : List PV} {vs : List V} (r : RVs K μ L H xs vs) (lo hi : Option Int) : RVs K μ L H (cutL xs lo hi) (cutV vs lo hi) := by
  unfold cutL cutV
  rw [← r.len]
  exact (r.drop _).take _
theorem RVs.empty {L : Nat} {xs : List PV} {vs : List V} (r : RVs K μ L H xs vs) : xs = [] ↔ vs = [] := by cases r <;> simp
def rS (K : PySem.W.Frag) : V → Option Int → Option Int → Hp → VK → Prop := fun x' lo hi H Q => ∃ μ st x v, Ok K μ st H ∧ RV K μ st.length H x x' ∧ slV x lo hi st = some v ∧ Go K μ st H v Q
theorem op_sl : SlR X (rS X.K) := by
  refine SlR.imp (sl_str.or (sl_tupA.or sl_list)) fun x lo hi H Q ⟨μ, st, a, v, o, ra, e, g⟩ => ?_
  have lists : ∀ {xs : List PV} {p : Addr} {vs : List V}, (some (PV.fl (cutL xs lo hi)) = some v) → SqL X.K H p vs → RVs X.K μ st.length H xs vs → rSlL X.K (.ref p) lo hi H Q := fun e q r => by
    cases e
    exact ⟨_, _, rfl, q, g.lst o (cut_at r lo hi)⟩
  cases ra with
  | str z =>
    unfold slV at e
    simp only at e
    split at e
    · rename_i hz
      cases e
      exact .inl ⟨_, rfl, hz, g.same o (.str _) rfl⟩
    · cases e
  | @tup xs1 _ _ h1 r1 =>
    cases e
    refine .inr (.inl ⟨_, _, rfl, h1, fun z => ?_, fun _ => g.tup o (cut_at r1 lo hi)⟩)
    have w : ∀ {α : Type} (l : List α), HT.sIx l.length 0 lo = 0 ∧ HT.sIx l.length l.length hi = l.length → (l.drop (HT.sIx l.length 0 lo)).take (HT.sIx l.length l.length hi - HT.sIx l.length 0 lo) = l := fun l z => by
      rw [z.1, z.2]; simp
    rw [← r1.len] at z
    have e1 : cutL xs1 lo hi = xs1 := w xs1 z
    rw [e1] at g
    exact g.same o (.tup h1 r1) rfl
  | fl h1 n r1 => exact .inr (.inr (lists e (SqL.of h1) r1))
  | rol h1 r1 => exact .inr (.inr (lists e h1.sq r1))
  | @loc n hn =>
    unfold slV at e
    simp only at e
    split at e
    · rename_i xs hx
      obtain ⟨p, vs, hp, hq, r⟩ := list_at o (.loc hn) (show listOf (.loc n) st = some xs from hx)
      rw [hp]
      exact .inr (.inr (lists e (SqL.of hq) r))
    · cases e
  | _ => cases e

/-! ### built-in functions -/
abbrev RAs (K : PySem.W.Frag) (μ : Nat → Addr) (L : Nat) (H : Hp) : List PV → List V → Prop := Paired (RV K μ L H)
def bfn : BF → Value
  | .len => .builtin "len" | .int => .type "int" | .abs => .builtin "abs" | .max => .builtin "max" | .min => .builtin "min" | .str => .type "str" | .repr => .builtin "repr" | .reprD => .builtin "repr"
  | .list => .type "list" | .tuple => .type "tuple" | .sum => .builtin "sum" | .all => .builtin "all" | .any => .builtin "any"
def rB (K : PySem.W.Frag) (f : BF) : List V → Hp → VK → Prop := fun vs H Q => ∃ μ st as v, Ok K μ st H ∧ RAs K μ st.length H as vs ∧ biV f as st = some v ∧ Go K μ st H v Q
theorem ints_at : ∀ {xs : List PV} {vs : List V} {ns : List Int}, RVs K μ L H xs vs → intsL xs = some ns → vs = ns.map V.int
  | _, _, _, .nil, h => by cases h; rfl
  | _, _, _, .cons (xs := xs) f r rs, h => by
    cases r <;> try cases h
    unfold intsL at h
    obtain ⟨ms, h1, rfl⟩ := Option.map_eq_some_iff.mp h
    rw [ints_at rs h1]; rfl
theorem bools_at : ∀ {xs : List PV} {vs : List V} {ns : List Bool}, RVs K μ L H xs vs → bools xs = some ns → vs = ns.map V.bl
  | _, _, _, .nil, h => by cases h; rfl
  | _, _, _, .cons (xs := xs) f r rs, h => by
    cases r <;> try cases h
    unfold bools at h
    obtain ⟨ms, h1, rfl⟩ := Option.map_eq_some_iff.mp h
    rw [bools_at rs h1]; rfl
theorem strs_at : ∀ {xs : List PV} {vs : List V} {ns : List Str}, RVs K μ L H xs vs → strsL xs = some ns → vs = ns.map V.str
  | _, _, _, .nil, h => by cases h; rfl
  | _, _, _, .cons (xs := xs) f r rs, h => by
    cases r <;> try cases h
    unfold strsL at h
    obtain ⟨ms, h1, rfl⟩ := Option.map_eq_some_iff.mp h
    rw [strs_at rs h1]; rfl
theorem rd_at {x : PV} {x' : V} {xs : List PV} (o : Ok K μ st H) (r : RV K μ st.length H x x') (h : rdOf x st = some xs) : ∃ a vs, x' = .ref a ∧ SqL K H a vs ∧ RVs K μ st.length H xs vs := by
  cases r with
  | rol h1 r1 => cases h; exact ⟨_, _, rfl, h1.sq, r1⟩
  | fl h1 n r1 => cases h; exact ⟨_, _, rfl, SqL.of h1, r1⟩
  | @loc n hn =>
    obtain ⟨p, vs, hp, hq, r⟩ := list_at o (.loc hn) (show listOf (.loc n) st = some xs from h)
    exact ⟨p, vs, hp, SqL.of hq, r⟩
  | _ => cases h
/-- repr(a bool) -/
theorem call_reprB : CallR X (.builtin "repr") (fun xs H Q => ∃ b, xs = [.bl b] ∧ Q (.str (if b then Str.ofString "True" else Str.ofString "False")) H) := by
  intro pins s σ H xs us Q I rx h
  obtain ⟨b, rfl, q⟩ := h
  obtain ⟨u, rfl, ru⟩ := vals1 rx
  cases ru
  exact PySem.P.repr_of_bool ⟨.str _, H, I.tok _, ⟨_, rfl⟩, q⟩
theorem call_reprBS : CallR X (.builtin "repr") (fun xs H Q => (∃ b, xs = [.bl b] ∧ Q (.str (if b then Str.ofString "True" else Str.ofString "False")) H) ∨ ∃ z, xs = [.str z] ∧ (reprText z).length ≤ sizeLine ∧ Q (.str (reprText z)) H) := by
  intro pins s σ H xs us Q I rx h
  rcases h with h | ⟨z, rfl, hz, q⟩
  · exact call_reprB pins s σ H xs us Q I rx h
  · obtain ⟨u, rfl, ru⟩ := vals1 rx
    obtain ⟨t, rfl⟩ := ru
    exact PySem.P.repr_of_str ⟨.str _, H, I.tok _, ⟨_, rfl⟩, q⟩ hz
theorem call_strIS : CallR X (.type "str") (fun xs H Q => (∃ i, xs = [.int i] ∧ i.natAbs.log2 < 1920 ∧ Q (.str (toString i)) H) ∨ ∃ a, xs = [.str a] ∧ Q (.str a) H) := by
  intro pins s σ H xs us Q I r h
  rcases h with h | ⟨a, rfl, q⟩
  · exact call_str_int pins s σ H xs us Q I r h
  · obtain ⟨u, rfl, t, rfl⟩ := vals1 r
    exact PySem.P.str_of_str ⟨.str a, H, I, ⟨t, rfl⟩, q⟩
theorem log_ok {i : Int} (h : i.natAbs < 1000000) : i.natAbs.log2 < 1920 := by
  by_cases h0 : i.natAbs = 0
  · rw [h0]; decide
  · have := (Nat.log2_lt h0 (k := 20)).mpr (by omega)
    omega
theorem call_reprG {X : Cx} (hg : X.A.guards = some []) : CallR X (.builtin "repr")
    (fun xs H Q => ∃ (a : Addr) (d : PyData), xs = [.ref a] ∧ Dp X.K H (.ref a) d ∧ d.showable = true ∧ d.hasDict = false ∧ X.A.units + (d.depth + 1) < cLine ∧ d.shown.length ≤ sizeLine ∧ Q (.str d.shown) H) := by
  intro pins s σ H xs us Q I hx ⟨a, d, e1, hd, h1, h2, h3, h4, q⟩
  subst e1
  cases hx with
  | cons x1 x2 =>
  cases x2
  obtain rfl : _ = Value.ref a := x1
  obtain ⟨as, rd⟩ := Dp.reads I d (.ref a) (Value.ref a) hd rfl
  exact repr_of_reads' (as := as) rd h1 (fun z => by rw [h2] at z; cases z) hg h3 (fun _ _ z => z) (fun h' u tk hk => ⟨.str d.shown, H, I.kept hk, ⟨u, rfl⟩, q⟩) h4
mutual
theorem dp_of : ∀ {v : PV} {w : V} {d : PyData}, pyOf v = some d → RV K μ L H v w → Dp K H w d
  | .non, w, d, e, r => by
    cases r
    unfold pyOf at e; cases e
    exact .non
  | .bl b, w, d, e, r => by
    cases r
    unfold pyOf at e; cases e
    exact .bl b
  | .int i, w, d, e, r => by
    cases r
    unfold pyOf at e; cases e
    exact .int i
  | .str s, w, d, e, r => by
    cases r
    unfold pyOf at e; cases e
    exact .str s
  | .tup xs, w, d, e, r => by
    cases r with
    | tup h rs =>
      unfold pyOf at e
      obtain ⟨ds, e1, rfl⟩ := Option.map_eq_some_iff.mp e
      exact .tup h (dps_of e1 rs)
  | .loc _, _, _, e, _ => by unfold pyOf at e; cases e
  | .fl _, _, _, e, _ => by unfold pyOf at e; cases e
  | .rol _, _, _, e, _ => by unfold pyOf at e; cases e
theorem dps_of : ∀ {vs : List PV} {ws : List V} {ds : List PyData}, pyOfL vs = some ds → RVs K μ L H vs ws → DpAll K H ws ds
  | [], ws, ds, e, r => by
    cases r
    unfold pyOfL at e; cases e
    exact .nil
  | v :: vs, ws, ds, e, r => by
    cases r with
    | cons _ r1 r2 =>
      unfold pyOfL at e
      split at e
      · rename_i d ds' e1 e2
        cases e
        exact .cons (dp_of e1 r1) (dps_of e2 r2)
      · cases e
end
theorem fold_max : ∀ (r : List Int) (n : Int), (r.foldl max n ∈ n :: r) ∧ ∀ y ∈ n :: r, y ≤ r.foldl max n
  | [], n => ⟨List.mem_cons_self, fun y hy => by rw [List.mem_singleton.mp hy]; exact Int.le_refl _⟩
  | m :: r, n => by
    obtain ⟨h1, h2⟩ := fold_max r (max n m)
    show (r.foldl max (max n m) ∈ n :: m :: r) ∧ ∀ y ∈ n :: m :: r, y ≤ r.foldl max (max n m)
    have h3 := h2 (max n m) List.mem_cons_self
    refine ⟨?_, fun y hy => ?_⟩
    · rcases List.mem_cons.mp h1 with h | h
      · rw [h]
        by_cases z : n ≤ m
        · rw [show max n m = m by omega]; simp
        · rw [show max n m = n by omega]; simp
      · simp [h]
    · rcases List.mem_cons.mp hy with rfl | hy
      · omega
      · rcases List.mem_cons.mp hy with rfl | hy
        · omega
        · exact h2 y (List.mem_cons_of_mem _ hy)
theorem op_bi (hc : X.calm = true) (f : BF) (hG : f = .reprD → X.A.guards = some [] ∧ X.A.units + 200 < cLine) : CallR X (bfn f) (rB X.K f) := by
  cases f with
  | reprD =>
    obtain ⟨hg, hu⟩ := hG rfl
    refine CallR.imp (SkE.call_repr_int.or (call_reprG hg)) fun xs H Q ⟨μ, st, as, v, o, ra, e, g⟩ => ?_
    unfold biV at e
    split at e <;> try contradiction
    · cases ra with
      | cons r1 r2 =>
        cases r2
        unfold shownV at e
        split at e
        · rename_i d hd
          split at e
          · rename_i hh
            cases e
            have dp := dp_of hd r1
            cases r1 with
            | tup h1 h2 =>
              obtain ⟨q1, q2, q3, q4⟩ := hh
              exact .inr ⟨_, d, rfl, dp, q1, q2, by omega, q4, g.same o (.str _) rfl⟩
          · cases e
        · cases e
    · cases ra with
      | cons r1 r2 =>
        cases r2
        cases r1
        split at e
        · rename_i hz
          cases e
          exact .inl ⟨_, rfl, log_ok hz, g.same o (.str _) rfl⟩
        · cases e
  | len =>
    refine CallR.imp (call_len_seq.or call_len_str) fun xs H Q ⟨μ, st, as, v, o, ra, e, g⟩ => ?_
    unfold biV at e
    split at e <;> try contradiction
    · cases ra with
      | cons r1 r2 =>
        cases r2; cases r1
        split at e
        · rename_i hz
          cases e
          exact .inr ⟨_, rfl, hz, g.same o (.int _) rfl⟩
        · cases e
    · cases ra with
      | cons r1 r2 =>
        cases r2
        obtain ⟨ys, h1, rfl⟩ := Option.map_eq_some_iff.mp e
        obtain ⟨p, vs, rfl, q, r⟩ := seq_at o r1 h1
        refine .inl ⟨p, vs, rfl, q, ?_⟩
        rw [← r.len]
        exact g.same o (.int _) rfl
  | int =>
    refine CallR.imp call_int1 fun xs H Q ⟨μ, st, as, v, o, ra, e, g⟩ => ?_
    unfold biV at e
    split at e <;> try contradiction
    · cases ra with
      | cons r1 r2 => cases r2; cases r1; cases e; exact .inl ⟨_, rfl, g.same o (.int _) rfl⟩
    · cases ra with
      | cons r1 r2 => cases r2; cases r1; cases e; exact .inr ⟨_, rfl, g.same o (.int _) rfl⟩
  | abs =>
    refine CallR.imp call_abs fun xs H Q ⟨μ, st, as, v, o, ra, e, g⟩ => ?_
    unfold biV at e
    split at e <;> try contradiction
    cases ra with
    | cons r1 r2 => cases r2; cases r1; cases e; exact ⟨_, rfl, g.same o (.int _) rfl⟩
  | max =>
    refine CallR.imp ((call_max2 hc).or (cr_max hc)) fun xs H Q ⟨μ, st, as, v, o, ra, e, g⟩ => ?_
    unfold biV at e
    split at e <;> try contradiction
    · cases ra with
      | cons r1 r2 =>
        cases r2 with
        | cons r2 r3 => cases r3; cases r2; cases r1; cases e; exact .inl ⟨_, _, rfl, g.same o (.int _) rfl⟩
    · cases ra with
      | cons r1 r2 =>
        cases r2
        split at e
        · rename_i xs' hx
          split at e
          · rename_i n r hn
            cases e
            obtain ⟨p, vs, rfl, q, rs⟩ := rd_at o r1 hx
            have ev := ints_at rs hn
            subst ev
            obtain ⟨f1, f2⟩ := fold_max r n
            refine .inr ⟨p, n :: r, rfl, q, by simp, fun m hm hle => ?_⟩
            have : m = r.foldl max n := Int.le_antisymm (f2 m hm) (hle _ f1)
            rw [this]
            exact g.same o (.int _) rfl
          · cases e
        · cases e
  | min =>
    refine CallR.imp (call_min2 hc) fun xs H Q ⟨μ, st, as, v, o, ra, e, g⟩ => ?_
    unfold biV at e
    split at e <;> try contradiction
    cases ra with
    | cons r1 r2 =>
      cases r2 with
      | cons r2 r3 => cases r3; cases r2; cases r1; cases e; exact ⟨_, _, rfl, g.same o (.int _) rfl⟩
  | str =>
    refine CallR.imp call_strIS fun xs H Q ⟨μ, st, as, v, o, ra, e, g⟩ => ?_
    unfold biV at e
    split at e <;> try contradiction
    · cases ra with
      | cons r1 r2 =>
        cases r2
        cases r1 with
        | int i =>
        split at e
        · rename_i hz
          cases e
          exact .inl ⟨_, rfl, log_ok hz, g.same o (.str _) rfl⟩
        · cases e
    · cases ra with
      | cons r1 r2 =>
        cases r2
        cases r1 with
        | str z =>
          cases e
          exact .inr ⟨_, rfl, g.same o (.str _) rfl⟩
  | repr =>
    refine CallR.imp call_reprBS fun xs H Q ⟨μ, st, as, v, o, ra, e, g⟩ => ?_
    unfold biV at e
    split at e <;> try contradiction
    · cases ra with
      | cons r1 r2 => cases r2; cases r1; cases e; exact .inl ⟨_, rfl, g.same o (.str _) rfl⟩
    · cases ra with
      | cons r1 r2 =>
        cases r2; cases r1
        split at e
        · rename_i hz
          cases e
          exact .inr ⟨_, rfl, hz, g.same o (.str _) rfl⟩
        · cases e
  | list =>
    refine CallR.imp call_list_of fun xs H Q ⟨μ, st, as, v, o, ra, e, g⟩ => ?_
    unfold biV at e
    split at e <;> try contradiction
    cases ra with
    | cons r1 r2 =>
      cases r2
      obtain ⟨ys, h1, rfl⟩ := Option.map_eq_some_iff.mp e
      obtain ⟨p, vs, rfl, q, r⟩ := seq_at o r1 h1
      exact ⟨p, vs, rfl, q, g.lst o r⟩
  | tuple =>
    refine CallR.imp call_tuple_of fun xs H Q ⟨μ, st, as, v, o, ra, e, g⟩ => ?_
    unfold biV at e
    split at e <;> try contradiction
    · cases ra with
      | cons r1 r2 =>
        cases r2
        cases e
        cases r1 with
        | tup h1 r1 => exact ⟨_, _, rfl, .inr ⟨h1, g.same o (.tup h1 r1) rfl⟩⟩
    · cases ra with
      | cons r1 r2 =>
        cases r2
        obtain ⟨ys, h1, rfl⟩ := Option.map_eq_some_iff.mp e
        have fin : rdOf _ st = some ys → ∃ p ys, [_] = [V.ref p] ∧ ((SqL X.K H p ys ∧ ∀ l, H l = none → Q (.ref l) (upd H l (.tup ys))) ∨ (SqT X.K H p ys ∧ Q (.ref p) H)) := fun h => by
          obtain ⟨p, vs, e2, q, r⟩ := rd_at o r1 h
          exact ⟨p, vs, congrArg (fun z => [z]) e2, .inl ⟨q, g.tup o r⟩⟩
        cases r1 with
        | @tup zs a vs h2 r2 =>
          cases h1
          exact ⟨_, _, rfl, .inr ⟨h2, g.same o (.tup h2 r2) rfl⟩⟩
        | _ => exact fin h1
  | sum =>
    refine CallR.imp (cr_sum hc) fun xs H Q ⟨μ, st, as, v, o, ra, e, g⟩ => ?_
    unfold biV at e
    split at e <;> try contradiction
    cases ra with
    | cons r1 r2 =>
      cases r2
      split at e
      · rename_i ys hy
        obtain ⟨ns, h1, rfl⟩ := Option.map_eq_some_iff.mp e
        obtain ⟨p, vs, rfl, q, r⟩ := rd_at o r1 hy
        have := ints_at r h1
        subst this
        exact ⟨p, ns, rfl, q, g.same o (.int _) rfl⟩
      · cases e
  | all =>
    refine CallR.imp (cr_all hc) fun xs H Q ⟨μ, st, as, v, o, ra, e, g⟩ => ?_
    unfold biV at e
    split at e <;> try contradiction
    cases ra with
    | cons r1 r2 =>
      cases r2
      split at e
      · rename_i ys hy
        obtain ⟨ns, h1, rfl⟩ := Option.map_eq_some_iff.mp e
        obtain ⟨p, vs, rfl, q, r⟩ := rd_at o r1 hy
        have := bools_at r h1
        subst this
        exact ⟨p, ns, rfl, q, g.same o (.bl _) rfl⟩
      · cases e
  | any =>
    refine CallR.imp (cr_any hc) fun xs H Q ⟨μ, st, as, v, o, ra, e, g⟩ => ?_
    unfold biV at e
    split at e <;> try contradiction
    cases ra with
    | cons r1 r2 =>
      cases r2
      split at e
      · rename_i ys hy
        obtain ⟨ns, h1, rfl⟩ := Option.map_eq_some_iff.mp e
        obtain ⟨p, vs, rfl, q, r⟩ := rd_at o r1 hy
        have := bools_at r h1
        subst this
        exact ⟨p, ns, rfl, q, g.same o (.bl _) rfl⟩
      · cases e

/-! ### methods -/
def mfn : MF → String
  | .append => "list.append" | .split => "str.split" | .partition => "str.partition" | .join => "str.join"
def rM (K : PySem.W.Frag) (f : MF) : V → List V → Hp → VK → Prop := fun x' vs H Q => ∃ μ st x as v st', Ok K μ st H ∧ RV K μ st.length H x x' ∧ RAs K μ st.length H as vs ∧ mtV f x as st = .ok v st' ∧
  ∀ H' v', Stp μ st.length H μ st'.length H' → Ok K μ st' H' → RV K μ st'.length H' v v' → Fr H v v' → Q v' H'
theorem op_mt (f : MF) : MtR X (mfn f) (rM X.K f) := by
  cases f with
  | append =>
    refine MtR.imp (show MtR X "list.append" rAppend from mt_append) fun x xs H Q ⟨μ, st, a, as, v, st', o, ra, rs, e, g⟩ => ?_
    unfold mtV at e
    split at e <;> try contradiction
    cases rs with
    | cons r1 r2 =>
      cases r2
      split at e
      · rename_i zs hz
        split at e
        · rename_i hc
          cases e
          cases ra with
          | loc hn =>
            obtain ⟨vs, h1, h2⟩ := o.cell _ _ hz
            obtain ⟨s1, o1⟩ := o.write hn (h2.app (RVs.one hc.2 r1))
            refine ⟨_, vs, _, rfl, rfl, h1, by rw [← h2.len]; exact hc.1, g _ _ s1 o1 .non trivial⟩
        · cases e
      · cases e
  | split =>
    refine MtR.imp mt_split fun x xs H Q ⟨μ, st, a, as, v, st', o, ra, rs, e, g⟩ => ?_
    unfold mtV at e
    split at e <;> try contradiction
    cases rs with
    | cons r1 r2 =>
      cases r2; cases r1; cases ra
      split at e
      · cases e
      · rename_i hc
        cases e
        refine ⟨_, _, rfl, rfl, ?_, by omega, fun p hp => ?_⟩
        · rw [beq_eq_false_iff_ne]; omega
        · rename_i s1 s2
          have q : ∀ (l : List Str), RVs X.K μ st.length H (l.map PV.str) (l.map V.str) := fun l => by
            induction l with
            | nil => exact .nil
            | cons z l ih => exact .cons rfl (.str z) ih
          exact (show Go X.K μ st H _ Q from g).lst o (q _) p hp
  | partition =>
    refine MtR.imp mt_partition fun x xs H Q ⟨μ, st, a, as, v, st', o, ra, rs, e, g⟩ => ?_
    unfold mtV at e
    split at e <;> try contradiction
    cases rs with
    | cons r1 r2 =>
      cases r2; cases r1; cases ra
      split at e
      · cases e
      · rename_i hc
        cases e
        refine ⟨_, _, rfl, rfl, ?_, by omega, fun p hp => ?_⟩
        · rw [beq_eq_false_iff_ne]; omega
        · exact (show Go X.K μ st H _ Q from g).tup o (.cons rfl (.str _) (.cons rfl (.str _) (.cons rfl (.str _) .nil))) p hp
  | join =>
    refine MtR.imp mt_join fun x xs H Q ⟨μ, st, a, as, v, st', o, ra, rs, e, g⟩ => ?_
    unfold mtV at e
    split at e <;> try contradiction
    cases rs with
    | cons r1 r2 =>
      cases r2; cases ra
      split at e
      · rename_i zs hz
        split at e
        · rename_i ys hy
          split at e
          · rename_i hc
            cases e
            obtain ⟨p, vs, rfl, q, r⟩ := seq_at o r1 hz
            have := strs_at r hy
            subst this
            exact ⟨_, p, ys, rfl, rfl, q, by rw [Nat.mul_comm]; omega, g _ _ StX.refl o (.str _) trivial⟩
          · cases e
        · cases e
      · cases e
end
end U

set_option maxHeartbeats 4000000
/-! U5: expressions: the text is the program, and what the program yields the machine yields. -/
namespace U
open PySem PySem.Spec PyProof.Rows L2

/-! ### is this text that program -/
structure Ct where
  N : List Str
  sc : Scope
  fn : List (Str × Nat)
  cs : List (Str × PV)
  bl : List Str
  ds : List (Str × List (Str × PV))
  gk : Bool
def visB (sc : Scope) (x : Str) : Bool := match sc.names.lookup x with
  | some .local => true
  | some .cell => true
  | some .free => true
  | _ => false
def glB (sc : Scope) (x : Str) : Bool := match sc.names.lookup x with
  | some .globalImplicit => !(x == ("__debug__" : Str))
  | _ => false
def conB : PV → Const → Bool
  | .non, .none => true
  | .bl a, .bool b => a == b
  | .int a, .int b => decide (a = b)
  | .str a, .str b => decide (a = b)
  | _, _ => false
def bname : BF → Str
  | .len => "len" | .int => "int" | .abs => "abs" | .max => "max" | .min => "min" | .str => "str" | .repr => "repr" | .reprD => "repr"
  | .list => "list" | .tuple => "tuple" | .sum => "sum" | .all => "all" | .any => "any"
/-- may it stand where the guards are not known -/
def gOk : BF → Bool
  | .reprD => false
  | _ => true
def tname : Ty → Str
  | .int => "int" | .bool => "bool" | .str => "str" | .tuple => "tuple" | .list => "list"
def tstr : Ty → String
  | .int => "int" | .bool => "bool" | .str => "str" | .tuple => "tuple" | .list => "list"
def mname : MF → Str
  | .append => "append" | .split => "split" | .partition => "partition" | .join => "join"
def MG.own (g : MG) (N : List Str) : List (Str × Nat) := g.slots.map fun i => (N.getD i "", i)
def locB (sc : Scope) (x : Str) : Bool := match sc.names.lookup x with
  | some .local => true
  | some .cell => true
  | _ => false
/-- a target's names; cell: may they be cells of the block itself -/
def mT1 (C : Ct) (i : Nat) (e : Expr) : Bool := match e with
  | .Name x _ => decide (C.N[i]? = some x) && decide (C.sc.names.lookup x = some .local)
  | _ => false
def mTs (C : Ct) : List Nat → List Expr → Bool
  | [], [] => true
  | i :: is, e :: es => mT1 C i e && mTs C is es
  | _, _ => false
def mG (C : Ct) (g : MG) (e : Expr) : Bool := match g, e with
  | .nm i, e => mT1 C i e
  | .tp is, .Tuple es _ _ => mTs C is es
  | _, _ => false
mutual
def mE (C : Ct) : ME → Expr → Bool
  | .var i, e => match e with
    | .Name x _ => decide (C.N[i]? = some x) && visB C.sc x && !(x == ("__debug__" : Str)) && !(x == ("__classdict__" : Str))
    | _ => false
  | .con v, e => match e with
    | .Constant c _ _ => conB v c
    | _ => false
  | .glb x v, e => match e with
    | .Name y _ => decide (y = x) && glB C.sc x && (match C.cs.lookup x with
      | some w => PV.same v w
      | none => false)
    | _ => false
  | .bin o a b, e => match e with
    | .BinOp l op r _ => decide (op = bop o) && mE C a l && mE C b r
    | _ => false
  | .neg a, e => match e with
    | .UnaryOp .USub x _ => mE C a x
    | _ => false
  | .cmp o a b, e => match e with
    | .Compare l [op] [r] _ => decide (op = cop o) && mE C a l && mE C b r
    | _ => false
  | .cmp2 o o' a b c, e => match e with
    | .Compare l [op, op'] [r, r'] _ => decide (op = cop o) && decide (op' = cop o') && mE C a l && mE C b r && mE C c r'
    | _ => false
  | .not a, e => match e with
    | .UnaryOp .Not x _ => mE C a x
    | _ => false
  | .and a b, e => match e with
    | .BoolOp .And [x, y] _ => mE C a x && mE C b y
    | .BoolOp .And (x :: y :: z :: r) p => mE C a x && mE C b (.BoolOp .And (y :: z :: r) p)
    | _ => false
  | .or a b, e => match e with
    | .BoolOp .Or [x, y] _ => mE C a x && mE C b y
    | .BoolOp .Or (x :: y :: z :: r) p => mE C a x && mE C b (.BoolOp .Or (y :: z :: r) p)
    | _ => false
  | .ite t a b, e => match e with
    | .IfExp c x y _ => mE C t c && mE C a x && mE C b y
    | _ => false
  | .fn f as, e => match e with
    | .Call (.Name x _) (y :: ys) [] _ => decide (C.fn.lookup x = some f) && glB C.sc x && mA C as (y :: ys)
    | _ => false
  | .bi f as, e => match e with
    | .Call (.Name x _) (y :: ys) [] _ => decide (x = bname f) && C.bl.contains x && glB C.sc x && (gOk f || C.gk) && mA C as (y :: ys)
    | _ => false
  | .mt f o as, e => match e with
    | .Call (.Attribute x name apos) [y] [] pos => decide (name = mname f) && mE C o x && (apos.endLine == pos.line) && !(match x with
        | .Call _ [] [] _ => true
        | _ => false) && mA C as [y]
    | _ => false
  | .tup as, e => match e with
    | .Tuple es _ _ => mA C as es
    | _ => false
  | .lst as, e => match e with
    | .List es _ => mA C as es
    | _ => false
  | .ix a i, e => match e with
    | .Subscript x y _ => mE C a x && mE C i y
    | _ => false
  | .sl a lo hi, e => match e with
    | .Subscript x (.Slice l h none _) _ => mE C a x && (match l with
        | none => lo.absent
        | some y => !lo.absent && mE C lo y) && (match h with
        | none => hi.absent
        | some y => !hi.absent && mE C hi y)
    | _ => false
  | .lc elt g (.rng a b) has c, e => match e with
    | .ListComp x [⟨tg, .Call (.Name f _) es [] _, ifs, 0⟩] scope _ => decide (f = "range") && C.bl.contains "range" && glB C.sc f &&
        (match es with
        | [y] => (match a with
          | .con (.int 0) => mE C b y
          | _ => false)
        | [z, y] => mE C a z && mE C b y
        | _ => false) && blkC C.N C.sc scope (g.own C.N) && mG { C with sc := relS scope C.sc } g tg &&
        (match has, ifs with
        | true, [t] => mE { C with sc := relS scope C.sc } c t
        | false, [] => true
        | _, _ => false) && mE { C with sc := relS scope C.sc } elt x
    | _ => false
  | .lc elt g src has c, e => match e with
    | .ListComp x [⟨tg, iter, ifs, 0⟩] scope _ => mE C src iter && blkC C.N C.sc scope (g.own C.N) && mG { C with sc := relS scope C.sc } g tg &&
        (match has, ifs with
        | true, [t] => mE { C with sc := relS scope C.sc } c t
        | false, [] => true
        | _, _ => false) && mE { C with sc := relS scope C.sc } elt x
    | _ => false
  | .rng _ _, _ => false
  | .mxd a d, e => match e with
    | .Call (.Name f _) [x] [⟨some kw, .Constant (.int i) _ _, _⟩] _ => decide (f = "max") && C.bl.contains "max" && glB C.sc f && decide (kw = Str.ofString "default") && decide (i = d) && mE C a x
    | _ => false
  | .fmt a, e => match e with
    | .FormattedValue x c none _ => decide (c = -1) && mE C a x
    | _ => false
  | .fstr as, e => match e with
    | .JoinedStr (x :: y :: r) _ => mA C as (x :: y :: r)
    | _ => false
  | .dix x kvs a, e => match e with
    | .Subscript (.Name y _) k _ => decide (y = x) && glB C.sc x && (match C.ds.lookup x with
      | some w => sameD kvs w
      | none => false) && mE C a k
    | _ => false
  | .gget x kvs a b, e => match e with
    | .Call (.Attribute (.Name y _) name apos) [k, d] [] pos => decide (y = x) && decide (name = "get") && glB C.sc x && (apos.endLine == pos.line) && (match C.ds.lookup x with
      | some w => sameD kvs w
      | none => false) && mE C a k && mE C b d
    | _ => false
  | .isi t a, e => match e with
    | .Call (.Name f _) [x, .Name y _] [] _ => decide (f = "isinstance") && C.bl.contains "isinstance" && glB C.sc f && decide (y = tname t) && C.bl.contains y && glB C.sc y && mE C a x
    | _ => false
def mA (C : Ct) : MEs → List Expr → Bool
  | .nil, es => match es with
    | [] => true
    | _ => false
  | .cons a as, es => match es with
    | [] => false
    | e :: es => mE C a e && mA C as es
end
end U

set_option maxHeartbeats 4000000
/-! U6: readings of expressions. -/
namespace U
open PySem PySem.Spec PyProof.Rows L2

theorem bind_ok {α β : Type} {r : Res α} {f : α → Store → Res β} {b : β} {st : Store} (h : r.bind f = .ok b st) : ∃ a st1, r = .ok a st1 ∧ f a st1 = .ok b st := by
  cases r with
  | ok a st1 => exact ⟨a, st1, rfl, h⟩
  | bad => cases h
theorem opt_ok {α : Type} {o : Option α} {st st1 : Store} {b : α} (h : opt o st = .ok b st1) : o = some b ∧ st = st1 := by
  cases o with
  | some a => cases h; exact ⟨rfl, rfl⟩
  | none => cases h
theorem isBl_ok {x : PV} {k : Bool} (h : isBl x = some k) : x = .bl k := by
  unfold isBl at h
  split at h
  · cases h; rfl
  · cases h
theorem done_ok {m : Md} {v w : PV} {st st1 : Store} (h : done m v st = .ok w st1) (hm : m ≠ .test) : w = v ∧ st = st1 := by
  cases m with
  | val => cases h; exact ⟨rfl, rfl⟩
  | use => cases h; exact ⟨rfl, rfl⟩
  | test => exact absurd rfl hm

section
variable {K : PySem.W.Frag} {μ μ1 μ2 : Nat → Addr} {L L1 : Nat} {H H1 H2 : Hp} {S : Addr → Prop}
theorem bind_assoc {α β γ : Type} (r : Res α) (f : α → Store → Res β) (g : β → Store → Res γ) : (r.bind f).bind g = r.bind fun a st => (f a st).bind g := by cases r <;> rfl
/-- the names' values -/
structure RE (K : PySem.W.Frag) (μ : Nat → Addr) (L : Nat) (H : Hp) (env : En) (σ : L2.St) : Prop where
  len : env.length = σ.length
  at_ : ∀ (i : Nat) (x : PV), env[i]? = some (some x) → ∃ v : V, σ[i]? = some (some v) ∧ RV K μ L H x v
theorem RE.mono {env : En} {σ : L2.St} (s : Stp μ L H μ1 L1 H1) (r : RE K μ L H env σ) : RE K μ1 L1 H1 env σ :=
  ⟨r.len, fun i x h => let ⟨v, h1, h2⟩ := r.at_ i x h; ⟨v, h1, h2.mono0 s⟩⟩
theorem RE.set {env : En} {σ : L2.St} {x : PV} {v : V} (r : RE K μ L H env σ) (q : RV K μ L H x v) (i : Nat) : RE K μ L H (env.set i (some x)) (σ.set i (some v)) := by
  refine ⟨by simp [r.len], fun j y h => ?_⟩
  by_cases e : i = j
  · subst e
    by_cases hi : i < env.length
    · rw [List.getElem?_set_self hi] at h
      cases h
      exact ⟨v, List.getElem?_set_self (by rw [← r.len]; exact hi), q⟩
    · rw [List.getElem?_eq_none (by simp; omega)] at h; cases h
  · rw [List.getElem?_set_ne e] at h ⊢
    exact r.at_ j y h
theorem RE.drop {env : En} {σ : L2.St} (r : RE K μ L H env σ) (i : Nat) : RE K μ L H (env.set i none) (σ.set i none) := by
  refine ⟨by simp [r.len], fun j y h => ?_⟩
  by_cases e : i = j
  · subst e
    by_cases hi : i < env.length
    · rw [List.getElem?_set_self hi] at h
      cases h
    · rw [List.getElem?_eq_none (by simp; omega)] at h; cases h
  · rw [List.getElem?_set_ne e] at h ⊢
    exact r.at_ j y h
theorem RE.wipe {env : En} {σ : L2.St} (r : RE K μ L H env σ) : ∀ vs : List Nat, RE K μ L H (U.wipe env vs) (L2.wipe σ vs)
  | [] => r
  | v :: vs => by
    unfold U.wipe L2.wipe
    exact (RE.wipe r vs).drop v

/-! ### readings -/
def rd (K : PySem.W.Frag) (m : En → Store → Res PV) : TE := fun σ H Q => ∃ μ env st v st', Ok K μ st H ∧ RE K μ st.length H env σ ∧ m env st = .ok v st' ∧
  ∀ μ' H' v', Stp μ st.length H μ' st'.length H' → Ok K μ' st' H' → RV K μ' st'.length H' v v' → Fr H v v' → Q v' H'
def rdU (K : PySem.W.Frag) (m : En → Store → Res PV) : TE := fun σ H Q => ∃ μ env st v st', Ok K μ st H ∧ RE K μ st.length H env σ ∧ m env st = .ok v st' ∧
  ∀ μ' H' v', Stp μ st.length H μ' st'.length H' → Ok K μ' st' H' → RV K μ' st'.length H' v v' → Q v' H'
def rdT (K : PySem.W.Frag) (m : En → Store → Res PV) : TT := fun σ H Q => ∃ μ env st k st', Ok K μ st H ∧ RE K μ st.length H env σ ∧ m env st = .ok (.bl k) st' ∧
  ∀ μ' H', Stp μ st.length H μ' st'.length H' → Ok K μ' st' H' → Q k H'
def rdA (K : PySem.W.Frag) (m : En → Store → Res (List PV)) : TA := fun σ H Q => ∃ μ env st v st', Ok K μ st H ∧ RE K μ st.length H env σ ∧ m env st = .ok v st' ∧
  ∀ μ' H' v', Stp μ st.length H μ' st'.length H' → Ok K μ' st' H' → RVs K μ' st'.length H' v v' → Q v' H'
def rdC (K : PySem.W.Frag) (m : En → Store → Res (List PV)) : TA := fun σ H Q => ∃ μ env st v st', Ok K μ st H ∧ RE K μ st.length H env σ ∧ m env st = .ok v st' ∧
  ∀ μ' H' v', Stp μ st.length H μ' st'.length H' → Ok K μ' st' H' → RAs K μ' st'.length H' v v' → Q v' H'
def rdO (K : PySem.W.Frag) (m : En → Store → Res PV) (absent : Bool) : TO := fun σ H Q => ∃ μ env st v st' b, Ok K μ st H ∧ RE K μ st.length H env σ ∧ m env st = .ok v st' ∧ bound absent v = some b ∧
  ∀ μ' H', Stp μ st.length H μ' st'.length H' → Ok K μ' st' H' → Q b H'
variable {X : Cx} {e : Expr}
theorem _root_.L2.PE.imp {t t' : TE} (h : PE X e t) (i : ∀ σ H Q, t' σ H Q → t σ H Q) : PE X e t' := ⟨fun pins s σ H Q I q => h.run pins s σ H Q I (i _ _ _ q)⟩
theorem _root_.L2.PT.imp {t t' : TT} (h : PT X e t) (i : ∀ σ H Q, t' σ H Q → t σ H Q) : PT X e t' := ⟨fun pins s σ H Q I q => h.run pins s σ H Q I (i _ _ _ q)⟩
theorem _root_.L2.PW.imp {t t' : TT} (h : PW X e t) (i : ∀ σ H Q, t' σ H Q → t σ H Q) : PW X e t' := ⟨fun wh pins s σ H Q I q => h.run wh pins s σ H Q I (i _ _ _ q)⟩
theorem _root_.L2.PA.imp {es : List Expr} {t t' : TA} (h : PA X es t) (i : ∀ σ H Q, t' σ H Q → t σ H Q) : PA X es t' := ⟨fun pos pins s σ H Q I q => h.run pos pins s σ H Q I (i _ _ _ q)⟩
theorem _root_.L2.PO.imp {o : Option Expr} {t t' : TO} (h : PO X o t) (i : ∀ σ H Q, t' σ H Q → t σ H Q) : PO X o t' := ⟨fun pins s σ H Q I q => h.run pins s σ H Q I (i _ _ _ q)⟩
theorem rd_eq {m m' : En → Store → Res PV} (e : ∀ env st, m' env st = m env st) : ∀ σ H Q, rd K m' σ H Q → rd K m σ H Q := fun σ H Q ⟨μ, env, st, v, st', o, r, h, g⟩ => ⟨μ, env, st, v, st', o, r, by rw [← e]; exact h, g⟩
theorem rdU_of {m : En → Store → Res PV} (h : PE X e (rd X.K m)) : PE X e (rdU X.K m) := h.imp fun σ H Q ⟨μ, env, st, v, st', o, r, h, g⟩ => ⟨μ, env, st, v, st', o, r, h, fun μ' H' v' s o' r' _ => g μ' H' v' s o' r'⟩

/-- an expression's three readings -/
structure SE (X : Cx) (call : Nat → List PV → Store → Res PV) (m : ME) (e : Expr) : Prop where
  val : PE X e (rd X.K (ev call m .val))
  use : PE X e (rdU X.K (ev call m .use))
  test : PT X e (rdT X.K (ev call m .test))
variable {call : Nat → List PV → Store → Res PV} {m : ME}
/-- whose test is its value's truth -/
theorem SE.plain (core : En → Store → Res PV) (h : PE X e (rd X.K core)) (eq : ∀ md env st, ev call m md env st = (core env st).bind fun v st1 => done md v st1)
    (he : ∀ whole, isTrue e X.env whole = (do let v ← whole; standAt e.pos; holding [v] (truthy v))) : SE X call m e := by
  have hv : PE X e (rd X.K (ev call m .val)) := h.imp (rd_eq fun env st => by
    rw [eq]
    cases core env st <;> rfl)
  refine ⟨hv, rdU_of (hv.imp (rd_eq fun env st => by
    rw [eq, eq]
    cases core env st <;> rfl)), ?_⟩
  refine PT.imp (pt_truth h he) fun σ H Q ⟨μ, env, st, k, st', o, r, h, g⟩ => ?_
  rw [eq] at h
  obtain ⟨v, st1, h1, h2⟩ := bind_ok h
  obtain ⟨k', st2, h3, h4⟩ := bind_ok h2
  obtain ⟨h5, rfl⟩ := opt_ok h3
  cases h4
  exact ⟨μ, env, st, v, st', o, r, h1, fun μ' H' v' s o' r' _ => ⟨k, truth_at o' r' h5, g μ' H' s o'⟩⟩
/-- which is a bool -/
theorem SE.bool (h : PE X e (rd X.K (ev call m .val))) (hu : ∀ env st, ev call m .use env st = ev call m .val env st) (t : PT X e (rdT X.K (ev call m .test))) : SE X call m e :=
  ⟨h, rdU_of (h.imp (rd_eq hu)), t⟩

/-! two operands -/
theorem pe_bin {a b : ME} {x y : Expr} {f : PV → PV → Store → Option PV} {g : Expr} (ha : SE X call a x) (hb : SE X call b y) (hr : ∀ {ta tb : TE}, PE X x ta → PE X y tb → PE X g (tOp (rO X.K f) ta tb)) :
    PE X g (rd X.K fun env st => (ev call a .use env st).bind fun x st1 => (ev call b .use env st1).bind fun y st2 => opt (f x y st2) st2) := by
  refine (hr ha.use hb.use).imp fun σ H Q ⟨μ, env, st, v, st', o, r, h, g⟩ => ?_
  obtain ⟨x1, st1, h1, h2⟩ := bind_ok h
  obtain ⟨y1, st2, h3, h4⟩ := bind_ok h2
  obtain ⟨h5, rfl⟩ := opt_ok h4
  exact ⟨μ, env, st, x1, st1, o, r, h1, fun μ1 H1 x' s1 o1 r1 => ⟨μ1, env, st1, y1, st2, o1, r.mono s1, h3, fun μ2 H2 y' s2 o2 r2 => ⟨μ2, st2, x1, y1, v, o2, r1.mono0 s2, r2, h5,
    fun H3 v' s3 o3 r3 f3 => g μ2 H3 v' (Stp.trans s1 (Stp.trans s2 s3)) o3 r3 (f3.back (Stp.trans s1 s2))⟩⟩⟩
theorem pe_binV {a b : ME} {x y : Expr} {f : PV → PV → Store → Option PV} {g : Expr} (ha : SE X call a x) (hb : SE X call b y) (hr : ∀ {ta tb : TE}, PE X x ta → PE X y tb → PE X g (tOp (rO X.K f) ta tb)) :
    PE X g (rd X.K fun env st => (ev call a .use env st).bind fun x st1 => (ev call b .val env st1).bind fun y st2 => opt (f x y st2) st2) := by
  refine (hr ha.use hb.val).imp fun σ H Q ⟨μ, env, st, v, st', o, r, h, g⟩ => ?_
  obtain ⟨x1, st1, h1, h2⟩ := bind_ok h
  obtain ⟨y1, st2, h3, h4⟩ := bind_ok h2
  obtain ⟨h5, rfl⟩ := opt_ok h4
  exact ⟨μ, env, st, x1, st1, o, r, h1, fun μ1 H1 x' s1 o1 r1 => ⟨μ1, env, st1, y1, st2, o1, r.mono s1, h3, fun μ2 H2 y' s2 o2 r2 _ => ⟨μ2, st2, x1, y1, v, o2, r1.mono0 s2, r2, h5,
    fun H3 v' s3 o3 r3 f3 => g μ2 H3 v' (Stp.trans s1 (Stp.trans s2 s3)) o3 r3 (f3.back (Stp.trans s1 s2))⟩⟩⟩
theorem se_bin {o : BOp} {a b : ME} {x y : Expr} {pos : Pos} (ha : SE X call a x) (hb : SE X call b y) : SE X call (.bin o a b) (.BinOp x (bop o) y pos) :=
  .plain _ (pe_bin ha hb fun p q => pe_op (op_bin o) p q) (fun md env st => by rw [ev]; simp only [bind_assoc]) fun _ => rfl
theorem se_ix {a b : ME} {x y : Expr} {pos : Pos} (ha : SE X call a x) (hb : SE X call b y) (hs : PlainIx y) : SE X call (.ix a b) (.Subscript x y pos) :=
  .plain _ (pe_binV ha hb fun p q => pe_ix op_ix p q hs) (fun md env st => by rw [ev]; simp only [bind_assoc]) fun _ => rfl
theorem tC_imp {core : PV} {v' : V} (h : ∀ μ L H, RV K μ L H core v') (f : core.isFl = false) : ∀ σ H Q, rd K (fun _ st => .ok core st) σ H Q → tC v' σ H Q := fun σ H Q ⟨μ, env, st, v, st', o, r, e, g⟩ => by
  cases e
  exact g μ H v' StX.refl o (h _ _ _) (fr_of f)
theorem se_con {v : PV} {c : Const} {k : Nat} {pos : Pos} (h : conB v c = true) : SE X call (.con v) (.Constant c k pos) := by
  refine .plain (fun _ st => .ok v st) ?_ (fun md env st => by rw [ev]; rfl) fun _ => rfl
  unfold conB at h
  split at h
  · exact pe_non.imp (tC_imp (fun _ _ _ => .non) rfl)
  · cases eq_of_beq h
    exact pe_bl.imp (tC_imp (fun _ _ _ => .bl _) rfl)
  · cases of_decide_eq_true h
    exact pe_int.imp (tC_imp (fun _ _ _ => .int _) rfl)
  · cases of_decide_eq_true h
    exact pe_str.imp (tC_imp (fun _ _ _ => .str _) rfl)
  · cases h
theorem se_glb {x : Str} {v : PV} {v' : V} {u : Value} {pos : Pos} (hg : Gl X x) (hm : X.mg x = some u) (hr : RelV v' u) (h : ∀ μ L H, RV X.K μ L H v v') (f : v.isFl = false) (hd : (x == ("__debug__" : Str)) = false) : SE X call (.glb x v) (.Name x pos) :=
  .plain (fun _ st => .ok v st) ((pe_glob hg hm hr hd).imp (tC_imp h f)) (fun md env st => by rw [ev]; rfl) fun _ => rfl
theorem se_var {i : Nat} {x : Str} {pos : Pos} (hN : X.N[i]? = some x) (hv : Vis X.env.scope x) (hd : (x == ("__debug__" : Str)) = false) (hcd : (x == ("__classdict__" : Str)) = false) : SE X call (.var i) (.Name x pos) := by
  have base : PE X (.Name x pos) (tVar i) := pe_var hN hv hd hcd
  refine ⟨base.imp fun σ H Q ⟨μ, env, st, v, st', o, r, h, g⟩ => ?_, base.imp fun σ H Q ⟨μ, env, st, v, st', o, r, h, g⟩ => ?_, PT.imp (pt_truth base fun _ => rfl) fun σ H Q ⟨μ, env, st, k, st', o, r, h, g⟩ => ?_⟩
  · rw [ev] at h
    unfold varV at h
    split at h
    · rename_i w hw
      obtain ⟨v', h1, h2⟩ := r.at_ i w hw
      simp only at h
      split at h
      · cases h
      · rename_i nf
        cases h
        exact ⟨v', h1, g μ H v' StX.refl o h2 (by cases h2 <;> first | trivial | exact absurd rfl (nf _))⟩
    · cases h
  · rw [ev] at h
    unfold varV at h
    split at h
    · rename_i w hw
      obtain ⟨v', h1, h2⟩ := r.at_ i w hw
      cases h
      exact ⟨v', h1, g μ H v' StX.refl o h2⟩
    · cases h
  · rw [ev] at h
    unfold varV at h
    split at h
    · rename_i w hw
      obtain ⟨v', h1, h2⟩ := r.at_ i w hw
      simp only at h
      obtain ⟨k', st2, h3, h4⟩ := bind_ok h
      obtain ⟨h5, rfl⟩ := opt_ok h3
      cases h4
      exact ⟨v', h1, k, truth_at o h2 h5, g μ H StX.refl o⟩
    · cases h
theorem se_neg {a : ME} {x : Expr} {pos : Pos} (ha : SE X call a x) : SE X call (.neg a) (.UnaryOp .USub x pos) := by
  refine .plain (fun env st => (ev call a .val env st).bind fun x st1 => match x with
    | .int i => .ok (.int (-i)) st1
    | _ => .bad) ((pe_un un_neg ha.val).imp fun σ H Q ⟨μ, env, st, v, st', o, r, h, g⟩ => ?_) (fun md env st => ?_) fun _ => rfl
  · obtain ⟨x1, st1, h1, h2⟩ := bind_ok h
    split at h2
    · cases h2
      refine ⟨μ, env, st, _, _, o, r, h1, fun μ1 H1 x' s1 o1 r1 _ => ?_⟩
      cases r1
      exact ⟨_, rfl, g μ1 H1 _ s1 o1 (.int _) trivial⟩
    · cases h2
  · rw [ev, bind_assoc]
    congr 1
    funext x1 st1
    cases x1 <;> rfl
end
end U

set_option maxHeartbeats 4000000
/-! U6m: max(xs, default=d) of a list of ints, as a hand rule; used by U7. -/
namespace U
open PySem PySem.W PyProof.Rows L2
theorem reads_ints {h : Heap} : ∀ {ns : List Int} {us : List Value}, Vals (ns.map V.int) us → ReadsAll h us (ns.map PyData.int) []
  | [], us, hv => by
    cases hv
    exact .nil
  | n :: ns, us, hv => by
    cases hv with
    | cons h1 h2 =>
      obtain ⟨t, rfl⟩ := h1
      exact ReadsAll.cons (h := h) (as := []) (bs := []) (Reads.int n t) (reads_ints h2)
theorem alike_ints (ns : List Int) : AlikeAll (ns.map PyData.int) := by
  refine ⟨fun x hx y hy => ?_, fun x hx => ?_⟩
  · obtain ⟨i, _, rfl⟩ := List.mem_map.mp hx
    obtain ⟨j, _, rfl⟩ := List.mem_map.mp hy
    rfl
  · obtain ⟨i, _, rfl⟩ := List.mem_map.mp hx
    intro h
    cases h
theorem depth_ints : ∀ ns : List Int, PyData.depthAll (ns.map PyData.int) ≤ 1
  | [] => Nat.zero_le _
  | n :: ns => by
    have := depth_ints ns
    show max (PyData.depth (.int n)) (PyData.depthAll (ns.map PyData.int)) ≤ 1
    have h1 : PyData.depth (.int n) ≤ 1 := by
      show (_ : Nat) ≤ 1
      first | exact Nat.le_refl _ | exact Nat.zero_le _
    omega
theorem call_maxD {X : Cx} (hc : X.calm = true) (hu : X.A.units + 10 < cLine) : CallRK X (.builtin "max") [Str.ofString "default"]
    (fun vs zs H Q => ∃ (a : Addr) (ns : List Int) (d : Int), vs = [.ref a] ∧ zs = [.int d] ∧ SqL X.K H a (ns.map V.int) ∧ (ns = [] → Q (.int d) H) ∧ ∀ n r, ns = n :: r → Q (.int (r.foldl max n)) H) := by
  intro pins s σ H xs zs us ws Q I hx hz ⟨a, ns, d, e1, e2, hq, h0, h1⟩
  subst e1 e2
  cases hx with
  | cons x1 x2 =>
  cases x2
  obtain rfl : _ = Value.ref a := x1
  cases hz with
  | cons z1 z2 =>
  cases z2
  obtain ⟨t, rfl⟩ := z1
  obtain ⟨its, v1, v2, v3⟩ := I.list hq
  have rd : ReadsAll s.heap its.toArray.toList (ns.map PyData.int) [] := by
    rw [List.toList_toArray]
    exact reads_ints v1
  have du := depth_ints ns
  show wpAny (model X.prog X.w) X.A (PySem.call (Value.builtin "max") [Value.ref a] [(Str.ofString "default", Value.int d t)]) (EP X pins σ Q) X.xe s
  refine max_list_default (I.ok.hd hc) ?_ rd (alike_ints ns) (by omega) (fun hn h' tk hk => ?_) (fun y ys i v h' tk bs hy hv hr hk => ?_)
  · obtain ⟨o, n, p1, p2, _, p4⟩ := v2
    exact ⟨o, p1, p2, n, p4⟩
  · have hn : ns = [] := List.map_eq_nil_iff.mp hn
    exact ⟨.int d, H, I.kept hk, ⟨t, rfl⟩, h0 hn⟩
  · cases ns with
    | nil => cases hy
    | cons n r =>
      rw [List.map_cons] at hy
      injection hy with hy1 hy2
      subst hy1 hy2
      rw [maxD_ints] at hr
      obtain ⟨t', rfl⟩ : ∃ t', v = Value.int (r.foldl max n) t' := by
        cases hr
        exact ⟨_, rfl⟩
      exact ⟨.int (r.foldl max n), H, I.kept hk, ⟨t', rfl⟩, h1 n r rfl⟩
end U

set_option maxHeartbeats 4000000
/-! U7: comparisons, tests, displays, arguments, calls. -/
namespace U
open PySem PySem.Spec PyProof.Rows L2
section
variable {K : PySem.W.Frag} {μ : Nat → Addr} {L : Nat} {H : Hp} {X : Cx} {e : Expr} {call : Nat → List PV → Store → Res PV} {m : ME}
/-- the reading of a comparison's two operands -/
theorem cmp_imp {a b : ME} {f : PV → PV → Store → Option Bool} (σ : L2.St) (H : Hp) (Q : Bool → Hp → Prop)
    (q : ∃ μ env st k st', Ok X.K μ st H ∧ RE X.K μ st.length H env σ ∧ ((ev call a .use env st).bind fun x st1 => (ev call b .use env st1).bind fun y st2 => (opt (f x y st2) st2).bind fun k st3 => Res.ok (PV.bl k) st3) = Res.ok (PV.bl k) st' ∧
      ∀ μ' H', Stp μ st.length H μ' st'.length H' → Ok X.K μ' st' H' → Q k H') :
    tOp (rC X.K f) (rdU X.K (ev call a .use)) (rdU X.K (ev call b .use)) σ H fun v H' => ∃ k, v = .bl k ∧ Q k H' := by
  obtain ⟨μ, env, st, k, st', o, r, h, g⟩ := q
  obtain ⟨x1, st1, h1, h2⟩ := bind_ok h
  obtain ⟨y1, st2, h3, h4⟩ := bind_ok h2
  obtain ⟨k1, st3, h5, h6⟩ := bind_ok h4
  obtain ⟨h7, rfl⟩ := opt_ok h5
  cases h6
  exact ⟨μ, env, st, x1, st1, o, r, h1, fun μ1 H1 x' s1 o1 r1 => ⟨μ1, env, st1, y1, _, o1, r.mono s1, h3, fun μ2 H2 y' s2 o2 r2 => ⟨μ2, _, x1, y1, _, o2, r1.mono0 s2, r2, h7, _, rfl, g μ2 H2 (Stp.trans s1 s2) o2⟩⟩⟩
/-- a value that is a bool, from the wish of a bool -/
theorem rd_bl {core : En → Store → Res PV} {t : TE} (hb : ∀ env st v st', core env st = .ok v st' → ∃ k, v = .bl k)
    (i : ∀ σ H (Q : Bool → Hp → Prop), rdT K core σ H Q → t σ H fun v H' => ∃ k, v = .bl k ∧ Q k H') (mono : ∀ σ H (Q Q' : VK), (∀ v H', Q v H' → Q' v H') → t σ H Q → t σ H Q') : ∀ σ H Q, rd K core σ H Q → t σ H Q := fun σ H Q ⟨μ, env, st, v, st', o, r, h, g⟩ => by
  obtain ⟨k, rfl⟩ := hb env st v st' h
  refine mono σ H _ _ (fun v H' ⟨k', e, q⟩ => ?_) (i σ H (fun k' H' => Q (.bl k') H') ⟨μ, env, st, k, st', o, r, h, fun μ' H' s o' => g μ' H' _ s o' (.bl k) trivial⟩)
  subst e
  exact q
theorem rdU_mono {core : En → Store → Res PV} (σ : L2.St) (H : Hp) (Q Q' : VK) (i : ∀ v H', Q v H' → Q' v H') : rdU K core σ H Q → rdU K core σ H Q' := fun ⟨μ, env, st, v, st', o, r, h, g⟩ => ⟨μ, env, st, v, st', o, r, h, fun μ' H' v' s o' r' => i _ _ (g μ' H' v' s o' r')⟩
theorem rC_mono {f : PV → PV → Store → Option Bool} (x y : V) (H : Hp) (Q Q' : VK) (i : ∀ v H', Q v H' → Q' v H') : rC K f x y H Q → rC K f x y H Q' := fun ⟨μ, st, a, b, k, o, r1, r2, h, g⟩ => ⟨μ, st, a, b, k, o, r1, r2, h, i _ _ g⟩
theorem cmp_bl {a b : ME} {f : PV → PV → Store → Option Bool} (env : En) (st : Store) (v : PV) (st' : Store) (h : ((ev call a .use env st).bind fun x st1 => (ev call b .use env st1).bind fun y st2 => (opt (f x y st2) st2).bind fun k st3 => Res.ok (PV.bl k) st3) = Res.ok v st') : ∃ k, v = PV.bl k := by
  obtain ⟨x1, st1, h1, h2⟩ := bind_ok h
  obtain ⟨y1, st2, h3, h4⟩ := bind_ok h2
  obtain ⟨k1, st3, h5, h6⟩ := bind_ok h4
  cases h6
  exact ⟨k1, rfl⟩
theorem se_cmp {o : COp} {a b : ME} {x y : Expr} {pos : Pos} (ha : SE X call a x) (hb : SE X call b y) (hm : behindInMarks (cop o) y = false) : SE X call (.cmp o a b) (.Compare x [cop o] [y] pos) := by
  refine .bool ?_ (fun env st => by rw [ev, ev]) ?_
  · refine (pe_cmpR (op_cmp o) ha.use hb.use hm).imp ?_
    refine rd_bl (fun env st v st' h => by rw [ev] at h; exact cmp_bl env st v st' h) (fun σ H Q ⟨μ, env, st, k, st', o, r, h, g⟩ => by rw [ev] at h; exact cmp_imp σ H Q ⟨μ, env, st, k, st', o, r, h, g⟩) ?_
    exact fun σ H Q Q' i q => rdU_mono σ H _ _ (fun x' H1 q1 => rdU_mono σ H1 _ _ (fun y' H2 q2 => rC_mono x' y' H2 Q Q' i q2) q1) q
  · exact (pt_cmpR (op_cmp o) ha.use hb.use hm).imp fun σ H Q ⟨μ, env, st, k, st', o, r, h, g⟩ => by
      rw [ev] at h
      exact cmp_imp σ H Q ⟨μ, env, st, k, st', o, r, h, g⟩

/-- a < b < c -/
theorem cmp2_imp {a b c : ME} {f f' : PV → PV → Store → Option Bool} (σ : L2.St) (H : Hp) (Q : Bool → Hp → Prop)
    (q : ∃ μ env st k st', Ok X.K μ st H ∧ RE X.K μ st.length H env σ ∧ ((ev call a .use env st).bind fun x st1 => (ev call b .use env st1).bind fun y st2 => (opt (f x y st2) st2).bind fun k st3 =>
      if k then (ev call c .use env st3).bind fun z st4 => (opt (f' y z st4) st4).bind fun k' st5 => Res.ok (PV.bl k') st5 else Res.ok (PV.bl false) st3) = Res.ok (PV.bl k) st' ∧
      ∀ μ' H', Stp μ st.length H μ' st'.length H' → Ok X.K μ' st' H' → Q k H') :
    tChain (rC X.K f) (rC X.K f') (rdU X.K (ev call a .use)) (rdU X.K (ev call b .use)) (rdU X.K (ev call c .use)) σ H fun v H' => ∃ k, v = .bl k ∧ Q k H' := by
  obtain ⟨μ, env, st, k, st', o, r, h, g⟩ := q
  obtain ⟨x1, st1, h1, h2⟩ := bind_ok h
  obtain ⟨y1, st2, h3, h4⟩ := bind_ok h2
  obtain ⟨k1, st3, h5, h6⟩ := bind_ok h4
  obtain ⟨h7, rfl⟩ := opt_ok h5
  refine ⟨μ, env, st, x1, st1, o, r, h1, fun μ1 H1 x' s1 o1 r1 => ⟨μ1, env, st1, y1, st2, o1, r.mono s1, h3, fun μ2 H2 y' s2 o2 r2 => ⟨μ2, st2, x1, y1, k1, o2, r1.mono0 s2, r2, h7, k1, rfl, ?_⟩⟩⟩
  cases k1 with
  | false =>
    cases h6
    exact iteF ⟨false, rfl, g μ2 H2 (Stp.trans s1 s2) o2⟩
  | true =>
    obtain ⟨z1, st4, h8, h9⟩ := bind_ok h6
    obtain ⟨k2, st5, h10, h11⟩ := bind_ok h9
    obtain ⟨h12, rfl⟩ := opt_ok h10
    cases h11
    exact iteT ⟨μ2, env, _, z1, _, o2, r.mono (Stp.trans s1 s2), h8, fun μ3 H3 z' s3 o3 r3 => ⟨μ3, _, y1, z1, _, o3, r2.mono0 s3, r3, h12, _, rfl, g μ3 H3 (Stp.trans s1 (Stp.trans s2 s3)) o3⟩⟩
theorem cmp2_bl {a b c : ME} {f f' : PV → PV → Store → Option Bool} (env : En) (st : Store) (v : PV) (st' : Store) (h : ((ev call a .use env st).bind fun x st1 => (ev call b .use env st1).bind fun y st2 => (opt (f x y st2) st2).bind fun k st3 =>
      if k then (ev call c .use env st3).bind fun z st4 => (opt (f' y z st4) st4).bind fun k' st5 => Res.ok (PV.bl k') st5 else Res.ok (PV.bl false) st3) = Res.ok v st') : ∃ k, v = PV.bl k := by
  obtain ⟨x1, st1, h1, h2⟩ := bind_ok h
  obtain ⟨y1, st2, h3, h4⟩ := bind_ok h2
  obtain ⟨k1, st3, h5, h6⟩ := bind_ok h4
  cases k1 with
  | false => cases h6; exact ⟨false, rfl⟩
  | true =>
    obtain ⟨z1, st4, h8, h9⟩ := bind_ok h6
    obtain ⟨k2, st5, h10, h11⟩ := bind_ok h9
    cases h11
    exact ⟨k2, rfl⟩
theorem se_cmp2 {o o' : COp} {a b c : ME} {x y z : Expr} {pos : Pos} (ha : SE X call a x) (hb : SE X call b y) (hc : SE X call c z) (hm : lastMarks [cop o, cop o'] [y, z] = false) :
    SE X call (.cmp2 o o' a b c) (.Compare x [cop o, cop o'] [y, z] pos) := by
  refine .bool ?_ (fun env st => by rw [ev, ev]) ?_
  · refine (pe_chain (op_cmp o) (op_cmp o') ha.use hb.use hc.use hm).imp ?_
    refine rd_bl (fun env st v st' h => by rw [ev] at h; exact cmp2_bl env st v st' h) (fun σ H Q ⟨μ, env, st, k, st', o, r, h, g⟩ => by rw [ev] at h; exact cmp2_imp σ H Q ⟨μ, env, st, k, st', o, r, h, g⟩) ?_
    refine fun σ H Q Q' i q => rdU_mono σ H _ _ (fun x' H1 q1 => rdU_mono σ H1 _ _ (fun y' H2 q2 => rC_mono x' y' H2 _ _ (fun v H3 ⟨k, e, q3⟩ => ⟨k, e, ?_⟩) q2) q1) q
    cases k with
    | false => exact iteF (i _ _ (by simpa using q3))
    | true => exact iteT (rdU_mono σ H3 _ _ (fun z' H4 q4 => rC_mono y' z' H4 _ _ i q4) (by simpa using q3))
  · exact (pt_chain (op_cmp o) (op_cmp o') ha.use hb.use hc.use hm).imp fun σ H Q ⟨μ, env, st, k, st', o, r, h, g⟩ => by
      rw [ev] at h
      exact cmp2_imp σ H Q ⟨μ, env, st, k, st', o, r, h, g⟩

/-! ### not, and, or, if -/
theorem ev_not1 {a : ME} {env : En} {st : Store} : ev call (.not a) .test env st = (ev call a .test env st).bind fun x st1 => (opt (isBl x) st1).bind fun k st2 => .ok (.bl (!k)) st2 := rfl
theorem ev_not2 {a : ME} {env : En} {st : Store} : ev call (.not a) .val env st = (ev call a .use env st).bind fun x st1 => (opt (truth x st1) st1).bind fun k st2 => .ok (.bl (!k)) st2 := rfl
theorem ev_not3 {a : ME} {env : En} {st : Store} : ev call (.not a) .use env st = (ev call a .use env st).bind fun x st1 => (opt (truth x st1) st1).bind fun k st2 => .ok (.bl (!k)) st2 := rfl
theorem se_not {a : ME} {x : Expr} {pos : Pos} (ha : SE X call a x) : SE X call (.not a) (.UnaryOp .Not x pos) := by
  refine .bool ((pe_notT ha.use).imp fun σ H Q ⟨μ, env, st, v, st', o, r, h, g⟩ => ?_) (fun env st => ev_not3.trans ev_not2.symm) ((pt_not ha.test).imp fun σ H Q ⟨μ, env, st, k, st', o, r, h, g⟩ => ?_)
  · rw [ev_not2] at h
    obtain ⟨x1, st1, h1, h2⟩ := bind_ok h
    obtain ⟨k1, st2, h3, h4⟩ := bind_ok h2
    obtain ⟨h5, rfl⟩ := opt_ok h3
    cases h4
    exact ⟨μ, env, st, x1, _, o, r, h1, fun μ1 H1 x' s1 o1 r1 => ⟨k1, truth_at o1 r1 h5, g μ1 H1 _ s1 o1 (.bl _) trivial⟩⟩
  · rw [ev_not1] at h
    obtain ⟨x1, st1, h1, h2⟩ := bind_ok h
    obtain ⟨k1, st2, h3, h4⟩ := bind_ok h2
    obtain ⟨h5, rfl⟩ := opt_ok h3
    cases isBl_ok h5
    cases h4
    exact ⟨μ, env, st, k1, _, o, r, h1, g⟩
/-- a chain of and, or: its test whatever its whole is -/
structure SB (X : Cx) (call : Nat → List PV → Store → Res PV) (m : ME) (e : Expr) : Prop where
  val : PE X e (rd X.K (ev call m .val))
  use : PE X e (rdU X.K (ev call m .use))
  test : PW X e (rdT X.K (ev call m .test))
theorem SB.se {m : ME} {e : Expr} (h : SB X call m e) : SE X call m e := ⟨h.val, h.use, h.test.pt⟩
theorem SE.one {m : ME} {x : Expr} {op : BoolOp} {pos : Pos} (h : SE X call m x) : SB X call m (.BoolOp op [x] pos) := by
  refine ⟨pe_one h.val, pe_one h.use, ?_⟩
  cases op with
  | And => exact pw_and1 h.test
  | Or => exact pw_or1 h.test
theorem sb_and {a b : ME} {x y : Expr} {ys : List Expr} {pos : Pos} (ha : SE X call a x) (hb : SB X call b (.BoolOp .And (y :: ys) pos)) : SB X call (.and a b) (.BoolOp .And (x :: y :: ys) pos) := by
  refine ⟨(pe_and ha.val hb.val).imp fun σ H Q ⟨μ, env, st, v, st', o, r, h, g⟩ => ?_, (pe_and ha.use hb.use).imp fun σ H Q ⟨μ, env, st, v, st', o, r, h, g⟩ => ?_, (pw_and ha.test hb.test).imp fun σ H Q ⟨μ, env, st, k, st', o, r, h, g⟩ => ?_⟩
  all_goals
    rw [ev] at h
    obtain ⟨x1, st1, h1, h2⟩ := bind_ok h
    obtain ⟨k1, st2, h3, h4⟩ := bind_ok h2
    obtain ⟨h5, rfl⟩ := opt_ok h3
    cases isBl_ok h5
  · refine ⟨μ, env, st, _, _, o, r, h1, fun μ1 H1 x' s1 o1 r1 _ => ?_⟩
    cases r1
    refine ⟨k1, rfl, ?_⟩
    cases k1 with
    | true => exact iteT ⟨μ1, env, _, v, st', o1, r.mono s1, h4, fun μ2 H2 v' s2 o2 r2 f2 => g μ2 H2 v' (Stp.trans s1 s2) o2 r2 (f2.back s1)⟩
    | false => cases h4; exact iteF (g μ1 H1 _ s1 o1 (.bl _) trivial)
  · refine ⟨μ, env, st, _, _, o, r, h1, fun μ1 H1 x' s1 o1 r1 => ?_⟩
    cases r1
    refine ⟨k1, rfl, ?_⟩
    cases k1 with
    | true => exact iteT ⟨μ1, env, _, v, st', o1, r.mono s1, h4, fun μ2 H2 v' s2 o2 r2 => g μ2 H2 v' (Stp.trans s1 s2) o2 r2⟩
    | false => cases h4; exact iteF (g μ1 H1 _ s1 o1 (.bl _))
  · refine ⟨μ, env, st, k1, _, o, r, h1, fun μ1 H1 s1 o1 => ?_⟩
    cases k1 with
    | true => exact iteT ⟨μ1, env, _, k, st', o1, r.mono s1, h4, fun μ2 H2 s2 o2 => g μ2 H2 (Stp.trans s1 s2) o2⟩
    | false => cases h4; exact iteF (g μ1 H1 s1 o1)
theorem sb_or {a b : ME} {x y : Expr} {ys : List Expr} {pos : Pos} (ha : SE X call a x) (hb : SB X call b (.BoolOp .Or (y :: ys) pos)) : SB X call (.or a b) (.BoolOp .Or (x :: y :: ys) pos) := by
  refine ⟨(pe_or ha.val hb.val).imp fun σ H Q ⟨μ, env, st, v, st', o, r, h, g⟩ => ?_, (pe_or ha.use hb.use).imp fun σ H Q ⟨μ, env, st, v, st', o, r, h, g⟩ => ?_, (pw_or ha.test hb.test).imp fun σ H Q ⟨μ, env, st, k, st', o, r, h, g⟩ => ?_⟩
  all_goals
    rw [ev] at h
    obtain ⟨x1, st1, h1, h2⟩ := bind_ok h
    obtain ⟨k1, st2, h3, h4⟩ := bind_ok h2
    obtain ⟨h5, rfl⟩ := opt_ok h3
    cases isBl_ok h5
  · refine ⟨μ, env, st, _, _, o, r, h1, fun μ1 H1 x' s1 o1 r1 _ => ?_⟩
    cases r1
    refine ⟨k1, rfl, ?_⟩
    cases k1 with
    | false => exact iteF ⟨μ1, env, _, v, st', o1, r.mono s1, h4, fun μ2 H2 v' s2 o2 r2 f2 => g μ2 H2 v' (Stp.trans s1 s2) o2 r2 (f2.back s1)⟩
    | true => cases h4; exact iteT (g μ1 H1 _ s1 o1 (.bl _) trivial)
  · refine ⟨μ, env, st, _, _, o, r, h1, fun μ1 H1 x' s1 o1 r1 => ?_⟩
    cases r1
    refine ⟨k1, rfl, ?_⟩
    cases k1 with
    | false => exact iteF ⟨μ1, env, _, v, st', o1, r.mono s1, h4, fun μ2 H2 v' s2 o2 r2 => g μ2 H2 v' (Stp.trans s1 s2) o2 r2⟩
    | true => cases h4; exact iteT (g μ1 H1 _ s1 o1 (.bl _))
  · refine ⟨μ, env, st, k1, _, o, r, h1, fun μ1 H1 s1 o1 => ?_⟩
    cases k1 with
    | false => exact iteF ⟨μ1, env, _, k, st', o1, r.mono s1, h4, fun μ2 H2 s2 o2 => g μ2 H2 (Stp.trans s1 s2) o2⟩
    | true => cases h4; exact iteT (g μ1 H1 s1 o1)

/-! ### arguments and displays -/
/-- an argument list's two readings -/
structure SA (X : Cx) (call : Nat → List PV → Store → Res PV) (as : MEs) (es : List Expr) : Prop where
  kept : PA X es (rdA X.K (evA call as))
  used : PA X es (rdC X.K (evCs call as))
theorem sa_nil : SA X call .nil [] := by
  refine ⟨pa_nil.imp fun σ H Q ⟨μ, env, st, v, st', o, r, h, g⟩ => ?_, pa_nil.imp fun σ H Q ⟨μ, env, st, v, st', o, r, h, g⟩ => ?_⟩
  · rw [evA] at h; cases h
    exact g μ H [] StX.refl o .nil
  · rw [evCs] at h; cases h
    exact g μ H [] StX.refl o .nil
theorem sa_cons {a : ME} {as : MEs} {x : Expr} {xs : List Expr} (ha : SE X call a x) (hs : SA X call as xs) (he : starEach (x :: xs) X.env = (false, eval x X.env) :: starEach xs X.env) : SA X call (.cons a as) (x :: xs) := by
  refine ⟨(pa_cons ha.val hs.kept he).imp fun σ H Q ⟨μ, env, st, v, st', o, r, h, g⟩ => ?_, (pa_cons ha.use hs.used he).imp fun σ H Q ⟨μ, env, st, v, st', o, r, h, g⟩ => ?_⟩
  · rw [evA] at h
    obtain ⟨x1, st1, h1, h2⟩ := bind_ok h
    obtain ⟨y1, st2, h3, h4⟩ := bind_ok h2
    cases h4
    refine ⟨μ, env, st, x1, st1, o, r, h1, fun μ1 H1 x' s1 o1 r1 f1 => ?_⟩
    obtain ⟨μe, se, oe, re, fe, _⟩ := Ok.esc s1 o1 r1 f1
    exact ⟨μe, env, _, y1, st', oe, r.mono se, h3, fun μ2 H2 ys s2 o2 r2 => g μ2 H2 _ (Stp.trans se s2) o2 (.cons fe (re.mono0 s2) r2)⟩
  · rw [evCs] at h
    obtain ⟨x1, st1, h1, h2⟩ := bind_ok h
    obtain ⟨y1, st2, h3, h4⟩ := bind_ok h2
    cases h4
    exact ⟨μ, env, st, x1, st1, o, r, h1, fun μ1 H1 x' s1 o1 r1 => ⟨μ1, env, st1, y1, st', o1, r.mono s1, h3, fun μ2 H2 ys s2 o2 r2 => g μ2 H2 _ (Stp.trans s1 s2) o2 (.cons (r1.mono0 s2) r2)⟩⟩
theorem se_tup {as : MEs} {es : List Expr} {k : Nat} {pos : Pos} (hs : SA X call as es) : SE X call (.tup as) (.Tuple es k pos) := by
  refine .plain (fun env st => (evA call as env st).bind fun xs st1 => if xs.length ≤ sizeLine then .ok (.tup xs) st1 else .bad) ((pe_tup hs.kept).imp fun σ H Q ⟨μ, env, st, v, st', o, r, h, g⟩ => ?_) (fun md env st => ?_) fun _ => rfl
  · obtain ⟨xs, st1, h1, h2⟩ := bind_ok h
    split at h2
    · rename_i hz
      cases h2
      refine ⟨μ, env, st, xs, st', o, r, h1, fun μ1 H1 vs s1 o1 r1 => ⟨by rw [← r1.len]; exact hz, fun p hp => ?_⟩⟩
      exact g μ1 _ _ (Stp.trans s1 (Stp.laid hp)) (o1.laid hp) (.tup (SqT.of upd_same) (RVs.mono (Stp.laid hp) r1)) trivial
    · cases h2
  · rw [ev, bind_assoc]
    congr 1
    funext xs st1
    split <;> rfl
theorem se_lst {as : MEs} {es : List Expr} {pos : Pos} (hs : SA X call as es) : SE X call (.lst as) (.List es pos) := by
  refine .plain (fun env st => (evA call as env st).bind fun xs st1 => if xs.length ≤ sizeLine then .ok (.fl xs) st1 else .bad) ((pe_lst hs.kept).imp fun σ H Q ⟨μ, env, st, v, st', o, r, h, g⟩ => ?_) (fun md env st => ?_) fun _ => rfl
  · obtain ⟨xs, st1, h1, h2⟩ := bind_ok h
    split at h2
    · rename_i hz
      cases h2
      refine ⟨μ, env, st, xs, st', o, r, h1, fun μ1 H1 vs s1 o1 r1 => ⟨by rw [← r1.len]; exact hz, fun p hp => ?_⟩⟩
      exact g μ1 _ _ (Stp.trans s1 (Stp.laid hp)) (o1.laid hp) (.fl upd_same (o1.apart hp) (RVs.mono (Stp.laid hp) r1)) (s1.there _ hp)
    · cases h2
  · rw [ev, bind_assoc]
    congr 1
    funext xs st1
    split <;> rfl

/-! ### calls of built-ins -/
theorem se_bi {f : BF} {as : MEs} {es : List Expr} {g : Expr} (hs : SA X call as es) (h : ∀ {r : List V → Hp → VK → Prop} {t : TA}, CallR X (bfn f) r → PA X es t → PE X g (tCB r t)) (hc : X.calm = true) (hG : f = .reprD → X.A.guards = some [] ∧ X.A.units + 200 < cLine)
    (he : ∀ whole, isTrue g X.env whole = (do let v ← whole; standAt g.pos; holding [v] (truthy v))) : SE X call (.bi f as) g := by
  refine .plain (fun env st => (evCs call as env st).bind fun xs st1 => opt (biV f xs st1) st1) ((h (op_bi hc f hG) hs.used).imp fun σ H Q ⟨μ, env, st, v, st', o, r, h, g⟩ => ?_) (fun md env st => by rw [ev, bind_assoc]) he
  obtain ⟨xs, st1, h1, h2⟩ := bind_ok h
  obtain ⟨h3, rfl⟩ := opt_ok h2
  exact ⟨μ, env, st, xs, _, o, r, h1, fun μ1 H1 vs s1 o1 r1 => ⟨μ1, _, xs, v, o1, r1, h3, fun H2 v' s2 o2 r2 f2 => g μ1 H2 v' (Stp.trans s1 s2) o2 r2 (f2.back s1)⟩⟩
/-! ### isinstance -/
theorem ty_of {K : PySem.W.Frag} {μ : Nat → Addr} {st : Store} {H : Hp} {x : PV} {v : V} (o : Ok K μ st H) (r : RV K μ st.length H x v) : ∃ t' : Value, TyX K H v t' ∧ ∀ t : Ty, PySem.W.kitOne K t' (.type (tstr t)) = some (isiV t x) := by
  cases r with
  | non => exact ⟨_, .base .non, fun t => by cases t <;> exact kit_ty (by simp only [tstr, isiV]; decide +kernel)⟩
  | bl b => exact ⟨_, .base (.bl b), fun t => by cases t <;> exact kit_ty (by simp only [tstr, isiV]; decide +kernel)⟩
  | int i => exact ⟨_, .base (.int i), fun t => by cases t <;> exact kit_ty (by simp only [tstr, isiV]; decide +kernel)⟩
  | str s => exact ⟨_, .base (.str s), fun t => by cases t <;> exact kit_ty (by simp only [tstr, isiV]; decide +kernel)⟩
  | @tup xs a vs h r =>
    have hk : ∀ t : Ty, PySem.W.kitOne K (.type "tuple") (.type (tstr t)) = some (isiV t (.tup xs)) := fun t => by cases t <;> exact kit_ty (by simp only [tstr, isiV]; decide +kernel)
    rcases h with (h | ⟨ob, h⟩) | ⟨ob, _, _, h, c, _⟩
    · exact ⟨_, .base (.tup h), hk⟩
    · exact ⟨_, .fTuple h, hk⟩
    · exact ⟨_, .kTuple h c, hk⟩
  | @loc n h =>
    obtain ⟨vs, h, _⟩ : ∃ vs, H (μ n) = some (.lst vs) ∧ True := by
      have e : st[n]? = some st[n] := by simp [h]
      rcases q : st[n] with ⟨xs⟩
      rw [q] at e
      obtain ⟨vs, h, _⟩ := o.cell n xs e
      exact ⟨vs, h, trivial⟩
    exact ⟨_, .base (.lst h), fun t => by cases t <;> exact kit_ty (by simp only [tstr, isiV]; decide +kernel)⟩
  | fl h n r => exact ⟨_, .base (.lst h), fun t => by cases t <;> exact kit_ty (by simp only [tstr, isiV]; decide +kernel)⟩
  | @rol xs a vs h r =>
    have hk : ∀ t : Ty, PySem.W.kitOne K (.type "list") (.type (tstr t)) = some (isiV t (.rol xs)) := fun t => by cases t <;> exact kit_ty (by simp only [tstr, isiV]; decide +kernel)
    rcases h with ⟨ob, h⟩ | ⟨ob, _, _, h, c, _⟩
    · exact ⟨_, .base (.frz h), hk⟩
    · exact ⟨_, .kList h c, hk⟩
theorem se_isi {t : Ty} {a : ME} {x : Expr} {p p2 pos : Pos} (ha : SE X call a x) (hg : Gl X "isinstance") (hm : X.mg "isinstance" = none) (hg2 : Gl X (tname t)) (hm2 : X.mg (tname t) = none) (hx : starEach (x :: [.Name (tname t) p2]) X.env = (false, eval x X.env) :: starEach [.Name (tname t) p2] X.env) : SE X call (.isi t a) (.Call (.Name "isinstance" p) [x, .Name (tname t) p2] [] pos) := by
  have pt : PE X (.Name (tname t) p2) (tC (.ty (tstr t))) := by cases t <;> exact pe_bltn hg2 hm2 (by decide +kernel) rfl
  have pa : PA X [x, .Name (tname t) p2] (tCons (rdU X.K (ev call a .use)) (tCons (tC (.ty (tstr t))) tNil)) := pa_cons ha.use (pa_cons pt pa_nil rfl) hx
  refine .plain (fun env st => (ev call a .use env st).bind fun x st1 => .ok (.bl (isiV t x)) st1) ((pe_callB call_isi hg hm (by decide +kernel) pa (by decide) (by decide) hx rfl).imp fun σ H Q ⟨μ, env, st, v, st', o, r, h, g⟩ => ?_) (fun md env st => by rw [ev, bind_assoc]; rfl) fun _ => rfl
  obtain ⟨x1, st1, h1, h2⟩ := bind_ok h
  cases h2
  refine ⟨μ, env, st, x1, _, o, r, h1, fun μ1 H1 x' s1 o1 r1 => ?_⟩
  obtain ⟨t', c1, c2⟩ := ty_of o1 r1
  exact ⟨x', .ty (tstr t), t', _, isiV t x1, rfl, .ty _, c1, c2 t, g μ1 H1 (.bl _) s1 o1 (.bl _) trivial⟩
/-! ### max with a default -/
theorem se_mxd {a : ME} {d : Int} {x : Expr} {p p2 p3 pos : Pos} {j : Nat} (ha : SE X call a x) (hc : X.calm = true) (hu : X.A.units + 10 < cLine) (hg : Gl X "max") (hm : X.mg "max" = none) (hx : starEach [x] X.env = (false, eval x X.env) :: starEach [] X.env) : SE X call (.mxd a d) (.Call (.Name "max" p) [x] [⟨some (Str.ofString "default"), .Constant (.int d) j p2, p3⟩] pos) := by
  have pa : PA X [x] (tCons (rdU X.K (ev call a .use)) tNil) := pa_cons ha.use pa_nil hx
  have pk : PK X [⟨some (Str.ofString "default"), .Constant (.int d) j p2, p3⟩] (tCons (tC (.int d)) tNil) := pk_cons pe_int pk_nil
  have hb : backTo pos (starEach [x] X.env) = (false, eval x X.env) :: backTo pos (starEach [] X.env) := by rw [hx]; rfl
  have hb2 : (backTo pos (starEach [x] X.env)).any (·.1) = false := by rw [hx]; rfl
  refine .plain (fun env st => (ev call a .use env st).bind fun x st1 => opt (maxdV d x st1) st1) ((pe_callBK (call_maxD hc hu) hg hm (by decide +kernel) pa pk (by decide) (by decide) hb hb2 rfl rfl rfl).imp fun σ H Q ⟨μ, env, st, v, st', o, r, h, g⟩ => ?_) (fun md env st => by simp only [ev, bind_assoc]) fun _ => rfl
  obtain ⟨x1, st1, h1, h2⟩ := bind_ok h
  obtain ⟨h3, rfl⟩ := opt_ok h2
  refine ⟨μ, env, st, x1, _, o, r, h1, fun μ1 H1 x' s1 o1 r1 => ?_⟩
  unfold maxdV at h3
  split at h3
  · rename_i xs' hr
    obtain ⟨q, vs, rfl, hq, rs⟩ := rd_at o1 r1 hr
    split at h3
    · rename_i hn
      cases h3
      have e := ints_at rs hn
      subst e
      exact ⟨q, [], d, rfl, rfl, hq, fun _ => g μ1 H1 (.int d) s1 o1 (.int _) trivial, fun n r z => by cases z⟩
    · rename_i n r hn
      cases h3
      have e := ints_at rs hn
      subst e
      exact ⟨q, n :: r, d, rfl, rfl, hq, fun z => (by cases z), fun n' r' z => by
        cases z
        exact g μ1 H1 (.int _) s1 o1 (.int _) trivial⟩
    · cases h3
  · cases h3
/-! ### a dict of the module -/
/-- d.get(y, z), d a dict of the module -/
def tKGet (es : Array DictEntry) (ty tx : TE) : TE := fun σ H Q => ty σ H fun y H2 => tx σ H2 fun z H3 => ∃ (k : Str) (r : Option Value) (v : V), y = .str k ∧ findBy Value.isStrOf es k = r ∧ (match r with | some u => RelV v u | none => v = z) ∧ Q v H3
theorem pe_kget2 {d : Addr} {es : Array DictEntry} {n : Nat} {o e f : Expr} {apos cpos : Pos} {ty tx : TE} (D : KDict X.K X.w d es n) (ho : PE X o (tC (.ref d))) (he : PE X e ty) (hf : PE X f tx) (m : M2 X o "get" apos e f cpos) : PE X (.Call (.Attribute o "get" apos) [e, f] [] cpos) (tKGet es ty tx) := by
  refine ⟨fun pins s σ H Q I h => ?_⟩
  have h' : tC (.ref d) σ H fun x H1 => x = .ref d ∧ tKGet es ty tx σ H1 Q := ⟨rfl, h⟩
  refine wpAny_Call_method m.base m.few m.line PySem.F.plainAttrs_dict PySem.F.slot_dict_get PySem.F.type_dict_get (thn (ho.run pins s σ H _ I h') fun u s1 ⟨x, H1, I1, rx, ex, q1⟩ => ?_)
  subst ex
  obtain rfl : u = Value.ref d := rx
  refine ⟨kd_type D I1, fun b q => ?_, ?_⟩
  · cases q
    exact ⟨_, I1.kIn d _ D.at_, rfl⟩
  rw [m.trees]
  refine Calls.callWith_builtin rfl (Calls.evalArgs_plain (Calls.spliced_cons (thn (he.run pins s1 σ H1 _ I1 q1) fun iv s2 ⟨y, H2, I2, ry, q2⟩ =>
    Calls.spliced_cons (thn (hf.run pins s2 σ H2 _ I2 q2) fun fv s3 ⟨z, H3, I3, rz, k, r, v, ey, en, hv, q3⟩ => Calls.spliced_nil ?_))))
  subst ey
  obtain ⟨tk, rfl⟩ := ry
  refine call_meetsIn PySem.F.slot_dict_get (kd_type D I3) PySem.F.entry_dict_get (PySem.F.args_dict_get_3 _ _ _) (meets_dict_get_default (strKind X.prog X.w) d (PySem.strKind_is X.prog X.w k tk) D.low fv) ⟨_, PySem.W.mapOf_K (prog := X.prog) I3.kIn D.at_ D.lit, ?_⟩
  rw [en]
  cases r with
  | some u0 => exact ⟨v, H3, I3.tok _, hv, q3⟩
  | none => subst hv; exact ⟨v, H3, I3.tok _, rz, q3⟩
/-- a written dict's entries and what they are -/
def DRel : List DictEntry → List (Str × PV) → Prop
  | [], [] => True
  | e :: r, (x, v) :: q => (∃ t w, e.key = .str x t ∧ flV v = some w ∧ RelV w e.val) ∧ DRel r q
  | _, _ => False
theorem DRel.find : ∀ {l : List DictEntry} {kvs : List (Str × PV)}, DRel l kvs → ∀ z : Str, match kvs.lookup z with
    | some v => ∃ w u, flV v = some w ∧ findBy Value.isStrOf l.toArray z = some u ∧ RelV w u
    | none => findBy Value.isStrOf l.toArray z = none
  | [], [], _, z => rfl
  | [], _ :: _, h, _ => h.elim
  | _ :: _, [], h, _ => h.elim
  | e :: r, (x, v) :: q, ⟨⟨t, w, h1, h2, h3⟩, h4⟩, z => by
    have ih := DRel.find h4 z
    have ef : findBy Value.isStrOf (e :: r).toArray z = if x == z then some e.val else findBy Value.isStrOf r.toArray z := by
      unfold findBy
      rw [List.find?_toArray, List.find?_toArray, List.find?_cons, h1]
      show Option.map _ (match x == z with | true => some e | false => List.find? _ r) = _
      cases x == z <;> rfl
    rw [List.lookup_cons]
    cases hz : z == x with
    | true =>
      have := eq_of_beq hz
      subst this
      simp only
      exact ⟨w, _, h2, by rw [ef, if_pos (beq_self_eq_true z)], h3⟩
    | false =>
      have hx : (x == z) = false := by
        cases q : x == z with
        | false => rfl
        | true => rw [eq_of_beq q, beq_self_eq_true] at hz; cases hz
      rw [ef, hx]
      exact ih
theorem flV_rv {K : PySem.W.Frag} {v : PV} {w : V} (h : flV v = some w) (μ : Nat → Addr) (L : Nat) (H : Hp) : RV K μ L H v w := by
  cases v <;> cases h
  · exact .non
  · exact .bl _
  · exact .int _
  · exact .str _
theorem se_fmt {a : ME} {x : Expr} {pos : Pos} (ha : SE X call a x) : SE X call (.fmt a) (.FormattedValue x (-1) none pos) := by
  refine .plain (fun env st => (ev call a .use env st).bind fun x st1 => opt (fmtV x) st1) ((pe_fmt ha.use).imp fun σ H Q ⟨μ, env, st, v, st', o, r, h, g⟩ => ?_) (fun md env st => by simp only [ev, bind_assoc]) fun _ => rfl
  obtain ⟨x1, st1, h1, h2⟩ := bind_ok h
  obtain ⟨h3, rfl⟩ := opt_ok h2
  refine ⟨μ, env, st, x1, _, o, r, h1, fun μ1 H1 x' s1 o1 r1 => ?_⟩
  cases r1 with
  | str z =>
    have h3 : (if z.length ≤ sizeLine then some (PV.str z) else none) = some v := h3
    split at h3
    · rename_i hz
      cases h3
      exact .inl ⟨z, rfl, hz, g μ1 H1 _ s1 o1 (.str _) trivial⟩
    · cases h3
  | int i =>
    have h3 : (if i.natAbs < 1000000 then some (PV.str (toString i)) else none) = some v := h3
    split at h3
    · rename_i hz
      cases h3
      exact .inr ⟨i, rfl, log_ok hz, g μ1 H1 _ s1 o1 (.str _) trivial⟩
    · cases h3
  | _ => cases h3
/-- parts of an f-string -/
def SJ (X : Cx) (call : Nat → List PV → Store → Res PV) (as : MEs) (es : List Expr) : Prop := ∃ ts : List TE, PJ X es ts ∧ ∀ (acc : Str) (σ : L2.St) (H : Hp) (Q : Str → Hp → Prop) (μ : Nat → Addr) (env : En) (st : Store) (xs : List PV) (out : Str) (st' : Store),
  Ok X.K μ st H → RE X.K μ st.length H env σ → evCs call as env st = .ok xs st' → glueV xs acc = some out → (∀ μ' H', Stp μ st.length H μ' st'.length H' → Ok X.K μ' st' H' → Q out H') → tJs ts acc σ H Q
theorem sj_nil : SJ X call .nil [] := ⟨[], .nil, fun acc σ H Q μ env st xs out st' o r h g k => by
  rw [evCs] at h; cases h
  cases g
  exact k μ H StX.refl o⟩
theorem sj_cons {a : ME} {as : MEs} {x : Expr} {xs : List Expr} (ha : SE X call a x) (hs : SJ X call as xs) : SJ X call (.cons a as) (x :: xs) := by
  obtain ⟨ts, p, q⟩ := hs
  refine ⟨_ :: ts, .cons ha.use p, fun acc σ H Q μ env st vs out st' o r h g k => ?_⟩
  rw [evCs] at h
  obtain ⟨x1, st1, h1, h2⟩ := bind_ok h
  obtain ⟨y1, st2, h3, h4⟩ := bind_ok h2
  cases h4
  refine ⟨μ, env, st, x1, st1, o, r, h1, fun μ1 H1 x' s1 o1 r1 => ?_⟩
  cases r1 with
  | str z =>
    have g : (if (acc ++ z).length ≤ sizeLine then glueV y1 (acc ++ z) else none) = some out := g
    split at g
    · rename_i hz
      exact ⟨z, rfl, hz, q (acc ++ z) σ H1 Q μ1 env st1 y1 out st' o1 (r.mono s1) h3 g fun μ2 H2 s2 o2 => k μ2 H2 (Stp.trans s1 s2) o2⟩
    · cases g
  | _ => cases g
theorem se_fstr {as : MEs} {x y : Expr} {r : List Expr} {pos : Pos} (hs : SJ X call as (x :: y :: r)) : SE X call (.fstr as) (.JoinedStr (x :: y :: r) pos) := by
  obtain ⟨ts, p, q⟩ := hs
  refine .plain (fun env st => (evCs call as env st).bind fun xs st1 => (opt (glueV xs Str.empty) st1).bind fun z st2 => .ok (.str z) st2) ((pe_joined p).imp fun σ H Q ⟨μ, env, st, v, st', o, r, h, g⟩ => ?_) (fun md env st => by simp only [ev, bind_assoc]; rfl) fun _ => rfl
  obtain ⟨xs, st1, h1, h2⟩ := bind_ok h
  obtain ⟨z, st2, h3, h4⟩ := bind_ok h2
  obtain ⟨h5, rfl⟩ := opt_ok h3
  cases h4
  exact q _ σ H (fun out H1 => Q (.str out) H1) μ env st xs z _ o r h1 h5 fun μ1 H1 s1 o1 => g μ1 H1 (.str z) s1 o1 (.str z) trivial
theorem ix_kd {d : Addr} {es : Array DictEntry} {n : Nat} (D : KDict X.K X.w d es n) : IxR X (fun x y H Q => ∃ z u v, x = .ref d ∧ y = .str z ∧ findBy Value.isStrOf es z = some u ∧ RelV v u ∧ Q v H) := by
  intro value slice pins s σ H x y v u Q I rx ry h hs
  obtain ⟨z, u0, r, rfl, rfl, e, ru, q⟩ := h
  obtain rfl : v = Value.ref d := rx
  obtain ⟨t, rfl⟩ := ry
  have hm := PySem.W.mapOf_K (prog := X.prog) (w := X.w) I.kIn D.at_ D.lit
  exact tail_any hm.typeIs PySem.F.slot_dict_getitem.lookup (wpAny_getItem_of (strKind_is X.prog X.w z t) hm e ⟨r, H, I.tok _, ru, q⟩) hs
theorem se_dix {x : Str} {kvs : List (Str × PV)} {a : ME} {d : Addr} {es : Array DictEntry} {n : Nat} {o e : Expr} {pos : Pos} (D : KDict X.K X.w d es n) (R : DRel es.toList kvs) (ho : PE X o (tC (.ref d)))
    (ha : SE X call a e) (hs : PlainIx e) : SE X call (.dix x kvs a) (.Subscript o e pos) := by
  refine .plain (fun env st => (ev call a .val env st).bind fun x st1 => opt (dixV kvs x) st1) ((pe_ix (ix_kd D) ho ha.val hs).imp fun σ H Q ⟨μ, env, st, v, st', o, r, h, g⟩ => ?_) (fun md env st => by simp only [ev, bind_assoc]) fun _ => rfl
  obtain ⟨x1, st1, h1, h2⟩ := bind_ok h
  obtain ⟨h3, rfl⟩ := opt_ok h2
  refine ⟨μ, env, st, x1, _, o, r, h1, fun μ1 H1 x' s1 o1 r1 _ => ?_⟩
  cases r1 with
  | str z =>
    have h3 : kvs.lookup z = some v := h3
    have q := R.find z
    rw [h3] at q
    obtain ⟨w, u, q1, q2, q3⟩ := q
    exact ⟨z, u, w, rfl, rfl, q2, q3, g μ1 H1 w s1 o1 (flV_rv q1 _ _ _) (by cases v <;> first | exact trivial | cases q1)⟩
  | _ => cases h3
theorem flV_fr {H : Hp} {v : PV} {w : V} (h : flV v = some w) : v.isFl = false := by cases v <;> first | rfl | cases h
theorem se_gget {x : Str} {kvs : List (Str × PV)} {a b : ME} {d : Addr} {es : Array DictEntry} {n : Nat} {o e f : Expr} {apos cpos : Pos} (D : KDict X.K X.w d es n) (R : DRel es.toList kvs) (ho : PE X o (tC (.ref d)))
    (ha : SE X call a e) (hb : SE X call b f) (m : M2 X o "get" apos e f cpos) : SE X call (.gget x kvs a b) (.Call (.Attribute o "get" apos) [e, f] [] cpos) := by
  refine .plain (fun env st => (ev call a .use env st).bind fun x st1 => (ev call b .val env st1).bind fun y st2 => opt (getV kvs x y) st2) ((pe_kget2 D ho ha.use hb.val m).imp fun σ H Q ⟨μ, env, st, v, st', o, r, h, g⟩ => ?_) (fun md env st => by simp only [ev, bind_assoc]) fun _ => rfl
  obtain ⟨x1, st1, h1, h2⟩ := bind_ok h
  obtain ⟨y1, st2, h3, h4⟩ := bind_ok h2
  obtain ⟨h5, rfl⟩ := opt_ok h4
  refine ⟨μ, env, st, x1, st1, o, r, h1, fun μ1 H1 x' s1 o1 r1 => ⟨μ1, env, st1, y1, _, o1, r.mono s1, h3, fun μ2 H2 y' s2 o2 r2 f2 => ?_⟩⟩
  cases r1 with
  | str z =>
    have h5 : (if y1.isFl then none else some ((kvs.lookup z).getD y1)) = some v := h5
    split at h5
    · cases h5
    · rename_i hf
      have q := R.find z
      cases hl : kvs.lookup z with
      | none =>
        rw [hl] at q h5
        cases h5
        exact ⟨z, none, y', rfl, q, rfl, g μ2 H2 y' (Stp.trans s1 s2) o2 r2 (f2.back s1)⟩
      | some v0 =>
        rw [hl] at q h5
        cases h5
        obtain ⟨w, u, q1, q2, q3⟩ := q
        exact ⟨z, some u, w, rfl, q2, q3, g μ2 H2 w (Stp.trans s1 s2) o2 (flV_rv q1 _ _ _) (by cases v0 <;> first | exact trivial | cases q1)⟩
  | _ => cases h5
end
end U

set_option maxHeartbeats 4000000
/-! U8: calls, methods, slices, what is walked. -/
namespace U
open PySem PySem.Spec PyProof.Rows L2
/-- a def's promise: what the program yields -/
def spEv (K : PySem.W.Frag) (cf : List PV → Store → Res PV) : Sp := fun vs H Q _ => ∃ μ st as v st', Ok K μ st H ∧ RVs K μ st.length H as vs ∧ cf as st = .ok v st' ∧
  ∀ μ' H' v', Stp μ st.length H μ' st'.length H' → Ok K μ' st' H' → RV K μ' st'.length H' v v' → Fr H v v' → Q v' H'
section
variable {K : PySem.W.Frag} {μ : Nat → Addr} {L : Nat} {H : Hp} {X : Cx} {e : Expr} {call : Nat → List PV → Store → Res PV} {m : ME}
theorem ev_iteV {t a b : ME} {env : En} {st : Store} : ev call (.ite t a b) .val env st = (ev call t .test env st).bind fun x st1 => (opt (isBl x) st1).bind fun k st2 => if k then ev call a .val env st2 else ev call b .val env st2 := rfl
theorem ev_iteU {t a b : ME} {env : En} {st : Store} : ev call (.ite t a b) .use env st = (ev call t .test env st).bind fun x st1 => (opt (isBl x) st1).bind fun k st2 => if k then ev call a .use env st2 else ev call b .use env st2 := rfl
/-- an own def -/
theorem se_fn {f : Nat} {as : MEs} {es : List Expr} {g : Expr} (hs : SA X call as es) (h : ∀ {t : TA}, PA X es t → PE X g (fun σ H Q => t σ H fun vs H1 => spEv X.K (call f) vs H1 Q E0))
    (he : ∀ whole, isTrue g X.env whole = (do let v ← whole; standAt g.pos; holding [v] (truthy v))) : SE X call (.fn f as) g := by
  refine .plain (fun env st => (evA call as env st).bind fun xs st1 => call f xs st1) ((h hs.kept).imp fun σ H Q ⟨μ, env, st, v, st', o, r, h, g⟩ => ?_) (fun md env st => by rw [ev, bind_assoc]) he
  obtain ⟨xs, st1, h1, h2⟩ := bind_ok h
  exact ⟨μ, env, st, xs, _, o, r, h1, fun μ1 H1 vs s1 o1 r1 => ⟨μ1, _, xs, v, st', o1, r1, h2, fun μ2 H2 v' s2 o2 r2 f2 => g μ2 H2 v' (Stp.trans s1 s2) o2 r2 (f2.back s1)⟩⟩
theorem Ok.held {st : Store} {n : Nat} (o : Ok K μ st H) (hn : n < st.length) : ∃ vs, H (μ n) = some (.lst vs) := by
  have : ∃ xs, st[n]? = some (.lst xs) := by
    rw [List.getElem?_eq_getElem hn]
    cases st[n] with
    | lst xs => exact ⟨xs, rfl⟩
  obtain ⟨zs, hz⟩ := this
  obtain ⟨vs, h1, _⟩ := o.cell n zs hz
  exact ⟨vs, h1⟩
/-- a method of a list or text -/
def mty : MF → String
  | .append => "list" | .split => "str" | .partition => "str" | .join => "str"
theorem mt_ty {f : MF} {x : PV} {xs : List PV} {st st1 st' : Store} {v : PV} {x' : V} (h : mtV f x xs st = .ok v st') (o : Ok K μ st1 H) (r : RV K μ st1.length H x x') : tyV K (mty f) x' H := by
  unfold mtV at h
  split at h
  · cases r with
    | loc hn =>
      obtain ⟨vs, h1⟩ := o.held hn
      exact .inl ⟨rfl, vs, SqL.of h1⟩
  · cases r; exact rfl
  · cases r; exact rfl
  · cases r; exact rfl
  · cases h
theorem se_mt {f : MF} {ob : ME} {as : MEs} {x : Expr} {es : List Expr} {g : Expr} (ho : SE X call ob x) (hs : SA X call as es)
    (h : ∀ {r : V → List V → Hp → VK → Prop} {to : TE} {t : TA}, MtR X (mfn f) r → PE X x to → PA X es t → PE X g (tBM X.K (mty f) r to t))
    (he : ∀ whole, isTrue g X.env whole = (do let v ← whole; standAt g.pos; holding [v] (truthy v))) : SE X call (.mt f ob as) g := by
  refine .plain (fun env st => (ev call ob .use env st).bind fun x st1 => (evCs call as env st1).bind fun xs st2 => mtV f x xs st2) ((h (op_mt f) ho.use hs.used).imp fun σ H Q ⟨μ, env, st, v, st', o, r, h, g⟩ => ?_) (fun md env st => by rw [ev]; simp only [bind_assoc]) he
  obtain ⟨x1, st1, h1, h2⟩ := bind_ok h
  obtain ⟨xs, st2, h3, h4⟩ := bind_ok h2
  exact ⟨μ, env, st, x1, st1, o, r, h1, fun μ1 H1 x' s1 o1 r1 => ⟨mt_ty h4 o1 r1, μ1, env, st1, xs, st2, o1, r.mono s1, h3, fun μ2 H2 vs s2 o2 r2 =>
    ⟨μ2, st2, x1, xs, v, st', o2, r1.mono0 s2, r2, h4, fun H3 v' s3 o3 r3 f3 => g μ2 H3 v' (Stp.trans s1 (Stp.trans s2 s3)) o3 r3 (f3.back (Stp.trans s1 s2))⟩⟩⟩
/-- a slice's bounds -/
theorem po_absent {l : ME} (ha : l.absent = true) : PO X none (rdO X.K (ev call l .val) l.absent) := by
  refine po_none.imp fun σ H Q ⟨μ, env, st, v, st', b, o, r, h, hb, g⟩ => ?_
  unfold ME.absent at ha
  split at ha
  · rw [ev] at h
    cases h
    cases hb
    exact g μ H StX.refl o
  · cases ha
theorem po_there {l : ME} {x : Expr} (ha : l.absent = false) (hl : SE X call l x) : PO X (some x) (rdO X.K (ev call l .val) l.absent) := by
  refine (po_some hl.val).imp fun σ H Q ⟨μ, env, st, v, st', b, o, r, h, hb, g⟩ => ⟨μ, env, st, v, st', o, r, h, fun μ1 H1 v' s1 o1 r1 _ => ?_⟩
  rw [ha] at hb
  unfold bound at hb
  split at hb
  · contradiction
  · cases hb
    cases r1
    exact ⟨_, rfl, g μ1 H1 s1 o1⟩
  · cases hb
theorem se_sl {a lo hi : ME} {x : Expr} {l h : Option Expr} {pos p2 : Pos} (ha : SE X call a x) (hl : PO X l (rdO X.K (ev call lo .val) lo.absent)) (hh : PO X h (rdO X.K (ev call hi .val) hi.absent)) :
    SE X call (.sl a lo hi) (.Subscript x (.Slice l h none p2) pos) := by
  refine .plain (fun env st => (ev call a .use env st).bind fun x st1 => (ev call lo .val env st1).bind fun l st2 => (ev call hi .val env st2).bind fun h st3 =>
      (opt (bound lo.absent l) st3).bind fun l' st4 => (opt (bound hi.absent h) st4).bind fun h' st5 => opt (slV x l' h' st5) st5) ((pe_slice op_sl ha.use hl hh).imp fun σ H Q ⟨μ, env, st, v, st', o, r, h, g⟩ => ?_) (fun md env st => by rw [ev]; simp only [bind_assoc]) fun _ => rfl
  obtain ⟨x1, st1, h1, h2⟩ := bind_ok h
  obtain ⟨l1, st2, h3, h4⟩ := bind_ok h2
  obtain ⟨k1, st3, h5, h6⟩ := bind_ok h4
  obtain ⟨b1, st4, h7, h8⟩ := bind_ok h6
  obtain ⟨h9, rfl⟩ := opt_ok h7
  obtain ⟨b2, st5, h10, h11⟩ := bind_ok h8
  obtain ⟨h12, rfl⟩ := opt_ok h10
  obtain ⟨h13, rfl⟩ := opt_ok h11
  exact ⟨μ, env, st, x1, st1, o, r, h1, fun μ1 H1 x' s1 o1 r1 => ⟨μ1, env, st1, l1, st2, b1, o1, r.mono s1, h3, h9, fun μ2 H2 s2 o2 => ⟨μ2, env, st2, k1, _, b2, o2, r.mono (Stp.trans s1 s2), h5, h12, fun μ3 H3 s3 o3 =>
    ⟨μ3, _, x1, v, o3, r1.mono0 (Stp.trans s2 s3), h13, fun H4 v' s4 o4 r4 f4 => g μ3 H4 v' (Stp.trans s1 (Stp.trans s2 (Stp.trans s3 s4))) o4 r4 (f4.back (Stp.trans s1 (Stp.trans s2 s3)))⟩⟩⟩⟩
theorem se_ite {t a b : ME} {c x y : Expr} {pos : Pos} (ht : SE X call t c) (ha : SE X call a x) (hb : SE X call b y) (X' : PT X (.IfExp c x y pos) (fun _ _ _ => False)) : SE X call (.ite t a b) (.IfExp c x y pos) := by
  refine ⟨(pe_ifExp ht.test ha.val hb.val).imp fun σ H Q ⟨μ, env, st, v, st', o, r, h, g⟩ => ?_, (pe_ifExp ht.test ha.use hb.use).imp fun σ H Q ⟨μ, env, st, v, st', o, r, h, g⟩ => ?_, X'.imp fun σ H Q ⟨μ, env, st, v, st', o, r, h, g⟩ => ?_⟩
  · rw [ev_iteV] at h
    obtain ⟨x1, st1, h1, h2⟩ := bind_ok h
    obtain ⟨k1, st2, h3, h4⟩ := bind_ok h2
    obtain ⟨h5, rfl⟩ := opt_ok h3
    cases isBl_ok h5
    refine ⟨μ, env, st, k1, _, o, r, h1, fun μ1 H1 s1 o1 => ?_⟩
    cases k1 with
    | true => exact iteT ⟨μ1, env, _, v, st', o1, r.mono s1, h4, fun μ2 H2 v' s2 o2 r2 f2 => g μ2 H2 v' (Stp.trans s1 s2) o2 r2 (f2.back s1)⟩
    | false => exact iteF ⟨μ1, env, _, v, st', o1, r.mono s1, h4, fun μ2 H2 v' s2 o2 r2 f2 => g μ2 H2 v' (Stp.trans s1 s2) o2 r2 (f2.back s1)⟩
  · rw [ev_iteU] at h
    obtain ⟨x1, st1, h1, h2⟩ := bind_ok h
    obtain ⟨k1, st2, h3, h4⟩ := bind_ok h2
    obtain ⟨h5, rfl⟩ := opt_ok h3
    cases isBl_ok h5
    refine ⟨μ, env, st, k1, _, o, r, h1, fun μ1 H1 s1 o1 => ?_⟩
    cases k1 with
    | true => exact iteT ⟨μ1, env, _, v, st', o1, r.mono s1, h4, fun μ2 H2 v' s2 o2 r2 => g μ2 H2 v' (Stp.trans s1 s2) o2 r2⟩
    | false => exact iteF ⟨μ1, env, _, v, st', o1, r.mono s1, h4, fun μ2 H2 v' s2 o2 r2 => g μ2 H2 v' (Stp.trans s1 s2) o2 r2⟩
  · cases h
theorem pt_never : PT X e (fun _ _ _ => False) := ⟨fun _ _ _ _ _ _ h => h.elim⟩

/-! ### what is walked -/
inductive SrcR (K : PySem.W.Frag) (S : Addr → Prop) (μ : Nat → Addr) (L : Nat) (H : Hp) : It → Src → Prop
  | tup {a : Addr} {vs : List V} {xs : List PV} (h : SqT K H a vs) (r : RVs K μ L H xs vs) : SrcR K S μ L H (Itt K a) (.items xs)
  | own {a : Addr} {vs : List V} {xs : List PV} (h : H a = some (.lst vs)) (n : ∀ n, n < L → μ n ≠ a) (s : ¬ S a) (r : RVs K μ L H xs vs) : SrcR K S μ L H (Itl K a) (.items xs)
  | rol {a : Addr} {vs : List V} {xs : List PV} (h : Kl K H a vs) (r : RVs K μ L H xs vs) : SrcR K S μ L H (Itl K a) (.items xs)
  | live {n m : Nat} (h : n < L) : SrcR K S μ L H (Itl K (μ n)) (.live n m)
  | str {s : Str} : SrcR K S μ L H (Its s) (.items (s.cps.toList.map fun c => .str ⟨#[c]⟩))
  | rng {lo : Int} {n : Nat} : SrcR K S μ L H (Itr lo n) (.items ((List.range n).map fun (k : Nat) => .int (lo + k)))
theorem SrcR.mono {S S1 : Addr → Prop} {μ1 : Nat → Addr} {L1 : Nat} {H1 : Hp} {J : It} {src : Src} (s : StX S μ L H μ1 L1 H1) (h : SrcR K S μ L H J src) (hs : ∀ a, S1 a → S a ∨ H a = none) : SrcR K S1 μ1 L1 H1 J src := by
  cases h with
  | tup h r => exact .tup (s.sqT h) (r.mono s)
  | @own a vs xs h n hS r =>
    refine .own (s.keep _ _ h n hS) (fun k hk e => ?_) (fun z => ?_) (r.mono s)
    · by_cases hl : k < L
      · exact n k hl ((s.ext k hl).symm.trans e)
      · have := s.new k (by omega) hk
        rw [e, h] at this
        cases this
    · rcases hs _ z with z | z
      · exact hS z
      · rw [h] at z; cases z
  | rol h r => exact .rol (s.kl h) (r.mono s)
  | @live n m h =>
    have e := s.ext n h
    rw [← e]
    exact .live (Nat.lt_of_lt_of_le h s.le)
  | str => exact .str
  | rng => exact .rng
theorem SrcR.stop {S : Addr → Prop} {J : It} {src : Src} {st : Store} (h : SrcR K S μ st.length H J src) (o : Ok K μ st H) (f : src.fits st = true) : J.stop src.many H := by
  cases h with
  | tup h r => exact ⟨_, h, Nat.le_of_eq r.len.symm⟩
  | own h n hS r => exact ⟨_, SqL.of h, Nat.le_of_eq r.len.symm⟩
  | rol h r => exact ⟨_, h.sq, Nat.le_of_eq r.len.symm⟩
  | @live n m h =>
    unfold Src.fits at f
    simp only at f
    split at f
    · rename_i xs hx
      obtain ⟨a, vs, e, q, r⟩ := list_at o (.loc h) (show listOf (.loc n) st = some xs from hx)
      cases e
      refine ⟨vs, SqL.of q, ?_⟩
      have := r.len
      have h2 : xs.length = m := by simpa using f
      show vs.length ≤ m
      omega
    · cases f
  | str =>
    show _ ≤ _
    simp [Src.many]
  | rng =>
    show _ ≤ _
    simp [Src.many]
theorem SrcR.go {S : Addr → Prop} {J : It} {src : Src} {st : Store} {i : Nat} {x : PV} (h : SrcR K S μ st.length H J src) (o : Ok K μ st H) (f : src.get i st = some x) :
    J.go i H ∧ ∀ x' H', J.yld i H x' H' → H' = H ∧ RV K μ st.length H x x' ∧ x.isFl = false := by
  cases h with
  | tup h r =>
    obtain ⟨v, h1, h2, h3⟩ := r.get f
    exact ⟨⟨_, v, h, h1⟩, fun x' H' ⟨e, y⟩ => ⟨e, by rw [← Option.some.inj (h1.symm.trans (y _ h))]; exact h2, h3⟩⟩
  | own h n hS r =>
    obtain ⟨v, h1, h2, h3⟩ := r.get f
    exact ⟨⟨_, v, SqL.of h, h1⟩, fun x' H' ⟨e, y⟩ => ⟨e, by rw [← Option.some.inj (h1.symm.trans (y _ (SqL.of h)))]; exact h2, h3⟩⟩
  | rol h r =>
    obtain ⟨v, h1, h2, h3⟩ := r.get f
    exact ⟨⟨_, v, h.sq, h1⟩, fun x' H' ⟨e, y⟩ => ⟨e, by rw [← Option.some.inj (h1.symm.trans (y _ h.sq))]; exact h2, h3⟩⟩
  | @live n m h =>
    unfold Src.get at f
    simp only at f
    split at f
    · rename_i xs hx
      split at f
      · obtain ⟨a, vs, e, q, r⟩ := list_at o (.loc h) (show listOf (.loc n) st = some xs from hx)
        cases e
        obtain ⟨v, h1, h2, h3⟩ := r.get f
        exact ⟨⟨_, v, SqL.of q, h1⟩, fun x' H' ⟨e, y⟩ => ⟨e, by rw [← Option.some.inj (h1.symm.trans (y _ (SqL.of q)))]; exact h2, h3⟩⟩
      · cases f
    · cases f
  | @str s =>
    have f : (s.cps.toList.map fun c => PV.str ⟨#[c]⟩)[i]? = some x := f
    rw [List.getElem?_map] at f
    obtain ⟨c, h1, rfl⟩ := Option.map_eq_some_iff.mp f
    have h2 : s.cps[i]? = some c := by simpa using h1
    refine ⟨(Array.getElem?_eq_some_iff.mp h2).1, fun x' H' ⟨e, c', y1, y2⟩ => ⟨e, ?_, rfl⟩⟩
    rw [h2] at y1
    cases y1
    rw [y2]
    exact .str _
  | @rng lo n =>
    have f : ((List.range n).map fun (k : Nat) => PV.int (lo + k))[i]? = some x := f
    rw [List.getElem?_map] at f
    obtain ⟨c, h1, rfl⟩ := Option.map_eq_some_iff.mp f
    obtain ⟨h2, h3⟩ := List.getElem?_eq_some_iff.mp h1
    rw [List.getElem_range] at h3
    subst h3
    exact ⟨show i < n by simpa using h2, fun x' H' ⟨e, y⟩ => ⟨e, by rw [y]; exact .int _, rfl⟩⟩
end
end U

set_option maxHeartbeats 4000000
/-! U9: targets, what a comprehension walks, comprehensions. -/
namespace U
open PySem PySem.Spec PyProof.Rows L2
section
variable {K : PySem.W.Frag} {μ : Nat → Addr} {L : Nat} {H : Hp} {X : Cx} {e : Expr} {call : Nat → List PV → Store → Res PV} {m : ME}
/-! ### targets -/
def gAll : List Nat → TGs
  | [] => gNil
  | i :: is => gCons (gName i) (gAll is)
def gOf (K : PySem.W.Frag) : MG → TG
  | .nm i => gName i
  | .tp is => gTup K is.length (gAll is)
theorem wipe_set {σ : L2.St} {i : Nat} {v : V} : ∀ {is : List Nat}, i ∈ is → L2.wipe (σ.set i (some v)) is = L2.wipe σ is
  | [], h => by simp at h
  | j :: is, h => by
    unfold L2.wipe
    by_cases e : i = j
    · subst e
      by_cases hm : i ∈ is
      · rw [wipe_set hm]
      · have : ∀ (τ : L2.St) (is : List Nat), i ∉ is → L2.wipe (τ.set i (some v)) is = (L2.wipe τ is).set i (some v) := by
          intro τ is
          induction is with
          | nil => intro _; rfl
          | cons k is ih =>
            intro hk
            have h1 : i ≠ k := fun z => hk (by simp [z])
            have h2 : i ∉ is := fun z => hk (by simp [z])
            unfold L2.wipe
            rw [ih h2, List.set_comm _ _ h1]
        rw [this σ is hm, List.set_set]
    · have hm : i ∈ is := by
        rcases List.mem_cons.mp h with z | z
        · exact absurd z e
        · exact z
      rw [wipe_set hm]
theorem setEach_ok : ∀ {is : List Nat} {xs : List PV} {vs : List V} {env env' : En} {σ : L2.St} {Q : L2.St → Hp → Prop}, setEach is xs env = some env' → RE K μ L H env σ → RVs K μ L H xs vs →
    (∀ σ', RE K μ L H env' σ' → (∀ js : List Nat, (∀ i ∈ is, i ∈ js) → L2.wipe σ' js = L2.wipe σ js) → Q σ' H) → gAll is vs σ H Q
  | [], _, _, _, _, _, _, h, r, .nil, q => by
    cases h
    exact ⟨rfl, q _ r fun _ _ => rfl⟩
  | [], _, _, _, _, _, _, h, _, .cons _ _ _, _ => by cases h
  | _ :: _, _, _, _, _, _, _, h, _, .nil, _ => by cases h
  | i :: is, _, _, _, _, _, _, h, r, .cons f rx rs, q =>
    ⟨_, _, rfl, setEach_ok h (r.set rx i) rs fun σ' r' w => q σ' r' fun js hj => by
      rw [w js fun k hk => hj k (List.mem_cons_of_mem _ hk)]
      exact wipe_set (hj i List.mem_cons_self)⟩
theorem setEach_len : ∀ {is : List Nat} {xs : List PV} {env env' : En}, setEach is xs env = some env' → xs.length = is.length
  | [], [], _, _, _ => rfl
  | [], _ :: _, _, _, h => by cases h
  | _ :: _, [], _, _, h => by cases h
  | _ :: is, _ :: xs, _, _, h => by
    have := setEach_len (is := is) (xs := xs) h
    simp [this]
theorem put_ok {g : MG} {x : PV} {x' : V} {env env' : En} {σ : L2.St} {Q : L2.St → Hp → Prop} (h : g.put x env = some env') (r : RE K μ L H env σ) (rx : RV K μ L H x x')
    (q : ∀ σ', RE K μ L H env' σ' → L2.wipe σ' g.slots = L2.wipe σ g.slots → Q σ' H) : gOf K g x' σ H Q := by
  cases g with
  | nm i =>
    cases h
    exact q _ (r.set rx i) (wipe_set (by simp [MG.slots]))
  | tp is =>
    unfold MG.put at h
    simp only at h
    split at h
    · cases rx with
      | tup h1 r1 => exact ⟨_, _, rfl, h1, by rw [← r1.len]; exact setEach_len h, setEach_ok h r r1 fun σ' r' w => q σ' r' (w _ fun _ hi => hi)⟩
    · cases h

/-! ### sources -/
theorem _root_.L2.PI.imp {tg it : Expr} {w w' : TI} (h : PI X tg it w) (i : ∀ σ H R, w' σ H R → w σ H R) : PI X tg it w' := ⟨fun pins s σ H R I q => h.run pins s σ H R I (i _ _ _ q)⟩
def rdW (K : PySem.W.Frag) (m : En → Store → Res Src) : TI := fun σ H R => ∃ μ env st s st', Ok K μ st H ∧ RE K μ st.length H env σ ∧ m env st = .ok s st' ∧
  ∀ μ' H' J, Stp μ st.length H μ' st'.length H' → Ok K μ' st' H' → SrcR K NoS μ' st'.length H' J s → R J H'
theorem pi_used {tg it : Expr} (h : SE X call m it) : PI X tg it (rdW X.K fun env st => (ev call m .use env st).bind fun x st1 => opt (srcV x st1) st1) := by
  refine ⟨fun pins s σ H R I ⟨μ, env, st, src, st', o, r, h1, g⟩ => ?_⟩
  obtain ⟨v, st1, h2, h3⟩ := bind_ok h1
  obtain ⟨h4, rfl⟩ := opt_ok h3
  have ls : (∀ μ1 H1 v', Stp μ st.length H μ1 st1.length H1 → Ok X.K μ1 st1 H1 → RV X.K μ1 st1.length H1 v v' → ∃ a, v' = .ref a ∧ (∃ xs, SqL X.K H1 a xs) ∧ R (Itl X.K a) H1) →
      wpAny (model X.prog X.w) X.A (eval it X.env) (fun v s1 => wpAny (model X.prog X.w) X.A (pyIter v) (PIE X pins σ tg R) X.xe s1) X.xe s :=
    fun q => (pi_list h.use).run pins s σ H R I ⟨μ, env, st, v, st1, o, r, h2, fun μ1 H1 v' s1 o1 r1 => q μ1 H1 v' s1 o1 r1⟩
  cases v with
  | str z =>
    cases h4
    refine (pi_str h.use).run pins s σ H R I ⟨μ, env, st, _, st1, o, r, h2, fun μ1 H1 v' s1 o1 r1 => ?_⟩
    cases r1
    exact ⟨z, rfl, g μ1 H1 _ s1 o1 .str⟩
  | tup xs =>
    cases h4
    refine (pi_tup h.use).run pins s σ H R I ⟨μ, env, st, _, st1, o, r, h2, fun μ1 H1 v' s1 o1 r1 => ?_⟩
    cases r1 with
    | tup h5 r5 => exact ⟨_, rfl, ⟨_, h5⟩, g μ1 H1 _ s1 o1 (.tup h5 r5)⟩
  | fl xs =>
    cases h4
    refine ls fun μ1 H1 v' s1 o1 r1 => ?_
    cases r1 with
    | fl h5 n5 r5 => exact ⟨_, rfl, ⟨_, SqL.of h5⟩, g μ1 H1 _ s1 o1 (.own h5 n5 (fun z => z) r5)⟩
  | rol xs =>
    cases h4
    refine ls fun μ1 H1 v' s1 o1 r1 => ?_
    cases r1 with
    | rol h5 r5 => exact ⟨_, rfl, ⟨_, h5.sq⟩, g μ1 H1 _ s1 o1 (.rol h5 r5)⟩
  | loc n =>
    refine ls fun μ1 H1 v' s1 o1 r1 => ?_
    cases r1 with
    | loc h5 =>
      obtain ⟨xs, hx, e⟩ := Option.map_eq_some_iff.mp h4
      obtain ⟨vs, hv⟩ := o1.held h5
      subst e
      exact ⟨_, rfl, ⟨vs, SqL.of hv⟩, g μ1 H1 _ s1 o1 (.live h5)⟩
  | _ => cases h4
theorem rng_ok {x y : PV} {st st' : Store} {s : Src} (h : rngV x y st = .ok s st') : ∃ i j : Int, x = .int i ∧ y = .int j ∧ (-(2 ^ 62) ≤ i ∧ i < 2 ^ 62 ∧ -(2 ^ 62) ≤ j ∧ j < 2 ^ 62) ∧ s = .items ((List.range (j - i).toNat).map fun (k : Nat) => .int (i + k)) ∧ st = st' := by
  unfold rngV at h
  split at h
  · split at h
    · rename_i hb
      cases h
      exact ⟨_, _, rfl, rfl, hb, rfl, rfl⟩
    · cases h
  · cases h
theorem pi_rng2 {tg x y : Expr} {a b : ME} {p pos : Pos} (ha : SE X call a x) (hb : SE X call b y) (hg : Gl X "range") (hm : X.mg "range" = none) (hs : starEach [x, y] X.env = [(false, eval x X.env), (false, eval y X.env)]) (hs2 : starEach [y] X.env = [(false, eval y X.env)]) :
    PI X tg (.Call (.Name "range" p) [x, y] [] pos) (rdW X.K fun env st => (ev call a .val env st).bind fun x st1 => (ev call b .val env st1).bind fun y st2 => rngV x y st2) := by
  refine (pi_range2 hg hm (pa_cons ha.val (pa_cons hb.val pa_nil hs2) (by rw [hs, hs2])) hs hs2).imp fun σ H R ⟨μ, env, st, s, st', o, r, h, g⟩ => ?_
  obtain ⟨x1, st1, h1, h2⟩ := bind_ok h
  obtain ⟨y1, st2, h3, h4⟩ := bind_ok h2
  obtain ⟨i, j, rfl, rfl, hb, rfl, rfl⟩ := rng_ok h4
  refine ⟨μ, env, st, _, st1, o, r, h1, fun μ1 H1 x' s1 o1 r1 _ => ⟨μ1, env, st1, _, _, o1, r.mono s1, h3, fun μ2 H2 y' s2 o2 r2 _ => ?_⟩⟩
  cases r1; cases r2
  exact ⟨i, j, rfl, hb, g μ2 H2 _ (Stp.trans s1 s2) o2 .rng⟩
theorem pi_rng1 {tg y : Expr} {b : ME} {p pos : Pos} (hb : SE X call b y) (hg : Gl X "range") (hm : X.mg "range" = none) (hs : starEach [y] X.env = [(false, eval y X.env)]) :
    PI X tg (.Call (.Name "range" p) [y] [] pos) (rdW X.K fun env st => (ev call (.con (.int 0)) .val env st).bind fun x st1 => (ev call b .val env st1).bind fun y st2 => rngV x y st2) := by
  refine (pi_range1 hg hm (pa_cons hb.val pa_nil hs) hs).imp fun σ H R ⟨μ, env, st, s, st', o, r, h, g⟩ => ?_
  obtain ⟨x1, st1, h1, h2⟩ := bind_ok h
  cases (show Res.ok (PV.int 0) st = Res.ok x1 st1 from h1)
  obtain ⟨y1, st2, h3, h4⟩ := bind_ok h2
  obtain ⟨i, j, e, rfl, hb, rfl, rfl⟩ := rng_ok h4
  cases e
  refine ⟨μ, env, _, _, _, o, r, h3, fun μ2 H2 y' s2 o2 r2 _ => ?_⟩
  cases r2
  have q := g μ2 H2 _ s2 o2 (.rng (lo := 0) (n := (j - 0).toNat))
  rw [Int.sub_zero] at q
  exact ⟨j, rfl, hb.2.2.1, hb.2.2.2, q⟩

/-! ### comprehensions -/
/-- the object at D is written -/
theorem StX.wrt {D : Addr} {ys zs : List V} (h : H D = Option.some (HO.lst ys)) : StX (fun a => a = D) μ L H μ L (upd H D (HO.lst zs)) := by
  refine ⟨Nat.le_refl _, fun _ _ => rfl, fun b o hb _ ne => ?_, fun b us hb => ?_, fun b o u hb => ?_, fun b hb => ?_, fun n h1 h2 => absurd h2 (by omega)⟩
  · rw [upd_ne ne]; exact hb
  · rw [upd_ne (fun e => by rw [e, h] at hb; cases hb)]; exact hb
  · rw [upd_ne (fun e => by rw [e, h] at hb; cases hb)]; exact hb
  · by_cases e : b = D
    · rw [e, upd_same] at hb; cases hb
    · rw [upd_ne e] at hb; exact hb
theorem Ok.wrt {st : Store} {D : Addr} {ys zs : List V} (o : Ok K μ st H) (h : H D = some (.lst ys)) (n : ∀ k, k < st.length → μ k ≠ D) : Ok K μ st (upd H D (.lst zs)) :=
  ⟨o.inj, fun k xs hk => by
    obtain ⟨vs, h1, h2⟩ := o.cell k xs hk
    exact ⟨vs, by rw [upd_ne (n k (List.getElem?_eq_some_iff.mp hk).1)]; exact h1, h2.mono (StX.wrt h)⟩⟩
theorem SE.lcImp {σ : L2.St} {H : Hp} {Q : VK} {wi : TI} {tt : TT} {te : TE} {test : En → Store → Res Bool} {elt : En → Store → Res PV} {g : MG} {srcF : En → Store → Res Src}
    (hw : ∀ σ H R, rdW K srcF σ H R → wi σ H R) (he : ∀ σ H Q, rd K elt σ H Q → te σ H Q)
    (ht : ∀ μ env st b st' σ H (Q : Bool → Hp → Prop), Ok K μ st H → RE K μ st.length H env σ → test env st = .ok b st' → (∀ μ' H', Stp μ st.length H μ' st'.length H' → Ok K μ' st' H' → Q b H') → tt σ H Q)
    (h : rd K (fun env st => (srcF env st).bind fun s st1 => lcLoop test elt g.put (wipe env g.slots) s 0 s.many [] st1) σ H Q) : tLc wi (gOf K g) tt te g.slots σ H Q := by
  obtain ⟨μ, env, st, v, st4, o, r, h, fin⟩ := h
  obtain ⟨src, st1, h1, h2⟩ := bind_ok h
  refine hw σ H _ ⟨μ, env, st, src, st1, o, r, h1, fun μ1 H1 J s1 o1 j1 D hD => ?_⟩
  refine ⟨fun i m Hc => ∃ μ st acc accV, Stp μ1 st1.length H1 μ st.length Hc ∧ Ok K μ st Hc ∧ Hc D = some (.lst accV) ∧ (∀ n, n < st.length → μ n ≠ D) ∧ RVs K μ st.length Hc acc accV ∧
    SrcR K (fun a => a = D) μ st.length Hc J src ∧ i + m = src.many ∧ lcLoop test elt g.put (wipe env g.slots) src i m acc st = .ok v st4,
    ⟨src.many, μ1, st1, [], [], Stp.laid hD, o1.laid hD, upd_same, o1.apart hD, .nil, j1.mono (Stp.laid hD) (fun a z => .inr (by rw [z]; exact hD)), by omega, h2⟩, ?_⟩
  rintro i m Hc ⟨μ2, st2, acc, accV, s2, o2, d2, n2, r2, j2, em, e2⟩
  cases m with
  | zero =>
    refine .inl ?_
    unfold lcLoop at e2
    split at e2
    · rename_i hf
      cases e2
      have q := j2.stop o2 hf
      have e0 : i = src.many := by omega
      subst e0
      exact ⟨q, fin μ2 Hc _ (Stp.trans s1 s2) o2 (.fl d2 n2 r2) (s1.there _ hD)⟩
    · cases e2
  | succ m =>
    refine .inr ?_
    unfold lcLoop at e2
    split at e2
    · cases e2
    · rename_i x hx
      split at e2
      · cases e2
      · rename_i env' hp
        obtain ⟨q1, q2⟩ := j2.go o2 hx
        obtain ⟨b, st3, e3, e4⟩ := bind_ok e2
        refine ⟨q1, _, fun H' w => ⟨m, Nat.lt_succ_self m, w⟩, fun x' H' y => ?_⟩
        obtain ⟨rfl, rx, fx⟩ := q2 x' H' y
        have rw0 : RE K μ2 st2.length H' (wipe env g.slots) (L2.wipe σ g.slots) := (r.mono (Stp.trans s1 s2)).wipe _
        refine put_ok hp rw0 rx fun σ2 rE wE => ⟨?_, ?_⟩
        · rw [wE]
          have : ∀ (τ : L2.St) (vs : List Nat), L2.wipe (L2.wipe τ vs) vs = L2.wipe τ vs := by
            have idem : ∀ (τ : L2.St) (is vs : List Nat), (∀ i ∈ is, ∀ x : V, τ[i]? ≠ some (some x)) → L2.wipe τ is = τ := by
              intro τ is _
              induction is with
              | nil => intro _; rfl
              | cons k is ih =>
                intro hk
                unfold L2.wipe
                rw [ih fun i hi => hk i (List.mem_cons_of_mem _ hi)]
                apply List.ext_getElem?
                intro n
                by_cases e : k = n
                · subst e
                  by_cases hl : k < τ.length
                  · rw [List.getElem?_set_self hl]
                    have := hk k List.mem_cons_self
                    cases q : τ[k] with
                    | none => rw [List.getElem?_eq_getElem hl, q]
                    | some z => exact absurd (by rw [List.getElem?_eq_getElem hl, q]) (this z)
                  · rw [List.getElem?_eq_none (by simp; omega), List.getElem?_eq_none (by omega)]
                · rw [List.getElem?_set_ne e]
            intro τ vs
            exact idem _ vs vs fun i hi x hx => (L2.wipe_some hx).2 hi
          exact this σ g.slots
        · refine ht μ2 env' st2 b st3 σ2 H' _ o2 rE e3 fun μ3 H3 s3 o3 => ?_
          have d3 : H3 D = some (.lst accV) := s3.keep D _ d2 n2 fun z => z
          have n3 : ∀ n, n < st3.length → μ3 n ≠ D := fun n hn z => by
            by_cases hl : n < st2.length
            · exact n2 n hl ((s3.ext n hl).symm.trans z)
            · have := s3.new n (by omega) hn
              rw [z, d2] at this; cases this
          cases b with
          | false =>
            refine iteF ⟨μ3, st3, acc, accV, Stp.trans s2 s3, o3, d3, n3, r2.mono s3, j2.mono (Stp.wide s3) (fun _ z => .inl z), by omega, ?_⟩
            exact e4
          | true =>
            obtain ⟨y1, st5, e5, e6⟩ := bind_ok (show (elt env' st3).bind _ = _ from e4)
            split at e6
            · rename_i hz
              refine iteT (he σ2 H3 _ ⟨μ3, env', st3, y1, st5, o3, rE.mono s3, e5, fun μ5 H5 y' s5 o5 r5 f5 => ?_⟩)
              obtain ⟨μe, se, oe, re, fe, ext⟩ := Ok.esc s5 o5 r5 f5
              have d5 : H5 D = some (.lst accV) := s5.keep D _ d3 n3 fun z => z
              have ne : ∀ n, n < (esc y1 st5).2.length → μe n ≠ D := fun n hn z => by
                by_cases hl : n < st3.length
                · exact n3 n hl ((se.ext n hl).symm.trans z)
                · have := se.new n (by omega) hn
                  rw [z, d3] at this; cases this
              have ra : RVs K μe (esc y1 st5).2.length H5 acc accV := (r2.mono s3).mono se
              have wr : StX (fun a => a = D) μe (esc y1 st5).2.length H5 μe (esc y1 st5).2.length (upd H5 D (.lst (accV ++ [y']))) := StX.wrt d5
              have sw : Stp μ1 st1.length H1 μe (esc y1 st5).2.length (upd H5 D (.lst (accV ++ [y']))) := StX.trans (Stp.trans s2 (Stp.trans s3 se)) wr fun b e => .inr (by rw [e]; exact hD)
              refine ⟨accV, d5, by rw [← r2.len]; exact hz, μe, (esc y1 st5).2, acc ++ [(esc y1 st5).1], accV ++ [y'], sw, oe.wrt d5 ne, upd_same, ne, ?_, ?_, by omega, e6⟩
              · refine (RVs.mono wr ra).app (RVs.one fe (RV.mono wr ?_ re))
                cases hq : (esc y1 st5).1 <;> first | trivial | (rw [hq] at fe; cases fe)
              · exact (j2.mono (Stp.wide (Stp.trans s3 se)) (fun _ z => .inl z)).mono wr (fun _ z => .inl z)
            · cases e6
end
end U

set_option maxHeartbeats 8000000
/-! U10: every expression of the language. -/
namespace U
open PySem PySem.Spec PyProof.Rows L2
structure Wd where
  P : Program
  w : World
  K : PySem.W.Frag
  mg : Str → Option Value
  base : Heap
/-- a body of the text stands here -/
structure Gd (W : Wd) (C : Ct) (k : Nat) (X : Cx) : Prop where
  P : X.prog = W.P
  w : X.w = W.w
  K : X.K = W.K
  mg : X.mg = W.mg
  base : X.base = W.base
  N : X.N = C.N
  sc : X.env.scope = C.sc
  nd : X.N.Nodup
  calm : X.calm = true
  room : Room k X.A
  gu : C.gk = true → X.A.guards = some []
/-- what the names of the module are -/
structure Fx (W : Wd) (C : Ct) (k : Nat) (call : Nat → List PV → Store → Res PV) : Prop where
  fn : ∀ x f, C.fn.lookup x = some f → ∃ a fd ps, W.mg x = some (.ref a) ∧ PySem.W.keepIn W.K (.ref a) = true ∧ Binds W.K fd ps [] ∧ FnOk W.P W.w W.K W.mg W.base CX0 k a fd ps (spEv W.K (call f))
  cs : ∀ x v, C.cs.lookup x = some v → v.isFl = false ∧ ∃ u v', W.mg x = some u ∧ RelV v' u ∧ ∀ μ L H, RV W.K μ L H v v'
  bl : ∀ x, C.bl.contains x = true → W.mg x = none
  ds : ∀ x kvs, C.ds.lookup x = some kvs → ∃ d es n, W.mg x = some (.ref d) ∧ KDict W.K W.w d es n ∧ DRel es.toList kvs
mutual
theorem same_ok : ∀ {v w : PV}, PV.same v w = true → v = w
  | .non, .non, _ => rfl
  | .bl a, .bl b, h => by rw [eq_of_beq (show (a == b) = true from h)]
  | .int a, .int b, h => by rw [of_decide_eq_true (show decide (a = b) = true from h)]
  | .str a, .str b, h => by rw [of_decide_eq_true (show decide (a = b) = true from h)]
  | .tup a, .tup b, h => by rw [sames_ok (show PV.sameL a b = true from h)]
  | .non, .bl _, h | .non, .int _, h | .non, .str _, h | .non, .tup _, h | .non, .loc _, h | .non, .fl _, h | .non, .rol _, h => by cases h
  | .bl _, .non, h | .bl _, .int _, h | .bl _, .str _, h | .bl _, .tup _, h | .bl _, .loc _, h | .bl _, .fl _, h | .bl _, .rol _, h => by cases h
  | .int _, .non, h | .int _, .bl _, h | .int _, .str _, h | .int _, .tup _, h | .int _, .loc _, h | .int _, .fl _, h | .int _, .rol _, h => by cases h
  | .str _, .non, h | .str _, .bl _, h | .str _, .int _, h | .str _, .tup _, h | .str _, .loc _, h | .str _, .fl _, h | .str _, .rol _, h => by cases h
  | .tup _, .non, h | .tup _, .bl _, h | .tup _, .int _, h | .tup _, .str _, h | .tup _, .loc _, h | .tup _, .fl _, h | .tup _, .rol _, h => by cases h
  | .loc _, _, h | .fl _, _, h | .rol _, _, h => by cases h
theorem sames_ok : ∀ {v w : List PV}, PV.sameL v w = true → v = w
  | [], [], _ => rfl
  | [], _ :: _, h => by cases h
  | _ :: _, [], h => by cases h
  | x :: xs, y :: ys, h => by
    have h : (PV.same x y && PV.sameL xs ys) = true := h
    rw [Bool.and_eq_true] at h
    rw [same_ok h.1, sames_ok h.2]
end
section
variable {W : Wd} {k : Nat} {call : Nat → List PV → Store → Res PV}
theorem vis_of {sc : Scope} {x : Str} (h : visB sc x = true) : Vis sc x := by
  unfold visB at h
  unfold Vis
  split at h <;> first | (rename_i q; rw [q]; simp) | cases h
theorem gl_of {X : Cx} {x : Str} (h : glB X.env.scope x = true) : Gl X x ∧ (x == ("__debug__" : Str)) = false := by
  unfold glB at h
  split at h
  · rename_i q
    exact ⟨q, by simpa using h⟩
  · cases h
/-- no star, no set, no slice -/
def plainE : Expr → Bool
  | .Starred .. => false
  | .Set .. => false
  | .Slice .. => false
  | .NamedExpr .. => false
  | _ => true
theorem sameD_ok : ∀ {l m : List (Str × PV)}, sameD l m = true → l = m
  | [], [], _ => rfl
  | [], _ :: _, h => by cases h
  | _ :: _, [], h => by cases h
  | (x, v) :: r, (y, w) :: q, h => by
    have h : (decide (x = y) && PV.same v w && sameD r q) = true := h
    simp only [Bool.and_eq_true, decide_eq_true_eq] at h
    rw [h.1.1, same_ok h.1.2, sameD_ok h.2]
theorem plain_ok {C : Ct} {m : ME} {e : Expr} (h : mE C m e = true) : plainE e = true := by
  cases e <;> first | rfl | (exfalso; cases m with
    | lc elt g src has c => cases src <;> cases h
    | _ => cases h)
theorem star_ok {e : Expr} (h : plainE e = true) (es : List Expr) (env : Env) : starEach (e :: es) env = (false, eval e env) :: starEach es env := by
  cases e <;> first | rfl | cases h
theorem ix_ok {e : Expr} (h : plainE e = true) : PlainIx e := by
  intro o i
  cases e <;> first | rfl | cases h
theorem mark_ok {e : Expr} (h : plainE e = true) (op : CmpOp) : behindInMarks op e = false := by
  cases e <;> first | rfl | cases h
theorem marks_ok {e e' : Expr} (h : plainE e = true) (h' : plainE e' = true) (op op' : CmpOp) : lastMarks [op, op'] [e, e'] = false := by
  have := mark_ok h' op'
  cases e' <;> first | rfl | (exact this) | cases h'
theorem set_ok {e : Expr} (h : plainE e = true) (env : Env) : ∀ x, foldedSetIterable e env x = pure x := by
  intro x
  cases e <;> first | rfl | cases h
theorem any_ok {C : Ct} {pos : Pos} {env : Env} : ∀ {as : MEs} {es : List Expr}, mA C as es = true → (backTo pos (starEach es env)).any (·.1) = false
  | .nil, [], _ => rfl
  | .nil, _ :: _, h => by cases h
  | .cons _ _, [], h => by cases h
  | .cons a as, e :: es, h => by
    have h : (mE C a e && mA C as es) = true := h
    rw [Bool.and_eq_true] at h
    rw [star_ok (plain_ok h.1)]
    show (false || (backTo pos (starEach es env)).any (·.1)) = false
    rw [any_ok h.2]
    rfl
theorem base_ok {x : Expr} {name : Str} {env : Env} {whole : Sem Value} (h : (match x with
    | .Call _ [] [] _ => true
    | _ => false) = false) : attributeBase x name env whole = whole := by
  cases x <;> try rfl
  rename_i f as ks p
  cases as with
  | nil =>
    cases ks with
    | nil => cases h
    | cons _ _ => cases f <;> rfl
  | cons _ _ => cases f <;> rfl
end
end U

set_option maxHeartbeats 8000000
/-! U11: every expression of the language, the theorem. -/
namespace U
open PySem PySem.Spec PyProof.Rows L2
section
variable {W : Wd} {k : Nat} {call : Nat → List PV → Store → Res PV}
theorem Gd.blk {C : Ct} {X : Cx} (G : Gd W C k X) (s : Shared) (H : Hp) (scope : Scope) (c : Addr) (cl : List (Str × Addr)) (fp : List Addr) : Gd W { C with sc := relS scope C.sc } k (X.blk s H scope (compEnvC scope cl c X.env) fp) :=
  ⟨G.P, G.w, G.K, G.mg, G.base, G.N, by show relS scope X.env.scope = _; rw [G.sc], G.nd, G.calm, G.room, G.gu⟩
theorem pg1 {C : Ct} {X : Cx} (G : Gd W C k X) {i : Nat} {e : Expr} (h : mT1 C i e = true) : PG X e (gName i) := by
  cases e <;> try (exact absurd h Bool.false_ne_true)
  rename_i x pos
  have h : (decide (C.N[i]? = some x) && decide (C.sc.names.lookup x = some .local)) = true := h
  simp only [Bool.and_eq_true, decide_eq_true_eq] at h
  exact pg_name G.nd (by rw [G.N]; exact h.1) (.inl (by rw [G.sc]; exact h.2)) (.inr (by rw [G.sc]; exact h.2))
theorem assign_ok {e : Expr} {C : Ct} {i : Nat} (h : mT1 C i e = true) (es : List Expr) (env : Env) : assignEach (e :: es) env = (false, assign e env) :: assignEach es env := by
  cases e <;> first | rfl | exact absurd h Bool.false_ne_true
theorem pgs {C : Ct} {X : Cx} (G : Gd W C k X) : ∀ {is : List Nat} {es : List Expr}, mTs C is es = true → PGs X es (gAll is) ∧ (assignEach es X.env).length = is.length ∧ (assignEach es X.env).findIdx? (·.1) = none
  | [], [], _ => ⟨pgs_nil, rfl, rfl⟩
  | [], _ :: _, h => by cases h
  | _ :: _, [], h => by cases h
  | i :: is, e :: es, h => by
    have h : (mT1 C i e && mTs C is es) = true := h
    rw [Bool.and_eq_true] at h
    obtain ⟨p1, p2, p3⟩ := pgs G h.2
    have e1 := assign_ok h.1 es X.env
    refine ⟨pgs_cons (pg1 G h.1) p1 (by rw [e1]; rfl), by rw [e1]; simp [p2], by rw [e1]; simp [List.findIdx?_cons, p3]⟩
theorem pgG {C : Ct} {X : Cx} (G : Gd W C k X) {g : MG} {e : Expr} (h : mG C g e = true) : PG X e (gOf X.K g) := by
  cases g with
  | nm i => exact pg1 G h
  | tp is =>
    cases e <;> try (exact absurd h Bool.false_ne_true)
    obtain ⟨p1, p2, p3⟩ := pgs G (show mTs C is _ = true from h)
    exact pg_tup G.calm p1 p2 p3
theorem own_slots (g : MG) (N : List Str) : (g.own N).map (·.2) = g.slots := by
  unfold MG.own
  rw [List.map_map]
  have : ((fun x : Str × Nat => x.2) ∘ fun i => (N.getD i "", i)) = fun i => i := rfl
  rw [this, List.map_id']
/-- a comprehension's tests -/
def tTest' (K : PySem.W.Frag) (call : Nat → List PV → Store → Res PV) (has : Bool) (c : ME) : TT := if has then rdT K (ev call c .test) else tYes
def tsOk (C : Ct) (has : Bool) (c : ME) (ifs : List Expr) : Bool := match has, ifs with
  | true, [t] => mE C c t
  | false, [] => true
  | _, _ => false
theorem lc_plain {X : Cx} {g : MG} {has : Bool} {c elt : ME} {srcF : En → Store → Res Src} {wi : TI} {e : Expr} {m : ME}
    (hw : ∀ σ H R, rdW X.K srcF σ H R → wi σ H R)
    (hp : PE X e (tLc wi (gOf X.K g) (tTest' X.K call has c) (rd X.K (ev call elt .val)) g.slots))
    (eq : ∀ md env st, ev call m md env st = ((srcF env st).bind fun s st1 => lcLoop (fun e s => if has then (ev call c .test e s).bind fun x s1 => opt (isBl x) s1 else .ok true s) (ev call elt .val) g.put (wipe env g.slots) s 0 s.many [] st1).bind fun v st1 => done md v st1)
    (he : ∀ whole, isTrue e X.env whole = (do let v ← whole; standAt e.pos; holding [v] (truthy v))) : SE X call m e := by
  refine .plain _ (hp.imp fun σ H Q q => SE.lcImp hw (fun _ _ _ q => q) ?_ q) eq he
  intro μ env st b st' σ H Q o r h q
  unfold tTest'
  cases has with
  | true =>
    obtain ⟨x, s1, h1, h2⟩ := bind_ok h
    obtain ⟨h3, rfl⟩ := opt_ok h2
    cases isBl_ok h3
    exact ⟨μ, env, st, b, _, o, r, h1, q⟩
  | false =>
    cases h
    exact q μ H StX.refl o
theorem pw_of_pt {X : Cx} {op : BoolOp} {vs : List Expr} {p : Pos} {t : TT} (h : PT X (.BoolOp op vs p) t) : PW X (.BoolOp op vs p) t := ⟨fun wh pins s σ H Q I hw => h.run pins s σ H Q I hw⟩
theorem SE.sb {X : Cx} {m : ME} {op : BoolOp} {vs : List Expr} {p : Pos} (h : SE X call m (.BoolOp op vs p)) : SB X call m (.BoolOp op vs p) := ⟨h.val, h.use, pw_of_pt h.test⟩
theorem mE_lc {C : Ct} {elt src c : ME} {g : MG} {has : Bool} {e : Expr} (hn : ∀ a b, src ≠ .rng a b) : mE C (.lc elt g src has c) e = (match e with
    | .ListComp x [⟨tg, iter, ifs, 0⟩] scope _ => mE C src iter && blkC C.N C.sc scope (g.own C.N) && mG { C with sc := relS scope C.sc } g tg &&
        tsOk { C with sc := relS scope C.sc } has c ifs && mE { C with sc := relS scope C.sc } elt x
    | _ => false) := by
  cases src <;> first | (exact absurd rfl (hn _ _)) | rfl
theorem ev_lc {elt src c : ME} {g : MG} {has : Bool} {md : Md} {env : En} {st : Store} (hn : ∀ a b, src ≠ .rng a b) : ev call (.lc elt g src has c) md env st =
    (((ev call src .use env st).bind fun x st1 => opt (srcV x st1) st1).bind fun s st3 =>
      lcLoop (fun e s => if has then (ev call c .test e s).bind fun x s1 => opt (isBl x) s1 else .ok true s) (ev call elt .val) g.put (wipe env g.slots) s 0 s.many [] st3).bind fun v st4 => done md v st4 := by
  rw [bind_assoc, bind_assoc]
  cases src <;> first | (exact absurd rfl (hn _ _)) | rfl
theorem ev_lcR {elt a b c : ME} {g : MG} {has : Bool} {md : Md} {env : En} {st : Store} : ev call (.lc elt g (.rng a b) has c) md env st =
    (((ev call a .val env st).bind fun x st1 => (ev call b .val env st1).bind fun y st2 => rngV x y st2).bind fun s st3 =>
      lcLoop (fun e s => if has then (ev call c .test e s).bind fun x s1 => opt (isBl x) s1 else .ok true s) (ev call elt .val) g.put (wipe env g.slots) s 0 s.many [] st3).bind fun v st4 => done md v st4 := by
  simp only [bind_assoc]
  rfl
theorem ts_ok {C : Ct} {X : Cx} {has : Bool} {c : ME} {ifs : List Expr} (h : tsOk C has c ifs = true) (hc : ∀ t, mE C c t = true → SE X call c t) : PTs X ifs (tTest' X.K call has c) := by
  unfold tsOk at h
  split at h
  · exact pts_one (hc _ h).test
  · exact pts_nil
  · cases h
/-- a comprehension, from its parts -/
theorem lc_mk {C : Ct} {X : Cx} (G : Gd W C k X) {elt c m : ME} {g : MG} {has : Bool} {x tg iter : Expr} {ifs : List Expr} {scope : Scope} {pos : Pos} {srcF : En → Store → Res Src}
    (hi : PI X tg iter (rdW X.K srcF)) (hp : ∀ x, foldedSetIterable iter X.env x = pure x) (h2 : blkC C.N C.sc scope (g.own C.N) = true) (h3 : mG { C with sc := relS scope C.sc } g tg = true)
    (h4 : tsOk { C with sc := relS scope C.sc } has c ifs = true) (hc : ∀ {X : Cx}, Gd W { C with sc := relS scope C.sc } k X → ∀ t, mE { C with sc := relS scope C.sc } c t = true → SE X call c t)
    (he : ∀ {X : Cx}, Gd W { C with sc := relS scope C.sc } k X → SE X call elt x)
    (eq : ∀ md env st, ev call m md env st = ((srcF env st).bind fun s st1 => lcLoop (fun e s => if has then (ev call c .test e s).bind fun x s1 => opt (isBl x) s1 else .ok true s) (ev call elt .val) g.put (wipe env g.slots) s 0 s.many [] st1).bind fun v st1 => done md v st1) :
    SE X call m (.ListComp x [⟨tg, iter, ifs, 0⟩] scope pos) := by
  have ok : BlkOk X.N X.env.scope scope (g.own C.N) := by rw [G.N, G.sc]; exact blkOk_by h2
  have p := pe_lc (pos := pos) (own := g.own C.N) (g := gOf X.K g) (tt := tTest' X.K call has c) (te := rd X.K (ev call elt .val)) G.calm G.nd hi ok
    (fun s H a cl fp => pgG (G.blk s H scope a cl fp) h3) (fun s H a cl fp => ts_ok h4 (hc (G.blk s H scope a cl fp))) (fun s H a cl fp => (he (G.blk s H scope a cl fp)).val) hp
  rw [own_slots] at p
  exact lc_plain (fun _ _ _ q => q) p eq fun _ => rfl
theorem lc_rng {C : Ct} {X : Cx} (G : Gd W C k X) (F : Fx W C k call) {elt a b c : ME} {g : MG} {has : Bool} {e : Expr} (h : mE C (.lc elt g (.rng a b) has c) e = true)
    (ia : ∀ {e : Expr}, mE C a e = true → SE X call a e) (ib : ∀ {e : Expr}, mE C b e = true → SE X call b e)
    (ic : ∀ {C' : Ct} {X : Cx} (G : Gd W C' k X) (F : Fx W C' k call) {e : Expr}, mE C' c e = true → SE X call c e)
    (ie : ∀ {C' : Ct} {X : Cx} (G : Gd W C' k X) (F : Fx W C' k call) {e : Expr}, mE C' elt e = true → SE X call elt e) : SE X call (.lc elt g (.rng a b) has c) e := by
  unfold mE at h
  split at h
  · rename_i x tg f p es pos ifs scope pos2
    simp only [Bool.and_eq_true, decide_eq_true_eq] at h
    obtain ⟨⟨⟨⟨⟨⟨⟨rfl, h1⟩, h2⟩, h3⟩, h4⟩, h5⟩, h6⟩, h7⟩ := h
    obtain ⟨g1, g2⟩ := gl_of (X := X) (by rw [G.sc]; exact h2)
    have hm : X.mg "range" = none := by rw [G.mg]; exact F.bl _ h1
    refine lc_mk G (srcF := fun env st => (ev call a .val env st).bind fun x st1 => (ev call b .val env st1).bind fun y st2 => rngV x y st2) ?_ (fun _ => rfl) h4 h5 h6
      (fun G' t ht => ic G' ⟨F.fn, F.cs, F.bl, F.ds⟩ ht) (fun G' => ie G' ⟨F.fn, F.cs, F.bl, F.ds⟩ h7) fun _ _ _ => ev_lcR
    split at h3
    · rename_i y
      split at h3
      · exact pi_rng1 (ib h3) g1 hm (star_ok (plain_ok h3) _ _)
      · cases h3
    · rename_i z y
      rw [Bool.and_eq_true] at h3
      have e2 : starEach [y] X.env = [(false, eval y X.env)] := star_ok (plain_ok h3.2) _ _
      exact pi_rng2 (ia h3.1) (ib h3.2) g1 hm (by rw [star_ok (plain_ok h3.1), e2]) e2
    · cases h3
  · cases h
mutual
theorem sE : ∀ (m : ME) {C : Ct} {X : Cx} (G : Gd W C k X) (F : Fx W C k call) {e : Expr}, mE C m e = true → SE X call m e
  | .var i, C, X, G, F, e, h => by
    cases e <;> try (exact absurd h Bool.false_ne_true)
    rename_i x pos
    have h : (decide (C.N[i]? = some x) && visB C.sc x && !(x == ("__debug__" : Str)) && !(x == ("__classdict__" : Str))) = true := h
    simp only [Bool.and_eq_true, decide_eq_true_eq, Bool.not_eq_true'] at h
    exact se_var (by rw [G.N]; exact h.1.1.1) (vis_of (by rw [G.sc]; exact h.1.1.2)) h.1.2 h.2
  | .con v, C, X, G, F, e, h => by
    cases e <;> try (exact absurd h Bool.false_ne_true)
    exact se_con h
  | .glb x v, C, X, G, F, e, h => by
    cases e <;> try (exact absurd h Bool.false_ne_true)
    rename_i y pos
    rw [mE] at h
    simp only [Bool.and_eq_true, decide_eq_true_eq] at h
    obtain ⟨⟨rfl, h2⟩, h3⟩ := h
    obtain ⟨g1, g2⟩ := gl_of (X := X) (by rw [G.sc]; exact h2)
    split at h3
    · rename_i w hw
      cases same_ok h3
      obtain ⟨f, u, v', c1, c2, c3⟩ := F.cs _ _ hw
      exact se_glb g1 (by rw [G.mg]; exact c1) c2 (by rw [G.K]; exact c3) f g2
    · cases h3
  | .bin o a b, C, X, G, F, e, h => by
    cases e <;> try (exact absurd h Bool.false_ne_true)
    rw [mE] at h
    simp only [Bool.and_eq_true, decide_eq_true_eq] at h
    obtain ⟨⟨rfl, h2⟩, h3⟩ := h
    exact se_bin (sE a G F h2) (sE b G F h3)
  | .neg a, C, X, G, F, e, h => by
    cases e <;> try (exact absurd h Bool.false_ne_true)
    rename_i op x pos
    cases op <;> try (exact absurd h Bool.false_ne_true)
    exact se_neg (sE a G F h)
  | .cmp o a b, C, X, G, F, e, h => by
    unfold mE at h
    split at h
    · simp only [Bool.and_eq_true, decide_eq_true_eq] at h
      obtain ⟨⟨rfl, h2⟩, h3⟩ := h
      exact se_cmp (sE a G F h2) (sE b G F h3) (mark_ok (plain_ok h3) _)
    · cases h
  | .cmp2 o o' a b c, C, X, G, F, e, h => by
    unfold mE at h
    split at h
    · simp only [Bool.and_eq_true, decide_eq_true_eq] at h
      obtain ⟨⟨⟨⟨rfl, rfl⟩, h2⟩, h3⟩, h4⟩ := h
      exact se_cmp2 (sE a G F h2) (sE b G F h3) (sE c G F h4) (marks_ok (plain_ok h3) (plain_ok h4) _ _)
    · cases h
  | .not a, C, X, G, F, e, h => by
    cases e <;> try (exact absurd h Bool.false_ne_true)
    rename_i op x pos
    cases op <;> try (exact absurd h Bool.false_ne_true)
    exact se_not (sE a G F h)
  | .and a b, C, X, G, F, e, h => by
    unfold mE at h
    split at h
    · rw [Bool.and_eq_true] at h
      exact (sb_and (sE a G F h.1) (sE b G F h.2).one).se
    · rw [Bool.and_eq_true] at h
      exact (sb_and (sE a G F h.1) (sE b G F h.2).sb).se
    · cases h
  | .or a b, C, X, G, F, e, h => by
    unfold mE at h
    split at h
    · rw [Bool.and_eq_true] at h
      exact (sb_or (sE a G F h.1) (sE b G F h.2).one).se
    · rw [Bool.and_eq_true] at h
      exact (sb_or (sE a G F h.1) (sE b G F h.2).sb).se
    · cases h
  | .ite t a b, C, X, G, F, e, h => by
    unfold mE at h
    split at h
    · simp only [Bool.and_eq_true] at h
      exact se_ite (sE t G F h.1.1) (sE a G F h.1.2) (sE b G F h.2) pt_never
    · cases h
  | .fn f as, C, X, G, F, e, h => by
    unfold mE at h
    split at h
    · rename_i x p y ys pos
      simp only [Bool.and_eq_true, decide_eq_true_eq] at h
      obtain ⟨⟨h1, h2⟩, h3⟩ := h
      obtain ⟨g1, g2⟩ := gl_of (X := X) (by rw [G.sc]; exact h2)
      obtain ⟨a, fd, ps, f1, f2, f3, f4⟩ := F.fn _ _ h1
      have f4' : FnOk X.prog X.w X.K X.mg X.base CX0 k a fd ps (spEv X.K (call f)) := by rw [G.P, G.w, G.K, G.mg, G.base]; exact f4
      have hh : plainE y = true ∧ (backTo pos (starEach ys X.env)).any (·.1) = false := by
        cases as with
        | nil => cases h3
        | cons a as =>
          rw [mA, Bool.and_eq_true] at h3
          exact ⟨plain_ok h3.1, any_ok h3.2⟩
      refine se_fn (sA as G F h3) (fun {t} pa => ?_) fun _ => rfl
      refine (pe_call f4' G.room g1 (by rw [G.mg]; exact f1) (by rw [G.K]; exact f2) (by rw [G.K]; exact f3) .nil pass0 pa g2 (star_ok hh.1 _ _) hh.2).imp fun σ H Q q => ?_
      have e : (fun vs H1 => spEv X.K (call f) (vs ++ []) H1 Q E0) = (fun vs H1 => spEv X.K (call f) vs H1 Q E0) := by
        funext vs H1
        rw [List.append_nil]
      show t σ H (fun vs H1 => spEv X.K (call f) (vs ++ []) H1 Q E0)
      rw [e]
      exact q
    · cases h
  | .bi f as, C, X, G, F, e, h => by
    unfold mE at h
    split at h
    · rename_i x p y ys pos
      simp only [Bool.and_eq_true, decide_eq_true_eq, Bool.or_eq_true] at h
      obtain ⟨⟨⟨⟨rfl, h1⟩, h2⟩, h4⟩, h3⟩ := h
      have hG : f = .reprD → X.A.guards = some [] ∧ X.A.units + 200 < cLine := fun e => by
        subst e
        have h4 : C.gk = true := h4.elim (fun z => by cases z) id
        exact ⟨G.gu h4, by have := G.room.un; omega⟩
      obtain ⟨g1, g2⟩ := gl_of (X := X) (by rw [G.sc]; exact h2)
      have hm : X.mg (bname f) = none := by rw [G.mg]; exact F.bl _ h1
      have hh : plainE y = true ∧ (backTo pos (starEach ys X.env)).any (·.1) = false := by
        cases as with
        | nil => cases h3
        | cons a as =>
          rw [mA, Bool.and_eq_true] at h3
          exact ⟨plain_ok h3.1, any_ok h3.2⟩
      refine se_bi (sA as G F h3) (fun {r t} hr pa => ?_) G.calm hG fun _ => rfl
      cases f <;> first
        | exact pe_callB hr g1 hm (by decide +kernel) pa (by decide) g2 (star_ok hh.1 _ _) hh.2
        | exact pe_callTy hr g1 hm (by decide +kernel) pa (by decide) g2 (star_ok hh.1 _ _) hh.2
    · cases h
  | .mt f o as, C, X, G, F, e, h => by
    unfold mE at h
    split at h
    · rename_i x name apos y pos
      simp only [Bool.and_eq_true, decide_eq_true_eq, Bool.not_eq_true'] at h
      obtain ⟨⟨⟨⟨rfl, h1⟩, h2⟩, h3⟩, h4⟩ := h
      have hy : plainE y = true := by
        cases as with
        | nil => cases h4
        | cons a as =>
          rw [mA, Bool.and_eq_true] at h4
          exact plain_ok h4.1
      have st := star_ok hy [] X.env
      refine se_mt (sE o G F h1) (sA as G F h4) (fun {r to t} hr po pa => ?_) fun _ => rfl
      have few : ((backTo pos (starEach [y] X.env)).all (fun x => !x.1) && (backToKw pos (keywordEach [] X.env)).all (fun x => x.1.isSome)
        && decide (([y] : List Expr).length + ([] : List Keyword).length + (if ([] : List Keyword).isEmpty then 0 else 1) < 30)) = true := by rw [st]; rfl
      cases f with
      | append => exact pe_bm PySem.F.plainAttrs_list PySem.F.slot_list_append PySem.F.type_list_append hr po pa (base_ok h3) few h2 st rfl
      | split => exact pe_bm PySem.F.plainAttrs_str PySem.F.slot_str_split PySem.F.type_str_split hr po pa (base_ok h3) few h2 st rfl
      | partition => exact pe_bm PySem.F.plainAttrs_str PySem.F.slot_str_partition PySem.F.type_str_partition hr po pa (base_ok h3) few h2 st rfl
      | join => exact pe_bm PySem.F.plainAttrs_str PySem.F.slot_str_join PySem.F.type_str_join hr po pa (base_ok h3) few h2 st rfl
    · cases h
  | .tup as, C, X, G, F, e, h => by
    cases e <;> try (exact absurd h Bool.false_ne_true)
    exact se_tup (sA as G F h)
  | .lst as, C, X, G, F, e, h => by
    cases e <;> try (exact absurd h Bool.false_ne_true)
    exact se_lst (sA as G F h)
  | .ix a i, C, X, G, F, e, h => by
    cases e <;> try (exact absurd h Bool.false_ne_true)
    rw [mE, Bool.and_eq_true] at h
    exact se_ix (sE a G F h.1) (sE i G F h.2) (ix_ok (plain_ok h.2))
  | .sl a lo hi, C, X, G, F, e, h => by
    unfold mE at h
    split at h
    · rename_i x l u p2 pos
      simp only [Bool.and_eq_true] at h
      refine se_sl (sE a G F h.1.1) ?_ ?_
      · have hl := h.1.2
        cases l with
        | none => exact po_absent hl
        | some y =>
          simp only [Bool.and_eq_true, Bool.not_eq_true'] at hl
          exact po_there hl.1 (sE lo G F hl.2)
      · have hl := h.2
        cases u with
        | none => exact po_absent hl
        | some y =>
          simp only [Bool.and_eq_true, Bool.not_eq_true'] at hl
          exact po_there hl.1 (sE hi G F hl.2)
    · cases h
  | .rng _ _, C, X, G, F, e, h => by cases h
  | .fmt a, C, X, G, F, e, h => by
    unfold mE at h
    split at h
    · simp only [Bool.and_eq_true, decide_eq_true_eq] at h
      obtain ⟨rfl, h2⟩ := h
      exact se_fmt (sE a G F h2)
    · cases h
  | .fstr as, C, X, G, F, e, h => by
    unfold mE at h
    split at h
    · exact se_fstr (sJ as G F h)
    · cases h
  | .dix x kvs a, C, X, G, F, e, h => by
    unfold mE at h
    split at h
    · rename_i y p k pos
      simp only [Bool.and_eq_true, decide_eq_true_eq] at h
      obtain ⟨⟨⟨rfl, h1⟩, h3⟩, h4⟩ := h
      obtain ⟨g1, g2⟩ := gl_of (X := X) (by rw [G.sc]; exact h1)
      split at h3
      · rename_i w hw
        cases sameD_ok h3
        obtain ⟨dd, es, n, c1, c2, c3⟩ := F.ds _ _ hw
        have D : KDict X.K X.w dd es n := by rw [G.K, G.w]; exact c2
        exact se_dix D c3 (pe_glob (v := .ref dd) g1 (by rw [G.mg]; exact c1) rfl g2) (sE a G F h4) (ix_ok (plain_ok h4))
      · cases h3
    · cases h
  | .gget x kvs a b, C, X, G, F, e, h => by
    unfold mE at h
    split at h
    · rename_i y p name apos k d pos
      simp only [Bool.and_eq_true, decide_eq_true_eq] at h
      obtain ⟨⟨⟨⟨⟨⟨rfl, rfl⟩, h1⟩, h2⟩, h3⟩, h4⟩, h5⟩ := h
      obtain ⟨g1, g2⟩ := gl_of (X := X) (by rw [G.sc]; exact h1)
      split at h3
      · rename_i w hw
        cases sameD_ok h3
        obtain ⟨dd, es, n, c1, c2, c3⟩ := F.ds _ _ hw
        have s1 := star_ok (plain_ok h4) [d] X.env
        have s2 : starEach [d] X.env = [(false, eval d X.env)] := star_ok (plain_ok h5) [] X.env
        rw [s2] at s1
        have D : KDict X.K X.w dd es n := by rw [G.K, G.w]; exact c2
        refine se_gget D c3 (pe_glob (v := .ref dd) g1 (by rw [G.mg]; exact c1) rfl g2) (sE a G F h4) (sE b G F h5) ⟨rfl, ?_, h2, ?_⟩
        · rw [s1]; rfl
        · rw [s1]; rfl
      · cases h3
    · cases h
  | .mxd a d, C, X, G, F, e, h => by
    unfold mE at h
    split at h
    · rename_i f p x kw i j p2 p3 pos
      simp only [Bool.and_eq_true, decide_eq_true_eq] at h
      obtain ⟨⟨⟨⟨⟨rfl, h1⟩, h2⟩, rfl⟩, rfl⟩, h5⟩ := h
      exact se_mxd (sE a G F h5) G.calm (by have := G.room.un; omega) (gl_of (X := X) (by rw [G.sc]; exact h2)).1 (by rw [G.mg]; exact F.bl _ h1) (star_ok (plain_ok h5) _ _)
    · cases h
  | .isi t a, C, X, G, F, e, h => by
    unfold mE at h
    split at h
    · rename_i f p x y p2 pos
      simp only [Bool.and_eq_true, decide_eq_true_eq] at h
      obtain ⟨⟨⟨⟨⟨⟨rfl, h1⟩, h2⟩, rfl⟩, h3⟩, h4⟩, h5⟩ := h
      exact se_isi (sE a G F h5) (gl_of (X := X) (by rw [G.sc]; exact h2)).1 (by rw [G.mg]; exact F.bl _ h1) (gl_of (X := X) (by rw [G.sc]; exact h4)).1 (by rw [G.mg]; exact F.bl _ h3) (star_ok (plain_ok h5) _ _)
    · cases h
  | .lc elt g src has c, C, X, G, F, e, h => by
    by_cases hn : ∀ a b, src ≠ .rng a b
    · rw [mE_lc hn] at h
      split at h
      · rename_i x tg iter ifs scope pos
        simp only [Bool.and_eq_true] at h
        obtain ⟨⟨⟨⟨h1, h2⟩, h3⟩, h4⟩, h5⟩ := h
        exact lc_mk G (pi_used (sE src G F h1)) (set_ok (plain_ok h1) _) h2 h3 h4
          (fun G' t ht => sE c G' ⟨F.fn, F.cs, F.bl, F.ds⟩ ht) (fun G' => sE elt G' ⟨F.fn, F.cs, F.bl, F.ds⟩ h5) fun _ _ _ => ev_lc hn
      · cases h
    · cases src with
      | rng a b => exact lc_rng G F h (fun h => sE a G F h) (fun h => sE b G F h) (fun G F _ h => sE c G F h) (fun G F _ h => sE elt G F h)
      | _ => exact absurd (fun a b z => by cases z) hn
termination_by m => sizeOf m
theorem sJ : ∀ (as : MEs) {C : Ct} {X : Cx} (G : Gd W C k X) (F : Fx W C k call) {es : List Expr}, mA C as es = true → SJ X call as es
  | .nil, C, X, G, F, es, h => by
    cases es with
    | nil => exact sj_nil
    | cons _ _ => cases h
  | .cons a as, C, X, G, F, es, h => by
    cases es with
    | nil => cases h
    | cons e es =>
      rw [mA, Bool.and_eq_true] at h
      exact sj_cons (sE a G F h.1) (sJ as G F h.2)
termination_by as => sizeOf as
theorem sA : ∀ (as : MEs) {C : Ct} {X : Cx} (G : Gd W C k X) (F : Fx W C k call) {es : List Expr}, mA C as es = true → SA X call as es
  | .nil, C, X, G, F, es, h => by
    cases es with
    | nil => exact sa_nil
    | cons _ _ => cases h
  | .cons a as, C, X, G, F, es, h => by
    cases es with
    | nil => cases h
    | cons e es =>
      rw [mA, Bool.and_eq_true] at h
      exact sa_cons (sE a G F h.1) (sA as G F h.2) (star_ok (plain_ok h.1) _ _)
termination_by as => sizeOf as
end
end
end U

set_option maxHeartbeats 8000000
/-! U12: statements. -/
namespace U
open PySem PySem.Spec PyProof.Rows L2
/-! ### is this text that program -/
def notLc : Expr → Bool
  | .ListComp .. => false
  | .SetComp .. => false
  | .DictComp .. => false
  | _ => true
def notTup : Expr → Bool
  | .Tuple .. => false
  | _ => true
def mV1 (C : Ct) (i : Nat) (e : Expr) : Bool := match e with
  | .Name x _ => decide (C.N[i]? = some x) && locB C.sc x
  | _ => false
def mVs (C : Ct) : List Nat → List Expr → Bool
  | [], [] => true
  | i :: is, e :: es => mV1 C i e && mVs C is es
  | _, _ => false
def mV (C : Ct) (g : MG) (e : Expr) : Bool := match g, e with
  | .nm i, e => mV1 C i e
  | .tp is, .Tuple es _ _ => mVs C is es
  | _, _ => false
/-- x = [..] on one line, x a local -/
def lcOk (C : Ct) (x : Str) (px : Pos) (v : Expr) : Bool := match v with
  | .ListComp _ _ scope p => decide (C.sc.kind = .function) && decide (C.sc.names.lookup x = some .local) && (px.line == p.line) && !(scope.names.any fun (n, k) => n == x && (k == .local || k == .cell))
  | _ => false
/-- what a for walks -/
def mSrc (C : Ct) : ME → Expr → Bool
  | .rng a b, e => match e with
    | .Call (.Name f _) es [] _ => decide (f = "range") && C.bl.contains "range" && glB C.sc f && (match es with
        | [y] => (match a with
          | .con (.int 0) => mE C b y
          | _ => false)
        | [z, y] => mE C a z && mE C b y
        | _ => false)
    | _ => false
  | m, e => mE C m e
mutual
def mS (C : Ct) : MS → Stmt → Bool
  | .set i e own, s => match s with
    | .Assign [.Name x px] v pos => decide (C.N[i]? = some x) && locB C.sc x && mE C e v && (notLc v || lcOk C x px v)
    | _ => false
  | .setT is e, s => match s with
    | .Assign [.Tuple es k p] v pos => mVs C is es && mE C e v && notLc v && notTup v
    | _ => false
  | .par i j as, s => match s with
    | .Assign [.Tuple [.Name x px, .Name y py] kt pt] (.Tuple [a, b] k2 pt2) pos => decide (C.N[i]? = some x) && decide (C.N[j]? = some y) && !(i == j) && !(x == y) && decide (C.sc.names.lookup x = some .local) && decide (C.sc.names.lookup y = some .local) &&
        (py.line == px.line) && !(foldedForSure 8 a && foldedForSure 8 b) && !(constantsAlone 8 a && constantsAlone 8 b) && mA C as [a, b]
    | _ => false
  | .setIx a i e, s => match s with
    | .Assign [.Subscript o x p] v pos => mE C a o && mE C i x && mE C e v && notLc v
    | _ => false
  | .aug i o e, s => match s with
    | .AugAssign (.Name x p) op v pos => decide (op = bop o) && decide (C.N[i]? = some x) && locB C.sc x && mE C e v
    | _ => false
  | .ex e, s => match s with
    | .Expr v pos => mE C e v && notLc v
    | _ => false
  | .ext i e, s => match s with
    | .Expr (.Call (.Attribute (.Name x p) name apos) [y] [] cpos) pos => decide (name = "extend") && (apos.endLine == cpos.line) && mE C (.var i) (.Name x p) && mE C e y
    | _ => false
  | .app i e, s => match s with
    | .Expr (.Call (.Attribute (.Name x p) name apos) [y] [] cpos) pos => decide (name = "append") && (apos.endLine == cpos.line) && mE C (.var i) (.Name x p) && mE C e y
    | _ => false
  | .ret e, s => match s with
    | .Return (some v) pos => mE C e v
    | _ => false
  | .ret0, s => match s with
    | .Return none pos => true
    | _ => false
  | .ite t a b, s => match s with
    | .If c x y pos => mE C t c && mSs C a x && mSs C b y
    | _ => false
  | .whl t b, s => match s with
    | .While c x [] pos => mE C t c && mSs C b x
    | _ => false
  | .for_ g src b, s => match s with
    | .For tg iter x [] pos => mV C g tg && mSrc C src iter && plainE iter && mSs C b x
    | _ => false
  | .brk, s => match s with
    | .Break _ => true
    | _ => false
  | .cnt, s => match s with
    | .Continue _ => true
    | _ => false
  | .pass, s => match s with
    | .Pass _ => true
    | _ => false
def mSs (C : Ct) : MSs → List Stmt → Bool
  | .nil, l => match l with
    | [] => true
    | _ => false
  | .cons s ss, l => match l with
    | [] => false
    | x :: xs => mS C s x && mSs C ss xs
end

/-! ### readings -/
section
variable {K : PySem.W.Frag} {μ : Nat → Addr} {L : Nat} {H : Hp} {X : Cx} {call : Nat → List PV → Store → Res PV}
/-- the lists of its own -/
def Own (env : En) (σ : L2.St) : Addr → Prop := fun a => ∃ (i : Nat) (xs : List PV), env[i]? = some (some (.fl xs)) ∧ σ[i]? = some (some (.ref a))
structure S1 (K : PySem.W.Frag) (μ : Nat → Addr) (L : Nat) (H : Hp) (env : En) (σ : L2.St) : Prop where
  re : RE K μ L H env σ
  de : ∀ (i j : Nat) (xs ys : List PV) (a : Addr), i ≠ j → env[i]? = some (some (.fl xs)) → env[j]? = some (some (.fl ys)) → σ[i]? = some (some (.ref a)) → σ[j]? = some (some (.ref a)) → False
theorem Own.there {env : En} {σ : L2.St} {a : Addr} (r : RE K μ L H env σ) (h : Own env σ a) : ∃ vs, H a = some (.lst vs) := by
  obtain ⟨i, xs, h1, h2⟩ := h
  obtain ⟨v, h3, h4⟩ := r.at_ i _ h1
  rw [h2] at h3
  cases h3
  cases h4 with
  | fl h5 _ _ => exact ⟨_, h5⟩
theorem S1.mono {μ1 : Nat → Addr} {L1 : Nat} {H1 : Hp} {env : En} {σ : L2.St} (s : Stp μ L H μ1 L1 H1) (r : S1 K μ L H env σ) : S1 K μ1 L1 H1 env σ := ⟨r.re.mono s, r.de⟩
def post (K : PySem.W.Frag) (S : Addr → Prop) (μ : Nat → Addr) (st : Store) (H : Hp) (r : SR) (D : Ends) : Prop := match r with
  | .nx e s => ∀ μ' H' σ', StX S μ st.length H μ' s.length H' → Ok K μ' s H' → S1 K μ' s.length H' e σ' → (∀ a, Own e σ' a → S a ∨ H a = none) → D.nx σ' H'
  | .bk e s => ∀ μ' H' σ', StX S μ st.length H μ' s.length H' → Ok K μ' s H' → S1 K μ' s.length H' e σ' → (∀ a, Own e σ' a → S a ∨ H a = none) → D.bk σ' H'
  | .ct e s => ∀ μ' H' σ', StX S μ st.length H μ' s.length H' → Ok K μ' s H' → S1 K μ' s.length H' e σ' → (∀ a, Own e σ' a → S a ∨ H a = none) → D.ct σ' H'
  | .rt v s => ∀ μ' H' v', StX S μ st.length H μ' s.length H' → Ok K μ' s H' → RV K μ' s.length H' v v' → (∀ a, v.isFl = true → v' = .ref a → S a ∨ H a = none) → D.rt v' H'
  | .bad => False
def rdS (K : PySem.W.Frag) (m : En → Store → SR) : TS := fun D σ H => ∃ μ env st, Ok K μ st H ∧ S1 K μ st.length H env σ ∧ post K (Own env σ) μ st H (m env st) D
theorem post.shift {S S' : Addr → Prop} {μ1 : Nat → Addr} {st st1 : Store} {H1 : Hp} {r : SR} {D : Ends} (s : StX S μ st.length H μ1 st1.length H1) (hs : ∀ a, S' a → S a ∨ H a = none) (p : post K S μ st H r D) : post K S' μ1 st1 H1 r D := by
  have own : ∀ a, S' a ∨ H1 a = none → S a ∨ H a = none := fun a z => z.elim (hs a) fun z => .inr (s.there a z)
  cases r with
  | nx e t => exact fun μ' H' σ' t o q w => p μ' H' σ' (s.trans t hs) o q fun a z => own a (w a z)
  | bk e t => exact fun μ' H' σ' t o q w => p μ' H' σ' (s.trans t hs) o q fun a z => own a (w a z)
  | ct e t => exact fun μ' H' σ' t o q w => p μ' H' σ' (s.trans t hs) o q fun a z => own a (w a z)
  | rt v t => exact fun μ' H' v' t o q w => p μ' H' v' (s.trans t hs) o q fun a z1 z2 => own a (w a z1 z2)
  | bad => exact p
theorem to_ok {α : Type} {r : Res α} {f : α → Store → SR} {S : Addr → Prop} {st : Store} {D : Ends} (h : post K S μ st H (r.to f) D) : ∃ a st1, r = .ok a st1 ∧ post K S μ st H (f a st1) D := by
  cases r with
  | ok a st1 => exact ⟨a, st1, rfl, h⟩
  | bad => exact h.elim
theorem post.mono {S : Addr → Prop} {st : Store} {r : SR} {D D' : Ends} (p : post K S μ st H r D) (hn : ∀ σ H, D.nx σ H → D'.nx σ H) (hr : ∀ v H, D.rt v H → D'.rt v H) (hb : ∀ σ H, D.bk σ H → D'.bk σ H) (hc : ∀ σ H, D.ct σ H → D'.ct σ H) : post K S μ st H r D' := by
  cases r with
  | nx e t => exact fun μ' H' σ' t o q w => hn _ _ (p μ' H' σ' t o q w)
  | bk e t => exact fun μ' H' σ' t o q w => hb _ _ (p μ' H' σ' t o q w)
  | ct e t => exact fun μ' H' σ' t o q w => hc _ _ (p μ' H' σ' t o q w)
  | rt v t => exact fun μ' H' v' t o q w => hr _ _ (p μ' H' v' t o q w)
  | bad => exact p
theorem _root_.L2.PS.imp {st : Stmt} {t t' : TS} (h : PS X st t) (i : ∀ D σ H, t' D σ H → t D σ H) : PS X st t' := ⟨fun pins s σ H D I q => h.run pins s σ H D I (i _ _ _ q)⟩
theorem _root_.L2.PSs.imp {st : List Stmt} {t t' : TS} (h : PSs X st t) (i : ∀ D σ H, t' D σ H → t D σ H) : PSs X st t' := ⟨fun pins s σ H D I q => h.run pins s σ H D I (i _ _ _ q)⟩

/-- a name gets a value that is shared or no list -/
theorem S1.set {env : En} {σ : L2.St} {x : PV} {v : V} (r : S1 K μ L H env σ) (q : RV K μ L H x v) (f : x.isFl = false) (i : Nat) : S1 K μ L H (env.set i (some x)) (σ.set i (some v)) ∧ ∀ a, Own (env.set i (some x)) (σ.set i (some v)) a → Own env σ a := by
  have key : ∀ (j : Nat) (xs : List PV) (a : Addr), (env.set i (some x))[j]? = some (some (.fl xs)) → (σ.set i (some v))[j]? = some (some (.ref a)) → env[j]? = some (some (.fl xs)) ∧ σ[j]? = some (some (.ref a)) := fun j xs a h1 h2 => by
    by_cases e : i = j
    · subst e
      by_cases hi : i < env.length
      · rw [List.getElem?_set_self hi] at h1
        cases h1; cases f
      · rw [List.getElem?_eq_none (by simp; omega)] at h1; cases h1
    · rw [List.getElem?_set_ne e] at h1 h2
      exact ⟨h1, h2⟩
  exact ⟨⟨r.re.set q i, fun j k xs ys a ne h1 h2 h3 h4 => let ⟨a1, a2⟩ := key j xs a h1 h3; let ⟨b1, b2⟩ := key k ys a h2 h4; r.de j k xs ys a ne a1 b1 a2 b2⟩, fun a ⟨j, xs, h1, h2⟩ => let ⟨a1, a2⟩ := key j xs a h1 h2; ⟨j, xs, a1, a2⟩⟩
/-- .. or a list that stands off its own lists -/
theorem S1.setFl {env : En} {σ : L2.St} {x : PV} {v : V} (r : S1 K μ L H env σ) (q : RV K μ L H x v) (f : ∀ a, x.isFl = true → v = .ref a → ¬ Own env σ a) (i : Nat) :
    S1 K μ L H (env.set i (some x)) (σ.set i (some v)) ∧ ∀ a, Own (env.set i (some x)) (σ.set i (some v)) a → Own env σ a ∨ (x.isFl = true ∧ v = .ref a) := by
  have key : ∀ (j : Nat) (xs : List PV) (a : Addr), (env.set i (some x))[j]? = some (some (.fl xs)) → (σ.set i (some v))[j]? = some (some (.ref a)) → (j ≠ i ∧ env[j]? = some (some (.fl xs)) ∧ σ[j]? = some (some (.ref a))) ∨ (j = i ∧ x.isFl = true ∧ v = .ref a) := fun j xs a h1 h2 => by
    by_cases e : i = j
    · subst e
      by_cases hi : i < env.length
      · rw [List.getElem?_set_self hi] at h1
        rw [List.getElem?_set_self (by rw [← r.re.len]; exact hi)] at h2
        cases h1; cases h2
        exact .inr ⟨rfl, rfl, rfl⟩
      · rw [List.getElem?_eq_none (by simp; omega)] at h1; cases h1
    · rw [List.getElem?_set_ne e] at h1 h2
      exact .inl ⟨fun z => e z.symm, h1, h2⟩
  refine ⟨⟨r.re.set q i, fun j k xs ys a ne h1 h2 h3 h4 => ?_⟩, fun a ⟨j, xs, h1, h2⟩ => ?_⟩
  · rcases key j xs a h1 h3 with ⟨_, a1, a2⟩ | ⟨rfl, f1, e1⟩
    · rcases key k ys a h2 h4 with ⟨_, b1, b2⟩ | ⟨rfl, f2, e2⟩
      · exact r.de j k xs ys a ne a1 b1 a2 b2
      · exact f a f2 e2 ⟨j, xs, a1, a2⟩
    · rcases key k ys a h2 h4 with ⟨_, b1, b2⟩ | ⟨e3, _, _⟩
      · exact f a f1 e1 ⟨k, ys, b1, b2⟩
      · exact ne e3.symm
  · rcases key j xs a h1 h2 with ⟨_, a1, a2⟩ | ⟨_, f1, e1⟩
    · exact .inl ⟨j, xs, a1, a2⟩
    · exact .inr ⟨f1, e1⟩
theorem S1.setEach {Q : L2.St → Hp → Prop} : ∀ {is : List Nat} {xs : List PV} {vs : List V} {env env' : En} {σ : L2.St}, U.setEach is xs env = some env' → S1 K μ L H env σ → RVs K μ L H xs vs →
    (∀ σ', S1 K μ L H env' σ' → (∀ a, Own env' σ' a → Own env σ a) → Q σ' H) → gAll is vs σ H Q
  | [], _, _, _, _, _, h, r, .nil, q => by
    cases h
    exact ⟨rfl, q _ r fun _ z => z⟩
  | [], _, _, _, _, _, h, _, .cons _ _ _, _ => by cases h
  | _ :: _, _, _, _, _, _, h, _, .nil, _ => by cases h
  | i :: is, _, _, _, _, _, h, r, .cons f rx rs, q =>
    ⟨_, _, rfl, S1.setEach h (r.set rx f i).1 rs fun σ' r' w => q σ' r' fun a z => (r.set rx f i).2 a (w a z)⟩
theorem S1.put {g : MG} {x : PV} {x' : V} {env env' : En} {σ : L2.St} {Q : L2.St → Hp → Prop} (h : g.put x env = some env') (r : S1 K μ L H env σ) (f : x.isFl = false) (rx : RV K μ L H x x')
    (q : ∀ σ', S1 K μ L H env' σ' → (∀ a, Own env' σ' a → Own env σ a) → Q σ' H) : gOf K g x' σ H Q := by
  cases g with
  | nm i =>
    cases h
    exact q _ (r.set rx f i).1 (r.set rx f i).2
  | tp is =>
    unfold MG.put at h
    simp only at h
    split at h
    · cases rx with
      | tup h1 r1 => exact ⟨_, _, rfl, h1, by rw [← r1.len]; exact setEach_len h, S1.setEach h r r1 q⟩
    · cases h
end
end U

set_option maxHeartbeats 8000000
/-! U13: statements, one by one. -/
namespace U
open PySem PySem.Spec PyProof.Rows L2
theorem dups2 {x y : Str} (h : (x == y) = false) : ([x, y] : List Str).eraseDups.length = 2 := by
  have h' : (y == x) = false := by
    cases q : y == x with
    | false => rfl
    | true => rw [eq_of_beq q, beq_self_eq_true] at h; cases h
  simp [List.eraseDups_cons, h']
theorem sw_par {x y : Str} {px py pt pt2 : Pos} {kt k2 : Nat} {a b : Expr} {env : Env} (hk : env.blockKind = .function) (hx : env.kindOf x = some .local) (hy : env.kindOf y = some .local) (hl : (py.line == px.line) = true) (ne : (x == y) = false)
    (sa : plainE a = true) (sb : plainE b = true) (hf : (foldedForSure 8 a && foldedForSure 8 b) = false) (hc : (constantsAlone 8 a && constantsAlone 8 b) = false) :
    swappedStores [.Tuple [.Name x px, .Name y py] kt pt] (.Tuple [a, b] k2 pt2) env = pure (some [x, y]) := by
  have hl' := eq_of_beq hl
  have d := dups2 ne
  have f2 : [a, b].all (foldedForSure 8) = false := by simpa using hf
  have c2 : [a, b].all (constantsAlone 8) = false := by simpa using hc
  unfold swappedStores
  simp only [hk, f2, c2, hl', Expr.pos, List.length_cons, List.length_nil, List.head?_cons, Option.map_some, Option.getD_some, List.filterMap_cons, List.filterMap_nil, hx, hy, beq_self_eq_true, Bool.and_self, if_true, d]
  rw [if_neg (by decide), if_neg, if_neg (by decide), if_neg Bool.false_ne_true, if_neg Bool.false_ne_true]
  cases a <;> first | (cases sa; done) | (cases b <;> first | exact Bool.false_ne_true | (cases sb; done))
section
variable {K : PySem.W.Frag} {X : Cx} {call : Nat → List PV → Store → Res PV} {m : ME}
/-- e, dropped -/
theorem ps_ex {e : ME} {x : Expr} {pos : Pos} {turns : Nat} (he : SE X call e x) (hs : swapsWith x none pos.line X.env = pure false) : PS X (.Expr x pos) (rdS X.K (evS call turns (.ex e))) := by
  refine (ps_expr he.val hs).imp fun D σ H ⟨μ, env, st, o, r, p⟩ => ?_
  rw [evS] at p
  obtain ⟨x1, st1, h1, p⟩ := to_ok p
  exact ⟨μ, env, st, x1, st1, o, r.re, h1, fun μ1 H1 x' s1 o1 r1 f1 => p μ1 H1 σ s1.wide o1 (r.mono s1) fun a z => .inl z⟩
/-- x = e -/
theorem set_imp {e : ME} {i : Nat} {own : Bool} {turns : Nat} : ∀ D σ H, rdS K (evS call turns (.set i e own)) D σ H → tAsg (rd K (ev call e .val)) (gName i) D σ H := fun D σ H ⟨μ, env, st, o, r, p⟩ => by
  rw [evS] at p
  obtain ⟨x1, st1, h1, p⟩ := to_ok p
  refine ⟨μ, env, st, x1, st1, o, r.re, h1, fun μ1 H1 x' s1 o1 r1 f1 => ?_⟩
  show D.nx (σ.set i (some x')) H1
  cases own with
  | true =>
    have off : ∀ a, x1.isFl = true → x' = .ref a → H a = none := fun a z e => by
      cases x1 <;> first | cases z | skip
      subst e
      exact f1
    obtain ⟨q1, q2⟩ := (r.mono s1).setFl r1 (fun a z e w => by
      obtain ⟨vs, hv⟩ := w.there r.re
      rw [off a z e] at hv; cases hv) i
    exact p μ1 H1 _ s1.wide o1 q1 fun a z => (q2 a z).elim .inl fun w => .inr (off a w.1 w.2)
  | false =>
    obtain ⟨μe, se, oe, re, fe, _⟩ := Ok.esc s1 o1 r1 f1
    obtain ⟨q1, q2⟩ := (r.mono se).set re fe i
    exact p μe H1 _ se.wide oe q1 fun a z => .inl (q2 a z)
/-- return e -/
theorem ps_retE {e : ME} {x : Expr} {pos : Pos} {turns : Nat} (he : SE X call e x) (hv : ∀ j, e = .var j → PE X x (tVar j)) : PS X (.Return (some x) pos) (rdS X.K (evS call turns (.ret e))) := by
  have val : PS X (.Return (some x) pos) (tRet (rd X.K (ev call e .val))) := ps_ret he.val
  refine ⟨fun pins s σ H D I ⟨μ, env, st, o, r, p⟩ => ?_⟩
  rw [evS] at p
  split at p
  · rename_i i xs hh
    unfold ME.held at hh
    split at hh
    · rename_i j
      split at hh
      · rename_i hy
        cases hh
        obtain ⟨v, h1, h2⟩ := r.re.at_ _ _ hy
        refine (ps_ret (pos := pos) (hv _ rfl)).run pins s σ H D I ⟨v, h1, p μ H v StX.refl o h2 fun a _ e => .inl ⟨_, _, hy, ?_⟩⟩
        rw [← e]; exact h1
      · cases hh
    · cases hh
  · obtain ⟨x1, st1, h1, p⟩ := to_ok p
    refine val.run pins s σ H D I ⟨μ, env, st, x1, st1, o, r.re, h1, fun μ1 H1 v' s1 o1 r1 f1 => ?_⟩
    refine p μ1 H1 v' s1.wide o1 r1 fun a z e => .inr ?_
    cases x1 <;> first | cases z | skip
    subst e
    exact f1
theorem ps_ret0 {pos : Pos} {turns : Nat} : PS X (.Return none pos) (rdS X.K (evS call turns .ret0)) := by
  refine ps_retN.imp fun D σ H ⟨μ, env, st, o, r, p⟩ => ?_
  rw [evS] at p
  exact p μ H .non StX.refl o .non fun a z => by cases z
theorem ps_brk {pos : Pos} {turns : Nat} : PS X (.Break pos) (rdS X.K (evS call turns .brk)) := by
  refine ps_break.imp fun D σ H ⟨μ, env, st, o, r, p⟩ => ?_
  rw [evS] at p
  exact p μ H σ StX.refl o r fun a z => .inl z
theorem ps_cnt {pos : Pos} {turns : Nat} : PS X (.Continue pos) (rdS X.K (evS call turns .cnt)) := by
  refine ps_continue.imp fun D σ H ⟨μ, env, st, o, r, p⟩ => ?_
  rw [evS] at p
  exact p μ H σ StX.refl o r fun a z => .inl z
theorem ps_pas {pos : Pos} {turns : Nat} : PS X (.Pass pos) (rdS X.K (evS call turns .pass)) := by
  refine ps_pass.imp fun D σ H ⟨μ, env, st, o, r, p⟩ => ?_
  rw [evS] at p
  exact p μ H σ StX.refl o r fun a z => .inl z
/-- if -/
theorem ps_ite {t : ME} {a b : MSs} {c : Expr} {x y : List Stmt} {pos : Pos} {turns : Nat} (ht : SE X call t c) (ha : PSs X x (rdS X.K (evSs call turns a))) (hb : PSs X y (rdS X.K (evSs call turns b))) : PS X (.If c x y pos) (rdS X.K (evS call turns (.ite t a b))) := by
  refine (ps_if ht.test ha hb).imp fun D σ H ⟨μ, env, st, o, r, p⟩ => ?_
  rw [evS] at p
  obtain ⟨x1, st1, h1, p⟩ := to_ok p
  split at p
  · rename_i hk
    cases isBl_ok hk
    exact ⟨μ, env, st, true, st1, o, r.re, h1, fun μ1 H1 s1 o1 => iteT ⟨μ1, env, st1, o1, r.mono s1, p.shift s1.wide fun a z => .inl z⟩⟩
  · rename_i hk
    cases isBl_ok hk
    exact ⟨μ, env, st, false, st1, o, r.re, h1, fun μ1 H1 s1 o1 => iteF ⟨μ1, env, st1, o1, r.mono s1, p.shift s1.wide fun a z => .inl z⟩⟩
  · exact p.elim
/-- a block -/
theorem pss_n {turns : Nat} : PSs X [] (rdS X.K (evSs call turns .nil)) := by
  refine pss_nil.imp fun D σ H ⟨μ, env, st, o, r, p⟩ => ?_
  rw [evSs] at p
  exact p μ H σ StX.refl o r fun a z => .inl z
theorem pss_c {s : MS} {ss : MSs} {x : Stmt} {xs : List Stmt} {turns : Nat} (h1 : PS X x (rdS X.K (evS call turns s))) (h2 : PSs X xs (rdS X.K (evSs call turns ss))) : PSs X (x :: xs) (rdS X.K (evSs call turns (.cons s ss))) := by
  refine (pss_cons h1 h2).imp fun D σ H ⟨μ, env, st, o, r, p⟩ => ⟨μ, env, st, o, r, ?_⟩
  rw [evSs] at p
  cases q : evS call turns s env st with
  | nx e1 s1 =>
    rw [q] at p
    exact fun μ' H' σ' t o' r' w => ⟨μ', e1, s1, o', r', post.shift (r := evSs call turns ss e1 s1) t w p⟩
  | rt v s1 => rw [q] at p; exact p
  | bk e1 s1 => rw [q] at p; exact p
  | ct e1 s1 => rw [q] at p; exact p
  | bad => rw [q] at p; exact p
/-- while -/
theorem whl_step {test : En → Store → Res PV} {body : En → Store → SR} {n : Nat} {env : En} {st : Store} : whlLoop test body (n + 1) env st = (test env st).to fun x st1 => match isBl x with
    | some true => match body env st1 with
      | .nx e s => whlLoop test body n e s
      | .ct e s => whlLoop test body n e s
      | .bk e s => .nx e s
      | r => r
    | some false => .nx env st1
    | none => .bad := rfl
theorem ps_whl {t : ME} {b : MSs} {c : Expr} {x : List Stmt} {pos : Pos} {turns : Nat} (hp : PassesOwn (model X.prog X.w) X.A X.env X.xe) (ht : SE X call t c) (hb : PSs X x (rdS X.K (evSs call turns b))) : PS X (.While c x [] pos) (rdS X.K (evS call turns (.whl t b))) := by
  refine (ps_while hp ht.test hb).imp fun D σ H ⟨μ, env, st, o, r, p⟩ => ?_
  rw [evS] at p
  refine ⟨fun m σ H => ∃ μ env st, Ok X.K μ st H ∧ S1 X.K μ st.length H env σ ∧ post X.K (Own env σ) μ st H (whlLoop (ev call t .test) (evSs call turns b) m env st) D, ⟨turns, μ, env, st, o, r, p⟩, ?_⟩
  rintro m σ H ⟨μ, env, st, o, r, p⟩
  cases m with
  | zero => exact p.elim
  | succ m =>
    rw [whl_step] at p
    obtain ⟨x1, st1, h1, p⟩ := to_ok p
    split at p
    · rename_i hk
      cases isBl_ok hk
      refine ⟨μ, env, st, true, st1, o, r.re, h1, fun μ1 H1 s1 o1 => iteT ⟨fun σ' H' => ∃ μ env st, Ok X.K μ st H' ∧ S1 X.K μ st.length H' env σ' ∧ post X.K (Own env σ') μ st H' (whlLoop (ev call t .test) (evSs call turns b) m env st) D,
        fun σ' H' w => ⟨m, Nat.lt_succ_self m, w⟩, μ1, env, st1, o1, r.mono s1, ?_⟩⟩
      have p := p.shift (S' := Own env σ) s1.wide fun a z => .inl z
      cases q : evSs call turns b env st1 with
      | nx e s => rw [q] at p; exact fun μ' H' σ' t o' r' w => ⟨μ', e, s, o', r', post.shift t w p⟩
      | ct e s => rw [q] at p; exact fun μ' H' σ' t o' r' w => ⟨μ', e, s, o', r', post.shift t w p⟩
      | bk e s => rw [q] at p; exact p
      | rt v s => rw [q] at p; exact p
      | bad => rw [q] at p; exact p
    · rename_i hk
      cases isBl_ok hk
      exact ⟨μ, env, st, false, st1, o, r.re, h1, fun μ1 H1 s1 o1 => iteF (p μ1 H1 σ s1.wide o1 (r.mono s1) fun a z => .inl z)⟩
    · exact p.elim

/-! ### for -/
def rdF (K : PySem.W.Frag) (m : En → Store → Res Src) : TI := fun σ H R => ∃ μ env st s st', Ok K μ st H ∧ S1 K μ st.length H env σ ∧ m env st = .ok s st' ∧
  ∀ μ' H' J, Stp μ st.length H μ' st'.length H' → Ok K μ' st' H' → SrcR K (Own env σ) μ' st'.length H' J s → R J H'
theorem pf_val {tg it : Expr} (h : SE X call m it) : PI X tg it (rdF X.K fun env st => (ev call m .val env st).bind fun x st1 => opt (srcV x st1) st1) := by
  refine ⟨fun pins s σ H R I ⟨μ, env, st, src, st', o, r, h1, g⟩ => ?_⟩
  obtain ⟨v, st1, h2, h3⟩ := bind_ok h1
  obtain ⟨h4, rfl⟩ := opt_ok h3
  have ls : (∀ μ1 H1 v', Stp μ st.length H μ1 st1.length H1 → Ok X.K μ1 st1 H1 → RV X.K μ1 st1.length H1 v v' → Fr H v v' → ∃ a, v' = .ref a ∧ (∃ xs, SqL X.K H1 a xs) ∧ R (Itl X.K a) H1) →
      wpAny (model X.prog X.w) X.A (eval it X.env) (fun v s1 => wpAny (model X.prog X.w) X.A (pyIter v) (PIE X pins σ tg R) X.xe s1) X.xe s :=
    fun q => (pi_list h.val).run pins s σ H R I ⟨μ, env, st, v, st1, o, r.re, h2, fun μ1 H1 v' s1 o1 r1 f1 => q μ1 H1 v' s1 o1 r1 f1⟩
  cases v with
  | str z =>
    cases h4
    refine (pi_str h.val).run pins s σ H R I ⟨μ, env, st, _, st1, o, r.re, h2, fun μ1 H1 v' s1 o1 r1 _ => ?_⟩
    cases r1
    exact ⟨z, rfl, g μ1 H1 _ s1 o1 .str⟩
  | tup xs =>
    cases h4
    refine (pi_tup h.val).run pins s σ H R I ⟨μ, env, st, _, st1, o, r.re, h2, fun μ1 H1 v' s1 o1 r1 _ => ?_⟩
    cases r1 with
    | tup h5 r5 => exact ⟨_, rfl, ⟨_, h5⟩, g μ1 H1 _ s1 o1 (.tup h5 r5)⟩
  | fl xs =>
    cases h4
    refine ls fun μ1 H1 v' s1 o1 r1 f1 => ?_
    cases r1 with
    | fl h5 n5 r5 => exact ⟨_, rfl, ⟨_, SqL.of h5⟩, g μ1 H1 _ s1 o1 (.own h5 n5 (fun z => by
        obtain ⟨vs, hv⟩ := z.there r.re
        rw [show H _ = none from f1] at hv; cases hv) r5)⟩
  | rol xs =>
    cases h4
    refine ls fun μ1 H1 v' s1 o1 r1 _ => ?_
    cases r1 with
    | rol h5 r5 => exact ⟨_, rfl, ⟨_, h5.sq⟩, g μ1 H1 _ s1 o1 (.rol h5 r5)⟩
  | loc n =>
    refine ls fun μ1 H1 v' s1 o1 r1 _ => ?_
    cases r1 with
    | loc h5 =>
      obtain ⟨xs, hx, e⟩ := Option.map_eq_some_iff.mp h4
      obtain ⟨vs, hv⟩ := o1.held h5
      subst e
      exact ⟨_, rfl, ⟨vs, SqL.of hv⟩, g μ1 H1 _ s1 o1 (.live h5)⟩
  | _ => cases h4
theorem pf_rng2 {tg x y : Expr} {a b : ME} {p pos : Pos} (ha : SE X call a x) (hb : SE X call b y) (hg : Gl X "range") (hm : X.mg "range" = none) (hs : starEach [x, y] X.env = [(false, eval x X.env), (false, eval y X.env)]) (hs2 : starEach [y] X.env = [(false, eval y X.env)]) :
    PI X tg (.Call (.Name "range" p) [x, y] [] pos) (rdF X.K fun env st => (ev call a .val env st).bind fun x st1 => (ev call b .val env st1).bind fun y st2 => rngV x y st2) := by
  refine (pi_range2 hg hm (pa_cons ha.val (pa_cons hb.val pa_nil hs2) (by rw [hs, hs2])) hs hs2).imp fun σ H R ⟨μ, env, st, s, st', o, r, h, g⟩ => ?_
  obtain ⟨x1, st1, h1, h2⟩ := bind_ok h
  obtain ⟨y1, st2, h3, h4⟩ := bind_ok h2
  obtain ⟨i, j, rfl, rfl, hb, rfl, rfl⟩ := rng_ok h4
  refine ⟨μ, env, st, _, st1, o, r.re, h1, fun μ1 H1 x' s1 o1 r1 _ => ⟨μ1, env, st1, _, _, o1, r.re.mono s1, h3, fun μ2 H2 y' s2 o2 r2 _ => ?_⟩⟩
  cases r1; cases r2
  exact ⟨i, j, rfl, hb, g μ2 H2 _ (Stp.trans s1 s2) o2 .rng⟩
theorem pf_rng1 {tg y : Expr} {b : ME} {p pos : Pos} (hb : SE X call b y) (hg : Gl X "range") (hm : X.mg "range" = none) (hs : starEach [y] X.env = [(false, eval y X.env)]) :
    PI X tg (.Call (.Name "range" p) [y] [] pos) (rdF X.K fun env st => (ev call (.con (.int 0)) .val env st).bind fun x st1 => (ev call b .val env st1).bind fun y st2 => rngV x y st2) := by
  refine (pi_range1 hg hm (pa_cons hb.val pa_nil hs) hs).imp fun σ H R ⟨μ, env, st, s, st', o, r, h, g⟩ => ?_
  obtain ⟨x1, st1, h1, h2⟩ := bind_ok h
  cases (show Res.ok (PV.int 0) st = Res.ok x1 st1 from h1)
  obtain ⟨y1, st2, h3, h4⟩ := bind_ok h2
  obtain ⟨i, j, e, rfl, hb, rfl, rfl⟩ := rng_ok h4
  cases e
  refine ⟨μ, env, _, _, _, o, r.re, h3, fun μ2 H2 y' s2 o2 r2 _ => ?_⟩
  cases r2
  have q := g μ2 H2 _ s2 o2 (.rng (lo := 0) (n := (j - 0).toNat))
  rw [Int.sub_zero] at q
  exact ⟨j, rfl, hb.2.2.1, hb.2.2.2, q⟩
theorem for_step {put : PV → En → Option En} {body : En → Store → SR} {src : Src} {j n : Nat} {env : En} {st : Store} : forLoop put body src j (n + 1) env st = match src.get j st with
    | none => .bad
    | some x => match put x env with
      | none => .bad
      | some env' => match body env' st with
        | .nx e s => forLoop put body src (j + 1) n e s
        | .ct e s => forLoop put body src (j + 1) n e s
        | .bk e s => .nx e s
        | r => r := rfl
theorem ps_forE {g : MG} {src : ME} {b : MSs} {tg iter : Expr} {x : List Stmt} {pos : Pos} {turns : Nat} (hp : PassesOwn (model X.prog X.w) X.A X.env X.xe) (hc : X.calm = true) (hi : PI X tg iter (rdF X.K (evSrc call src))) (hg : PG X tg (gOf X.K g))
    (hb : PSs X x (rdS X.K (evSs call turns b))) (hs : ∀ x, foldedSetIterable iter X.env x = pure x) : PS X (.For tg iter x [] pos) (rdS X.K (evS call turns (.for_ g src b))) := by
  refine (ps_for hp hc hi hg hb hs).imp fun D σ H ⟨μ, env, st, o, r, p⟩ => ?_
  rw [evS] at p
  obtain ⟨src1, st1, h1, p⟩ := to_ok p
  refine ⟨μ, env, st, src1, st1, o, r, h1, fun μ1 H1 J s1 o1 j1 => ?_⟩
  have p := p.shift (S' := Own env σ) s1.wide fun a z => .inl z
  refine ⟨fun i m σ H => ∃ μ env st, Ok X.K μ st H ∧ S1 X.K μ st.length H env σ ∧ SrcR X.K (Own env σ) μ st.length H J src1 ∧ i + m = src1.many ∧ post X.K (Own env σ) μ st H (forLoop g.put (evSs call turns b) src1 i m env st) D,
    ⟨src1.many, μ1, env, st1, o1, r.mono s1, j1, by omega, p⟩, ?_⟩
  rintro i m σ H ⟨μ, env, st, o, r, j, em, p⟩
  cases m with
  | zero =>
    refine .inl ?_
    unfold forLoop at p
    split at p
    · rename_i hf
      have q := j.stop o hf
      have e0 : i = src1.many := by omega
      subst e0
      exact ⟨q, p μ H σ StX.refl o r fun a z => .inl z⟩
    · exact p.elim
  | succ m =>
    refine .inr ?_
    rw [for_step] at p
    split at p
    · exact p.elim
    · rename_i x hx
      split at p
      · exact p.elim
      · rename_i env' hput
        obtain ⟨q1, q2⟩ := j.go o hx
        refine ⟨q1, fun σ' H' => ∃ μ env st, Ok X.K μ st H' ∧ S1 X.K μ st.length H' env σ' ∧ SrcR X.K (Own env σ') μ st.length H' J src1 ∧ (i + 1) + m = src1.many ∧ post X.K (Own env σ') μ st H' (forLoop g.put (evSs call turns b) src1 (i + 1) m env st) D,
          fun σ' H' w => ⟨m, Nat.lt_succ_self m, w⟩, fun x' H' y => ?_⟩
        obtain ⟨rfl, rx, fx⟩ := q2 x' H' y
        refine S1.put hput r fx rx fun σ2 r2 w2 => ⟨μ, env', st, o, r2, ?_⟩
        have p := p.shift (S' := Own env' σ2) StX.refl fun a z => .inl (w2 a z)
        have j2 := j.mono (S1 := Own env' σ2) StX.refl fun a z => .inl (w2 a z)
        cases q : evSs call turns b env' st with
        | nx e s => rw [q] at p; exact fun μ' H' σ' t o' r' w => ⟨μ', e, s, o', r', j2.mono t w, by omega, post.shift t w p⟩
        | ct e s => rw [q] at p; exact fun μ' H' σ' t o' r' w => ⟨μ', e, s, o', r', j2.mono t w, by omega, post.shift t w p⟩
        | bk e s => rw [q] at p; exact p
        | rt v s => rw [q] at p; exact p
        | bad => rw [q] at p; exact p
/-- a, b = x, y -/
theorem ps_parS {i j : Nat} {as : MEs} {x y : Str} {a b : Expr} {px py pt pt2 pos : Pos} {kt k2 : Nat} {turns : Nat} (hc : X.calm = true) (hN : X.N.Nodup) (hi : X.N[i]? = some x) (hj : X.N[j]? = some y) (hij : i ≠ j)
    (hx : X.env.scope.names.lookup x = some .local) (hy : X.env.scope.names.lookup y = some .local) (ha : SA X call as [a, b])
    (hw : swappedStores [.Tuple [.Name x px, .Name y py] kt pt] (.Tuple [a, b] k2 pt2) X.env = pure (some [x, y])) :
    PS X (.Assign [.Tuple [.Name x px, .Name y py] kt pt] (.Tuple [a, b] k2 pt2) pos) (rdS X.K (evS call turns (.par i j as))) := by
  refine (ps_par hc hN hi hj hij hx hy ha.kept hw rfl).imp fun D σ H ⟨μ, env, st, o, r, p⟩ => ?_
  rw [evS] at p
  obtain ⟨xs, st1, h2, p⟩ := to_ok p
  refine ⟨μ, env, st, xs, st1, o, r.re, h2, fun μ1 H1 vs s1 o1 r1 => ?_⟩
  split at p
  · cases r1 with
    | cons f1 q1 t1 =>
      cases t1 with
      | cons f2 q2 t2 =>
        cases t2
        obtain ⟨z1, z2⟩ := (r.mono s1).set q1 f1 i
        obtain ⟨z3, z4⟩ := z1.set q2 f2 j
        exact ⟨_, _, rfl, p μ1 H1 _ s1.wide o1 z3 fun a w => .inl (z2 a (z4 a w))⟩
  · exact p.elim
/-- a, b = e -/
theorem ps_tup {is : List Nat} {e : ME} {x tg : Expr} {pos : Pos} {turns : Nat} (he : SE X call e x) (hg : PG X tg (gTup X.K is.length (gAll is))) (hs : swapsWithSole [tg] x pos.line X.env = pure false) (hw : swappedStores [tg] x X.env = pure none)
    (h1 : (assignEach [tg] X.env).map (·.2) = [assign tg X.env]) : PS X (.Assign [tg] x pos) (rdS X.K (evS call turns (.setT is e))) := by
  refine (ps_asg he.val hg hs hw h1).imp fun D σ H ⟨μ, env, st, o, r, p⟩ => ?_
  rw [evS] at p
  obtain ⟨x1, st1, h2, p⟩ := to_ok p
  refine ⟨μ, env, st, x1, st1, o, r.re, h2, fun μ1 H1 x' s1 o1 r1 f1 => ?_⟩
  split at p
  · split at p
    · rename_i env' hset
      cases r1 with
      | tup h3 r3 =>
        exact ⟨_, _, rfl, h3, by rw [← r3.len]; exact setEach_len hset, S1.setEach hset (r.mono s1) r3 fun σ' r' w => p μ1 H1 σ' s1.wide o1 r' fun a z => .inl (w a z)⟩
    · exact p.elim
  · exact p.elim
/-- a[i] = e -/
theorem ps_ix {a i e : ME} {y z x : Expr} {p1 pos : Pos} {turns : Nat} (ha : SE X call a y) (hi : SE X call i z) (he : SE X call e x) (hs : swapsWithSole [.Subscript y z p1] x pos.line X.env = pure false) (hw : swappedStores [.Subscript y z p1] x X.env = pure none)
    (hsub : ∀ v, assign (.Subscript y z p1) X.env v = (do
      let ov ← holding [v] (eval y X.env)
      let iv ← holding [v, ov] (eval z X.env)
      standAt p1
      holding [v, ov, iv] (setItem ov iv v)
      release [v, ov, iv] [])) : PS X (.Assign [.Subscript y z p1] x pos) (rdS X.K (evS call turns (.setIx a i e))) := by
  refine (ps_asg he.val (pg_sub ha.val hi.val set_list hsub) hs hw rfl).imp fun D σ H ⟨μ, env, st, o, r, p⟩ => ?_
  rw [evS] at p
  obtain ⟨v1, st1, h1, p⟩ := to_ok p
  obtain ⟨o1, st2, h2, p⟩ := to_ok p
  obtain ⟨k1, st3, h3, p⟩ := to_ok p
  refine ⟨μ, env, st, v1, st1, o, r.re, h1, fun μ1 H1 v' s1 ok1 r1 f1 => ⟨μ1, env, st1, o1, st2, ok1, r.re.mono s1, h2, fun μ2 H2 o' s2 ok2 r2 f2 => ⟨μ2, env, st2, k1, st3, ok2, r.re.mono (Stp.trans s1 s2), h3, fun μ3 H3 k' s3 ok3 r3 f3 => ?_⟩⟩⟩
  split at p
  · rename_i n k
    cases r3
    have r2 := r2.mono0 s3
    cases r2 with
    | loc hn =>
      split at p
      · rename_i xs hx
        split at p
        · rename_i j hj
          split at p
          · exact p.elim
          · rename_i nf
            obtain ⟨vs, q1, q2⟩ := ok3.cell _ _ hx
            have r1 := r1.mono0 (Stp.trans s2 s3)
            have nf : v1.isFl = false := by simpa using nf
            obtain ⟨w1, w2⟩ := ok3.write hn (q2.set nf r1 j)
            refine ⟨_, vs, _, j, rfl, rfl, q1, by rw [← q2.len]; exact hj, ?_⟩
            have all := Stp.trans s1 (Stp.trans s2 (Stp.trans s3 w1))
            exact p μ3 _ σ all.wide w2 (r.mono all) fun a z => .inl z
        · exact p.elim
      · exact p.elim
  · exact p.elim
/-- x += e -/
theorem ps_augE {i : Nat} {op : BOp} {e : ME} {x : Expr} {y : Str} {py pos : Pos} {turns : Nat} (he : SE X call e x) (hN : X.N.Nodup) (hi : X.N[i]? = some y) (hx : L2.Loc X.env.scope y) (hf : X.fn y = true ∨ X.env.scope.names.lookup y = some .local) :
    PS X (.AugAssign (.Name y py) (bop op) x pos) (rdS X.K (evS call turns (.aug i op e))) := by
  refine ⟨fun pins s σ H D I ⟨μ, env, st, o, r, p⟩ => ?_⟩
  rw [evS] at p
  split at p
  · rename_i n hn
    obtain ⟨v, h1, h2⟩ := r.re.at_ _ _ hn
    cases h2
    obtain ⟨y1, st1, h3, p⟩ := to_ok p
    split at p
    · rename_i z
      split at p
      · refine (ps_aug hN hi hx he.val ip_add hf).run pins s σ H D I ⟨_, h1, μ, env, st, _, st1, o, r.re, h3, fun μ1 H1 x' s1 o1 r1 f1 => ?_⟩
        cases r1
        refine ⟨n, z, rfl, rfl, ?_⟩
        obtain ⟨q1, q2⟩ := (r.mono s1).set (.int (n + z)) rfl i
        exact p μ1 H1 _ s1.wide o1 q1 fun a w => .inl (q2 a w)
      · refine (ps_aug hN hi hx he.val ip_sub hf).run pins s σ H D I ⟨_, h1, μ, env, st, _, st1, o, r.re, h3, fun μ1 H1 x' s1 o1 r1 f1 => ?_⟩
        cases r1
        refine ⟨n, z, rfl, rfl, ?_⟩
        obtain ⟨q1, q2⟩ := (r.mono s1).set (.int (n - z)) rfl i
        exact p μ1 H1 _ s1.wide o1 q1 fun a w => .inl (q2 a w)
      · exact p.elim
    · exact p.elim
  · exact p.elim
/-- xs.append(e), xs a list of its own -/
theorem ps_app {i : Nat} {e : ME} {x y : Expr} {apos cpos pos : Pos} {turns : Nat} (he : SE X call e x) (hv : PE X y (tVar i)) (hy : attributeBase y "append" X.env (eval y X.env) = eval y X.env) (hl : (apos.endLine == cpos.line) = true) (hx : plainE x = true) :
    PS X (.Expr (.Call (.Attribute y "append" apos) [x] [] cpos) pos) (rdS X.K (evS call turns (.app i e))) := by
  have st := star_ok hx [] X.env
  have few : ((backTo cpos (starEach [x] X.env)).all (fun x => !x.1) && (backToKw cpos (keywordEach [] X.env)).all (fun x => x.1.isSome)
        && decide (([x] : List Expr).length + ([] : List Keyword).length + (if ([] : List Keyword).isEmpty then 0 else 1) < 30)) = true := by rw [st]; rfl
  refine (ps_expr (pe_bm PySem.F.plainAttrs_list PySem.F.slot_list_append PySem.F.type_list_append mt_append hv (pa_cons he.val pa_nil st) hy few hl st rfl)).imp fun D σ H ⟨μ, env, st, o, r, p⟩ => ?_
  rw [evS] at p
  obtain ⟨y1, st1, h1, p⟩ := to_ok p
  split at p
  · rename_i xs hxs
    split at p
    · rename_i hz
      obtain ⟨v, h2, h3⟩ := r.re.at_ _ _ hxs
      cases h3 with
      | @fl _ a vs h4 n4 r4 =>
        refine ⟨_, h2, .inl ⟨rfl, vs, SqL.of h4⟩, μ, env, st, y1, st1, o, r.re, h1, fun μ1 H1 y' s1 o1 r1 f1 => ?_⟩
        obtain ⟨μe, se, oe, re, fe, _⟩ := Ok.esc s1 o1 r1 f1
        have own : Own env σ a := ⟨i, xs, hxs, h2⟩
        have h5 : H1 a = some (.lst vs) := se.keep a _ h4 n4 fun z => z
        have r5 := r.mono se
        have n5 : ∀ n, n < (esc y1 st1).2.length → μe n ≠ a := fun n hn z => by
          by_cases hl : n < st.length
          · exact n4 n hl ((se.ext n hl).symm.trans z)
          · have := se.new n (by omega) hn
            rw [z, h4] at this; cases this
        have wr : StX (fun b => b = a) μe (esc y1 st1).2.length H1 μe (esc y1 st1).2.length (upd H1 a (.lst (vs ++ [y']))) := StX.wrt h5
        have all : StX (Own env σ) μ st.length H μe (esc y1 st1).2.length (upd H1 a (.lst (vs ++ [y']))) := StX.trans se.wide wr fun b e => .inl (by rw [e]; exact own)
        have off : ∀ (w : V), Off (fun b => b = a) (esc y1 st1).1 w := fun w => by
          cases hq : (esc y1 st1).1 <;> first | trivial | (rw [hq] at fe; cases fe)
        refine ⟨a, vs, y', rfl, rfl, h5, by rw [← r4.len]; exact hz, ?_⟩
        refine p μe _ σ all (oe.wrt h5 n5) ⟨⟨by simp [r.re.len], fun j q hq => ?_⟩, fun j k zs ws b ne g1 g2 g3 g4 => ?_⟩ fun b ⟨j, zs, g1, g2⟩ => .inl ?_
        · by_cases e : i = j
          · subst e
            by_cases hi : i < env.length
            · rw [List.getElem?_set_self hi] at hq
              cases hq
              exact ⟨_, h2, .fl upd_same n5 ((RVs.mono wr (RVs.mono se r4)).app (RVs.one fe (RV.mono wr (off _) re)))⟩
            · rw [List.getElem?_eq_none (by simp; omega)] at hq; cases hq
          · rw [List.getElem?_set_ne e] at hq
            obtain ⟨w, g1, g2⟩ := r5.re.at_ j q hq
            refine ⟨w, g1, RV.mono wr ?_ g2⟩
            cases g2 with
            | fl _ _ _ => exact fun z => r.de i j _ _ _ e hxs hq h2 (by rw [← z]; exact g1)
            | _ => trivial
        · have back : ∀ (j : Nat) (zs : List PV), (env.set i (some (.fl (xs ++ [(esc y1 st1).1]))))[j]? = some (some (.fl zs)) → ∃ zs', env[j]? = some (some (.fl zs')) := fun j zs h => by
            by_cases e : i = j
            · subst e; exact ⟨_, hxs⟩
            · rw [List.getElem?_set_ne e] at h; exact ⟨_, h⟩
          obtain ⟨_, b1⟩ := back j zs g1
          obtain ⟨_, b2⟩ := back k ws g2
          exact r.de j k _ _ b ne b1 b2 g3 g4
        · by_cases e : i = j
          · subst e; exact ⟨i, xs, hxs, g2⟩
          · rw [List.getElem?_set_ne e] at g1; exact ⟨j, zs, g1, g2⟩
    · exact p.elim
  · exact p.elim
/-- xs.extend(e), xs a list of its own, e a list that nothing else holds -/
theorem ps_ext {i : Nat} {e : ME} {x y : Expr} {apos cpos pos : Pos} {turns : Nat} (he : SE X call e x) (hv : PE X y (tVar i)) (hy : attributeBase y "extend" X.env (eval y X.env) = eval y X.env) (hl : (apos.endLine == cpos.line) = true) (hx : plainE x = true) :
    PS X (.Expr (.Call (.Attribute y "extend" apos) [x] [] cpos) pos) (rdS X.K (evS call turns (.ext i e))) := by
  have st := star_ok hx [] X.env
  have few : ((backTo cpos (starEach [x] X.env)).all (fun x => !x.1) && (backToKw cpos (keywordEach [] X.env)).all (fun x => x.1.isSome)
        && decide (([x] : List Expr).length + ([] : List Keyword).length + (if ([] : List Keyword).isEmpty then 0 else 1) < 30)) = true := by rw [st]; rfl
  refine (ps_expr (pe_bm PySem.F.plainAttrs_list PySem.F.slot_list_extend PySem.F.type_list_extend mt_extend hv (pa_cons he.val pa_nil st) hy few hl st rfl)).imp fun D σ H ⟨μ, env, st, o, r, p⟩ => ?_
  rw [evS] at p
  obtain ⟨y1, st1, h1, p⟩ := to_ok p
  split at p
  · rename_i xs ys hxs
    split at p
    · rename_i hz
      obtain ⟨v, h2, h3⟩ := r.re.at_ _ _ hxs
      cases h3 with
      | @fl _ a vs h4 n4 r4 =>
        refine ⟨_, h2, .inl ⟨rfl, vs, SqL.of h4⟩, μ, env, st, _, st1, o, r.re, h1, fun μ1 H1 y' s1 o1 r1 f1 => ?_⟩
        cases r1 with
        | @fl _ b ws h6 n6 r6 =>
        have own : Own env σ a := ⟨i, xs, hxs, h2⟩
        have h5 : H1 a = some (.lst vs) := s1.keep a _ h4 n4 fun z => z
        have r5 := r.mono s1
        have n5 : ∀ n, n < st1.length → μ1 n ≠ a := fun n hn z => by
          by_cases hl : n < st.length
          · exact n4 n hl ((s1.ext n hl).symm.trans z)
          · have := s1.new n (by omega) hn
            rw [z, h4] at this; cases this
        have wr : StX (fun b => b = a) μ1 st1.length H1 μ1 st1.length (upd H1 a (.lst (vs ++ ws))) := StX.wrt h5
        have all : StX (Own env σ) μ st.length H μ1 st1.length (upd H1 a (.lst (vs ++ ws))) := StX.trans s1.wide wr fun b e => .inl (by rw [e]; exact own)
        refine ⟨a, b, vs, ws, rfl, rfl, h5, h6, by rw [← r4.len, ← r6.len]; exact hz, ?_⟩
        refine p μ1 _ σ all (o1.wrt h5 n5) ⟨⟨by simp [r.re.len], fun j q hq => ?_⟩, fun j k zs ws b ne g1 g2 g3 g4 => ?_⟩ fun b ⟨j, zs, g1, g2⟩ => .inl ?_
        · by_cases e : i = j
          · subst e
            by_cases hi : i < env.length
            · rw [List.getElem?_set_self hi] at hq
              cases hq
              exact ⟨_, h2, .fl upd_same n5 ((RVs.mono wr (RVs.mono s1 r4)).app (RVs.mono wr r6))⟩
            · rw [List.getElem?_eq_none (by simp; omega)] at hq; cases hq
          · rw [List.getElem?_set_ne e] at hq
            obtain ⟨w, g1, g2⟩ := r5.re.at_ j q hq
            refine ⟨w, g1, RV.mono wr ?_ g2⟩
            cases g2 with
            | fl _ _ _ => exact fun z => r.de i j _ _ _ e hxs hq h2 (by rw [← z]; exact g1)
            | _ => trivial
        · have back : ∀ (j : Nat) (zs : List PV), (env.set i (some (.fl (xs ++ ys))))[j]? = some (some (.fl zs)) → ∃ zs', env[j]? = some (some (.fl zs')) := fun j zs h => by
            by_cases e : i = j
            · subst e; exact ⟨_, hxs⟩
            · rw [List.getElem?_set_ne e] at h; exact ⟨_, h⟩
          obtain ⟨_, b1⟩ := back j zs g1
          obtain ⟨_, b2⟩ := back k ws g2
          exact r.de j k _ _ b ne b1 b2 g3 g4
        · by_cases e : i = j
          · subst e; exact ⟨i, xs, hxs, g2⟩
          · rw [List.getElem?_set_ne e] at g1; exact ⟨j, zs, g1, g2⟩
    · exact p.elim
  · exact p.elim
end
end U

set_option maxHeartbeats 8000000
/-! U14: every statement; a def; a program. -/
namespace U
open PySem PySem.Spec PyProof.Rows L2
section
variable {W : Wd} {k : Nat} {call : Nat → List PV → Store → Res PV} {turns : Nat}
/-- a body whose every name may be stored, and which lets nothing out -/
structure Gs (W : Wd) (C : Ct) (k : Nat) (X : Cx) : Prop extends Gd W C k X where
  kind : X.env.scope.kind = .function
  fnT : ∀ x, X.fn x = true
  xe : X.xe = fun _ _ => False
theorem Gs.pass {C : Ct} {X : Cx} (G : Gs W C k X) : PassesOwn (model X.prog X.w) X.A X.env X.xe := by
  rw [G.xe]
  exact PassesOwn.never
theorem loc_of {sc : Scope} {x : Str} (h : locB sc x = true) : L2.Loc sc x := by
  unfold locB at h
  unfold L2.Loc
  split at h <;> first | (rename_i q; rw [q]; simp) | cases h
theorem pv1 {C : Ct} {X : Cx} (G : Gs W C k X) {i : Nat} {e : Expr} (h : mV1 C i e = true) : PG X e (gName i) := by
  cases e <;> try (exact absurd h Bool.false_ne_true)
  rename_i x pos
  have h : (decide (C.N[i]? = some x) && locB C.sc x) = true := h
  simp only [Bool.and_eq_true, decide_eq_true_eq] at h
  exact pg_name G.nd (by rw [G.N]; exact h.1) (loc_of (by rw [G.sc]; exact h.2)) (.inl (G.fnT x))
theorem assignV_ok {e : Expr} {C : Ct} {i : Nat} (h : mV1 C i e = true) (es : List Expr) (env : Env) : assignEach (e :: es) env = (false, assign e env) :: assignEach es env := by
  cases e <;> first | rfl | exact absurd h Bool.false_ne_true
theorem pvs {C : Ct} {X : Cx} (G : Gs W C k X) : ∀ {is : List Nat} {es : List Expr}, mVs C is es = true → PGs X es (gAll is) ∧ (assignEach es X.env).length = is.length ∧ (assignEach es X.env).findIdx? (·.1) = none
  | [], [], _ => ⟨pgs_nil, rfl, rfl⟩
  | [], _ :: _, h => by cases h
  | _ :: _, [], h => by cases h
  | i :: is, e :: es, h => by
    have h : (mV1 C i e && mVs C is es) = true := h
    rw [Bool.and_eq_true] at h
    obtain ⟨p1, p2, p3⟩ := pvs G h.2
    have e1 := assignV_ok h.1 es X.env
    refine ⟨pgs_cons (pv1 G h.1) p1 (by rw [e1]; rfl), by rw [e1]; simp [p2], by rw [e1]; simp [List.findIdx?_cons, p3]⟩
theorem pvT {C : Ct} {X : Cx} (G : Gs W C k X) {is : List Nat} {es : List Expr} {n : Nat} {p : Pos} (h : mVs C is es = true) : PG X (.Tuple es n p) (gTup X.K is.length (gAll is)) := by
  obtain ⟨p1, p2, p3⟩ := pvs G h
  exact pg_tup G.calm p1 p2 p3
theorem pvG {C : Ct} {X : Cx} (G : Gs W C k X) {g : MG} {e : Expr} (h : mV C g e = true) : PG X e (gOf X.K g) := by
  cases g with
  | nm i => exact pv1 G h
  | tp is =>
    cases e <;> try (exact absurd h Bool.false_ne_true)
    exact pvT G (show mVs C is _ = true from h)
theorem sw_ok {v : Expr} (h : notLc v = true) (t : Option Expr) (l : Nat) (env : Env) : swapsWith v t l env = pure false := by
  cases v <;> first | rfl | cases h
theorem sws_ok {v tg : Expr} (h : notLc v = true) (l : Nat) (env : Env) : swapsWithSole [tg] v l env = pure false := sw_ok h _ _ _
theorem st_ok {v : Expr} {es : List Expr} {n : Nat} {p : Pos} (h : notTup v = true) (env : Env) : swappedStores [.Tuple es n p] v env = pure none := by
  cases v <;> first | rfl | cases h
theorem st_sub {v y z : Expr} {p : Pos} (env : Env) : swappedStores [.Subscript y z p] v env = pure none := by
  cases v <;> rfl
theorem sub_ok {y z : Expr} {p : Pos} {env : Env} (h : plainE z = true) (v : Value) : assign (.Subscript y z p) env v = (do
      let ov ← holding [v] (eval y env)
      let iv ← holding [v, ov] (eval z env)
      standAt p
      holding [v, ov, iv] (setItem ov iv v)
      release [v, ov, iv] []) := by
  cases z <;> first | rfl | cases h
theorem src_ok {C : Ct} {X : Cx} (G : Gs W C k X) (F : Fx W C k call) {src : ME} {tg it : Expr} (h : mSrc C src it = true) : PI X tg it (rdF X.K (evSrc call src)) := by
  have gen : mE C src it = true → (∀ env st, evSrc call src env st = (ev call src .val env st).bind fun v st1 => opt (srcV v st1) st1) → PI X tg it (rdF X.K (evSrc call src)) := fun h e => by
    have e2 : evSrc call src = fun env st => (ev call src .val env st).bind fun v st1 => opt (srcV v st1) st1 := by
      funext env st
      exact e env st
    rw [e2]
    exact pf_val (sE src G.toGd F h)
  cases src with
  | rng a b =>
    unfold mSrc at h
    simp only at h
    split at h
    · rename_i f p es pos
      simp only [Bool.and_eq_true, decide_eq_true_eq] at h
      obtain ⟨⟨⟨rfl, h1⟩, h2⟩, h3⟩ := h
      obtain ⟨g1, g2⟩ := gl_of (X := X) (by rw [G.sc]; exact h2)
      have hm : X.mg "range" = none := by rw [G.mg]; exact F.bl _ h1
      split at h3
      · split at h3
        · exact pf_rng1 (sE b G.toGd F h3) g1 hm (star_ok (plain_ok h3) _ _)
        · cases h3
      · rename_i z y
        rw [Bool.and_eq_true] at h3
        have e2 : starEach [y] X.env = [(false, eval y X.env)] := star_ok (plain_ok h3.2) _ _
        exact pf_rng2 (sE a G.toGd F h3.1) (sE b G.toGd F h3.2) g1 hm (by rw [star_ok (plain_ok h3.1), e2]) e2
      · cases h3
    · cases h
  | _ => exact gen h fun _ _ => rfl
theorem var_ok {C : Ct} {X : Cx} (G : Gd W C k X) {i : Nat} {e : Expr} (h : mE C (.var i) e = true) : PE X e (tVar i) := by
  cases e <;> try (exact absurd h Bool.false_ne_true)
  rename_i x pos
  have h : (decide (C.N[i]? = some x) && visB C.sc x && !(x == ("__debug__" : Str)) && !(x == ("__classdict__" : Str))) = true := h
  simp only [Bool.and_eq_true, decide_eq_true_eq, Bool.not_eq_true'] at h
  exact pe_var (by rw [G.N]; exact h.1.1.1) (vis_of (by rw [G.sc]; exact h.1.1.2)) h.1.2 h.2
/-- x = [..], from its parts -/
theorem lcSet_mk {C : Ct} {X : Cx} (G : Gs W C k X) {elt c m : ME} {g : MG} {has : Bool} {x tg iter : Expr} {ifs : List Expr} {scope : Scope} {pos : Pos} {srcF : En → Store → Res Src}
    (hi : PI X tg iter (rdW X.K srcF)) (hp : ∀ x, foldedSetIterable iter X.env x = pure x) (h2 : blkC C.N C.sc scope (g.own C.N) = true) (h3 : mG { C with sc := relS scope C.sc } g tg = true)
    (h4 : tsOk { C with sc := relS scope C.sc } has c ifs = true) (hc : ∀ {X : Cx}, Gd W { C with sc := relS scope C.sc } k X → ∀ t, mE { C with sc := relS scope C.sc } c t = true → SE X call c t)
    (he : ∀ {X : Cx}, Gd W { C with sc := relS scope C.sc } k X → SE X call elt x)
    (eq : ∀ md env st, ev call m md env st = ((srcF env st).bind fun s st1 => lcLoop (fun e s => if has then (ev call c .test e s).bind fun x s1 => opt (isBl x) s1 else .ok true s) (ev call elt .val) g.put (wipe env g.slots) s 0 s.many [] st1).bind fun v st1 => done md v st1)
    {i : Nat} {y : Str} {py spos : Pos} (hN : X.N[i]? = some y) (hy : X.env.scope.names.lookup y = some .local) (hl : (py.line == pos.line) = true) (ha : (scope.names.any fun (n, k) => n == y && (k == .local || k == .cell)) = false) :
    PS X (.Assign [.Name y py] (.ListComp x [⟨tg, iter, ifs, 0⟩] scope pos) spos) (tAsg (rd X.K (ev call m .val)) (gName i)) := by
  have ok : BlkOk X.N X.env.scope scope (g.own C.N) := by rw [G.N, G.sc]; exact blkOk_by h2
  have p := ps_setLc (pos := pos) (spos := spos) (own := g.own C.N) (g := gOf X.K g) (tt := tTest' X.K call has c) (te := rd X.K (ev call elt .val)) G.calm G.nd hN hy (sw_true G.kind hy hl ha) hi ok
    (fun s H a cl fp => pgG (G.toGd.blk s H scope a cl fp) h3) (fun s H a cl fp => ts_ok h4 (hc (G.toGd.blk s H scope a cl fp))) (fun s H a cl fp => (he (G.toGd.blk s H scope a cl fp)).val) hp
  rw [own_slots] at p
  refine p.imp fun D σ H q => ?_
  refine SE.lcImp (test := fun e s => if has then (ev call c .test e s).bind fun x s1 => opt (isBl x) s1 else .ok true s) (elt := ev call elt .val) (srcF := srcF) (fun _ _ _ q => q) (fun _ _ _ q => q) ?_ (rd_eq (fun env st => ?_) σ H _ q)
  · intro μ env st b st' σ H Q o r h q
    unfold tTest'
    cases has with
    | true =>
      obtain ⟨x, s1, h1, h2⟩ := bind_ok h
      obtain ⟨h3, rfl⟩ := opt_ok h2
      cases isBl_ok h3
      exact ⟨μ, env, st, b, _, o, r, h1, q⟩
    | false =>
      cases h
      exact q μ H StX.refl o
  · rw [eq]
    cases (srcF env st).bind fun s st1 => lcLoop (fun e s => if has then (ev call c .test e s).bind fun x s1 => opt (isBl x) s1 else .ok true s) (ev call elt .val) g.put (wipe env g.slots) s 0 s.many [] st1 <;> rfl
theorem lc_only {C : Ct} {e : ME} {x : Expr} {gs : List Comprehension} {scope : Scope} {pos : Pos} (h : mE C e (.ListComp x gs scope pos) = true) : ∃ elt g src has c, e = .lc elt g src has c := by
  cases e <;> first | exact ⟨_, _, _, _, _, rfl⟩ | (cases h; done)
theorem set_lc {C : Ct} {X : Cx} (G : Gs W C k X) (F : Fx W C k call) {e : ME} {i : Nat} {y : Str} {py spos : Pos} {v : Expr} (h : mE C e v = true) (hN : X.N[i]? = some y) (hl : lcOk C y py v = true) :
    PS X (.Assign [.Name y py] v spos) (tAsg (rd X.K (ev call e .val)) (gName i)) := by
  unfold lcOk at hl
  split at hl
  · rename_i x gs scope pos
    simp only [Bool.and_eq_true, decide_eq_true_eq, Bool.not_eq_true'] at hl
    obtain ⟨⟨⟨l1, l2⟩, l3⟩, l4⟩ := hl
    have hy : X.env.scope.names.lookup y = some .local := by rw [G.sc]; exact l2
    obtain ⟨elt, g, src, has, c, rfl⟩ := lc_only h
    by_cases hn : ∀ a b, src ≠ .rng a b
    · rw [mE_lc hn] at h
      split at h
      · rename_i q
        cases q
        simp only [Bool.and_eq_true] at h
        obtain ⟨⟨⟨⟨h1, h2⟩, h3⟩, h4⟩, h5⟩ := h
        exact lcSet_mk G (pi_used (sE src G.toGd F h1)) (set_ok (plain_ok h1) _) h2 h3 h4
          (fun G' t ht => sE c G' ⟨F.fn, F.cs, F.bl, F.ds⟩ ht) (fun G' => sE elt G' ⟨F.fn, F.cs, F.bl, F.ds⟩ h5) (fun _ _ _ => ev_lc hn) hN hy l3 l4
      · cases h
    · cases src with
      | rng a b =>
        unfold mE at h
        split at h
        · rename_i q
          cases q
          simp only [Bool.and_eq_true, decide_eq_true_eq] at h
          obtain ⟨⟨⟨⟨⟨⟨⟨rfl, h1⟩, h2⟩, h3⟩, h4⟩, h5⟩, h6⟩, h7⟩ := h
          obtain ⟨g1, g2⟩ := gl_of (X := X) (by rw [G.sc]; exact h2)
          have hm : X.mg "range" = none := by rw [G.mg]; exact F.bl _ h1
          refine lcSet_mk G (srcF := fun env st => (ev call a .val env st).bind fun x st1 => (ev call b .val env st1).bind fun y st2 => rngV x y st2) ?_ (fun _ => rfl) h4 h5 h6
            (fun G' t ht => sE c G' ⟨F.fn, F.cs, F.bl, F.ds⟩ ht) (fun G' => sE elt G' ⟨F.fn, F.cs, F.bl, F.ds⟩ h7) (fun _ _ _ => ev_lcR) hN hy l3 l4
          split at h3
          · split at h3
            · exact pi_rng1 (sE b G.toGd F h3) g1 hm (star_ok (plain_ok h3) _ _)
            · cases h3
          · rename_i z y
            rw [Bool.and_eq_true] at h3
            have e2 : starEach [y] X.env = [(false, eval y X.env)] := star_ok (plain_ok h3.2) _ _
            exact pi_rng2 (sE a G.toGd F h3.1) (sE b G.toGd F h3.2) g1 hm (by rw [star_ok (plain_ok h3.1), e2]) e2
          · cases h3
        · cases h
      | _ => exact absurd (fun a b z => by cases z) hn
  · cases hl
mutual
theorem sS : ∀ (m : MS) {C : Ct} {X : Cx} (G : Gs W C k X) (F : Fx W C k call) {s : Stmt}, mS C m s = true → PS X s (rdS X.K (evS call turns m))
  | .set i e own, C, X, G, F, s, h => by
    unfold mS at h
    split at h
    · rename_i x px v pos
      simp only [Bool.and_eq_true, decide_eq_true_eq, Bool.or_eq_true] at h
      obtain ⟨⟨⟨h1, h2⟩, h3⟩, h4⟩ := h
      have se := sE e G.toGd F h3
      rcases h4 with h4 | h4
      · exact (ps_set G.nd (by rw [G.N]; exact h1) (loc_of (by rw [G.sc]; exact h2)) se.val (sw_ok h4 _ _ _) (.inl (G.fnT x))).imp set_imp
      · exact (set_lc G F h3 (by rw [G.N]; exact h1) h4).imp set_imp
    · cases h
  | .setT is e, C, X, G, F, s, h => by
    unfold mS at h
    split at h
    · simp only [Bool.and_eq_true] at h
      obtain ⟨⟨⟨h1, h2⟩, h3⟩, h4⟩ := h
      exact ps_tup (sE e G.toGd F h2) (pvT G h1) (sws_ok h3 _ _) (st_ok h4 _) rfl
    · cases h
  | .par i j as, C, X, G, F, s, h => by
    unfold mS at h
    split at h
    · rename_i x px y py kt pt a b k2 pt2 pos
      simp only [Bool.and_eq_true, decide_eq_true_eq, Bool.not_eq_true'] at h
      obtain ⟨⟨⟨⟨⟨⟨⟨⟨⟨h1, h2⟩, h3⟩, h4⟩, h5⟩, h6⟩, h7⟩, h8⟩, h9⟩, h10⟩ := h
      have hp : plainE a = true ∧ plainE b = true := by
        cases as with
        | nil => cases h10
        | cons u us =>
          rw [mA, Bool.and_eq_true] at h10
          cases us with
          | nil => cases h10.2
          | cons u2 us =>
            have h11 := h10.2
            rw [mA, Bool.and_eq_true] at h11
            exact ⟨plain_ok h10.1, plain_ok h11.1⟩
      exact ps_parS G.calm G.nd (by rw [G.N]; exact h1) (by rw [G.N]; exact h2) (fun e => by rw [e, beq_self_eq_true] at h3; cases h3) (by rw [G.sc]; exact h5) (by rw [G.sc]; exact h6) (sA as G.toGd F h10)
        (sw_par (by unfold Env.blockKind; rw [G.kind]; rfl) (show X.env.scope.names.lookup x = _ by rw [G.sc]; exact h5) (show X.env.scope.names.lookup y = _ by rw [G.sc]; exact h6) h7 h4 hp.1 hp.2 h8 h9)
    · cases h
  | .setIx a i e, C, X, G, F, s, h => by
    unfold mS at h
    split at h
    · simp only [Bool.and_eq_true] at h
      obtain ⟨⟨⟨h1, h2⟩, h3⟩, h4⟩ := h
      exact ps_ix (sE a G.toGd F h1) (sE i G.toGd F h2) (sE e G.toGd F h3) (sws_ok h4 _ _) (st_sub _) (sub_ok (plain_ok h2))
    · cases h
  | .aug i o e, C, X, G, F, s, h => by
    unfold mS at h
    split at h
    · rename_i x p op v pos
      simp only [Bool.and_eq_true, decide_eq_true_eq] at h
      obtain ⟨⟨⟨rfl, h1⟩, h2⟩, h3⟩ := h
      exact ps_augE (sE e G.toGd F h3) G.nd (by rw [G.N]; exact h1) (loc_of (by rw [G.sc]; exact h2)) (.inl (G.fnT x))
    · cases h
  | .ex e, C, X, G, F, s, h => by
    unfold mS at h
    split at h
    · rw [Bool.and_eq_true] at h
      exact ps_ex (sE e G.toGd F h.1) (sw_ok h.2 _ _ _)
    · cases h
  | .ext i e, C, X, G, F, s, h => by
    unfold mS at h
    split at h
    · rename_i x p name apos y cpos pos
      simp only [Bool.and_eq_true, decide_eq_true_eq] at h
      obtain ⟨⟨⟨rfl, h1⟩, h2⟩, h3⟩ := h
      exact ps_ext (sE e G.toGd F h3) (var_ok G.toGd h2) rfl h1 (plain_ok h3)
    · cases h
  | .app i e, C, X, G, F, s, h => by
    unfold mS at h
    split at h
    · rename_i x p name apos y cpos pos
      simp only [Bool.and_eq_true, decide_eq_true_eq] at h
      obtain ⟨⟨⟨rfl, h1⟩, h2⟩, h3⟩ := h
      exact ps_app (sE e G.toGd F h3) (var_ok G.toGd h2) rfl h1 (plain_ok h3)
    · cases h
  | .ret e, C, X, G, F, s, h => by
    unfold mS at h
    split at h
    · exact ps_retE (sE e G.toGd F h) fun j z => by
        subst z
        exact var_ok G.toGd h
    · cases h
  | .ret0, C, X, G, F, s, h => by
    unfold mS at h
    split at h
    · exact ps_ret0
    · cases h
  | .ite t a b, C, X, G, F, s, h => by
    unfold mS at h
    split at h
    · simp only [Bool.and_eq_true] at h
      exact ps_ite (sE t G.toGd F h.1.1) (sSs a G F h.1.2) (sSs b G F h.2)
    · cases h
  | .whl t b, C, X, G, F, s, h => by
    unfold mS at h
    split at h
    · rw [Bool.and_eq_true] at h
      exact ps_whl G.pass (sE t G.toGd F h.1) (sSs b G F h.2)
    · cases h
  | .for_ g src b, C, X, G, F, s, h => by
    unfold mS at h
    split at h
    · simp only [Bool.and_eq_true] at h
      exact ps_forE G.pass G.calm (src_ok G F h.1.1.2) (pvG G h.1.1.1) (sSs b G F h.2) (set_ok h.1.2 _)
    · cases h
  | .brk, C, X, G, F, s, h => by
    unfold mS at h
    split at h
    · exact ps_brk
    · cases h
  | .cnt, C, X, G, F, s, h => by
    unfold mS at h
    split at h
    · exact ps_cnt
    · cases h
  | .pass, C, X, G, F, s, h => by
    unfold mS at h
    split at h
    · exact ps_pas
    · cases h
theorem sSs : ∀ (ms : MSs) {C : Ct} {X : Cx} (G : Gs W C k X) (F : Fx W C k call) {s : List Stmt}, mSs C ms s = true → PSs X s (rdS X.K (evSs call turns ms))
  | .nil, C, X, G, F, s, h => by
    cases s with
    | nil => exact pss_n
    | cons _ _ => cases h
  | .cons m ms, C, X, G, F, s, h => by
    cases s with
    | nil => cases h
    | cons x xs =>
      rw [mSs, Bool.and_eq_true] at h
      exact pss_c (sS m G F h.1) (sSs ms G F h.2)
end
end
end U

set_option maxHeartbeats 8000000
/-! U15: a def, a program, a law. -/
namespace U
open PySem PySem.Spec PyProof.Rows L2
section
variable {K : PySem.W.Frag} {μ : Nat → Addr} {L : Nat} {H : Hp}
mutual
theorem RV.low {n : Nat} (hn : n ≤ L) : ∀ {x : PV} {v : V}, PV.low n x = true → RV K μ L H x v → RV K μ n H x v
  | _, _, _, .non => .non
  | _, _, _, .bl b => .bl b
  | _, _, _, .int i => .int i
  | _, _, _, .str z => .str z
  | .tup xs, .ref a, l, .tup h r => .tup h (RVs.low hn (show PV.lowL n xs = true from l) r)
  | .loc m, _, l, .loc h => .loc (of_decide_eq_true (show decide (m < n) = true from l))
  | .fl xs, .ref a, l, .fl h k r => .fl h (fun m hm => k m (Nat.lt_of_lt_of_le hm hn)) (RVs.low hn (show PV.lowL n xs = true from l) r)
  | .rol xs, .ref a, l, .rol h r => .rol h (RVs.low hn (show PV.lowL n xs = true from l) r)
theorem RVs.low {n : Nat} (hn : n ≤ L) : ∀ {xs : List PV} {vs : List V}, PV.lowL n xs = true → RVs K μ L H xs vs → RVs K μ n H xs vs
  | _, _, _, .nil => .nil
  | x :: xs, v :: vs, l, .cons f h r => by
    have l : (PV.low n x && PV.lowL n xs) = true := l
    rw [Bool.and_eq_true] at l
    exact .cons f (RV.low hn l.1 h) (RVs.low hn l.2 r)
end
theorem leave_ok {μ0 : Nat → Addr} {H0 : Hp} {st s st' : Store} {v w : PV} {v' : V} (h : leave st.length v s = .ok w st') (t : Stp μ0 st.length H0 μ s.length H) (o : Ok K μ s H) (r : RV K μ s.length H v v') :
    w = v ∧ Stp μ0 st.length H0 μ st'.length H ∧ Ok K μ st' H ∧ RV K μ st'.length H v v' := by
  unfold leave at h
  split at h
  · cases h; exact ⟨rfl, t, o, r⟩
  · rename_i hn
    split at h
    · rename_i hc
      cases h
      rw [Bool.and_eq_true] at hc
      have el : (s.take st.length).length = st.length := by rw [List.length_take]; omega
      have hle : st.length ≤ s.length := by omega
      refine ⟨rfl, ?_, ⟨fun a b ha hb e => o.inj a b (by omega) (by omega) e, fun n xs hx => ?_⟩, ?_⟩
      · rw [el]
        exact ⟨Nat.le_refl _, t.ext, t.keep, t.tup, t.frz, t.there, fun n h1 h2 => absurd h2 (by omega)⟩
      · rw [el]
        have hm : Cell.lst xs ∈ s.take st.length := List.mem_of_getElem? hx
        have lo : PV.lowL st.length xs = true := (List.all_eq_true.mp hc.2) _ hm
        have hx2 : s[n]? = some (.lst xs) := by
          rw [List.getElem?_take] at hx
          split at hx
          · exact hx
          · cases hx
        obtain ⟨vs, h1, h2⟩ := o.cell n xs hx2
        exact ⟨vs, h1, RVs.low hle lo h2⟩
      · rw [el]; exact RV.low hle hc.1 r
    · cases h; exact ⟨rfl, t, o, r⟩
theorem start_ok {as : List PV} {vs : List V} {N : List Str} {nl : Nat} (r : RVs K μ L H as vs) (f : as.any PV.isFl = false) (hN : N.length = nl) : S1 K μ L H (as.map some ++ List.replicate (nl - as.length) none) (L2.start N vs) ∧
    ∀ a, ¬ Own (as.map some ++ List.replicate (nl - as.length) none) (L2.start N vs) a := by
  have get : ∀ (i : Nat) (x : PV), (as.map some ++ List.replicate (nl - as.length) (none : Option PV))[i]? = some (some x) → as[i]? = some x := fun i x h => by
    by_cases hi : i < as.length
    · rw [List.getElem?_append_left (by simpa using hi), List.getElem?_map] at h
      cases e : as[i]? with
      | none => rw [e] at h; cases h
      | some a => rw [e] at h; cases h; rfl
    · rw [List.getElem?_append_right (by simpa using hi), List.getElem?_replicate] at h
      split at h <;> cases h
  have nofl : ∀ (i : Nat) (xs : List PV), as[i]? ≠ some (.fl xs) := fun i xs h => by
    have := List.any_eq_false.mp f _ (List.mem_of_getElem? h)
    exact this rfl
  refine ⟨⟨⟨?_, fun i x h => ?_⟩, fun i j xs ys a _ h1 _ _ _ => nofl i xs (get i _ h1)⟩, fun a ⟨i, xs, h1, _⟩ => nofl i xs (get i _ h1)⟩
  · unfold L2.start
    have := r.len
    simp
    omega
  · obtain ⟨v, h1, h2, _⟩ := r.get (get i x h)
    refine ⟨v, ?_, h2⟩
    unfold L2.start
    have hi : i < vs.length := (List.getElem?_eq_some_iff.mp h1).1
    rw [List.getElem?_append_left (by simpa using hi), List.getElem?_map, h1]
    rfl
end
section
variable {W : Wd} {k : Nat} {turns : Nat} {D : Nat → Option Def}
theorem call_len {f : Nat} {d : Def} {as : List PV} {st st' : Store} {v : PV} {j : Nat} (hd : D f = some d) (h : evCall turns D j f as st = .ok v st') : as.length = d.np := by
  cases j with
  | zero => cases h
  | succ j =>
    rw [evCall, hd] at h
    simp only at h
    split at h
    · rename_i q; exact q.1
    · cases h
/-- a def of the text: its name, its number, where it stands -/
structure Ent where
  x : Str
  f : Nat
  a : Addr
  fd : FuncData
  st : Stmt
  N : List Str
  ps : List Str
  d : Def
def Ent.pair (e : Ent) : Str × Nat := (e.x, e.f)
structure EntOk (W : Wd) (D : Nat → Option Def) (fn : List (Str × Nat)) (cs : List (Str × PV)) (bl : List Str) (ds : List (Str × List (Str × PV))) (e : Ent) : Prop where
  mg : W.mg e.x = some (.ref e.a)
  fun_ : Fun W.K e.x e.x e.st e.a e.fd
  binds : Binds W.K e.fd e.ps []
  sc : FnScope e.N e.ps (defScope e.st)
  d : D e.f = some e.d
  np : e.ps.length = e.d.np
  nl : e.N.length = e.d.nl
  text : mSs ⟨e.N, defScope e.st, fn, cs, bl, ds, false⟩ e.d.body (defBody e.st) = true
/-- a program of the text -/
structure ProgOk (W : Wd) (D : Nat → Option Def) (es : List Ent) (cs : List (Str × PV)) (bl : List Str) (ds : List (Str × List (Str × PV))) : Prop where
  df : ∀ e ∈ es, EntOk W D (es.map Ent.pair) cs bl ds e
  cs : ∀ x v, cs.lookup x = some v → v.isFl = false ∧ ∃ u v', W.mg x = some u ∧ RelV v' u ∧ ∀ μ L H, RV W.K μ L H v v'
  bl : ∀ x, bl.contains x = true → W.mg x = none
  ds : ∀ x kvs, ds.lookup x = some kvs → ∃ d es n, W.mg x = some (.ref d) ∧ KDict W.K W.w d es n ∧ DRel es.toList kvs
theorem ent_of : ∀ {es : List Ent} {x : Str} {f : Nat}, (es.map Ent.pair).lookup x = some f → ∃ e, e ∈ es ∧ e.x = x ∧ e.f = f
  | [], _, _, h => by cases h
  | e :: es, x, f, h => by
    have h : (match x == e.x with
      | true => some e.f
      | false => (es.map Ent.pair).lookup x) = some f := h
    split at h
    · rename_i q
      cases h
      exact ⟨e, List.mem_cons_self, (eq_of_beq q).symm, rfl⟩
    · obtain ⟨e', h1, h2⟩ := ent_of h
      exact ⟨e', List.mem_cons_of_mem _ h1, h2⟩
theorem def_ok {es : List Ent} {cs : List (Str × PV)} {bl : List Str} {ds : List (Str × List (Str × PV))} (P : ProgOk W D es cs bl ds) (ih : ∀ e ∈ es, FnOk W.P W.w W.K W.mg W.base CX0 k e.a e.fd e.ps (spEv W.K (evCall turns D k e.f)))
    (e : Ent) (he : e ∈ es) : FnOk W.P W.w W.K W.mg W.base CX0 (k + 1) e.a e.fd e.ps (spEv W.K (evCall turns D (k + 1) e.f)) := by
  have E0 := P.df e he
  refine E0.fun_.ok E0.sc (fun vs H Q E h => ?_) fun cdv A outer s H vs Q E hr h => ?_
  · obtain ⟨μ, st, as, v, st', _, r, q, _⟩ := h
    rw [← r.len, E0.np]
    exact call_len E0.d q
  · obtain ⟨μ, st0, as, v, st', o, r, q, g⟩ := h
    rw [evCall, E0.d] at q
    simp only at q
    split at q
    · rename_i qq
      obtain ⟨s1, own⟩ := start_ok (N := e.N) r qq.2 E0.nl
      have G : Gs W ⟨e.N, defScope e.st, es.map Ent.pair, cs, bl, ds, false⟩ k (cxOf CX0 W.P W.w W.K W.mg W.base e.N e.x (defScope e.st) e.a cdv A outer s H E).nox :=
        ⟨⟨rfl, rfl, rfl, rfl, rfl, rfl, rfl, E0.sc.nd, rfl, hr, fun z => by cases z⟩, E0.sc.kind, fun _ => rfl, rfl⟩
      have F : Fx W ⟨e.N, defScope e.st, es.map Ent.pair, cs, bl, ds, false⟩ k (evCall turns D k) := ⟨fun x f hx => by
        obtain ⟨e', h1, rfl, rfl⟩ := ent_of hx
        have E1 := P.df e' h1
        exact ⟨e'.a, e'.fd, e'.ps, E1.mg, E1.fun_.kp, E1.binds, ih e' h1⟩, P.cs, P.bl, P.ds⟩
      refine ⟨_, sSs (turns := turns) e.d.body G F E0.text, μ, _, st0, o, s1, ?_⟩
      rw [← qq.1] at q
      split at q
      · rename_i env' s' hs
        rw [hs]
        refine fun μ' H' σ' t o' r' w => ?_
        have t : Stp μ st0.length H μ' s'.length H' := t.weak fun b z => (own b z).elim
        obtain ⟨rfl, q1, q2, q3⟩ := leave_ok q t o' .non
        exact g μ' H' .non q1 q2 q3 trivial
      · rename_i w' s' hs
        rw [hs]
        refine fun μ' H' v' t o' r' w => ?_
        have t : Stp μ st0.length H μ' s'.length H' := t.weak fun b z => (own b z).elim
        obtain ⟨rfl, q1, q2, q3⟩ := leave_ok q t o' r'
        refine g μ' H' v' q1 q2 q3 ?_
        cases q3 with
        | fl _ _ _ => exact (w _ rfl rfl).elim (fun z => (own _ z).elim) fun z => z
        | _ => trivial
      · cases q
    · cases q
theorem prog_ok {es : List Ent} {cs : List (Str × PV)} {bl : List Str} {ds : List (Str × List (Str × PV))} (P : ProgOk W D es cs bl ds) : ∀ (k : Nat) (e : Ent), e ∈ es → FnOk W.P W.w W.K W.mg W.base CX0 k e.a e.fd e.ps (spEv W.K (evCall turns D k e.f))
  | 0, e, he => by
    refine ⟨fun vs H Q E h => ?_, fun A outer s H args us vs Q E _ _ _ _ h => ?_⟩
    · obtain ⟨μ, st, as, v, st', _, r, q, _⟩ := h
      cases q
    · obtain ⟨μ, st, as, v, st', _, r, q, _⟩ := h
      cases q
  | k + 1, e, he => def_ok P (prog_ok P k) e he
end
/-- a def behind the top -/
theorem fun_at {K : PySem.W.Frag} {x : Str} {st : Stmt} {f : Addr} {oc : Value} {od an : Option Addr} {osl : Array (Option Value)} {kV doc pm cdv ct : Value} (l : K.lookup f = some ⟨oc, od, .func (PySem.W.fnOf x x (defArgs st) (defBody st) (defScope st) .none kV doc pm an cdv ct), osl⟩)
    (c : PySem.W.codeIn K cdv x = true) (k : PySem.W.keepIn K (.ref f) = true) : Fun K x x st f (PySem.W.fnOf x x (defArgs st) (defBody st) (defScope st) .none kV doc pm an cdv ct) := fun_mk l c k
/-- a written tuple of texts -/
theorem tup_rv {K : PySem.W.Frag} {a : Addr} {od : Option Addr} {its : Array Value} {n : Nat} {sl : Array (Option Value)} {xs : List Str} (l : K.lookup a = some ⟨.type "tuple", od, .seq its n, sl⟩) (hz : its.size ≤ sizeLine) (v : Vals (xs.map V.str) its.toList) :
    ∀ μ L H, RV K μ L H (.tup (xs.map .str)) (.ref a) := fun μ L H => by
  have go : ∀ xs : List Str, RVs K μ L H (xs.map PV.str) (xs.map V.str) := fun xs => by
    induction xs with
    | nil => exact .nil
    | cons z xs ih => exact .cons rfl (.str z) ih
  exact .tup (.inr ⟨_, its, n, l, rfl, rfl, hz, v⟩) (go xs)
/-- the law's promise, from what its program yields -/
theorem law_sp {K : PySem.W.Frag} {cf : List PV → Store → Res PV} {H : Hp} {a : Addr} {ns : List Int} (h : ∃ st', cf [.rol (ns.map .int)] [] = .ok (.bl true) st') (ho : Only H) (hs : SqL K H a (ns.map V.int)) : spEv K cf [.ref a] H (fun v _ => v = .bl true) fun _ _ _ => False := by
  obtain ⟨st', e⟩ := h
  refine ⟨fun _ => 0, [], _, _, st', ⟨fun n m hn => absurd hn (by simp), fun n xs hx => by simp at hx⟩, .cons rfl (.rol ?_ (go ns)) .nil, e, fun μ' H' v' _ _ r _ => by cases r; rfl⟩
  rcases hs with (z | ⟨o, z⟩) | z
  · rcases ho a with w | ⟨o, xs, w⟩ <;> (rw [w] at z; cases z)
  · exact .inl ⟨o, z⟩
  · exact .inr z
where go {K : PySem.W.Frag} {μ : Nat → Addr} {L : Nat} {H : Hp} : ∀ ns : List Int, RVs K μ L H (ns.map PV.int) (ns.map V.int)
  | [] => .nil
  | n :: ns => .cons rfl (.int n) (go ns)
end U

set_option maxHeartbeats 8000000
/-! U16: reasoning over the language. -/
namespace U
open PySem L2
@[simp] theorem bind_ok_ {α β : Type} (a : α) (st : Store) (f : α → Store → Res β) : (Res.ok a st).bind f = f a st := rfl
@[simp] theorem opt_some_ {α : Type} (a : α) (st : Store) : opt (some a) st = .ok a st := rfl
@[simp] theorem to_ok_ {α : Type} (a : α) (st : Store) (f : α → Store → SR) : (Res.ok a st).to f = f a st := rfl
@[simp] theorem then_nx_ (e : En) (st : Store) (f : En → Store → SR) : (SR.nx e st).then f = f e st := rfl
@[simp] theorem then_rt_ (v : PV) (st : Store) (f : En → Store → SR) : (SR.rt v st).then f = .rt v st := rfl
@[simp] theorem then_bk_ (e : En) (st : Store) (f : En → Store → SR) : (SR.bk e st).then f = .bk e st := rfl
@[simp] theorem then_ct_ (e : En) (st : Store) (f : En → Store → SR) : (SR.ct e st).then f = .ct e st := rfl
@[simp] theorem isBl_bl_ (b : Bool) : isBl (.bl b) = some b := rfl
@[simp] theorem done_val_ (v : PV) (st : Store) : done .val v st = .ok v st := rfl
@[simp] theorem done_use_ (v : PV) (st : Store) : done .use v st = .ok v st := rfl
@[simp] theorem done_tbl_ (b : Bool) (st : Store) : done .test (.bl b) st = .ok (.bl b) st := rfl
@[simp] theorem isFl_non : PV.isFl .non = false := rfl
@[simp] theorem isFl_bl (b : Bool) : PV.isFl (.bl b) = false := rfl
@[simp] theorem isFl_int (i : Int) : PV.isFl (.int i) = false := rfl
@[simp] theorem isFl_str (s : Str) : PV.isFl (.str s) = false := rfl
@[simp] theorem isFl_tup (s : List PV) : PV.isFl (.tup s) = false := rfl
@[simp] theorem isFl_loc (n : Nat) : PV.isFl (.loc n) = false := rfl
@[simp] theorem isFl_rol (n : List PV) : PV.isFl (.rol n) = false := rfl
@[simp] theorem esc_non (st : Store) : esc .non st = (.non, st) := rfl
@[simp] theorem esc_bl (b : Bool) (st : Store) : esc (.bl b) st = (.bl b, st) := rfl
@[simp] theorem esc_int (i : Int) (st : Store) : esc (.int i) st = (.int i, st) := rfl
@[simp] theorem esc_str (s : Str) (st : Store) : esc (.str s) st = (.str s, st) := rfl
@[simp] theorem esc_tup (s : List PV) (st : Store) : esc (.tup s) st = (.tup s, st) := rfl
@[simp] theorem esc_loc (n : Nat) (st : Store) : esc (.loc n) st = (.loc n, st) := rfl
@[simp] theorem esc_rol (n : List PV) (st : Store) : esc (.rol n) st = (.rol n, st) := rfl
@[simp] theorem esc_fl (n : List PV) (st : Store) : esc (.fl n) st = (.loc st.length, st ++ [.lst n]) := rfl
/-! values at names -/
@[simp] theorem varV_non (st : Store) : varV .val (some (some .non)) st = .ok .non st := rfl
@[simp] theorem varV_bl (b : Bool) (st : Store) : varV .val (some (some (.bl b))) st = .ok (.bl b) st := rfl
@[simp] theorem varV_int (i : Int) (st : Store) : varV .val (some (some (.int i))) st = .ok (.int i) st := rfl
@[simp] theorem varV_str (s : Str) (st : Store) : varV .val (some (some (.str s))) st = .ok (.str s) st := rfl
@[simp] theorem varV_tup (xs : List PV) (st : Store) : varV .val (some (some (.tup xs))) st = .ok (.tup xs) st := rfl
@[simp] theorem varV_loc (n : Nat) (st : Store) : varV .val (some (some (.loc n))) st = .ok (.loc n) st := rfl
@[simp] theorem varV_rol (xs : List PV) (st : Store) : varV .val (some (some (.rol xs))) st = .ok (.rol xs) st := rfl
@[simp] theorem varV_use (v : PV) (st : Store) : varV .use (some (some v)) st = .ok v st := rfl
@[simp] theorem varV_test (v : PV) (st : Store) : varV .test (some (some v)) st = done .test v st := rfl
/-! operations -/
@[simp] theorem bin_add_int (i j : Int) (st : Store) : binV .add (.int i) (.int j) st = some (.int (i + j)) := rfl
@[simp] theorem bin_sub_int (i j : Int) (st : Store) : binV .sub (.int i) (.int j) st = some (.int (i - j)) := rfl
theorem bin_mul_int {i j : Int} {st : Store} (h : ckM i j = true) : binV .mul (.int i) (.int j) st = some (.int (i * j)) := if_pos h
theorem bin_mod_int {i j : Int} {st : Store} (h : 0 < j) : binV .mod (.int i) (.int j) st = some (.int (i % j)) := if_pos h
theorem bin_fdiv_int {i j : Int} {st : Store} (h : 0 < j ∧ j < 1073741824) : binV .fdiv (.int i) (.int j) st = some (.int (i / j)) := if_pos h
theorem bin_pow_int {i j : Int} {st : Store} (h : 0 ≤ j ∧ j ≤ 1000000 ∧ i.natAbs < 2 ^ 64) : binV .pow (.int i) (.int j) st = some (.int (i ^ j.toNat)) := if_pos h
theorem bin_add_str {x y : Str} {st : Store} (h : x.length + y.length ≤ sizeLine) : binV .add (.str x) (.str y) st = some (.str (x ++ y)) := if_pos h
theorem bin_add_tup {x y : List PV} {st : Store} (h : x.length + y.length ≤ sizeLine) : binV .add (.tup x) (.tup y) st = some (.tup (x ++ y)) := if_pos h
theorem bin_mul_str {x : Str} {j : Int} {st : Store} (h : -1000000 ≤ j ∧ j ≤ 1000000 ∧ x.length * j.toNat ≤ 1000000) : binV .mul (.str x) (.int j) st = some (.str (⟨((List.replicate j.toNat x.cps.toList).flatten).toArray⟩)) := if_pos h
@[simp] theorem cmp_eq_int (i j : Int) (st : Store) : cmpV .eq (.int i) (.int j) st = some (decide (i = j)) := by
  show some (decide (V.int i = V.int j)) = _
  simp
@[simp] theorem cmp_ne_int (i j : Int) (st : Store) : cmpV .ne (.int i) (.int j) st = some (!decide (i = j)) := by
  show some (!decide (V.int i = V.int j)) = _
  simp
@[simp] theorem cmp_eq_str (i j : Str) (st : Store) : cmpV .eq (.str i) (.str j) st = some (decide (i = j)) := by
  show some (decide (V.str i = V.str j)) = _
  simp
@[simp] theorem cmp_ne_str (i j : Str) (st : Store) : cmpV .ne (.str i) (.str j) st = some (!decide (i = j)) := by
  show some (!decide (V.str i = V.str j)) = _
  simp
@[simp] theorem cmp_lt_int (i j : Int) (st : Store) : cmpV .lt (.int i) (.int j) st = some (decide (i < j)) := rfl
@[simp] theorem cmp_le_int (i j : Int) (st : Store) : cmpV .le (.int i) (.int j) st = some (decide (i ≤ j)) := rfl
@[simp] theorem cmp_gt_int (i j : Int) (st : Store) : cmpV .gt (.int i) (.int j) st = some (decide (j < i)) := rfl
@[simp] theorem cmp_ge_int (i j : Int) (st : Store) : cmpV .ge (.int i) (.int j) st = some (decide (j ≤ i)) := rfl
@[simp] theorem seq_tup (xs : List PV) (st : Store) : seqOf (.tup xs) st = some xs := rfl
@[simp] theorem seq_fl (xs : List PV) (st : Store) : seqOf (.fl xs) st = some xs := rfl
@[simp] theorem seq_rol (xs : List PV) (st : Store) : seqOf (.rol xs) st = some xs := rfl
theorem seq_loc {n : Nat} {xs : List PV} {st : Store} (h : st[n]? = some (.lst xs)) : seqOf (.loc n) st = some xs := by
  unfold seqOf
  simp only [h]
theorem ix_loc {n : Nat} {xs : List PV} {st : Store} {k : Int} (h : st[n]? = some (.lst xs)) : ixV (.loc n) (.int k) st = atI xs k := by
  unfold ixV
  simp only [seq_loc h]
@[simp] theorem ix_tup_ (xs : List PV) (k : Int) (st : Store) : ixV (.tup xs) (.int k) st = atI xs k := rfl
@[simp] theorem ix_fl_ (xs : List PV) (k : Int) (st : Store) : ixV (.fl xs) (.int k) st = atI xs k := rfl
@[simp] theorem ix_rol_ (xs : List PV) (k : Int) (st : Store) : ixV (.rol xs) (.int k) st = atI xs k := rfl
theorem ix_str_ {z : Str} {k : Int} {st : Store} (h : z.length ≤ sizeLine) : ixV (.str z) (.int k) st = (atI z.cps.toList k).map fun c => .str ⟨#[c]⟩ := if_pos h
@[simp] theorem atI_0 {α : Type} (x : α) (xs : List α) : atI (x :: xs) 0 = some x := atI_nat (j := 0) rfl
@[simp] theorem atI_1 {α : Type} (x y : α) (xs : List α) : atI (x :: y :: xs) 1 = some y := atI_nat (j := 1) rfl
@[simp] theorem atI_2 {α : Type} (x y z : α) (xs : List α) : atI (x :: y :: z :: xs) 2 = some z := atI_nat (j := 2) rfl
@[simp] theorem atI_3 {α : Type} (x y z w : α) (xs : List α) : atI (x :: y :: z :: w :: xs) 3 = some w := atI_nat (j := 3) rfl
@[simp] theorem truth_bl_ (b : Bool) (st : Store) : truth (.bl b) st = some b := rfl
@[simp] theorem bi_int_int (i : Int) (st : Store) : biV .int [.int i] st = some (.int i) := rfl
@[simp] theorem bi_int_bl (k : Bool) (st : Store) : biV .int [.bl k] st = some (.int (if k then 1 else 0)) := rfl
@[simp] theorem bi_abs (i : Int) (st : Store) : biV .abs [.int i] st = some (.int (if i < 0 then -i else i)) := rfl
@[simp] theorem bi_max (i j : Int) (st : Store) : biV .max [.int i, .int j] st = some (.int (if j > i then j else i)) := rfl
@[simp] theorem bi_min (i j : Int) (st : Store) : biV .min [.int i, .int j] st = some (.int (if j < i then j else i)) := rfl
theorem bi_len_str {z : Str} {st : Store} (h : z.length ≤ sizeLine) : biV .len [.str z] st = some (.int z.length) := if_pos h
theorem bi_len_loc {n : Nat} {xs : List PV} {st : Store} (h : st[n]? = some (.lst xs)) : biV .len [.loc n] st = some (.int xs.length) := by
  show (seqOf (.loc n) st).map _ = _
  rw [seq_loc h]; rfl
@[simp] theorem bi_len_fl (xs : List PV) (st : Store) : biV .len [.fl xs] st = some (.int xs.length) := rfl
@[simp] theorem bi_len_tup (xs : List PV) (st : Store) : biV .len [.tup xs] st = some (.int xs.length) := rfl
@[simp] theorem bi_list_rol (xs : List PV) (st : Store) : biV .list [.rol xs] st = some (.fl xs) := rfl
@[simp] theorem bi_repr (b : Bool) (st : Store) : biV .repr [.bl b] st = some (.str (if b then Str.ofString "True" else Str.ofString "False")) := rfl
theorem bi_str {i : Int} {st : Store} (h : i.natAbs < 1000000) : biV .str [.int i] st = some (.str (toString i)) := if_pos h
@[simp] theorem low_int (n : Nat) (i : Int) : PV.low n (.int i) = true := rfl
@[simp] theorem low_bl (n : Nat) (i : Bool) : PV.low n (.bl i) = true := rfl
@[simp] theorem low_str (n : Nat) (i : Str) : PV.low n (.str i) = true := rfl
theorem leave_id (v : PV) (st : Store) : leave st.length v st = .ok v st := if_pos (Nat.le_refl _)
theorem leave_set (v : PV) (st : Store) (n : Nat) (c : Cell) : leave st.length v (st.set n c) = .ok v (st.set n c) := if_pos (by simp)
theorem leave_setAt (v : PV) (st : Store) (n : Nat) (c : List PV) : leave st.length v (setAt st n c) = .ok v (setAt st n c) := if_pos (by simp [setAt])
/-- a call that leaves the store as long as it was -/
theorem leave_same {n : Nat} {v : PV} {st : Store} (h : st.length ≤ n) : leave n v st = .ok v st := if_pos h

/-- the turns of a comprehension over items -/
theorem lcLoop_inv {test : En → Store → Res Bool} {elt : En → Store → Res PV} {put : PV → En → Option En} {env : En} {xs : List PV} (I : Nat → List PV → Store → Prop)
    (step : ∀ j x acc st, xs[j]? = some x → I j acc st → ∃ env' b st1, put x env = some env' ∧ test env' st = .ok b st1 ∧
      if b = true then ∃ y st2, elt env' st1 = .ok y st2 ∧ acc.length < sizeLine ∧ I (j + 1) (acc ++ [(esc y st2).1]) (esc y st2).2 else I (j + 1) acc st1) :
    ∀ m j acc st, j + m = xs.length → I j acc st → ∃ acc' st', lcLoop test elt put env (.items xs) j m acc st = .ok (.fl acc') st' ∧ I xs.length acc' st'
  | 0, j, acc, st, e, i => by
    have e : j = xs.length := by omega
    subst e
    exact ⟨acc, st, rfl, i⟩
  | m + 1, j, acc, st, e, i => by
    have hj : j < xs.length := by omega
    obtain ⟨env', b, st1, h1, h2, h3⟩ := step j xs[j] acc st (by simp [hj]) i
    have hg : (Src.items xs).get j st = some xs[j] := by simp [Src.get, hj]
    unfold lcLoop
    rw [hg]
    simp only [h1, h2, bind_ok_]
    cases b with
    | false =>
      simp only [Bool.false_eq_true, if_false] at h3 ⊢
      exact lcLoop_inv I step m (j + 1) acc st1 (by omega) h3
    | true =>
      simp only [if_true] at h3 ⊢
      obtain ⟨y, st2, h4, h5, h6⟩ := h3
      simp only [h4, bind_ok_, if_pos h5]
      exact lcLoop_inv I step m (j + 1) _ _ (by omega) h6
/-- .. that leave the store -/
theorem lcLoop_pure {test : En → Store → Res Bool} {elt : En → Store → Res PV} {put : PV → En → Option En} {env : En} {xs : List PV} {st : Store} (b : PV → Bool) (f : PV → PV) (hz : xs.length < sizeLine)
    (step : ∀ x, x ∈ xs → ∃ env', put x env = some env' ∧ test env' st = .ok (b x) st ∧ (b x = true → elt env' st = .ok (f x) st ∧ (f x).isFl = false)) :
    lcLoop test elt put env (.items xs) 0 xs.length [] st = .ok (.fl ((xs.filter b).map f)) st := by
  obtain ⟨acc, st', h1, h2, h3⟩ := lcLoop_inv (env := env) (put := put) (test := test) (elt := elt) (xs := xs) (fun j acc st' => st' = st ∧ acc = ((xs.take j).filter b).map f) (fun j x acc st1 hx ⟨e1, e2⟩ => by
    subst e1
    obtain ⟨env', q1, q2, q3⟩ := step x (List.mem_of_getElem? hx)
    have ht : xs.take (j + 1) = xs.take j ++ [x] := by rw [List.take_add_one, hx]; rfl
    refine ⟨env', b x, st1, q1, q2, ?_⟩
    cases hb : b x with
    | false =>
      simp only [Bool.false_eq_true, if_false]
      exact ⟨by trivial, by rw [ht, List.filter_append, e2]; simp [hb]⟩
    | true =>
      obtain ⟨q4, q5⟩ := q3 hb
      simp only [if_true]
      refine ⟨f x, st1, q4, ?_, ?_⟩
      · rw [e2, List.length_map]
        have := List.length_filter_le b (xs.take j)
        have := List.length_take_le j xs
        have : (xs.take j).length ≤ xs.length := by rw [List.length_take]; omega
        omega
      · have es : esc (f x) st1 = (f x, st1) := by cases hf : f x <;> first | rfl | (rw [hf] at q5; cases q5)
        rw [es]
        exact ⟨by trivial, by rw [ht, List.filter_append, e2]; simp [hb]⟩) xs.length 0 [] st (by omega) ⟨rfl, by simp⟩
  rw [h1, h2, h3, List.take_length]
/-- what a turn comes to -/
def SR.go (r : SR) (P : En → Store → Prop) : Prop := match r with
  | .nx e s => P e s
  | .ct e s => P e s
  | _ => False
@[simp] theorem go_nx (e : En) (s : Store) (P : En → Store → Prop) : (SR.nx e s).go P = P e s := rfl
@[simp] theorem go_ct (e : En) (s : Store) (P : En → Store → Prop) : (SR.ct e s).go P = P e s := rfl
def SR.goR (r : SR) (P : En → Store → Prop) (R : PV → Store → Prop) : Prop := match r with
  | .nx e s => P e s
  | .ct e s => P e s
  | .rt v s => R v s
  | _ => False
@[simp] theorem goR_nx (e : En) (s : Store) (P : En → Store → Prop) (R : PV → Store → Prop) : (SR.nx e s).goR P R = P e s := rfl
@[simp] theorem goR_ct (e : En) (s : Store) (P : En → Store → Prop) (R : PV → Store → Prop) : (SR.ct e s).goR P R = P e s := rfl
@[simp] theorem goR_rt (v : PV) (s : Store) (P : En → Store → Prop) (R : PV → Store → Prop) : (SR.rt v s).goR P R = R v s := rfl
/-- the turns of a for over items, none of which leaves -/
theorem forLoop_inv {put : PV → En → Option En} {body : En → Store → SR} {xs : List PV} (I : Nat → En → Store → Prop)
    (step : ∀ j x env st, xs[j]? = some x → I j env st → ∃ env', put x env = some env' ∧ (body env' st).go fun e s => I (j + 1) e s) :
    ∀ m j env st, j + m = xs.length → I j env st → ∃ e s, forLoop put body (.items xs) j m env st = .nx e s ∧ I xs.length e s
  | 0, j, env, st, e, i => by
    have e : j = xs.length := by omega
    subst e
    exact ⟨env, st, rfl, i⟩
  | m + 1, j, env, st, e, i => by
    have hj : j < xs.length := by omega
    obtain ⟨env', h1, h2⟩ := step j xs[j] env st (by simp [hj]) i
    have hg : (Src.items xs).get j st = some xs[j] := by simp [Src.get, hj]
    unfold forLoop
    rw [hg]
    simp only [h1]
    cases q : body env' st with
    | nx e' s' => rw [q] at h2; exact forLoop_inv I step m (j + 1) e' s' (by omega) h2
    | ct e' s' => rw [q] at h2; exact forLoop_inv I step m (j + 1) e' s' (by omega) h2
    | _ => rw [q] at h2; exact h2.elim
/-- .. some of which may hand back a value of R -/
theorem forLoop_ret {put : PV → En → Option En} {body : En → Store → SR} {xs : List PV} (I : Nat → En → Store → Prop) (R : PV → Store → Prop)
    (step : ∀ j x env st, xs[j]? = some x → I j env st → ∃ env', put x env = some env' ∧ (body env' st).goR (fun e s => I (j + 1) e s) R) :
    ∀ m j env st, j + m = xs.length → I j env st → (∃ e s, forLoop put body (.items xs) j m env st = .nx e s ∧ I xs.length e s) ∨ ∃ v s, forLoop put body (.items xs) j m env st = .rt v s ∧ R v s
  | 0, j, env, st, e, i => by
    have e : j = xs.length := by omega
    subst e
    exact .inl ⟨env, st, rfl, i⟩
  | m + 1, j, env, st, e, i => by
    have hj : j < xs.length := by omega
    obtain ⟨env', h1, h2⟩ := step j xs[j] env st (by simp [hj]) i
    have hg : (Src.items xs).get j st = some xs[j] := by simp [Src.get, hj]
    unfold forLoop
    rw [hg]
    simp only [h1]
    cases q : body env' st with
    | nx e' s' => rw [q] at h2; exact forLoop_ret I R step m (j + 1) e' s' (by omega) h2
    | ct e' s' => rw [q] at h2; exact forLoop_ret I R step m (j + 1) e' s' (by omega) h2
    | rt v s => rw [q] at h2; exact .inr ⟨v, s, rfl, h2⟩
    | _ => rw [q] at h2; exact h2.elim
theorem atI_nn {α : Type} {xs : List α} {i : Int} {x : α} (h0 : 0 ≤ i) (h : xs[i.toNat]? = some x) : atI xs i = some x := by
  have := atI_nat h
  rwa [Int.toNat_of_nonneg h0] at this
end U

set_option maxHeartbeats 4000000
/-! W3: a def's call where the context is given (its guards can be known), from its body. -/
namespace U
open PySem PySem.W PyProof.Rows L2
theorem codeG {P : Program} {w : World} {K : PySem.W.Frag} {mg : Str → Option Value} {base : Heap} {x qual : Str} {st : Stmt} {f : Addr} {fd : FuncData} {N ps : List Str} {k : Nat} {A : Around} {outer : List Env} {s : Shared} {H : Hp} {args : Args} {us : List Value} {vs : List V} {Q : VK} {E : XK}
    (F : Fun K x qual st f fd) (S : FnScope N ps (defScope st)) (hr : Room (k + 1) A) (E0 : Env0 P w K mg base A outer s H) (nl : s.heap.NoLimit) (hb : BindsTo s fd args (ps.zip us)) (hv : Vals vs us) (hl : vs.length = ps.length)
    (body : ∀ cdv, Room k (A.deeper (envOfC qual (defScope st) s.heap.objs.size f cdv)) → ∃ t, PSs (cxOf CX0 P w K mg base N qual (defScope st) f cdv A outer s H E).nox (defBody st) t ∧ t { nx := fun x H' => Q V.non H', rt := Q, bk := fun _ _ => False, ct := fun _ _ => False } (L2.start N vs) H) :
    codeAny (model P w) A (Code.call (Value.ref f) args) (CR CX0 outer P w H s Q E) s := by
  obtain ⟨⟨oc, od, kV, doc, pm, an, cdv, ct, osl, hfd, hlk, hc⟩, kp⟩ := F
  subst hfd
  have kin : K.In s.heap := fun a o h => (E0.bs a o (E0.mod.kin a o h)).1
  have rm : Room k (A.deeper (envOfC qual (defScope st) s.heap.objs.size f cdv)) := by
    obtain ⟨h1, h2, h3⟩ := hr
    exact ⟨h1, by show A.depth + 1 + 3 * k + 5 < _; omega, by show A.units + 3 + 16 * k + 200 < _; omega⟩
  obtain ⟨t, b1, b2⟩ := body cdv rm
  refine Att.call_fn kin nl hlk hc (by have := hr.dp; omega) hb ?_ (fun s1 hin => ?_) S.co S.gen S.kind
  · rw [List.all_eq_true]
    intro y hy
    have hm : y.1 ∈ ps := (List.of_mem_zip hy).1
    rcases S.par y.1 hm with h | h <;> simp [h]
  · have I := inv_start (CX := CX0) (E := E) (cd := cdv) (qual := qual) (f := f) (us := us) S hr.hd E0 hl hv hin
    have I2 : L2.Inv (cxOf CX0 P w K mg base N qual (defScope st) f cdv A outer s H E).nox [] (L2.start N vs) H s1 :=
      ⟨⟨I.ok.mod, I.ok.kind, I.ok.glob, I.ok.blt, I.ok.above, I.ok.inj, I.ok.has, I.ok.cab, I.ok.hd, I.ok.frames, I.ok.stk, I.ok.exf, I.ok.bs, I.ok.bsz, I.ok.noex, I.ok.exfs, I.ok.funs, I.ok.frf⟩, I.os, I.bare, I.base, I.loc, I.cell, I.free, I.freeC, I.pin, I.hok, I.len⟩
    refine PySem.wpAny_mono (b1.run [] s1 (L2.start N vs) H _ I2 b2) (fun fl s' h => ?_) (fun _ _ h => h.elim)
    cases fl with
    | next =>
      obtain ⟨σ', H', I', q⟩ := h
      exact ⟨.non, H', I'.os, I'.bare, I'.base, I'.hok, rfl, q⟩
    | brk => obtain ⟨_, _, _, q⟩ := h; exact q.elim
    | cont => obtain ⟨_, _, _, q⟩ := h; exact q.elim
    | ret u =>
      obtain ⟨v, σ', H', I', rv, q⟩ := h
      exact ⟨v, H', I'.os, I'.bare, I'.base, I'.hok, rv, q⟩
end U

set_option maxHeartbeats 4000000
/-! W4: the law's call at the top, from codeG's kind of fact. -/
namespace U
open PySem PySem.W PyProof.Rows L2
/-- a heap with one object gone -/
def gone (h : Heap) (a : Addr) : Heap := { h with objs := h.objs.modify a fun o => { o with data := .freed } }
theorem gone_at {h : Heap} {a : Addr} : (gone h a).get? a = none := by
  unfold gone Heap.get?
  simp only [Array.getElem?_modify, if_true]
  cases h.objs[a]? <;> rfl
theorem gone_ne {h : Heap} {a b : Addr} (e : b ≠ a) : (gone h a).get? b = h.get? b := by
  unfold gone Heap.get?
  simp only [Array.getElem?_modify, if_neg (Ne.symm e)]
theorem gone_size {h : Heap} {a : Addr} : (gone h a).objs.size = h.objs.size := by
  unfold gone
  simp
theorem gone_keep {h : Heap} {a b : Addr} {o : Obj} (e : (gone h a).get? b = some o) : b ≠ a ∧ h.get? b = some o := by
  by_cases z : b = a
  · subst z; rw [gone_at] at e; cases e
  · rw [gone_ne z] at e; exact ⟨z, e⟩
theorem gone_ns {h : Heap} {a b : Addr} {m : Str → Option Value} {o : Obj} (hn : h.Ns b m) (ha : h.get? a = some o) (hd : ∀ es ep, o.data ≠ Data.dict es ep) : (gone h a).Ns b m := by
  obtain ⟨o', es, ep, p1, p2, p3, p4⟩ := hn
  have z : b ≠ a := fun e => by
    subst e
    rw [ha] at p1
    have := Option.some.inj p1
    subst this
    exact hd _ _ p2
  exact ⟨o', es, ep, by rw [gone_ne z]; exact p1, p2, p3, p4⟩
theorem vals_len : ∀ {xs : List V} {us : List Value}, Vals xs us → xs.length = us.length
  | [], us, h => by cases h; rfl
  | x :: xs, us, h => by
    cases h with
    | cons h1 h2 => simp [vals_len h2]
theorem law_callG {P : Program} {w : World} {K : PySem.W.Frag} {mg mb : Str → Option Value} {fa a : Addr} {s₁ : Shared} {vs : List Value} {ns : List Int}
    (kin : K.In s₁.heap) (hg : s₁.heap.Ns mainGlobals mg) (hb : s₁.heap.Ns builtinsNs mb) (hbo : ∀ x : Str, x ≠ Str.ofString "__name__" → mb x = bootBuiltins x) (nl : s₁.heap.NoLimit) (gens : s₁.gens = #[])
    (ha : s₁.heap.get? a = some { cls := Value.type "list", data := Data.seq vs.toArray }) (hi : IntsAre vs ns) (hz : ns.length ≤ sizeLine)
    (run : ∀ (base : Heap) (H : Hp), Env0 P w K mg base callerA [] s₁ H → Only H → SqL K H a (ns.map V.int) → codeAny (model P w) callerA (Code.call (Value.ref fa) { pos := [Value.ref a] }) (CR CX0 [] P w H s₁ (fun v _ => v = V.bl true) (fun _ _ _ => False)) s₁) :
    codeAny (model P w) callerA (Code.call (Value.ref fa) { pos := [Value.ref a] }) (fun r s' => r = Except.ok (Flow.ret (Value.bool true)) ∧ OldK s₁.heap s'.heap ∧ s'.os = s₁.os ∧ AllBare s'.gens) s₁ := by
  have hv := vals_of_ints hi
  have bare : AllBare s₁.gens := fun y hy => by rw [gens] at hy; simp at hy
  have nd : ∀ es ep, ({ cls := Value.type "list", data := Data.seq vs.toArray } : Obj).data ≠ Data.dict es ep := fun es ep e => by cases e
  -- what follows from the call
  have fin : ∀ (base : Heap) (H : Hp), Env0 P w K mg base callerA [] s₁ H → (∀ b, H b = none ∨ ∃ o u, H b = some (HO.frz o u)) → ∀ r s', CR CX0 [] P w H s₁ (fun v _ => v = V.bl true) (fun _ _ _ => False) r s' → r = Except.ok (Flow.ret (Value.bool true)) ∧ OldK s₁.heap s'.heap ∧ s'.os = s₁.os ∧ AllBare s'.gens := by
    intro base H E0 hH r s' h
    cases r with
    | error e => exact h.elim
    | ok fl =>
      cases fl with
      | ret u =>
        obtain ⟨v, H', h1, h2, h3, h4, h5, h6⟩ := h
        subst h6
        have h5 : u = Value.bool true := h5
        have old : ∀ b o, s₁.heap.get? b = some o → s'.heap.get? b = some o := fun b o hb => by
          rcases hH b with z | ⟨o', u', z⟩
          · exact h3.keep b o hb z (by simp [frs]) (by simp)
          · have z' := h3.frzs b o' u' z
            have q1 := E0.hok b _ z
            have q2 := h4 b _ z'
            rw [ObjOk.eq_def] at q1 q2
            simp only at q1 q2
            rw [q1.1] at hb
            rw [q2.1]; exact hb
        exact ⟨by rw [h5], ⟨fun b o hb => .inl (old b o hb), fun b o hb => ⟨o, old b o hb⟩⟩, h1, h2⟩
      | _ => exact h.elim
  by_cases hk : K.lookup a = none
  · -- the list stands outside: it is frozen
    let H : Hp := fun b => if b = a then some (HO.frz { cls := Value.type "list", data := Data.seq vs.toArray } (HO.lst (ns.map V.int))) else none
    have Ha : H a = some (HO.frz { cls := Value.type "list", data := Data.seq vs.toArray } (HO.lst (ns.map V.int))) := if_pos rfl
    have E0 : Env0 P w K mg (gone s₁.heap a) callerA [] s₁ H := by
      refine ⟨rfl, ⟨fun b o hb => ?_, gone_ns hg ha nd, ⟨mb, gone_ns hb ha nd, hbo⟩, ?_⟩, fun b o hb => ?_, by rw [gone_size]; exact Nat.le_refl _, ?_, fun b hb => by simp [frs] at hb, fun b o hb => ?_, bare⟩
      · have z : b ≠ a := fun e => by subst e; rw [hk] at hb; cases hb
        rw [gone_ne z]; exact kin b o hb
      · obtain ⟨mc, n1, n2⟩ := nl
        exact ⟨mc, gone_ns n1 ha nd, n2⟩
      · obtain ⟨z, q⟩ := gone_keep hb
        exact ⟨q, if_neg z⟩
      · trivial
      · by_cases e : b = a
        · subst e
          rw [Ha] at hb
          have := Option.some.inj hb
          subst this
          rw [ObjOk.eq_def]
          refine ⟨ha, ?_⟩
          rw [ObjOk.eq_def]
          exact ⟨by rw [List.length_map]; exact hz, vs, 0, hv, ha⟩
        · rw [show H b = none from if_neg e] at hb; cases hb
    have only : Only H := fun b => by
      by_cases e : b = a
      · subst e; exact .inr ⟨_, _, Ha⟩
      · exact .inl (if_neg e)
    refine codeAny_mono (run _ H E0 only (.inl (.inr ⟨_, Ha⟩))) (fin _ H E0 fun b => ?_)
    rcases only b with z | ⟨o, x, z⟩
    · exact .inl z
    · exact .inr ⟨o, _, z⟩
  · -- the list is one of the module's
    obtain ⟨o, ho⟩ := Option.ne_none_iff_exists'.mp hk
    have eo := kin a o ho
    rw [ha] at eo
    have eo := Option.some.inj eo
    have E0 : Env0 P w K mg s₁.heap callerA [] s₁ (fun _ => none) :=
      ⟨rfl, ⟨kin, hg, ⟨mb, hb, hbo⟩, nl⟩, fun b o hb => ⟨hb, rfl⟩, Nat.le_refl _, trivial, (fun b hb => rfl), (fun b o hb => by cases hb), bare⟩
    refine codeAny_mono (run _ _ E0 (fun b => .inl rfl) (.inr ⟨o, vs.toArray, 0, ho, by rw [← eo], by rw [← eo], by rw [← eo], ?_, by simpa using hv⟩)) (fin _ _ E0 fun b => .inl rfl)
    have := vals_len hv
    simp at this ⊢
    omega
end U

set_option maxHeartbeats 4000000
/-! W5: a law's statement from its def's call at the top, where the guards are known. -/
namespace U
open PySem PySem.W PyProof.Rows L2
theorem walk_ofG {l : OpenLaw} {n : Nat} {q : Program} {loose : List Str} {XP : (Str → Option Value) → Heap → Prop} {YP : World → Heap → Prop} {d : DefRec} {K : Params → PySem.W.Frag}
    (hm : l.most = some n) (hn : n ≤ sizeLine) (hd : d.params.defaults = []) (kin : ∀ (w : World) (h : Heap), YP w h → (K w.params).In h)
    (run : ∀ (w : World) (mg : Str → Option Value) (fa : Addr) (base : Heap) (H : Hp) (s : Shared) (a : Addr) (ns : List Int), (K w.params).In s.heap → s.heap.Ns mainGlobals mg → s.heap.NoLimit → mg d.name = some (Value.ref fa) → ns.length ≤ n → Env0 l.prog w (K w.params) mg base callerA [] s H → Only H → SqL (K w.params) H a (ns.map V.int) →
      codeAny (model l.prog w) callerA (Code.call (Value.ref fa) { pos := [Value.ref a] }) (CR CX0 [] l.prog w H s (fun v _ => v = V.bl true) (fun _ _ _ => False)) s) :
    WalkO q loose XP YP l.row.toRowW d [] fun f vs => PySem.call f vs := by
  refine Att.attach_call hm hd fun w s₀ s₁ mg mb fa o pm cd doc a vs ns G Y h1 h2 h3 h4 h5 h6 h7 h8 => ?_
  have T := G.T
  refine law_callG (kin w _ Y) T.g T.b T.builtins T.nolimit h8 h5 h6 (by omega) fun base H E0 ho hs => ?_
  exact run w mg fa base H s₁ a ns (kin w _ Y) T.g T.nolimit h4 h7 E0 ho hs
end U

set_option maxHeartbeats 4000000
/-! U17: the law's own def, called at the top, where the guards are known. -/
namespace U
open PySem PySem.W PyProof.Rows L2
section
variable {W : Wd} {k : Nat} {turns : Nat} {D : Nat → Option Def}
/-- the law's def: its text may ask for known guards -/
structure EntG (W : Wd) (D : Nat → Option Def) (fn : List (Str × Nat)) (cs : List (Str × PV)) (bl : List Str) (ds : List (Str × List (Str × PV))) (e : Ent) : Prop where
  mg : W.mg e.x = some (.ref e.a)
  fun_ : Fun W.K e.x e.x e.st e.a e.fd
  sc : FnScope e.N e.ps (defScope e.st)
  d : D e.f = some e.d
  np : e.ps.length = e.d.np
  nl : e.N.length = e.d.nl
  text : mSs ⟨e.N, defScope e.st, fn, cs, bl, ds, true⟩ e.d.body (defBody e.st) = true
theorem law_body {es : List Ent} {cs : List (Str × PV)} {bl : List Str} {ds : List (Str × List (Str × PV))} (P : ProgOk W D es cs bl ds) (ih : ∀ e ∈ es, FnOk W.P W.w W.K W.mg W.base CX0 k e.a e.fd e.ps (spEv W.K (evCall turns D k e.f)))
    (e : Ent) (E0 : EntG W D (es.map Ent.pair) cs bl ds e) {cdv : Value} {A : Around} {outer : List Env} {s : Shared} {H : Hp} {vs : List V} {Q : VK} {E : XK} (hgu : A.guards = some []) (hr : Room k (A.deeper (envOfC e.x (defScope e.st) s.heap.objs.size e.a cdv))) (h : spEv W.K (evCall turns D (k + 1) e.f) vs H Q E) :
    ∃ t, PSs (cxOf CX0 W.P W.w W.K W.mg W.base e.N e.x (defScope e.st) e.a cdv A outer s H E).nox (defBody e.st) t ∧ t { nx := fun x H' => Q V.non H', rt := Q, bk := fun _ _ => False, ct := fun _ _ => False } (L2.start e.N vs) H := by
  obtain ⟨μ, st0, as, v, st', o, r, q, g⟩ := h
  rw [evCall, E0.d] at q
  simp only at q
  split at q
  · rename_i qq
    obtain ⟨s1, own⟩ := start_ok (N := e.N) r qq.2 E0.nl
    have G : Gs W ⟨e.N, defScope e.st, es.map Ent.pair, cs, bl, ds, true⟩ k (cxOf CX0 W.P W.w W.K W.mg W.base e.N e.x (defScope e.st) e.a cdv A outer s H E).nox :=
      ⟨⟨rfl, rfl, rfl, rfl, rfl, rfl, rfl, E0.sc.nd, rfl, hr, fun _ => hgu⟩, E0.sc.kind, fun _ => rfl, rfl⟩
    have F : Fx W ⟨e.N, defScope e.st, es.map Ent.pair, cs, bl, ds, true⟩ k (evCall turns D k) := ⟨fun x f hx => by
      obtain ⟨e', h1, rfl, rfl⟩ := ent_of hx
      have E1 := P.df e' h1
      exact ⟨e'.a, e'.fd, e'.ps, E1.mg, E1.fun_.kp, E1.binds, ih e' h1⟩, P.cs, P.bl, P.ds⟩
    refine ⟨_, sSs (turns := turns) e.d.body G F E0.text, μ, _, st0, o, s1, ?_⟩
    rw [← qq.1] at q
    split at q
    · rename_i env' s' hs
      rw [hs]
      refine fun μ' H' σ' t o' r' w => ?_
      have t : Stp μ st0.length H μ' s'.length H' := t.weak fun b z => (own b z).elim
      obtain ⟨rfl, q1, q2, q3⟩ := leave_ok q t o' .non
      exact g μ' H' .non q1 q2 q3 trivial
    · rename_i w' s' hs
      rw [hs]
      refine fun μ' H' v' t o' r' w => ?_
      have t : Stp μ st0.length H μ' s'.length H' := t.weak fun b z => (own b z).elim
      obtain ⟨rfl, q1, q2, q3⟩ := leave_ok q t o' r'
      refine g μ' H' v' q1 q2 q3 ?_
      cases q3 with
      | fl _ _ _ => exact (w _ rfl rfl).elim (fun z => (own _ z).elim) fun z => z
      | _ => trivial
    · cases q
  · cases q

theorem law_top {es : List Ent} {cs : List (Str × PV)} {bl : List Str} {ds : List (Str × List (Str × PV))} (P : ProgOk W D es cs bl ds) (e : Ent) (E0 : EntG W D (es.map Ent.pair) cs bl ds e) {x : Str} (hx : e.ps = [x]) (hb : ∀ (s : Shared) (u : Value), BindsTo s e.fd { pos := [u] } [(x, u)])
    (hr : Room (k + 1) callerA) {s : Shared} {H : Hp} {a : Addr} {ns : List Int} (nl : s.heap.NoLimit) (Ev : Env0 W.P W.w W.K W.mg W.base callerA [] s H) (hm : ∃ st', evCall turns D (k + 1) e.f [.rol (ns.map .int)] [] = .ok (.bl true) st') (ho : Only H) (hs : SqL W.K H a (ns.map V.int)) :
    codeAny (model W.P W.w) callerA (Code.call (Value.ref e.a) { pos := [Value.ref a] }) (CR CX0 [] W.P W.w H s (fun v _ => v = V.bl true) (fun _ _ _ => False)) s := by
  refine codeG (us := [Value.ref a]) (vs := [V.ref a]) E0.fun_ E0.sc hr Ev nl ?_ (.cons rfl .nil) (by rw [hx]; rfl) fun cdv rm => law_body P (prog_ok P k) e E0 rfl rm (law_sp hm ho hs)
  rw [hx]
  exact hb s (Value.ref a)

end
end U

set_option maxHeartbeats 8000000
namespace K02
abbrev DEEP : Nat := 228
abbrev TURNS : Nat := 64
/-! the program's own text, by the generator -/
open PySem PySem.Spec PyProof.Rows L2 U
def topS (i : Nat) : Stmt := PySem.Challenge.pw_flowform_k02_places_and_depths.main.body.getD i (.Pass ⟨0, 0, 0, 0⟩)
/-- bodies -/
abbrev s11 : Stmt := topS 2
def n11 : List Str := ["statement"]
def p11 : List Str := ["statement"]
def d11 : Def := { np := 1, nl := 1, body :=
  (.cons (.ret (.sl (.var 0) (.bin .sub (.bi .len (.cons (.var 0) .nil)) (.gget "BODY_COUNTS" [("if", (.int 2)), ("while", (.int 1)), ("for", (.int 1)), ("try", (.int 2)), ("block", (.int 1))] (.ix (.var 0) (.con (.int 0))) (.con (.int 0)))) (.con .non)))
  .nil) }
/-- whole_conditions -/
abbrev s12 : Stmt := topS 3
def n12 : List Str := ["statement"]
def p12 : List Str := ["statement"]
def d12 : Def := { np := 1, nl := 1, body :=
  (.cons (.ite (.cmp .eq (.ix (.var 0) (.con (.int 0))) (.con (.str "if"))) (.cons (.ret (.tup (.cons (.ix (.var 0) (.con (.int 1))) .nil)))
  .nil) .nil)
  (.cons (.ite (.cmp .eq (.ix (.var 0) (.con (.int 0))) (.con (.str "while"))) (.cons (.ret (.tup (.cons (.ix (.var 0) (.con (.int 2))) .nil)))
  .nil) .nil)
  (.cons (.ret (.tup .nil))
  .nil))) }
/-- operands -/
abbrev s13 : Stmt := topS 4
def n13 : List Str := ["condition"]
def p13 : List Str := ["condition"]
def d13 : Def := { np := 1, nl := 1, body :=
  (.cons (.ite (.cmp .eq (.ix (.var 0) (.con (.int 0))) (.con (.str "not"))) (.cons (.ret (.tup (.cons (.ix (.var 0) (.con (.int 1))) .nil)))
  .nil) .nil)
  (.cons (.ite (.cmp .inn (.ix (.var 0) (.con (.int 0))) (.tup (.cons (.con (.str "and")) (.cons (.con (.str "or")) .nil)))) (.cons (.ret (.ix (.var 0) (.con (.int 1))))
  .nil) .nil)
  (.cons (.ret (.tup .nil))
  .nil))) }
def e40_0 : ME :=
  (.fn 41 (.cons (.var 1) .nil))
/-- places -/
abbrev s40 : Stmt := topS 5
def n40 : List Str := ["program", "statement"]
def p40 : List Str := ["program"]
def d40 : Def := { np := 1, nl := 2, body :=
  (.cons (.ret (.bi .sum (.cons (.lc e40_0 (.nm 1) (.var 0) false (.con (.bl true))) .nil)))
  .nil) }
def e41_0 : ME :=
  (.fn 40 (.cons (.var 3) .nil))
def e41_1 : ME :=
  (.fn 42 (.cons (.var 2) .nil))
/-- _statement_places -/
abbrev s41 : Stmt := topS 6
def n41 : List Str := ["statement", "parts", "condition", "body"]
def p41 : List Str := ["statement"]
def d41 : Def := { np := 1, nl := 4, body :=
  (.cons (.set 1 (.bi .sum (.cons (.lc e41_1 (.nm 2) (.fn 12 (.cons (.var 0) .nil)) false (.con (.bl true))) .nil)) true)
  (.cons (.ret (.bin .add (.bin .add (.con (.int 1)) (.var 1)) (.bi .sum (.cons (.lc e41_0 (.nm 3) (.fn 11 (.cons (.var 0) .nil)) false (.con (.bl true))) .nil))))
  .nil)) }
def e42_0 : ME :=
  (.fn 42 (.cons (.var 1) .nil))
/-- part_count -/
abbrev s42 : Stmt := topS 7
def n42 : List Str := ["condition", "part"]
def p42 : List Str := ["condition"]
def d42 : Def := { np := 1, nl := 2, body :=
  (.cons (.ret (.bin .add (.con (.int 1)) (.bi .sum (.cons (.lc e42_0 (.nm 1) (.fn 13 (.cons (.var 0) .nil)) false (.con (.bl true))) .nil))))
  .nil) }
/-- depths -/
abbrev s43 : Stmt := topS 8
def n43 : List Str := ["program"]
def p43 : List Str := ["program"]
def d43 : Def := { np := 1, nl := 1, body :=
  (.cons (.ret (.tup (.cons (.bi .max (.cons (.con (.int 0)) (.cons (.bin .sub (.fn 44 (.cons (.var 0) .nil)) (.con (.int 1))) .nil))) (.cons (.fn 45 (.cons (.var 0) .nil)) .nil))))
  .nil) }
def e44_0 : ME :=
  (.fn 44 (.cons (.var 4) .nil))
def b44_1 : MSs :=
  (.cons (.set 3 (.lc e44_0 (.nm 4) (.fn 11 (.cons (.var 2) .nil)) false (.con (.bl true))) true)
  (.cons (.set 1 (.bi .max (.cons (.var 1) (.cons (.bin .add (.con (.int 1)) (.mxd (.var 3) 0)) .nil))) true)
  .nil))
/-- _levels -/
abbrev s44 : Stmt := topS 9
def n44 : List Str := ["body", "deepest", "statement", "inner", "part"]
def p44 : List Str := ["body"]
def d44 : Def := { np := 1, nl := 5, body :=
  (.cons (.set 1 (.con (.int 0)) true)
  (.cons (.for_ (.nm 2) (.var 0) b44_1)
  (.cons (.ret (.var 1))
  .nil))) }
def b45_0 : MSs :=
  (.cons (.set 1 (.bi .max (.cons (.var 1) (.cons (.fn 45 (.cons (.var 4) .nil)) .nil))) true)
  .nil)
def b45_1 : MSs :=
  (.cons (.set 1 (.bi .max (.cons (.var 1) (.cons (.fn 46 (.cons (.var 3) .nil)) .nil))) true)
  .nil)
def b45_2 : MSs :=
  (.cons (.for_ (.nm 3) (.fn 12 (.cons (.var 2) .nil)) b45_1)
  (.cons (.for_ (.nm 4) (.fn 11 (.cons (.var 2) .nil)) b45_0)
  .nil))
/-- _program_part_depth -/
abbrev s45 : Stmt := topS 10
def n45 : List Str := ["body", "deepest", "statement", "condition", "inner"]
def p45 : List Str := ["body"]
def d45 : Def := { np := 1, nl := 5, body :=
  (.cons (.set 1 (.con (.int 0)) true)
  (.cons (.for_ (.nm 2) (.var 0) b45_2)
  (.cons (.ret (.var 1))
  .nil))) }
def e46_0 : ME :=
  (.bin .add (.con (.int 1)) (.fn 46 (.cons (.var 1) .nil)))
/-- part_depth -/
abbrev s46 : Stmt := topS 11
def n46 : List Str := ["condition", "part"]
def p46 : List Str := ["condition"]
def d46 : Def := { np := 1, nl := 2, body :=
  (.cons (.ret (.mxd (.lc e46_0 (.nm 1) (.fn 13 (.cons (.var 0) .nil)) false (.con (.bl true))) 0))
  .nil) }
def b4_0 : MSs :=
  (.cons (.set 1 (.bin .mod (.bi .int (.cons (.bin .add (.bin .mul (.var 1) (.con (.int 31))) (.bi .abs (.cons (.bi .int (.cons (.var 2) .nil)) .nil))) .nil)) (.con (.int 2147483647))) false)
  .nil)
/-- _law_tape -/
abbrev s4 : Stmt := topS 13
def n4 : List Str := ["script", "total", "cell"]
def p4 : List Str := ["script"]
def d4 : Def := { np := 1, nl := 3, body :=
  (.cons (.set 1 (.con (.int 7)) false)
  (.cons (.for_ (.nm 2) (.var 0) b4_0)
  (.cons (.ret (.lst (.cons (.bi .list (.cons (.var 0) .nil)) (.cons (.con (.int 0)) (.cons (.con (.int 0)) (.cons (.var 1) .nil))))))
  .nil))) }
/-- _law_draw -/
abbrev s5 : Stmt := topS 14
def n5 : List Str := ["tape", "many", "place", "number"]
def p5 : List Str := ["tape", "many"]
def d5 : Def := { np := 2, nl := 4, body :=
  (.cons (.ite (.cmp .eq (.ix (.var 0) (.con (.int 2))) (.con (.int 0))) (.cons (.set 2 (.ix (.var 0) (.con (.int 1))) false)
  (.cons (.set 3 (.con (.int 0)) false)
  (.cons (.ite (.cmp .lt (.var 2) (.bi .len (.cons (.ix (.var 0) (.con (.int 0))) .nil))) (.cons (.set 3 (.bi .abs (.cons (.bi .int (.cons (.ix (.ix (.var 0) (.con (.int 0))) (.var 2)) .nil)) .nil)) false)
  .nil) (.cons (.setIx (.var 0) (.con (.int 3)) (.bin .mod (.bi .int (.cons (.bin .add (.bin .add (.bin .mul (.ix (.var 0) (.con (.int 3))) (.con (.int 48271))) (.var 2)) (.con (.int 1))) .nil)) (.con (.int 2147483647))))
  (.cons (.set 3 (.ix (.var 0) (.con (.int 3))) false)
  .nil)))
  (.cons (.setIx (.var 0) (.con (.int 1)) (.bin .add (.var 2) (.con (.int 1))))
  (.cons (.ite (.cmp .lt (.var 3) (.bin .pow (.con (.int 10)) (.con (.int 18)))) (.cons (.set 3 (.bin .mod (.bi .int (.cons (.bin .add (.bin .add (.bin .mul (.var 3) (.con (.int 48271))) (.bin .mul (.var 2) (.con (.int 69621)))) (.con (.int 5))) .nil)) (.con (.int 2147483647))) false)
  (.cons (.set 3 (.bin .mod (.bi .int (.cons (.bin .mul (.var 3) (.con (.int 69621))) .nil)) (.con (.int 2147483629))) false)
  (.cons (.ret (.bin .mod (.bi .int (.cons (.var 3) .nil)) (.bi .max (.cons (.var 1) (.cons (.con (.int 1)) .nil)))))
  .nil))) .nil)
  (.cons (.setIx (.var 0) (.con (.int 2)) (.var 3))
  .nil)))))) .nil)
  (.cons (.set 3 (.ix (.var 0) (.con (.int 2))) false)
  (.cons (.setIx (.var 0) (.con (.int 2)) (.bin .fdiv (.var 3) (.bi .max (.cons (.var 1) (.cons (.con (.int 2)) .nil)))))
  (.cons (.ret (.bin .mod (.bi .int (.cons (.var 3) .nil)) (.bi .max (.cons (.var 1) (.cons (.con (.int 1)) .nil)))))
  .nil)))) }
def b6_0 : MSs :=
  (.cons (.set 8 (.bin .add (.var 8) (.ix (.var 2) (.fn 5 (.cons (.var 0) (.cons (.con (.int 63)) .nil))))) false)
  .nil)
def b6_1 : MSs :=
  (.cons (.set 8 (.bin .add (.bin .add (.sl (.var 4) (.con .non) (.var 5)) (.ix (.var 2) (.fn 5 (.cons (.var 0) (.cons (.con (.int 52)) .nil))))) (.sl (.var 4) (.var 5) (.con .non))) false)
  (.cons (.for_ (.nm 9) (.rng (.con (.int 0)) (.ix (.lst (.cons (.con (.int 0)) (.cons (.con (.int 0)) (.cons (.con (.int 0)) (.cons (.con (.int 1)) (.cons (.con (.int 2)) (.cons (.con (.int 6)) .nil))))))) (.fn 5 (.cons (.var 0) (.cons (.con (.int 6)) .nil))))) b6_0)
  (.cons (.set 10 (.fn 5 (.cons (.var 0) (.cons (.con (.int 16)) .nil))) true)
  (.cons (.ite (.cmp .eq (.var 10) (.con (.int 0))) (.cons (.set 8 (.bin .add (.var 8) (.bin .mul (.con (.str "x")) (.bin .sub (.con (.int 30)) (.bi .len (.cons (.var 8) .nil))))) false)
  .nil) .nil)
  (.cons (.ite (.cmp .eq (.var 10) (.con (.int 1))) (.cons (.set 8 (.bin .add (.ix (.var 3) (.fn 5 (.cons (.var 0) (.cons (.con (.int 12)) .nil)))) (.sl (.var 8) (.con .non) (.con (.int 1)))) false)
  .nil) .nil)
  (.cons (.ite (.cmp .eq (.var 10) (.con (.int 2))) (.cons (.set 8 (.sl (.ix (.var 3) (.fn 5 (.cons (.var 0) (.cons (.con (.int 12)) .nil)))) (.con .non) (.neg (.con (.int 1)))) false)
  .nil) .nil)
  (.cons (.ite (.or (.cmp .inn (.var 8) (.var 3)) (.cmp .inn (.var 8) (.var 6))) (.cons (.set 8 (.bin .add (.con (.str "one_of_two_equal_names_")) (.bi .str (.cons (.var 7) .nil))) false)
  .nil) .nil)
  (.cons (.app 6 (.var 8))
  .nil))))))))
/-- _law_names -/
abbrev s6 : Stmt := topS 15
def n6 : List Str := ["tape", "many", "signs", "words", "stem", "place", "names", "k", "name", "j", "choice"]
def p6 : List Str := ["tape", "many"]
def d6 : Def := { np := 2, nl := 11, body :=
  (.cons (.set 2 (.con (.str "abcdefghijklmnopqrstuvwxyzABCDEFGHIJKLMNOPQRSTUVWXYZ0123456789_")) true)
  (.cons (.set 3 (.lst (.cons (.con (.str "let")) (.cons (.con (.str "if")) (.cons (.con (.str "else")) (.cons (.con (.str "while")) (.cons (.con (.str "for")) (.cons (.con (.str "break")) (.cons (.con (.str "continue")) (.cons (.con (.str "return")) (.cons (.con (.str "try")) (.cons (.con (.str "finally")) (.cons (.con (.str "true")) (.cons (.con (.str "false")) .nil))))))))))))) true)
  (.cons (.set 4 (.ix (.lst (.cons (.con (.str "")) (.cons (.con (.str "")) (.cons (.con (.str "sharedStem")) (.cons (.con (.str "while_x")) .nil))))) (.fn 5 (.cons (.var 0) (.cons (.con (.int 4)) .nil)))) true)
  (.cons (.set 5 (.fn 5 (.cons (.var 0) (.cons (.bin .add (.bi .len (.cons (.var 4) .nil)) (.con (.int 1))) .nil))) false)
  (.cons (.set 6 (.lst .nil) true)
  (.cons (.for_ (.nm 7) (.rng (.con (.int 0)) (.var 1)) b6_1)
  (.cons (.ret (.var 6))
  .nil))))))) }
/-- _law_world -/
abbrev s18 : Stmt := topS 16
def n18 : List Str := ["tape", "free", "names", "calls", "labels", "flags"]
def p18 : List Str := ["tape"]
def d18 : Def := { np := 1, nl := 6, body :=
  (.cons (.set 1 (.lst (.cons (.lst (.cons (.con (.int 14)) (.cons (.con (.int 12)) (.cons (.con (.int 5)) (.cons (.con (.int 0)) (.cons (.con (.int 0)) .nil)))))) (.cons (.lst (.cons (.con (.int 12)) (.cons (.con (.int 9)) (.cons (.con (.int 4)) (.cons (.con (.int 1)) (.cons (.con (.int 0)) .nil)))))) (.cons (.lst (.cons (.con (.int 14)) (.cons (.con (.int 8)) (.cons (.con (.int 4)) (.cons (.con (.int 2)) (.cons (.con (.int 0)) .nil)))))) (.cons (.lst (.cons (.con (.int 12)) (.cons (.con (.int 4)) (.cons (.con (.int 3)) (.cons (.con (.int 3)) (.cons (.con (.int 0)) .nil)))))) (.cons (.lst (.cons (.con (.int 12)) (.cons (.con (.int 2)) (.cons (.con (.int 3)) (.cons (.con (.int 4)) (.cons (.con (.int 0)) .nil)))))) (.cons (.lst (.cons (.con (.int 12)) (.cons (.con (.int 5)) (.cons (.con (.int 5)) (.cons (.con (.int 0)) (.cons (.con (.int 2)) .nil)))))) (.cons (.lst (.cons (.con (.int 12)) (.cons (.con (.int 3)) (.cons (.con (.int 3)) (.cons (.con (.int 1)) (.cons (.con (.int 2)) .nil)))))) (.cons (.lst (.cons (.con (.int 12)) (.cons (.con (.int 3)) (.cons (.con (.int 2)) (.cons (.con (.int 2)) (.cons (.con (.int 2)) .nil)))))) (.cons (.lst (.cons (.con (.int 4)) (.cons (.con (.int 3)) (.cons (.con (.int 1)) (.cons (.con (.int 1)) (.cons (.con (.int 1)) .nil)))))) (.cons (.lst (.cons (.con (.int 3)) (.cons (.con (.int 2)) (.cons (.con (.int 1)) (.cons (.con (.int 0)) (.cons (.con (.int 0)) .nil)))))) (.cons (.lst (.cons (.con (.int 9)) (.cons (.con (.int 6)) (.cons (.con (.int 3)) (.cons (.con (.int 0)) (.cons (.con (.int 0)) .nil)))))) (.cons (.lst (.cons (.con (.int 0)) (.cons (.con (.int 0)) (.cons (.con (.int 0)) (.cons (.con (.int 0)) (.cons (.con (.int 0)) .nil)))))) .nil))))))))))))) true)
  (.cons (.set 2 (.fn 6 (.cons (.var 0) (.cons (.con (.int 5)) .nil))) true)
  (.cons (.set 3 (.sl (.var 2) (.con .non) (.bin .add (.con (.int 1)) (.fn 5 (.cons (.var 0) (.cons (.con (.int 5)) .nil))))) false)
  (.cons (.set 4 (.sl (.var 2) (.fn 5 (.cons (.var 0) (.cons (.con (.int 4)) .nil))) (.con .non)) true)
  (.cons (.set 5 (.sl (.var 2) (.fn 5 (.cons (.var 0) (.cons (.con (.int 4)) .nil))) (.con .non)) true)
  (.cons (.ret (.lst (.cons (.bin .add (.ix (.var 1) (.fn 5 (.cons (.var 0) (.cons (.con (.int 12)) .nil)))) (.lst (.cons (.con (.int 60)) .nil))) (.cons (.var 3) (.cons (.sl (.var 4) (.con .non) (.bin .add (.con (.int 1)) (.fn 5 (.cons (.var 0) (.cons (.con (.int 3)) .nil))))) (.cons (.sl (.var 5) (.con .non) (.bin .add (.con (.int 1)) (.fn 5 (.cons (.var 0) (.cons (.con (.int 4)) .nil))))) .nil))))))
  .nil)))))) }
/-- _law_leaf -/
abbrev s19 : Stmt := topS 17
def n19 : List Str := ["tape", "world", "flags", "free"]
def p19 : List Str := ["tape", "world", "flags"]
def d19 : Def := { np := 3, nl := 4, body :=
  (.cons (.set 3 (.ix (.var 1) (.con (.int 0))) true)
  (.cons (.ite (.and (.var 2) (.or (.cmp .eq (.ix (.var 3) (.con (.int 1))) (.con (.int 0))) (.cmp .eq (.fn 5 (.cons (.var 0) (.cons (.con (.int 3)) .nil))) (.con (.int 0))))) (.cons (.ret (.tup (.cons (.con (.str "flag")) (.cons (.ix (.var 2) (.fn 5 (.cons (.var 0) (.cons (.bi .len (.cons (.var 2) .nil)) .nil)))) .nil))))
  .nil) .nil)
  (.cons (.setIx (.var 3) (.con (.int 1)) (.bin .sub (.ix (.var 3) (.con (.int 1))) (.con (.int 1))))
  (.cons (.ret (.tup (.cons (.con (.str "call")) (.cons (.ix (.ix (.var 1) (.con (.int 1))) (.fn 5 (.cons (.var 0) (.cons (.bi .len (.cons (.ix (.var 1) (.con (.int 1))) .nil)) .nil)))) .nil))))
  .nil)))) }
def b20_0 : MSs :=
  (.cons (.ite (.cmp .eq (.ix (.var 4) (.con (.int 0))) (.var 0)) (.cons (.set 3 (.bin .add (.var 3) (.bi .list (.cons (.ix (.var 4) (.con (.int 1))) .nil))) true)
  .nil) (.cons (.app 3 (.var 4))
  .nil))
  .nil)
/-- _law_joined -/
abbrev s20 : Stmt := topS 18
def n20 : List Str := ["word", "left", "right", "parts", "side"]
def p20 : List Str := ["word", "left", "right"]
def d20 : Def := { np := 3, nl := 5, body :=
  (.cons (.set 3 (.lst .nil) true)
  (.cons (.for_ (.nm 4) (.lst (.cons (.var 1) (.cons (.var 2) .nil))) b20_0)
  (.cons (.ret (.tup (.cons (.var 0) (.cons (.bi .tuple (.cons (.var 3) .nil)) .nil))))
  .nil))) }
def b21_0 : MSs :=
  (.cons (.ite (.cmp .gt (.bi .len (.cons (.var 4) .nil)) (.con (.int 1))) (.cons (.set 8 (.fn 5 (.cons (.var 0) (.cons (.bin .sub (.bi .len (.cons (.var 4) .nil)) (.con (.int 1))) .nil))) false)
  (.cons (.set 6 (.fn 20 (.cons (.ix (.lst (.cons (.con (.str "and")) (.cons (.con (.str "or")) .nil))) (.fn 5 (.cons (.var 0) (.cons (.con (.int 2)) .nil)))) (.cons (.ix (.var 4) (.var 8)) (.cons (.ix (.var 4) (.bin .add (.var 8) (.con (.int 1)))) .nil)))) false)
  (.cons (.ite (.cmp .eq (.fn 5 (.cons (.var 0) (.cons (.con (.int 4)) .nil))) (.con (.int 0))) (.cons (.set 6 (.tup (.cons (.con (.str "not")) (.cons (.var 6) .nil))) false)
  .nil) .nil)
  (.cons (.set 4 (.bin .add (.bin .add (.sl (.var 4) (.con .non) (.var 8)) (.lst (.cons (.var 6) .nil))) (.sl (.var 4) (.bin .add (.var 8) (.con (.int 2))) (.con .non))) true)
  .nil)))) .nil)
  .nil)
def b21_1 : MSs :=
  (.cons (.set 6 (.tup (.cons (.con (.str "not")) (.cons (.var 6) .nil))) false)
  .nil)
def b21_2 : MSs :=
  (.cons (.set 6 (.fn 19 (.cons (.var 0) (.cons (.var 1) (.cons (.var 2) .nil)))) false)
  (.cons (.for_ (.nm 7) (.rng (.con (.int 0)) (.ix (.lst (.cons (.con (.int 0)) (.cons (.con (.int 0)) (.cons (.con (.int 0)) (.cons (.con (.int 1)) (.cons (.con (.int 2)) .nil)))))) (.fn 5 (.cons (.var 0) (.cons (.con (.int 5)) .nil))))) b21_1)
  (.cons (.app 4 (.var 6))
  .nil)))
/-- _law_condition -/
abbrev s21 : Stmt := topS 19
def n21 : List Str := ["tape", "world", "flags", "limit", "parts", "k", "part", "j", "place"]
def p21 : List Str := ["tape", "world", "flags"]
def d21 : Def := { np := 3, nl := 9, body :=
  (.cons (.set 3 (.con (.int 4)) false)
  (.cons (.ite (.not (.var 2)) (.cons (.set 3 (.bi .min (.cons (.con (.int 4)) (.cons (.ix (.ix (.var 1) (.con (.int 0))) (.con (.int 1))) .nil))) false)
  .nil) .nil)
  (.cons (.ite (.cmp .lt (.ix (.ix (.var 1) (.con (.int 0))) (.con (.int 5))) (.con (.int 18))) (.cons (.setIx (.ix (.var 1) (.con (.int 0))) (.con (.int 5)) (.bin .sub (.ix (.ix (.var 1) (.con (.int 0))) (.con (.int 5))) (.con (.int 1))))
  (.cons (.ret (.fn 19 (.cons (.var 0) (.cons (.var 1) (.cons (.var 2) .nil)))))
  .nil)) .nil)
  (.cons (.set 4 (.lst .nil) true)
  (.cons (.for_ (.nm 5) (.rng (.con (.int 0)) (.bin .add (.con (.int 1)) (.fn 5 (.cons (.var 0) (.cons (.ix (.lst (.cons (.con (.int 1)) (.cons (.con (.int 1)) (.cons (.var 3) .nil)))) (.fn 5 (.cons (.var 0) (.cons (.con (.int 3)) .nil)))) .nil))))) b21_2)
  (.cons (.for_ (.nm 5) (.rng (.con (.int 0)) (.con (.int 3))) b21_0)
  (.cons (.setIx (.ix (.var 1) (.con (.int 0))) (.con (.int 5)) (.bin .sub (.ix (.ix (.var 1) (.con (.int 0))) (.con (.int 5))) (.fn 27 (.cons (.ix (.var 4) (.con (.int 0))) .nil))))
  (.cons (.ret (.ix (.var 4) (.con (.int 0))))
  .nil)))))))) }
/-- _law_stop -/
abbrev s22 : Stmt := topS 20
def n22 : List Str := ["tape", "world", "loops", "kind", "label"]
def p22 : List Str := ["tape", "world", "loops"]
def d22 : Def := { np := 3, nl := 5, body :=
  (.cons (.set 3 (.fn 5 (.cons (.var 0) (.cons (.con (.int 5)) .nil))) true)
  (.cons (.ite (.cmp .eq (.var 3) (.con (.int 0))) (.cons (.ret (.tup (.cons (.con (.str "return")) (.cons (.ix (.lst (.cons (.con .non) (.cons (.con (.int 0)) (.cons (.con (.int 9)) (.cons (.con (.int 10)) (.cons (.con (.int 99)) (.cons (.fn 5 (.cons (.var 0) (.cons (.con (.int 100)) .nil))) .nil))))))) (.fn 5 (.cons (.var 0) (.cons (.con (.int 6)) .nil)))) .nil))))
  .nil) .nil)
  (.cons (.set 4 (.ix (.ix (.var 1) (.con (.int 2))) (.fn 5 (.cons (.var 0) (.cons (.bi .len (.cons (.ix (.var 1) (.con (.int 2))) .nil)) .nil)))) false)
  (.cons (.ite (.and (.cmp .gt (.var 2) (.con (.int 0))) (.cmp .eq (.fn 5 (.cons (.var 0) (.cons (.con (.int 2)) .nil))) (.con (.int 0)))) (.cons (.set 4 (.con .non) false)
  .nil) .nil)
  (.cons (.ret (.tup (.cons (.ix (.lst (.cons (.con (.str "break")) (.cons (.con (.str "continue")) .nil))) (.bin .fdiv (.var 3) (.con (.int 3)))) (.cons (.var 4) .nil))))
  .nil))))) }
/-- _law_nest -/
abbrev s23 : Stmt := topS 21
def n23 : List Str := ["tape", "world", "flags", "loops", "last", "depth", "free", "choice", "body", "label", "condition", "second"]
def p23 : List Str := ["tape", "world", "flags", "loops", "last", "depth"]
def d23 : Def := { np := 6, nl := 12, body :=
  (.cons (.set 6 (.ix (.var 1) (.con (.int 0))) true)
  (.cons (.set 7 (.fn 5 (.cons (.var 0) (.cons (.con (.int 8)) .nil))) true)
  (.cons (.ite (.and (.cmp .lt (.var 7) (.con (.int 2))) (.and (.cmp .gt (.ix (.var 6) (.con (.int 4))) (.con (.int 0))) (.not (.var 4)))) (.cons (.setIx (.var 6) (.con (.int 4)) (.bin .sub (.ix (.var 6) (.con (.int 4))) (.con (.int 1))))
  (.cons (.set 8 (.fn 25 (.cons (.var 0) (.cons (.var 1) (.cons (.var 2) (.cons (.var 3) (.cons (.var 4) (.cons (.bin .sub (.var 5) (.con (.int 1))) .nil))))))) false)
  (.cons (.ret (.tup (.cons (.con (.str "try")) (.cons (.var 8) (.cons (.fn 25 (.cons (.var 0) (.cons (.var 1) (.cons (.var 2) (.cons (.var 3) (.cons (.con (.bl true)) (.cons (.bin .sub (.var 5) (.con (.int 1))) .nil))))))) .nil)))))
  .nil))) .nil)
  (.cons (.ite (.cmp .eq (.var 7) (.con (.int 2))) (.cons (.ret (.tup (.cons (.con (.str "block")) (.cons (.fn 25 (.cons (.var 0) (.cons (.var 1) (.cons (.var 2) (.cons (.var 3) (.cons (.var 4) (.cons (.bin .sub (.var 5) (.con (.int 1))) .nil))))))) .nil))))
  .nil) .nil)
  (.cons (.set 9 (.ix (.lst (.cons (.con .non) (.cons (.con .non) (.cons (.ix (.ix (.var 1) (.con (.int 2))) (.fn 5 (.cons (.var 0) (.cons (.bi .len (.cons (.ix (.var 1) (.con (.int 2))) .nil)) .nil)))) .nil)))) (.fn 5 (.cons (.var 0) (.cons (.con (.int 3)) .nil)))) false)
  (.cons (.ite (.or (.cmp .eq (.var 7) (.con (.int 3))) (.and (.cmp .eq (.ix (.var 6) (.con (.int 1))) (.con (.int 0))) (.not (.var 2)))) (.cons (.ret (.tup (.cons (.con (.str "for")) (.cons (.var 9) (.cons (.fn 25 (.cons (.var 0) (.cons (.var 1) (.cons (.var 2) (.cons (.bin .add (.var 3) (.con (.int 1))) (.cons (.var 4) (.cons (.bin .sub (.var 5) (.con (.int 1))) .nil))))))) .nil)))))
  .nil) .nil)
  (.cons (.set 10 (.fn 21 (.cons (.var 0) (.cons (.var 1) (.cons (.var 2) .nil)))) false)
  (.cons (.ite (.cmp .lt (.var 7) (.con (.int 6))) (.cons (.set 8 (.fn 25 (.cons (.var 0) (.cons (.var 1) (.cons (.var 2) (.cons (.var 3) (.cons (.var 4) (.cons (.bin .sub (.var 5) (.con (.int 1))) .nil))))))) false)
  (.cons (.set 11 (.tup .nil) false)
  (.cons (.ite (.cmp .eq (.fn 5 (.cons (.var 0) (.cons (.con (.int 2)) .nil))) (.con (.int 0))) (.cons (.set 11 (.fn 25 (.cons (.var 0) (.cons (.var 1) (.cons (.var 2) (.cons (.var 3) (.cons (.var 4) (.cons (.bin .sub (.var 5) (.con (.int 1))) .nil))))))) false)
  .nil) .nil)
  (.cons (.ret (.tup (.cons (.con (.str "if")) (.cons (.var 10) (.cons (.var 8) (.cons (.var 11) .nil))))))
  .nil)))) .nil)
  (.cons (.ret (.tup (.cons (.con (.str "while")) (.cons (.var 9) (.cons (.var 10) (.cons (.fn 25 (.cons (.var 0) (.cons (.var 1) (.cons (.var 2) (.cons (.bin .add (.var 3) (.con (.int 1))) (.cons (.var 4) (.cons (.bin .sub (.var 5) (.con (.int 1))) .nil))))))) .nil))))))
  .nil))))))))) }
def c24_0 : ME :=
  (.cmp .nin (.var 10) (.var 3))
def e24_1 : ME :=
  (.var 10)
/-- _law_statement -/
abbrev s24 : Stmt := topS 22
def n24 : List Str := ["tape", "world", "flags", "own", "loops", "last", "depth", "free", "choice", "names", "name"]
def p24 : List Str := ["tape", "world", "flags", "own", "loops", "last", "depth"]
def d24 : Def := { np := 7, nl := 11, body :=
  (.cons (.set 7 (.ix (.var 1) (.con (.int 0))) true)
  (.cons (.set 8 (.fn 5 (.cons (.var 0) (.cons (.con (.int 14)) .nil))) true)
  (.cons (.set 9 (.lc e24_1 (.nm 10) (.ix (.var 1) (.con (.int 3))) true c24_0) false)
  (.cons (.ite (.and (.cmp .lt (.var 8) (.con (.int 3))) (.and (.cmp .gt (.ix (.var 7) (.con (.int 3))) (.con (.int 0))) (.var 9))) (.cons (.set 10 (.ix (.var 9) (.fn 5 (.cons (.var 0) (.cons (.bi .len (.cons (.var 9) .nil)) .nil)))) false)
  (.cons (.setIx (.var 7) (.con (.int 3)) (.bin .sub (.ix (.var 7) (.con (.int 3))) (.con (.int 1))))
  (.cons (.ex (.mt .append (.var 3) (.cons (.var 10) .nil)))
  (.cons (.ex (.mt .append (.var 2) (.cons (.var 10) .nil)))
  (.cons (.ret (.tup (.cons (.con (.str "let")) (.cons (.var 10) (.cons (.cmp .eq (.fn 5 (.cons (.var 0) (.cons (.con (.int 2)) .nil))) (.con (.int 0))) .nil)))))
  .nil))))) .nil)
  (.cons (.ite (.and (.cmp .lt (.var 8) (.con (.int 4))) (.var 2)) (.cons (.ret (.tup (.cons (.con (.str "set")) (.cons (.ix (.var 2) (.fn 5 (.cons (.var 0) (.cons (.bi .len (.cons (.var 2) .nil)) .nil)))) (.cons (.cmp .eq (.fn 5 (.cons (.var 0) (.cons (.con (.int 2)) .nil))) (.con (.int 0))) .nil)))))
  .nil) .nil)
  (.cons (.ite (.and (.cmp .lt (.var 8) (.con (.int 6))) (.cmp .gt (.ix (.var 7) (.con (.int 2))) (.con (.int 0)))) (.cons (.setIx (.var 7) (.con (.int 2)) (.bin .sub (.ix (.var 7) (.con (.int 2))) (.con (.int 1))))
  (.cons (.ret (.fn 22 (.cons (.var 0) (.cons (.var 1) (.cons (.var 4) .nil)))))
  .nil)) .nil)
  (.cons (.ite (.and (.cmp .gt (.var 6) (.con (.int 0))) (.cmp .lt (.var 8) (.con (.int 12)))) (.cons (.ret (.fn 23 (.cons (.var 0) (.cons (.var 1) (.cons (.var 2) (.cons (.var 4) (.cons (.var 5) (.cons (.var 6) .nil))))))))
  .nil) .nil)
  (.cons (.ite (.cmp .gt (.ix (.var 7) (.con (.int 1))) (.con (.int 0))) (.cons (.setIx (.var 7) (.con (.int 1)) (.bin .sub (.ix (.var 7) (.con (.int 1))) (.con (.int 1))))
  (.cons (.ret (.tup (.cons (.con (.str "call")) (.cons (.ix (.ix (.var 1) (.con (.int 1))) (.fn 5 (.cons (.var 0) (.cons (.bi .len (.cons (.ix (.var 1) (.con (.int 1))) .nil)) .nil)))) .nil))))
  .nil)) .nil)
  (.cons (.ret (.tup (.cons (.con (.str "block")) (.cons (.tup .nil) .nil))))
  .nil))))))))) }
def b25_0 : MSs :=
  (.cons (.ite (.cmp .gt (.ix (.ix (.var 1) (.con (.int 0))) (.con (.int 0))) (.con (.int 0))) (.cons (.setIx (.ix (.var 1) (.con (.int 0))) (.con (.int 0)) (.bin .sub (.ix (.ix (.var 1) (.con (.int 0))) (.con (.int 0))) (.con (.int 1))))
  (.cons (.app 6 (.fn 24 (.cons (.var 0) (.cons (.var 1) (.cons (.var 7) (.cons (.var 8) (.cons (.var 3) (.cons (.var 4) (.cons (.var 5) .nil)))))))))
  .nil)) .nil)
  .nil)
/-- _law_body -/
abbrev s25 : Stmt := topS 23
def n25 : List Str := ["tape", "world", "flags", "loops", "last", "depth", "body", "seen", "own", "k"]
def p25 : List Str := ["tape", "world", "flags", "loops", "last", "depth"]
def d25 : Def := { np := 6, nl := 10, body :=
  (.cons (.set 6 (.lst .nil) true)
  (.cons (.set 7 (.bi .list (.cons (.var 2) .nil)) false)
  (.cons (.set 8 (.lst .nil) false)
  (.cons (.for_ (.nm 9) (.rng (.con (.int 0)) (.ix (.lst (.cons (.con (.int 0)) (.cons (.con (.int 1)) (.cons (.con (.int 1)) (.cons (.con (.int 2)) (.cons (.con (.int 2)) (.cons (.con (.int 3)) .nil))))))) (.fn 5 (.cons (.var 0) (.cons (.con (.int 6)) .nil))))) b25_0)
  (.cons (.ret (.bi .tuple (.cons (.var 6) .nil)))
  .nil))))) }
def b26_0 : MSs :=
  (.cons (.ite (.cmp .gt (.ix (.ix (.var 1) (.con (.int 0))) (.con (.int 0))) (.con (.int 0))) (.cons (.setIx (.ix (.var 1) (.con (.int 0))) (.con (.int 0)) (.bin .sub (.ix (.ix (.var 1) (.con (.int 0))) (.con (.int 0))) (.con (.int 1))))
  (.cons (.app 2 (.fn 24 (.cons (.var 0) (.cons (.var 1) (.cons (.var 3) (.cons (.var 4) (.cons (.con (.int 0)) (.cons (.con (.bl false)) (.cons (.con (.int 5)) .nil)))))))))
  .nil)) .nil)
  .nil)
/-- _law_program -/
abbrev s26 : Stmt := topS 24
def n26 : List Str := ["tape", "world", "body", "seen", "own", "k"]
def p26 : List Str := ["tape", "world"]
def d26 : Def := { np := 2, nl := 6, body :=
  (.cons (.set 2 (.lst .nil) true)
  (.cons (.set 3 (.lst .nil) false)
  (.cons (.set 4 (.lst .nil) false)
  (.cons (.for_ (.nm 5) (.rng (.con (.int 0)) (.bin .add (.con (.int 1)) (.fn 5 (.cons (.var 0) (.cons (.con (.int 6)) .nil))))) b26_0)
  (.cons (.ret (.bi .tuple (.cons (.var 2) .nil)))
  .nil))))) }
def e27_0 : ME :=
  (.fn 27 (.cons (.var 1) .nil))
/-- _law_parts -/
abbrev s27 : Stmt := topS 25
def n27 : List Str := ["condition", "part"]
def p27 : List Str := ["condition"]
def d27 : Def := { np := 1, nl := 2, body :=
  (.cons (.ite (.cmp .eq (.ix (.var 0) (.con (.int 0))) (.con (.str "not"))) (.cons (.ret (.bin .add (.con (.int 1)) (.fn 27 (.cons (.ix (.var 0) (.con (.int 1))) .nil))))
  .nil) .nil)
  (.cons (.ite (.or (.cmp .eq (.ix (.var 0) (.con (.int 0))) (.con (.str "and"))) (.cmp .eq (.ix (.var 0) (.con (.int 0))) (.con (.str "or")))) (.cons (.ret (.bin .add (.con (.int 1)) (.bi .sum (.cons (.lc e27_0 (.nm 1) (.ix (.var 0) (.con (.int 1))) false (.con (.bl true))) .nil))))
  .nil) .nil)
  (.cons (.ret (.con (.int 1)))
  .nil))) }
/-- _law_wild -/
abbrev s28 : Stmt := topS 26
def n28 : List Str := ["tape", "names", "room", "depth", "choice", "name", "label", "value", "number", "simple", "body", "condition", "second"]
def p28 : List Str := ["tape", "names", "room", "depth"]
def d28 : Def := { np := 4, nl := 13, body :=
  (.cons (.set 4 (.fn 5 (.cons (.var 0) (.cons (.con (.int 16)) .nil))) true)
  (.cons (.set 5 (.ix (.var 1) (.fn 5 (.cons (.var 0) (.cons (.bi .len (.cons (.var 1) .nil)) .nil)))) false)
  (.cons (.set 6 (.ix (.lst (.cons (.con .non) (.cons (.var 5) .nil))) (.fn 5 (.cons (.var 0) (.cons (.con (.int 2)) .nil)))) false)
  (.cons (.set 7 (.cmp .eq (.fn 5 (.cons (.var 0) (.cons (.con (.int 2)) .nil))) (.con (.int 0))) false)
  (.cons (.ite (.or (.cmp .eq (.var 3) (.con (.int 0))) (.cmp .lt (.var 4) (.con (.int 6)))) (.cons (.set 8 (.ix (.lst (.cons (.con .non) (.cons (.con (.int 0)) (.cons (.con (.int 9)) (.cons (.con (.int 10)) (.cons (.con (.int 99)) (.cons (.fn 5 (.cons (.var 0) (.cons (.con (.int 100)) .nil))) .nil))))))) (.fn 5 (.cons (.var 0) (.cons (.con (.int 6)) .nil)))) false)
  (.cons (.set 9 (.lst (.cons (.tup (.cons (.con (.str "call")) (.cons (.var 5) .nil))) (.cons (.tup (.cons (.con (.str "let")) (.cons (.var 5) (.cons (.var 7) .nil)))) (.cons (.tup (.cons (.con (.str "set")) (.cons (.var 5) (.cons (.var 7) .nil)))) (.cons (.tup (.cons (.con (.str "break")) (.cons (.var 6) .nil))) (.cons (.tup (.cons (.con (.str "continue")) (.cons (.var 6) .nil))) .nil)))))) true)
  (.cons (.ret (.ix (.bin .add (.var 9) (.lst (.cons (.tup (.cons (.con (.str "return")) (.cons (.var 8) .nil))) .nil))) (.bin .mod (.bi .int (.cons (.var 4) .nil)) (.con (.int 6)))))
  .nil))) .nil)
  (.cons (.ite (.cmp .lt (.var 4) (.con (.int 8))) (.cons (.ret (.tup (.cons (.con (.str "block")) (.cons (.fn 29 (.cons (.var 0) (.cons (.var 1) (.cons (.var 2) (.cons (.bin .sub (.var 3) (.con (.int 1))) .nil))))) .nil))))
  .nil) .nil)
  (.cons (.ite (.cmp .eq (.var 4) (.con (.int 8))) (.cons (.ret (.tup (.cons (.con (.str "for")) (.cons (.var 6) (.cons (.fn 29 (.cons (.var 0) (.cons (.var 1) (.cons (.var 2) (.cons (.bin .sub (.var 3) (.con (.int 1))) .nil))))) .nil)))))
  .nil) .nil)
  (.cons (.ite (.cmp .eq (.var 4) (.con (.int 9))) (.cons (.set 10 (.fn 29 (.cons (.var 0) (.cons (.var 1) (.cons (.var 2) (.cons (.bin .sub (.var 3) (.con (.int 1))) .nil))))) false)
  (.cons (.ret (.tup (.cons (.con (.str "try")) (.cons (.var 10) (.cons (.fn 29 (.cons (.var 0) (.cons (.var 1) (.cons (.var 2) (.cons (.bin .sub (.var 3) (.con (.int 1))) .nil))))) .nil)))))
  .nil)) .nil)
  (.cons (.set 11 (.tup (.cons (.con (.str "flag")) (.cons (.var 5) .nil))) false)
  (.cons (.ite (.cmp .gt (.ix (.var 2) (.con (.int 0))) (.con (.int 20))) (.cons (.set 11 (.fn 21 (.cons (.var 0) (.cons (.lst (.cons (.lst (.cons (.con (.int 0)) (.cons (.con (.int 99)) (.cons (.con (.int 0)) (.cons (.con (.int 0)) (.cons (.con (.int 0)) (.cons (.con (.int 99)) .nil))))))) (.cons (.var 1) (.cons (.var 1) (.cons (.var 1) .nil))))) (.cons (.var 1) .nil)))) false)
  .nil) .nil)
  (.cons (.setIx (.var 2) (.con (.int 0)) (.bin .sub (.ix (.var 2) (.con (.int 0))) (.fn 27 (.cons (.var 11) .nil))))
  (.cons (.set 10 (.fn 29 (.cons (.var 0) (.cons (.var 1) (.cons (.var 2) (.cons (.bin .sub (.var 3) (.con (.int 1))) .nil))))) false)
  (.cons (.ite (.cmp .lt (.var 4) (.con (.int 12))) (.cons (.ret (.tup (.cons (.con (.str "while")) (.cons (.var 6) (.cons (.var 11) (.cons (.var 10) .nil))))))
  .nil) .nil)
  (.cons (.set 12 (.tup .nil) false)
  (.cons (.ite (.cmp .lt (.var 4) (.con (.int 15))) (.cons (.set 12 (.fn 29 (.cons (.var 0) (.cons (.var 1) (.cons (.var 2) (.cons (.bin .sub (.var 3) (.con (.int 1))) .nil))))) false)
  .nil) .nil)
  (.cons (.ret (.tup (.cons (.con (.str "if")) (.cons (.var 11) (.cons (.var 10) (.cons (.var 12) .nil))))))
  .nil)))))))))))))))) }
def b29_0 : MSs :=
  (.cons (.ite (.cmp .gt (.ix (.var 2) (.con (.int 0))) (.con (.int 0))) (.cons (.setIx (.var 2) (.con (.int 0)) (.bin .sub (.ix (.var 2) (.con (.int 0))) (.con (.int 1))))
  (.cons (.app 4 (.fn 28 (.cons (.var 0) (.cons (.var 1) (.cons (.var 2) (.cons (.var 3) .nil))))))
  .nil)) .nil)
  .nil)
/-- _law_tree -/
abbrev s29 : Stmt := topS 27
def n29 : List Str := ["tape", "names", "room", "depth", "body", "k"]
def p29 : List Str := ["tape", "names", "room", "depth"]
def d29 : Def := { np := 4, nl := 6, body :=
  (.cons (.set 4 (.lst .nil) true)
  (.cons (.for_ (.nm 5) (.rng (.con (.int 0)) (.ix (.lst (.cons (.con (.int 0)) (.cons (.con (.int 1)) (.cons (.con (.int 1)) (.cons (.con (.int 2)) (.cons (.con (.int 2)) (.cons (.con (.int 3)) .nil))))))) (.fn 5 (.cons (.var 0) (.cons (.con (.int 6)) .nil))))) b29_0)
  (.cons (.ret (.bi .tuple (.cons (.var 4) .nil)))
  .nil))) }
def b30_0 : MSs :=
  (.cons (.set 5 (.ix (.var 1) (.fn 5 (.cons (.var 0) (.cons (.bi .len (.cons (.var 1) .nil)) .nil)))) false)
  (.cons (.set 6 (.ix (.lst (.cons (.tup (.cons (.con (.str "call")) (.cons (.var 5) .nil))) (.cons (.tup (.cons (.con (.str "flag")) (.cons (.var 5) .nil))) .nil))) (.fn 5 (.cons (.var 0) (.cons (.con (.int 2)) .nil)))) false)
  (.cons (.set 7 (.lst (.cons (.tup (.cons (.con (.str "block")) (.cons (.var 2) .nil))) (.cons (.tup (.cons (.con (.str "for")) (.cons (.con .non) (.cons (.var 2) .nil)))) (.cons (.tup (.cons (.con (.str "for")) (.cons (.var 5) (.cons (.var 2) .nil)))) (.cons (.tup (.cons (.con (.str "while")) (.cons (.var 5) (.cons (.var 6) (.cons (.var 2) .nil))))) .nil))))) true)
  (.cons (.set 7 (.bin .add (.var 7) (.lst (.cons (.tup (.cons (.con (.str "if")) (.cons (.var 6) (.cons (.var 2) (.cons (.tup .nil) .nil))))) (.cons (.tup (.cons (.con (.str "if")) (.cons (.var 6) (.cons (.tup .nil) (.cons (.var 2) .nil))))) (.cons (.tup (.cons (.con (.str "try")) (.cons (.var 2) (.cons (.tup .nil) .nil)))) (.cons (.tup (.cons (.con (.str "try")) (.cons (.tup .nil) (.cons (.var 2) .nil)))) .nil)))))) true)
  (.cons (.set 2 (.tup (.cons (.ix (.var 7) (.fn 5 (.cons (.var 0) (.cons (.con (.int 8)) .nil)))) .nil)) false)
  .nil)))))
/-- _law_wrapped -/
abbrev s30 : Stmt := topS 28
def n30 : List Str := ["tape", "names", "body", "many", "k", "name", "leaf", "shells"]
def p30 : List Str := ["tape", "names", "body", "many"]
def d30 : Def := { np := 4, nl := 8, body :=
  (.cons (.for_ (.nm 4) (.rng (.con (.int 0)) (.var 3)) b30_0)
  (.cons (.ret (.var 2))
  .nil)) }
def b31_0 : MSs :=
  (.cons (.ite (.cmp .gt (.ix (.var 3) (.con (.int 0))) (.con (.int 0))) (.cons (.setIx (.var 3) (.con (.int 0)) (.bin .sub (.ix (.var 3) (.con (.int 0))) (.con (.int 1))))
  (.cons (.set 4 (.bin .add (.var 4) (.tup (.cons (.fn 28 (.cons (.var 0) (.cons (.var 1) (.cons (.var 3) (.cons (.con (.int 4)) .nil))))) .nil))) false)
  .nil)) .nil)
  .nil)
/-- _law_any -/
abbrev s31 : Stmt := topS 29
def n31 : List Str := ["tape", "names", "share", "room", "program", "k"]
def p31 : List Str := ["tape", "names"]
def d31 : Def := { np := 2, nl := 6, body :=
  (.cons (.set 2 (.fn 5 (.cons (.var 0) (.cons (.con (.int 8)) .nil))) false)
  (.cons (.set 3 (.lst (.cons (.ix (.lst (.cons (.con (.int 12)) (.cons (.con (.int 30)) (.cons (.con (.int 60)) (.cons (.con (.int 60)) (.cons (.con (.int 60)) (.cons (.con (.int 100)) (.cons (.con (.int 100)) (.cons (.con (.int 150)) .nil))))))))) (.var 2)) .nil)) false)
  (.cons (.set 4 (.fn 29 (.cons (.var 0) (.cons (.var 1) (.cons (.var 3) (.cons (.con (.int 5)) .nil))))) false)
  (.cons (.ite (.cmp .lt (.var 2) (.con (.int 2))) (.cons (.set 4 (.fn 30 (.cons (.var 0) (.cons (.var 1) (.cons (.var 4) (.cons (.fn 5 (.cons (.var 0) (.cons (.con (.int 36)) .nil))) .nil))))) false)
  .nil) .nil)
  (.cons (.for_ (.nm 5) (.rng (.con (.int 0)) (.ix (.lst (.cons (.con (.int 0)) (.cons (.con (.int 0)) (.cons (.con (.int 1)) (.cons (.con (.int 3)) .nil))))) (.fn 5 (.cons (.var 0) (.cons (.con (.int 4)) .nil))))) b31_0)
  (.cons (.ret (.var 4))
  .nil)))))) }
/-- _law_bodies -/
abbrev s32 : Stmt := topS 30
def n32 : List Str := ["statement"]
def p32 : List Str := ["statement"]
def d32 : Def := { np := 1, nl := 1, body :=
  (.cons (.ite (.cmp .eq (.ix (.var 0) (.con (.int 0))) (.con (.str "if"))) (.cons (.ret (.lst (.cons (.ix (.var 0) (.con (.int 2))) (.cons (.ix (.var 0) (.con (.int 3))) .nil))))
  .nil) .nil)
  (.cons (.ite (.cmp .eq (.ix (.var 0) (.con (.int 0))) (.con (.str "try"))) (.cons (.ret (.lst (.cons (.ix (.var 0) (.con (.int 1))) (.cons (.ix (.var 0) (.con (.int 2))) .nil))))
  .nil) .nil)
  (.cons (.ite (.or (.cmp .eq (.ix (.var 0) (.con (.int 0))) (.con (.str "while"))) (.or (.cmp .eq (.ix (.var 0) (.con (.int 0))) (.con (.str "for"))) (.cmp .eq (.ix (.var 0) (.con (.int 0))) (.con (.str "block"))))) (.cons (.ret (.lst (.cons (.ix (.var 0) (.bin .sub (.bi .len (.cons (.var 0) .nil)) (.con (.int 1)))) .nil)))
  .nil) .nil)
  (.cons (.ret (.lst .nil))
  .nil)))) }
/-- _law_conditions -/
abbrev s33 : Stmt := topS 31
def n33 : List Str := ["statement"]
def p33 : List Str := ["statement"]
def d33 : Def := { np := 1, nl := 1, body :=
  (.cons (.ite (.cmp .eq (.ix (.var 0) (.con (.int 0))) (.con (.str "if"))) (.cons (.ret (.lst (.cons (.ix (.var 0) (.con (.int 1))) .nil)))
  .nil) .nil)
  (.cons (.ite (.cmp .eq (.ix (.var 0) (.con (.int 0))) (.con (.str "while"))) (.cons (.ret (.lst (.cons (.ix (.var 0) (.con (.int 2))) .nil)))
  .nil) .nil)
  (.cons (.ret (.lst .nil))
  .nil))) }
def e35_0 : ME :=
  (.fn 35 (.cons (.var 4) (.cons (.var 1) .nil)))
def c35_1 : ME :=
  (.cmp .eq (.ix (.var 3) (.con (.int 0))) (.ix (.var 0) (.con (.int 1))))
def e35_2 : ME :=
  (.ix (.var 3) (.con (.int 1)))
/-- _law_numbered_condition -/
abbrev s35 : Stmt := topS 32
def n35 : List Str := ["condition", "flags", "found", "pair", "part"]
def p35 : List Str := ["condition", "flags"]
def d35 : Def := { np := 2, nl := 5, body :=
  (.cons (.ite (.cmp .eq (.ix (.var 0) (.con (.int 0))) (.con (.str "flag"))) (.cons (.set 2 (.lc e35_2 (.nm 3) (.var 1) true c35_1) true)
  (.cons (.ret (.tup (.cons (.con (.str "flag")) (.cons (.ix (.var 2) (.bin .sub (.bi .len (.cons (.var 2) .nil)) (.con (.int 1)))) .nil))))
  .nil)) .nil)
  (.cons (.ite (.cmp .eq (.ix (.var 0) (.con (.int 0))) (.con (.str "not"))) (.cons (.ret (.tup (.cons (.con (.str "not")) (.cons (.fn 35 (.cons (.ix (.var 0) (.con (.int 1))) (.cons (.var 1) .nil))) .nil))))
  .nil) .nil)
  (.cons (.ite (.or (.cmp .eq (.ix (.var 0) (.con (.int 0))) (.con (.str "and"))) (.cmp .eq (.ix (.var 0) (.con (.int 0))) (.con (.str "or")))) (.cons (.ret (.tup (.cons (.ix (.var 0) (.con (.int 0))) (.cons (.bi .tuple (.cons (.lc e35_0 (.nm 4) (.ix (.var 0) (.con (.int 1))) false (.con (.bl true))) .nil)) .nil))))
  .nil) .nil)
  (.cons (.ret (.var 0))
  .nil)))) }
def b36_0 : MSs :=
  (.cons (.ite (.or (.cmp .isN (.ix (.var 0) (.con (.int 1))) (.con .non)) (.cmp .eq (.ix (.var 0) (.con (.int 1))) (.ix (.var 1) (.bin .sub (.bi .len (.cons (.var 1) .nil)) (.var 2))))) (.cons (.ret (.tup (.cons (.ix (.var 0) (.con (.int 0))) (.cons (.var 2) .nil))))
  .nil) .nil)
  .nil)
/-- _law_resolved_jump -/
abbrev s36 : Stmt := topS 33
def n36 : List Str := ["statement", "loops", "n"]
def p36 : List Str := ["statement", "loops"]
def d36 : Def := { np := 2, nl := 3, body :=
  (.cons (.ite (.and (.cmp .eq (.ix (.var 0) (.con (.int 0))) (.con (.str "return"))) (.cmp .isN (.ix (.var 0) (.con (.int 1))) (.con .non))) (.cons (.ret (.tup (.cons (.con (.str "stop")) (.cons (.con (.str "return")) .nil))))
  .nil) .nil)
  (.cons (.ite (.cmp .eq (.ix (.var 0) (.con (.int 0))) (.con (.str "return"))) (.cons (.ret (.tup (.cons (.con (.str "stop")) (.cons (.bin .add (.con (.str "return ")) (.bi .str (.cons (.ix (.var 0) (.con (.int 1))) .nil))) .nil))))
  .nil) .nil)
  (.cons (.for_ (.nm 2) (.rng (.con (.int 1)) (.bin .add (.bi .len (.cons (.var 1) .nil)) (.con (.int 1)))) b36_0)
  (.cons (.ret (.tup (.cons (.con (.str "stop")) (.cons (.bin .add (.bin .add (.ix (.var 0) (.con (.int 0))) (.con (.str " "))) (.ix (.var 0) (.con (.int 1)))) .nil))))
  .nil)))) }
def c37_0 : ME :=
  (.cmp .eq (.ix (.var 12) (.con (.int 0))) (.ix (.var 6) (.con (.int 1))))
def e37_1 : ME :=
  (.ix (.var 12) (.con (.int 1)))
def b37_2 : MSs :=
  (.cons (.set 7 (.ix (.var 6) (.con (.int 0))) true)
  (.cons (.ite (.cmp .eq (.var 7) (.con (.str "let"))) (.cons (.ex (.mt .append (.var 4) (.cons (.tup (.cons (.ix (.var 6) (.con (.int 1))) (.cons (.ix (.var 3) (.con (.int 0))) .nil))) .nil)))
  (.cons (.app 5 (.tup (.cons (.con (.str "set")) (.cons (.ix (.var 3) (.con (.int 0))) (.cons (.ix (.var 6) (.con (.int 2))) .nil)))))
  (.cons (.setIx (.var 3) (.con (.int 0)) (.bin .add (.ix (.var 3) (.con (.int 0))) (.con (.int 1))))
  .nil))) (.cons (.ite (.cmp .eq (.var 7) (.con (.str "set"))) (.cons (.set 8 (.lc e37_1 (.nm 12) (.var 4) true c37_0) true)
  (.cons (.app 5 (.tup (.cons (.con (.str "set")) (.cons (.ix (.var 8) (.bin .sub (.bi .len (.cons (.var 8) .nil)) (.con (.int 1)))) (.cons (.ix (.var 6) (.con (.int 2))) .nil)))))
  .nil)) (.cons (.ite (.cmp .eq (.var 7) (.con (.str "block"))) (.cons (.set 5 (.bin .add (.var 5) (.bi .list (.cons (.fn 37 (.cons (.ix (.var 6) (.con (.int 1))) (.cons (.var 4) (.cons (.var 2) (.cons (.var 3) .nil))))) .nil))) true)
  .nil) (.cons (.ite (.cmp .eq (.var 7) (.con (.str "try"))) (.cons (.set 9 (.fn 37 (.cons (.ix (.var 6) (.con (.int 1))) (.cons (.var 4) (.cons (.var 2) (.cons (.var 3) .nil))))) false)
  (.cons (.app 5 (.tup (.cons (.con (.str "try")) (.cons (.var 9) (.cons (.fn 37 (.cons (.ix (.var 6) (.con (.int 2))) (.cons (.var 4) (.cons (.var 2) (.cons (.var 3) .nil))))) .nil)))))
  .nil)) (.cons (.ite (.cmp .eq (.var 7) (.con (.str "if"))) (.cons (.set 10 (.fn 35 (.cons (.ix (.var 6) (.con (.int 1))) (.cons (.var 4) .nil))) false)
  (.cons (.set 11 (.fn 37 (.cons (.ix (.var 6) (.con (.int 2))) (.cons (.var 4) (.cons (.var 2) (.cons (.var 3) .nil))))) false)
  (.cons (.app 5 (.tup (.cons (.con (.str "if")) (.cons (.var 10) (.cons (.var 11) (.cons (.fn 37 (.cons (.ix (.var 6) (.con (.int 3))) (.cons (.var 4) (.cons (.var 2) (.cons (.var 3) .nil))))) .nil))))))
  .nil))) (.cons (.ite (.cmp .eq (.var 7) (.con (.str "while"))) (.cons (.set 10 (.fn 35 (.cons (.ix (.var 6) (.con (.int 2))) (.cons (.var 4) .nil))) false)
  (.cons (.app 5 (.tup (.cons (.con (.str "while")) (.cons (.con .non) (.cons (.var 10) (.cons (.fn 37 (.cons (.ix (.var 6) (.con (.int 3))) (.cons (.var 4) (.cons (.bin .add (.var 2) (.lst (.cons (.ix (.var 6) (.con (.int 1))) .nil))) (.cons (.var 3) .nil))))) .nil))))))
  .nil)) (.cons (.ite (.cmp .eq (.var 7) (.con (.str "for"))) (.cons (.app 5 (.tup (.cons (.con (.str "for")) (.cons (.con .non) (.cons (.fn 37 (.cons (.ix (.var 6) (.con (.int 2))) (.cons (.var 4) (.cons (.bin .add (.var 2) (.lst (.cons (.ix (.var 6) (.con (.int 1))) .nil))) (.cons (.var 3) .nil))))) .nil)))))
  .nil) (.cons (.ite (.cmp .eq (.var 7) (.con (.str "call"))) (.cons (.app 5 (.var 6))
  .nil) (.cons (.app 5 (.fn 36 (.cons (.var 6) (.cons (.var 2) .nil))))
  .nil))
  .nil))
  .nil))
  .nil))
  .nil))
  .nil))
  .nil))
  .nil))
  .nil))
/-- _law_resolved -/
abbrev s37 : Stmt := topS 34
def n37 : List Str := ["body", "flags", "loops", "count", "seen", "rows", "statement", "kind", "found", "body_rows", "condition", "first", "pair"]
def p37 : List Str := ["body", "flags", "loops", "count"]
def d37 : Def := { np := 4, nl := 13, body :=
  (.cons (.set 4 (.bi .list (.cons (.var 1) .nil)) false)
  (.cons (.set 5 (.lst .nil) true)
  (.cons (.for_ (.nm 6) (.var 0) b37_2)
  (.cons (.ret (.bi .tuple (.cons (.var 5) .nil)))
  .nil)))) }
def b47_0 : MSs :=
  (.cons (.set 1 (.bin .add (.var 1) (.fn 47 (.cons (.var 4) .nil))) true)
  .nil)
def b47_1 : MSs :=
  (.cons (.set 1 (.bin .add (.var 1) (.fn 27 (.cons (.var 3) .nil))) true)
  .nil)
def b47_2 : MSs :=
  (.cons (.set 1 (.bin .add (.var 1) (.con (.int 1))) true)
  (.cons (.for_ (.nm 3) (.fn 33 (.cons (.var 2) .nil)) b47_1)
  (.cons (.for_ (.nm 4) (.fn 32 (.cons (.var 2) .nil)) b47_0)
  .nil)))
/-- _law_places -/
abbrev s47 : Stmt := topS 35
def n47 : List Str := ["body", "total", "statement", "condition", "part"]
def p47 : List Str := ["body"]
def d47 : Def := { np := 1, nl := 5, body :=
  (.cons (.set 1 (.con (.int 0)) true)
  (.cons (.for_ (.nm 2) (.var 0) b47_2)
  (.cons (.ret (.var 1))
  .nil))) }
def e48_0 : ME :=
  (.fn 48 (.cons (.var 1) .nil))
/-- _law_deep -/
abbrev s48 : Stmt := topS 36
def n48 : List Str := ["condition", "part"]
def p48 : List Str := ["condition"]
def d48 : Def := { np := 1, nl := 2, body :=
  (.cons (.ite (.cmp .eq (.ix (.var 0) (.con (.int 0))) (.con (.str "not"))) (.cons (.ret (.bin .add (.con (.int 1)) (.fn 48 (.cons (.ix (.var 0) (.con (.int 1))) .nil))))
  .nil) .nil)
  (.cons (.ite (.or (.cmp .eq (.ix (.var 0) (.con (.int 0))) (.con (.str "and"))) (.cmp .eq (.ix (.var 0) (.con (.int 0))) (.con (.str "or")))) (.cons (.ret (.bin .add (.con (.int 1)) (.bi .max (.cons (.lc e48_0 (.nm 1) (.ix (.var 0) (.con (.int 1))) false (.con (.bl true))) .nil))))
  .nil) .nil)
  (.cons (.ret (.con (.int 0)))
  .nil))) }
def b49_0 : MSs :=
  (.cons (.set 7 (.fn 49 (.cons (.var 6) (.cons (.bin .add (.var 1) (.con (.int 1))) .nil))) true)
  (.cons (.set 2 (.bi .max (.cons (.var 2) (.cons (.ix (.var 7) (.con (.int 0))) .nil))) false)
  (.cons (.set 3 (.bi .max (.cons (.var 3) (.cons (.ix (.var 7) (.con (.int 1))) .nil))) false)
  .nil)))
def b49_1 : MSs :=
  (.cons (.set 3 (.bi .max (.cons (.var 3) (.cons (.fn 48 (.cons (.var 5) .nil)) .nil))) false)
  .nil)
def b49_2 : MSs :=
  (.cons (.set 2 (.bi .max (.cons (.var 2) (.cons (.var 1) .nil))) false)
  (.cons (.for_ (.nm 5) (.fn 33 (.cons (.var 4) .nil)) b49_1)
  (.cons (.for_ (.nm 6) (.fn 32 (.cons (.var 4) .nil)) b49_0)
  .nil)))
/-- _law_depths -/
abbrev s49 : Stmt := topS 37
def n49 : List Str := ["body", "depth", "limit", "parts", "statement", "condition", "part", "inner"]
def p49 : List Str := ["body", "depth"]
def d49 : Def := { np := 2, nl := 8, body :=
  (.cons (.set 2 (.con (.int 0)) false)
  (.cons (.set 3 (.con (.int 0)) false)
  (.cons (.for_ (.nm 4) (.var 0) b49_2)
  (.cons (.ret (.tup (.cons (.var 2) (.cons (.var 3) .nil))))
  .nil)))) }
def b50_0 : MSs :=
  (.cons (.set 4 (.tup (.cons (.ix (.lst (.cons (.con (.str "call")) (.cons (.con (.str "flag")) .nil))) (.fn 5 (.cons (.var 0) (.cons (.con (.int 2)) .nil)))) (.cons (.ix (.var 1) (.fn 5 (.cons (.var 0) (.cons (.bi .len (.cons (.var 1) .nil)) .nil)))) .nil))) false)
  (.cons (.set 5 (.fn 5 (.cons (.var 0) (.cons (.con (.int 6)) .nil))) true)
  (.cons (.ite (.cmp .lt (.var 5) (.con (.int 2))) (.cons (.set 2 (.tup (.cons (.con (.str "not")) (.cons (.var 2) .nil))) false)
  .nil) (.cons (.ite (.cmp .lt (.var 5) (.con (.int 4))) (.cons (.set 2 (.fn 20 (.cons (.ix (.lst (.cons (.con (.str "and")) (.cons (.con (.str "or")) .nil))) (.bin .sub (.var 5) (.con (.int 2)))) (.cons (.var 2) (.cons (.var 4) .nil)))) false)
  .nil) (.cons (.set 2 (.fn 20 (.cons (.ix (.lst (.cons (.con (.str "and")) (.cons (.con (.str "or")) .nil))) (.bin .sub (.var 5) (.con (.int 4)))) (.cons (.var 4) (.cons (.var 2) .nil)))) false)
  .nil))
  .nil))
  .nil)))
/-- _law_great -/
abbrev s50 : Stmt := topS 38
def n50 : List Str := ["tape", "names", "condition", "k", "leaf", "choice"]
def p50 : List Str := ["tape", "names"]
def d50 : Def := { np := 2, nl := 6, body :=
  (.cons (.set 2 (.fn 21 (.cons (.var 0) (.cons (.lst (.cons (.lst (.cons (.con (.int 0)) (.cons (.con (.int 99)) (.cons (.con (.int 0)) (.cons (.con (.int 0)) (.cons (.con (.int 0)) (.cons (.con (.int 99)) .nil))))))) (.cons (.var 1) (.cons (.var 1) (.cons (.var 1) .nil))))) (.cons (.var 1) .nil)))) false)
  (.cons (.for_ (.nm 3) (.rng (.con (.int 0)) (.fn 5 (.cons (.var 0) (.cons (.con (.int 11)) .nil)))) b50_0)
  (.cons (.ret (.var 2))
  .nil))) }
def b0_0 : MSs :=
  (.cons (.ite (.or (.cmp .ne (.bi .reprD (.cons (.fn 40 (.cons (.var 5) .nil)) .nil)) (.bi .reprD (.cons (.fn 47 (.cons (.var 5) .nil)) .nil))) (.cmp .ne (.bi .reprD (.cons (.fn 43 (.cons (.var 5) .nil)) .nil)) (.bi .reprD (.cons (.fn 49 (.cons (.var 5) (.cons (.con (.int 0)) .nil))) .nil)))) (.cons (.ret (.con (.bl false)))
  .nil) .nil)
  .nil)
/-- law -/
abbrev s0 : Stmt := topS 39
def n0 : List Str := ["script", "tape", "names", "program", "valid", "tree"]
def p0 : List Str := ["script"]
def d0 : Def := { np := 1, nl := 6, body :=
  (.cons (.set 1 (.fn 4 (.cons (.var 0) .nil)) false)
  (.cons (.set 2 (.fn 6 (.cons (.var 1) (.cons (.bin .add (.con (.int 1)) (.fn 5 (.cons (.var 1) (.cons (.con (.int 4)) .nil)))) .nil))) false)
  (.cons (.set 3 (.fn 31 (.cons (.var 1) (.cons (.var 2) .nil))) false)
  (.cons (.ite (.cmp .eq (.fn 5 (.cons (.var 1) (.cons (.con (.int 2)) .nil))) (.con (.int 0))) (.cons (.set 3 (.bin .add (.var 3) (.tup (.cons (.tup (.cons (.con (.str "while")) (.cons (.con .non) (.cons (.fn 50 (.cons (.var 1) (.cons (.var 2) .nil))) (.cons (.tup .nil) .nil))))) .nil))) false)
  .nil) .nil)
  (.cons (.set 4 (.fn 26 (.cons (.var 1) (.cons (.fn 18 (.cons (.var 1) .nil)) .nil))) false)
  (.cons (.for_ (.nm 5) (.lst (.cons (.var 3) (.cons (.var 4) (.cons (.fn 37 (.cons (.var 4) (.cons (.lst .nil) (.cons (.lst .nil) (.cons (.lst (.cons (.con (.int 0)) .nil)) .nil))))) .nil)))) b0_0)
  (.cons (.ret (.con (.bl true)))
  .nil))))))) }
def D : Nat → Option Def
  | 11 => some d11
  | 12 => some d12
  | 13 => some d13
  | 40 => some d40
  | 41 => some d41
  | 42 => some d42
  | 43 => some d43
  | 44 => some d44
  | 45 => some d45
  | 46 => some d46
  | 4 => some d4
  | 5 => some d5
  | 6 => some d6
  | 18 => some d18
  | 19 => some d19
  | 20 => some d20
  | 21 => some d21
  | 22 => some d22
  | 23 => some d23
  | 24 => some d24
  | 25 => some d25
  | 26 => some d26
  | 27 => some d27
  | 28 => some d28
  | 29 => some d29
  | 30 => some d30
  | 31 => some d31
  | 32 => some d32
  | 33 => some d33
  | 35 => some d35
  | 36 => some d36
  | 37 => some d37
  | 47 => some d47
  | 48 => some d48
  | 49 => some d49
  | 50 => some d50
  | 0 => some d0
  | _ => none
def cs : List (Str × PV) := []
def ds : List (Str × List (Str × PV)) := [("BODY_COUNTS", [("if", (.int 2)), ("while", (.int 1)), ("for", (.int 1)), ("try", (.int 2)), ("block", (.int 1))])]
def bl : List Str := ["abs", "int", "len", "list", "max", "min", "range", "repr", "str", "sum", "tuple"]
def fnm : List (Str × Nat) := [(("bodies" : Str), 11), (("whole_conditions" : Str), 12), (("operands" : Str), 13), (("places" : Str), 40), (("_statement_places" : Str), 41), (("part_count" : Str), 42), (("depths" : Str), 43), (("_levels" : Str), 44), (("_program_part_depth" : Str), 45), (("part_depth" : Str), 46), (("_law_tape" : Str), 4), (("_law_draw" : Str), 5), (("_law_names" : Str), 6), (("_law_world" : Str), 18), (("_law_leaf" : Str), 19), (("_law_joined" : Str), 20), (("_law_condition" : Str), 21), (("_law_stop" : Str), 22), (("_law_nest" : Str), 23), (("_law_statement" : Str), 24), (("_law_body" : Str), 25), (("_law_program" : Str), 26), (("_law_parts" : Str), 27), (("_law_wild" : Str), 28), (("_law_tree" : Str), 29), (("_law_wrapped" : Str), 30), (("_law_any" : Str), 31), (("_law_bodies" : Str), 32), (("_law_conditions" : Str), 33), (("_law_numbered_condition" : Str), 35), (("_law_resolved_jump" : Str), 36), (("_law_resolved" : Str), 37), (("_law_places" : Str), 47), (("_law_deep" : Str), 48), (("_law_depths" : Str), 49), (("_law_great" : Str), 50)]
theorem sc11 : FnScope n11 p11 (defScope s11) := ⟨rfl, rfl, rfl, by decide +kernel, rfl, by decide +kernel, by decide +kernel⟩
theorem t11 : mSs ⟨n11, defScope s11, fnm, cs, bl, ds, false⟩ d11.body (defBody s11) = true := by decide +kernel
theorem sc12 : FnScope n12 p12 (defScope s12) := ⟨rfl, rfl, rfl, by decide +kernel, rfl, by decide +kernel, by decide +kernel⟩
theorem t12 : mSs ⟨n12, defScope s12, fnm, cs, bl, ds, false⟩ d12.body (defBody s12) = true := by decide +kernel
theorem sc13 : FnScope n13 p13 (defScope s13) := ⟨rfl, rfl, rfl, by decide +kernel, rfl, by decide +kernel, by decide +kernel⟩
theorem t13 : mSs ⟨n13, defScope s13, fnm, cs, bl, ds, false⟩ d13.body (defBody s13) = true := by decide +kernel
theorem sc40 : FnScope n40 p40 (defScope s40) := ⟨rfl, rfl, rfl, by decide +kernel, rfl, by decide +kernel, by decide +kernel⟩
theorem t40 : mSs ⟨n40, defScope s40, fnm, cs, bl, ds, false⟩ d40.body (defBody s40) = true := by decide +kernel
theorem sc41 : FnScope n41 p41 (defScope s41) := ⟨rfl, rfl, rfl, by decide +kernel, rfl, by decide +kernel, by decide +kernel⟩
theorem t41 : mSs ⟨n41, defScope s41, fnm, cs, bl, ds, false⟩ d41.body (defBody s41) = true := by decide +kernel
theorem sc42 : FnScope n42 p42 (defScope s42) := ⟨rfl, rfl, rfl, by decide +kernel, rfl, by decide +kernel, by decide +kernel⟩
theorem t42 : mSs ⟨n42, defScope s42, fnm, cs, bl, ds, false⟩ d42.body (defBody s42) = true := by decide +kernel
theorem sc43 : FnScope n43 p43 (defScope s43) := ⟨rfl, rfl, rfl, by decide +kernel, rfl, by decide +kernel, by decide +kernel⟩
theorem t43 : mSs ⟨n43, defScope s43, fnm, cs, bl, ds, false⟩ d43.body (defBody s43) = true := by decide +kernel
theorem sc44 : FnScope n44 p44 (defScope s44) := ⟨rfl, rfl, rfl, by decide +kernel, rfl, by decide +kernel, by decide +kernel⟩
theorem t44 : mSs ⟨n44, defScope s44, fnm, cs, bl, ds, false⟩ d44.body (defBody s44) = true := by decide +kernel
theorem sc45 : FnScope n45 p45 (defScope s45) := ⟨rfl, rfl, rfl, by decide +kernel, rfl, by decide +kernel, by decide +kernel⟩
theorem t45 : mSs ⟨n45, defScope s45, fnm, cs, bl, ds, false⟩ d45.body (defBody s45) = true := by decide +kernel
theorem sc46 : FnScope n46 p46 (defScope s46) := ⟨rfl, rfl, rfl, by decide +kernel, rfl, by decide +kernel, by decide +kernel⟩
theorem t46 : mSs ⟨n46, defScope s46, fnm, cs, bl, ds, false⟩ d46.body (defBody s46) = true := by decide +kernel
theorem sc4 : FnScope n4 p4 (defScope s4) := ⟨rfl, rfl, rfl, by decide +kernel, rfl, by decide +kernel, by decide +kernel⟩
theorem t4 : mSs ⟨n4, defScope s4, fnm, cs, bl, ds, false⟩ d4.body (defBody s4) = true := by decide +kernel
theorem sc5 : FnScope n5 p5 (defScope s5) := ⟨rfl, rfl, rfl, by decide +kernel, rfl, by decide +kernel, by decide +kernel⟩
theorem t5 : mSs ⟨n5, defScope s5, fnm, cs, bl, ds, false⟩ d5.body (defBody s5) = true := by decide +kernel
theorem sc6 : FnScope n6 p6 (defScope s6) := ⟨rfl, rfl, rfl, by decide +kernel, rfl, by decide +kernel, by decide +kernel⟩
theorem t6 : mSs ⟨n6, defScope s6, fnm, cs, bl, ds, false⟩ d6.body (defBody s6) = true := by decide +kernel
theorem sc18 : FnScope n18 p18 (defScope s18) := ⟨rfl, rfl, rfl, by decide +kernel, rfl, by decide +kernel, by decide +kernel⟩
theorem t18 : mSs ⟨n18, defScope s18, fnm, cs, bl, ds, false⟩ d18.body (defBody s18) = true := by decide +kernel
theorem sc19 : FnScope n19 p19 (defScope s19) := ⟨rfl, rfl, rfl, by decide +kernel, rfl, by decide +kernel, by decide +kernel⟩
theorem t19 : mSs ⟨n19, defScope s19, fnm, cs, bl, ds, false⟩ d19.body (defBody s19) = true := by decide +kernel
theorem sc20 : FnScope n20 p20 (defScope s20) := ⟨rfl, rfl, rfl, by decide +kernel, rfl, by decide +kernel, by decide +kernel⟩
theorem t20 : mSs ⟨n20, defScope s20, fnm, cs, bl, ds, false⟩ d20.body (defBody s20) = true := by decide +kernel
theorem sc21 : FnScope n21 p21 (defScope s21) := ⟨rfl, rfl, rfl, by decide +kernel, rfl, by decide +kernel, by decide +kernel⟩
theorem t21 : mSs ⟨n21, defScope s21, fnm, cs, bl, ds, false⟩ d21.body (defBody s21) = true := by decide +kernel
theorem sc22 : FnScope n22 p22 (defScope s22) := ⟨rfl, rfl, rfl, by decide +kernel, rfl, by decide +kernel, by decide +kernel⟩
theorem t22 : mSs ⟨n22, defScope s22, fnm, cs, bl, ds, false⟩ d22.body (defBody s22) = true := by decide +kernel
theorem sc23 : FnScope n23 p23 (defScope s23) := ⟨rfl, rfl, rfl, by decide +kernel, rfl, by decide +kernel, by decide +kernel⟩
theorem t23 : mSs ⟨n23, defScope s23, fnm, cs, bl, ds, false⟩ d23.body (defBody s23) = true := by decide +kernel
theorem sc24 : FnScope n24 p24 (defScope s24) := ⟨rfl, rfl, rfl, by decide +kernel, rfl, by decide +kernel, by decide +kernel⟩
theorem t24 : mSs ⟨n24, defScope s24, fnm, cs, bl, ds, false⟩ d24.body (defBody s24) = true := by decide +kernel
theorem sc25 : FnScope n25 p25 (defScope s25) := ⟨rfl, rfl, rfl, by decide +kernel, rfl, by decide +kernel, by decide +kernel⟩
theorem t25 : mSs ⟨n25, defScope s25, fnm, cs, bl, ds, false⟩ d25.body (defBody s25) = true := by decide +kernel
theorem sc26 : FnScope n26 p26 (defScope s26) := ⟨rfl, rfl, rfl, by decide +kernel, rfl, by decide +kernel, by decide +kernel⟩
theorem t26 : mSs ⟨n26, defScope s26, fnm, cs, bl, ds, false⟩ d26.body (defBody s26) = true := by decide +kernel
theorem sc27 : FnScope n27 p27 (defScope s27) := ⟨rfl, rfl, rfl, by decide +kernel, rfl, by decide +kernel, by decide +kernel⟩
theorem t27 : mSs ⟨n27, defScope s27, fnm, cs, bl, ds, false⟩ d27.body (defBody s27) = true := by decide +kernel
theorem sc28 : FnScope n28 p28 (defScope s28) := ⟨rfl, rfl, rfl, by decide +kernel, rfl, by decide +kernel, by decide +kernel⟩
theorem t28 : mSs ⟨n28, defScope s28, fnm, cs, bl, ds, false⟩ d28.body (defBody s28) = true := by decide +kernel
theorem sc29 : FnScope n29 p29 (defScope s29) := ⟨rfl, rfl, rfl, by decide +kernel, rfl, by decide +kernel, by decide +kernel⟩
theorem t29 : mSs ⟨n29, defScope s29, fnm, cs, bl, ds, false⟩ d29.body (defBody s29) = true := by decide +kernel
theorem sc30 : FnScope n30 p30 (defScope s30) := ⟨rfl, rfl, rfl, by decide +kernel, rfl, by decide +kernel, by decide +kernel⟩
theorem t30 : mSs ⟨n30, defScope s30, fnm, cs, bl, ds, false⟩ d30.body (defBody s30) = true := by decide +kernel
theorem sc31 : FnScope n31 p31 (defScope s31) := ⟨rfl, rfl, rfl, by decide +kernel, rfl, by decide +kernel, by decide +kernel⟩
theorem t31 : mSs ⟨n31, defScope s31, fnm, cs, bl, ds, false⟩ d31.body (defBody s31) = true := by decide +kernel
theorem sc32 : FnScope n32 p32 (defScope s32) := ⟨rfl, rfl, rfl, by decide +kernel, rfl, by decide +kernel, by decide +kernel⟩
theorem t32 : mSs ⟨n32, defScope s32, fnm, cs, bl, ds, false⟩ d32.body (defBody s32) = true := by decide +kernel
theorem sc33 : FnScope n33 p33 (defScope s33) := ⟨rfl, rfl, rfl, by decide +kernel, rfl, by decide +kernel, by decide +kernel⟩
theorem t33 : mSs ⟨n33, defScope s33, fnm, cs, bl, ds, false⟩ d33.body (defBody s33) = true := by decide +kernel
theorem sc35 : FnScope n35 p35 (defScope s35) := ⟨rfl, rfl, rfl, by decide +kernel, rfl, by decide +kernel, by decide +kernel⟩
theorem t35 : mSs ⟨n35, defScope s35, fnm, cs, bl, ds, false⟩ d35.body (defBody s35) = true := by decide +kernel
theorem sc36 : FnScope n36 p36 (defScope s36) := ⟨rfl, rfl, rfl, by decide +kernel, rfl, by decide +kernel, by decide +kernel⟩
theorem t36 : mSs ⟨n36, defScope s36, fnm, cs, bl, ds, false⟩ d36.body (defBody s36) = true := by decide +kernel
theorem sc37 : FnScope n37 p37 (defScope s37) := ⟨rfl, rfl, rfl, by decide +kernel, rfl, by decide +kernel, by decide +kernel⟩
theorem t37 : mSs ⟨n37, defScope s37, fnm, cs, bl, ds, false⟩ d37.body (defBody s37) = true := by decide +kernel
theorem sc47 : FnScope n47 p47 (defScope s47) := ⟨rfl, rfl, rfl, by decide +kernel, rfl, by decide +kernel, by decide +kernel⟩
theorem t47 : mSs ⟨n47, defScope s47, fnm, cs, bl, ds, false⟩ d47.body (defBody s47) = true := by decide +kernel
theorem sc48 : FnScope n48 p48 (defScope s48) := ⟨rfl, rfl, rfl, by decide +kernel, rfl, by decide +kernel, by decide +kernel⟩
theorem t48 : mSs ⟨n48, defScope s48, fnm, cs, bl, ds, false⟩ d48.body (defBody s48) = true := by decide +kernel
theorem sc49 : FnScope n49 p49 (defScope s49) := ⟨rfl, rfl, rfl, by decide +kernel, rfl, by decide +kernel, by decide +kernel⟩
theorem t49 : mSs ⟨n49, defScope s49, fnm, cs, bl, ds, false⟩ d49.body (defBody s49) = true := by decide +kernel
theorem sc50 : FnScope n50 p50 (defScope s50) := ⟨rfl, rfl, rfl, by decide +kernel, rfl, by decide +kernel, by decide +kernel⟩
theorem t50 : mSs ⟨n50, defScope s50, fnm, cs, bl, ds, false⟩ d50.body (defBody s50) = true := by decide +kernel
theorem sc0 : FnScope n0 p0 (defScope s0) := ⟨rfl, rfl, rfl, by decide +kernel, rfl, by decide +kernel, by decide +kernel⟩
theorem t0 : mSs ⟨n0, defScope s0, fnm, cs, bl, ds, true⟩ d0.body (defBody s0) = true := by decide +kernel
section
variable {w : World} {K : PySem.W.Frag} {h : Heap} {mg : Str → Option Value} {fa : Addr}
/-- the law's call at the top, its guards known -/
theorem all_mk {sh : Shared} {H : Hp} {a : Addr} {ns : List Int} {base : Heap} (X : K.In sh.heap) (G : sh.heap.Ns mainGlobals mg) (hfa : mg "law" = some (.ref fa)) (nl : sh.heap.NoLimit) (Ev : Env0 PySem.Challenge.rw_flowform_k02_places_and_depths.prog w K mg base callerA [] sh H) (hl : ∃ st', evCall TURNS D (DEEP + 1) 0 [.rol (ns.map .int)] [] = .ok (.bl true) st') (ho : Only H) (hs : SqL K H a (ns.map V.int))
    {f11 : Addr} {oc11 kV11 dc11 pm11 cd11 ct11 : Value} {od11 an11 : Option Addr} {sl11 : Array (Option Value)}
    {f12 : Addr} {oc12 kV12 dc12 pm12 cd12 ct12 : Value} {od12 an12 : Option Addr} {sl12 : Array (Option Value)}
    {f13 : Addr} {oc13 kV13 dc13 pm13 cd13 ct13 : Value} {od13 an13 : Option Addr} {sl13 : Array (Option Value)}
    {f40 : Addr} {oc40 kV40 dc40 pm40 cd40 ct40 : Value} {od40 an40 : Option Addr} {sl40 : Array (Option Value)}
    {f41 : Addr} {oc41 kV41 dc41 pm41 cd41 ct41 : Value} {od41 an41 : Option Addr} {sl41 : Array (Option Value)}
    {f42 : Addr} {oc42 kV42 dc42 pm42 cd42 ct42 : Value} {od42 an42 : Option Addr} {sl42 : Array (Option Value)}
    {f43 : Addr} {oc43 kV43 dc43 pm43 cd43 ct43 : Value} {od43 an43 : Option Addr} {sl43 : Array (Option Value)}
    {f44 : Addr} {oc44 kV44 dc44 pm44 cd44 ct44 : Value} {od44 an44 : Option Addr} {sl44 : Array (Option Value)}
    {f45 : Addr} {oc45 kV45 dc45 pm45 cd45 ct45 : Value} {od45 an45 : Option Addr} {sl45 : Array (Option Value)}
    {f46 : Addr} {oc46 kV46 dc46 pm46 cd46 ct46 : Value} {od46 an46 : Option Addr} {sl46 : Array (Option Value)}
    {f4 : Addr} {oc4 kV4 dc4 pm4 cd4 ct4 : Value} {od4 an4 : Option Addr} {sl4 : Array (Option Value)}
    {f5 : Addr} {oc5 kV5 dc5 pm5 cd5 ct5 : Value} {od5 an5 : Option Addr} {sl5 : Array (Option Value)}
    {f6 : Addr} {oc6 kV6 dc6 pm6 cd6 ct6 : Value} {od6 an6 : Option Addr} {sl6 : Array (Option Value)}
    {f18 : Addr} {oc18 kV18 dc18 pm18 cd18 ct18 : Value} {od18 an18 : Option Addr} {sl18 : Array (Option Value)}
    {f19 : Addr} {oc19 kV19 dc19 pm19 cd19 ct19 : Value} {od19 an19 : Option Addr} {sl19 : Array (Option Value)}
    {f20 : Addr} {oc20 kV20 dc20 pm20 cd20 ct20 : Value} {od20 an20 : Option Addr} {sl20 : Array (Option Value)}
    {f21 : Addr} {oc21 kV21 dc21 pm21 cd21 ct21 : Value} {od21 an21 : Option Addr} {sl21 : Array (Option Value)}
    {f22 : Addr} {oc22 kV22 dc22 pm22 cd22 ct22 : Value} {od22 an22 : Option Addr} {sl22 : Array (Option Value)}
    {f23 : Addr} {oc23 kV23 dc23 pm23 cd23 ct23 : Value} {od23 an23 : Option Addr} {sl23 : Array (Option Value)}
    {f24 : Addr} {oc24 kV24 dc24 pm24 cd24 ct24 : Value} {od24 an24 : Option Addr} {sl24 : Array (Option Value)}
    {f25 : Addr} {oc25 kV25 dc25 pm25 cd25 ct25 : Value} {od25 an25 : Option Addr} {sl25 : Array (Option Value)}
    {f26 : Addr} {oc26 kV26 dc26 pm26 cd26 ct26 : Value} {od26 an26 : Option Addr} {sl26 : Array (Option Value)}
    {f27 : Addr} {oc27 kV27 dc27 pm27 cd27 ct27 : Value} {od27 an27 : Option Addr} {sl27 : Array (Option Value)}
    {f28 : Addr} {oc28 kV28 dc28 pm28 cd28 ct28 : Value} {od28 an28 : Option Addr} {sl28 : Array (Option Value)}
    {f29 : Addr} {oc29 kV29 dc29 pm29 cd29 ct29 : Value} {od29 an29 : Option Addr} {sl29 : Array (Option Value)}
    {f30 : Addr} {oc30 kV30 dc30 pm30 cd30 ct30 : Value} {od30 an30 : Option Addr} {sl30 : Array (Option Value)}
    {f31 : Addr} {oc31 kV31 dc31 pm31 cd31 ct31 : Value} {od31 an31 : Option Addr} {sl31 : Array (Option Value)}
    {f32 : Addr} {oc32 kV32 dc32 pm32 cd32 ct32 : Value} {od32 an32 : Option Addr} {sl32 : Array (Option Value)}
    {f33 : Addr} {oc33 kV33 dc33 pm33 cd33 ct33 : Value} {od33 an33 : Option Addr} {sl33 : Array (Option Value)}
    {f35 : Addr} {oc35 kV35 dc35 pm35 cd35 ct35 : Value} {od35 an35 : Option Addr} {sl35 : Array (Option Value)}
    {f36 : Addr} {oc36 kV36 dc36 pm36 cd36 ct36 : Value} {od36 an36 : Option Addr} {sl36 : Array (Option Value)}
    {f37 : Addr} {oc37 kV37 dc37 pm37 cd37 ct37 : Value} {od37 an37 : Option Addr} {sl37 : Array (Option Value)}
    {f47 : Addr} {oc47 kV47 dc47 pm47 cd47 ct47 : Value} {od47 an47 : Option Addr} {sl47 : Array (Option Value)}
    {f48 : Addr} {oc48 kV48 dc48 pm48 cd48 ct48 : Value} {od48 an48 : Option Addr} {sl48 : Array (Option Value)}
    {f49 : Addr} {oc49 kV49 dc49 pm49 cd49 ct49 : Value} {od49 an49 : Option Addr} {sl49 : Array (Option Value)}
    {f50 : Addr} {oc50 kV50 dc50 pm50 cd50 ct50 : Value} {od50 an50 : Option Addr} {sl50 : Array (Option Value)}
    {f0 : Addr} {oc0 kV0 dc0 pm0 cd0 ct0 : Value} {od0 an0 : Option Addr} {sl0 : Array (Option Value)}
    {da_0 : Addr} {de_0 : Array DictEntry} {dn_0 : Nat}
    (a11 : PySem.W.nsIn K mainGlobals "bodies" = some (some (.ref f11))) (l11 : K.lookup f11 = some ⟨oc11, od11, .func (PySem.W.fnOf "bodies" "bodies" (defArgs s11) (defBody s11) (defScope s11) .none kV11 dc11 pm11 an11 cd11 ct11), sl11⟩) (c11 : PySem.W.codeIn K cd11 "bodies" = true) (k11 : PySem.W.keepIn K (.ref f11) = true)
    (a12 : PySem.W.nsIn K mainGlobals "whole_conditions" = some (some (.ref f12))) (l12 : K.lookup f12 = some ⟨oc12, od12, .func (PySem.W.fnOf "whole_conditions" "whole_conditions" (defArgs s12) (defBody s12) (defScope s12) .none kV12 dc12 pm12 an12 cd12 ct12), sl12⟩) (c12 : PySem.W.codeIn K cd12 "whole_conditions" = true) (k12 : PySem.W.keepIn K (.ref f12) = true)
    (a13 : PySem.W.nsIn K mainGlobals "operands" = some (some (.ref f13))) (l13 : K.lookup f13 = some ⟨oc13, od13, .func (PySem.W.fnOf "operands" "operands" (defArgs s13) (defBody s13) (defScope s13) .none kV13 dc13 pm13 an13 cd13 ct13), sl13⟩) (c13 : PySem.W.codeIn K cd13 "operands" = true) (k13 : PySem.W.keepIn K (.ref f13) = true)
    (a40 : PySem.W.nsIn K mainGlobals "places" = some (some (.ref f40))) (l40 : K.lookup f40 = some ⟨oc40, od40, .func (PySem.W.fnOf "places" "places" (defArgs s40) (defBody s40) (defScope s40) .none kV40 dc40 pm40 an40 cd40 ct40), sl40⟩) (c40 : PySem.W.codeIn K cd40 "places" = true) (k40 : PySem.W.keepIn K (.ref f40) = true)
    (a41 : PySem.W.nsIn K mainGlobals "_statement_places" = some (some (.ref f41))) (l41 : K.lookup f41 = some ⟨oc41, od41, .func (PySem.W.fnOf "_statement_places" "_statement_places" (defArgs s41) (defBody s41) (defScope s41) .none kV41 dc41 pm41 an41 cd41 ct41), sl41⟩) (c41 : PySem.W.codeIn K cd41 "_statement_places" = true) (k41 : PySem.W.keepIn K (.ref f41) = true)
    (a42 : PySem.W.nsIn K mainGlobals "part_count" = some (some (.ref f42))) (l42 : K.lookup f42 = some ⟨oc42, od42, .func (PySem.W.fnOf "part_count" "part_count" (defArgs s42) (defBody s42) (defScope s42) .none kV42 dc42 pm42 an42 cd42 ct42), sl42⟩) (c42 : PySem.W.codeIn K cd42 "part_count" = true) (k42 : PySem.W.keepIn K (.ref f42) = true)
    (a43 : PySem.W.nsIn K mainGlobals "depths" = some (some (.ref f43))) (l43 : K.lookup f43 = some ⟨oc43, od43, .func (PySem.W.fnOf "depths" "depths" (defArgs s43) (defBody s43) (defScope s43) .none kV43 dc43 pm43 an43 cd43 ct43), sl43⟩) (c43 : PySem.W.codeIn K cd43 "depths" = true) (k43 : PySem.W.keepIn K (.ref f43) = true)
    (a44 : PySem.W.nsIn K mainGlobals "_levels" = some (some (.ref f44))) (l44 : K.lookup f44 = some ⟨oc44, od44, .func (PySem.W.fnOf "_levels" "_levels" (defArgs s44) (defBody s44) (defScope s44) .none kV44 dc44 pm44 an44 cd44 ct44), sl44⟩) (c44 : PySem.W.codeIn K cd44 "_levels" = true) (k44 : PySem.W.keepIn K (.ref f44) = true)
    (a45 : PySem.W.nsIn K mainGlobals "_program_part_depth" = some (some (.ref f45))) (l45 : K.lookup f45 = some ⟨oc45, od45, .func (PySem.W.fnOf "_program_part_depth" "_program_part_depth" (defArgs s45) (defBody s45) (defScope s45) .none kV45 dc45 pm45 an45 cd45 ct45), sl45⟩) (c45 : PySem.W.codeIn K cd45 "_program_part_depth" = true) (k45 : PySem.W.keepIn K (.ref f45) = true)
    (a46 : PySem.W.nsIn K mainGlobals "part_depth" = some (some (.ref f46))) (l46 : K.lookup f46 = some ⟨oc46, od46, .func (PySem.W.fnOf "part_depth" "part_depth" (defArgs s46) (defBody s46) (defScope s46) .none kV46 dc46 pm46 an46 cd46 ct46), sl46⟩) (c46 : PySem.W.codeIn K cd46 "part_depth" = true) (k46 : PySem.W.keepIn K (.ref f46) = true)
    (a4 : PySem.W.nsIn K mainGlobals "_law_tape" = some (some (.ref f4))) (l4 : K.lookup f4 = some ⟨oc4, od4, .func (PySem.W.fnOf "_law_tape" "_law_tape" (defArgs s4) (defBody s4) (defScope s4) .none kV4 dc4 pm4 an4 cd4 ct4), sl4⟩) (c4 : PySem.W.codeIn K cd4 "_law_tape" = true) (k4 : PySem.W.keepIn K (.ref f4) = true)
    (a5 : PySem.W.nsIn K mainGlobals "_law_draw" = some (some (.ref f5))) (l5 : K.lookup f5 = some ⟨oc5, od5, .func (PySem.W.fnOf "_law_draw" "_law_draw" (defArgs s5) (defBody s5) (defScope s5) .none kV5 dc5 pm5 an5 cd5 ct5), sl5⟩) (c5 : PySem.W.codeIn K cd5 "_law_draw" = true) (k5 : PySem.W.keepIn K (.ref f5) = true)
    (a6 : PySem.W.nsIn K mainGlobals "_law_names" = some (some (.ref f6))) (l6 : K.lookup f6 = some ⟨oc6, od6, .func (PySem.W.fnOf "_law_names" "_law_names" (defArgs s6) (defBody s6) (defScope s6) .none kV6 dc6 pm6 an6 cd6 ct6), sl6⟩) (c6 : PySem.W.codeIn K cd6 "_law_names" = true) (k6 : PySem.W.keepIn K (.ref f6) = true)
    (a18 : PySem.W.nsIn K mainGlobals "_law_world" = some (some (.ref f18))) (l18 : K.lookup f18 = some ⟨oc18, od18, .func (PySem.W.fnOf "_law_world" "_law_world" (defArgs s18) (defBody s18) (defScope s18) .none kV18 dc18 pm18 an18 cd18 ct18), sl18⟩) (c18 : PySem.W.codeIn K cd18 "_law_world" = true) (k18 : PySem.W.keepIn K (.ref f18) = true)
    (a19 : PySem.W.nsIn K mainGlobals "_law_leaf" = some (some (.ref f19))) (l19 : K.lookup f19 = some ⟨oc19, od19, .func (PySem.W.fnOf "_law_leaf" "_law_leaf" (defArgs s19) (defBody s19) (defScope s19) .none kV19 dc19 pm19 an19 cd19 ct19), sl19⟩) (c19 : PySem.W.codeIn K cd19 "_law_leaf" = true) (k19 : PySem.W.keepIn K (.ref f19) = true)
    (a20 : PySem.W.nsIn K mainGlobals "_law_joined" = some (some (.ref f20))) (l20 : K.lookup f20 = some ⟨oc20, od20, .func (PySem.W.fnOf "_law_joined" "_law_joined" (defArgs s20) (defBody s20) (defScope s20) .none kV20 dc20 pm20 an20 cd20 ct20), sl20⟩) (c20 : PySem.W.codeIn K cd20 "_law_joined" = true) (k20 : PySem.W.keepIn K (.ref f20) = true)
    (a21 : PySem.W.nsIn K mainGlobals "_law_condition" = some (some (.ref f21))) (l21 : K.lookup f21 = some ⟨oc21, od21, .func (PySem.W.fnOf "_law_condition" "_law_condition" (defArgs s21) (defBody s21) (defScope s21) .none kV21 dc21 pm21 an21 cd21 ct21), sl21⟩) (c21 : PySem.W.codeIn K cd21 "_law_condition" = true) (k21 : PySem.W.keepIn K (.ref f21) = true)
    (a22 : PySem.W.nsIn K mainGlobals "_law_stop" = some (some (.ref f22))) (l22 : K.lookup f22 = some ⟨oc22, od22, .func (PySem.W.fnOf "_law_stop" "_law_stop" (defArgs s22) (defBody s22) (defScope s22) .none kV22 dc22 pm22 an22 cd22 ct22), sl22⟩) (c22 : PySem.W.codeIn K cd22 "_law_stop" = true) (k22 : PySem.W.keepIn K (.ref f22) = true)
    (a23 : PySem.W.nsIn K mainGlobals "_law_nest" = some (some (.ref f23))) (l23 : K.lookup f23 = some ⟨oc23, od23, .func (PySem.W.fnOf "_law_nest" "_law_nest" (defArgs s23) (defBody s23) (defScope s23) .none kV23 dc23 pm23 an23 cd23 ct23), sl23⟩) (c23 : PySem.W.codeIn K cd23 "_law_nest" = true) (k23 : PySem.W.keepIn K (.ref f23) = true)
    (a24 : PySem.W.nsIn K mainGlobals "_law_statement" = some (some (.ref f24))) (l24 : K.lookup f24 = some ⟨oc24, od24, .func (PySem.W.fnOf "_law_statement" "_law_statement" (defArgs s24) (defBody s24) (defScope s24) .none kV24 dc24 pm24 an24 cd24 ct24), sl24⟩) (c24 : PySem.W.codeIn K cd24 "_law_statement" = true) (k24 : PySem.W.keepIn K (.ref f24) = true)
    (a25 : PySem.W.nsIn K mainGlobals "_law_body" = some (some (.ref f25))) (l25 : K.lookup f25 = some ⟨oc25, od25, .func (PySem.W.fnOf "_law_body" "_law_body" (defArgs s25) (defBody s25) (defScope s25) .none kV25 dc25 pm25 an25 cd25 ct25), sl25⟩) (c25 : PySem.W.codeIn K cd25 "_law_body" = true) (k25 : PySem.W.keepIn K (.ref f25) = true)
    (a26 : PySem.W.nsIn K mainGlobals "_law_program" = some (some (.ref f26))) (l26 : K.lookup f26 = some ⟨oc26, od26, .func (PySem.W.fnOf "_law_program" "_law_program" (defArgs s26) (defBody s26) (defScope s26) .none kV26 dc26 pm26 an26 cd26 ct26), sl26⟩) (c26 : PySem.W.codeIn K cd26 "_law_program" = true) (k26 : PySem.W.keepIn K (.ref f26) = true)
    (a27 : PySem.W.nsIn K mainGlobals "_law_parts" = some (some (.ref f27))) (l27 : K.lookup f27 = some ⟨oc27, od27, .func (PySem.W.fnOf "_law_parts" "_law_parts" (defArgs s27) (defBody s27) (defScope s27) .none kV27 dc27 pm27 an27 cd27 ct27), sl27⟩) (c27 : PySem.W.codeIn K cd27 "_law_parts" = true) (k27 : PySem.W.keepIn K (.ref f27) = true)
    (a28 : PySem.W.nsIn K mainGlobals "_law_wild" = some (some (.ref f28))) (l28 : K.lookup f28 = some ⟨oc28, od28, .func (PySem.W.fnOf "_law_wild" "_law_wild" (defArgs s28) (defBody s28) (defScope s28) .none kV28 dc28 pm28 an28 cd28 ct28), sl28⟩) (c28 : PySem.W.codeIn K cd28 "_law_wild" = true) (k28 : PySem.W.keepIn K (.ref f28) = true)
    (a29 : PySem.W.nsIn K mainGlobals "_law_tree" = some (some (.ref f29))) (l29 : K.lookup f29 = some ⟨oc29, od29, .func (PySem.W.fnOf "_law_tree" "_law_tree" (defArgs s29) (defBody s29) (defScope s29) .none kV29 dc29 pm29 an29 cd29 ct29), sl29⟩) (c29 : PySem.W.codeIn K cd29 "_law_tree" = true) (k29 : PySem.W.keepIn K (.ref f29) = true)
    (a30 : PySem.W.nsIn K mainGlobals "_law_wrapped" = some (some (.ref f30))) (l30 : K.lookup f30 = some ⟨oc30, od30, .func (PySem.W.fnOf "_law_wrapped" "_law_wrapped" (defArgs s30) (defBody s30) (defScope s30) .none kV30 dc30 pm30 an30 cd30 ct30), sl30⟩) (c30 : PySem.W.codeIn K cd30 "_law_wrapped" = true) (k30 : PySem.W.keepIn K (.ref f30) = true)
    (a31 : PySem.W.nsIn K mainGlobals "_law_any" = some (some (.ref f31))) (l31 : K.lookup f31 = some ⟨oc31, od31, .func (PySem.W.fnOf "_law_any" "_law_any" (defArgs s31) (defBody s31) (defScope s31) .none kV31 dc31 pm31 an31 cd31 ct31), sl31⟩) (c31 : PySem.W.codeIn K cd31 "_law_any" = true) (k31 : PySem.W.keepIn K (.ref f31) = true)
    (a32 : PySem.W.nsIn K mainGlobals "_law_bodies" = some (some (.ref f32))) (l32 : K.lookup f32 = some ⟨oc32, od32, .func (PySem.W.fnOf "_law_bodies" "_law_bodies" (defArgs s32) (defBody s32) (defScope s32) .none kV32 dc32 pm32 an32 cd32 ct32), sl32⟩) (c32 : PySem.W.codeIn K cd32 "_law_bodies" = true) (k32 : PySem.W.keepIn K (.ref f32) = true)
    (a33 : PySem.W.nsIn K mainGlobals "_law_conditions" = some (some (.ref f33))) (l33 : K.lookup f33 = some ⟨oc33, od33, .func (PySem.W.fnOf "_law_conditions" "_law_conditions" (defArgs s33) (defBody s33) (defScope s33) .none kV33 dc33 pm33 an33 cd33 ct33), sl33⟩) (c33 : PySem.W.codeIn K cd33 "_law_conditions" = true) (k33 : PySem.W.keepIn K (.ref f33) = true)
    (a35 : PySem.W.nsIn K mainGlobals "_law_numbered_condition" = some (some (.ref f35))) (l35 : K.lookup f35 = some ⟨oc35, od35, .func (PySem.W.fnOf "_law_numbered_condition" "_law_numbered_condition" (defArgs s35) (defBody s35) (defScope s35) .none kV35 dc35 pm35 an35 cd35 ct35), sl35⟩) (c35 : PySem.W.codeIn K cd35 "_law_numbered_condition" = true) (k35 : PySem.W.keepIn K (.ref f35) = true)
    (a36 : PySem.W.nsIn K mainGlobals "_law_resolved_jump" = some (some (.ref f36))) (l36 : K.lookup f36 = some ⟨oc36, od36, .func (PySem.W.fnOf "_law_resolved_jump" "_law_resolved_jump" (defArgs s36) (defBody s36) (defScope s36) .none kV36 dc36 pm36 an36 cd36 ct36), sl36⟩) (c36 : PySem.W.codeIn K cd36 "_law_resolved_jump" = true) (k36 : PySem.W.keepIn K (.ref f36) = true)
    (a37 : PySem.W.nsIn K mainGlobals "_law_resolved" = some (some (.ref f37))) (l37 : K.lookup f37 = some ⟨oc37, od37, .func (PySem.W.fnOf "_law_resolved" "_law_resolved" (defArgs s37) (defBody s37) (defScope s37) .none kV37 dc37 pm37 an37 cd37 ct37), sl37⟩) (c37 : PySem.W.codeIn K cd37 "_law_resolved" = true) (k37 : PySem.W.keepIn K (.ref f37) = true)
    (a47 : PySem.W.nsIn K mainGlobals "_law_places" = some (some (.ref f47))) (l47 : K.lookup f47 = some ⟨oc47, od47, .func (PySem.W.fnOf "_law_places" "_law_places" (defArgs s47) (defBody s47) (defScope s47) .none kV47 dc47 pm47 an47 cd47 ct47), sl47⟩) (c47 : PySem.W.codeIn K cd47 "_law_places" = true) (k47 : PySem.W.keepIn K (.ref f47) = true)
    (a48 : PySem.W.nsIn K mainGlobals "_law_deep" = some (some (.ref f48))) (l48 : K.lookup f48 = some ⟨oc48, od48, .func (PySem.W.fnOf "_law_deep" "_law_deep" (defArgs s48) (defBody s48) (defScope s48) .none kV48 dc48 pm48 an48 cd48 ct48), sl48⟩) (c48 : PySem.W.codeIn K cd48 "_law_deep" = true) (k48 : PySem.W.keepIn K (.ref f48) = true)
    (a49 : PySem.W.nsIn K mainGlobals "_law_depths" = some (some (.ref f49))) (l49 : K.lookup f49 = some ⟨oc49, od49, .func (PySem.W.fnOf "_law_depths" "_law_depths" (defArgs s49) (defBody s49) (defScope s49) .none kV49 dc49 pm49 an49 cd49 ct49), sl49⟩) (c49 : PySem.W.codeIn K cd49 "_law_depths" = true) (k49 : PySem.W.keepIn K (.ref f49) = true)
    (a50 : PySem.W.nsIn K mainGlobals "_law_great" = some (some (.ref f50))) (l50 : K.lookup f50 = some ⟨oc50, od50, .func (PySem.W.fnOf "_law_great" "_law_great" (defArgs s50) (defBody s50) (defScope s50) .none kV50 dc50 pm50 an50 cd50 ct50), sl50⟩) (c50 : PySem.W.codeIn K cd50 "_law_great" = true) (k50 : PySem.W.keepIn K (.ref f50) = true)
    (a0 : PySem.W.nsIn K mainGlobals "law" = some (some (.ref f0))) (l0 : K.lookup f0 = some ⟨oc0, od0, .func (PySem.W.fnOf "law" "law" (defArgs s0) (defBody s0) (defScope s0) .none kV0 dc0 pm0 an0 cd0 ct0), sl0⟩) (c0 : PySem.W.codeIn K cd0 "law" = true) (k0 : PySem.W.keepIn K (.ref f0) = true)
    (dg0 : PySem.W.nsIn K mainGlobals "BODY_COUNTS" = some (some (.ref da_0))) (dl0 : K.lookup da_0 = some ⟨.type "dict", none, .dict de_0 dn_0, #[]⟩) (di0 : PySem.W.KeysLit w.params de_0.toList) (dj0 : (da_0 == sysModules) = false) (dm0 : DRel de_0.toList [("if", (.int 2)), ("while", (.int 1)), ("for", (.int 1)), ("try", (.int 2)), ("block", (.int 1))])
    (b0 : PySem.W.nsIn K mainGlobals "abs" = some none)
    (b1 : PySem.W.nsIn K mainGlobals "int" = some none)
    (b2 : PySem.W.nsIn K mainGlobals "len" = some none)
    (b3 : PySem.W.nsIn K mainGlobals "list" = some none)
    (b4 : PySem.W.nsIn K mainGlobals "max" = some none)
    (b5 : PySem.W.nsIn K mainGlobals "min" = some none)
    (b6 : PySem.W.nsIn K mainGlobals "range" = some none)
    (b7 : PySem.W.nsIn K mainGlobals "repr" = some none)
    (b8 : PySem.W.nsIn K mainGlobals "str" = some none)
    (b9 : PySem.W.nsIn K mainGlobals "sum" = some none)
    (b10 : PySem.W.nsIn K mainGlobals "tuple" = some none) :
    codeAny (model PySem.Challenge.rw_flowform_k02_places_and_depths.prog w) callerA (Code.call (Value.ref fa) { pos := [Value.ref a] }) (CR CX0 [] PySem.Challenge.rw_flowform_k02_places_and_depths.prog w H sh (fun v _ => v = V.bl true) (fun _ _ _ => False)) sh := by
  have e := hfa.symm.trans (PySem.W.mg_of X G a0)
  cases e
  let es : List Ent := [⟨"bodies", 11, f11, (PySem.W.fnOf "bodies" "bodies" (defArgs s11) (defBody s11) (defScope s11) .none kV11 dc11 pm11 an11 cd11 ct11), s11, n11, p11, d11⟩, ⟨"whole_conditions", 12, f12, (PySem.W.fnOf "whole_conditions" "whole_conditions" (defArgs s12) (defBody s12) (defScope s12) .none kV12 dc12 pm12 an12 cd12 ct12), s12, n12, p12, d12⟩, ⟨"operands", 13, f13, (PySem.W.fnOf "operands" "operands" (defArgs s13) (defBody s13) (defScope s13) .none kV13 dc13 pm13 an13 cd13 ct13), s13, n13, p13, d13⟩, ⟨"places", 40, f40, (PySem.W.fnOf "places" "places" (defArgs s40) (defBody s40) (defScope s40) .none kV40 dc40 pm40 an40 cd40 ct40), s40, n40, p40, d40⟩, ⟨"_statement_places", 41, f41, (PySem.W.fnOf "_statement_places" "_statement_places" (defArgs s41) (defBody s41) (defScope s41) .none kV41 dc41 pm41 an41 cd41 ct41), s41, n41, p41, d41⟩, ⟨"part_count", 42, f42, (PySem.W.fnOf "part_count" "part_count" (defArgs s42) (defBody s42) (defScope s42) .none kV42 dc42 pm42 an42 cd42 ct42), s42, n42, p42, d42⟩, ⟨"depths", 43, f43, (PySem.W.fnOf "depths" "depths" (defArgs s43) (defBody s43) (defScope s43) .none kV43 dc43 pm43 an43 cd43 ct43), s43, n43, p43, d43⟩, ⟨"_levels", 44, f44, (PySem.W.fnOf "_levels" "_levels" (defArgs s44) (defBody s44) (defScope s44) .none kV44 dc44 pm44 an44 cd44 ct44), s44, n44, p44, d44⟩, ⟨"_program_part_depth", 45, f45, (PySem.W.fnOf "_program_part_depth" "_program_part_depth" (defArgs s45) (defBody s45) (defScope s45) .none kV45 dc45 pm45 an45 cd45 ct45), s45, n45, p45, d45⟩, ⟨"part_depth", 46, f46, (PySem.W.fnOf "part_depth" "part_depth" (defArgs s46) (defBody s46) (defScope s46) .none kV46 dc46 pm46 an46 cd46 ct46), s46, n46, p46, d46⟩, ⟨"_law_tape", 4, f4, (PySem.W.fnOf "_law_tape" "_law_tape" (defArgs s4) (defBody s4) (defScope s4) .none kV4 dc4 pm4 an4 cd4 ct4), s4, n4, p4, d4⟩, ⟨"_law_draw", 5, f5, (PySem.W.fnOf "_law_draw" "_law_draw" (defArgs s5) (defBody s5) (defScope s5) .none kV5 dc5 pm5 an5 cd5 ct5), s5, n5, p5, d5⟩, ⟨"_law_names", 6, f6, (PySem.W.fnOf "_law_names" "_law_names" (defArgs s6) (defBody s6) (defScope s6) .none kV6 dc6 pm6 an6 cd6 ct6), s6, n6, p6, d6⟩, ⟨"_law_world", 18, f18, (PySem.W.fnOf "_law_world" "_law_world" (defArgs s18) (defBody s18) (defScope s18) .none kV18 dc18 pm18 an18 cd18 ct18), s18, n18, p18, d18⟩, ⟨"_law_leaf", 19, f19, (PySem.W.fnOf "_law_leaf" "_law_leaf" (defArgs s19) (defBody s19) (defScope s19) .none kV19 dc19 pm19 an19 cd19 ct19), s19, n19, p19, d19⟩, ⟨"_law_joined", 20, f20, (PySem.W.fnOf "_law_joined" "_law_joined" (defArgs s20) (defBody s20) (defScope s20) .none kV20 dc20 pm20 an20 cd20 ct20), s20, n20, p20, d20⟩, ⟨"_law_condition", 21, f21, (PySem.W.fnOf "_law_condition" "_law_condition" (defArgs s21) (defBody s21) (defScope s21) .none kV21 dc21 pm21 an21 cd21 ct21), s21, n21, p21, d21⟩, ⟨"_law_stop", 22, f22, (PySem.W.fnOf "_law_stop" "_law_stop" (defArgs s22) (defBody s22) (defScope s22) .none kV22 dc22 pm22 an22 cd22 ct22), s22, n22, p22, d22⟩, ⟨"_law_nest", 23, f23, (PySem.W.fnOf "_law_nest" "_law_nest" (defArgs s23) (defBody s23) (defScope s23) .none kV23 dc23 pm23 an23 cd23 ct23), s23, n23, p23, d23⟩, ⟨"_law_statement", 24, f24, (PySem.W.fnOf "_law_statement" "_law_statement" (defArgs s24) (defBody s24) (defScope s24) .none kV24 dc24 pm24 an24 cd24 ct24), s24, n24, p24, d24⟩, ⟨"_law_body", 25, f25, (PySem.W.fnOf "_law_body" "_law_body" (defArgs s25) (defBody s25) (defScope s25) .none kV25 dc25 pm25 an25 cd25 ct25), s25, n25, p25, d25⟩, ⟨"_law_program", 26, f26, (PySem.W.fnOf "_law_program" "_law_program" (defArgs s26) (defBody s26) (defScope s26) .none kV26 dc26 pm26 an26 cd26 ct26), s26, n26, p26, d26⟩, ⟨"_law_parts", 27, f27, (PySem.W.fnOf "_law_parts" "_law_parts" (defArgs s27) (defBody s27) (defScope s27) .none kV27 dc27 pm27 an27 cd27 ct27), s27, n27, p27, d27⟩, ⟨"_law_wild", 28, f28, (PySem.W.fnOf "_law_wild" "_law_wild" (defArgs s28) (defBody s28) (defScope s28) .none kV28 dc28 pm28 an28 cd28 ct28), s28, n28, p28, d28⟩, ⟨"_law_tree", 29, f29, (PySem.W.fnOf "_law_tree" "_law_tree" (defArgs s29) (defBody s29) (defScope s29) .none kV29 dc29 pm29 an29 cd29 ct29), s29, n29, p29, d29⟩, ⟨"_law_wrapped", 30, f30, (PySem.W.fnOf "_law_wrapped" "_law_wrapped" (defArgs s30) (defBody s30) (defScope s30) .none kV30 dc30 pm30 an30 cd30 ct30), s30, n30, p30, d30⟩, ⟨"_law_any", 31, f31, (PySem.W.fnOf "_law_any" "_law_any" (defArgs s31) (defBody s31) (defScope s31) .none kV31 dc31 pm31 an31 cd31 ct31), s31, n31, p31, d31⟩, ⟨"_law_bodies", 32, f32, (PySem.W.fnOf "_law_bodies" "_law_bodies" (defArgs s32) (defBody s32) (defScope s32) .none kV32 dc32 pm32 an32 cd32 ct32), s32, n32, p32, d32⟩, ⟨"_law_conditions", 33, f33, (PySem.W.fnOf "_law_conditions" "_law_conditions" (defArgs s33) (defBody s33) (defScope s33) .none kV33 dc33 pm33 an33 cd33 ct33), s33, n33, p33, d33⟩, ⟨"_law_numbered_condition", 35, f35, (PySem.W.fnOf "_law_numbered_condition" "_law_numbered_condition" (defArgs s35) (defBody s35) (defScope s35) .none kV35 dc35 pm35 an35 cd35 ct35), s35, n35, p35, d35⟩, ⟨"_law_resolved_jump", 36, f36, (PySem.W.fnOf "_law_resolved_jump" "_law_resolved_jump" (defArgs s36) (defBody s36) (defScope s36) .none kV36 dc36 pm36 an36 cd36 ct36), s36, n36, p36, d36⟩, ⟨"_law_resolved", 37, f37, (PySem.W.fnOf "_law_resolved" "_law_resolved" (defArgs s37) (defBody s37) (defScope s37) .none kV37 dc37 pm37 an37 cd37 ct37), s37, n37, p37, d37⟩, ⟨"_law_places", 47, f47, (PySem.W.fnOf "_law_places" "_law_places" (defArgs s47) (defBody s47) (defScope s47) .none kV47 dc47 pm47 an47 cd47 ct47), s47, n47, p47, d47⟩, ⟨"_law_deep", 48, f48, (PySem.W.fnOf "_law_deep" "_law_deep" (defArgs s48) (defBody s48) (defScope s48) .none kV48 dc48 pm48 an48 cd48 ct48), s48, n48, p48, d48⟩, ⟨"_law_depths", 49, f49, (PySem.W.fnOf "_law_depths" "_law_depths" (defArgs s49) (defBody s49) (defScope s49) .none kV49 dc49 pm49 an49 cd49 ct49), s49, n49, p49, d49⟩, ⟨"_law_great", 50, f50, (PySem.W.fnOf "_law_great" "_law_great" (defArgs s50) (defBody s50) (defScope s50) .none kV50 dc50 pm50 an50 cd50 ct50), s50, n50, p50, d50⟩]
  have P : ProgOk ⟨PySem.Challenge.rw_flowform_k02_places_and_depths.prog, w, K, mg, base⟩ D es cs bl ds := by
    refine ⟨fun e he => ?_, fun x v hx => ?_, fun x hx => ?_, fun x kvs hx => ?_⟩
    · have E : es.map Ent.pair = fnm := rfl
      rw [E]
      simp only [es, List.mem_cons, List.not_mem_nil, or_false] at he
      rcases he with rfl | rfl | rfl | rfl | rfl | rfl | rfl | rfl | rfl | rfl | rfl | rfl | rfl | rfl | rfl | rfl | rfl | rfl | rfl | rfl | rfl | rfl | rfl | rfl | rfl | rfl | rfl | rfl | rfl | rfl | rfl | rfl | rfl | rfl | rfl | rfl
      · have F := fun_at l11 c11 k11
        exact ⟨PySem.W.mg_of X G a11, F, F.binds (ps := p11) fun _ _ _ _ _ _ us hl => match us, hl with | [_], _ => rfl, sc11, rfl, rfl, rfl, t11⟩
      · have F := fun_at l12 c12 k12
        exact ⟨PySem.W.mg_of X G a12, F, F.binds (ps := p12) fun _ _ _ _ _ _ us hl => match us, hl with | [_], _ => rfl, sc12, rfl, rfl, rfl, t12⟩
      · have F := fun_at l13 c13 k13
        exact ⟨PySem.W.mg_of X G a13, F, F.binds (ps := p13) fun _ _ _ _ _ _ us hl => match us, hl with | [_], _ => rfl, sc13, rfl, rfl, rfl, t13⟩
      · have F := fun_at l40 c40 k40
        exact ⟨PySem.W.mg_of X G a40, F, F.binds (ps := p40) fun _ _ _ _ _ _ us hl => match us, hl with | [_], _ => rfl, sc40, rfl, rfl, rfl, t40⟩
      · have F := fun_at l41 c41 k41
        exact ⟨PySem.W.mg_of X G a41, F, F.binds (ps := p41) fun _ _ _ _ _ _ us hl => match us, hl with | [_], _ => rfl, sc41, rfl, rfl, rfl, t41⟩
      · have F := fun_at l42 c42 k42
        exact ⟨PySem.W.mg_of X G a42, F, F.binds (ps := p42) fun _ _ _ _ _ _ us hl => match us, hl with | [_], _ => rfl, sc42, rfl, rfl, rfl, t42⟩
      · have F := fun_at l43 c43 k43
        exact ⟨PySem.W.mg_of X G a43, F, F.binds (ps := p43) fun _ _ _ _ _ _ us hl => match us, hl with | [_], _ => rfl, sc43, rfl, rfl, rfl, t43⟩
      · have F := fun_at l44 c44 k44
        exact ⟨PySem.W.mg_of X G a44, F, F.binds (ps := p44) fun _ _ _ _ _ _ us hl => match us, hl with | [_], _ => rfl, sc44, rfl, rfl, rfl, t44⟩
      · have F := fun_at l45 c45 k45
        exact ⟨PySem.W.mg_of X G a45, F, F.binds (ps := p45) fun _ _ _ _ _ _ us hl => match us, hl with | [_], _ => rfl, sc45, rfl, rfl, rfl, t45⟩
      · have F := fun_at l46 c46 k46
        exact ⟨PySem.W.mg_of X G a46, F, F.binds (ps := p46) fun _ _ _ _ _ _ us hl => match us, hl with | [_], _ => rfl, sc46, rfl, rfl, rfl, t46⟩
      · have F := fun_at l4 c4 k4
        exact ⟨PySem.W.mg_of X G a4, F, F.binds (ps := p4) fun _ _ _ _ _ _ us hl => match us, hl with | [_], _ => rfl, sc4, rfl, rfl, rfl, t4⟩
      · have F := fun_at l5 c5 k5
        exact ⟨PySem.W.mg_of X G a5, F, F.binds (ps := p5) fun _ _ _ _ _ _ us hl => match us, hl with | [_, _], _ => rfl, sc5, rfl, rfl, rfl, t5⟩
      · have F := fun_at l6 c6 k6
        exact ⟨PySem.W.mg_of X G a6, F, F.binds (ps := p6) fun _ _ _ _ _ _ us hl => match us, hl with | [_, _], _ => rfl, sc6, rfl, rfl, rfl, t6⟩
      · have F := fun_at l18 c18 k18
        exact ⟨PySem.W.mg_of X G a18, F, F.binds (ps := p18) fun _ _ _ _ _ _ us hl => match us, hl with | [_], _ => rfl, sc18, rfl, rfl, rfl, t18⟩
      · have F := fun_at l19 c19 k19
        exact ⟨PySem.W.mg_of X G a19, F, F.binds (ps := p19) fun _ _ _ _ _ _ us hl => match us, hl with | [_, _, _], _ => rfl, sc19, rfl, rfl, rfl, t19⟩
      · have F := fun_at l20 c20 k20
        exact ⟨PySem.W.mg_of X G a20, F, F.binds (ps := p20) fun _ _ _ _ _ _ us hl => match us, hl with | [_, _, _], _ => rfl, sc20, rfl, rfl, rfl, t20⟩
      · have F := fun_at l21 c21 k21
        exact ⟨PySem.W.mg_of X G a21, F, F.binds (ps := p21) fun _ _ _ _ _ _ us hl => match us, hl with | [_, _, _], _ => rfl, sc21, rfl, rfl, rfl, t21⟩
      · have F := fun_at l22 c22 k22
        exact ⟨PySem.W.mg_of X G a22, F, F.binds (ps := p22) fun _ _ _ _ _ _ us hl => match us, hl with | [_, _, _], _ => rfl, sc22, rfl, rfl, rfl, t22⟩
      · have F := fun_at l23 c23 k23
        exact ⟨PySem.W.mg_of X G a23, F, F.binds (ps := p23) fun _ _ _ _ _ _ us hl => match us, hl with | [_, _, _, _, _, _], _ => rfl, sc23, rfl, rfl, rfl, t23⟩
      · have F := fun_at l24 c24 k24
        exact ⟨PySem.W.mg_of X G a24, F, F.binds (ps := p24) fun _ _ _ _ _ _ us hl => match us, hl with | [_, _, _, _, _, _, _], _ => rfl, sc24, rfl, rfl, rfl, t24⟩
      · have F := fun_at l25 c25 k25
        exact ⟨PySem.W.mg_of X G a25, F, F.binds (ps := p25) fun _ _ _ _ _ _ us hl => match us, hl with | [_, _, _, _, _, _], _ => rfl, sc25, rfl, rfl, rfl, t25⟩
      · have F := fun_at l26 c26 k26
        exact ⟨PySem.W.mg_of X G a26, F, F.binds (ps := p26) fun _ _ _ _ _ _ us hl => match us, hl with | [_, _], _ => rfl, sc26, rfl, rfl, rfl, t26⟩
      · have F := fun_at l27 c27 k27
        exact ⟨PySem.W.mg_of X G a27, F, F.binds (ps := p27) fun _ _ _ _ _ _ us hl => match us, hl with | [_], _ => rfl, sc27, rfl, rfl, rfl, t27⟩
      · have F := fun_at l28 c28 k28
        exact ⟨PySem.W.mg_of X G a28, F, F.binds (ps := p28) fun _ _ _ _ _ _ us hl => match us, hl with | [_, _, _, _], _ => rfl, sc28, rfl, rfl, rfl, t28⟩
      · have F := fun_at l29 c29 k29
        exact ⟨PySem.W.mg_of X G a29, F, F.binds (ps := p29) fun _ _ _ _ _ _ us hl => match us, hl with | [_, _, _, _], _ => rfl, sc29, rfl, rfl, rfl, t29⟩
      · have F := fun_at l30 c30 k30
        exact ⟨PySem.W.mg_of X G a30, F, F.binds (ps := p30) fun _ _ _ _ _ _ us hl => match us, hl with | [_, _, _, _], _ => rfl, sc30, rfl, rfl, rfl, t30⟩
      · have F := fun_at l31 c31 k31
        exact ⟨PySem.W.mg_of X G a31, F, F.binds (ps := p31) fun _ _ _ _ _ _ us hl => match us, hl with | [_, _], _ => rfl, sc31, rfl, rfl, rfl, t31⟩
      · have F := fun_at l32 c32 k32
        exact ⟨PySem.W.mg_of X G a32, F, F.binds (ps := p32) fun _ _ _ _ _ _ us hl => match us, hl with | [_], _ => rfl, sc32, rfl, rfl, rfl, t32⟩
      · have F := fun_at l33 c33 k33
        exact ⟨PySem.W.mg_of X G a33, F, F.binds (ps := p33) fun _ _ _ _ _ _ us hl => match us, hl with | [_], _ => rfl, sc33, rfl, rfl, rfl, t33⟩
      · have F := fun_at l35 c35 k35
        exact ⟨PySem.W.mg_of X G a35, F, F.binds (ps := p35) fun _ _ _ _ _ _ us hl => match us, hl with | [_, _], _ => rfl, sc35, rfl, rfl, rfl, t35⟩
      · have F := fun_at l36 c36 k36
        exact ⟨PySem.W.mg_of X G a36, F, F.binds (ps := p36) fun _ _ _ _ _ _ us hl => match us, hl with | [_, _], _ => rfl, sc36, rfl, rfl, rfl, t36⟩
      · have F := fun_at l37 c37 k37
        exact ⟨PySem.W.mg_of X G a37, F, F.binds (ps := p37) fun _ _ _ _ _ _ us hl => match us, hl with | [_, _, _, _], _ => rfl, sc37, rfl, rfl, rfl, t37⟩
      · have F := fun_at l47 c47 k47
        exact ⟨PySem.W.mg_of X G a47, F, F.binds (ps := p47) fun _ _ _ _ _ _ us hl => match us, hl with | [_], _ => rfl, sc47, rfl, rfl, rfl, t47⟩
      · have F := fun_at l48 c48 k48
        exact ⟨PySem.W.mg_of X G a48, F, F.binds (ps := p48) fun _ _ _ _ _ _ us hl => match us, hl with | [_], _ => rfl, sc48, rfl, rfl, rfl, t48⟩
      · have F := fun_at l49 c49 k49
        exact ⟨PySem.W.mg_of X G a49, F, F.binds (ps := p49) fun _ _ _ _ _ _ us hl => match us, hl with | [_, _], _ => rfl, sc49, rfl, rfl, rfl, t49⟩
      · have F := fun_at l50 c50 k50
        exact ⟨PySem.W.mg_of X G a50, F, F.binds (ps := p50) fun _ _ _ _ _ _ us hl => match us, hl with | [_, _], _ => rfl, sc50, rfl, rfl, rfl, t50⟩
    · cases hx
    · have hm : x ∈ bl := by simpa using hx
      simp only [bl, List.mem_cons, List.not_mem_nil, or_false] at hm
      rcases hm with rfl | rfl | rfl | rfl | rfl | rfl | rfl | rfl | rfl | rfl | rfl
      · exact PySem.W.mg_none_of X G b0
      · exact PySem.W.mg_none_of X G b1
      · exact PySem.W.mg_none_of X G b2
      · exact PySem.W.mg_none_of X G b3
      · exact PySem.W.mg_none_of X G b4
      · exact PySem.W.mg_none_of X G b5
      · exact PySem.W.mg_none_of X G b6
      · exact PySem.W.mg_none_of X G b7
      · exact PySem.W.mg_none_of X G b8
      · exact PySem.W.mg_none_of X G b9
      · exact PySem.W.mg_none_of X G b10
    · have hm := PySem.mem_of_lookup hx
      simp only [ds, List.mem_cons, List.not_mem_nil, or_false, Prod.mk.injEq] at hm
      rcases hm with ⟨rfl, rfl⟩
      · exact ⟨da_0, de_0, dn_0, PySem.W.mg_of X G dg0, ⟨dl0, di0, dj0⟩, dm0⟩
  have FL := fun_at l0 c0 k0
  have E0 : EntG ⟨PySem.Challenge.rw_flowform_k02_places_and_depths.prog, w, K, mg, base⟩ D (es.map Ent.pair) cs bl ds ⟨"law", 0, fa, (PySem.W.fnOf "law" "law" (defArgs s0) (defBody s0) (defScope s0) .none kV0 dc0 pm0 an0 cd0 ct0), s0, n0, p0, d0⟩ := ⟨PySem.W.mg_of X G a0, FL, sc0, rfl, rfl, rfl, t0⟩
  exact law_top (turns := TURNS) (k := DEEP) (x := "script") P _ E0 rfl (fun s u => .of_eq rfl) ⟨rfl, by decide, by decide +kernel⟩ nl Ev hl ho hs
end

end K02

set_option maxHeartbeats 4000000
namespace K02
section

open PySem L2 U
/-- the tape's four items -/
abbrev tp (c : Nat) (p q z : Int) : List PV := [.loc c, .int p, .int q, .int z]
theorem draw_ok {k : Nat} {st : Store} {t c : Nat} {ns : List Int} {p q z m : Int} (ht : st[t]? = some (.lst (tp c p q z))) (hc : st[c]? = some (.lst (ns.map .int))) (hp : 0 ≤ p) (hq : 0 ≤ q) (hz : 0 ≤ z) (hm : m < 1000000) :
    ∃ r p' q' z', evCall TURNS D (k + 1) 5 [.loc t, .int m] st = .ok (.int r) (setAt st t (tp c p' q' z')) ∧ 0 ≤ r ∧ r < max m 1 ∧ 0 ≤ p' ∧ 0 ≤ q' ∧ 0 ≤ z' := by
  have hct : c ≠ t := by
    rintro rfl
    rw [ht] at hc
    have hc : Cell.lst _ = Cell.lst _ := Option.some.inj hc
    injection hc with hc
    cases ns with
    | nil => cases hc
    | cons n ns => injection hc with h1 _; cases h1
  have htl : t < st.length := (List.getElem?_eq_some_iff.mp ht).1
  have hs : ∀ (s : Store) (x : List PV), s.length = st.length → (setAt s t x)[t]? = some (.lst x) := fun s x e => by simp [setAt, htl, e]
  have hs2 : ∀ (s : Store) (x : List PV), s[c]? = some (.lst (ns.map .int)) → (setAt s t x)[c]? = some (.lst (ns.map .int)) := fun s x e => by unfold setAt; rw [List.getElem?_set_ne (Ne.symm hct)]; exact e
  have hs1 : ∀ (x : List PV), (setAt st t x)[t]? = some (.lst x) := fun x => hs st x rfl
  have hss : ∀ (x y : List PV), (setAt (setAt st t x) t y) = setAt st t y := fun x y => by simp [setAt]
  have e2 : ixN 4 2 = some 2 := rfl
  have e1 : ixN 4 1 = some 1 := rfl
  have e3 : ixN 4 3 = some 3 := rfl
  generalize hM1 : (if m < 1 then 1 else m) = M1
  generalize hM2 : (if m < 2 then 2 else m) = M2
  have m1 : 0 < M1 ∧ M1 = max m 1 := by rw [← hM1]; split <;> omega
  have m2 : 0 < M2 ∧ M2 < 1073741824 := by rw [← hM2]; split <;> omega
  have fdiv : ∀ (i : Int) (s : Store), binV .fdiv (.int i) (.int M2) s = some (.int (i / M2)) := fun i s => bin_fdiv_int m2
  have fmod : ∀ (i : Int) (s : Store), binV .mod (.int i) (.int M1) s = some (.int (i % M1)) := fun i s => bin_mod_int m1.1
  have fin : ∀ (v : PV) (x : List PV), leave st.length v (setAt st t x) = .ok v (setAt st t x) := fun v x => leave_setAt v st t x
  by_cases h0 : q = 0
  · subst h0
    clear htl
    -- what stands behind the first if, for the number that was drawn
    have mulA : ∀ (i : Int) (s : Store), binV .mul (.int i) (.int 48271) s = some (.int (i * 48271)) := fun i s => bin_mul_int (by simp [ckM])
    have mulB : ∀ (i : Int) (s : Store), binV .mul (.int i) (.int 69621) s = some (.int (i * 69621)) := fun i s => bin_mul_int (by simp [ckM])
    have modA : ∀ (i : Int) (s : Store), binV .mod (.int i) (.int 2147483647) s = some (.int (i % 2147483647)) := fun i s => bin_mod_int (by decide)
    have modB : ∀ (i : Int) (s : Store), binV .mod (.int i) (.int 2147483629) s = some (.int (i % 2147483629)) := fun i s => bin_mod_int (by decide)
    have powA : ∀ (s : Store), binV .pow (.int 10) (.int 18) s = some (.int (10 ^ 18)) := fun s => bin_pow_int (by decide)
    have lenA : ∀ s : Store, s[c]? = some (.lst (ns.map .int)) → biV .len [.loc c] s = some (.int ns.length) := fun s h => by rw [bi_len_loc h]; simp
    by_cases hl : p < ns.length
    · obtain ⟨n, hn⟩ : ∃ n, ns[p.toNat]? = some n := ⟨ns[p.toNat]'(by omega), by simp⟩
      have hn2 : atI (ns.map PV.int) p = some (.int n) := atI_nn hp (by rw [List.getElem?_map, hn]; rfl)
      generalize ha : (if n < 0 then -n else n) = a
      have a0 : 0 ≤ a := by rw [← ha]; split <;> omega
      by_cases hb : a < 1000000000000000000
      · simp only [evCall, D, d5]
        simp [evSs, evS, ev, evA, evCs, ix_loc ht, cmp_eq_int, hs1, ht, hM1, hM2, fdiv, fmod, ME.held, e1, e2, e3, hss, mulA, mulB, modA, modB, powA, lenA _ hc, hl, ix_loc hc, hb, hn2, ha]
        exact ⟨_, _, _, _, fin _ _, Int.emod_nonneg _ (by omega), by rw [← m1.2]; exact Int.emod_lt_of_pos _ m1.1, by omega, by omega, hz⟩
      · simp only [evCall, D, d5]
        simp [evSs, evS, ev, evA, evCs, ix_loc ht, cmp_eq_int, hs1, ht, hM1, hM2, fdiv, fmod, ME.held, e1, e2, e3, hss, mulA, mulB, modA, modB, powA, lenA _ hc, hl, ix_loc hc, hb, hn2, ha, ix_loc (hs1 _)]
        exact ⟨_, _, _, _, fin _ _, Int.emod_nonneg _ (by omega), by rw [← m1.2]; exact Int.emod_lt_of_pos _ m1.1, by omega, Int.ediv_nonneg a0 (by omega), hz⟩
    · have hb : (z * 48271 + p + 1) % 2147483647 < 1000000000000000000 := Int.lt_trans (Int.emod_lt_of_pos _ (by decide)) (by decide)
      simp only [evCall, D, d5]
      simp [evSs, evS, ev, evA, evCs, ix_loc ht, cmp_eq_int, hs1, ht, hM1, hM2, fdiv, fmod, ME.held, e1, e2, e3, hss, mulA, mulB, modA, modB, powA, lenA _ hc, hl, ix_loc hc, hb, ix_loc (hs1 _)]
      exact ⟨_, _, _, _, fin _ _, Int.emod_nonneg _ (by omega), by rw [← m1.2]; exact Int.emod_lt_of_pos _ m1.1, by omega, by omega, Int.emod_nonneg _ (by omega)⟩
  · simp only [evCall, D, d5]
    clear htl
    simp [evSs, evS, ev, evA, evCs, ix_loc ht, cmp_eq_int, h0, hs1, ht, hM1, hM2, fdiv, fmod, ME.held, e2, hss]
    exact ⟨_, _, _, _, fin _ _, Int.emod_nonneg _ (by omega), by rw [← m1.2]; exact Int.emod_lt_of_pos _ m1.1, hp, Int.ediv_nonneg hq (by omega), hz⟩

end
section

open PySem L2 U
/-- the store with the script's numbers and the tape -/
def TS (ns : List Int) (p q z : Int) : Store := [.lst (ns.map .int), .lst (tp 0 p q z)]
def T (ns : List Int) (st : Store) : Prop := ∃ p q z, 0 ≤ p ∧ 0 ≤ q ∧ 0 ≤ z ∧ st = TS ns p q z
theorem T.len {ns : List Int} {st : Store} (h : T ns st) : st.length = 2 := by
  obtain ⟨p, q, z, _, _, _, rfl⟩ := h
  rfl
theorem drawT {k : Nat} {ns : List Int} {st : Store} {m : Int} (h : T ns st) (hm : 1 ≤ m ∧ m < 1000000) : ∃ r st', evCall TURNS D (k + 1) 5 [.loc 1, .int m] st = .ok (.int r) st' ∧ T ns st' ∧ 0 ≤ r ∧ r < m := by
  obtain ⟨p, q, z, hp, hq, hz, rfl⟩ := h
  obtain ⟨r, p', q', z', h1, h2, h3, h4, h5, h6⟩ := draw_ok (k := k) (st := TS ns p q z) (t := 1) (c := 0) (ns := ns) rfl rfl hp hq hz hm.2
  exact ⟨r, _, h1, ⟨p', q', z', h4, h5, h6, rfl⟩, h2, by omega⟩
theorem leaveT {ns : List Int} {st : Store} {v : PV} (h : T ns st) : leave 2 v st = .ok v st := leave_same (by rw [h.len]; exact Nat.le_refl _)
theorem pick {α : Type} {xs : List α} {i : Int} (h0 : 0 ≤ i) (h1 : i < xs.length) : ∃ x, x ∈ xs ∧ atI xs i = some x :=
  ⟨xs[i.toNat]'(by omega), List.getElem_mem _, atI_nn h0 (by simp)⟩
theorem ixS {s : Str} {i : Int} {st : Store} (h0 : 0 ≤ i) (h1 : i < s.length) (hz : s.length ≤ 1000000) : ∃ c, c ∈ s.cps.toList ∧ ixV (.str s) (.int i) st = some (.str ⟨#[c]⟩) := by
  have e := TL.len_tl s
  have hz2 : s.length ≤ sizeLine := by rw [sizeLine_eq]; omega
  obtain ⟨c, hc, h⟩ := pick (xs := s.cps.toList) h0 (by show i < ((TL.tl s).length : Int); omega)
  exact ⟨c, hc, by rw [ix_str_ hz2, h]; rfl⟩
/-- the tape -/
theorem tape_ok {k : Nat} {ns : List Int} : ∃ z, 0 ≤ z ∧ evCall TURNS D (k + 1) 4 [.rol (ns.map .int)] [] = .ok (.fl (tp 0 0 0 z)) [.lst (ns.map .int)] := by
  obtain ⟨e, s, h1, t, x, ht, rfl, rfl⟩ := forLoop_inv (put := MG.put (.nm 2)) (body := evSs (evCall TURNS D k) TURNS b4_0) (xs := ns.map .int)
    (fun j env st => ∃ t x, 0 ≤ t ∧ env = [some (.rol (ns.map .int)), some (.int t), x] ∧ st = []) (fun j x env st hx ⟨t, y, ht, e1, e2⟩ => by
      subst e1 e2
      rw [List.getElem?_map] at hx
      obtain ⟨n, hn, rfl⟩ := Option.map_eq_some_iff.mp hx
      have mulA : ∀ (i : Int) (s : Store), binV .mul (.int i) (.int 31) s = some (.int (i * 31)) := fun i s => bin_mul_int (by simp [ckM])
      have modA : ∀ (i : Int) (s : Store), binV .mod (.int i) (.int 2147483647) s = some (.int (i % 2147483647)) := fun i s => bin_mod_int (by decide)
      refine ⟨_, rfl, ?_⟩
      simp [b4_0, evSs, evS, ev, evCs, mulA, modA]
      exact Int.emod_nonneg _ (by decide)) ns.length 0 [some (.rol (ns.map .int)), some (.int 7), none] [] (by simp) ⟨7, none, by decide, rfl, rfl⟩
  refine ⟨t, ht, ?_⟩
  simp only [evCall, D, d4]
  simp [evSs, evS, ev, evA, evCs, evSrc, srcV, Src.many, h1, ME.held, leave, PV.low, PV.lowL, sizeLine_eq]
theorem len_app (x y : Str) : (x ++ y).length = x.length + y.length := by
  have h1 := TL.len_tl (x ++ y)
  rw [TL.tl_append, List.length_append] at h1
  have h2 := TL.len_tl x
  have h3 := TL.len_tl y
  omega
theorem add_ok {x y : Str} {st : Store} (hx : x.length ≤ 100000) (hy : y.length ≤ 100000) : binV .add (.str x) (.str y) st = some (.str (x ++ y)) := bin_add_str (by rw [sizeLine_eq]; omega)
theorem sl_str_ok {x : Str} {lo hi : Option Int} {st : Store} (hx : x.length ≤ 100000) : slV (.str x) lo hi st = some (.str (cutS x lo hi)) := if_pos (by rw [sizeLine_eq]; omega)
theorem cut_len {x : Str} {lo hi : Option Int} {n : Nat} (h : x.length ≤ n) : (cutS x lo hi).length ≤ n := Nat.le_trans (cutS_length x lo hi) h
theorem one_len (c : Nat) : (⟨#[c]⟩ : Str).length = 1 := rfl
theorem len_ok {x : Str} {st : Store} (hx : x.length ≤ 100000) : biV .len [.str x] st = some (.int x.length) := bi_len_str (by rw [sizeLine_eq]; omega)
theorem bound_non : bound true .non = some none := rfl
theorem bound_int (i : Int) : bound false (.int i) = some (some i) := rfl
/-- a text of at most n signs, all below 256 -/
def B (n : Nat) (x : Str) : Prop := x.length ≤ n ∧ ∀ c ∈ x.cps.toList, c < 256
def bB (n : Nat) (x : Str) : Bool := decide (x.length ≤ n) && x.cps.toList.all fun c => decide (c < 256)
theorem B.of {n : Nat} {x : Str} (h : bB n x = true) : B n x := by
  unfold bB at h
  rw [Bool.and_eq_true, List.all_eq_true] at h
  exact ⟨of_decide_eq_true h.1, fun c hc => of_decide_eq_true (h.2 c hc)⟩
theorem B.mono {n m : Nat} {x : Str} (h : B n x) (k : n ≤ m) : B m x := ⟨Nat.le_trans h.1 k, h.2⟩
theorem B.app {n m : Nat} {x y : Str} (h : B n x) (k : B m y) : B (n + m) (x ++ y) := by
  refine ⟨by rw [len_app]; have := h.1; have := k.1; omega, fun c hc => ?_⟩
  have hc : c ∈ TL.tl (x ++ y) := hc
  rw [TL.tl_append, List.mem_append] at hc
  exact hc.elim (h.2 c) (k.2 c)
theorem B.cut {n : Nat} {x : Str} (h : B n x) (lo hi : Option Int) : B n (cutS x lo hi) :=
  ⟨cut_len h.1, fun c hc => h.2 c (List.mem_of_mem_drop (List.mem_of_mem_take hc))⟩
theorem B.one {c : Nat} (h : c < 256) : B 1 ⟨#[c]⟩ := ⟨Nat.le_refl _, fun d hd => by
  have : d = c := by simpa using hd
  rw [this]; exact h⟩
theorem num_all : (List.range 100).all (fun k => bB 5 (Str.ofString (toString (k : Int)))) = true := by decide +kernel
theorem num_B {i : Int} (h0 : 0 ≤ i) (h : i < 100) : B 5 (Str.ofString (toString i)) := by
  have := (List.all_eq_true.mp num_all) i.toNat (List.mem_range.mpr (by omega))
  rw [Int.toNat_of_nonneg h0] at this
  exact B.of this
/-- one of some texts -/
theorem pickS {xs : List PV} {i : Int} {P : Str → Prop} (h0 : 0 ≤ i) (h1 : i < xs.length) (h : ∀ x ∈ xs, ∃ s : Str, x = .str s ∧ P s) : ∃ s : Str, atI xs i = some (.str s) ∧ P s := by
  obtain ⟨x, hx, e⟩ := pick h0 h1
  obtain ⟨s, rfl, hs⟩ := h x hx
  exact ⟨s, e, hs⟩
/-- what a call comes to -/
def gets {α : Type} (r : Res α) (P : α → Store → Prop) : Prop := match r with
  | .ok a st => P a st
  | .bad => False
@[simp] theorem gets_ok {α : Type} (a : α) (st : Store) (P : α → Store → Prop) : gets (.ok a st) P = P a st := rfl
theorem of_gets {α : Type} {r : Res α} {P : α → Store → Prop} (h : gets r P) : ∃ a st, r = .ok a st ∧ P a st := by
  cases r with
  | ok a st => exact ⟨a, st, rfl, h⟩
  | bad => exact h.elim
theorem strsL_map {α : Type} (f : α → Str) : ∀ l : List α, strsL (l.map fun x => .str (f x)) = some (l.map f)
  | [] => rfl
  | x :: r => by
    show (strsL (r.map fun x => .str (f x))).map (f x :: ·) = _
    rw [strsL_map f r]; rfl
theorem num_len {i : Int} (h0 : 0 ≤ i) (h : i < 10000) : (toString i : Str).length ≤ 5 ∧ i.natAbs < 1000000 := by
  have e := PySem.int_text_length_le10 (a := i) (k := 4) (by decide) (by omega)
  refine ⟨?_, by omega⟩
  show (Str.ofString (toString i)).length ≤ 5
  rw [show (Str.ofString (toString i)).length = (toString i : String).length by rw [TL.len_tl, TL.tl_ofString, List.length_map]; rfl]
  exact e

end
section

open PySem L2 U
theorem loopA {k : Nat} {ns : List Int} {st : Store} {sg name : Str} {r : Int} {a1 a3 a4 a5 a6 a7 a9 a10 : Option PV} (hg : ∀ (i : Int) (st : Store), 0 ≤ i → i < 63 → ∃ c, ixV (.str sg) (.int i) st = some (.str ⟨#[c]⟩) ∧ c < 256)
    (t : T ns st) (hn : B 21 name) (h0 : 0 ≤ r) (h1 : r ≤ 6) :
    ∃ nm x9 st', forLoop (MG.put (.nm 9)) (evSs (evCall TURNS D (k + 1)) TURNS b6_0) (.items ((List.range r.toNat).map fun (k : Nat) => .int k)) 0 r.toNat [some (.loc 1), a1, some (.str sg), a3, a4, a5, a6, a7, some (.str name), a9, a10] st
      = .nx [some (.loc 1), a1, some (.str sg), a3, a4, a5, a6, a7, some (.str nm), x9, a10] st' ∧ B 27 nm ∧ T ns st' := by
  obtain ⟨e, s, q1, nm, x9, q2, q3, q4⟩ := forLoop_inv (put := MG.put (.nm 9)) (body := evSs (evCall TURNS D (k + 1)) TURNS b6_0) (xs := (List.range r.toNat).map fun (k : Nat) => .int k)
    (fun j env st => ∃ nm x9, B (21 + j) nm ∧ T ns st ∧ env = [some (.loc 1), a1, some (.str sg), a3, a4, a5, a6, a7, some (.str nm), x9, a10]) (fun j x env st hx ⟨nm, x9, e1, e2, e3⟩ => by
      subst e3
      have hj : j < r.toNat := by
        have := (List.getElem?_eq_some_iff.mp hx).1
        simpa using this
      obtain ⟨q, st1, g1, g2, g3, g4⟩ := drawT (k := k) (m := 63) e2 (by decide)
      obtain ⟨c, hc, hc2⟩ := hg q st1 g3 g4
      have le1 := e1.1
      have a := add_ok (x := nm) (y := ⟨#[c]⟩) (st := st1) (by omega) (by rw [one_len]; omega)
      refine ⟨_, rfl, ?_⟩
      simp [b6_0, evSs, evS, ev, evA, evCs, g1, hc, a]
      exact ⟨e1.app (.one hc2), g2⟩) r.toNat 0 _ st (by simp) ⟨name, a9, hn, t, rfl⟩
  refine ⟨nm, x9, s, by rw [q1, q4], q2.mono ?_, q3⟩
  have : ((List.range r.toNat).map fun (k : Nat) => PV.int k).length = r.toNat := by simp
  omega
def SG : Str := "abcdefghijklmnopqrstuvwxyzABCDEFGHIJKLMNOPQRSTUVWXYZ0123456789_"
theorem SG_B : B 63 SG := .of (by decide +kernel)
theorem SG_ok (i : Int) (st : Store) (h0 : 0 ≤ i) (h1 : i < 63) : ∃ c, ixV (.str SG) (.int i) st = some (.str ⟨#[c]⟩) ∧ c < 256 := by
  obtain ⟨c, hm, h⟩ := ixS (s := SG) (st := st) h0 (by rw [show Str.length SG = 63 by decide +kernel]; omega) (by decide +kernel)
  exact ⟨c, h, SG_B.2 c hm⟩
def WL : List PV := [.str "let", .str "if", .str "else", .str "while", .str "for", .str "break", .str "continue", .str "return", .str "try", .str "finally", .str "true", .str "false"]
theorem WL_ok {i : Int} (l1 : 0 ≤ i) (u1 : i < 12) : ∃ s : Str, atI WL i = some (.str s) ∧ B 8 s := pickS (xs := WL) l1 (by simpa [WL] using u1) (by
    intro x hx
    simp only [WL, List.mem_cons, List.not_mem_nil, or_false] at hx
    rcases hx with rfl | rfl | rfl | rfl | rfl | rfl | rfl | rfl | rfl | rfl | rfl | rfl <;> exact ⟨_, rfl, .of (by decide +kernel)⟩)
theorem inW (x : Str) (st : Store) : ∃ b, cmpV .inn (.str x) (.fl WL) st = some b := by
  have h : ∃ b, memF (.str x) WL = some b := ⟨_, rfl⟩
  obtain ⟨b, h⟩ := h
  refine ⟨b, ?_⟩
  show U.inV (.str x) (.fl WL) st = some b
  unfold U.inV
  simp only [seq_fl, h]
theorem inXs (x : Str) (xs : List Str) (st : Store) : ∃ b, cmpV .inn (.str x) (.fl (xs.map .str)) st = some b := by
  have e : ∀ l : List Str, flL (l.map .str) = some (l.map V.str) := fun l => by
    induction l with
    | nil => rfl
    | cons z l ih =>
      show (match flV (.str z), flL (l.map .str) with | some v, some vs => some (v :: vs) | _, _ => none) = _
      rw [ih]; rfl
  have h : memF (.str x) (xs.map .str) = some (L2.inV (.str x) (xs.map V.str)) := by
    show (match flV (.str x), flL (xs.map .str) with | some x, some vs => some (L2.inV x vs) | _, _ => none) = _
    rw [e]; rfl
  refine ⟨L2.inV (.str x) (xs.map V.str), ?_⟩
  show U.inV (.str x) (.fl (xs.map .str)) st = _
  unfold U.inV
  simp only [seq_fl, h]
/-- what follows the stem in a turn -/
theorem turnA {k : Nat} {ns : List Int} {st : Store} {stem : Str} {place : Int} {a8 a9 a10 : Option PV} {xs : List Str} {j : Nat} {mn : Int} (hj : j < 100) (hxs : xs.length < 100) (t : T ns st) (hs0 : B 10 stem) (h0 : 0 ≤ place) :
    ∃ x a9' a10' st', evSs (evCall TURNS D (k + 1)) TURNS b6_1 [some (.loc 1), some (.int mn), some (.str SG), some (.fl WL), some (.str stem), some (.int place), some (.fl (xs.map .str)), some (.int j), a8, a9, a10] st
      = .nx [some (.loc 1), some (.int mn), some (.str SG), some (.fl WL), some (.str stem), some (.int place), some (.fl (xs.map .str ++ [.str x])), some (.int j), some (.str x), a9', a10'] st' ∧ B 60 x ∧ T ns st' := by
  have hs := hs0.1
  obtain ⟨r1, st1, h1, t1, l1, u1⟩ := drawT (k := k) (m := 52) t (by decide)
  obtain ⟨c1, hc1, hc1b⟩ := SG_ok r1 st1 l1 (by omega)
  have q1 := cut_len (lo := none) (hi := some place) hs
  have q2 := cut_len (lo := some place) (hi := none) hs
  have d1 := sl_str_ok (x := stem) (lo := none) (hi := some place) (st := st) (by omega)
  have d2 := sl_str_ok (x := stem) (lo := some place) (hi := none) (st := st1) (by omega)
  have m1 := add_ok (x := cutS stem none (some place)) (y := ⟨#[c1]⟩) (st := st1) (by omega) (by rw [one_len]; omega)
  have m2 := add_ok (x := cutS stem none (some place) ++ ⟨#[c1]⟩) (y := cutS stem (some place) none) (st := st1) (by rw [len_app, one_len]; omega) (by omega)
  obtain ⟨r3, st3, h3, t3, l3, u3⟩ := drawT (k := k) (m := 6) (ns := ns) (st := st1) t1 (by decide)
  have e3 : ∃ n : Int, atI [PV.int 0, .int 0, .int 0, .int 1, .int 2, .int 6] r3 = some (.int n) ∧ 0 ≤ n ∧ n ≤ 6 := by
    obtain ⟨y, hy, e3⟩ := pick (xs := [PV.int 0, .int 0, .int 0, .int 1, .int 2, .int 6]) (i := r3) l3 (by simpa using u3)
    simp only [List.mem_cons, List.not_mem_nil, or_false] at hy
    rcases hy with rfl | rfl | rfl | rfl | rfl | rfl <;> exact ⟨_, e3, by decide, by decide⟩
  obtain ⟨n, e3, n0, n6⟩ := e3
  have hr : rngV (.int 0) (.int n) st3 = .ok (.items ((List.range (n - 0).toNat).map fun (k : Nat) => .int (0 + k))) st3 := if_pos (by omega)
  rw [show n - 0 = n by omega] at hr
  simp only [Int.zero_add] at hr
  obtain ⟨nm, x9, st4, g1, g2, g3⟩ := loopA (k := k) (sg := SG) (name := cutS stem none (some place) ++ ⟨#[c1]⟩ ++ cutS stem (some place) none) (a1 := some (.int mn)) (a3 := some (.fl WL)) (a4 := some (.str stem)) (a5 := some (.int place)) (a6 := some (.fl (xs.map .str))) (a7 := some (.int j)) (a9 := a9) (a10 := a10) SG_ok t3 ((((hs0.cut _ _).app (.one hc1b)).app (hs0.cut _ _)).mono (by omega)) n0 n6
  have g2b := g2
  have g2 := g2b.1
  obtain ⟨r5, st5, h5, t5, l5, u5⟩ := drawT (k := k) (m := 16) g3 (by decide)
  have hx2 : xs.length < 16777216 := by omega
  have jb := num_B (i := (j : Int)) (by omega) (by omega)
  have jl := jb.1
  have ja : (j : Int).natAbs < 1000000 := by omega
  have wj := fun st => bi_str (i := (j : Int)) (st := st) ja
  generalize Str.ofString (toString (j : Int)) = Z at jl wj jb
  have o23 : Str.length ("one_of_two_equal_names_" : Str) = 23 := by decide +kernel
  have kj := fun st => add_ok (x := ("one_of_two_equal_names_" : Str)) (y := Z) (st := st) (by decide +kernel) (by omega)
  have one24 : B 60 (("one_of_two_equal_names_" : Str) ++ Z) := ((B.of (n := 23) (by decide +kernel)).app jb).mono (by omega)
  by_cases c0 : r5 = 0
  · subst c0
    have k1 := len_ok (x := nm) (st := st5) (by omega)
    have k2 := bin_mul_str (x := "x") (j := 30 - nm.length) (st := st5) ⟨by omega, by omega, by rw [show Str.length "x" = 1 by decide +kernel]; omega⟩
    have k4 : (⟨((List.replicate (30 - (nm.length : Int)).toNat (Str.cps "x").toList).flatten).toArray⟩ : Str).length = (30 - (nm.length : Int)).toNat := by
      rw [TL.len_tl]
      show ((List.replicate (30 - (nm.length : Int)).toNat (Str.cps "x").toList).flatten).length = _
      rw [List.length_flatten, List.map_replicate, List.sum_replicate_nat, show (Str.cps "x").toList.length = 1 by decide +kernel]
      omega
    have k5 : B 30 (⟨((List.replicate (30 - (nm.length : Int)).toNat (Str.cps "x").toList).flatten).toArray⟩ : Str) := ⟨by omega, fun c hc => by
      have hc : c ∈ ((List.replicate (30 - (nm.length : Int)).toNat (Str.cps "x").toList).flatten) := hc
      obtain ⟨l, h1, h2⟩ := List.mem_flatten.mp hc
      rw [(List.mem_replicate.mp h1).2] at h2
      exact (B.of (n := 1) (x := "x") (by decide +kernel)).2 c h2⟩
    generalize (⟨((List.replicate (30 - (nm.length : Int)).toNat (Str.cps "x").toList).flatten).toArray⟩ : Str) = XX at k2 k4 k5
    have k3 := add_ok (x := nm) (y := XX) (st := st5) (by omega) (by omega)
    obtain ⟨b, hb⟩ := inW (nm ++ XX) st5
    obtain ⟨b2, hb2⟩ := inXs (nm ++ XX) xs st5
    cases b with
    | false =>
      cases b2 with
      | false =>
        simp [b6_1, evSs, evS, ev, evA, evCs, evSrc, d1, h1, hc1, m1, d2, m2, h3, e3, hr, Src.many, g1, h5, ME.absent, bound_non, bound_int, hx2, -List.map_map, k1, k2, k3, hb, hb2, sizeLine_eq]
        exact ⟨_, _, _, _, ⟨⟨rfl, rfl, rfl⟩, rfl⟩, (g2b.app k5).mono (by omega), t5⟩
      | true =>
        simp [b6_1, evSs, evS, ev, evA, evCs, evSrc, d1, h1, hc1, m1, d2, m2, h3, e3, hr, Src.many, g1, h5, ME.absent, bound_non, bound_int, hx2, -List.map_map, k1, k2, k3, hb, hb2, wj, kj, sizeLine_eq]
        exact ⟨_, _, _, _, ⟨⟨rfl, rfl, rfl⟩, rfl⟩, one24, t5⟩
    | true =>
      simp [b6_1, evSs, evS, ev, evA, evCs, evSrc, d1, h1, hc1, m1, d2, m2, h3, e3, hr, Src.many, g1, h5, ME.absent, bound_non, bound_int, hx2, -List.map_map, k1, k2, k3, hb, wj, kj, sizeLine_eq]
      exact ⟨_, _, _, _, ⟨⟨rfl, rfl, rfl⟩, rfl⟩, one24, t5⟩
  by_cases c1' : r5 = 1
  · subst c1'
    obtain ⟨r6, st6, h6, t6, l6, u6⟩ := drawT (k := k) (m := 12) t5 (by decide)
    obtain ⟨w, hw, lwb⟩ := WL_ok l6 u6
    have lw := lwb.1
    have s1 := sl_str_ok (x := nm) (lo := none) (hi := some 1) (st := st6) (by omega)
    have s2 := cut_len (x := nm) (lo := none) (hi := some 1) g2
    have k3 := add_ok (x := w) (y := cutS nm none (some 1)) (st := st6) (by omega) (by omega)
    obtain ⟨b, hb⟩ := inW (w ++ cutS nm none (some 1)) st6
    obtain ⟨b2, hb2⟩ := inXs (w ++ cutS nm none (some 1)) xs st6
    cases b with
    | false =>
      cases b2 with
      | false =>
        simp [b6_1, evSs, evS, ev, evA, evCs, evSrc, d1, h1, hc1, m1, d2, m2, h3, e3, hr, Src.many, g1, h5, ME.absent, bound_non, bound_int, hx2, -List.map_map, h6, hw, s1, k3, hb, hb2, sizeLine_eq]
        exact ⟨_, _, _, _, ⟨⟨rfl, rfl, rfl⟩, rfl⟩, (lwb.app (g2b.cut _ _)).mono (by omega), t6⟩
      | true =>
        simp [b6_1, evSs, evS, ev, evA, evCs, evSrc, d1, h1, hc1, m1, d2, m2, h3, e3, hr, Src.many, g1, h5, ME.absent, bound_non, bound_int, hx2, -List.map_map, h6, hw, s1, k3, hb, hb2, wj, kj, sizeLine_eq]
        exact ⟨_, _, _, _, ⟨⟨rfl, rfl, rfl⟩, rfl⟩, one24, t6⟩
    | true =>
      simp [b6_1, evSs, evS, ev, evA, evCs, evSrc, d1, h1, hc1, m1, d2, m2, h3, e3, hr, Src.many, g1, h5, ME.absent, bound_non, bound_int, hx2, -List.map_map, h6, hw, s1, k3, hb, wj, kj, sizeLine_eq]
      exact ⟨_, _, _, _, ⟨⟨rfl, rfl, rfl⟩, rfl⟩, one24, t6⟩
  by_cases c2' : r5 = 2
  · subst c2'
    obtain ⟨r6, st6, h6, t6, l6, u6⟩ := drawT (k := k) (m := 12) t5 (by decide)
    obtain ⟨w, hw, lwb⟩ := WL_ok l6 u6
    have lw := lwb.1
    have s1 := sl_str_ok (x := w) (lo := none) (hi := some (-1)) (st := st6) (by omega)
    have s2 := cut_len (x := w) (lo := none) (hi := some (-1)) lw
    obtain ⟨b, hb⟩ := inW (cutS w none (some (-1))) st6
    obtain ⟨b2, hb2⟩ := inXs (cutS w none (some (-1))) xs st6
    cases b with
    | false =>
      cases b2 with
      | false =>
        simp [b6_1, evSs, evS, ev, evA, evCs, evSrc, d1, h1, hc1, m1, d2, m2, h3, e3, hr, Src.many, g1, h5, ME.absent, bound_non, bound_int, hx2, -List.map_map, h6, hw, s1, hb, hb2, sizeLine_eq]
        exact ⟨_, _, _, _, ⟨⟨rfl, rfl, rfl⟩, rfl⟩, (lwb.cut _ _).mono (by omega), t6⟩
      | true =>
        simp [b6_1, evSs, evS, ev, evA, evCs, evSrc, d1, h1, hc1, m1, d2, m2, h3, e3, hr, Src.many, g1, h5, ME.absent, bound_non, bound_int, hx2, -List.map_map, h6, hw, s1, hb, hb2, wj, kj, sizeLine_eq]
        exact ⟨_, _, _, _, ⟨⟨rfl, rfl, rfl⟩, rfl⟩, one24, t6⟩
    | true =>
      simp [b6_1, evSs, evS, ev, evA, evCs, evSrc, d1, h1, hc1, m1, d2, m2, h3, e3, hr, Src.many, g1, h5, ME.absent, bound_non, bound_int, hx2, -List.map_map, h6, hw, s1, hb, wj, kj, sizeLine_eq]
      exact ⟨_, _, _, _, ⟨⟨rfl, rfl, rfl⟩, rfl⟩, one24, t6⟩
  obtain ⟨b, hb⟩ := inW (nm) st5
  obtain ⟨b2, hb2⟩ := inXs (nm) xs st5
  cases b with
  | false =>
    cases b2 with
    | false =>
      simp [b6_1, evSs, evS, ev, evA, evCs, evSrc, d1, h1, hc1, m1, d2, m2, h3, e3, hr, Src.many, g1, h5, ME.absent, bound_non, bound_int, hx2, -List.map_map, c0, c1', c2', hb, hb2, sizeLine_eq]
      exact ⟨_, _, _, _, ⟨⟨rfl, rfl, rfl⟩, rfl⟩, g2b.mono (by omega), t5⟩
    | true =>
      simp [b6_1, evSs, evS, ev, evA, evCs, evSrc, d1, h1, hc1, m1, d2, m2, h3, e3, hr, Src.many, g1, h5, ME.absent, bound_non, bound_int, hx2, -List.map_map, c0, c1', c2', hb, hb2, wj, kj, sizeLine_eq]
      exact ⟨_, _, _, _, ⟨⟨rfl, rfl, rfl⟩, rfl⟩, one24, t5⟩
  | true =>
    simp [b6_1, evSs, evS, ev, evA, evCs, evSrc, d1, h1, hc1, m1, d2, m2, h3, e3, hr, Src.many, g1, h5, ME.absent, bound_non, bound_int, hx2, -List.map_map, c0, c1', c2', hb, wj, kj, sizeLine_eq]
    exact ⟨_, _, _, _, ⟨⟨rfl, rfl, rfl⟩, rfl⟩, one24, t5⟩
/-- the names -/
theorem names_ok {k : Nat} {ns : List Int} {st : Store} {mn : Int} (m0 : 0 ≤ mn) (m1 : mn ≤ 50) (t : T ns st) : ∃ (xs : List Str) (st' : Store), evCall TURNS D (k + 2) 6 [.loc 1, .int mn] st = .ok (.fl (xs.map .str)) st' ∧ xs.length = mn.toNat ∧ (∀ x ∈ xs, B 60 x) ∧ T ns st' := by
  obtain ⟨r1, st1, h1, t1, l1, u1⟩ := drawT (k := k) (m := 4) t (by decide)
  obtain ⟨stem, hs, lsb⟩ := pickS (xs := [.str "", .str "", .str "sharedStem", .str "while_x"]) (i := r1) (P := B 10) l1 (by simpa using u1) (by
    intro x hx
    simp only [List.mem_cons, List.not_mem_nil, or_false] at hx
    rcases hx with rfl | rfl | rfl | rfl <;> exact ⟨_, rfl, .of (by decide +kernel)⟩)
  have ls := lsb.1
  have k1 := len_ok (x := stem) (st := st1) (by omega)
  obtain ⟨r2, st2, h2, t2, l2, u2⟩ := drawT (k := k) (m := (stem.length : Int) + 1) t1 (by omega)
  have hr : rngV (.int 0) (.int mn) st2 = .ok (.items ((List.range (mn - 0).toNat).map fun (k : Nat) => .int (0 + k))) st2 := if_pos (by omega)
  rw [show mn - 0 = mn by omega] at hr
  simp only [Int.zero_add] at hr
  obtain ⟨e, st3, q1, xs, a7, a8, a9, a10, q2, q3, q4, q5⟩ := forLoop_inv (put := MG.put (.nm 7)) (body := evSs (evCall TURNS D (k + 1)) TURNS b6_1) (xs := (List.range mn.toNat).map fun (k : Nat) => .int k)
    (fun j env st => ∃ (xs : List Str) (a7 a8 a9 a10 : Option PV), xs.length = j ∧ (∀ x ∈ xs, B 60 x) ∧ T ns st ∧ env = [some (.loc 1), some (.int mn), some (.str SG), some (.fl WL), some (.str stem), some (.int r2), some (.fl (xs.map .str)), a7, a8, a9, a10]) (fun j x env st hx ⟨xs, a7, a8, a9, a10, e1, e2, e3, e4⟩ => by
      subst e4
      have hj : j < mn.toNat := by
        have := (List.getElem?_eq_some_iff.mp hx).1
        simpa using this
      have hx : x = .int j := by
        rw [List.getElem?_map, List.getElem?_range hj] at hx
        simpa using hx.symm
      subst hx
      obtain ⟨y, x9, x10, st', g1, g2, g3⟩ := turnA (k := k) (xs := xs) (j := j) (mn := mn) (stem := stem) (place := r2) (a8 := a8) (a9 := a9) (a10 := a10) (by omega) (by omega) e3 lsb l2
      refine ⟨_, rfl, ?_⟩
      show SR.go (evSs (evCall TURNS D (k + 1)) TURNS b6_1 [some (.loc 1), some (.int mn), some (.str SG), some (.fl WL), some (.str stem), some (.int r2), some (.fl (xs.map .str)), some (.int j), a8, a9, a10] st) _
      rw [g1, go_nx]
      refine ⟨xs ++ [y], some (.int j), some (.str y), x9, x10, by simp [e1], fun z hz => ?_, g3, by simp⟩
      rcases List.mem_append.mp hz with hz | hz
      · exact e2 z hz
      · rw [List.mem_singleton.mp hz]; exact g2) mn.toNat 0 [some (.loc 1), some (.int mn), some (.str SG), some (.fl WL), some (.str stem), some (.int r2), some (.fl []), none, none, none, none] st2 (by simp) ⟨[], none, none, none, none, rfl, by simp, t2, rfl⟩
  unfold SG WL at q1 q5
  refine ⟨xs, st3, ?_, by simpa using q2, q3, q4⟩
  rw [show k + 2 = (k + 1) + 1 from rfl, evCall]
  simp [D, d6, evSs, evS, ev, evA, evCs, evSrc, h1, hs, k1, h2, hr, Src.many, q1, q5, sizeLine_eq, ME.held, t.len, leaveT q4, -List.map_map]

end
end K02

set_option maxHeartbeats 4000000
namespace K02
section

open PySem L2 U
/-! ### the state: the script, the tape, what stands behind them -/
def TR (ns : List Int) (R : Store) (st : Store) : Prop := ∃ p q z, 0 ≤ p ∧ 0 ≤ q ∧ 0 ≤ z ∧ st = .lst (ns.map .int) :: .lst (tp 0 p q z) :: R
variable {ns : List Int} {R : Store} {st : Store}
theorem TR.len (h : TR ns R st) : st.length = R.length + 2 := by
  obtain ⟨p, q, z, _, _, _, rfl⟩ := h
  rfl
theorem TR.of (h : T ns st) : TR ns [] st := by
  obtain ⟨p, q, z, h1, h2, h3, rfl⟩ := h
  exact ⟨p, q, z, h1, h2, h3, rfl⟩
theorem TR.push (h : TR ns R st) (c : Store) : TR ns (R ++ c) (st ++ c) := by
  obtain ⟨p, q, z, h1, h2, h3, rfl⟩ := h
  exact ⟨p, q, z, h1, h2, h3, rfl⟩
theorem TR.at (h : TR ns R st) (n : Nat) : st[n + 2]? = R[n]? := by
  obtain ⟨p, q, z, h1, h2, h3, rfl⟩ := h
  rfl
theorem TR.set (h : TR ns R st) (n : Nat) (xs : List PV) : TR ns (R.set n (.lst xs)) (setAt st (n + 2) xs) := by
  obtain ⟨p, q, z, h1, h2, h3, rfl⟩ := h
  exact ⟨p, q, z, h1, h2, h3, rfl⟩
theorem drawR {k : Nat} {m : Int} (h : TR ns R st) (hm : 1 ≤ m ∧ m < 1000000) : ∃ r st', evCall TURNS D (k + 1) 5 [.loc 1, .int m] st = .ok (.int r) st' ∧ TR ns R st' ∧ 0 ≤ r ∧ r < m := by
  obtain ⟨p, q, z, hp, hq, hz, rfl⟩ := h
  obtain ⟨r, p', q', z', h1, h2, h3, h4, h5, h6⟩ := draw_ok (k := k) (st := .lst (ns.map .int) :: .lst (tp 0 p q z) :: R) (t := 1) (c := 0) (ns := ns) rfl rfl hp hq hz hm.2
  exact ⟨r, _, h1, ⟨p', q', z', h4, h5, h6, rfl⟩, h2, by omega⟩
/-- a call's end where the store is as long as it was -/
theorem TR.leave (h : TR ns R st) {R' : Store} {st' : Store} (h' : TR ns R' st') (e : R'.length = R.length) (v : PV) : leave st.length v st' = .ok v st' := leave_same (by rw [h.len, h'.len]; omega)
mutual
/-- nothing in it is shared -/
def PV.pure : PV → Bool
  | .tup xs => PV.pureL xs
  | .fl _ => false
  | .rol _ => false
  | .loc _ => false
  | _ => true
def PV.pureL : List PV → Bool
  | [] => true
  | x :: xs => PV.pure x && PV.pureL xs
end
mutual
theorem PV.pure_low (n : Nat) : ∀ v : PV, PV.pure v = true → PV.low n v = true
  | .tup xs, h => PV.pureL_low n xs h
  | .non, _ => rfl
  | .bl _, _ => rfl
  | .int _, _ => rfl
  | .str _, _ => rfl
theorem PV.pureL_low (n : Nat) : ∀ v : List PV, PV.pureL v = true → PV.lowL n v = true
  | [], _ => rfl
  | x :: xs, h => by
    have h : (PV.pure x && PV.pureL xs) = true := h
    rw [Bool.and_eq_true] at h
    show (PV.low n x && PV.lowL n xs) = true
    rw [PV.pure_low n x h.1, PV.pureL_low n xs h.2]; rfl
end
theorem pure_nofl {v : PV} (h : PV.pure v = true) : v.isFl = false := by cases v <;> first | rfl | cases h
def Cell.pure : Cell → Bool
  | .lst xs => PV.pureL xs
theorem lowL_ints (n : Nat) : ∀ l : List Int, PV.lowL n (l.map .int) = true
  | [] => rfl
  | _ :: l => lowL_ints n l
/-- a call's end where the store has grown -/
theorem TR.drop (h : TR ns R st) {R' C : Store} {st' : Store} (h' : TR ns (R' ++ C) st') (e : R'.length = R.length) (hR : R'.all Cell.pure = true) {v : PV} (hv : PV.pure v = true) :
    ∃ st2, U.leave st.length v st' = .ok v st2 ∧ TR ns R' st2 := by
  have l1 := h.len
  have l2 := h'.len
  obtain ⟨p, q, z, h1, h2, h3, rfl⟩ := h'
  unfold U.leave
  split
  · rename_i hl
    have : C = [] := by
      cases C with
      | nil => rfl
      | cons c C => simp at hl; omega
    subst this
    exact ⟨_, rfl, p, q, z, h1, h2, h3, by simp⟩
  · have et : (Cell.lst (ns.map .int) :: Cell.lst (tp 0 p q z) :: (R' ++ C)).take st.length = Cell.lst (ns.map .int) :: Cell.lst (tp 0 p q z) :: R' := by
      rw [l1, ← e]
      simp
    rw [et]
    have c1 : PV.low st.length v = true := PV.pure_low _ _ hv
    have c2 : (Cell.lst (ns.map .int) :: Cell.lst (tp 0 p q z) :: R').all (Cell.low st.length) = true := by
      rw [List.all_cons, List.all_cons, Bool.and_eq_true, Bool.and_eq_true]
      refine ⟨lowL_ints _ _, ?_, ?_⟩
      · show (decide (0 < st.length) && true) = true
        simp; omega
      · rw [List.all_eq_true] at hR ⊢
        intro c hc
        have := hR c hc
        cases c with
        | lst xs => exact PV.pureL_low _ _ this
    rw [c1, c2]
    exact ⟨_, rfl, p, q, z, h1, h2, h3, rfl⟩
theorem choose_on {α β : Type} [Inhabited β] {xs : List α} {P : α → β → Prop} (h : ∀ x ∈ xs, ∃ y, P x y) : ∃ f : α → β, ∀ x ∈ xs, P x (f x) := by
  classical
  exact ⟨fun x => if hx : x ∈ xs then Classical.choose (h x hx) else default, fun x hx => by
    show P x (if hx : x ∈ xs then Classical.choose (h x hx) else default)
    rw [dif_pos hx]; exact Classical.choose_spec (h x hx)⟩
/-! ### sizes -/
mutual
/-- how many tuples that begin with a word are in it -/
def pz : PV → Nat
  | .tup xs => pzT xs
  | _ => 0
def pzT : List PV → Nat
  | [] => 0
  | x :: xs => (match x with | .str _ => 1 | _ => 0) + pz x + pzL xs
def pzL : List PV → Nat
  | [] => 0
  | x :: xs => pz x + pzL xs
end
@[simp] theorem pz_str (s : Str) : pz (.str s) = 0 := by simp [pz]
@[simp] theorem pz_bl (s : Bool) : pz (.bl s) = 0 := by simp [pz]
@[simp] theorem pz_int (s : Int) : pz (.int s) = 0 := by simp [pz]
@[simp] theorem pz_non : pz .non = 0 := by simp [pz]
@[simp] theorem pzL_nil : pzL [] = 0 := by simp [pzL]
@[simp] theorem pzL_cons (x : PV) (xs : List PV) : pzL (x :: xs) = pz x + pzL xs := by simp [pzL]
@[simp] theorem pz_node (s : Str) (xs : List PV) : pz (.tup (.str s :: xs)) = 1 + pzL xs := by simp [pz, pzT]
@[simp] theorem pzL_app : ∀ (xs ys : List PV), pzL (xs ++ ys) = pzL xs + pzL ys
  | [], ys => by simp
  | x :: xs, ys => by simp [pzL_app xs ys]; omega
/-- a tuple that doesn't begin with a text -/
def noStr : List PV → Prop
  | .str _ :: _ => False
  | _ => True
theorem pz_body {xs : List PV} (h : noStr xs) : pz (.tup xs) = pzL xs := by
  cases xs with
  | nil => simp [pz, pzT]
  | cons x xs => cases x <;> first | exact h.elim | simp [pz, pzT]
theorem noStr_of {xs : List PV} (h : ∀ x ∈ xs, ∃ ys, x = .tup ys) : noStr xs := by
  cases xs with
  | nil => trivial
  | cons x xs => obtain ⟨ys, rfl⟩ := h x List.mem_cons_self; trivial
theorem pzL_mem {x : PV} : ∀ {xs : List PV}, x ∈ xs → pz x ≤ pzL xs
  | y :: ys, h => by
    rcases List.mem_cons.mp h with rfl | h
    · simp
    · have := pzL_mem h
      simp; omega
/-! ### conditions -/
/-- the word that a tuple begins with -/
def hd : PV → Option Str
  | .tup (.str k :: _) => some k
  | _ => none
def WF (v : PV) : Prop := ∃ k x : Str, (k = "call" ∨ k = "flag") ∧ B 60 x ∧ v = .tup [.str k, .str x]
def WC : Nat → PV → Prop
  | 0, v => WF v
  | d + 1, v => WF v ∨ (∃ c, v = .tup [.str "not", c] ∧ WC d c) ∨ ∃ (k : Str) (cs : List PV), (k = "and" ∨ k = "or") ∧ v = .tup [.str k, .tup cs] ∧ (∀ c ∈ cs, WC d c ∧ hd c ≠ some k) ∧ cs ≠ []
theorem WC.leaf {v : PV} (d : Nat) (h : WF v) : WC d v := by
  cases d with
  | zero => exact h
  | succ d => exact .inl h
theorem WC.up {v : PV} : ∀ {d : Nat}, WC d v → WC (d + 1) v := by
  intro d
  induction d generalizing v with
  | zero => exact fun h => .inl h
  | succ d ih =>
    intro h
    rcases h with h | ⟨c, e, h⟩ | ⟨k, cs, hk, e, h, ne⟩
    · exact .inl h
    · exact .inr (.inl ⟨c, e, ih h⟩)
    · exact .inr (.inr ⟨k, cs, hk, e, fun c hc => ⟨ih (h c hc).1, (h c hc).2⟩, ne⟩)
theorem WC.mono {v : PV} {d e : Nat} (h : WC d v) (l : d ≤ e) : WC e v := by
  induction l with
  | refl => exact h
  | step _ ih => exact ih.up
theorem WC.tup {v : PV} {d : Nat} (h : WC d v) : ∃ (k : Str) (x : PV), v = .tup [.str k, x] ∧ (k = "call" ∨ k = "flag" ∨ k = "not" ∨ k = "and" ∨ k = "or") := by
  have l : WF v → ∃ (k : Str) (x : PV), v = .tup [.str k, x] ∧ (k = "call" ∨ k = "flag" ∨ k = "not" ∨ k = "and" ∨ k = "or") := fun ⟨k, x, hk, _, e⟩ => ⟨k, .str x, e, by rcases hk with h | h <;> simp [h]⟩
  cases d with
  | zero => exact l h
  | succ d =>
    rcases h with h | ⟨c, e, h⟩ | ⟨k, cs, hk, e, h, ne⟩
    · exact l h
    · exact ⟨_, _, e, by simp⟩
    · exact ⟨_, _, e, by rcases hk with h | h <;> simp [h]⟩
theorem WC.pos {v : PV} {d : Nat} (h : WC d v) : 1 ≤ pz v := by
  obtain ⟨k, x, rfl, _⟩ := h.tup
  simp
theorem pz_many {cs : List PV} (h : ∀ c ∈ cs, 1 ≤ pz c) : cs.length ≤ pzL cs := by
  induction cs with
  | nil => simp
  | cons c cs ih =>
    have := h c List.mem_cons_self
    have := ih fun x hx => h x (List.mem_cons_of_mem _ hx)
    simp; omega
theorem WC.pure {v : PV} {d : Nat} (h : WC d v) : PV.pure v = true := by
  have l : ∀ {v}, WF v → PV.pure v = true := fun ⟨k, x, hk, _, e⟩ => by subst e; rfl
  induction d generalizing v with
  | zero => exact l h
  | succ d ih =>
    rcases h with h | ⟨c, e, h⟩ | ⟨k, cs, hk, e, h, ne⟩
    · exact l h
    · subst e
      show (true && (PV.pure c && true)) = true
      rw [ih h]; rfl
    · subst e
      show (true && (PV.pureL cs && true)) = true
      have : ∀ cs : List PV, (∀ c ∈ cs, PV.pure c = true) → PV.pureL cs = true := fun cs => by
        induction cs with
        | nil => intro _; rfl
        | cons c cs ih2 =>
          intro q
          show (PV.pure c && PV.pureL cs) = true
          rw [q c List.mem_cons_self, ih2 fun x hx => q x (List.mem_cons_of_mem _ hx)]; rfl
      rw [this cs fun c hc => ih (h c hc).1]; rfl
theorem pureL_of : ∀ {cs : List PV}, (∀ c ∈ cs, PV.pure c = true) → PV.pureL cs = true
  | [], _ => rfl
  | c :: cs, q => by
    show (PV.pure c && PV.pureL cs) = true
    rw [q c List.mem_cons_self, pureL_of fun x hx => q x (List.mem_cons_of_mem _ hx)]; rfl

end
section

open PySem L2 U
variable {ns : List Int} {R : Store} {st : Store}
/-! ### the number of parts -/
theorem intsL_map {α : Type} (f : α → Int) : ∀ l : List α, intsL (l.map fun x => .int (f x)) = some (l.map f)
  | [] => rfl
  | x :: r => by
    show (intsL (r.map fun x => .int (f x))).map (f x :: ·) = _
    rw [intsL_map f r]; rfl
theorem sum_pz : ∀ cs : List PV, ((cs.map fun c => (pz c : Int)).sum) = (pzL cs : Int)
  | [] => rfl
  | c :: cs => by
    rw [List.map_cons, List.sum_cons, sum_pz cs, pzL_cons]; omega
theorem map_inj {α β : Type} {f : α → β} (hf : ∀ a b, f a = f b → a = b) : ∀ {xs ys : List α}, xs.map f = ys.map f → xs = ys
  | [], [], _ => rfl
  | [], _ :: _, h => by cases h
  | _ :: _, [], h => by cases h
  | x :: xs, y :: ys, h => by
    rw [List.map_cons, List.map_cons] at h
    injection h with h1 h2
    rw [hf _ _ h1, map_inj hf h2]
@[simp] theorem ofS (a b : String) : (Str.ofString a = Str.ofString b) ↔ a = b := by
  refine ⟨fun h => ?_, fun h => by rw [h]⟩
  have h := congrArg TL.tl h
  rw [TL.tl_ofString, TL.tl_ofString] at h
  exact String.toList_inj.mp (map_inj (fun a b e => Char.toNat_inj.mp e) h)
theorem esc_p {v : PV} (h : PV.pure v = true) (st : Store) : esc v st = (v, st) := by cases v <;> first | rfl | cases h
theorem varV_p {v : PV} (h : PV.pure v = true) (st : Store) : varV .val (some (some v)) st = .ok v st := by cases v <;> first | rfl | cases h
/-- a comprehension over items that leaves the store -/
theorem lc_each {call : Nat → List PV → Store → Res PV} {elt : ME} {i : Nat} {env : En} {xs : List PV} {st : Store} (f : PV → PV) (hz : xs.length < 16000000) (hi : i < env.length)
    (h : ∀ x ∈ xs, ∀ env' : En, env' = env.set i (some x) → env'[i]? = some (some x) → ev call elt .val env' st = .ok (f x) st ∧ (f x).isFl = false) :
    lcLoop (fun _ s => .ok true s) (ev call elt .val) (MG.put (.nm i)) env (.items xs) 0 xs.length [] st = .ok (.fl (xs.map f)) st := by
  rw [lcLoop_pure (put := MG.put (.nm i)) (elt := ev call elt .val) (test := fun _ s => .ok true s) (fun _ => true) f (by rw [sizeLine_eq]; omega) (fun x hx => ⟨env.set i (some x), rfl, rfl, fun _ => h x hx _ rfl (by simp [hi])⟩)]
  rw [List.filter_eq_self.mpr (fun _ _ => rfl)]
theorem parts_ok : ∀ (d k : Nat) (c : PV) (st : Store), WC d c → pz c ≤ 100000 → evCall TURNS D (k + d + 1) 27 [c] st = .ok (.int (pz c)) st := by
  have l : ∀ (k : Nat) (c : PV) (st : Store), WF c → evCall TURNS D (k + 1) 27 [c] st = .ok (.int (pz c)) st := by
    rintro k c st ⟨w, x, hw, _, rfl⟩
    rcases hw with rfl | rfl <;> (rw [evCall]; simp [D, d27, evSs, evS, ev, evA, evCs, ME.held, leave_id])
  intro d
  induction d with
  | zero => exact fun k c st h _ => l k c st h
  | succ d ih =>
    intro k c st h hz
    rcases h with h | ⟨c, rfl, h⟩ | ⟨w, cs, hw, rfl, h, ne⟩
    · exact l _ c st h
    · have i := ih k c st h (by simp at hz; omega)
      rw [show k + (d + 1) + 1 = (k + d + 1) + 1 by omega, evCall]
      simp [D, d27, evSs, evS, ev, evA, evCs, ME.held, leave_id, i, esc_p h.pure]
    · have np := noStr_of fun c hc => by obtain ⟨w, x, e, _⟩ := (h c hc).1.tup; exact ⟨_, e⟩
      simp only [pz_node, pzL_cons, pzL_nil, pz_body np] at hz ⊢
      have hl := pz_many fun c hc => (h c hc).1.pos
      have lc : ∀ env : En, env.length = 2 → lcLoop (fun _ s => .ok true s) (ev (evCall TURNS D (k + d + 1)) e27_0 .val) (MG.put (.nm 1)) env (.items cs) 0 cs.length [] st = .ok (.fl (cs.map fun c => .int (pz c))) st := fun env he => by
        refine lc_each (fun c => .int (pz c)) (by omega) (by omega) fun c hc env' _ h2 => ⟨?_, rfl⟩
        have i := ih k c st (h c hc).1 (by have := pzL_mem hc; omega)
        simp [e27_0, ev, evA, h2, varV_p (h c hc).1.pure, esc_p (h c hc).1.pure, i]
      have sm : biV .sum [.fl (cs.map fun c => .int (pz c))] st = some (.int (pzL cs)) := by
        show (intsL (cs.map fun c => .int (pz c))).map (fun ns => PV.int ns.sum) = _
        rw [intsL_map, Option.map_some, sum_pz]
      rw [show k + (d + 1) + 1 = (k + d + 1) + 1 by omega, evCall]
      rcases hw with rfl | rfl <;> simp [D, d27, evSs, evS, ev, evA, evCs, ME.held, leave_id, srcV, Src.many, lc, sm, MG.slots, U.wipe]

end
section

open PySem L2 U
variable {ns : List Int} {R : Store} {st : Store}
def LAB (v : PV) : Prop := v = .non ∨ ∃ x : Str, v = .str x ∧ B 60 x
def NUM (v : PV) : Prop := v = .non ∨ ∃ i : Int, v = .int i ∧ 0 ≤ i ∧ i < 100
inductive SH (P : List PV → Prop) : PV → Prop
  | call {x : Str} (h : B 60 x) : SH P (.tup [.str "call", .str x])
  | decl {w x : Str} {b : Bool} (hw : w = "let" ∨ w = "set") (h : B 60 x) : SH P (.tup [.str w, .str x, .bl b])
  | jump {w : Str} {l : PV} (hw : w = "break" ∨ w = "continue") (h : LAB l) : SH P (.tup [.str w, l])
  | ret {n : PV} (h : NUM n) : SH P (.tup [.str "return", n])
  | block {b : List PV} (h : P b) : SH P (.tup [.str "block", .tup b])
  | for_ {l : PV} {b : List PV} (hl : LAB l) (h : P b) : SH P (.tup [.str "for", l, .tup b])
  | try_ {a b : List PV} (h1 : P a) (h2 : P b) : SH P (.tup [.str "try", .tup a, .tup b])
  | while_ {l c : PV} {b : List PV} (hl : LAB l) (hc : WC 25 c) (h : P b) : SH P (.tup [.str "while", l, c, .tup b])
  | if_ {c : PV} {a b : List PV} (hc : WC 25 c) (h1 : P a) (h2 : P b) : SH P (.tup [.str "if", c, .tup a, .tup b])
def WS : Nat → PV → Prop
  | 0 => SH fun _ => False
  | d + 1 => SH fun b => ∀ s ∈ b, WS d s
theorem SH.imp {P P' : List PV → Prop} {v : PV} (h : SH P v) (i : ∀ b, P b → P' b) : SH P' v := by
  cases h with
  | call h => exact .call h
  | decl hw h => exact .decl hw h
  | jump hw h => exact .jump hw h
  | ret h => exact .ret h
  | block h => exact .block (i _ h)
  | for_ hl h => exact .for_ hl (i _ h)
  | try_ h1 h2 => exact .try_ (i _ h1) (i _ h2)
  | while_ hl hc h => exact .while_ hl hc (i _ h)
  | if_ hc h1 h2 => exact .if_ hc (i _ h1) (i _ h2)
theorem WS.up : ∀ {d : Nat} {v : PV}, WS d v → WS (d + 1) v := by
  intro d
  induction d with
  | zero => exact fun h => SH.imp h fun _ z => z.elim
  | succ d ih => exact fun h => SH.imp h fun b z s hs => ih (z s hs)
theorem WS.mono {d e : Nat} {v : PV} (h : WS d v) (l : d ≤ e) : WS e v := by
  induction l with
  | refl => exact h
  | step _ ih => exact ih.up
theorem WS.sh {d : Nat} {v : PV} (h : WS d v) : SH (fun b => ∀ s ∈ b, WS (d - 1) s) v := by
  cases d with
  | zero => exact SH.imp h fun _ z => z.elim
  | succ d => exact h
theorem SH.tup {P : List PV → Prop} {v : PV} (h : SH P v) : ∃ (k : Str) (xs : List PV), v = .tup (.str k :: xs) := by
  cases h <;> exact ⟨_, _, rfl⟩
theorem WS.tup {d : Nat} {v : PV} (h : WS d v) : ∃ (k : Str) (xs : List PV), v = .tup (.str k :: xs) := h.sh.tup
theorem WS.pos {d : Nat} {v : PV} (h : WS d v) : 1 ≤ pz v := by
  obtain ⟨k, xs, rfl⟩ := h.tup
  simp
theorem LAB.pure {v : PV} (h : LAB v) : PV.pure v = true := by rcases h with rfl | ⟨x, rfl, _⟩ <;> rfl
theorem NUM.pure {v : PV} (h : NUM v) : PV.pure v = true := by rcases h with rfl | ⟨x, rfl, _⟩ <;> rfl
theorem LAB.pz {v : PV} (h : LAB v) : pz v = 0 := by rcases h with rfl | ⟨x, rfl, _⟩ <;> simp
theorem NUM.pz {v : PV} (h : NUM v) : pz v = 0 := by rcases h with rfl | ⟨x, rfl, _⟩ <;> simp
theorem WS.pure {d : Nat} {v : PV} (h : WS d v) : PV.pure v = true := by
  have t : ∀ (k : Str) (xs : List PV), (∀ x ∈ xs, PV.pure x = true) → PV.pure (.tup (.str k :: xs)) = true := fun k xs h => by
    show (true && PV.pureL xs) = true
    rw [pureL_of h]; rfl
  have go : ∀ (P : List PV → Prop), (∀ b, P b → ∀ s ∈ b, PV.pure s = true) → ∀ {v : PV}, SH P v → PV.pure v = true := by
    intro P hP v h
    have tb : ∀ b, P b → PV.pure (.tup b) = true := fun b hb => pureL_of (hP b hb)
    cases h with
    | call h => rfl
    | decl hw h => rfl
    | jump hw h => exact t _ _ fun x hx => by rw [List.mem_singleton.mp hx]; exact h.pure
    | ret h => exact t _ _ fun x hx => by rw [List.mem_singleton.mp hx]; exact h.pure
    | block h => exact t _ _ fun x hx => by rw [List.mem_singleton.mp hx]; exact tb _ h
    | for_ hl h =>
      refine t _ _ fun x hx => ?_
      simp only [List.mem_cons, List.not_mem_nil, or_false] at hx
      rcases hx with rfl | rfl
      · exact hl.pure
      · exact tb _ h
    | try_ h1 h2 =>
      refine t _ _ fun x hx => ?_
      simp only [List.mem_cons, List.not_mem_nil, or_false] at hx
      rcases hx with rfl | rfl
      · exact tb _ h1
      · exact tb _ h2
    | while_ hl hc h =>
      refine t _ _ fun x hx => ?_
      simp only [List.mem_cons, List.not_mem_nil, or_false] at hx
      rcases hx with rfl | rfl | rfl
      · exact hl.pure
      · exact hc.pure
      · exact tb _ h
    | if_ hc h1 h2 =>
      refine t _ _ fun x hx => ?_
      simp only [List.mem_cons, List.not_mem_nil, or_false] at hx
      rcases hx with rfl | rfl | rfl
      · exact hc.pure
      · exact tb _ h1
      · exact tb _ h2
  induction d generalizing v with
  | zero => exact go _ (fun _ z => z.elim) h
  | succ d ih => exact go _ (fun b z s hs => ih (z s hs)) h
theorem pz_b {d : Nat} {b : List PV} (h : ∀ s ∈ b, WS d s) : pz (.tup b) = pzL b := pz_body (noStr_of fun s hs => by obtain ⟨k, xs, e⟩ := (h s hs).tup; exact ⟨_, e⟩)
@[simp] theorem isN_non (st : Store) : cmpV .isN .non .non st = some true := rfl
@[simp] theorem isN_str (x : Str) (st : Store) : cmpV .isN (.str x) .non st = some false := rfl
@[simp] theorem notN_non (st : Store) : cmpV .notN .non .non st = some false := rfl
@[simp] theorem notN_str (x : Str) (st : Store) : cmpV .notN (.str x) .non st = some true := rfl

end
section

open PySem L2 U
@[simp] theorem len_lit (s : String) : (Str.ofString s).length = s.length := by rw [TL.len_tl, TL.tl_ofString, List.length_map]; rfl

end
section

open PySem L2 U
theorem bin_add_fl {xs ys : List PV} {st : Store} (h : xs.length + ys.length ≤ 16000000) : binV .add (.fl xs) (.fl ys) st = some (.fl (xs ++ ys)) := if_pos (by rw [sizeLine_eq]; omega)

end
section

open PySem L2 U
variable {ns : List Int} {R : Store} {st : Store}
/-! ### generators -/
def NM (xs : List Str) : Prop := xs ≠ [] ∧ xs.length ≤ 50 ∧ ∀ x ∈ xs, B 60 x
theorem nameR {k : Nat} {xs : List Str} (h : TR ns R st) (hx : NM xs) : ∃ r st' x, evCall TURNS D (k + 1) 5 [.loc 1, .int xs.length] st = .ok (.int r) st' ∧ TR ns R st' ∧ atI (xs.map PV.str) r = some (.str x) ∧ B 60 x ∧ x ∈ xs := by
  obtain ⟨h1, h2, h3⟩ := hx
  have hl : 1 ≤ xs.length := by
    cases xs with
    | nil => exact absurd rfl h1
    | cons x xs => simp
  obtain ⟨r, st', q1, q2, q3, q4⟩ := drawR (k := k) (m := (xs.length : Int)) h (by omega)
  obtain ⟨y, hy, q5⟩ := pick (xs := xs.map PV.str) (i := r) q3 (by rw [List.length_map]; omega)
  obtain ⟨x, hx, rfl⟩ := List.mem_map.mp hy
  exact ⟨r, st', x, q1, q2, q5, h3 x hx, hx⟩
theorem side_ok {d : Nat} {w : Str} {l : PV} (hw : w = "and" ∨ w = "or") (h : WC (d + 1) l) : ∃ P : List PV, P ≠ [] ∧ (∀ c ∈ P, WC (d + 1) c ∧ hd c ≠ some w) ∧ pzL P ≤ pz l ∧ P.length ≤ pz l ∧
    (l = .tup [.str w, .tup P] ∨ (P = [l] ∧ ∃ (w' : Str) (x : PV), l = .tup [.str w', x] ∧ ¬ w' = w)) := by
  by_cases e : hd l = some w
  · rcases h with ⟨k, x, hk, _, rfl⟩ | ⟨c, rfl, _⟩ | ⟨k, cs, hk, rfl, h, ne⟩
    · have e := Option.some.inj e
      subst e
      rcases hk with rfl | rfl <;> simp at hw
    · have e := Option.some.inj e
      subst e
      simp at hw
    · have e := Option.some.inj e
      subst e
      have np := noStr_of fun c hc => by obtain ⟨w, x, e, _⟩ := (h c hc).1.tup; exact ⟨_, e⟩
      have hl := pz_many fun c hc => (h c hc).1.pos
      refine ⟨cs, ne, fun c hc => ⟨(h c hc).1.up, (h c hc).2⟩, ?_, ?_, .inl rfl⟩
      · rw [pz_node, pzL_cons, pzL_nil, pz_body np]; omega
      · rw [pz_node, pzL_cons, pzL_nil, pz_body np]; omega
  · have hp := h.pos
    obtain ⟨w', x, rfl, _⟩ := h.tup
    refine ⟨[.tup [.str w', x]], by simp, fun c hc => by rw [List.mem_singleton.mp hc]; exact ⟨h, e⟩, by rw [pzL_cons, pzL_nil]; omega, by rw [List.length_cons, List.length_nil]; omega, .inr ⟨rfl, w', x, rfl, fun z => e (by rw [z]; rfl)⟩⟩
theorem bi_list_tup (xs : List PV) (st : Store) : biV .list [.tup xs] st = some (.fl xs) := rfl
theorem bi_tuple_fl (xs : List PV) (st : Store) : biV .tuple [.fl xs] st = some (.tup xs) := rfl
theorem joined_ok {d : Nat} {w : Str} {l r : PV} (hw : w = "and" ∨ w = "or") (hl : WC (d + 1) l) (hr : WC (d + 1) r) (zl : pz l ≤ 1000) (zr : pz r ≤ 1000) :
    ∃ v, (∀ k st, evCall TURNS D (k + 1) 20 [.str w, l, r] st = .ok v st) ∧ WC (d + 2) v ∧ pz v ≤ 1 + pz l + pz r ∧ PV.pure v = true := by
  obtain ⟨P, pn, p1, p2, p3, p4⟩ := side_ok hw hl
  obtain ⟨Q, qn, q1, q2, q3, q4⟩ := side_ok hw hr
  have hall : ∀ c ∈ P ++ Q, WC (d + 1) c ∧ hd c ≠ some w := fun c hc => (List.mem_append.mp hc).elim (p1 c) (q1 c)
  have hwc : WC (d + 2) (.tup [.str w, .tup (P ++ Q)]) := .inr (.inr ⟨w, P ++ Q, hw, rfl, hall, fun e => pn (List.append_eq_nil_iff.mp e).1⟩)
  refine ⟨.tup [.str w, .tup (P ++ Q)], fun k st => ?_, hwc, ?_, hwc.pure⟩
  · have pl := hl.pure
    have pr := hr.pure
    have el := fun st => esc_p pl st
    have er := fun st => esc_p pr st
    have vl := fun st => varV_p pl st
    have vr := fun st => varV_p pr st
    have z0 : P.length < 16777216 ∧ Q.length < 16777216 ∧ P.length + Q.length ≤ 16777216 ∧ P.length + Q.length < 16777216 := by omega
    obtain ⟨z1, z2, z3, z4⟩ := z0
    rw [evCall]
    rcases p4 with rfl | ⟨rfl, w1, x, rfl, n1⟩ <;> rcases q4 with rfl | ⟨rfl, w2, y, rfl, n2⟩
    · have c1 := fun st => bin_add_fl (xs := []) (ys := P) (st := st) (by simp; omega)
      have c2 := fun st => bin_add_fl (xs := P) (ys := Q) (st := st) (by omega)
      simp only [List.nil_append] at c1
      simp [D, d20, b20_0, evSs, evS, ev, evA, evCs, evSrc, ME.held, leave_id, srcV, Src.many, forLoop, Src.get, MG.put, sizeLine_eq, bi_list_tup, bi_tuple_fl, c1, c2, el, er, vl, vr, Src.fits]
    · have c1 := fun st => bin_add_fl (xs := []) (ys := P) (st := st) (by simp; omega)
      simp only [List.nil_append] at c1
      simp [D, d20, b20_0, evSs, evS, ev, evA, evCs, evSrc, ME.held, leave_id, srcV, Src.many, forLoop, Src.get, MG.put, sizeLine_eq, bi_list_tup, bi_tuple_fl, c1, el, er, vl, vr, Src.fits, n2, z1]
    · have c1 := fun st => bin_add_fl (xs := [PV.tup [.str w1, x]]) (ys := Q) (st := st) (by simp; omega)
      simp only [List.cons_append, List.nil_append] at c1
      simp [D, d20, b20_0, evSs, evS, ev, evA, evCs, evSrc, ME.held, leave_id, srcV, Src.many, forLoop, Src.get, MG.put, sizeLine_eq, bi_list_tup, bi_tuple_fl, c1, el, er, vl, vr, Src.fits, n1]
    · simp [D, d20, b20_0, evSs, evS, ev, evA, evCs, evSrc, ME.held, leave_id, srcV, Src.many, forLoop, Src.get, MG.put, sizeLine_eq, bi_list_tup, bi_tuple_fl, el, er, vl, vr, Src.fits, n1, n2]
  · have np := noStr_of fun c hc => by obtain ⟨w, x, e, _⟩ := (hall c hc).1.tup; exact ⟨_, e⟩
    rw [pz_node, pzL_cons, pzL_nil, pz_body np, pzL_app]; omega

end
section

open PySem L2 U
variable {ns : List Int} {R : Store} {st : Store}
abbrev FR (a b : Int) : List PV := [.int 0, .int a, .int 0, .int 0, .int 0, .int b]
def CS (ns : List Int) (R : Store) (f : Nat) (a b : Int) (st : Store) : Prop := TR ns (R.set f (.lst (FR a b))) st
structure Wl (R : Store) (xs : List Str) (f w : Nat) : Prop where
  hn : R[0]? = some (.lst (xs.map .str))
  hw : R[w]? = some (.lst [.loc (f + 2), .loc 2, .loc 2, .loc 2])
  f0 : f ≠ 0
  fw : f ≠ w
  fl : f < R.length
variable {xs : List Str} {f w : Nat} {a b : Int}
theorem CS.cn (h : CS ns R f a b st) (W : Wl R xs f w) : st[2]? = some (.lst (xs.map .str)) := by
  have := TR.at h 0
  rw [List.getElem?_set_ne W.f0, W.hn] at this
  exact this
theorem CS.cw (h : CS ns R f a b st) (W : Wl R xs f w) : st[w + 2]? = some (.lst [.loc (f + 2), .loc 2, .loc 2, .loc 2]) := by
  have := TR.at h w
  rw [List.getElem?_set_ne W.fw, W.hw] at this
  exact this
theorem CS.cf (h : CS ns R f a b st) (W : Wl R xs f w) : st[f + 2]? = some (.lst (FR a b)) := by
  have := TR.at h f
  rw [List.getElem?_set_self W.fl] at this
  exact this
theorem CS.set (h : CS ns R f a b st) (a' b' : Int) : CS ns R f a' b' (setAt st (f + 2) (FR a' b')) := by
  have := TR.set h f (FR a' b')
  rw [List.set_set] at this
  exact this
theorem CS.len (h : CS ns R f a b st) : st.length = R.length + 2 := by
  have := TR.len h
  simpa using this
theorem truth_loc {n : Nat} {ys : List PV} {st : Store} (h : st[n]? = some (.lst ys)) : done .test (.loc n) st = .ok (.bl (!ys.isEmpty)) st := by
  show (opt ((seqOf (.loc n) st).map fun xs => !xs.isEmpty) st).bind _ = _
  rw [seq_loc h]; rfl
theorem leaf_ok {k : Nat} (W : Wl R xs f w) (hx : NM xs) (h : CS ns R f a b st) : ∃ v st' a', evCall TURNS D (k + 2) 19 [.loc 1, .loc (w + 2), .loc 2] st = .ok v st' ∧ WF v ∧ CS ns R f a' b st' := by
  have e1 : ixN 6 1 = some 1 := rfl
  have xe : (xs.map PV.str).isEmpty = false := by
    cases xs with
    | nil => exact absurd rfl hx.1
    | cons x xs => rfl
  have t0 := truth_loc (h.cn W)
  rw [xe] at t0
  have iw := ix_loc (k := 0) (h.cw W)
  have i1 := ix_loc (k := 1) (h.cf W)
  have fin : ∀ {st'} {a'}, CS ns R f a' b st' → ∀ v, leave st.length v st' = .ok v st' := fun c v => leave_same (by rw [c.len, h.len]; omega)
  rw [show k + 2 = (k + 1) + 1 from rfl, evCall]
  by_cases h0 : a = 0
  · obtain ⟨r, st1, x, q1, q2, q3, q4, _⟩ := nameR (k := k) h hx
    have q2 : CS ns R f a b st1 := q2
    have bl := bi_len_loc (h.cn W)
    rw [List.length_map] at bl
    have ix := ix_loc (k := r) (q2.cn W)
    rw [q3] at ix
    refine ⟨.tup [.str "flag", .str x], st1, a, ?_, ⟨_, _, .inr rfl, q4, rfl⟩, q2⟩
    simp [D, d19, evSs, evS, ev, evA, evCs, ME.held, iw, i1, t0, h0, bl, q1, ix, fin q2, sizeLine_eq]
  · obtain ⟨r3, st1, g1, g2, g3, g4⟩ := drawR (k := k) (m := 3) h (by decide)
    have g2 : CS ns R f a b st1 := g2
    by_cases h3 : r3 = 0
    · subst h3
      obtain ⟨r, st2, x, q1, q2, q3, q4, _⟩ := nameR (k := k) g2 hx
      have q2 : CS ns R f a b st2 := q2
      have bl := bi_len_loc (g2.cn W)
      rw [List.length_map] at bl
      have ix := ix_loc (k := r) (q2.cn W)
      rw [q3] at ix
      refine ⟨.tup [.str "flag", .str x], st2, a, ?_, ⟨_, _, .inr rfl, q4, rfl⟩, q2⟩
      simp [D, d19, evSs, evS, ev, evA, evCs, ME.held, iw, i1, t0, h0, g1, bl, q1, ix, fin q2, sizeLine_eq]
    · have g5 := g2.set (a - 1) b
      obtain ⟨r, st2, x, q1, q2, q3, q4, _⟩ := nameR (k := k) g5 hx
      have q2 : CS ns R f (a - 1) b st2 := q2
      have bl := bi_len_loc (g5.cn W)
      rw [List.length_map] at bl
      have ix := ix_loc (k := r) (q2.cn W)
      rw [q3] at ix
      have j1 := ix_loc (k := 1) (g2.cf W)
      have jf := g2.cf W
      have jw := ix_loc (k := 1) (g5.cw W)
      have jw2 := ix_loc (k := 1) (g5.cw W)
      refine ⟨.tup [.str "call", .str x], st2, a - 1, ?_, ⟨_, _, .inl rfl, q4, rfl⟩, q2⟩
      simp [D, d19, evSs, evS, ev, evA, evCs, ME.held, iw, i1, t0, h0, g1, h3, j1, jf, e1, jw, bl, q1, ix, fin q2, sizeLine_eq]

end
section

open PySem L2 U
variable {ns : List Int} {R : Store} {st : Store} {xs : List Str} {f w : Nat} {a b : Int}
theorem cutL_lo {α : Type} (A C : List PV) : cutL (A ++ C) none (some (A.length : Int)) = A := by
  unfold cutL
  rw [HT.sIx_nat, HT.sIx_none]
  have : min A.length (A ++ C).length = A.length := by simp
  rw [this]
  simp
theorem cutL_hi {α : Type} (A C : List PV) (i : Int) (h : i = (A.length : Int)) : cutL (A ++ C) (some i) none = C := by
  subst h
  unfold cutL
  rw [HT.sIx_nat, HT.sIx_none]
  have : min A.length (A ++ C).length = A.length := by simp
  rw [this, List.drop_left, List.take_of_length_le (by simp)]
theorem split2 {ps : List PV} {i : Int} (h0 : 0 ≤ i) (h1 : i < (ps.length : Int) - 1) : ∃ A p q C, ps = A ++ p :: q :: C ∧ (A.length : Int) = i := by
  refine ⟨ps.take i.toNat, ps[i.toNat]'(by omega), ps[i.toNat + 1]'(by omega), ps.drop (i.toNat + 2), ?_, ?_⟩
  · have e1 : ps.drop i.toNat = ps[i.toNat]'(by omega) :: ps.drop (i.toNat + 1) := List.drop_eq_getElem_cons (by omega)
    have e2 : ps.drop (i.toNat + 1) = ps[i.toNat + 1]'(by omega) :: ps.drop (i.toNat + 2) := List.drop_eq_getElem_cons (by omega)
    have e3 : ps = ps.take i.toNat ++ ps.drop i.toNat := (List.take_append_drop _ _).symm
    rw [e1, e2] at e3
    exact e3
  · rw [List.length_take]; omega
theorem rng_ok' {n : Int} (h0 : 0 ≤ n) (h1 : n < 100000) (st : Store) : rngV (.int 0) (.int n) st = .ok (.items ((List.range n.toNat).map fun (k : Nat) => .int k)) st := by
  have hr : rngV (.int 0) (.int n) st = .ok (.items ((List.range (n - 0).toNat).map fun (k : Nat) => .int (0 + k))) st := if_pos (by omega)
  rw [show n - 0 = n by omega] at hr
  simp only [Int.zero_add] at hr
  exact hr
/-- not, so many times -/
theorem nots_ok {call : Nat → List PV → Store → Res PV} {n : Nat} (hn : n ≤ 2) {v : PV} (hv : WF v) {a0 a1 a2 a3 a4 a5 a7 a8 : Option PV} {st : Store} :
    ∃ v' x7, forLoop (MG.put (.nm 7)) (evSs call TURNS b21_1) (.items ((List.range n).map fun (k : Nat) => .int k)) 0 n [a0, a1, a2, a3, a4, a5, some v, a7, a8] st = .nx [a0, a1, a2, a3, a4, a5, some v', x7, a8] st ∧ WC 2 v' ∧ pz v' ≤ 3 := by
  obtain ⟨e, s, q1, v', x7, q2, q3, q4, q5⟩ := forLoop_inv (put := MG.put (.nm 7)) (body := evSs call TURNS b21_1) (xs := (List.range n).map fun (k : Nat) => .int k)
    (fun j env s => ∃ v' x7, s = st ∧ env = [a0, a1, a2, a3, a4, a5, some v', x7, a8] ∧ WC j v' ∧ pz v' ≤ 1 + j) (fun j x env s hx ⟨v', x7, e1, e2, e3, e4⟩ => by
      subst e1 e2
      refine ⟨[a0, a1, a2, a3, a4, a5, some v', some x, a8], rfl, ?_⟩
      have p := varV_p e3.pure s
      have p2 := esc_p e3.pure s
      simp [b21_1, evSs, evS, ev, evA, p, p2, sizeLine_eq]
      exact ⟨.inr (.inl ⟨v', rfl, e3⟩), by omega⟩) n 0 [a0, a1, a2, a3, a4, a5, some v, a7, a8] st (by simp) ⟨v, a7, rfl, rfl, WC.leaf 0 hv, by
        obtain ⟨w, x, hw, hx, rfl⟩ := hv
        simp⟩
  rw [show ((List.range n).map fun (k : Nat) => PV.int k).length = n by simp] at q4 q5
  exact ⟨v', x7, by rw [q1, q2, q3], q4.mono hn, by omega⟩

end
section

open PySem L2 U
variable {ns : List Int} {R : Store} {st : Store} {xs : List Str} {f w : Nat} {a b : Int}
/-- the parts -/
theorem cond_parts {k : Nat} (W : Wl R xs f w) (hx : NM xs) {n : Nat} (hn : n ≤ 4) {x5 x6 x7 x8 : Option PV} (h : CS ns R f a b st) :
    ∃ (ps : List PV) (a' : Int) (x5' x6' x7' : Option PV) (st' : Store), forLoop (MG.put (.nm 5)) (evSs (evCall TURNS D (k + 2)) TURNS b21_2) (.items ((List.range n).map fun (k : Nat) => .int k)) 0 n [some (.loc 1), some (.loc (w + 2)), some (.loc 2), some (.int 4), some (.fl []), x5, x6, x7, x8] st
      = .nx [some (.loc 1), some (.loc (w + 2)), some (.loc 2), some (.int 4), some (.fl ps), x5', x6', x7', x8] st' ∧ CS ns R f a' b st' ∧ ps.length = n ∧ (∀ p ∈ ps, WC 3 p) ∧ pzL ps ≤ 3 * n := by
  obtain ⟨e, s, q1, ps, a', x5', x6', x7', q2, q3, q4, q5, q6⟩ := forLoop_inv (put := MG.put (.nm 5)) (body := evSs (evCall TURNS D (k + 2)) TURNS b21_2) (xs := (List.range n).map fun (k : Nat) => .int k)
    (fun j env s => ∃ (ps : List PV) (a' : Int) (x5' x6' x7' : Option PV), env = [some (.loc 1), some (.loc (w + 2)), some (.loc 2), some (.int 4), some (.fl ps), x5', x6', x7', x8] ∧ CS ns R f a' b s ∧ ps.length = j ∧ (∀ p ∈ ps, WC 3 p) ∧ pzL ps ≤ 3 * j) (fun j x env s hx' ⟨ps, a', x5', x6', x7', e1, e2, e3, e4, e5⟩ => by
      subst e1
      have hj : j < n := by
        have := (List.getElem?_eq_some_iff.mp hx').1
        simpa using this
      obtain ⟨v, st1, a1, g1, g2, g3⟩ := leaf_ok (k := k) W hx e2
      obtain ⟨r, st2, h1, h2, h3, h4⟩ : ∃ r st', evCall TURNS D (k + 2) 5 [.loc 1, .int 5] st1 = .ok (.int r) st' ∧ TR ns (R.set f (.lst (FR a1 b))) st' ∧ 0 ≤ r ∧ r < 5 := drawR (k := k + 1) (m := 5) g3 (by decide)
      have h2 : CS ns R f a1 b st2 := h2
      have pk : ∃ n : Int, atI [PV.int 0, .int 0, .int 0, .int 1, .int 2] r = some (.int n) ∧ 0 ≤ n ∧ n ≤ 2 := by
        obtain ⟨y, hy, e3⟩ := pick (xs := [PV.int 0, .int 0, .int 0, .int 1, .int 2]) (i := r) h3 (by simpa using h4)
        simp only [List.mem_cons, List.not_mem_nil, or_false] at hy
        rcases hy with rfl | rfl | rfl | rfl | rfl <;> exact ⟨_, e3, by decide, by decide⟩
      obtain ⟨m, e6, m0, m2⟩ := pk
      have hr := rng_ok' (n := m) m0 (by omega) st2
      obtain ⟨v', y7, l1, l2, l3⟩ := nots_ok (call := evCall TURNS D (k + 2)) (n := m.toNat) (by omega) g2 (a0 := some (.loc 1)) (a1 := some (.loc (w + 2))) (a2 := some (.loc 2)) (a3 := some (.int 4)) (a4 := some (.fl ps)) (a5 := some x) (a7 := x7') (a8 := x8) (st := st2)
      have ec := fun st => esc_p (WC.leaf 0 g2).pure st
      have pv := varV_p l2.pure st2
      have ev' := esc_p l2.pure st2
      have hl : ps.length < 16777216 := by omega
      refine ⟨[some (.loc 1), some (.loc (w + 2)), some (.loc 2), some (.int 4), some (.fl ps), some x, x6', x7', x8], rfl, ?_⟩
      have nfl : ∀ x, v ≠ .fl x := fun x z => by rw [z] at g2; obtain ⟨_, _, _, _, z⟩ := g2; cases z
      simp [b21_2, evSs, evS, ev, evA, evSrc, Src.many, g1, h1, e6, hr, l1, ec, pv, ev', hl, sizeLine_eq, -List.map_map]
      refine ⟨⟨a1, h2⟩, e3, fun p hp => ?_, by omega⟩
      rcases hp with hp | rfl
      · exact e4 p hp
      · exact l2.up) n 0 [some (.loc 1), some (.loc (w + 2)), some (.loc 2), some (.int 4), some (.fl []), x5, x6, x7, x8] st (by simp) ⟨[], a, x5, x6, x7, rfl, h, rfl, (fun p hp => nomatch hp), by simp⟩
  rw [show ((List.range n).map fun (k : Nat) => PV.int k).length = n by simp] at q4 q6
  exact ⟨ps, a', x5', x6', x7', s, by rw [q1, q2], q3, q4, q5, q6⟩

end
section

open PySem L2 U
variable {ns : List Int} {R : Store} {st : Store} {xs : List Str} {f w : Nat} {a b : Int}
theorem sl_fl' (xs : List PV) (lo hi : Option Int) (st : Store) : slV (.fl xs) lo hi st = some (.fl (cutL xs lo hi)) := rfl
/-- a turn of the joining -/
theorem cond_turn {k j : Nat} {ps : List PV} (hj : j ≤ 2) {x5 x6 x7 x8 : Option PV} (h : CS ns R f a b st) (h1 : 1 ≤ ps.length) (h2 : ps.length ≤ 4) (h3 : ∀ p ∈ ps, WC (3 + 2 * j) p) (h4 : pzL ps ≤ 12 + 2 * j) :
    ∃ (ps' : List PV) (x6' x8' : Option PV) (st' : Store), evSs (evCall TURNS D (k + 1)) TURNS b21_0 [some (.loc 1), some (.loc (w + 2)), some (.loc 2), some (.int 4), some (.fl ps), x5, x6, x7, x8] st
      = .nx [some (.loc 1), some (.loc (w + 2)), some (.loc 2), some (.int 4), some (.fl ps'), x5, x6', x7, x8'] st' ∧ CS ns R f a b st' ∧ 1 ≤ ps'.length ∧ ps'.length ≤ 4 ∧ (∀ p ∈ ps', WC (3 + 2 * (j + 1)) p) ∧ pzL ps' ≤ 12 + 2 * (j + 1) := by
  by_cases hl : ps.length = 1
  · refine ⟨ps, x6, x8, st, ?_, h, h1, h2, fun p hp => (h3 p hp).mono (by omega), by omega⟩
    have z : ¬ (1 : Int) < (ps.length : Int) := by omega
    simp [b21_0, evSs, evS, ev, evA, evCs, hl]
  · obtain ⟨r, st1, g1, g2, g3, g4⟩ := drawR (k := k) (m := (ps.length : Int) - 1) h (by omega)
    have g2 : CS ns R f a b st1 := g2
    obtain ⟨A, p, q, C, rfl, hA⟩ := split2 g3 (by omega)
    obtain ⟨r2, st2, d1, d2, d3, d4⟩ := drawR (k := k) (m := 2) g2 (by decide)
    have d2 : CS ns R f a b st2 := d2
    have hp := h3 p (by simp)
    have hq := h3 q (by simp)
    rw [pzL_app, pzL_cons, pzL_cons] at h4
    have wd : ∃ w : Str, atI [PV.str "and", .str "or"] r2 = some (.str w) ∧ (w = "and" ∨ w = "or") := pickS d3 (by simpa using d4) (fun x hx => by
      simp only [List.mem_cons, List.not_mem_nil, or_false] at hx
      rcases hx with rfl | rfl <;> exact ⟨_, rfl, by simp⟩)
    obtain ⟨wd, w1, w2⟩ := wd
    obtain ⟨v, v1, v2, v3, v4⟩ := joined_ok (d := 2 + 2 * j) w2 (hp.mono (by omega)) (hq.mono (by omega)) (by omega) (by omega)
    have v1 := fun st => v1 k st
    obtain ⟨r4, st3, f1, f2, f3, f4⟩ := drawR (k := k) (m := 4) d2 (by decide)
    have f2 : CS ns R f a b st3 := f2
    have i1 : atI (A ++ p :: q :: C) r = some p := atI_nn g3 (by rw [show r.toNat = A.length by omega]; simp)
    have i2 : atI (A ++ p :: q :: C) (r + 1) = some q := atI_nn (by omega) (by rw [show (r + 1).toNat = A.length + 1 by omega]; simp)
    have c1 : cutL (A ++ p :: q :: C) none (some r) = A := by rw [← hA]; exact cutL_lo (α := PV) A _
    have c2 : cutL (A ++ p :: q :: C) (some (r + 2)) none = C := by
      have := cutL_hi (α := PV) (A ++ [p, q]) C (r + 2) (by simp; omega)
      simpa using this
    have bl : biV .len [.fl (A ++ p :: q :: C)] st = some (.int (A ++ p :: q :: C).length) := rfl
    have zl : (1 : Int) < ((A ++ p :: q :: C).length : Int) := by omega
    have sl1 := fun st => sl_fl' (A ++ p :: q :: C) none (some r) st
    have sl2 := fun st => sl_fl' (A ++ p :: q :: C) (some (r + 2)) none st
    rw [c1] at sl1
    rw [c2] at sl2
    have ixa := fun st => ix_fl_ (A ++ p :: q :: C) r st
    have ixb := fun st => ix_fl_ (A ++ p :: q :: C) (r + 1) st
    rw [i1] at ixa
    rw [i2] at ixb
    have ep := fun st => esc_p hp.pure st
    have eq' := fun st => esc_p hq.pure st
    have ev' := fun st => esc_p v4 st
    have vv := fun st => varV_p v4 st
    have hlen : A.length + C.length + 2 ≤ 4 := by
      have : (A ++ p :: q :: C).length = A.length + C.length + 2 := by simp; omega
      omega
    have a1 := fun (x : PV) (st : Store) => bin_add_fl (xs := A) (ys := [x]) (st := st) (by simp; omega)
    have a2 := fun (x : PV) (st : Store) => bin_add_fl (xs := A ++ [x]) (ys := C) (st := st) (by simp; omega)
    have hall : ∀ x, WC (3 + 2 * (j + 1)) x → ∀ y ∈ A ++ [x] ++ C, WC (3 + 2 * (j + 1)) y := fun x hx y hy => by
      simp only [List.mem_append, List.mem_cons, List.not_mem_nil, or_false] at hy
      rcases hy with (hy | rfl) | hy
      · exact (h3 y (by simp [hy])).mono (by omega)
      · exact hx
      · exact (h3 y (by simp [hy])).mono (by omega)
    generalize hP : (A ++ p :: q :: C) = P at *
    by_cases hr4 : r4 = 0
    · subst hr4
      have wn : WC (3 + 2 * (j + 1)) (.tup [.str "not", v]) := by
        rw [show 3 + 2 * (j + 1) = (2 + 2 * j + 2) + 1 by omega]
        exact .inr (.inl ⟨v, rfl, v2⟩)
      refine ⟨A ++ [.tup [.str "not", v]] ++ C, some (.tup [.str "not", v]), some (.int r), st3, ?_, f2, by simp; omega, by simp; omega, hall _ wn, by rw [pzL_app, pzL_app, pzL_cons, pzL_nil, pz_node, pzL_cons, pzL_nil]; omega⟩
      simp [b21_0, evSs, evS, ev, evA, evCs, zl, g1, d1, w1, ixa, ixb, ep, eq', v1, ev', vv, f1, ME.absent, bound_non, bound_int, sl1, sl2, a1, a2, sizeLine_eq]
    · refine ⟨A ++ [v] ++ C, some v, some (.int r), st3, ?_, f2, by simp; omega, by simp; omega, hall _ (v2.mono (by omega)), by rw [pzL_app, pzL_app, pzL_cons, pzL_nil]; omega⟩
      simp [b21_0, evSs, evS, ev, evA, evCs, zl, g1, d1, w1, ixa, ixb, ep, eq', v1, ev', vv, f1, hr4, ME.absent, bound_non, bound_int, sl1, sl2, a1, a2, sizeLine_eq]

end
section

open PySem L2 U
variable {ns : List Int} {R : Store} {st : Store} {xs : List Str} {f w : Nat} {a b : Int}
theorem cond_ok {k : Nat} (W : Wl R xs f w) (hx : NM xs) (hb : 18 ≤ b) (h : CS ns R f a b st) :
    ∃ v st' a' b', evCall TURNS D (k + 12) 21 [.loc 1, .loc (w + 2), .loc 2] st = .ok v st' ∧ WC 9 v ∧ pz v ≤ 18 ∧ CS ns R f a' b' st' := by
  have xe : (xs.map PV.str).isEmpty = false := by
    cases xs with
    | nil => exact absurd rfl hx.1
    | cons x xs => rfl
  have t0 := truth_loc (h.cn W)
  rw [xe] at t0
  have iw := ix_loc (k := 0) (h.cw W)
  have i5 := ix_loc (k := 5) (h.cf W)
  rw [show atI (FR a b) 5 = some (.int b) from rfl] at i5
  have hb2 : ¬ b < 18 := by omega
  obtain ⟨r1, st1, d1, d2, d3, d4⟩ := drawR (k := k + 10) (m := 3) h (by decide)
  have d2 : CS ns R f a b st1 := d2
  have pk : ∃ n : Int, atI [PV.int 1, .int 1, .int 4] r1 = some (.int n) ∧ 1 ≤ n ∧ n ≤ 4 := by
    obtain ⟨y, hy, e3⟩ := pick (xs := [PV.int 1, .int 1, .int 4]) (i := r1) d3 (by simpa using d4)
    simp only [List.mem_cons, List.not_mem_nil, or_false] at hy
    rcases hy with rfl | rfl | rfl <;> exact ⟨_, e3, by decide, by decide⟩
  obtain ⟨n, e6, n1, n4⟩ := pk
  obtain ⟨r2, st2, g1, g2, g3, g4⟩ := drawR (k := k + 10) (m := n) d2 (by omega)
  have g2 : CS ns R f a b st2 := g2
  have hr := rng_ok' (n := 1 + r2) (by omega) (by omega) st2
  obtain ⟨ps, a', x5, x6, x7, st3, l1, l2, l3, l4, l5⟩ := cond_parts (k := k + 9) W hx (n := (1 + r2).toNat) (by omega) (x5 := none) (x6 := none) (x7 := none) (x8 := none) g2
  have hr3 := rng_ok' (n := 3) (by omega) (by omega) st3
  obtain ⟨e, st4, m1, ps', x5', x6', x8', m2, m3, m4, m5, m6, m7⟩ := forLoop_inv (put := MG.put (.nm 5)) (body := evSs (evCall TURNS D (k + 11)) TURNS b21_0) (xs := (List.range (3 : Int).toNat).map fun (k : Nat) => .int k)
    (fun j env s => ∃ (ps : List PV) (x5 x6 x8 : Option PV), env = [some (.loc 1), some (.loc (w + 2)), some (.loc 2), some (.int 4), some (.fl ps), x5, x6, x7, x8] ∧ CS ns R f a' b s ∧ 1 ≤ ps.length ∧ ps.length ≤ 4 ∧ (∀ p ∈ ps, WC (3 + 2 * j) p) ∧ pzL ps ≤ 12 + 2 * j) (fun j x env s hx' ⟨ps, x5, x6, x8, e1, e2, e3, e4, e5, e6⟩ => by
      subst e1
      have hj : j < 3 := by
        have := (List.getElem?_eq_some_iff.mp hx').1
        simpa using this
      obtain ⟨ps', x6', x8', st', q1, q2, q3, q4, q5, q6⟩ := cond_turn (k := k + 10) (j := j) (w := w) (by omega) (x5 := some x) (x6 := x6) (x7 := x7) (x8 := x8) e2 e3 e4 e5 e6
      refine ⟨_, rfl, ?_⟩
      show SR.go (evSs (evCall TURNS D (k + 11)) TURNS b21_0 [some (.loc 1), some (.loc (w + 2)), some (.loc 2), some (.int 4), some (.fl ps), some x, x6, x7, x8] s) _
      rw [q1]
      exact ⟨ps', _, _, _, rfl, q2, q3, q4, q5, q6⟩) 3 0 [some (.loc 1), some (.loc (w + 2)), some (.loc 2), some (.int 4), some (.fl ps), x5, x6, x7, none] st3 (by simp) ⟨ps, x5, x6, none, rfl, l2, by omega, by omega, l4, by omega⟩
  simp only [List.length_map, List.length_range] at m6 m7
  subst m2
  obtain ⟨p, qs, rfl⟩ : ∃ p qs, ps' = p :: qs := by
    cases ps' with
    | nil => simp at m4
    | cons p qs => exact ⟨p, qs, rfl⟩
  have pw : WC 9 p := m6 p List.mem_cons_self
  have pzb : pz p ≤ 18 := by
    rw [pzL_cons] at m7
    have : pz p ≤ 12 + 2 * (3 : Int).toNat := by omega
    exact this
  have pp := parts_ok 9 (k + 1) p st4 pw (by omega)
  rw [show k + 1 + 9 + 1 = k + 11 by omega] at pp
  have iw4 := ix_loc (k := 0) (m3.cw W)
  have i54 := ix_loc (k := 5) (m3.cf W)
  rw [show atI (FR a' b) 5 = some (.int b) from rfl] at i54
  have jf := m3.cf W
  have fin := m3.set a' (b - (pz p : Int))
  have ep := fun st => esc_p pw.pure st
  have e5 : ixN 6 5 = some 5 := rfl
  have lv : ∀ v, leave st.length v (setAt st4 (f + 2) (FR a' (b - (pz p : Int)))) = .ok v (setAt st4 (f + 2) (FR a' (b - (pz p : Int)))) := fun v => leave_same (by rw [fin.len, h.len]; omega)
  refine ⟨p, _, a', b - (pz p : Int), ?_, pw, pzb, fin⟩
  rw [show k + 12 = (k + 11) + 1 from rfl, evCall]
  have hl3 : ((List.range (3 : Int).toNat).map fun (k : Nat) => PV.int k).length = 3 := by simp
  have t3 : (3 : Int).toNat = 3 := rfl
  rw [t3] at m1 hr3
  generalize hP : (pz p : Int) = N at *
  simp [D, d21, evSs, evS, ev, evA, evCs, evSrc, Src.many, ME.held, t0, iw, i5, hb2, d1, e6, g1, hr, l1, hr3, m1, iw4, i54, jf, pp, ep, e5, sizeLine_eq, lv, -List.map_map]

end
section

open PySem L2 U
variable {ns : List Int} {R C : Store} {st : Store} {xs : List Str} {f w : Nat} {a b : Int}
mutual
theorem low_mono {n m : Nat} (h : n ≤ m) : ∀ v : PV, PV.low n v = true → PV.low m v = true
  | .tup xs, l => lowL_mono h xs l
  | .fl xs, l => lowL_mono h xs l
  | .rol xs, l => lowL_mono h xs l
  | .loc k, l => by
    have l : decide (k < n) = true := l
    show decide (k < m) = true
    rw [decide_eq_true_eq] at l ⊢; omega
  | .non, _ => rfl
  | .bl _, _ => rfl
  | .int _, _ => rfl
  | .str _, _ => rfl
theorem lowL_mono {n m : Nat} (h : n ≤ m) : ∀ v : List PV, PV.lowL n v = true → PV.lowL m v = true
  | [], _ => rfl
  | x :: xs, l => by
    have l : (PV.low n x && PV.lowL n xs) = true := l
    rw [Bool.and_eq_true] at l
    show (PV.low m x && PV.lowL m xs) = true
    rw [low_mono h x l.1, lowL_mono h xs l.2]; rfl
end
def Low (n : Nat) (C : Store) : Prop := ∀ c ∈ C, Cell.low n c = true
theorem Low.mono {n m : Nat} (h : n ≤ m) (l : Low n C) : Low m C := fun c hc => by
  have := l c hc
  cases c with
  | lst xs => exact lowL_mono h xs this
/-- a call's end where the store has grown -/
theorem TR.drop' (h : TR ns R st) {R' C : Store} {st' : Store} (h' : TR ns (R' ++ C) st') (e : R'.length = R.length) (hR : Low (R.length + 2) R') {v : PV} (hv : PV.pure v = true) :
    ∃ st2, U.leave st.length v st' = .ok v st2 ∧ TR ns R' st2 := by
  have l1 := h.len
  have l2 := h'.len
  obtain ⟨p, q, z, h1, h2, h3, rfl⟩ := h'
  unfold U.leave
  split
  · rename_i hl
    have : C = [] := by
      cases C with
      | nil => rfl
      | cons c C => simp at hl; omega
    subst this
    exact ⟨_, rfl, p, q, z, h1, h2, h3, by simp⟩
  · have et : (Cell.lst (ns.map .int) :: Cell.lst (tp 0 p q z) :: (R' ++ C)).take st.length = Cell.lst (ns.map .int) :: Cell.lst (tp 0 p q z) :: R' := by
      rw [l1, ← e]
      simp
    rw [et]
    have c1 : PV.low st.length v = true := PV.pure_low _ _ hv
    have c2 : (Cell.lst (ns.map .int) :: Cell.lst (tp 0 p q z) :: R').all (Cell.low st.length) = true := by
      rw [List.all_cons, List.all_cons, Bool.and_eq_true, Bool.and_eq_true]
      refine ⟨lowL_ints _ _, ?_, ?_⟩
      · show (decide (0 < st.length) && true) = true
        simp; omega
      · rw [List.all_eq_true, l1]
        exact hR
    rw [c1, c2]
    exact ⟨_, rfl, p, q, z, h1, h2, h3, rfl⟩
/-- the names and the room -/
abbrev RS (xs : List Str) (r : Int) (C : Store) : Store := .lst (xs.map .str) :: .lst [.int r] :: C
theorem RS.low {n : Nat} {r : Int} (h : Low n C) : Low n (RS xs r C) := fun c hc => by
  have e : ∀ l : List Str, PV.lowL n (l.map .str) = true := fun l => by
    induction l with
    | nil => rfl
    | cons x l ih => exact ih
  rcases List.mem_cons.mp hc with rfl | hc
  · exact e xs
  · rcases List.mem_cons.mp hc with rfl | hc
    · rfl
    · exact h c hc
variable {r : Int}
theorem TR.room (h : TR ns (RS xs r C) st) : st[3]? = some (.lst [.int r]) := TR.at h 1
theorem TR.names (h : TR ns (RS xs r C) st) : st[2]? = some (.lst (xs.map .str)) := TR.at h 0
theorem TR.setr (h : TR ns (RS xs r C) st) (r' : Int) : TR ns (RS xs r' C) (setAt st 3 [.int r']) := TR.set h 1 [.int r']
/-- what a statement's beginning draws -/
theorem wild_head {k : Nat} (hx : NM xs) (h : TR ns (RS xs r C) st) : ∃ (ch q2 q3 q4 : Int) (st1 st2 st3 st4 : Store) (x : Str) (l : PV),
    evCall TURNS D (k + 1) 5 [.loc 1, .int 16] st = .ok (.int ch) st1 ∧ 0 ≤ ch ∧ ch < 16 ∧
    biV .len [.loc 2] st1 = some (.int xs.length) ∧ evCall TURNS D (k + 1) 5 [.loc 1, .int xs.length] st1 = .ok (.int q2) st2 ∧ ixV (.loc 2) (.int q2) st2 = some (.str x) ∧ B 60 x ∧
    evCall TURNS D (k + 1) 5 [.loc 1, .int 2] st2 = .ok (.int q3) st3 ∧ atI [PV.non, .str x] q3 = some l ∧ LAB l ∧
    evCall TURNS D (k + 1) 5 [.loc 1, .int 2] st3 = .ok (.int q4) st4 ∧ TR ns (RS xs r C) st4 := by
  obtain ⟨ch, st1, a1, a2, a3, a4⟩ := drawR (k := k) (m := 16) h (by decide)
  obtain ⟨q2, st2, x, b1, b2, b3, b4, _⟩ := nameR (k := k) a2 hx
  obtain ⟨q3, st3, c1, c2, c3, c4⟩ := drawR (k := k) (m := 2) b2 (by decide)
  obtain ⟨q4, st4, d1, d2, d3, d4⟩ := drawR (k := k) (m := 2) c2 (by decide)
  have bl := bi_len_loc a2.names
  rw [List.length_map] at bl
  have ix := ix_loc (k := q2) b2.names
  rw [b3] at ix
  obtain ⟨l, hl, e⟩ := pick (xs := [PV.non, .str x]) (i := q3) c3 (by simpa using c4)
  refine ⟨ch, q2, q3, q4, st1, st2, st3, st4, x, l, a1, a3, a4, bl, b1, ix, b4, c1, e, ?_, d1, d2⟩
  simp only [List.mem_cons, List.not_mem_nil, or_false] at hl
  rcases hl with rfl | rfl
  · exact .inl rfl
  · exact .inr ⟨x, rfl, b4⟩
/-- a simple statement is drawn -/
theorem wild_simple {k d : Nat} {dI : Int} (hx : NM xs) (h : TR ns (RS xs r C) st) {ch q2 q3 q4 : Int} {st1 st2 st3 st4 : Store} {x : Str} {l : PV}
    (a1 : evCall TURNS D (k + 1) 5 [.loc 1, .int 16] st = .ok (.int ch) st1) (c0 : 0 ≤ ch) (a2 : biV .len [.loc 2] st1 = some (.int xs.length)) (a3 : evCall TURNS D (k + 1) 5 [.loc 1, .int xs.length] st1 = .ok (.int q2) st2)
    (a4 : ixV (.loc 2) (.int q2) st2 = some (.str x)) (xB : B 60 x) (a5 : evCall TURNS D (k + 1) 5 [.loc 1, .int 2] st2 = .ok (.int q3) st3) (a6 : atI [PV.non, .str x] q3 = some l) (lB : LAB l) (a7 : evCall TURNS D (k + 1) 5 [.loc 1, .int 2] st3 = .ok (.int q4) st4) (h4 : TR ns (RS xs r C) st4)
    (hc : dI = 0 ∨ ch < 6) : ∃ v st', evCall TURNS D (k + 2) 28 [.loc 1, .loc 2, .loc 3, .int dI] st = .ok v st' ∧ WS d v ∧ pz v = 1 ∧ TR ns (RS xs r C) st' := by
  obtain ⟨q5, st5, b1, b2, b3, b4⟩ := drawR (k := k) (m := 100) h4 (by decide)
  obtain ⟨q6, st6, d1, d2, d3, d4⟩ := drawR (k := k) (m := 6) b2 (by decide)
  have nm : ∃ nv, atI [PV.non, .int 0, .int 9, .int 10, .int 99, .int q5] q6 = some nv ∧ NUM nv := by
    obtain ⟨y, hy, e⟩ := pick (xs := [PV.non, .int 0, .int 9, .int 10, .int 99, .int q5]) (i := q6) d3 (by simpa using d4)
    refine ⟨y, e, ?_⟩
    simp only [List.mem_cons, List.not_mem_nil, or_false] at hy
    rcases hy with rfl | rfl | rfl | rfl | rfl | rfl
    · exact .inl rfl
    all_goals exact .inr ⟨_, rfl, by omega, by omega⟩
  obtain ⟨nv, e1, e2⟩ := nm
  have hm0 : 0 ≤ ch % 6 := Int.emod_nonneg _ (by decide)
  have hm1 : ch % 6 < 6 := Int.emod_lt_of_pos _ (by decide)
  have md := fun st => bin_mod_int (i := ch) (j := 6) (st := st) (by decide)
  obtain ⟨v, hv, e3⟩ := pick (xs := [PV.tup [.str "call", .str x], .tup [.str "let", .str x, .bl (decide (q4 = 0))], .tup [.str "set", .str x, .bl (decide (q4 = 0))], .tup [.str "break", l], .tup [.str "continue", l], .tup [.str "return", nv]]) (i := ch % 6) hm0 (by simpa using hm1)
  have pl := fun st => esc_p lB.pure st
  have vl := fun st => varV_p lB.pure st
  have pn := fun st => esc_p e2.pure st
  have vn := fun st => varV_p e2.pure st
  have ad := fun st => bin_add_fl (xs := [PV.tup [.str "call", .str x], .tup [.str "let", .str x, .bl (decide (q4 = 0))], .tup [.str "set", .str x, .bl (decide (q4 = 0))], .tup [.str "break", l], .tup [.str "continue", l]]) (ys := [.tup [.str "return", nv]]) (st := st) (by simp)
  have wv : WS 0 v ∧ pz v = 1 := by
    simp only [List.mem_cons, List.not_mem_nil, or_false] at hv
    rcases hv with rfl | rfl | rfl | rfl | rfl | rfl
    · exact ⟨.call xB, by simp⟩
    · exact ⟨.decl (.inl rfl) xB, by simp⟩
    · exact ⟨.decl (.inr rfl) xB, by simp⟩
    · exact ⟨.jump (.inl rfl) lB, by simp [lB.pz]⟩
    · exact ⟨.jump (.inr rfl) lB, by simp [lB.pz]⟩
    · exact ⟨.ret e2, by simp [e2.pz]⟩
  refine ⟨v, st6, ?_, wv.1.mono (Nat.zero_le _), wv.2, d2⟩
  have lv := fun v => TR.leave h d2 rfl v
  rw [show k + 2 = (k + 1) + 1 from rfl, evCall]
  simp at ad
  rcases hc with rfl | hc
  · simp [D, d28, evSs, evS, ev, evA, evCs, ME.held, a1, a2, a3, a4, a5, a6, a7, b1, d1, e1, e3, md, pl, vl, pn, vn, ad, sizeLine_eq, lv]
  · by_cases hd : dI = 0 <;> simp [D, d28, evSs, evS, ev, evA, evCs, ME.held, a1, a2, a3, a4, a5, a6, a7, b1, d1, e1, e3, md, pl, vl, pn, vn, ad, sizeLine_eq, lv, hc, hd]

end
end K02

set_option maxHeartbeats 4000000
namespace K02
section

open PySem L2 U
variable {ns : List Int} {R C : Store} {st : Store} {xs : List Str} {f w : Nat} {a b r : Int}
def TreeOk (ns : List Int) (xs : List Str) (d : Nat) : Prop := ∀ (k : Nat) (r dI : Int) (C st : Store), dI = d → TR ns (RS xs r C) st → r ≤ 1000 → Low (C.length + 4) C →
  ∃ body r' st', evCall TURNS D (k + 2 * d + 17) 29 [.loc 1, .loc 2, .loc 3, .int dI] st = .ok (.tup body) st' ∧ TR ns (RS xs r' C) st' ∧ (∀ s ∈ body, WS d s) ∧ (pzL body : Int) ≤ r - r' ∧ (pzL body : Int) ≤ 2 * max r 0
def WildOk (ns : List Int) (xs : List Str) (d : Nat) : Prop := ∀ (k : Nat) (r dI : Int) (C st : Store), dI = d → TR ns (RS xs r C) st → 0 ≤ r → r ≤ 1000 → Low (C.length + 4) C →
  ∃ v r' st', evCall TURNS D (k + 2 * d + 16) 28 [.loc 1, .loc 2, .loc 3, .int dI] st = .ok v st' ∧ TR ns (RS xs r' C) st' ∧ WS d v ∧ (pz v : Int) - 1 ≤ r - r' ∧ (pz v : Int) - 1 ≤ 2 * r + 1
theorem cell2_set {x y z : Cell} : (RS xs r (C ++ [y, z])).set (C.length + 2) x = RS xs r (C ++ [x, z]) := by
  show _ :: _ :: (C ++ [y, z]).set C.length x = _
  rw [List.set_append_right _ _ (Nat.le_refl _), Nat.sub_self]
  rfl
/-- the condition of a statement is drawn -/
theorem wild_cond {k : Nat} (hx : NM xs) (h : TR ns (RS xs r C) st) : ∃ c a' b' st5, evCall TURNS D (k + 12) 21 [.loc 1, .loc (C.length + 5), .loc 2] (st ++ [.lst (FR 99 99), .lst [.loc (C.length + 4), .loc 2, .loc 2, .loc 2]]) = .ok c st5 ∧
    WC 9 c ∧ pz c ≤ 18 ∧ TR ns (RS xs r (C ++ [.lst (FR a' b'), .lst [.loc (C.length + 4), .loc 2, .loc 2, .loc 2]])) st5 := by
  have W : Wl (RS xs r (C ++ [.lst (FR 99 99), .lst [.loc (C.length + 4), .loc 2, .loc 2, .loc 2]])) xs (C.length + 2) (C.length + 3) :=
    ⟨rfl, by
      show (C ++ [Cell.lst (FR 99 99), .lst [.loc (C.length + 4), .loc 2, .loc 2, .loc 2]])[C.length + 1]? = _
      rw [List.getElem?_append_right (by omega), show C.length + 1 - C.length = 1 by omega]
      rfl, by omega, by omega, by simp⟩
  have h0 : CS ns (RS xs r (C ++ [.lst (FR 99 99), .lst [.loc (C.length + 4), .loc 2, .loc 2, .loc 2]])) (C.length + 2) 99 99 (st ++ [.lst (FR 99 99), .lst [.loc (C.length + 4), .loc 2, .loc 2, .loc 2]]) := by
    unfold CS
    rw [cell2_set]
    exact TR.push h _
  obtain ⟨c, st5, a', b', q1, q2, q3, q4⟩ := cond_ok (k := k) W hx (by decide) h0
  unfold CS at q4
  rw [cell2_set] at q4
  exact ⟨c, a', b', st5, q1, q2, q3, q4⟩
theorem low2 (h : Low (C.length + 4) C) (a b : Int) : Low (C.length + 6) (C ++ [.lst (FR a b), .lst [.loc (C.length + 4), .loc 2, .loc 2, .loc 2]]) := fun c hc => by
  rcases List.mem_append.mp hc with hc | hc
  · exact h.mono (by omega) c hc
  · simp only [List.mem_cons, List.not_mem_nil, or_false] at hc
    rcases hc with rfl | rfl
    · rfl
    · show (decide (C.length + 4 < C.length + 6) && (decide (2 < C.length + 6) && (decide (2 < C.length + 6) && (decide (2 < C.length + 6) && true)))) = true
      simp
theorem wild_ok {d : Nat} (hx : NM xs) (ih : ∀ e, d = e + 1 → TreeOk ns xs e) : WildOk ns xs d := by
  intro k r dI C st hd h r0 r1 lo
  obtain ⟨ch, q2, q3, q4, st1, st2, st3, st4, x, l, a1, c0, c1, a2, a3, a4, xB, a5, a6, lB, a7, h4⟩ := wild_head (k := k + 2 * d + 14) hx h
  by_cases hs : dI = 0 ∨ ch < 6
  · obtain ⟨v, st', g1, g2, g3, g4⟩ := wild_simple (d := d) hx h a1 c0 a2 a3 a4 xB a5 a6 lB a7 h4 hs
    exact ⟨v, r, st', g1, g4, g2, by omega, by omega⟩
  have hs1 : ¬ dI = 0 := fun z => hs (.inl z)
  have hs2 : ¬ ch < 6 := fun z => hs (.inr z)
  obtain ⟨e, rfl⟩ : ∃ e, d = e + 1 := ⟨d - 1, by omega⟩
  have tree := ih e rfl
  have hd1 : dI - 1 = (e : Int) := by omega
  have pl := fun st => esc_p lB.pure st
  have vl := fun st => varV_p lB.pure st
  rw [show k + 2 * (e + 1) + 14 + 1 = k + 2 * e + 17 by omega] at a1 a3 a5 a7
  have e0 : ixN 1 0 = some 0 := rfl
  have a0 : ∀ x : PV, atI [x] 0 = some x := fun x => atI_0 x []
  -- one body
  obtain ⟨b1, r1', st5, t1, t2, t3, t4, t5⟩ := tree k r (dI - 1) C st4 hd1 h4 r1 lo
  have p1 : PV.pureL b1 = true := pureL_of fun s hs => (t3 s hs).pure
  by_cases k8 : ch < 8
  · have hw : WS (e + 1) (.tup [.str "block", .tup b1]) := .block t3
    refine ⟨_, r1', st5, ?_, t2, hw, by rw [pz_node, pzL_cons, pzL_nil, pz_b t3]; omega, by rw [pz_node, pzL_cons, pzL_nil, pz_b t3]; omega⟩
    have lv := fun v => TR.leave h t2 rfl v
    rw [show k + 2 * (e + 1) + 16 = (k + 2 * e + 17) + 1 by omega, evCall]
    simp [D, d28, evSs, evS, ev, evA, evCs, ME.held, a1, a2, a3, a4, a5, a6, a7, hs1, hs2, k8, t1, sizeLine_eq, lv, pl]
  by_cases k9 : ch = 8
  · subst k9
    have hw : WS (e + 1) (.tup [.str "for", l, .tup b1]) := .for_ lB t3
    refine ⟨_, r1', st5, ?_, t2, hw, by rw [pz_node, pzL_cons, pzL_cons, pzL_nil, pz_b t3, lB.pz]; omega, by rw [pz_node, pzL_cons, pzL_cons, pzL_nil, pz_b t3, lB.pz]; omega⟩
    have lv := fun v => TR.leave h t2 rfl v
    rw [show k + 2 * (e + 1) + 16 = (k + 2 * e + 17) + 1 by omega, evCall]
    simp [D, d28, evSs, evS, ev, evA, evCs, ME.held, a1, a2, a3, a4, a5, a6, a7, hs1, t1, sizeLine_eq, lv, pl, vl]
  by_cases k10 : ch = 9
  · subst k10
    obtain ⟨b2, r2', st6, u1, u2, u3, u4, u5⟩ := tree k r1' (dI - 1) C st5 hd1 t2 (by omega) lo
    have hw : WS (e + 1) (.tup [.str "try", .tup b1, .tup b2]) := .try_ t3 u3
    refine ⟨_, r2', st6, ?_, u2, hw, by rw [pz_node, pzL_cons, pzL_cons, pzL_nil, pz_b t3, pz_b u3]; omega, by rw [pz_node, pzL_cons, pzL_cons, pzL_nil, pz_b t3, pz_b u3]; omega⟩
    have lv := fun v => TR.leave h u2 rfl v
    rw [show k + 2 * (e + 1) + 16 = (k + 2 * e + 17) + 1 by omega, evCall]
    simp [D, d28, evSs, evS, ev, evA, evCs, ME.held, a1, a2, a3, a4, a5, a6, a7, hs1, t1, u1, sizeLine_eq, lv, pl, vl]
  have hlen : st4.length = C.length + 4 := h4.len
  have rm4 := ix_loc (k := 0) h4.room
  rw [a0] at rm4
  by_cases hr : 20 < r
  · obtain ⟨c, a', b', st5, g1, g2, g3, g4⟩ := wild_cond (k := k + 2 * e + 5) hx h4
    rw [show k + 2 * e + 5 + 12 = k + 2 * e + 17 by omega] at g1
    have pp := parts_ok 9 (k + 2 * e + 7) c st5 g2 (by omega)
    rw [show k + 2 * e + 7 + 9 + 1 = k + 2 * e + 17 by omega] at pp
    have n1 := g2.pos
    have g2' : WC 25 c := g2.mono (by omega)
    have pc := fun st => esc_p g2.pure st
    have vc := fun st => varV_p g2.pure st
    have rm5 := ix_loc (k := 0) g4.room
    rw [a0] at rm5
    have r5 := g4.room
    generalize hN : (pz c : Int) = N at *
    have h6 := g4.setr (r - N)
    have lo2 : Low ((C ++ [Cell.lst (FR a' b'), Cell.lst [.loc (C.length + 4), .loc 2, .loc 2, .loc 2]]).length + 4) (C ++ [.lst (FR a' b'), .lst [.loc (C.length + 4), .loc 2, .loc 2, .loc 2]]) := by
      rw [show (C ++ [Cell.lst (FR a' b'), .lst [.loc (C.length + 4), .loc 2, .loc 2, .loc 2]]).length + 4 = C.length + 6 by simp]
      exact low2 lo a' b'
    obtain ⟨b1, r1', st7, t1, t2, t3, t4, t5⟩ := tree k (r - N) (dI - 1) _ _ hd1 h6 (by omega) lo2
    have p1 : PV.pureL b1 = true := pureL_of fun s hs => (t3 s hs).pure
    by_cases k12 : ch < 12
    · have hw : WS (e + 1) (.tup [.str "while", l, c, .tup b1]) := .while_ lB g2' t3
      obtain ⟨st8, lv, h8⟩ := TR.drop' (R' := RS xs r1' C) h t2 rfl (RS.low lo) hw.pure
      have ez : (pz (.tup [.str "while", l, c, .tup b1]) : Int) = 1 + N + pzL b1 := by rw [pz_node, pzL_cons, pzL_cons, pzL_cons, pzL_nil, pz_b t3, lB.pz]; omega
      refine ⟨_, r1', st8, ?_, h8, hw, by omega, by omega⟩
      rw [show k + 2 * (e + 1) + 16 = (k + 2 * e + 17) + 1 by omega, evCall]
      simp [D, d28, evSs, evS, ev, evA, evCs, ME.held, a1, a2, a3, a4, a5, a6, a7, hs1, hs2, k8, k9, k10, hr, rm4, hlen, g1, pp, rm5, r5, e0, t1, k12, sizeLine_eq, lv, pl, vl, pc, vc]
    by_cases k15 : ch < 15
    · obtain ⟨b2, r2', st8, u1, u2, u3, u4, u5⟩ := tree k r1' (dI - 1) _ _ hd1 t2 (by omega) lo2
      have hw : WS (e + 1) (.tup [.str "if", c, .tup b1, .tup b2]) := .if_ g2' t3 u3
      obtain ⟨st9, lv, h9⟩ := TR.drop' (R' := RS xs r2' C) h u2 rfl (RS.low lo) hw.pure
      have ez : (pz (.tup [.str "if", c, .tup b1, .tup b2]) : Int) = 1 + N + pzL b1 + pzL b2 := by rw [pz_node, pzL_cons, pzL_cons, pzL_cons, pzL_nil, pz_b t3, pz_b u3]; omega
      refine ⟨_, r2', st9, ?_, h9, hw, by omega, by omega⟩
      rw [show k + 2 * (e + 1) + 16 = (k + 2 * e + 17) + 1 by omega, evCall]
      simp [D, d28, evSs, evS, ev, evA, evCs, ME.held, a1, a2, a3, a4, a5, a6, a7, hs1, hs2, k8, k9, k10, hr, rm4, hlen, g1, pp, rm5, r5, e0, t1, u1, k12, k15, sizeLine_eq, lv, pl, vl, pc, vc]
    · have hw : WS (e + 1) (.tup [.str "if", c, .tup b1, .tup []]) := .if_ g2' t3 (fun s hs => nomatch hs)
      obtain ⟨st9, lv, h9⟩ := TR.drop' (R' := RS xs r1' C) h t2 rfl (RS.low lo) hw.pure
      have ez : (pz (.tup [.str "if", c, .tup b1, .tup []]) : Int) = 1 + N + pzL b1 := by rw [pz_node, pzL_cons, pzL_cons, pzL_cons, pzL_nil, pz_b t3, show pz (.tup []) = 0 by simp [pz, pzT]]; omega
      refine ⟨_, r1', st9, ?_, h9, hw, by omega, by omega⟩
      rw [show k + 2 * (e + 1) + 16 = (k + 2 * e + 17) + 1 by omega, evCall]
      simp [D, d28, evSs, evS, ev, evA, evCs, ME.held, a1, a2, a3, a4, a5, a6, a7, hs1, hs2, k8, k9, k10, hr, rm4, hlen, g1, pp, rm5, r5, e0, t1, k12, k15, sizeLine_eq, lv, pl, vl, pc, vc]
  · have fl : WF (.tup [.str "flag", .str x]) := ⟨_, _, .inr rfl, xB, rfl⟩
    have fc : WC 25 (.tup [.str "flag", .str x]) := WC.leaf 25 fl
    have pp := parts_ok 0 (k + 2 * e + 16) (.tup [.str "flag", .str x]) st4 fl (by simp)
    rw [show k + 2 * e + 16 + 0 + 1 = k + 2 * e + 17 by omega, show (pz (.tup [.str "flag", .str x]) : Int) = 1 by simp] at pp
    have r4 := h4.room
    have h6 := h4.setr (r - 1)
    obtain ⟨b1, r1', st7, t1, t2, t3, t4, t5⟩ := tree k (r - 1) (dI - 1) _ _ hd1 h6 (by omega) lo
    by_cases k12 : ch < 12
    · have hw : WS (e + 1) (.tup [.str "while", l, .tup [.str "flag", .str x], .tup b1]) := .while_ lB fc t3
      have lv := fun v => TR.leave h t2 rfl v
      have ez : (pz (.tup [.str "while", l, .tup [.str "flag", .str x], .tup b1]) : Int) = 1 + 1 + pzL b1 := by rw [pz_node, pzL_cons, pzL_cons, pzL_cons, pzL_nil, pz_b t3, lB.pz]; simp; omega
      refine ⟨_, r1', st7, ?_, t2, hw, by omega, by omega⟩
      rw [show k + 2 * (e + 1) + 16 = (k + 2 * e + 17) + 1 by omega, evCall]
      simp [D, d28, evSs, evS, ev, evA, evCs, ME.held, a1, a2, a3, a4, a5, a6, a7, hs1, hs2, k8, k9, k10, hr, rm4, pp, r4, e0, t1, k12, sizeLine_eq, lv, pl, vl]
    by_cases k15 : ch < 15
    · obtain ⟨b2, r2', st8, u1, u2, u3, u4, u5⟩ := tree k r1' (dI - 1) _ _ hd1 t2 (by omega) lo
      have hw : WS (e + 1) (.tup [.str "if", .tup [.str "flag", .str x], .tup b1, .tup b2]) := .if_ fc t3 u3
      have lv := fun v => TR.leave h u2 rfl v
      have ez : (pz (.tup [.str "if", .tup [.str "flag", .str x], .tup b1, .tup b2]) : Int) = 1 + 1 + pzL b1 + pzL b2 := by rw [pz_node, pzL_cons, pzL_cons, pzL_cons, pzL_nil, pz_b t3, pz_b u3]; simp; omega
      refine ⟨_, r2', st8, ?_, u2, hw, by omega, by omega⟩
      rw [show k + 2 * (e + 1) + 16 = (k + 2 * e + 17) + 1 by omega, evCall]
      simp [D, d28, evSs, evS, ev, evA, evCs, ME.held, a1, a2, a3, a4, a5, a6, a7, hs1, hs2, k8, k9, k10, hr, rm4, pp, r4, e0, t1, u1, k12, k15, sizeLine_eq, lv, pl, vl]
    · have hw : WS (e + 1) (.tup [.str "if", .tup [.str "flag", .str x], .tup b1, .tup []]) := .if_ fc t3 (fun s hs => nomatch hs)
      have lv := fun v => TR.leave h t2 rfl v
      have ez : (pz (.tup [.str "if", .tup [.str "flag", .str x], .tup b1, .tup []]) : Int) = 1 + 1 + pzL b1 := by rw [pz_node, pzL_cons, pzL_cons, pzL_cons, pzL_nil, pz_b t3, show pz (.tup []) = 0 by simp [pz, pzT]]; simp; omega
      refine ⟨_, r1', st7, ?_, t2, hw, by omega, by omega⟩
      rw [show k + 2 * (e + 1) + 16 = (k + 2 * e + 17) + 1 by omega, evCall]
      simp [D, d28, evSs, evS, ev, evA, evCs, ME.held, a1, a2, a3, a4, a5, a6, a7, hs1, hs2, k8, k9, k10, hr, rm4, pp, r4, e0, t1, k12, k15, sizeLine_eq, lv, pl, vl]

end
section

open PySem L2 U
variable {ns : List Int} {R C : Store} {st : Store} {xs : List Str} {f w : Nat} {a b r : Int}
theorem tree_ok {d : Nat} (hx : NM xs) (wd : WildOk ns xs d) : TreeOk ns xs d := by
  intro k r dI C st hd h r1 lo
  obtain ⟨q, st1, d1, d2, d3, d4⟩ := drawR (k := k + 2 * d + 15) (m := 6) h (by decide)
  have pk : ∃ n : Int, atI [PV.int 0, .int 1, .int 1, .int 2, .int 2, .int 3] q = some (.int n) ∧ 0 ≤ n ∧ n ≤ 3 := by
    obtain ⟨y, hy, e3⟩ := pick (xs := [PV.int 0, .int 1, .int 1, .int 2, .int 2, .int 3]) (i := q) d3 (by simpa using d4)
    simp only [List.mem_cons, List.not_mem_nil, or_false] at hy
    rcases hy with rfl | rfl | rfl | rfl | rfl | rfl <;> exact ⟨_, e3, by decide, by decide⟩
  obtain ⟨n, e6, n0, n3⟩ := pk
  have hr := rng_ok' (n := n) n0 (by omega) st1
  obtain ⟨e, s, m1, ps, r', x5, m2, m3, m4, m5, m6, m7⟩ := forLoop_inv (put := MG.put (.nm 5)) (body := evSs (evCall TURNS D (k + 2 * d + 16)) TURNS b29_0) (xs := (List.range n.toNat).map fun (k : Nat) => .int k)
    (fun j env s => ∃ (ps : List PV) (r' : Int) (x5 : Option PV), env = [some (.loc 1), some (.loc 2), some (.loc 3), some (.int dI), some (.fl ps), x5] ∧ TR ns (RS xs r' C) s ∧ ps.length ≤ j ∧ (∀ p ∈ ps, WS d p) ∧ (pzL ps : Int) ≤ r - r' ∧ (pzL ps : Int) ≤ 2 * max r 0) (fun j x env s hx' ⟨ps, r', x5, e1, e2, e3, e4, e5, e6⟩ => by
      subst e1
      have hj : j < n.toNat := by
        have := (List.getElem?_eq_some_iff.mp hx').1
        simpa using this
      have rm := ix_loc (k := 0) e2.room
      rw [atI_0] at rm
      refine ⟨[some (.loc 1), some (.loc 2), some (.loc 3), some (.int dI), some (.fl ps), some x], rfl, ?_⟩
      by_cases hr : 0 < r'
      · have h6 := e2.setr (r' - 1)
        obtain ⟨v, r2, st2, g1, g2, g3, g4, g5⟩ := wd k (r' - 1) dI C _ hd h6 (by omega) (by omega) lo
        have ec := fun st => esc_p g3.pure st
        have e0 : ixN 1 0 = some 0 := rfl
        have r3 := e2.room
        have hl : ps.length < 16777216 := by omega
        have lv := g3.pos
        simp [b29_0, evSs, evS, ev, evA, evCs, rm, hr, r3, e0, g1, ec, hl, sizeLine_eq]
        refine ⟨r2, g2, by omega, fun p hp => ?_, by omega, by omega⟩
        rcases hp with hp | rfl
        · exact e4 p hp
        · exact g3
      · simp [b29_0, evSs, evS, ev, evA, evCs, rm, hr]
        exact ⟨r', e2, by omega, e4, e5, e6⟩) n.toNat 0 [some (.loc 1), some (.loc 2), some (.loc 3), some (.int dI), some (.fl []), none] st1 (by simp) ⟨[], r, none, rfl, d2, by simp, (fun p hp => nomatch hp), by simp, by simp; omega⟩
  subst m2
  have lv := fun v => TR.leave h m3 rfl v
  have bt := bi_tuple_fl ps
  refine ⟨ps, r', s, ?_, m3, m5, m6, m7⟩
  rw [show k + 2 * d + 17 = (k + 2 * d + 16) + 1 by omega, evCall]
  rw [show k + 2 * d + 15 + 1 = k + 2 * d + 16 by omega] at d1
  simp [D, d29, evSs, evS, ev, evA, evCs, evSrc, Src.many, ME.held, d1, e6, hr, m1, bt, sizeLine_eq, lv, -List.map_map]
theorem tw_ok (hx : NM xs) : ∀ d, TreeOk ns xs d ∧ WildOk ns xs d
  | 0 => by
    have w := wild_ok (ns := ns) (d := 0) hx fun e h => absurd h (by omega)
    exact ⟨tree_ok hx w, w⟩
  | d + 1 => by
    have w := wild_ok (ns := ns) (d := d + 1) hx fun e h => by
      have : e = d := by omega
      subst this
      exact (tw_ok hx e).1
    exact ⟨tree_ok hx w, w⟩

end
section

open PySem L2 U
variable {ns : List Int} {R C : Store} {st : Store} {xs : List Str} {f w : Nat} {a b r : Int}
/-- a statement around a body -/
theorem shell_ok {d : Nat} {b : List PV} {x : Str} {lf : PV} (hb : ∀ s ∈ b, WS d s) (xB : B 60 x) (hl : WF lf) {q : Int} (q0 : 0 ≤ q) (q8 : q < 8) :
    ∃ v, atI [.tup [.str "block", .tup b], .tup [.str "for", .non, .tup b], .tup [.str "for", .str x, .tup b], .tup [.str "while", .str x, lf, .tup b],
      .tup [.str "if", lf, .tup b, .tup []], .tup [.str "if", lf, .tup [], .tup b], .tup [.str "try", .tup b, .tup []], .tup [.str "try", .tup [], .tup b]] q = some v ∧ WS (d + 1) v ∧ pz v ≤ pzL b + 2 := by
  obtain ⟨y, hy, e⟩ := pick (xs := [PV.tup [.str "block", .tup b], .tup [.str "for", .non, .tup b], .tup [.str "for", .str x, .tup b], .tup [.str "while", .str x, lf, .tup b],
      .tup [.str "if", lf, .tup b, .tup []], .tup [.str "if", lf, .tup [], .tup b], .tup [.str "try", .tup b, .tup []], .tup [.str "try", .tup [], .tup b]]) (i := q) q0 (by simpa using q8)
  have n0 : ∀ s ∈ ([] : List PV), WS d s := fun s hs => nomatch hs
  have z0 : pz (.tup []) = 0 := by simp [pz, pzT]
  have z1 : pz lf = 1 := by obtain ⟨_, _, _, _, rfl⟩ := hl; simp
  have zb := pz_b hb
  have c30 : WC 25 lf := WC.leaf 25 hl
  have lx : LAB (.str x) := .inr ⟨x, rfl, xB⟩
  have ln : LAB .non := .inl rfl
  simp only [List.mem_cons, List.not_mem_nil, or_false] at hy
  rcases hy with rfl | rfl | rfl | rfl | rfl | rfl | rfl | rfl
  · exact ⟨_, e, .block hb, by simp [zb, z0, z1]; omega⟩
  · exact ⟨_, e, .for_ ln hb, by simp [zb, z0, z1]; omega⟩
  · exact ⟨_, e, .for_ lx hb, by simp [zb, z0, z1]; omega⟩
  · exact ⟨_, e, .while_ lx c30 hb, by simp [zb, z0, z1]; omega⟩
  · exact ⟨_, e, .if_ c30 hb n0, by simp [zb, z0, z1]; omega⟩
  · exact ⟨_, e, .if_ c30 n0 hb, by simp [zb, z0, z1]; omega⟩
  · exact ⟨_, e, .try_ hb n0, by simp [zb, z0, z1]; omega⟩
  · exact ⟨_, e, .try_ n0 hb, by simp [zb, z0, z1]; omega⟩
theorem wrapped_ok {d k : Nat} {body : List PV} {n : Int} (hx : NM xs) (h : TR ns (RS xs r C) st) (hb : ∀ s ∈ body, WS d s) (n0 : 0 ≤ n) (n1 : n ≤ 35) :
    ∃ body' st', evCall TURNS D (k + 2) 30 [.loc 1, .loc 2, .tup body, .int n] st = .ok (.tup body') st' ∧ TR ns (RS xs r C) st' ∧ (∀ s ∈ body', WS (d + n.toNat) s) ∧ pzL body' ≤ pzL body + 2 * n.toNat := by
  have hr := rng_ok' (n := n) n0 (by omega) st
  obtain ⟨e, s, m1, ps, x4, x5, x6, x7, m2, m3, m4, m5⟩ := forLoop_inv (put := MG.put (.nm 4)) (body := evSs (evCall TURNS D (k + 1)) TURNS b30_0) (xs := (List.range n.toNat).map fun (k : Nat) => .int k)
    (fun j env s => ∃ (ps : List PV) (x4 x5 x6 x7 : Option PV), env = [some (.loc 1), some (.loc 2), some (.tup ps), some (.int n), x4, x5, x6, x7] ∧ TR ns (RS xs r C) s ∧ (∀ p ∈ ps, WS (d + j) p) ∧ pzL ps ≤ pzL body + 2 * j) (fun j x env s hx' ⟨ps, x4, x5, x6, x7, e1, e2, e3, e4⟩ => by
      subst e1
      have ln : biV .len [.loc 2] s = some (.int xs.length) := by rw [bi_len_loc e2.names]; simp
      obtain ⟨q1, st1, x', a1, a2, a3, a4⟩ := nameR (k := k) e2 hx
      obtain ⟨a4, _⟩ := a4
      have i1 := ix_loc (k := q1) a2.names
      rw [a3] at i1
      obtain ⟨q2, st2, b1, b2, b3, b4⟩ := drawR (k := k) (m := 2) a2 (by decide)
      have lf : ∃ lf, atI [PV.tup [.str "call", .str x'], .tup [.str "flag", .str x']] q2 = some lf ∧ WF lf := by
        obtain ⟨y, hy, e⟩ := pick (xs := [PV.tup [.str "call", .str x'], .tup [.str "flag", .str x']]) (i := q2) b3 (by simpa using b4)
        simp only [List.mem_cons, List.not_mem_nil, or_false] at hy
        rcases hy with rfl | rfl
        · exact ⟨_, e, _, _, .inl rfl, a4, rfl⟩
        · exact ⟨_, e, _, _, .inr rfl, a4, rfl⟩
      obtain ⟨lf, l1, l2⟩ := lf
      obtain ⟨q3, st3, c1, c2, c3, c4⟩ := drawR (k := k) (m := 8) b2 (by decide)
      obtain ⟨v, v1, v2, v3⟩ := shell_ok e3 a4 l2 c3 c4
      have pp : PV.pureL ps = true := pureL_of fun s hs => (e3 s hs).pure
      have el := fun st => esc_p (WC.leaf 0 l2).pure st
      have vl := fun st => varV_p (WC.leaf 0 l2).pure st
      have ev' := fun st => esc_p v2.pure st
      have ad : ∀ (a1 a2 a3 a4 b1 b2 b3 b4 : PV) (st : Store), binV .add (.fl [a1, a2, a3, a4]) (.fl [b1, b2, b3, b4]) st = some (.fl [a1, a2, a3, a4, b1, b2, b3, b4]) := fun a1 a2 a3 a4 b1 b2 b3 b4 st => bin_add_fl (xs := [a1, a2, a3, a4]) (ys := [b1, b2, b3, b4]) (by simp)
      refine ⟨[some (.loc 1), some (.loc 2), some (.tup ps), some (.int n), some x, x5, x6, x7], rfl, ?_⟩
      simp [b30_0, evSs, evS, ev, evA, evCs, ln, a1, i1, b1, l1, c1, v1, el, vl, ev', ad, sizeLine_eq]
      refine ⟨c2, ?_, ?_⟩
      · rw [show d + (j + 1) = d + j + 1 by omega]; exact v2
      · omega) n.toNat 0 [some (.loc 1), some (.loc 2), some (.tup body), some (.int n), none, none, none, none] st (by simp) ⟨body, none, none, none, none, rfl, h, fun p hp => hb p hp, by omega⟩
  subst m2
  simp only [List.length_map, List.length_range] at m4 m5
  have lv := fun v => TR.leave h m3 rfl v
  refine ⟨ps, s, ?_, m3, m4, by omega⟩
  rw [show k + 2 = (k + 1) + 1 by omega, evCall]
  simp [D, d30, evSs, evS, ev, evA, evCs, evSrc, Src.many, ME.held, hr, m1, sizeLine_eq, lv, -List.map_map]

end
section

open PySem L2 U
variable {ns : List Int} {R C : Store} {st : Store} {xs : List Str} {f w : Nat} {a b r : Int}
abbrev R1 (xs : List Str) : Store := [.lst (xs.map .str)]
theorem any_turn {k : Nat} (hx : NM xs) {n : Int} (n0 : 0 ≤ n) (n3 : n ≤ 3) {r0 r : Int} {ps : List PV} {s0 : Store} {sh : Int} {x5 : Option PV} (r00 : 0 ≤ r0) (r01 : r0 ≤ 150) (h : TR ns (RS xs r []) s0) (hp : ∀ p ∈ ps, WS 40 p)
    (hz : (pzL ps : Int) ≤ 70 + r0 - r) (hz2 : (pzL ps : Int) ≤ 70 + 2 * r0) :
    ∃ (ps' : List PV) (r' : Int) (x5' : Option PV) (s' : Store), forLoop (MG.put (.nm 5)) (evSs (evCall TURNS D (k + 24)) TURNS b31_0) (.items ((List.range n.toNat).map fun (k : Nat) => .int k)) 0 n.toNat [some (.loc 1), some (.loc 2), some (.int sh), some (.loc 3), some (.tup ps), x5] s0
      = .nx [some (.loc 1), some (.loc 2), some (.int sh), some (.loc 3), some (.tup ps'), x5'] s' ∧ TR ns (RS xs r' []) s' ∧ (∀ p ∈ ps', WS 40 p) ∧ pzL ps' ≤ 450 := by
  obtain ⟨e, s, m1, ps', r', x5', m2, m3, m5, m6, m7⟩ := forLoop_inv (put := MG.put (.nm 5)) (body := evSs (evCall TURNS D (k + 24)) TURNS b31_0) (xs := (List.range n.toNat).map fun (k : Nat) => .int k)
    (fun j env s => ∃ (ps : List PV) (r' : Int) (x5 : Option PV), env = [some (.loc 1), some (.loc 2), some (.int sh), some (.loc 3), some (.tup ps), x5] ∧ TR ns (RS xs r' []) s ∧ (∀ p ∈ ps, WS 40 p) ∧ (pzL ps : Int) ≤ 70 + r0 - r' ∧ (pzL ps : Int) ≤ 140 + 2 * r0) (fun j x env s hx' ⟨ps, r', x5, e1, e2, e4, e5, e6⟩ => by
      subst e1
      have rm := ix_loc (k := 0) e2.room
      rw [atI_0] at rm
      refine ⟨[some (.loc 1), some (.loc 2), some (.int sh), some (.loc 3), some (.tup ps), some x], rfl, ?_⟩
      by_cases hr : 0 < r'
      · have h6 := e2.setr (r' - 1)
        by_cases hr2 : r' ≤ 1000
        · obtain ⟨v, r2, st2, g1, g2, g3, g4, g5⟩ := (tw_ok (ns := ns) hx 4).2 k (r' - 1) 4 [] _ rfl h6 (by omega) (by omega) (fun c hc => nomatch hc)
          rw [show k + 2 * 4 + 16 = k + 24 by omega] at g1
          have ec := fun st => esc_p g3.pure st
          have e0 : ixN 1 0 = some 0 := rfl
          have r3 := e2.room
          have lv := g3.pos
          have hl := pz_many fun c hc => (e4 c hc).pos
          have ad : ∀ st, binV .add (.tup ps) (.tup [v]) st = some (.tup (ps ++ [v])) := fun st => bin_add_tup (by rw [sizeLine_eq]; simp; omega)
          simp [b31_0, evSs, evS, ev, evA, evCs, rm, hr, r3, e0, g1, ec, ad, sizeLine_eq]
          refine ⟨r2, g2, fun p hp => ?_, by omega, by omega⟩
          rcases hp with hp | rfl
          · exact e4 p hp
          · exact g3.mono (by omega)
        · exact absurd e5 (by omega)
      · simp [b31_0, evSs, evS, ev, evA, evCs, rm, hr]
        exact ⟨r', e2, e4, e5, e6⟩) n.toNat 0 [some (.loc 1), some (.loc 2), some (.int sh), some (.loc 3), some (.tup ps), x5] s0 (by simp) ⟨ps, r, x5, rfl, h, hp, hz, by omega⟩
  subst m2
  exact ⟨ps', r', x5', s, m1, m3, m5, by omega⟩
theorem any_ok {k : Nat} (hx : NM xs) (h : TR ns (R1 xs) st) : ∃ ps st', evCall TURNS D (k + 28) 31 [.loc 1, .loc 2] st = .ok (.tup ps) st' ∧ TR ns (R1 xs) st' ∧ (∀ s ∈ ps, WS 40 s) ∧ pzL ps ≤ 450 := by
  obtain ⟨sh, st1, a1, a2, a3, a4⟩ := drawR (k := k + 26) (m := 8) h (by decide)
  have pk : ∃ n : Int, atI [PV.int 12, .int 30, .int 60, .int 60, .int 60, .int 100, .int 100, .int 150] sh = some (.int n) ∧ 0 ≤ n ∧ n ≤ 150 := by
    obtain ⟨y, hy, e3⟩ := pick (xs := [PV.int 12, .int 30, .int 60, .int 60, .int 60, .int 100, .int 100, .int 150]) (i := sh) a3 (by simpa using a4)
    simp only [List.mem_cons, List.not_mem_nil, or_false] at hy
    rcases hy with rfl | rfl | rfl | rfl | rfl | rfl | rfl | rfl <;> exact ⟨_, e3, by decide, by decide⟩
  obtain ⟨r0, e6, n0, n3⟩ := pk
  have len1 : st1.length = 3 := a2.len
  have h2 : TR ns (RS xs r0 []) (st1 ++ [.lst [.int r0]]) := a2.push [.lst [.int r0]]
  obtain ⟨ps, r', st3, t1, t2, t3, t4, t5⟩ := (tw_ok (ns := ns) hx 5).1 k r0 5 [] _ rfl h2 (by omega) (fun c hc => nomatch hc)
  rw [show k + 2 * 5 + 17 = k + 27 by omega] at t1
  have pp : PV.pureL ps = true := pureL_of fun s hs => (t3 s hs).pure
  have low : Low ((R1 xs).length + 2) (R1 xs) := fun c hc => RS.low (xs := xs) (r := 0) (C := []) (fun c hc => nomatch hc) c (by simp at hc; simp [hc])
  -- the loop and the end, from a program and a store
  have fin : ∀ (ps : List PV) (s0 : Store), TR ns (RS xs r' []) s0 → (∀ p ∈ ps, WS 40 p) → (pzL ps : Int) ≤ 70 + r0 - r' → (pzL ps : Int) ≤ 70 + 2 * r0 → ∃ (n : Int) (st4 st5 : Store) (q : Int) (ps' : List PV) (x5' : Option PV) (st6 : Store),
      evCall TURNS D (k + 27) 5 [.loc 1, .int 4] s0 = .ok (.int q) st4 ∧ atI [PV.int 0, .int 0, .int 1, .int 3] q = some (.int n) ∧ rngV (.int 0) (.int n) st4 = .ok (.items ((List.range n.toNat).map fun (k : Nat) => .int k)) st4 ∧
      forLoop (MG.put (.nm 5)) (evSs (evCall TURNS D (k + 27)) TURNS b31_0) (.items ((List.range n.toNat).map fun (k : Nat) => .int k)) 0 n.toNat [some (.loc 1), some (.loc 2), some (.int sh), some (.loc 3), some (.tup ps), none] st4
      = .nx [some (.loc 1), some (.loc 2), some (.int sh), some (.loc 3), some (.tup ps'), x5'] st5 ∧ U.leave st.length (.tup ps') st5 = .ok (.tup ps') st6 ∧ TR ns (R1 xs) st6 ∧ (∀ s ∈ ps', WS 40 s) ∧ pzL ps' ≤ 450 := by
    intro ps s0 g1 g2 g3 g4
    obtain ⟨q, st4, d1, d2, d3, d4⟩ := drawR (k := k + 26) (m := 4) g1 (by decide)
    have pk : ∃ n : Int, atI [PV.int 0, .int 0, .int 1, .int 3] q = some (.int n) ∧ 0 ≤ n ∧ n ≤ 3 := by
      obtain ⟨y, hy, e3⟩ := pick (xs := [PV.int 0, .int 0, .int 1, .int 3]) (i := q) d3 (by simpa using d4)
      simp only [List.mem_cons, List.not_mem_nil, or_false] at hy
      rcases hy with rfl | rfl | rfl | rfl <;> exact ⟨_, e3, by decide, by decide⟩
    obtain ⟨n, e6, m0, m3⟩ := pk
    obtain ⟨ps', r2, x5', st5, l1, l2, l3, l4⟩ := any_turn (k := k + 3) (sh := sh) (x5 := none) hx m0 m3 n0 n3 d2 g2 g3 g4
    have pp : PV.pureL ps' = true := pureL_of fun s hs => (l3 s hs).pure
    obtain ⟨st6, v1, v2⟩ := TR.drop' (R' := R1 xs) (C := [.lst [.int r2]]) (v := .tup ps') h l2 rfl low pp
    exact ⟨n, st4, st5, q, ps', x5', st6, d1, e6, rng_ok' m0 (by omega) st4, l1, v1, v2, l3, l4⟩
  by_cases hs : sh < 2
  · obtain ⟨q, st4, d1, d2, d3, d4⟩ := drawR (k := k + 26) (m := 36) t2 (by decide)
    obtain ⟨ps2, st5, w1, w2, w3, w4⟩ := wrapped_ok (k := k + 25) (n := q) hx d2 t3 d3 (by omega)
    obtain ⟨n, st6, st7, q7, ps', x5', st8, f1, f2, f3, f4, f5, f6, f7, f8⟩ := fin ps2 st5 w2 (fun p hp => (w3 p hp).mono (by omega)) (by omega) (by omega)
    refine ⟨ps', st8, ?_, f6, f7, f8⟩
    rw [show k + 28 = (k + 27) + 1 by omega, evCall]
    simp [D, d31, evSs, evS, ev, evA, evCs, evSrc, Src.many, ME.held, a1, e6, len1, t1, hs, d1, w1, f1, f2, f3, f4, f5, sizeLine_eq, -List.map_map]
  · obtain ⟨n, st6, st7, q7, ps', x5', st8, f1, f2, f3, f4, f5, f6, f7, f8⟩ := fin ps st3 t2 (fun p hp => (t3 p hp).mono (by omega)) (by omega) (by omega)
    refine ⟨ps', st8, ?_, f6, f7, f8⟩
    rw [show k + 28 = (k + 27) + 1 by omega, evCall]
    simp [D, d31, evSs, evS, ev, evA, evCs, evSrc, Src.many, ME.held, a1, e6, len1, t1, hs, f1, f2, f3, f4, f5, sizeLine_eq, -List.map_map]

end
end K02

set_option maxHeartbeats 4000000
namespace K02.N
variable {R : U.Store}

open PySem L2 U
theorem loopA {k : Nat} {ns : List Int} {st : Store} {sg name : Str} {r : Int} {a1 a3 a4 a5 a6 a7 a9 a10 : Option PV} (hg : ∀ (i : Int) (st : Store), 0 ≤ i → i < 63 → ∃ c, ixV (.str sg) (.int i) st = some (.str ⟨#[c]⟩) ∧ c < 256)
    (t : TR ns R st) (hn : B 21 name) (h0 : 0 ≤ r) (h1 : r ≤ 6) :
    ∃ nm x9 st', forLoop (MG.put (.nm 9)) (evSs (evCall TURNS D (k + 1)) TURNS b6_0) (.items ((List.range r.toNat).map fun (k : Nat) => .int k)) 0 r.toNat [some (.loc 1), a1, some (.str sg), a3, a4, a5, a6, a7, some (.str name), a9, a10] st
      = .nx [some (.loc 1), a1, some (.str sg), a3, a4, a5, a6, a7, some (.str nm), x9, a10] st' ∧ B 27 nm ∧ TR ns R st' := by
  obtain ⟨e, s, q1, nm, x9, q2, q3, q4⟩ := forLoop_inv (put := MG.put (.nm 9)) (body := evSs (evCall TURNS D (k + 1)) TURNS b6_0) (xs := (List.range r.toNat).map fun (k : Nat) => .int k)
    (fun j env st => ∃ nm x9, B (21 + j) nm ∧ TR ns R st ∧ env = [some (.loc 1), a1, some (.str sg), a3, a4, a5, a6, a7, some (.str nm), x9, a10]) (fun j x env st hx ⟨nm, x9, e1, e2, e3⟩ => by
      subst e3
      have hj : j < r.toNat := by
        have := (List.getElem?_eq_some_iff.mp hx).1
        simpa using this
      obtain ⟨q, st1, g1, g2, g3, g4⟩ := drawR (k := k) (m := 63) e2 (by decide)
      obtain ⟨c, hc, hc2⟩ := hg q st1 g3 g4
      have le1 := e1.1
      have a := add_ok (x := nm) (y := ⟨#[c]⟩) (st := st1) (by omega) (by rw [one_len]; omega)
      refine ⟨_, rfl, ?_⟩
      simp [b6_0, evSs, evS, ev, evA, evCs, g1, hc, a]
      exact ⟨e1.app (.one hc2), g2⟩) r.toNat 0 _ st (by simp) ⟨name, a9, hn, t, rfl⟩
  refine ⟨nm, x9, s, by rw [q1, q4], q2.mono ?_, q3⟩
  have : ((List.range r.toNat).map fun (k : Nat) => PV.int k).length = r.toNat := by simp
  omega
def SG : Str := "abcdefghijklmnopqrstuvwxyzABCDEFGHIJKLMNOPQRSTUVWXYZ0123456789_"
theorem SG_B : B 63 SG := .of (by decide +kernel)
theorem SG_ok (i : Int) (st : Store) (h0 : 0 ≤ i) (h1 : i < 63) : ∃ c, ixV (.str SG) (.int i) st = some (.str ⟨#[c]⟩) ∧ c < 256 := by
  obtain ⟨c, hm, h⟩ := ixS (s := SG) (st := st) h0 (by rw [show Str.length SG = 63 by decide +kernel]; omega) (by decide +kernel)
  exact ⟨c, h, SG_B.2 c hm⟩
def WL : List PV := [.str "let", .str "if", .str "else", .str "while", .str "for", .str "break", .str "continue", .str "return", .str "try", .str "finally", .str "true", .str "false"]
theorem WL_ok {i : Int} (l1 : 0 ≤ i) (u1 : i < 12) : ∃ s : Str, atI WL i = some (.str s) ∧ B 8 s := pickS (xs := WL) l1 (by simpa [WL] using u1) (by
    intro x hx
    simp only [WL, List.mem_cons, List.not_mem_nil, or_false] at hx
    rcases hx with rfl | rfl | rfl | rfl | rfl | rfl | rfl | rfl | rfl | rfl | rfl | rfl <;> exact ⟨_, rfl, .of (by decide +kernel)⟩)
theorem inW (x : Str) (st : Store) : ∃ b, cmpV .inn (.str x) (.fl WL) st = some b := by
  have h : ∃ b, memF (.str x) WL = some b := ⟨_, rfl⟩
  obtain ⟨b, h⟩ := h
  refine ⟨b, ?_⟩
  show U.inV (.str x) (.fl WL) st = some b
  unfold U.inV
  simp only [seq_fl, h]
theorem inXs (x : Str) (xs : List Str) (st : Store) : ∃ b, cmpV .inn (.str x) (.fl (xs.map .str)) st = some b := by
  have e : ∀ l : List Str, flL (l.map .str) = some (l.map V.str) := fun l => by
    induction l with
    | nil => rfl
    | cons z l ih =>
      show (match flV (.str z), flL (l.map .str) with | some v, some vs => some (v :: vs) | _, _ => none) = _
      rw [ih]; rfl
  have h : memF (.str x) (xs.map .str) = some (L2.inV (.str x) (xs.map V.str)) := by
    show (match flV (.str x), flL (xs.map .str) with | some x, some vs => some (L2.inV x vs) | _, _ => none) = _
    rw [e]; rfl
  refine ⟨L2.inV (.str x) (xs.map V.str), ?_⟩
  show U.inV (.str x) (.fl (xs.map .str)) st = _
  unfold U.inV
  simp only [seq_fl, h]
/-- what follows the stem in a turn -/
theorem turnA {k : Nat} {ns : List Int} {st : Store} {stem : Str} {place : Int} {a8 a9 a10 : Option PV} {xs : List Str} {j : Nat} {mn : Int} (hj : j < 100) (hxs : xs.length < 100) (t : TR ns R st) (hs0 : B 10 stem) (h0 : 0 ≤ place) :
    ∃ x a9' a10' st', evSs (evCall TURNS D (k + 1)) TURNS b6_1 [some (.loc 1), some (.int mn), some (.str SG), some (.fl WL), some (.str stem), some (.int place), some (.fl (xs.map .str)), some (.int j), a8, a9, a10] st
      = .nx [some (.loc 1), some (.int mn), some (.str SG), some (.fl WL), some (.str stem), some (.int place), some (.fl (xs.map .str ++ [.str x])), some (.int j), some (.str x), a9', a10'] st' ∧ B 60 x ∧ TR ns R st' := by
  have hs := hs0.1
  obtain ⟨r1, st1, h1, t1, l1, u1⟩ := drawR (k := k) (m := 52) t (by decide)
  obtain ⟨c1, hc1, hc1b⟩ := SG_ok r1 st1 l1 (by omega)
  have q1 := cut_len (lo := none) (hi := some place) hs
  have q2 := cut_len (lo := some place) (hi := none) hs
  have d1 := sl_str_ok (x := stem) (lo := none) (hi := some place) (st := st) (by omega)
  have d2 := sl_str_ok (x := stem) (lo := some place) (hi := none) (st := st1) (by omega)
  have m1 := add_ok (x := cutS stem none (some place)) (y := ⟨#[c1]⟩) (st := st1) (by omega) (by rw [one_len]; omega)
  have m2 := add_ok (x := cutS stem none (some place) ++ ⟨#[c1]⟩) (y := cutS stem (some place) none) (st := st1) (by rw [len_app, one_len]; omega) (by omega)
  obtain ⟨r3, st3, h3, t3, l3, u3⟩ := drawR (k := k) (m := 6) (ns := ns) (st := st1) t1 (by decide)
  have e3 : ∃ n : Int, atI [PV.int 0, .int 0, .int 0, .int 1, .int 2, .int 6] r3 = some (.int n) ∧ 0 ≤ n ∧ n ≤ 6 := by
    obtain ⟨y, hy, e3⟩ := pick (xs := [PV.int 0, .int 0, .int 0, .int 1, .int 2, .int 6]) (i := r3) l3 (by simpa using u3)
    simp only [List.mem_cons, List.not_mem_nil, or_false] at hy
    rcases hy with rfl | rfl | rfl | rfl | rfl | rfl <;> exact ⟨_, e3, by decide, by decide⟩
  obtain ⟨n, e3, n0, n6⟩ := e3
  have hr : rngV (.int 0) (.int n) st3 = .ok (.items ((List.range (n - 0).toNat).map fun (k : Nat) => .int (0 + k))) st3 := if_pos (by omega)
  rw [show n - 0 = n by omega] at hr
  simp only [Int.zero_add] at hr
  obtain ⟨nm, x9, st4, g1, g2, g3⟩ := loopA (k := k) (sg := SG) (name := cutS stem none (some place) ++ ⟨#[c1]⟩ ++ cutS stem (some place) none) (a1 := some (.int mn)) (a3 := some (.fl WL)) (a4 := some (.str stem)) (a5 := some (.int place)) (a6 := some (.fl (xs.map .str))) (a7 := some (.int j)) (a9 := a9) (a10 := a10) SG_ok t3 ((((hs0.cut _ _).app (.one hc1b)).app (hs0.cut _ _)).mono (by omega)) n0 n6
  have g2b := g2
  have g2 := g2b.1
  obtain ⟨r5, st5, h5, t5, l5, u5⟩ := drawR (k := k) (m := 16) g3 (by decide)
  have hx2 : xs.length < 16777216 := by omega
  have jb := num_B (i := (j : Int)) (by omega) (by omega)
  have jl := jb.1
  have ja : (j : Int).natAbs < 1000000 := by omega
  have wj := fun st => bi_str (i := (j : Int)) (st := st) ja
  generalize Str.ofString (toString (j : Int)) = Z at jl wj jb
  have o23 : Str.length ("one_of_two_equal_names_" : Str) = 23 := by decide +kernel
  have kj := fun st => add_ok (x := ("one_of_two_equal_names_" : Str)) (y := Z) (st := st) (by decide +kernel) (by omega)
  have one24 : B 60 (("one_of_two_equal_names_" : Str) ++ Z) := ((B.of (n := 23) (by decide +kernel)).app jb).mono (by omega)
  by_cases c0 : r5 = 0
  · subst c0
    have k1 := len_ok (x := nm) (st := st5) (by omega)
    have k2 := bin_mul_str (x := "x") (j := 30 - nm.length) (st := st5) ⟨by omega, by omega, by rw [show Str.length "x" = 1 by decide +kernel]; omega⟩
    have k4 : (⟨((List.replicate (30 - (nm.length : Int)).toNat (Str.cps "x").toList).flatten).toArray⟩ : Str).length = (30 - (nm.length : Int)).toNat := by
      rw [TL.len_tl]
      show ((List.replicate (30 - (nm.length : Int)).toNat (Str.cps "x").toList).flatten).length = _
      rw [List.length_flatten, List.map_replicate, List.sum_replicate_nat, show (Str.cps "x").toList.length = 1 by decide +kernel]
      omega
    have k5 : B 30 (⟨((List.replicate (30 - (nm.length : Int)).toNat (Str.cps "x").toList).flatten).toArray⟩ : Str) := ⟨by omega, fun c hc => by
      have hc : c ∈ ((List.replicate (30 - (nm.length : Int)).toNat (Str.cps "x").toList).flatten) := hc
      obtain ⟨l, h1, h2⟩ := List.mem_flatten.mp hc
      rw [(List.mem_replicate.mp h1).2] at h2
      exact (B.of (n := 1) (x := "x") (by decide +kernel)).2 c h2⟩
    generalize (⟨((List.replicate (30 - (nm.length : Int)).toNat (Str.cps "x").toList).flatten).toArray⟩ : Str) = XX at k2 k4 k5
    have k3 := add_ok (x := nm) (y := XX) (st := st5) (by omega) (by omega)
    obtain ⟨b, hb⟩ := inW (nm ++ XX) st5
    obtain ⟨b2, hb2⟩ := inXs (nm ++ XX) xs st5
    cases b with
    | false =>
      cases b2 with
      | false =>
        simp [b6_1, evSs, evS, ev, evA, evCs, evSrc, d1, h1, hc1, m1, d2, m2, h3, e3, hr, Src.many, g1, h5, ME.absent, bound_non, bound_int, hx2, -List.map_map, k1, k2, k3, hb, hb2, sizeLine_eq]
        exact ⟨_, _, _, _, ⟨⟨rfl, rfl, rfl⟩, rfl⟩, (g2b.app k5).mono (by omega), t5⟩
      | true =>
        simp [b6_1, evSs, evS, ev, evA, evCs, evSrc, d1, h1, hc1, m1, d2, m2, h3, e3, hr, Src.many, g1, h5, ME.absent, bound_non, bound_int, hx2, -List.map_map, k1, k2, k3, hb, hb2, wj, kj, sizeLine_eq]
        exact ⟨_, _, _, _, ⟨⟨rfl, rfl, rfl⟩, rfl⟩, one24, t5⟩
    | true =>
      simp [b6_1, evSs, evS, ev, evA, evCs, evSrc, d1, h1, hc1, m1, d2, m2, h3, e3, hr, Src.many, g1, h5, ME.absent, bound_non, bound_int, hx2, -List.map_map, k1, k2, k3, hb, wj, kj, sizeLine_eq]
      exact ⟨_, _, _, _, ⟨⟨rfl, rfl, rfl⟩, rfl⟩, one24, t5⟩
  by_cases c1' : r5 = 1
  · subst c1'
    obtain ⟨r6, st6, h6, t6, l6, u6⟩ := drawR (k := k) (m := 12) t5 (by decide)
    obtain ⟨w, hw, lwb⟩ := WL_ok l6 u6
    have lw := lwb.1
    have s1 := sl_str_ok (x := nm) (lo := none) (hi := some 1) (st := st6) (by omega)
    have s2 := cut_len (x := nm) (lo := none) (hi := some 1) g2
    have k3 := add_ok (x := w) (y := cutS nm none (some 1)) (st := st6) (by omega) (by omega)
    obtain ⟨b, hb⟩ := inW (w ++ cutS nm none (some 1)) st6
    obtain ⟨b2, hb2⟩ := inXs (w ++ cutS nm none (some 1)) xs st6
    cases b with
    | false =>
      cases b2 with
      | false =>
        simp [b6_1, evSs, evS, ev, evA, evCs, evSrc, d1, h1, hc1, m1, d2, m2, h3, e3, hr, Src.many, g1, h5, ME.absent, bound_non, bound_int, hx2, -List.map_map, h6, hw, s1, k3, hb, hb2, sizeLine_eq]
        exact ⟨_, _, _, _, ⟨⟨rfl, rfl, rfl⟩, rfl⟩, (lwb.app (g2b.cut _ _)).mono (by omega), t6⟩
      | true =>
        simp [b6_1, evSs, evS, ev, evA, evCs, evSrc, d1, h1, hc1, m1, d2, m2, h3, e3, hr, Src.many, g1, h5, ME.absent, bound_non, bound_int, hx2, -List.map_map, h6, hw, s1, k3, hb, hb2, wj, kj, sizeLine_eq]
        exact ⟨_, _, _, _, ⟨⟨rfl, rfl, rfl⟩, rfl⟩, one24, t6⟩
    | true =>
      simp [b6_1, evSs, evS, ev, evA, evCs, evSrc, d1, h1, hc1, m1, d2, m2, h3, e3, hr, Src.many, g1, h5, ME.absent, bound_non, bound_int, hx2, -List.map_map, h6, hw, s1, k3, hb, wj, kj, sizeLine_eq]
      exact ⟨_, _, _, _, ⟨⟨rfl, rfl, rfl⟩, rfl⟩, one24, t6⟩
  by_cases c2' : r5 = 2
  · subst c2'
    obtain ⟨r6, st6, h6, t6, l6, u6⟩ := drawR (k := k) (m := 12) t5 (by decide)
    obtain ⟨w, hw, lwb⟩ := WL_ok l6 u6
    have lw := lwb.1
    have s1 := sl_str_ok (x := w) (lo := none) (hi := some (-1)) (st := st6) (by omega)
    have s2 := cut_len (x := w) (lo := none) (hi := some (-1)) lw
    obtain ⟨b, hb⟩ := inW (cutS w none (some (-1))) st6
    obtain ⟨b2, hb2⟩ := inXs (cutS w none (some (-1))) xs st6
    cases b with
    | false =>
      cases b2 with
      | false =>
        simp [b6_1, evSs, evS, ev, evA, evCs, evSrc, d1, h1, hc1, m1, d2, m2, h3, e3, hr, Src.many, g1, h5, ME.absent, bound_non, bound_int, hx2, -List.map_map, h6, hw, s1, hb, hb2, sizeLine_eq]
        exact ⟨_, _, _, _, ⟨⟨rfl, rfl, rfl⟩, rfl⟩, (lwb.cut _ _).mono (by omega), t6⟩
      | true =>
        simp [b6_1, evSs, evS, ev, evA, evCs, evSrc, d1, h1, hc1, m1, d2, m2, h3, e3, hr, Src.many, g1, h5, ME.absent, bound_non, bound_int, hx2, -List.map_map, h6, hw, s1, hb, hb2, wj, kj, sizeLine_eq]
        exact ⟨_, _, _, _, ⟨⟨rfl, rfl, rfl⟩, rfl⟩, one24, t6⟩
    | true =>
      simp [b6_1, evSs, evS, ev, evA, evCs, evSrc, d1, h1, hc1, m1, d2, m2, h3, e3, hr, Src.many, g1, h5, ME.absent, bound_non, bound_int, hx2, -List.map_map, h6, hw, s1, hb, wj, kj, sizeLine_eq]
      exact ⟨_, _, _, _, ⟨⟨rfl, rfl, rfl⟩, rfl⟩, one24, t6⟩
  obtain ⟨b, hb⟩ := inW (nm) st5
  obtain ⟨b2, hb2⟩ := inXs (nm) xs st5
  cases b with
  | false =>
    cases b2 with
    | false =>
      simp [b6_1, evSs, evS, ev, evA, evCs, evSrc, d1, h1, hc1, m1, d2, m2, h3, e3, hr, Src.many, g1, h5, ME.absent, bound_non, bound_int, hx2, -List.map_map, c0, c1', c2', hb, hb2, sizeLine_eq]
      exact ⟨_, _, _, _, ⟨⟨rfl, rfl, rfl⟩, rfl⟩, g2b.mono (by omega), t5⟩
    | true =>
      simp [b6_1, evSs, evS, ev, evA, evCs, evSrc, d1, h1, hc1, m1, d2, m2, h3, e3, hr, Src.many, g1, h5, ME.absent, bound_non, bound_int, hx2, -List.map_map, c0, c1', c2', hb, hb2, wj, kj, sizeLine_eq]
      exact ⟨_, _, _, _, ⟨⟨rfl, rfl, rfl⟩, rfl⟩, one24, t5⟩
  | true =>
    simp [b6_1, evSs, evS, ev, evA, evCs, evSrc, d1, h1, hc1, m1, d2, m2, h3, e3, hr, Src.many, g1, h5, ME.absent, bound_non, bound_int, hx2, -List.map_map, c0, c1', c2', hb, wj, kj, sizeLine_eq]
    exact ⟨_, _, _, _, ⟨⟨rfl, rfl, rfl⟩, rfl⟩, one24, t5⟩
/-- the names -/
theorem names_ok {k : Nat} {ns : List Int} {st : Store} {mn : Int} (m0 : 0 ≤ mn) (m1 : mn ≤ 50) (t : TR ns R st) : ∃ (xs : List Str) (st' : Store), evCall TURNS D (k + 2) 6 [.loc 1, .int mn] st = .ok (.fl (xs.map .str)) st' ∧ xs.length = mn.toNat ∧ (∀ x ∈ xs, B 60 x) ∧ TR ns R st' := by
  obtain ⟨r1, st1, h1, t1, l1, u1⟩ := drawR (k := k) (m := 4) t (by decide)
  obtain ⟨stem, hs, lsb⟩ := pickS (xs := [.str "", .str "", .str "sharedStem", .str "while_x"]) (i := r1) (P := B 10) l1 (by simpa using u1) (by
    intro x hx
    simp only [List.mem_cons, List.not_mem_nil, or_false] at hx
    rcases hx with rfl | rfl | rfl | rfl <;> exact ⟨_, rfl, .of (by decide +kernel)⟩)
  have ls := lsb.1
  have k1 := len_ok (x := stem) (st := st1) (by omega)
  obtain ⟨r2, st2, h2, t2, l2, u2⟩ := drawR (k := k) (m := (stem.length : Int) + 1) t1 (by omega)
  have hr : rngV (.int 0) (.int mn) st2 = .ok (.items ((List.range (mn - 0).toNat).map fun (k : Nat) => .int (0 + k))) st2 := if_pos (by omega)
  rw [show mn - 0 = mn by omega] at hr
  simp only [Int.zero_add] at hr
  obtain ⟨e, st3, q1, xs, a7, a8, a9, a10, q2, q3, q4, q5⟩ := forLoop_inv (put := MG.put (.nm 7)) (body := evSs (evCall TURNS D (k + 1)) TURNS b6_1) (xs := (List.range mn.toNat).map fun (k : Nat) => .int k)
    (fun j env st => ∃ (xs : List Str) (a7 a8 a9 a10 : Option PV), xs.length = j ∧ (∀ x ∈ xs, B 60 x) ∧ TR ns R st ∧ env = [some (.loc 1), some (.int mn), some (.str SG), some (.fl WL), some (.str stem), some (.int r2), some (.fl (xs.map .str)), a7, a8, a9, a10]) (fun j x env st hx ⟨xs, a7, a8, a9, a10, e1, e2, e3, e4⟩ => by
      subst e4
      have hj : j < mn.toNat := by
        have := (List.getElem?_eq_some_iff.mp hx).1
        simpa using this
      have hx : x = .int j := by
        rw [List.getElem?_map, List.getElem?_range hj] at hx
        simpa using hx.symm
      subst hx
      obtain ⟨y, x9, x10, st', g1, g2, g3⟩ := turnA (k := k) (xs := xs) (j := j) (mn := mn) (stem := stem) (place := r2) (a8 := a8) (a9 := a9) (a10 := a10) (by omega) (by omega) e3 lsb l2
      refine ⟨_, rfl, ?_⟩
      show SR.go (evSs (evCall TURNS D (k + 1)) TURNS b6_1 [some (.loc 1), some (.int mn), some (.str SG), some (.fl WL), some (.str stem), some (.int r2), some (.fl (xs.map .str)), some (.int j), a8, a9, a10] st) _
      rw [g1, go_nx]
      refine ⟨xs ++ [y], some (.int j), some (.str y), x9, x10, by simp [e1], fun z hz => ?_, g3, by simp⟩
      rcases List.mem_append.mp hz with hz | hz
      · exact e2 z hz
      · rw [List.mem_singleton.mp hz]; exact g2) mn.toNat 0 [some (.loc 1), some (.int mn), some (.str SG), some (.fl WL), some (.str stem), some (.int r2), some (.fl []), none, none, none, none] st2 (by simp) ⟨[], none, none, none, none, rfl, by simp, t2, rfl⟩
  unfold SG WL at q1 q5
  have lvq := fun v => TR.leave t q4 rfl v
  refine ⟨xs, st3, ?_, by simpa using q2, q3, q4⟩
  rw [show k + 2 = (k + 1) + 1 from rfl, evCall]
  simp [D, d6, evSs, evS, ev, evA, evCs, evSrc, h1, hs, k1, h2, hr, Src.many, q1, q5, sizeLine_eq, ME.held, lvq, -List.map_map]
end K02.N

set_option maxHeartbeats 4000000
namespace K02.V
open PySem L2 U
variable {fs : List Str}
def WF (fs : List Str) (v : PV) : Prop := (∃ x : Str, B 60 x ∧ v = .tup [.str "call", .str x]) ∨ ∃ x : Str, x ∈ fs ∧ B 60 x ∧ v = .tup [.str "flag", .str x]
def WC (fs : List Str) : Nat → PV → Prop
  | 0, v => WF fs v
  | d + 1, v => WF fs v ∨ (∃ c, v = .tup [.str "not", c] ∧ WC fs d c) ∨ ∃ (k : Str) (cs : List PV), (k = "and" ∨ k = "or") ∧ v = .tup [.str k, .tup cs] ∧ (∀ c ∈ cs, WC fs d c ∧ hd c ≠ some k) ∧ cs ≠ []
theorem WC.leaf {v : PV} (d : Nat) (h : WF fs v) : WC fs d v := by
  cases d with
  | zero => exact h
  | succ d => exact .inl h
theorem WC.up {v : PV} : ∀ {d : Nat}, WC fs d v → WC fs (d + 1) v := by
  intro d
  induction d generalizing v with
  | zero => exact fun h => .inl h
  | succ d ih =>
    intro h
    rcases h with h | ⟨c, e, h⟩ | ⟨k, cs, hk, e, h, ne⟩
    · exact .inl h
    · exact .inr (.inl ⟨c, e, ih h⟩)
    · exact .inr (.inr ⟨k, cs, hk, e, fun c hc => ⟨ih (h c hc).1, (h c hc).2⟩, ne⟩)
theorem WC.mono {v : PV} {d e : Nat} (h : WC fs d v) (l : d ≤ e) : WC fs e v := by
  induction l with
  | refl => exact h
  | step _ ih => exact ih.up
theorem WC.tup {v : PV} {d : Nat} (h : WC fs d v) : ∃ (k : Str) (x : PV), v = .tup [.str k, x] ∧ (k = "call" ∨ k = "flag" ∨ k = "not" ∨ k = "and" ∨ k = "or") := by
  have l : WF fs v → ∃ (k : Str) (x : PV), v = .tup [.str k, x] ∧ (k = "call" ∨ k = "flag" ∨ k = "not" ∨ k = "and" ∨ k = "or") := fun h => by rcases h with ⟨x, _, e⟩ | ⟨x, _, _, e⟩ <;> exact ⟨_, _, e, by simp⟩
  cases d with
  | zero => exact l h
  | succ d =>
    rcases h with h | ⟨c, e, h⟩ | ⟨k, cs, hk, e, h, ne⟩
    · exact l h
    · exact ⟨_, _, e, by simp⟩
    · exact ⟨_, _, e, by rcases hk with h | h <;> simp [h]⟩
theorem WC.pos {v : PV} {d : Nat} (h : WC fs d v) : 1 ≤ pz v := by
  obtain ⟨k, x, rfl, _⟩ := h.tup
  simp
theorem WC.pure {v : PV} {d : Nat} (h : WC fs d v) : PV.pure v = true := by
  have l : ∀ {v}, WF fs v → PV.pure v = true := fun h => by rcases h with ⟨x, _, e⟩ | ⟨x, _, _, e⟩ <;> (subst e; rfl)
  induction d generalizing v with
  | zero => exact l h
  | succ d ih =>
    rcases h with h | ⟨c, e, h⟩ | ⟨k, cs, hk, e, h, ne⟩
    · exact l h
    · subst e
      show (true && (PV.pure c && true)) = true
      rw [ih h]; rfl
    · subst e
      show (true && (PV.pureL cs && true)) = true
      have : ∀ cs : List PV, (∀ c ∈ cs, PV.pure c = true) → PV.pureL cs = true := fun cs => by
        induction cs with
        | nil => intro _; rfl
        | cons c cs ih2 =>
          intro q
          show (PV.pure c && PV.pureL cs) = true
          rw [q c List.mem_cons_self, ih2 fun x hx => q x (List.mem_cons_of_mem _ hx)]; rfl
      rw [this cs fun c hc => ih (h c hc).1]; rfl

theorem WF.k {v : PV} (h : WF fs v) : K02.WF v := by
  rcases h with ⟨x, hx, rfl⟩ | ⟨x, _, hx, rfl⟩
  · exact ⟨_, _, .inl rfl, hx, rfl⟩
  · exact ⟨_, _, .inr rfl, hx, rfl⟩
theorem WC.k : ∀ {d : Nat} {v : PV}, WC fs d v → K02.WC d v := by
  intro d
  induction d with
  | zero => exact fun h => WF.k h
  | succ d ih =>
    intro v h
    rcases h with h | ⟨c, e, h⟩ | ⟨k, cs, hk, e, h, ne⟩
    · exact .inl h.k
    · exact .inr (.inl ⟨c, e, ih h⟩)
    · exact .inr (.inr ⟨k, cs, hk, e, fun c hc => ⟨ih (h c hc).1, (h c hc).2⟩, ne⟩)
theorem side_ok {d : Nat} {w : Str} {l : PV} (hw : w = "and" ∨ w = "or") (h : WC fs (d + 1) l) : ∃ P : List PV, P ≠ [] ∧ (∀ c ∈ P, WC fs (d + 1) c ∧ hd c ≠ some w) ∧ pzL P ≤ pz l ∧ P.length ≤ pz l ∧
    (l = .tup [.str w, .tup P] ∨ (P = [l] ∧ ∃ (w' : Str) (x : PV), l = .tup [.str w', x] ∧ ¬ w' = w)) := by
  by_cases e : hd l = some w
  · rcases h with h | ⟨c, rfl, _⟩ | ⟨k, cs, hk, rfl, h, ne⟩
    · rcases h with ⟨x, _, rfl⟩ | ⟨x, _, _, rfl⟩
      · have e := Option.some.inj e
        subst e
        simp at hw
      · have e := Option.some.inj e
        subst e
        simp at hw
    · have e := Option.some.inj e
      subst e
      simp at hw
    · have e := Option.some.inj e
      subst e
      have np := noStr_of fun c hc => by obtain ⟨w, x, e, _⟩ := (h c hc).1.tup; exact ⟨_, e⟩
      have hl := pz_many fun c hc => (h c hc).1.pos
      refine ⟨cs, ne, fun c hc => ⟨(h c hc).1.up, (h c hc).2⟩, ?_, ?_, .inl rfl⟩
      · rw [pz_node, pzL_cons, pzL_nil, pz_body np]; omega
      · rw [pz_node, pzL_cons, pzL_nil, pz_body np]; omega
  · have hp := h.pos
    obtain ⟨w', x, rfl, _⟩ := h.tup
    refine ⟨[.tup [.str w', x]], by simp, fun c hc => by rw [List.mem_singleton.mp hc]; exact ⟨h, e⟩, by rw [pzL_cons, pzL_nil]; omega, by rw [List.length_cons, List.length_nil]; omega, .inr ⟨rfl, w', x, rfl, fun z => e (by rw [z]; rfl)⟩⟩
theorem joined_ok {d : Nat} {w : Str} {l r : PV} (hw : w = "and" ∨ w = "or") (hl : WC fs (d + 1) l) (hr : WC fs (d + 1) r) (zl : pz l ≤ 1000) (zr : pz r ≤ 1000) :
    ∃ v, (∀ k st, evCall TURNS D (k + 1) 20 [.str w, l, r] st = .ok v st) ∧ WC fs (d + 2) v ∧ pz v ≤ 1 + pz l + pz r ∧ PV.pure v = true := by
  obtain ⟨P, pn, p1, p2, p3, p4⟩ := side_ok hw hl
  obtain ⟨Q, qn, q1, q2, q3, q4⟩ := side_ok hw hr
  have hall : ∀ c ∈ P ++ Q, WC fs (d + 1) c ∧ hd c ≠ some w := fun c hc => (List.mem_append.mp hc).elim (p1 c) (q1 c)
  have hwc : WC fs (d + 2) (.tup [.str w, .tup (P ++ Q)]) := .inr (.inr ⟨w, P ++ Q, hw, rfl, hall, fun e => pn (List.append_eq_nil_iff.mp e).1⟩)
  refine ⟨.tup [.str w, .tup (P ++ Q)], fun k st => ?_, hwc, ?_, hwc.pure⟩
  · have pl := hl.pure
    have pr := hr.pure
    have el := fun st => esc_p pl st
    have er := fun st => esc_p pr st
    have vl := fun st => varV_p pl st
    have vr := fun st => varV_p pr st
    have z0 : P.length < 16777216 ∧ Q.length < 16777216 ∧ P.length + Q.length ≤ 16777216 ∧ P.length + Q.length < 16777216 := by omega
    obtain ⟨z1, z2, z3, z4⟩ := z0
    rw [evCall]
    rcases p4 with rfl | ⟨rfl, w1, x, rfl, n1⟩ <;> rcases q4 with rfl | ⟨rfl, w2, y, rfl, n2⟩
    · have c1 := fun st => bin_add_fl (xs := []) (ys := P) (st := st) (by simp; omega)
      have c2 := fun st => bin_add_fl (xs := P) (ys := Q) (st := st) (by omega)
      simp only [List.nil_append] at c1
      simp [D, d20, b20_0, evSs, evS, ev, evA, evCs, evSrc, ME.held, leave_id, srcV, Src.many, forLoop, Src.get, MG.put, sizeLine_eq, bi_list_tup, bi_tuple_fl, c1, c2, el, er, vl, vr, Src.fits]
    · have c1 := fun st => bin_add_fl (xs := []) (ys := P) (st := st) (by simp; omega)
      simp only [List.nil_append] at c1
      simp [D, d20, b20_0, evSs, evS, ev, evA, evCs, evSrc, ME.held, leave_id, srcV, Src.many, forLoop, Src.get, MG.put, sizeLine_eq, bi_list_tup, bi_tuple_fl, c1, el, er, vl, vr, Src.fits, n2, z1]
    · have c1 := fun st => bin_add_fl (xs := [PV.tup [.str w1, x]]) (ys := Q) (st := st) (by simp; omega)
      simp only [List.cons_append, List.nil_append] at c1
      simp [D, d20, b20_0, evSs, evS, ev, evA, evCs, evSrc, ME.held, leave_id, srcV, Src.many, forLoop, Src.get, MG.put, sizeLine_eq, bi_list_tup, bi_tuple_fl, c1, el, er, vl, vr, Src.fits, n1]
    · simp [D, d20, b20_0, evSs, evS, ev, evA, evCs, evSrc, ME.held, leave_id, srcV, Src.many, forLoop, Src.get, MG.put, sizeLine_eq, bi_list_tup, bi_tuple_fl, el, er, vl, vr, Src.fits, n1, n2]
  · have np := noStr_of fun c hc => by obtain ⟨w, x, e, _⟩ := (hall c hc).1.tup; exact ⟨_, e⟩
    rw [pz_node, pzL_cons, pzL_nil, pz_body np, pzL_app]; omega
/-- not, so many times -/
theorem nots_ok {call : Nat → List PV → Store → Res PV} {n : Nat} (hn : n ≤ 2) {v : PV} (hv : WF fs v) {a0 a1 a2 a3 a4 a5 a7 a8 : Option PV} {st : Store} :
    ∃ v' x7, forLoop (MG.put (.nm 7)) (evSs call TURNS b21_1) (.items ((List.range n).map fun (k : Nat) => .int k)) 0 n [a0, a1, a2, a3, a4, a5, some v, a7, a8] st = .nx [a0, a1, a2, a3, a4, a5, some v', x7, a8] st ∧ WC fs 2 v' ∧ pz v' ≤ 3 := by
  obtain ⟨e, s, q1, v', x7, q2, q3, q4, q5⟩ := forLoop_inv (put := MG.put (.nm 7)) (body := evSs call TURNS b21_1) (xs := (List.range n).map fun (k : Nat) => .int k)
    (fun j env s => ∃ v' x7, s = st ∧ env = [a0, a1, a2, a3, a4, a5, some v', x7, a8] ∧ WC fs j v' ∧ pz v' ≤ 1 + j) (fun j x env s hx ⟨v', x7, e1, e2, e3, e4⟩ => by
      subst e1 e2
      refine ⟨[a0, a1, a2, a3, a4, a5, some v', some x, a8], rfl, ?_⟩
      have p := varV_p e3.pure s
      have p2 := esc_p e3.pure s
      simp [b21_1, evSs, evS, ev, evA, p, p2, sizeLine_eq]
      exact ⟨.inr (.inl ⟨v', rfl, e3⟩), by omega⟩) n 0 [a0, a1, a2, a3, a4, a5, some v, a7, a8] st (by simp) ⟨v, a7, rfl, rfl, WC.leaf 0 hv, by
        rcases hv with ⟨x, _, rfl⟩ | ⟨x, _, _, rfl⟩ <;> simp⟩
  rw [show ((List.range n).map fun (k : Nat) => PV.int k).length = n by simp] at q4 q5
  exact ⟨v', x7, by rw [q1, q2, q3], q4.mono hn, by omega⟩

variable {ns : List Int} {R : Store} {st : Store} {as : List Str} {f w A F Lb G : Nat} {a b : Int} {qq : Int × Int × Int × Int}
abbrev FR (qq : Int × Int × Int × Int) (a b : Int) : List PV := [.int qq.1, .int a, .int qq.2.1, .int qq.2.2.1, .int qq.2.2.2, .int b]
def NF (fs : List Str) : Prop := fs.length ≤ 50 ∧ ∀ x ∈ fs, B 60 x
def CS (ns : List Int) (R : Store) (f : Nat) (qq : Int × Int × Int × Int) (a b : Int) (st : Store) : Prop := TR ns (R.set f (.lst (FR qq a b))) st
structure Wl (R : Store) (as fs : List Str) (f w A F Lb G : Nat) : Prop where
  hA : R[A]? = some (.lst (as.map .str))
  hF : R[F]? = some (.lst (fs.map .str))
  hw : R[w]? = some (.lst [.loc (f + 2), .loc (A + 2), .loc (Lb + 2), .loc (G + 2)])
  fA : f ≠ A
  fF : f ≠ F
  fw : f ≠ w
  fl : f < R.length
theorem CS.ca (h : CS ns R f qq a b st) (W : Wl R as fs f w A F Lb G) : st[A + 2]? = some (.lst (as.map .str)) := by
  have := TR.at h A
  rw [List.getElem?_set_ne W.fA, W.hA] at this
  exact this
theorem CS.cF (h : CS ns R f qq a b st) (W : Wl R as fs f w A F Lb G) : st[F + 2]? = some (.lst (fs.map .str)) := by
  have := TR.at h F
  rw [List.getElem?_set_ne W.fF, W.hF] at this
  exact this
theorem CS.cw (h : CS ns R f qq a b st) (W : Wl R as fs f w A F Lb G) : st[w + 2]? = some (.lst [.loc (f + 2), .loc (A + 2), .loc (Lb + 2), .loc (G + 2)]) := by
  have := TR.at h w
  rw [List.getElem?_set_ne W.fw, W.hw] at this
  exact this
theorem CS.cf (h : CS ns R f qq a b st) (W : Wl R as fs f w A F Lb G) : st[f + 2]? = some (.lst (FR qq a b)) := by
  have := TR.at h f
  rw [List.getElem?_set_self W.fl] at this
  exact this
theorem CS.set (h : CS ns R f qq a b st) (a' b' : Int) : CS ns R f qq a' b' (setAt st (f + 2) (FR qq a' b')) := by
  have := TR.set h f (FR qq a' b')
  rw [List.set_set] at this
  exact this
theorem CS.len (h : CS ns R f qq a b st) : st.length = R.length + 2 := by
  have := TR.len h
  simpa using this
theorem drawR0 {k : Nat} {m : Int} (h : TR ns R st) (hm : m < 1000000) : ∃ r st', evCall TURNS D (k + 1) 5 [.loc 1, .int m] st = .ok (.int r) st' ∧ TR ns R st' ∧ 0 ≤ r ∧ r < max m 1 := by
  obtain ⟨p, q, z, hp, hq, hz, rfl⟩ := h
  obtain ⟨r, p', q', z', h1, h2, h3, h4, h5, h6⟩ := draw_ok (k := k) (st := .lst (ns.map .int) :: .lst (tp 0 p q z) :: R) (t := 1) (c := 0) (ns := ns) rfl rfl hp hq hz hm
  exact ⟨r, _, h1, ⟨p', q', z', h4, h5, h6, rfl⟩, h2, h3⟩
theorem leaf_ok {k : Nat} (W : Wl R as fs f w A F Lb G) (hx : NM as) (hf : NF fs) (h : CS ns R f qq a b st) : ∃ v st' a', evCall TURNS D (k + 2) 19 [.loc 1, .loc (w + 2), .loc (F + 2)] st = .ok v st' ∧ WF fs v ∧ CS ns R f qq a' b st' := by
  have e1 : ixN 6 1 = some 1 := rfl
  have t0 := truth_loc (h.cF W)
  have iw := ix_loc (k := 0) (h.cw W)
  have i1 := ix_loc (k := 1) (h.cf W)
  have fin : ∀ {st'} {a'}, CS ns R f qq a' b st' → ∀ v, leave st.length v st' = .ok v st' := fun c v => leave_same (by rw [c.len, h.len]; omega)
  -- a call
  have calls : ∀ {st1}, CS ns R f qq a b st1 → ∃ (x : Str) (r : Int) (st2 : Store), ixV (.loc (f + 2)) (.int 1) st1 = some (.int a) ∧ st1[f + 2]? = some (.lst (FR qq a b)) ∧ (∀ v, leave st.length v st2 = .ok v st2) ∧
      ixV (.loc (w + 2)) (.int 1) (setAt st1 (f + 2) (FR qq (a - 1) b)) = some (.loc (A + 2)) ∧ biV .len [.loc (A + 2)] (setAt st1 (f + 2) (FR qq (a - 1) b)) = some (.int as.length) ∧
      evCall TURNS D (k + 1) 5 [.loc 1, .int as.length] (setAt st1 (f + 2) (FR qq (a - 1) b)) = .ok (.int r) st2 ∧ ixV (.loc (A + 2)) (.int r) st2 = some (.str x) ∧ B 60 x ∧ CS ns R f qq (a - 1) b st2 := by
    intro st1 g2
    have g5 := g2.set (a - 1) b
    obtain ⟨r, st2, x, q1, q2, q3, q4, _⟩ := nameR (k := k) g5 hx
    have q2 : CS ns R f qq (a - 1) b st2 := q2
    have bl := bi_len_loc (g5.ca W)
    rw [List.length_map] at bl
    have ix := ix_loc (k := r) (q2.ca W)
    rw [q3] at ix
    have j1 := ix_loc (k := 1) (g2.cf W)
    have jw := ix_loc (k := 1) (g5.cw W)
    exact ⟨x, r, st2, j1, g2.cf W, fin q2, jw, bl, q1, ix, q4, q2⟩
  rw [show k + 2 = (k + 1) + 1 from rfl, evCall]
  by_cases hfe : fs = []
  · subst hfe
    obtain ⟨x, r, st2, c1, c2, c3, c4, c5, c6, c7, c8, c9⟩ := calls h
    refine ⟨.tup [.str "call", .str x], st2, a - 1, ?_, .inl ⟨_, c8, rfl⟩, c9⟩
    have t0 : done .test (.loc (F + 2)) st = .ok (.bl false) st := t0
    simp [D, d19, evSs, evS, ev, evA, evCs, ME.held, iw, t0, c1, c2, c3, c4, c5, c6, c7, e1, sizeLine_eq]
  have xe : (fs.map PV.str).isEmpty = false := by
    cases fs with
    | nil => exact absurd rfl hfe
    | cons x xs => rfl
  rw [xe] at t0
  have nf : NM fs := ⟨hfe, hf.1, hf.2⟩
  have flg : ∀ {st1}, CS ns R f qq a b st1 → ∃ (x : Str) (r : Int) (st2 : Store), biV .len [.loc (F + 2)] st1 = some (.int fs.length) ∧ evCall TURNS D (k + 1) 5 [.loc 1, .int fs.length] st1 = .ok (.int r) st2 ∧ ixV (.loc (F + 2)) (.int r) st2 = some (.str x) ∧
      B 60 x ∧ x ∈ fs ∧ (∀ v, leave st.length v st2 = .ok v st2) ∧ CS ns R f qq a b st2 := by
    intro st1 g2
    obtain ⟨r, st2, x, q1, q2, q3, q4, q5⟩ := nameR (k := k) g2 nf
    have q2 : CS ns R f qq a b st2 := q2
    have bl := bi_len_loc (g2.cF W)
    rw [List.length_map] at bl
    have ix := ix_loc (k := r) (q2.cF W)
    rw [q3] at ix
    exact ⟨x, r, st2, bl, q1, ix, q4, q5, fin q2, q2⟩
  by_cases h0 : a = 0
  · obtain ⟨x, r, st1, c1, c2, c3, c4, c5, c6, c7⟩ := flg h
    refine ⟨.tup [.str "flag", .str x], st1, a, ?_, .inr ⟨_, c5, c4, rfl⟩, c7⟩
    simp [D, d19, evSs, evS, ev, evA, evCs, ME.held, iw, i1, t0, h0, c1, c2, c3, c6, sizeLine_eq]
  · obtain ⟨r3, st1, g1, g2, g3, g4⟩ := drawR (k := k) (m := 3) h (by decide)
    have g2 : CS ns R f qq a b st1 := g2
    by_cases h3 : r3 = 0
    · subst h3
      obtain ⟨x, r, st2, c1, c2, c3, c4, c5, c6, c7⟩ := flg g2
      refine ⟨.tup [.str "flag", .str x], st2, a, ?_, .inr ⟨_, c5, c4, rfl⟩, c7⟩
      simp [D, d19, evSs, evS, ev, evA, evCs, ME.held, iw, i1, t0, h0, g1, c1, c2, c3, c6, sizeLine_eq]
    · obtain ⟨x, r, st2, c1, c2, c3, c4, c5, c6, c7, c8, c9⟩ := calls g2
      refine ⟨.tup [.str "call", .str x], st2, a - 1, ?_, .inl ⟨_, c8, rfl⟩, c9⟩
      simp [D, d19, evSs, evS, ev, evA, evCs, ME.held, iw, i1, t0, h0, g1, h3, c1, c2, c3, c4, c5, c6, c7, e1, sizeLine_eq]
/-- the parts -/
theorem cond_parts {k : Nat} (W : Wl R as fs f w A F Lb G) (hx : NM as) (hf : NF fs) {L : Int} {n : Nat} (hn : n ≤ 4) {x5 x6 x7 x8 : Option PV} (h : CS ns R f qq a b st) :
    ∃ (ps : List PV) (a' : Int) (x5' x6' x7' : Option PV) (st' : Store), forLoop (MG.put (.nm 5)) (evSs (evCall TURNS D (k + 2)) TURNS b21_2) (.items ((List.range n).map fun (k : Nat) => .int k)) 0 n [some (.loc 1), some (.loc (w + 2)), some (.loc (F + 2)), some (.int L), some (.fl []), x5, x6, x7, x8] st
      = .nx [some (.loc 1), some (.loc (w + 2)), some (.loc (F + 2)), some (.int L), some (.fl ps), x5', x6', x7', x8] st' ∧ CS ns R f qq a' b st' ∧ ps.length = n ∧ (∀ p ∈ ps, WC fs 3 p) ∧ pzL ps ≤ 3 * n := by
  obtain ⟨e, s, q1, ps, a', x5', x6', x7', q2, q3, q4, q5, q6⟩ := forLoop_inv (put := MG.put (.nm 5)) (body := evSs (evCall TURNS D (k + 2)) TURNS b21_2) (xs := (List.range n).map fun (k : Nat) => .int k)
    (fun j env s => ∃ (ps : List PV) (a' : Int) (x5' x6' x7' : Option PV), env = [some (.loc 1), some (.loc (w + 2)), some (.loc (F + 2)), some (.int L), some (.fl ps), x5', x6', x7', x8] ∧ CS ns R f qq a' b s ∧ ps.length = j ∧ (∀ p ∈ ps, WC fs 3 p) ∧ pzL ps ≤ 3 * j) (fun j x env s hx' ⟨ps, a', x5', x6', x7', e1, e2, e3, e4, e5⟩ => by
      subst e1
      have hj : j < n := by
        have := (List.getElem?_eq_some_iff.mp hx').1
        simpa using this
      obtain ⟨v, st1, a1, g1, g2, g3⟩ := leaf_ok (k := k) W hx hf e2
      obtain ⟨r, st2, h1, h2, h3, h4⟩ : ∃ r st', evCall TURNS D (k + 2) 5 [.loc 1, .int 5] st1 = .ok (.int r) st' ∧ TR ns (R.set f (.lst (FR qq a1 b))) st' ∧ 0 ≤ r ∧ r < 5 := drawR (k := k + 1) (m := 5) g3 (by decide)
      have h2 : CS ns R f qq a1 b st2 := h2
      have pk : ∃ n : Int, atI [PV.int 0, .int 0, .int 0, .int 1, .int 2] r = some (.int n) ∧ 0 ≤ n ∧ n ≤ 2 := by
        obtain ⟨y, hy, e3⟩ := pick (xs := [PV.int 0, .int 0, .int 0, .int 1, .int 2]) (i := r) h3 (by simpa using h4)
        simp only [List.mem_cons, List.not_mem_nil, or_false] at hy
        rcases hy with rfl | rfl | rfl | rfl | rfl <;> exact ⟨_, e3, by decide, by decide⟩
      obtain ⟨m, e6, m0, m2⟩ := pk
      have hr := rng_ok' (n := m) m0 (by omega) st2
      obtain ⟨v', y7, l1, l2, l3⟩ := nots_ok (call := evCall TURNS D (k + 2)) (n := m.toNat) (by omega) g2 (a0 := some (.loc 1)) (a1 := some (.loc (w + 2))) (a2 := some (.loc (F + 2))) (a3 := some (.int L)) (a4 := some (.fl ps)) (a5 := some x) (a7 := x7') (a8 := x8) (st := st2)
      have ec := fun st => esc_p (WC.leaf 0 g2).pure st
      have pv := varV_p l2.pure st2
      have ev' := esc_p l2.pure st2
      have hl : ps.length < 16777216 := by omega
      refine ⟨[some (.loc 1), some (.loc (w + 2)), some (.loc (F + 2)), some (.int L), some (.fl ps), some x, x6', x7', x8], rfl, ?_⟩
      have nfl : True := trivial
      simp [b21_2, evSs, evS, ev, evA, evSrc, Src.many, g1, h1, e6, hr, l1, ec, pv, ev', hl, sizeLine_eq, -List.map_map]
      refine ⟨⟨a1, h2⟩, e3, fun p hp => ?_, by omega⟩
      rcases hp with hp | rfl
      · exact e4 p hp
      · exact l2.up) n 0 [some (.loc 1), some (.loc (w + 2)), some (.loc (F + 2)), some (.int L), some (.fl []), x5, x6, x7, x8] st (by simp) ⟨[], a, x5, x6, x7, rfl, h, rfl, (fun p hp => nomatch hp), by simp⟩
  rw [show ((List.range n).map fun (k : Nat) => PV.int k).length = n by simp] at q4 q6
  exact ⟨ps, a', x5', x6', x7', s, by rw [q1, q2], q3, q4, q5, q6⟩
/-- a turn of the joining -/
theorem cond_turn {k j : Nat} {L : Int} {ps : List PV} (hj : j ≤ 2) {x5 x6 x7 x8 : Option PV} (h : CS ns R f qq a b st) (h1 : 1 ≤ ps.length) (h2 : ps.length ≤ 4) (h3 : ∀ p ∈ ps, WC fs (3 + 2 * j) p) (h4 : pzL ps ≤ 12 + 2 * j) :
    ∃ (ps' : List PV) (x6' x8' : Option PV) (st' : Store), evSs (evCall TURNS D (k + 1)) TURNS b21_0 [some (.loc 1), some (.loc (w + 2)), some (.loc (F + 2)), some (.int L), some (.fl ps), x5, x6, x7, x8] st
      = .nx [some (.loc 1), some (.loc (w + 2)), some (.loc (F + 2)), some (.int L), some (.fl ps'), x5, x6', x7, x8'] st' ∧ CS ns R f qq a b st' ∧ 1 ≤ ps'.length ∧ ps'.length ≤ 4 ∧ (∀ p ∈ ps', WC fs (3 + 2 * (j + 1)) p) ∧ pzL ps' ≤ 12 + 2 * (j + 1) := by
  by_cases hl : ps.length = 1
  · refine ⟨ps, x6, x8, st, ?_, h, h1, h2, fun p hp => (h3 p hp).mono (by omega), by omega⟩
    have z : ¬ (1 : Int) < (ps.length : Int) := by omega
    simp [b21_0, evSs, evS, ev, evA, evCs, hl]
  · obtain ⟨r, st1, g1, g2, g3, g4⟩ := drawR (k := k) (m := (ps.length : Int) - 1) h (by omega)
    have g2 : CS ns R f qq a b st1 := g2
    obtain ⟨A, p, q, C, rfl, hA⟩ := split2 g3 (by omega)
    obtain ⟨r2, st2, d1, d2, d3, d4⟩ := drawR (k := k) (m := 2) g2 (by decide)
    have d2 : CS ns R f qq a b st2 := d2
    have hp := h3 p (by simp)
    have hq := h3 q (by simp)
    rw [pzL_app, pzL_cons, pzL_cons] at h4
    have wd : ∃ w : Str, atI [PV.str "and", .str "or"] r2 = some (.str w) ∧ (w = "and" ∨ w = "or") := pickS d3 (by simpa using d4) (fun x hx => by
      simp only [List.mem_cons, List.not_mem_nil, or_false] at hx
      rcases hx with rfl | rfl <;> exact ⟨_, rfl, by simp⟩)
    obtain ⟨wd, w1, w2⟩ := wd
    obtain ⟨v, v1, v2, v3, v4⟩ := joined_ok (d := 2 + 2 * j) w2 (hp.mono (by omega)) (hq.mono (by omega)) (by omega) (by omega)
    have v1 := fun st => v1 k st
    obtain ⟨r4, st3, f1, f2, f3, f4⟩ := drawR (k := k) (m := 4) d2 (by decide)
    have f2 : CS ns R f qq a b st3 := f2
    have i1 : atI (A ++ p :: q :: C) r = some p := atI_nn g3 (by rw [show r.toNat = A.length by omega]; simp)
    have i2 : atI (A ++ p :: q :: C) (r + 1) = some q := atI_nn (by omega) (by rw [show (r + 1).toNat = A.length + 1 by omega]; simp)
    have c1 : cutL (A ++ p :: q :: C) none (some r) = A := by rw [← hA]; exact cutL_lo (α := PV) A _
    have c2 : cutL (A ++ p :: q :: C) (some (r + 2)) none = C := by
      have := cutL_hi (α := PV) (A ++ [p, q]) C (r + 2) (by simp; omega)
      simpa using this
    have bl : biV .len [.fl (A ++ p :: q :: C)] st = some (.int (A ++ p :: q :: C).length) := rfl
    have zl : (1 : Int) < ((A ++ p :: q :: C).length : Int) := by omega
    have sl1 := fun st => sl_fl' (A ++ p :: q :: C) none (some r) st
    have sl2 := fun st => sl_fl' (A ++ p :: q :: C) (some (r + 2)) none st
    rw [c1] at sl1
    rw [c2] at sl2
    have ixa := fun st => ix_fl_ (A ++ p :: q :: C) r st
    have ixb := fun st => ix_fl_ (A ++ p :: q :: C) (r + 1) st
    rw [i1] at ixa
    rw [i2] at ixb
    have ep := fun st => esc_p hp.pure st
    have eq' := fun st => esc_p hq.pure st
    have ev' := fun st => esc_p v4 st
    have vv := fun st => varV_p v4 st
    have hlen : A.length + C.length + 2 ≤ 4 := by
      have : (A ++ p :: q :: C).length = A.length + C.length + 2 := by simp; omega
      omega
    have a1 := fun (x : PV) (st : Store) => bin_add_fl (xs := A) (ys := [x]) (st := st) (by simp; omega)
    have a2 := fun (x : PV) (st : Store) => bin_add_fl (xs := A ++ [x]) (ys := C) (st := st) (by simp; omega)
    have hall : ∀ x, WC fs (3 + 2 * (j + 1)) x → ∀ y ∈ A ++ [x] ++ C, WC fs (3 + 2 * (j + 1)) y := fun x hx y hy => by
      simp only [List.mem_append, List.mem_cons, List.not_mem_nil, or_false] at hy
      rcases hy with (hy | rfl) | hy
      · exact (h3 y (by simp [hy])).mono (by omega)
      · exact hx
      · exact (h3 y (by simp [hy])).mono (by omega)
    generalize hP : (A ++ p :: q :: C) = P at *
    by_cases hr4 : r4 = 0
    · subst hr4
      have wn : WC fs (3 + 2 * (j + 1)) (.tup [.str "not", v]) := by
        rw [show 3 + 2 * (j + 1) = (2 + 2 * j + 2) + 1 by omega]
        exact .inr (.inl ⟨v, rfl, v2⟩)
      refine ⟨A ++ [.tup [.str "not", v]] ++ C, some (.tup [.str "not", v]), some (.int r), st3, ?_, f2, by simp; omega, by simp; omega, hall _ wn, by rw [pzL_app, pzL_app, pzL_cons, pzL_nil, pz_node, pzL_cons, pzL_nil]; omega⟩
      simp [b21_0, evSs, evS, ev, evA, evCs, zl, g1, d1, w1, ixa, ixb, ep, eq', v1, ev', vv, f1, ME.absent, bound_non, bound_int, sl1, sl2, a1, a2, sizeLine_eq]
    · refine ⟨A ++ [v] ++ C, some v, some (.int r), st3, ?_, f2, by simp; omega, by simp; omega, hall _ (v2.mono (by omega)), by rw [pzL_app, pzL_app, pzL_cons, pzL_nil]; omega⟩
      simp [b21_0, evSs, evS, ev, evA, evCs, zl, g1, d1, w1, ixa, ixb, ep, eq', v1, ev', vv, f1, hr4, ME.absent, bound_non, bound_int, sl1, sl2, a1, a2, sizeLine_eq]

theorem cond_ok {k : Nat} (W : Wl R as fs f w A F Lb G) (hx : NM as) (hf : NF fs) (h : CS ns R f qq a b st) :
    ∃ v st' a' b', evCall TURNS D (k + 12) 21 [.loc 1, .loc (w + 2), .loc (F + 2)] st = .ok v st' ∧ WC fs 9 v ∧ pz v ≤ 18 ∧ CS ns R f qq a' b' st' := by
  have t0 := truth_loc (h.cF W)
  have iw := ix_loc (k := 0) (h.cw W)
  have i1 := ix_loc (k := 1) (h.cf W)
  rw [show atI (FR qq a b) 1 = some (.int a) from rfl] at i1
  have i5 := ix_loc (k := 5) (h.cf W)
  rw [show atI (FR qq a b) 5 = some (.int b) from rfl] at i5
  have e5 : ixN 6 5 = some 5 := rfl
  rw [show k + 12 = (k + 11) + 1 from rfl, evCall]
  have jf := h.cf W
  generalize hT : (!(fs.map PV.str).isEmpty) = tv at t0
  by_cases hb : b < 18
  · obtain ⟨v, st', a', g1, g2, g3⟩ := leaf_ok (k := k + 9) W hx hf (h.set a (b - 1))
    have z1 : pz v = 1 := by rcases g2 with ⟨x, _, rfl⟩ | ⟨x, _, _, rfl⟩ <;> simp
    have lv : ∀ v, leave st.length v st' = .ok v st' := fun v => leave_same (by rw [g3.len, h.len]; omega)
    refine ⟨v, st', a', b - 1, ?_, WC.leaf 9 g2, by omega, g3⟩
    cases tv <;> simp [D, d21, evSs, evS, ev, evA, evCs, ME.held, t0, iw, i1, i5, hb, jf, e5, g1, lv]
  obtain ⟨r1, st1, d1, d2, d3, d4⟩ := drawR (k := k + 10) (m := 3) h (by decide)
  have d2 : CS ns R f qq a b st1 := d2
  -- the limit
  have lim : ∃ L : Int, L ≤ 4 ∧ L = if tv = true then 4 else (if a < 4 then a else 4) := by
    refine ⟨_, ?_, rfl⟩
    split
    · omega
    · split <;> omega
  obtain ⟨L, L4, hL⟩ := lim
  have pk : ∃ n : Int, atI [PV.int 1, .int 1, .int L] r1 = some (.int n) ∧ n ≤ 4 := by
    obtain ⟨y, hy, e3⟩ := pick (xs := [PV.int 1, .int 1, .int L]) (i := r1) d3 (by simpa using d4)
    simp only [List.mem_cons, List.not_mem_nil, or_false] at hy
    rcases hy with rfl | rfl | rfl
    · exact ⟨_, e3, by decide⟩
    · exact ⟨_, e3, by decide⟩
    · exact ⟨_, e3, L4⟩
  obtain ⟨n, e6, n4⟩ := pk
  obtain ⟨r2, st2, g1, g2, g3, g4⟩ := drawR0 (k := k + 10) (m := n) d2 (by omega)
  have g2 : CS ns R f qq a b st2 := g2
  have hr := rng_ok' (n := 1 + r2) (by omega) (by omega) st2
  obtain ⟨ps, a', x5, x6, x7, st3, l1, l2, l3, l4, l5⟩ := cond_parts (k := k + 9) (L := L) W hx hf (n := (1 + r2).toNat) (by omega) (x5 := none) (x6 := none) (x7 := none) (x8 := none) g2
  have hr3 := rng_ok' (n := 3) (by omega) (by omega) st3
  obtain ⟨e, st4, m1, ps', x5', x6', x8', m2, m3, m4, m5, m6, m7⟩ := forLoop_inv (put := MG.put (.nm 5)) (body := evSs (evCall TURNS D (k + 11)) TURNS b21_0) (xs := (List.range (3 : Int).toNat).map fun (k : Nat) => .int k)
    (fun j env s => ∃ (ps : List PV) (x5 x6 x8 : Option PV), env = [some (.loc 1), some (.loc (w + 2)), some (.loc (F + 2)), some (.int L), some (.fl ps), x5, x6, x7, x8] ∧ CS ns R f qq a' b s ∧ 1 ≤ ps.length ∧ ps.length ≤ 4 ∧ (∀ p ∈ ps, WC fs (3 + 2 * j) p) ∧ pzL ps ≤ 12 + 2 * j) (fun j x env s hx' ⟨ps, x5, x6, x8, e1, e2, e3, e4, e5, e6⟩ => by
      subst e1
      have hj : j < 3 := by
        have := (List.getElem?_eq_some_iff.mp hx').1
        simpa using this
      obtain ⟨ps', x6', x8', st', q1, q2, q3, q4, q5, q6⟩ := cond_turn (k := k + 10) (j := j) (w := w) (F := F) (L := L) (by omega) (x5 := some x) (x6 := x6) (x7 := x7) (x8 := x8) e2 e3 e4 e5 e6
      refine ⟨_, rfl, ?_⟩
      show SR.go (evSs (evCall TURNS D (k + 11)) TURNS b21_0 [some (.loc 1), some (.loc (w + 2)), some (.loc (F + 2)), some (.int L), some (.fl ps), some x, x6, x7, x8] s) _
      rw [q1]
      exact ⟨ps', _, _, _, rfl, q2, q3, q4, q5, q6⟩) 3 0 [some (.loc 1), some (.loc (w + 2)), some (.loc (F + 2)), some (.int L), some (.fl ps), x5, x6, x7, none] st3 (by simp) ⟨ps, x5, x6, none, rfl, l2, by omega, by omega, l4, by omega⟩
  simp only [List.length_map, List.length_range] at m6 m7
  subst m2
  obtain ⟨p, qs, rfl⟩ : ∃ p qs, ps' = p :: qs := by
    cases ps' with
    | nil => simp at m4
    | cons p qs => exact ⟨p, qs, rfl⟩
  have pw : WC fs 9 p := m6 p List.mem_cons_self
  have pzb : pz p ≤ 18 := by
    rw [pzL_cons] at m7
    have : pz p ≤ 12 + 2 * (3 : Int).toNat := by omega
    exact this
  have pp := parts_ok 9 (k + 1) p st4 pw.k (by omega)
  rw [show k + 1 + 9 + 1 = k + 11 by omega] at pp
  have iw4 := ix_loc (k := 0) (m3.cw W)
  have i54 := ix_loc (k := 5) (m3.cf W)
  rw [show atI (FR qq a' b) 5 = some (.int b) from rfl] at i54
  have jf4 := m3.cf W
  have fin := m3.set a' (b - (pz p : Int))
  have ep := fun st => esc_p pw.pure st
  have lv : ∀ v, leave st.length v (setAt st4 (f + 2) (FR qq a' (b - (pz p : Int)))) = .ok v (setAt st4 (f + 2) (FR qq a' (b - (pz p : Int)))) := fun v => leave_same (by rw [fin.len, h.len]; omega)
  refine ⟨p, _, a', b - (pz p : Int), ?_, pw, pzb, fin⟩
  have t3 : (3 : Int).toNat = 3 := rfl
  rw [t3] at m1 hr3
  generalize hP : (pz p : Int) = N at *
  cases tv
  · rw [if_neg (by simp)] at hL
    rw [hL] at e6 l1 m1
    simp [D, d21, evSs, evS, ev, evA, evCs, evSrc, Src.many, ME.held, t0, iw, i1, i5, hb, d1, e6, g1, hr, l1, hr3, m1, iw4, i54, jf4, pp, ep, e5, sizeLine_eq, lv, -List.map_map]
  · rw [if_pos rfl] at hL
    rw [hL] at e6 l1 m1
    simp [D, d21, evSs, evS, ev, evA, evCs, evSrc, Src.many, ME.held, t0, iw, i1, i5, hb, d1, e6, g1, hr, l1, hr3, m1, iw4, i54, jf4, pp, ep, e5, sizeLine_eq, lv, -List.map_map]
end K02.V

set_option maxHeartbeats 4000000
namespace K02
open PySem L2 U
/-! ### trees that sizes are told of, resolved ones too -/
def ZF (v : PV) : Prop := ∃ (k : Str) (x : PV), (k = "call" ∨ k = "flag") ∧ PV.pure x = true ∧ pz x = 0 ∧ v = .tup [.str k, x]
def ZC : Nat → PV → Prop
  | 0, v => ZF v
  | d + 1, v => ZF v ∨ (∃ c, v = .tup [.str "not", c] ∧ ZC d c) ∨ ∃ (k : Str) (cs : List PV), (k = "and" ∨ k = "or") ∧ v = .tup [.str k, .tup cs] ∧ (∀ c ∈ cs, ZC d c) ∧ cs ≠ []
theorem ZC.leaf {v : PV} (d : Nat) (h : ZF v) : ZC d v := by
  cases d with
  | zero => exact h
  | succ d => exact .inl h
theorem ZC.up {v : PV} : ∀ {d : Nat}, ZC d v → ZC (d + 1) v := by
  intro d
  induction d generalizing v with
  | zero => exact fun h => .inl h
  | succ d ih =>
    intro h
    rcases h with h | ⟨c, e, h⟩ | ⟨k, cs, hk, e, h, ne⟩
    · exact .inl h
    · exact .inr (.inl ⟨c, e, ih h⟩)
    · exact .inr (.inr ⟨k, cs, hk, e, fun c hc => ih (h c hc), ne⟩)
theorem ZC.mono {v : PV} {d e : Nat} (h : ZC d v) (l : d ≤ e) : ZC e v := by
  induction l with
  | refl => exact h
  | step _ ih => exact ih.up
theorem ZC.tup {v : PV} {d : Nat} (h : ZC d v) : ∃ (k : Str) (x : PV), v = .tup [.str k, x] := by
  cases d with
  | zero => obtain ⟨k, x, _, _, _, e⟩ := h; exact ⟨k, x, e⟩
  | succ d =>
    rcases h with ⟨k, x, _, _, _, e⟩ | ⟨c, e, h⟩ | ⟨k, cs, hk, e, h, ne⟩
    · exact ⟨_, _, e⟩
    · exact ⟨_, _, e⟩
    · exact ⟨_, _, e⟩
theorem ZC.pos {v : PV} {d : Nat} (h : ZC d v) : 1 ≤ pz v := by
  obtain ⟨k, x, rfl⟩ := h.tup
  simp
theorem ZC.pure {v : PV} {d : Nat} (h : ZC d v) : PV.pure v = true := by
  have l : ∀ {v}, ZF v → PV.pure v = true := fun ⟨k, x, hk, hx, _, e⟩ => by
    subst e
    show (true && (PV.pure x && true)) = true
    rw [hx]; rfl
  induction d generalizing v with
  | zero => exact l h
  | succ d ih =>
    rcases h with h | ⟨c, e, h⟩ | ⟨k, cs, hk, e, h, ne⟩
    · exact l h
    · subst e
      show (true && (PV.pure c && true)) = true
      rw [ih h]; rfl
    · subst e
      show (true && (PV.pureL cs && true)) = true
      rw [pureL_of fun c hc => ih (h c hc)]; rfl
theorem inCF (st : Store) : cmpV .inn (.str "call") (.tup [.str "call", .str "flag"]) st = some true ∧ cmpV .inn (.str "flag") (.tup [.str "call", .str "flag"]) st = some true ∧ cmpV .inn (.str "not") (.tup [.str "call", .str "flag"]) st = some false ∧
    cmpV .inn (.str "and") (.tup [.str "call", .str "flag"]) st = some false ∧ cmpV .inn (.str "or") (.tup [.str "call", .str "flag"]) st = some false := ⟨rfl, rfl, rfl, rfl, rfl⟩
theorem in2 (st : Store) : cmpV .inn (.str "call") (.tup [.str "and", .str "or"]) st = some false ∧ cmpV .inn (.str "flag") (.tup [.str "and", .str "or"]) st = some false ∧ cmpV .inn (.str "not") (.tup [.str "and", .str "or"]) st = some false ∧
    cmpV .inn (.str "and") (.tup [.str "and", .str "or"]) st = some true ∧ cmpV .inn (.str "or") (.tup [.str "and", .str "or"]) st = some true := ⟨rfl, rfl, rfl, rfl, rfl⟩
theorem sum_len (g : PV → List PV) : ∀ cs : List PV, (cs.map fun c => ((g c).length : Int)).sum = ((cs.map g).flatten.length : Int)
  | [] => rfl
  | c :: cs => by
    rw [List.map_cons, List.sum_cons, sum_len g cs, List.map_cons, List.flatten_cons, List.length_append]; omega
theorem sum_ints (f : PV → Int) (cs : List PV) (st : Store) : biV .sum [.fl (cs.map fun c => .int (f c))] st = some (.int (cs.map f).sum) := by
  show (intsL (cs.map fun c => .int (f c))).map (fun ns => PV.int ns.sum) = _
  rw [intsL_map, Option.map_some]
theorem pureL_flat (g : PV → List PV) : ∀ cs : List PV, (∀ c ∈ cs, PV.pureL (g c) = true) → PV.pureL (cs.map g).flatten = true
  | [], _ => rfl
  | c :: cs, h => by
    have pa : ∀ a b : List PV, PV.pureL a = true → PV.pureL b = true → PV.pureL (a ++ b) = true := fun a b ha hb => by
      induction a with
      | nil => exact hb
      | cons x a ih =>
        have ha : (PV.pure x && PV.pureL a) = true := ha
        rw [Bool.and_eq_true] at ha
        show (PV.pure x && PV.pureL (a ++ b)) = true
        rw [ha.1, ih ha.2]; rfl
    rw [List.map_cons, List.flatten_cons]
    exact pa _ _ (h c List.mem_cons_self) (pureL_flat g cs fun x hx => h x (List.mem_cons_of_mem _ hx))
theorem len_flat (g : PV → List PV) : ∀ cs : List PV, (∀ c ∈ cs, (g c).length ≤ pz c) → (cs.map g).flatten.length ≤ pzL cs
  | [], _ => Nat.zero_le _
  | c :: cs, h => by
    have h1 := h c List.mem_cons_self
    have h2 := len_flat g cs fun x hx => h x (List.mem_cons_of_mem _ hx)
    rw [List.map_cons, List.flatten_cons, List.length_append, pzL_cons]; omega
/-! ### parts and depth of a condition -/
def mx (i j : Int) : Int := if j > i then j else i
theorem mx_nn {i j : Int} (h : 0 ≤ i) : 0 ≤ mx i j := by unfold mx; split <;> omega
def fmx (t : Int) (l : List Int) : Int := l.foldl mx t
theorem fmx_app (t : Int) (l m : List Int) : fmx t (l ++ m) = fmx (fmx t l) m := List.foldl_append ..
theorem fmx_mx : ∀ (l : List Int) (t : Int), 0 ≤ t → fmx t l = mx t (fmx 0 l)
  | [], t, h => by show t = mx t 0; unfold mx; split <;> omega
  | x :: l, t, h => by
    show fmx (mx t x) l = mx t (fmx (mx 0 x) l)
    rw [fmx_mx l (mx t x) (mx_nn h), fmx_mx l (mx 0 x) (mx_nn (by omega))]
    generalize fmx 0 l = F
    unfold mx
    repeat' split
    all_goals omega
theorem fmx_nn (l : List Int) {t : Int} (h : 0 ≤ t) : 0 ≤ fmx t l := by rw [fmx_mx l t h]; exact mx_nn h
theorem fmx_le {M : Int} : ∀ (l : List Int) (t : Int), t ≤ M → (∀ x ∈ l, x ≤ M) → fmx t l ≤ M
  | [], t, h, _ => h
  | x :: l, t, h, q => fmx_le l (mx t x) (by have := q x List.mem_cons_self; unfold mx; split <;> omega) fun y hy => q y (List.mem_cons_of_mem _ hy)
theorem fold_fmx : ∀ (r : List Int) (n : Int), r.foldl max n = fmx n r
  | [], _ => rfl
  | x :: r, n => by
    show r.foldl max (max n x) = fmx (mx n x) r
    rw [fold_fmx r, show max n x = mx n x by unfold mx; split <;> omega]
theorem fmx_cons {n : Int} (r : List Int) (h : 0 ≤ n) : fmx 0 (n :: r) = fmx n r := by
  show fmx (mx 0 n) r = _
  rw [show mx 0 n = n by unfold mx; split <;> omega]
theorem fmx_add : ∀ (r : List Int) (n : Int), fmx (1 + n) (r.map (1 + ·)) = 1 + fmx n r
  | [], _ => rfl
  | x :: r, n => by
    show fmx (mx (1 + n) (1 + x)) (r.map (1 + ·)) = 1 + fmx (mx n x) r
    rw [show mx (1 + n) (1 + x) = 1 + mx n x by unfold mx; repeat' split
                                                all_goals omega, fmx_add r]
/-- max(xs, default=0) of ints that are not negative -/
theorem mxd_map (f : PV → Int) (cs : List PV) (hf : ∀ c ∈ cs, 0 ≤ f c) (st : Store) : maxdV 0 (.fl (cs.map fun c => .int (f c))) st = some (.int (fmx 0 (cs.map f))) := by
  have : maxdV 0 (.fl (cs.map fun c => .int (f c))) st = match intsL (cs.map fun c => .int (f c)) with
    | some [] => some (.int 0)
    | some (n :: r) => some (.int (r.foldl max n))
    | none => none := rfl
  rw [this, intsL_map]
  cases cs with
  | nil => rfl
  | cons c cs =>
    simp only [List.map_cons]
    rw [fold_fmx, fmx_cons _ (hf c List.mem_cons_self)]
/-- max(xs) of a list that is not empty, of ints that are not negative -/
theorem max_map (f : PV → Int) (cs : List PV) (hn : cs ≠ []) (hf : ∀ c ∈ cs, 0 ≤ f c) (st : Store) : biV .max [.fl (cs.map fun c => .int (f c))] st = some (.int (fmx 0 (cs.map f))) := by
  have : biV .max [.fl (cs.map fun c => .int (f c))] st = match intsL (cs.map fun c => .int (f c)) with
    | some (n :: r) => some (.int (r.foldl max n))
    | _ => none := rfl
  rw [this, intsL_map]
  cases cs with
  | nil => exact absurd rfl hn
  | cons c cs =>
    simp only [List.map_cons]
    rw [fold_fmx, fmx_cons _ (hf c List.mem_cons_self)]
theorem op_of {w : Str} {cs : List PV} (hw : w = "and" ∨ w = "or") (k : Nat) (st : Store) : evCall TURNS D (k + 1) 13 [.tup [.str w, .tup cs]] st = .ok (.tup cs) st := by
  obtain ⟨_, _, _, j4, j5⟩ := in2 st
  rw [evCall]
  rcases hw with rfl | rfl <;> simp [D, d13, evSs, evS, ev, evA, evCs, ME.held, leave_id, j4, j5, sizeLine_eq]
theorem op_not {c : PV} (hp : PV.pure c = true) (k : Nat) (st : Store) : evCall TURNS D (k + 1) 13 [.tup [.str "not", c]] st = .ok (.tup [c]) st := by
  have ec := esc_p hp
  rw [evCall]
  simp [D, d13, evSs, evS, ev, evA, evCs, ME.held, leave_id, ec, sizeLine_eq]
theorem op_leaf {w : Str} {x : PV} (hw : w = "call" ∨ w = "flag") (k : Nat) (st : Store) : evCall TURNS D (k + 1) 13 [.tup [.str w, x]] st = .ok (.tup []) st := by
  obtain ⟨j1, j2, _⟩ := in2 st
  rw [evCall]
  rcases hw with rfl | rfl <;> simp [D, d13, evSs, evS, ev, evA, evCs, ME.held, leave_id, j1, j2, sizeLine_eq]
/-- how many parts a condition has -/
theorem zparts : ∀ (d : Nat) (c : PV), ZC d c → pz c ≤ 100000 → (∀ k st, evCall TURNS D (k + d + 1) 27 [c] st = .ok (.int (pz c)) st) ∧ ∀ k st, evCall TURNS D (k + d + 2) 42 [c] st = .ok (.int (pz c)) st := by
  have l : ∀ (c : PV), ZF c → (∀ k st, evCall TURNS D (k + 1) 27 [c] st = .ok (.int (pz c)) st) ∧ ∀ k st, evCall TURNS D (k + 2) 42 [c] st = .ok (.int (pz c)) st := by
    rintro c ⟨w, x, hw, hx, zx, rfl⟩
    have z1 : pz (.tup [.str w, x]) = 1 := by rw [pz_node, pzL_cons, pzL_nil]; omega
    rw [z1]
    refine ⟨fun k st => ?_, fun k st => ?_⟩
    · rw [evCall]
      rcases hw with rfl | rfl <;> simp [D, d27, evSs, evS, ev, evA, evCs, ME.held, leave_id]
    · have e := op_leaf (x := x) hw k st
      have lc : ∀ v : PV, lcLoop (fun _ s => .ok true s) (ev (evCall TURNS D (k + 1)) e42_0 .val) (MG.put (.nm 1)) [some v, none] (.items []) 0 0 [] st = .ok (.fl []) st := fun v => rfl
      have sm : biV .sum [.fl []] st = some (.int 0) := rfl
      rw [show k + 2 = (k + 1) + 1 by omega, evCall]
      have ep := fun st => esc_p hx st
      rcases hw with rfl | rfl <;> simp [D, d42, evSs, evS, ev, evA, evCs, ME.held, leave_id, e, srcV, Src.many, MG.slots, U.wipe, lc, sm]
  intro d
  induction d with
  | zero =>
    intro c h hz
    obtain ⟨l1, l2⟩ := l c h
    exact ⟨fun k st => l1 k st, fun k st => l2 k st⟩
  | succ d ih =>
    intro c h hz
    rcases h with h | ⟨c, rfl, h⟩ | ⟨w, cs, hw, rfl, h, ne⟩
    · obtain ⟨l1, l2⟩ := l c h
      exact ⟨fun k st => l1 (k + d + 1) st, fun k st => l2 (k + d + 1) st⟩
    · obtain ⟨l1, l2⟩ := ih c h (by simp at hz; omega)
      have zc : ((pz (.tup [.str "not", c]) : Nat) : Int) = 1 + (pz c : Int) := by rw [pz_node, pzL_cons, pzL_nil]; omega
      rw [zc]
      have ec := fun st => esc_p h.pure st
      refine ⟨fun k st => ?_, fun k st => ?_⟩
      · have i := l1 k st
        rw [show k + (d + 1) + 1 = (k + d + 1) + 1 by omega, evCall]
        simp [D, d27, evSs, evS, ev, evA, evCs, ME.held, leave_id, i, ec]
      · have i := l2 k st
        have e := op_not h.pure (k + d + 1) st
        rw [show k + d + 1 + 1 = k + d + 2 by omega] at e
        have lc : ∀ v : PV, lcLoop (fun _ s => .ok true s) (ev (evCall TURNS D (k + d + 2)) e42_0 .val) (MG.put (.nm 1)) [some v, none] (.items [c]) 0 1 [] st = .ok (.fl [.int (pz c)]) st := fun v => by
          refine lc_each (xs := [c]) (fun _ => .int (pz c)) (by simp) (by simp) fun x hx env' _ h2 => ?_
          rw [List.mem_singleton.mp hx] at h2
          refine ⟨?_, rfl⟩
          simp [e42_0, ev, evA, h2, varV_p h.pure, ec, i]
        have sm : biV .sum [.fl [.int (pz c)]] st = some (.int (pz c)) := by
          show some (PV.int ((pz c : Int) + 0)) = _
          rw [Int.add_zero]
        generalize (pz c : Int) = N at *
        rw [show k + (d + 1) + 2 = (k + d + 2) + 1 by omega, evCall]
        simp [D, d42, evSs, evS, ev, evA, evCs, ME.held, leave_id, e, srcV, Src.many, MG.slots, U.wipe, lc, sm]
    · have np := noStr_of fun c hc => by obtain ⟨w, x, e⟩ := (h c hc).tup; exact ⟨_, e⟩
      have zc : pz (.tup [.str w, .tup cs]) = 1 + pzL cs := by rw [pz_node, pzL_cons, pzL_nil, pz_body np]; omega
      have zi : ((pz (.tup [.str w, .tup cs]) : Nat) : Int) = 1 + (pzL cs : Int) := by omega
      rw [zc] at hz
      rw [zi]
      have hl := pz_many fun c hc => (h c hc).pos
      have sm : biV .sum [.fl (cs.map fun c => .int (pz c))] = fun _ => some (.int (pzL cs)) := by
        funext st
        show (intsL (cs.map fun c => .int (pz c))).map (fun ns => PV.int ns.sum) = _
        rw [intsL_map, Option.map_some, sum_pz]
      have sm := fun st => congrFun sm st
      have i : ∀ c ∈ cs, (∀ k st, evCall TURNS D (k + d + 1) 27 [c] st = .ok (.int (pz c)) st) ∧ ∀ k st, evCall TURNS D (k + d + 2) 42 [c] st = .ok (.int (pz c)) st := fun c hc => ih c (h c hc) (by have := pzL_mem hc; omega)
      refine ⟨fun k st => ?_, fun k st => ?_⟩
      · have lc : ∀ v : PV, lcLoop (fun _ s => .ok true s) (ev (evCall TURNS D (k + d + 1)) e27_0 .val) (MG.put (.nm 1)) [some v, none] (.items cs) 0 cs.length [] st = .ok (.fl (cs.map fun c => .int (pz c))) st := fun v => by
          refine lc_each (fun c => .int (pz c)) (by omega) (by simp) fun c hc env' _ h2 => ⟨?_, rfl⟩
          have i := (i c hc).1 k st
          simp [e27_0, ev, evA, h2, varV_p (h c hc).pure, esc_p (h c hc).pure, i]
        generalize (pzL cs : Int) = N at *
        rw [show k + (d + 1) + 1 = (k + d + 1) + 1 by omega, evCall]
        rcases hw with rfl | rfl <;> simp [D, d27, evSs, evS, ev, evA, evCs, ME.held, leave_id, srcV, Src.many, lc, sm, MG.slots, U.wipe]
      · have lc : ∀ v : PV, lcLoop (fun _ s => .ok true s) (ev (evCall TURNS D (k + d + 2)) e42_0 .val) (MG.put (.nm 1)) [some v, none] (.items cs) 0 cs.length [] st = .ok (.fl (cs.map fun c => .int (pz c))) st := fun v => by
          refine lc_each (fun c => .int (pz c)) (by omega) (by simp) fun c hc env' _ h2 => ⟨?_, rfl⟩
          have i := (i c hc).2 k st
          simp [e42_0, ev, evA, h2, varV_p (h c hc).pure, esc_p (h c hc).pure, i]
        have e := op_of (cs := cs) hw (k + d + 1) st
        rw [show k + d + 1 + 1 = k + d + 2 by omega] at e
        generalize (pzL cs : Int) = N at *
        rw [show k + (d + 1) + 2 = (k + d + 2) + 1 by omega, evCall]
        rcases hw with rfl | rfl <;> simp [D, d42, evSs, evS, ev, evA, evCs, ME.held, leave_id, e, srcV, Src.many, lc, sm, MG.slots, U.wipe]
/-- how deep a condition is -/
theorem zdeep : ∀ (d : Nat) (c : PV), ZC d c → pz c ≤ 100000 → ∃ m : Int, 0 ≤ m ∧ m ≤ d ∧ (∀ k st, evCall TURNS D (k + d + 1) 48 [c] st = .ok (.int m) st) ∧ ∀ k st, evCall TURNS D (k + d + 2) 46 [c] st = .ok (.int m) st := by
  have l : ∀ (c : PV), ZF c → (∀ k st, evCall TURNS D (k + 1) 48 [c] st = .ok (.int 0) st) ∧ ∀ k st, evCall TURNS D (k + 2) 46 [c] st = .ok (.int 0) st := by
    rintro c ⟨w, x, hw, hx, zx, rfl⟩
    refine ⟨fun k st => ?_, fun k st => ?_⟩
    · rw [evCall]
      rcases hw with rfl | rfl <;> simp [D, d48, evSs, evS, ev, evA, evCs, ME.held, leave_id]
    · have e := op_leaf (x := x) hw k st
      have lc : ∀ v : PV, lcLoop (fun _ s => .ok true s) (ev (evCall TURNS D (k + 1)) e46_0 .val) (MG.put (.nm 1)) [some v, none] (.items []) 0 0 [] st = .ok (.fl []) st := fun v => rfl
      have sm : maxdV 0 (.fl []) st = some (.int 0) := rfl
      rw [show k + 2 = (k + 1) + 1 by omega, evCall]
      rcases hw with rfl | rfl <;> simp [D, d46, evSs, evS, ev, evA, evCs, ME.held, leave_id, e, srcV, Src.many, MG.slots, U.wipe, lc, sm]
  intro d
  induction d with
  | zero =>
    intro c h hz
    obtain ⟨l1, l2⟩ := l c h
    exact ⟨0, by omega, by simp, fun k st => l1 k st, fun k st => l2 k st⟩
  | succ d ih =>
    intro c h hz
    rcases h with h | ⟨c, rfl, h⟩ | ⟨w, cs, hw, rfl, h, ne⟩
    · obtain ⟨l1, l2⟩ := l c h
      exact ⟨0, by omega, by simp; omega, fun k st => l1 (k + d + 1) st, fun k st => l2 (k + d + 1) st⟩
    · obtain ⟨m, m0, m1, l1, l2⟩ := ih c h (by simp at hz; omega)
      have ec := fun st => esc_p h.pure st
      refine ⟨1 + m, by omega, by omega, fun k st => ?_, fun k st => ?_⟩
      · have i := l1 k st
        rw [show k + (d + 1) + 1 = (k + d + 1) + 1 by omega, evCall]
        simp [D, d48, evSs, evS, ev, evA, evCs, ME.held, leave_id, i, ec]
      · have i := l2 k st
        have e := op_not h.pure (k + d + 1) st
        rw [show k + d + 1 + 1 = k + d + 2 by omega] at e
        have lc : ∀ v : PV, lcLoop (fun _ s => .ok true s) (ev (evCall TURNS D (k + d + 2)) e46_0 .val) (MG.put (.nm 1)) [some v, none] (.items [c]) 0 1 [] st = .ok (.fl [.int (1 + m)]) st := fun v => by
          refine lc_each (xs := [c]) (fun _ => .int (1 + m)) (by simp) (by simp) fun x hx env' _ h2 => ?_
          rw [List.mem_singleton.mp hx] at h2
          refine ⟨?_, rfl⟩
          simp [e46_0, ev, evA, evCs, h2, varV_p h.pure, ec, i]
        have sm : maxdV 0 (.fl [.int (1 + m)]) st = some (.int (1 + m)) := rfl
        rw [show k + (d + 1) + 2 = (k + d + 2) + 1 by omega, evCall]
        simp [D, d46, evSs, evS, ev, evA, evCs, ME.held, leave_id, e, srcV, Src.many, MG.slots, U.wipe, lc, sm]
    · have np := noStr_of fun c hc => by obtain ⟨w, x, e⟩ := (h c hc).tup; exact ⟨_, e⟩
      have zc : pz (.tup [.str w, .tup cs]) = 1 + pzL cs := by rw [pz_node, pzL_cons, pzL_nil, pz_body np]; omega
      rw [zc] at hz
      have hl := pz_many fun c hc => (h c hc).pos
      obtain ⟨f, hf⟩ := choose_on (P := fun (c : PV) (m : Int) => 0 ≤ m ∧ m ≤ d ∧ (∀ k st, evCall TURNS D (k + d + 1) 48 [c] st = .ok (.int m) st) ∧ ∀ k st, evCall TURNS D (k + d + 2) 46 [c] st = .ok (.int m) st) (xs := cs) fun c hc => ih c (h c hc) (by have := pzL_mem hc; omega)
      have f0 : ∀ c ∈ cs, 0 ≤ f c := fun c hc => (hf c hc).1
      have m1 := max_map f cs ne f0
      have m2 := mxd_map (fun c => 1 + f c) cs fun c hc => by have := f0 c hc; show 0 ≤ 1 + f c; omega
      have m3 : fmx 0 (cs.map fun c => 1 + f c) = 1 + fmx 0 (cs.map f) := by
        cases cs with
        | nil => exact absurd rfl ne
        | cons c cs =>
          have := f0 c List.mem_cons_self
          rw [List.map_cons, List.map_cons, fmx_cons _ (by omega), fmx_cons _ this, ← fmx_add, List.map_map]; rfl
      rw [m3] at m2
      have b0 := fmx_nn (cs.map f) (Int.le_refl 0)
      have b1 : fmx 0 (cs.map f) ≤ (d : Int) := fmx_le _ _ (by omega) fun x hx => by
        obtain ⟨c, hc, rfl⟩ := List.mem_map.mp hx
        exact (hf c hc).2.1
      generalize fmx 0 (cs.map f) = M at *
      refine ⟨1 + M, by omega, by omega, fun k st => ?_, fun k st => ?_⟩
      · have lc : ∀ v : PV, lcLoop (fun _ s => .ok true s) (ev (evCall TURNS D (k + d + 1)) e48_0 .val) (MG.put (.nm 1)) [some v, none] (.items cs) 0 cs.length [] st = .ok (.fl (cs.map fun c => .int (f c))) st := fun v => by
          refine lc_each (fun c => .int (f c)) (by omega) (by simp) fun c hc env' _ h2 => ⟨?_, rfl⟩
          have i := (hf c hc).2.2.1 k st
          simp [e48_0, ev, evA, h2, varV_p (h c hc).pure, esc_p (h c hc).pure, i]
        rw [show k + (d + 1) + 1 = (k + d + 1) + 1 by omega, evCall]
        rcases hw with rfl | rfl <;> simp [D, d48, evSs, evS, ev, evA, evCs, ME.held, leave_id, srcV, Src.many, lc, m1, MG.slots, U.wipe]
      · have lc : ∀ v : PV, lcLoop (fun _ s => .ok true s) (ev (evCall TURNS D (k + d + 2)) e46_0 .val) (MG.put (.nm 1)) [some v, none] (.items cs) 0 cs.length [] st = .ok (.fl (cs.map fun c => .int (1 + f c))) st := fun v => by
          refine lc_each (fun c => .int (1 + f c)) (by omega) (by simp) fun c hc env' _ h2 => ⟨?_, rfl⟩
          have i := (hf c hc).2.2.2 k st
          simp [e46_0, ev, evA, evCs, h2, varV_p (h c hc).pure, esc_p (h c hc).pure, i]
        have e := op_of (cs := cs) hw (k + d + 1) st
        rw [show k + d + 1 + 1 = k + d + 2 by omega] at e
        rw [show k + (d + 1) + 2 = (k + d + 2) + 1 by omega, evCall]
        rcases hw with rfl | rfl <;> simp [D, d46, evSs, evS, ev, evA, evCs, ME.held, leave_id, e, srcV, Src.many, lc, m2, MG.slots, U.wipe]
end K02

set_option maxHeartbeats 4000000
namespace K02
open PySem L2 U
inductive ZH (P : List PV → Prop) : PV → Prop
  | simple {k : Str} {xs : List PV} (hk : k = "call" ∨ k = "let" ∨ k = "set" ∨ k = "break" ∨ k = "continue" ∨ k = "return" ∨ k = "stop") (hx : PV.pureL xs = true) (hz : pzL xs = 0) : ZH P (.tup (.str k :: xs))
  | block {b : List PV} (h : P b) : ZH P (.tup [.str "block", .tup b])
  | for_ {l : PV} {b : List PV} (hl : PV.pure l = true) (lz : pz l = 0) (h : P b) : ZH P (.tup [.str "for", l, .tup b])
  | try_ {a b : List PV} (h1 : P a) (h2 : P b) : ZH P (.tup [.str "try", .tup a, .tup b])
  | while_ {l c : PV} {b : List PV} (hl : PV.pure l = true) (lz : pz l = 0) (hc : ZC 25 c) (h : P b) : ZH P (.tup [.str "while", l, c, .tup b])
  | if_ {c : PV} {a b : List PV} (hc : ZC 25 c) (h1 : P a) (h2 : P b) : ZH P (.tup [.str "if", c, .tup a, .tup b])
def ZS : Nat → PV → Prop
  | 0 => ZH fun _ => False
  | d + 1 => ZH fun b => ∀ s ∈ b, ZS d s
theorem ZH.imp {P P' : List PV → Prop} {v : PV} (h : ZH P v) (i : ∀ b, P b → P' b) : ZH P' v := by
  cases h with
  | simple h1 h2 h3 => exact .simple h1 h2 h3
  | block h => exact .block (i _ h)
  | for_ hl lz h => exact .for_ hl lz (i _ h)
  | try_ h1 h2 => exact .try_ (i _ h1) (i _ h2)
  | while_ hl lz hc h => exact .while_ hl lz hc (i _ h)
  | if_ hc h1 h2 => exact .if_ hc (i _ h1) (i _ h2)
theorem ZS.up : ∀ {d : Nat} {v : PV}, ZS d v → ZS (d + 1) v := by
  intro d
  induction d with
  | zero => exact fun h => ZH.imp h fun _ z => z.elim
  | succ d ih => exact fun h => ZH.imp h fun b z s hs => ih (z s hs)
theorem ZS.mono {d e : Nat} {v : PV} (h : ZS d v) (l : d ≤ e) : ZS e v := by
  induction l with
  | refl => exact h
  | step _ ih => exact ih.up
theorem ZH.tup {P : List PV → Prop} {v : PV} (h : ZH P v) : ∃ (k : Str) (xs : List PV), v = .tup (.str k :: xs) := by
  cases h <;> exact ⟨_, _, rfl⟩
theorem ZS.tup {d : Nat} {v : PV} (h : ZS d v) : ∃ (k : Str) (xs : List PV), v = .tup (.str k :: xs) := by
  cases d with
  | zero => exact ZH.tup h
  | succ d => exact ZH.tup h
theorem ZS.pos {d : Nat} {v : PV} (h : ZS d v) : 1 ≤ pz v := by
  obtain ⟨k, xs, rfl⟩ := h.tup
  simp
theorem ZH.pure {P : List PV → Prop} {v : PV} (hP : ∀ b, P b → PV.pureL b = true) (h : ZH P v) : PV.pure v = true := by
  have t : ∀ (k : Str) (xs : List PV), PV.pureL xs = true → PV.pure (.tup (.str k :: xs)) = true := fun k xs h => by
    show (true && PV.pureL xs) = true
    rw [h]; rfl
  have tb : ∀ b, P b → PV.pure (.tup b) = true := fun b hb => hP b hb
  cases h with
  | simple h1 h2 h3 => exact t _ _ h2
  | block h => exact t _ _ (pureL_of fun x hx => by rw [List.mem_singleton.mp hx]; exact tb _ h)
  | for_ hl lz h =>
    refine t _ _ (pureL_of fun x hx => ?_)
    simp only [List.mem_cons, List.not_mem_nil, or_false] at hx
    rcases hx with rfl | rfl
    · exact hl
    · exact tb _ h
  | try_ h1 h2 =>
    refine t _ _ (pureL_of fun x hx => ?_)
    simp only [List.mem_cons, List.not_mem_nil, or_false] at hx
    rcases hx with rfl | rfl
    · exact tb _ h1
    · exact tb _ h2
  | while_ hl lz hc h =>
    refine t _ _ (pureL_of fun x hx => ?_)
    simp only [List.mem_cons, List.not_mem_nil, or_false] at hx
    rcases hx with rfl | rfl | rfl
    · exact hl
    · exact hc.pure
    · exact tb _ h
  | if_ hc h1 h2 =>
    refine t _ _ (pureL_of fun x hx => ?_)
    simp only [List.mem_cons, List.not_mem_nil, or_false] at hx
    rcases hx with rfl | rfl | rfl
    · exact hc.pure
    · exact tb _ h1
    · exact tb _ h2
theorem ZS.pure : ∀ {d : Nat} {v : PV}, ZS d v → PV.pure v = true := by
  intro d
  induction d with
  | zero => exact fun h => ZH.pure (fun _ z => z.elim) h
  | succ d ih => exact fun h => ZH.pure (fun b z => pureL_of fun s hs => ih (z s hs)) h
theorem zz_b {d : Nat} {b : List PV} (h : ∀ s ∈ b, ZS d s) : pz (.tup b) = pzL b := pz_body (noStr_of fun s hs => by obtain ⟨k, xs, e⟩ := (h s hs).tup; exact ⟨_, e⟩)
end K02

set_option maxHeartbeats 4000000
namespace K02
open PySem L2 U
/-! ### what a statement is made of -/
structure SD (P : List PV → Prop) (s : PV) (cs bs : List PV) : Prop where
  p : PV.pure s = true
  e12 : ∀ k st, evCall TURNS D (k + 1) 12 [s] st = .ok (.tup cs) st
  e11 : ∀ k st, evCall TURNS D (k + 1) 11 [s] st = .ok (.tup bs) st
  e33 : ∀ k st, evCall TURNS D (k + 1) 33 [s] st = .ok (.fl cs) st
  e32 : ∀ k st, evCall TURNS D (k + 1) 32 [s] st = .ok (.fl bs) st
  cz : ∀ c ∈ cs, ZC 25 c
  bb : ∀ b ∈ bs, ∃ b', b = .tup b' ∧ P b'
  z : pz s = 1 + pzL cs + pzL bs
  l1 : cs.length ≤ 2
  l2 : bs.length ≤ 2
theorem sl_tup' (xs : List PV) (lo hi : Option Int) (st : Store) : slV (.tup xs) lo hi st = some (.tup (cutL xs lo hi)) := rfl
theorem getB (st : Store) : getV [("if", (.int 2)), ("while", (.int 1)), ("for", (.int 1)), ("try", (.int 2)), ("block", (.int 1))] (.str "call") (.int 0) = some (.int 0) ∧
  getV [("if", (.int 2)), ("while", (.int 1)), ("for", (.int 1)), ("try", (.int 2)), ("block", (.int 1))] (.str "let") (.int 0) = some (.int 0) ∧
  getV [("if", (.int 2)), ("while", (.int 1)), ("for", (.int 1)), ("try", (.int 2)), ("block", (.int 1))] (.str "set") (.int 0) = some (.int 0) ∧
  getV [("if", (.int 2)), ("while", (.int 1)), ("for", (.int 1)), ("try", (.int 2)), ("block", (.int 1))] (.str "break") (.int 0) = some (.int 0) ∧
  getV [("if", (.int 2)), ("while", (.int 1)), ("for", (.int 1)), ("try", (.int 2)), ("block", (.int 1))] (.str "continue") (.int 0) = some (.int 0) ∧
  getV [("if", (.int 2)), ("while", (.int 1)), ("for", (.int 1)), ("try", (.int 2)), ("block", (.int 1))] (.str "return") (.int 0) = some (.int 0) ∧
  getV [("if", (.int 2)), ("while", (.int 1)), ("for", (.int 1)), ("try", (.int 2)), ("block", (.int 1))] (.str "stop") (.int 0) = some (.int 0) ∧
  getV [("if", (.int 2)), ("while", (.int 1)), ("for", (.int 1)), ("try", (.int 2)), ("block", (.int 1))] (.str "if") (.int 0) = some (.int 2) ∧
  getV [("if", (.int 2)), ("while", (.int 1)), ("for", (.int 1)), ("try", (.int 2)), ("block", (.int 1))] (.str "while") (.int 0) = some (.int 1) ∧
  getV [("if", (.int 2)), ("while", (.int 1)), ("for", (.int 1)), ("try", (.int 2)), ("block", (.int 1))] (.str "for") (.int 0) = some (.int 1) ∧
  getV [("if", (.int 2)), ("while", (.int 1)), ("for", (.int 1)), ("try", (.int 2)), ("block", (.int 1))] (.str "try") (.int 0) = some (.int 2) ∧
  getV [("if", (.int 2)), ("while", (.int 1)), ("for", (.int 1)), ("try", (.int 2)), ("block", (.int 1))] (.str "block") (.int 0) = some (.int 1) := by
  refine ⟨?_, ?_, ?_, ?_, ?_, ?_, ?_, ?_, ?_, ?_, ?_, ?_⟩ <;> rfl
theorem sd_ok {P : List PV → Prop} {s : PV} (pu : ∀ b, P b → PV.pureL b = true) (h : ZH P s) : ∃ cs bs, SD P s cs bs := by
  have hp := h.pure pu
  obtain ⟨g1, g2, g3, g4, g5, g6, g7, g8, g9, g10, g11, g12⟩ := getB []
  cases h with
  | @simple k xs hk hx hz =>
    have cut : cutL (.str k :: xs) (some ((xs.length : Int) + 1)) none = [] := by
      have := cutL_hi (α := PV) (.str k :: xs) [] ((xs.length : Int) + 1) (by simp)
      rw [List.append_nil] at this
      exact this
    have sl := fun st => sl_tup' (.str k :: xs) (some ((xs.length : Int) + 1)) none st
    simp only [cut] at sl
    refine ⟨[], [], ⟨hp, ?_, ?_, ?_, ?_, (fun c hc => nomatch hc), (fun c hc => nomatch hc), by simp [hz], by simp, by simp⟩⟩
    · intro k st
      rw [evCall]
      rcases hk with rfl | rfl | rfl | rfl | rfl | rfl | rfl <;> simp [D, d12, evSs, evS, ev, evA, evCs, ME.held, leave_id, sizeLine_eq]
    · intro k st
      rw [evCall]
      rcases hk with rfl | rfl | rfl | rfl | rfl | rfl | rfl <;> simp [D, d11, evSs, evS, ev, evA, evCs, ME.held, leave_id, g1, g2, g3, g4, g5, g6, g7, ME.absent, bound_non, bound_int, sl]
    · intro k st
      rw [evCall]
      rcases hk with rfl | rfl | rfl | rfl | rfl | rfl | rfl <;> simp [D, d33, evSs, evS, ev, evA, evCs, ME.held, leave_id, sizeLine_eq]
    · intro k st
      rw [evCall]
      rcases hk with rfl | rfl | rfl | rfl | rfl | rfl | rfl <;> simp [D, d32, evSs, evS, ev, evA, evCs, ME.held, leave_id, sizeLine_eq]
  | @block b h =>
    have sl := fun st => sl_tup' [.str "block", .tup b] (some 1) none st
    rw [show cutL [.str "block", .tup b] (some 1) none = [.tup b] from cutL_hi (α := PV) [.str "block"] [.tup b] 1 rfl] at sl
    refine ⟨[], [.tup b], ⟨hp, ?_, ?_, ?_, ?_, (fun c hc => nomatch hc), (fun c hc => ⟨b, by simpa using hc, h⟩), by simp only [pz_node, pzL_cons, pzL_nil] <;> omega, by simp, by simp⟩⟩
    · intro k st; rw [evCall]; simp [D, d12, evSs, evS, ev, evA, evCs, ME.held, leave_id, sizeLine_eq]
    · intro k st; rw [evCall]; simp [D, d11, evSs, evS, ev, evA, evCs, ME.held, leave_id, g12, ME.absent, bound_non, bound_int, sl]
    · intro k st; rw [evCall]; simp [D, d33, evSs, evS, ev, evA, evCs, ME.held, leave_id, sizeLine_eq]
    · intro k st; rw [evCall]; simp [D, d32, evSs, evS, ev, evA, evCs, ME.held, leave_id, sizeLine_eq]
  | @for_ l b hl lz h =>
    have sl := fun st => sl_tup' [.str "for", l, .tup b] (some 2) none st
    rw [show cutL [.str "for", l, .tup b] (some 2) none = [.tup b] from cutL_hi (α := PV) [.str "for", l] [.tup b] 2 rfl] at sl
    refine ⟨[], [.tup b], ⟨hp, ?_, ?_, ?_, ?_, (fun c hc => nomatch hc), (fun c hc => ⟨b, by simpa using hc, h⟩), by simp only [pz_node, pzL_cons, pzL_nil, lz] <;> omega, by simp, by simp⟩⟩
    · intro k st; rw [evCall]; simp [D, d12, evSs, evS, ev, evA, evCs, ME.held, leave_id, sizeLine_eq]
    · intro k st; rw [evCall]; simp [D, d11, evSs, evS, ev, evA, evCs, ME.held, leave_id, g10, ME.absent, bound_non, bound_int, sl]
    · intro k st; rw [evCall]; simp [D, d33, evSs, evS, ev, evA, evCs, ME.held, leave_id, sizeLine_eq]
    · intro k st; rw [evCall]; simp [D, d32, evSs, evS, ev, evA, evCs, ME.held, leave_id, sizeLine_eq]
  | @try_ a b h1 h2 =>
    have sl := fun st => sl_tup' [.str "try", .tup a, .tup b] (some 1) none st
    rw [show cutL [.str "try", .tup a, .tup b] (some 1) none = [.tup a, .tup b] from cutL_hi (α := PV) [.str "try"] [.tup a, .tup b] 1 rfl] at sl
    refine ⟨[], [.tup a, .tup b], ⟨hp, ?_, ?_, ?_, ?_, (fun c hc => nomatch hc), (fun c hc => ?_), by simp only [pz_node, pzL_cons, pzL_nil] <;> omega, by simp, by simp⟩⟩
    · intro k st; rw [evCall]; simp [D, d12, evSs, evS, ev, evA, evCs, ME.held, leave_id, sizeLine_eq]
    · intro k st; rw [evCall]; simp [D, d11, evSs, evS, ev, evA, evCs, ME.held, leave_id, g11, ME.absent, bound_non, bound_int, sl]
    · intro k st; rw [evCall]; simp [D, d33, evSs, evS, ev, evA, evCs, ME.held, leave_id, sizeLine_eq]
    · intro k st; rw [evCall]; simp [D, d32, evSs, evS, ev, evA, evCs, ME.held, leave_id, sizeLine_eq]
    · simp only [List.mem_cons, List.not_mem_nil, or_false] at hc
      rcases hc with rfl | rfl
      · exact ⟨a, rfl, h1⟩
      · exact ⟨b, rfl, h2⟩
  | @while_ l c b hl lz hc h =>
    have ec := fun st => esc_p hc.pure st
    have sl := fun st => sl_tup' [.str "while", l, c, .tup b] (some 3) none st
    rw [show cutL [.str "while", l, c, .tup b] (some 3) none = [.tup b] from cutL_hi (α := PV) [.str "while", l, c] [.tup b] 3 rfl] at sl
    refine ⟨[c], [.tup b], ⟨hp, ?_, ?_, ?_, ?_, (fun x hx => by rw [List.mem_singleton.mp hx]; exact hc), (fun c hc => ⟨b, by simpa using hc, h⟩), by simp only [pz_node, pzL_cons, pzL_nil, lz] <;> omega, by simp, by simp⟩⟩
    · intro k st; rw [evCall]; simp [D, d12, evSs, evS, ev, evA, evCs, ME.held, leave_id, sizeLine_eq, ec]
    · intro k st; rw [evCall]; simp [D, d11, evSs, evS, ev, evA, evCs, ME.held, leave_id, g9, ME.absent, bound_non, bound_int, sl]
    · intro k st; rw [evCall]; simp [D, d33, evSs, evS, ev, evA, evCs, ME.held, leave_id, sizeLine_eq, ec]
    · intro k st; rw [evCall]; simp [D, d32, evSs, evS, ev, evA, evCs, ME.held, leave_id, sizeLine_eq]
  | @if_ c a b hc h1 h2 =>
    have ec := fun st => esc_p hc.pure st
    have sl := fun st => sl_tup' [.str "if", c, .tup a, .tup b] (some 2) none st
    rw [show cutL [.str "if", c, .tup a, .tup b] (some 2) none = [.tup a, .tup b] from cutL_hi (α := PV) [.str "if", c] [.tup a, .tup b] 2 rfl] at sl
    refine ⟨[c], [.tup a, .tup b], ⟨hp, ?_, ?_, ?_, ?_, (fun x hx => by rw [List.mem_singleton.mp hx]; exact hc), (fun c hc => ?_), by simp only [pz_node, pzL_cons, pzL_nil] <;> omega, by simp, by simp⟩⟩
    · intro k st; rw [evCall]; simp [D, d12, evSs, evS, ev, evA, evCs, ME.held, leave_id, sizeLine_eq, ec]
    · intro k st; rw [evCall]; simp [D, d11, evSs, evS, ev, evA, evCs, ME.held, leave_id, g8, ME.absent, bound_non, bound_int, sl]
    · intro k st; rw [evCall]; simp [D, d33, evSs, evS, ev, evA, evCs, ME.held, leave_id, sizeLine_eq, ec]
    · intro k st; rw [evCall]; simp [D, d32, evSs, evS, ev, evA, evCs, ME.held, leave_id, sizeLine_eq]
    · simp only [List.mem_cons, List.not_mem_nil, or_false] at hc
      rcases hc with rfl | rfl
      · exact ⟨a, rfl, h1⟩
      · exact ⟨b, rfl, h2⟩
end K02

set_option maxHeartbeats 4000000
namespace K02
open PySem L2 U
theorem pzL_take {b : List PV} {x : PV} {j : Nat} (hx : b[j]? = some x) : pzL (b.take (j + 1)) = pzL (b.take j) + pz x := by
  rw [show b.take (j + 1) = b.take j ++ [x] by rw [List.take_add_one, hx]; rfl, pzL_app, pzL_cons, pzL_nil]; omega
theorem sum_of (cs : List PV) (st : Store) : biV .sum [.fl (cs.map fun c => .int (pz c))] st = some (.int (pzL cs)) := by
  show (intsL (cs.map fun c => .int (pz c))).map (fun ns => PV.int ns.sum) = _
  rw [intsL_map, Option.map_some, sum_pz]
/-- one statement: its places by the program, and a turn of the law's loop -/
theorem stm_places {P : List PV → Prop} {L N : Nat} {s : PV} {cs bs : List PV} (sd : SD P s cs bs) (hz : pz s ≤ 100000) (L1 : 27 ≤ L) (N1 : 26 ≤ N) (pu : ∀ b, P b → PV.pureL b = true) (tu : ∀ b, P b → pz (.tup b) = pzL b)
    (ih : ∀ b, P b → pzL b ≤ 100000 → (∀ k st, evCall TURNS D (k + L) 40 [.tup b] st = .ok (.int (pzL b)) st) ∧ ∀ k st, evCall TURNS D (k + N) 47 [.tup b] st = .ok (.int (pzL b)) st) :
    (∀ k st, evCall TURNS D (k + L + 1) 41 [s] st = .ok (.int (pz s)) st) ∧ ∀ (k : Nat) (st : Store) (t : Int) (bd x3 x4 : Option PV), ∃ x3' x4' : Option PV,
      evSs (evCall TURNS D (k + N)) TURNS b47_2 [bd, some (.int t), some s, x3, x4] st = .nx [bd, some (.int (t + pz s)), some s, x3', x4'] st := by
  have zz := sd.z
  have hg : ∀ c ∈ cs, (∀ k st, evCall TURNS D (k + 25 + 1) 27 [c] st = .ok (.int (pz c)) st) ∧ ∀ k st, evCall TURNS D (k + 25 + 2) 42 [c] st = .ok (.int (pz c)) st := fun c hc => zparts 25 c (sd.cz c hc) (by have := pzL_mem hc; omega)
  have hf : ∀ b ∈ bs, (∀ k st, evCall TURNS D (k + L) 40 [b] st = .ok (.int (pz b)) st) ∧ ∀ k st, evCall TURNS D (k + N) 47 [b] st = .ok (.int (pz b)) st := fun b hb => by
    obtain ⟨b', rfl, h⟩ := sd.bb b hb
    rw [tu b' h]
    exact ih b' h (by have := pzL_mem hb; rw [tu b' h] at this; omega)
  have cp : ∀ c ∈ cs, PV.pure c = true := fun c hc => (sd.cz c hc).pure
  have bp : ∀ b ∈ bs, PV.pure b = true := fun b hb => by
    obtain ⟨b', rfl, h⟩ := sd.bb b hb
    exact pu b' h
  have cl := sd.l1
  have bl := sd.l2
  have vp := varV_p sd.p
  have ep := esc_p sd.p
  refine ⟨fun k st => ?_, fun k st t bd x3 x4 => ?_⟩
  · have lc1 : lcLoop (fun _ s => .ok true s) (ev (evCall TURNS D (k + L)) e41_1 .val) (MG.put (.nm 2)) [some s, none, none, none] (.items cs) 0 cs.length [] st = .ok (.fl (cs.map fun c => .int (pz c))) st := by
      refine lc_each (fun c => .int (pz c)) (by omega) (by simp) fun c hc env' _ h2 => ⟨?_, rfl⟩
      have i := (hg c hc).2 (k + L - 27) st
      rw [show k + L - 27 + 25 + 2 = k + L by omega] at i
      simp [e41_1, ev, evA, h2, varV_p (cp c hc), esc_p (cp c hc), i]
    have lc2 : ∀ x1 : Option PV, lcLoop (fun _ s => .ok true s) (ev (evCall TURNS D (k + L)) e41_0 .val) (MG.put (.nm 3)) [some s, x1, none, none] (.items bs) 0 bs.length [] st = .ok (.fl (bs.map fun b => .int (pz b))) st := fun x1 => by
      refine lc_each (fun b => .int (pz b)) (by omega) (by simp) fun b hb env' _ h2 => ⟨?_, rfl⟩
      have i := (hf b hb).1 k st
      simp [e41_0, ev, evA, h2, varV_p (bp b hb), esc_p (bp b hb), i]
    have sm1 := sum_of cs st
    have sm2 := sum_of bs st
    have e12 := sd.e12 (k + L - 1) st
    have e11 := sd.e11 (k + L - 1) st
    rw [show k + L - 1 + 1 = k + L by omega] at e12 e11
    have vp := vp st
    have ep := ep st
    have zi : (pz s : Int) = 1 + (pzL cs : Int) + (pzL bs : Int) := by omega
    rw [zi]
    generalize (pzL cs : Int) = S1 at *
    generalize (pzL bs : Int) = S2 at *
    have body : evSs (evCall TURNS D (k + L)) TURNS d41.body [some s, none, none, none] st = .rt (.int (1 + S1 + S2)) st := by
      unfold d41
      simp [evSs, evS, ev, evA, evCs, ME.held, srcV, Src.many, MG.slots, U.wipe, e12, e11, lc1, lc2, sm1, sm2, vp, ep]
    rw [show k + L + 1 = (k + L) + 1 from rfl, evCall]
    have hd : D 41 = some d41 := rfl
    simp only [hd]
    have body' : evSs (evCall TURNS D (k + L)) TURNS d41.body (List.map some [s] ++ List.replicate (d41.nl - d41.np) none) st = .rt (.int (1 + S1 + S2)) st := body
    rw [body']
    have nf : ([s].any PV.isFl) = false := by
      show (PV.isFl s || false) = false
      rw [pure_nofl sd.p]; rfl
    rw [if_pos ⟨rfl, nf⟩]
    exact leave_id _ _
  · have e33 := sd.e33 (k + N - 1) st
    have e32 := sd.e32 (k + N - 1) st
    rw [show k + N - 1 + 1 = k + N by omega] at e33 e32
    have vp := vp st
    have ep := ep st
    have f1 : ∀ t : Int, ∃ x3', forLoop (MG.put (.nm 3)) (evSs (evCall TURNS D (k + N)) TURNS b47_1) (.items cs) 0 cs.length [bd, some (.int t), some s, x3, x4] st = .nx [bd, some (.int (t + pzL cs)), some s, x3', x4] st := fun t => by
      obtain ⟨e, s2, q1, ⟨x3', q2⟩, q3⟩ := forLoop_inv (put := MG.put (.nm 3)) (body := evSs (evCall TURNS D (k + N)) TURNS b47_1) (xs := cs)
        (fun j env s2 => (∃ x3', env = [bd, some (.int (t + pzL (cs.take j))), some s, x3', x4]) ∧ s2 = st) (fun j x env s2 hx ⟨⟨x3', e1⟩, e2⟩ => by
          subst e1 e2
          have hm : x ∈ cs := List.mem_of_getElem? hx
          have i := (hg x hm).1 (k + N - 26) s2
          rw [show k + N - 26 + 25 + 1 = k + N by omega] at i
          refine ⟨[bd, some (.int (t + pzL (cs.take j))), some s, some x, x4], rfl, ?_⟩
          rw [pzL_take hx]
          simp [b47_1, evSs, evS, ev, evA, evCs, i, varV_p (cp x hm), esc_p (cp x hm)]
          omega) cs.length 0 [bd, some (.int t), some s, x3, x4] st (by simp) ⟨⟨x3, by simp⟩, rfl⟩
      subst q2 q3
      rw [List.take_length] at q1
      exact ⟨x3', q1⟩
    have f2 : ∀ (t : Int) (x3 : Option PV), ∃ x4', forLoop (MG.put (.nm 4)) (evSs (evCall TURNS D (k + N)) TURNS b47_0) (.items bs) 0 bs.length [bd, some (.int t), some s, x3, x4] st = .nx [bd, some (.int (t + pzL bs)), some s, x3, x4'] st := fun t x3 => by
      obtain ⟨e, s2, q1, ⟨x4', q2⟩, q3⟩ := forLoop_inv (put := MG.put (.nm 4)) (body := evSs (evCall TURNS D (k + N)) TURNS b47_0) (xs := bs)
        (fun j env s2 => (∃ x4', env = [bd, some (.int (t + pzL (bs.take j))), some s, x3, x4']) ∧ s2 = st) (fun j x env s2 hx ⟨⟨x4', e1⟩, e2⟩ => by
          subst e1 e2
          have hm : x ∈ bs := List.mem_of_getElem? hx
          have i := (hf x hm).2 k s2
          refine ⟨[bd, some (.int (t + pzL (bs.take j))), some s, x3, some x], rfl, ?_⟩
          rw [pzL_take hx]
          simp [b47_0, evSs, evS, ev, evA, evCs, i, varV_p (bp x hm), esc_p (bp x hm)]
          omega) bs.length 0 [bd, some (.int t), some s, x3, x4] st (by simp) ⟨⟨x4, by simp⟩, rfl⟩
      subst q2 q3
      rw [List.take_length] at q1
      exact ⟨x4', q1⟩
    obtain ⟨x3', h1⟩ := f1 (t + 1)
    obtain ⟨x4', h2⟩ := f2 (t + 1 + pzL cs) x3'
    refine ⟨x3', x4', ?_⟩
    have zi : t + (pz s : Int) = t + 1 + (pzL cs : Int) + (pzL bs : Int) := by omega
    rw [zi]
    generalize (pzL cs : Int) = S1 at *
    generalize (pzL bs : Int) = S2 at *
    unfold b47_2
    simp [evSs, evS, ev, evA, evCs, evSrc, srcV, Src.many, e33, e32, h1, h2, vp, ep]
theorem body_places {L N : Nat} {b : List PV} (hp : ∀ s ∈ b, PV.pure s = true) (hl : b.length ≤ 100000)
    (h : ∀ s ∈ b, (∀ k st, evCall TURNS D (k + L + 1) 41 [s] st = .ok (.int (pz s)) st) ∧ ∀ (k : Nat) (st : Store) (t : Int) (bd x3 x4 : Option PV), ∃ x3' x4' : Option PV,
      evSs (evCall TURNS D (k + N)) TURNS b47_2 [bd, some (.int t), some s, x3, x4] st = .nx [bd, some (.int (t + pz s)), some s, x3', x4'] st) :
    (∀ k st, evCall TURNS D (k + L + 2) 40 [.tup b] st = .ok (.int (pzL b)) st) ∧ ∀ k st, evCall TURNS D (k + N + 1) 47 [.tup b] st = .ok (.int (pzL b)) st := by
  refine ⟨fun k st => ?_, fun k st => ?_⟩
  · have lc : lcLoop (fun _ s => .ok true s) (ev (evCall TURNS D (k + L + 1)) e40_0 .val) (MG.put (.nm 1)) [some (.tup b), none] (.items b) 0 b.length [] st = .ok (.fl (b.map fun s => .int (pz s))) st := by
      refine lc_each (fun s => .int (pz s)) (by omega) (by simp) fun s hs env' _ h2 => ⟨?_, rfl⟩
      have i := (h s hs).1 k st
      simp [e40_0, ev, evA, h2, varV_p (hp s hs), esc_p (hp s hs), i]
    have sm := sum_of b st
    generalize (pzL b : Int) = S at *
    rw [show k + L + 2 = (k + L + 1) + 1 from rfl, evCall]
    simp [D, d40, evSs, evS, ev, evA, evCs, ME.held, leave_id, srcV, Src.many, MG.slots, U.wipe, lc, sm]
  · obtain ⟨e, s2, q1, ⟨x2, x3, x4, q2⟩, q3⟩ := forLoop_inv (put := MG.put (.nm 2)) (body := evSs (evCall TURNS D (k + N)) TURNS b47_2) (xs := b)
      (fun j env s2 => (∃ x2 x3 x4, env = [some (.tup b), some (.int (pzL (b.take j))), x2, x3, x4]) ∧ s2 = st) (fun j x env s2 hx ⟨⟨x2, x3, x4, e1⟩, e2⟩ => by
        subst e1 e2
        have hm : x ∈ b := List.mem_of_getElem? hx
        obtain ⟨x3', x4', i⟩ := (h x hm).2 k s2 (pzL (b.take j)) (some (.tup b)) x3 x4
        refine ⟨[some (.tup b), some (.int (pzL (b.take j))), some x, x3, x4], rfl, ?_⟩
        rw [i, pzL_take hx]
        exact ⟨⟨_, x3', x4', by rw [Int.natCast_add]⟩, rfl⟩) b.length 0 [some (.tup b), some (.int 0), none, none, none] st (by simp) ⟨⟨none, none, none, by simp⟩, rfl⟩
    subst q2 q3
    rw [List.take_length] at q1
    generalize (pzL b : Int) = S at *
    rw [show k + N + 1 = (k + N) + 1 from rfl, evCall]
    simp [D, d47, evSs, evS, ev, evA, evCs, evSrc, ME.held, leave_id, srcV, Src.many, q1]
theorem places_ok : ∀ (d : Nat) (b : List PV), (∀ s ∈ b, ZS d s) → pzL b ≤ 100000 → (∀ k st, evCall TURNS D (k + 2 * d + 30) 40 [.tup b] st = .ok (.int (pzL b)) st) ∧ ∀ k st, evCall TURNS D (k + d + 29) 47 [.tup b] st = .ok (.int (pzL b)) st := by
  intro d
  induction d with
  | zero =>
    intro b h hz
    have hl := pz_many fun s hs => (h s hs).pos
    refine body_places (L := 28) (N := 28) (fun s hs => (h s hs).pure) (by omega) fun s hs => ?_
    have sz := pzL_mem hs
    obtain ⟨cs, bs, sd⟩ := sd_ok (P := fun _ => False) (s := s) (fun _ z => z.elim) (h s hs)
    exact stm_places sd (by omega) (by omega) (by omega) (fun _ z => z.elim) (fun _ z => z.elim) (fun _ z => z.elim)
  | succ d ih =>
    intro b h hz
    have hl := pz_many fun s hs => (h s hs).pos
    have q := body_places (b := b) (L := 2 * d + 30) (N := d + 29) (fun s hs => (h s hs).pure) (by omega) fun s hs => by
      have sz := pzL_mem hs
      obtain ⟨cs, bs, sd⟩ := sd_ok (P := fun b => ∀ s ∈ b, ZS d s) (s := s) (fun b z => pureL_of fun s hs => (z s hs).pure) (h s hs)
      exact stm_places sd (by omega) (by omega) (by omega) (fun b z => pureL_of fun s hs => (z s hs).pure) (fun b z => zz_b z) (fun b z hz => by
        obtain ⟨z1, z2⟩ := ih b z hz
        exact ⟨fun k st => by rw [← Nat.add_assoc]; exact z1 k st, fun k st => by rw [← Nat.add_assoc]; exact z2 k st⟩)
    obtain ⟨z1, z2⟩ := q
    exact ⟨fun k st => by have := z1 k st; rw [show k + (2 * d + 30) + 2 = k + 2 * (d + 1) + 30 by omega] at this; exact this, fun k st => by have := z2 k st; rw [show k + (d + 29) + 1 = k + (d + 1) + 29 by omega] at this; exact this⟩
end K02

set_option maxHeartbeats 4000000
namespace K02
open PySem L2 U
theorem fmx_snoc (t : Int) (l : List Int) (x : Int) : fmx t (l ++ [x]) = mx (fmx t l) x := fmx_app t l [x]
theorem fmx_take {f : PV → Int} {b : List PV} {x : PV} {j : Nat} (t : Int) (hx : b[j]? = some x) : fmx t ((b.take (j + 1)).map f) = mx (fmx t ((b.take j).map f)) (f x) := by
  rw [show b.take (j + 1) = b.take j ++ [x] by rw [List.take_add_one, hx]; rfl, List.map_append]
  exact fmx_snoc _ _ _
theorem bi_mx (i j : Int) (st : Store) : biV .max [.int i, .int j] st = some (.int (mx i j)) := rfl
/-- how deep the law counts, from the levels that the program counts -/
def lim (depth l : Int) : Int := if l = 0 then 0 else depth + l - 1
theorem lim_mx {depth t l : Int} (hd : 0 ≤ depth) (ht : 0 ≤ t) (hl : 0 ≤ l) : mx (lim depth t) (lim depth l) = lim depth (mx t l) := by
  unfold lim mx
  repeat' split
  all_goals omega
theorem mx_self {t l : Int} (ht : 0 ≤ t) (hl : 0 ≤ l) : mx (mx t 1) (1 + l) = mx t (1 + l) := by
  unfold mx
  repeat' split
  all_goals omega
/-- what is told of a body: its levels, the depth of its conditions -/
def BD (L N : Nat) (b : PV) (l p : Int) : Prop := 0 ≤ l ∧ l ≤ 100 ∧ 0 ≤ p ∧ p ≤ 25 ∧ (∀ k st, evCall TURNS D (k + L) 44 [b] st = .ok (.int l) st) ∧ (∀ k st, evCall TURNS D (k + L) 45 [b] st = .ok (.int p) st) ∧
  ∀ (k : Nat) (depth : Int) (st : Store), 0 ≤ depth → evCall TURNS D (k + N) 49 [b, .int depth] st = .ok (.tup [.int (lim depth l), .int p]) st
/-- what is told of a statement: a turn of each of the three loops -/
def SDp (L N : Nat) (s : PV) (l p : Int) : Prop := 1 ≤ l ∧ l ≤ 100 ∧ 0 ≤ p ∧ p ≤ 25 ∧
  (∀ (k : Nat) (st : Store) (t : Int) (bd x3 x4 : Option PV), 0 ≤ t → ∃ x3' x4' : Option PV, evSs (evCall TURNS D (k + L)) TURNS b44_1 [bd, some (.int t), some s, x3, x4] st = .nx [bd, some (.int (mx t l)), some s, x3', x4'] st) ∧
  (∀ (k : Nat) (st : Store) (t : Int) (bd x3 x4 : Option PV), 0 ≤ t → ∃ x3' x4' : Option PV, evSs (evCall TURNS D (k + L)) TURNS b45_2 [bd, some (.int t), some s, x3, x4] st = .nx [bd, some (.int (mx t p)), some s, x3', x4'] st) ∧
  ∀ (k : Nat) (st : Store) (depth t u : Int) (bd x5 x6 x7 : Option PV), 0 ≤ depth → 0 ≤ t → 0 ≤ u → ∃ x5' x6' x7' : Option PV,
    evSs (evCall TURNS D (k + N)) TURNS b49_2 [bd, some (.int depth), some (.int (lim depth t)), some (.int u), some s, x5, x6, x7] st = .nx [bd, some (.int depth), some (.int (lim depth (mx t l))), some (.int (mx u p)), some s, x5', x6', x7'] st
theorem stm_depths {P : List PV → Prop} {L N M : Nat} {s : PV} {cs bs : List PV} (sd : SD P s cs bs) (hz : pz s ≤ 100000) (L1 : 27 ≤ L) (N1 : 26 ≤ N) (hM : M ≤ 99) (pu : ∀ b, P b → PV.pureL b = true) (tu : ∀ b, P b → pz (.tup b) = pzL b)
    (ih : ∀ b, P b → pzL b ≤ 100000 → ∃ l p : Int, l ≤ M ∧ BD L N (.tup b) l p) : ∃ l p : Int, l ≤ 1 + M ∧ SDp L N s l p := by
  have zz := sd.z
  obtain ⟨g, hg⟩ := choose_on (P := fun (c : PV) (m : Int) => 0 ≤ m ∧ m ≤ (25 : Nat) ∧ (∀ k st, evCall TURNS D (k + 25 + 1) 48 [c] st = .ok (.int m) st) ∧ ∀ k st, evCall TURNS D (k + 25 + 2) 46 [c] st = .ok (.int m) st) (xs := cs) fun c hc => zdeep 25 c (sd.cz c hc) (by have := pzL_mem hc; omega)
  obtain ⟨f, hf⟩ := choose_on (P := fun (b : PV) (lp : Int × Int) => lp.1 ≤ M ∧ BD L N b lp.1 lp.2) (xs := bs) fun b hb => by
    obtain ⟨b', rfl, h⟩ := sd.bb b hb
    obtain ⟨l, p, h1, h2⟩ := ih b' h (by have := pzL_mem hb; rw [tu b' h] at this; omega)
    exact ⟨(l, p), h1, h2⟩
  have cp : ∀ c ∈ cs, PV.pure c = true := fun c hc => (sd.cz c hc).pure
  have bp : ∀ b ∈ bs, PV.pure b = true := fun b hb => by
    obtain ⟨b', rfl, h⟩ := sd.bb b hb
    exact pu b' h
  have cl := sd.l1
  have bl := sd.l2
  have vp := varV_p sd.p
  have ep := esc_p sd.p
  have F0 : ∀ b ∈ bs, 0 ≤ (f b).1 := fun b hb => (hf b hb).2.1
  have F1 : ∀ b ∈ bs, 0 ≤ (f b).2 := fun b hb => (hf b hb).2.2.2.1
  have l0 := fmx_nn (bs.map fun b => (f b).1) (Int.le_refl 0)
  have l1 : fmx 0 (bs.map fun b => (f b).1) ≤ (M : Int) := fmx_le _ _ (by omega) fun x hx => by
    obtain ⟨b, hb, rfl⟩ := List.mem_map.mp hx
    exact (hf b hb).1
  have p0 := fmx_nn (cs.map g) (Int.le_refl 0)
  have p1 := fmx_nn (bs.map fun b => (f b).2) p0
  have p2 : fmx (fmx 0 (cs.map g)) (bs.map fun b => (f b).2) ≤ (25 : Int) := fmx_le _ _ (fmx_le _ _ (by omega) fun x hx => by
    obtain ⟨b, hb, rfl⟩ := List.mem_map.mp hx
    exact (hg b hb).2.1) fun x hx => by
    obtain ⟨b, hb, rfl⟩ := List.mem_map.mp hx
    exact (hf b hb).2.2.2.2.1
  -- what is the same in the program and in the law
  have pm : ∀ t : Int, 0 ≤ t → fmx (fmx t (cs.map g)) (bs.map fun b => (f b).2) = mx t (fmx (fmx 0 (cs.map g)) (bs.map fun b => (f b).2)) := fun t ht => by
    rw [← fmx_app, ← fmx_app, fmx_mx _ t ht]
  refine ⟨1 + fmx 0 (bs.map fun b => (f b).1), fmx (fmx 0 (cs.map g)) (bs.map fun b => (f b).2), by omega, by omega, by omega, p1, p2, fun k st t bd x3 x4 ht => ?_, fun k st t bd x3 x4 ht => ?_, fun k st depth t u bd x5 x6 x7 hd ht hu => ?_⟩
  · have e11 := sd.e11 (k + L - 1) st
    rw [show k + L - 1 + 1 = k + L by omega] at e11
    have lc : lcLoop (fun _ s => .ok true s) (ev (evCall TURNS D (k + L)) e44_0 .val) (MG.put (.nm 4)) [bd, some (.int t), some s, x3, none] (.items bs) 0 bs.length [] st = .ok (.fl (bs.map fun b => .int (f b).1)) st := by
      refine lc_each (fun b => .int (f b).1) (by omega) (by simp) fun b hb env' _ h2 => ⟨?_, rfl⟩
      have i := (hf b hb).2.2.2.2.2.1 k st
      simp [e44_0, ev, evA, h2, varV_p (bp b hb), esc_p (bp b hb), i]
    have m2 := mxd_map (fun b => (f b).1) bs F0 st
    have vp := vp st
    have ep := ep st
    generalize fmx 0 (bs.map fun b => (f b).1) = F at *
    refine ⟨some (.fl (bs.map fun b => .int (f b).1)), x4, ?_⟩
    unfold b44_1
    simp [evSs, evS, ev, evA, evCs, evSrc, srcV, Src.many, MG.slots, U.wipe, ME.held, e11, lc, m2, vp, ep, bi_mx, -bi_max]
  · have e12 := sd.e12 (k + L - 1) st
    have e11 := sd.e11 (k + L - 1) st
    rw [show k + L - 1 + 1 = k + L by omega] at e12 e11
    have vp := vp st
    have ep := ep st
    obtain ⟨x3', f1⟩ : ∃ x3', forLoop (MG.put (.nm 3)) (evSs (evCall TURNS D (k + L)) TURNS b45_1) (.items cs) 0 cs.length [bd, some (.int t), some s, x3, x4] st = .nx [bd, some (.int (fmx t (cs.map g))), some s, x3', x4] st := by
      obtain ⟨e, s2, q1, ⟨x3', q2⟩, q3⟩ := forLoop_inv (put := MG.put (.nm 3)) (body := evSs (evCall TURNS D (k + L)) TURNS b45_1) (xs := cs)
        (fun j env s2 => (∃ x3', env = [bd, some (.int (fmx t ((cs.take j).map g))), some s, x3', x4]) ∧ s2 = st) (fun j x env s2 hx ⟨⟨x3', e1⟩, e2⟩ => by
          subst e1 e2
          have hm : x ∈ cs := List.mem_of_getElem? hx
          have i := (hg x hm).2.2.2 (k + L - 27) s2
          rw [show k + L - 27 + 25 + 2 = k + L by omega] at i
          refine ⟨[bd, some (.int (fmx t ((cs.take j).map g))), some s, some x, x4], rfl, ?_⟩
          rw [fmx_take t hx]
          generalize fmx t ((cs.take j).map g) = F at *
          simp [b45_1, evSs, evS, ev, evA, evCs, i, varV_p (cp x hm), esc_p (cp x hm), bi_mx, -bi_max]) cs.length 0 [bd, some (.int t), some s, x3, x4] st (by simp) ⟨⟨x3, rfl⟩, rfl⟩
      subst q2 q3
      rw [List.take_length] at q1
      exact ⟨x3', q1⟩
    obtain ⟨x4', f2⟩ : ∃ x4', forLoop (MG.put (.nm 4)) (evSs (evCall TURNS D (k + L)) TURNS b45_0) (.items bs) 0 bs.length [bd, some (.int (fmx t (cs.map g))), some s, x3', x4] st = .nx [bd, some (.int (fmx (fmx t (cs.map g)) (bs.map fun b => (f b).2))), some s, x3', x4'] st := by
      obtain ⟨e, s2, q1, ⟨x4', q2⟩, q3⟩ := forLoop_inv (put := MG.put (.nm 4)) (body := evSs (evCall TURNS D (k + L)) TURNS b45_0) (xs := bs)
        (fun j env s2 => (∃ x4', env = [bd, some (.int (fmx (fmx t (cs.map g)) ((bs.take j).map fun b => (f b).2))), some s, x3', x4']) ∧ s2 = st) (fun j x env s2 hx ⟨⟨x4', e1⟩, e2⟩ => by
          subst e1 e2
          have hm : x ∈ bs := List.mem_of_getElem? hx
          have i := (hf x hm).2.2.2.2.2.2.1 k s2
          refine ⟨[bd, some (.int (fmx (fmx t (cs.map g)) ((bs.take j).map fun b => (f b).2))), some s, x3', some x], rfl, ?_⟩
          rw [fmx_take (f := fun b => (f b).2) _ hx]
          generalize fmx (fmx t (cs.map g)) ((bs.take j).map fun b => (f b).2) = F at *
          simp [b45_0, evSs, evS, ev, evA, evCs, i, varV_p (bp x hm), esc_p (bp x hm), bi_mx, -bi_max]) bs.length 0 [bd, some (.int (fmx t (cs.map g))), some s, x3', x4] st (by simp) ⟨⟨x4, rfl⟩, rfl⟩
      subst q2 q3
      rw [List.take_length] at q1
      exact ⟨x4', q1⟩
    rw [pm t ht] at f2
    generalize fmx (fmx 0 (cs.map g)) (bs.map fun b => (f b).2) = G at *
    generalize fmx t (cs.map g) = G1 at *
    refine ⟨x3', x4', ?_⟩
    unfold b45_2
    simp [evSs, evS, ev, evA, evCs, evSrc, srcV, Src.many, e12, e11, f1, f2, vp, ep]
  · have e33 := sd.e33 (k + N - 1) st
    have e32 := sd.e32 (k + N - 1) st
    rw [show k + N - 1 + 1 = k + N by omega] at e33 e32
    have vp := vp st
    have ep := ep st
    have t1 : 0 ≤ mx t 1 := mx_nn ht
    obtain ⟨x5', f1⟩ : ∃ x5', forLoop (MG.put (.nm 5)) (evSs (evCall TURNS D (k + N)) TURNS b49_1) (.items cs) 0 cs.length [bd, some (.int depth), some (.int (lim depth (mx t 1))), some (.int u), some s, x5, x6, x7] st = .nx [bd, some (.int depth), some (.int (lim depth (mx t 1))), some (.int (fmx u (cs.map g))), some s, x5', x6, x7] st := by
      obtain ⟨e, s2, q1, ⟨x3', q2⟩, q3⟩ := forLoop_inv (put := MG.put (.nm 5)) (body := evSs (evCall TURNS D (k + N)) TURNS b49_1) (xs := cs)
        (fun j env s2 => (∃ x3', env = [bd, some (.int depth), some (.int (lim depth (mx t 1))), some (.int (fmx u ((cs.take j).map g))), some s, x3', x6, x7]) ∧ s2 = st) (fun j x env s2 hx ⟨⟨x3', e1⟩, e2⟩ => by
          subst e1 e2
          have hm : x ∈ cs := List.mem_of_getElem? hx
          have i := (hg x hm).2.2.1 (k + N - 26) s2
          rw [show k + N - 26 + 25 + 1 = k + N by omega] at i
          refine ⟨[bd, some (.int depth), some (.int (lim depth (mx t 1))), some (.int (fmx u ((cs.take j).map g))), some s, some x, x6, x7], rfl, ?_⟩
          rw [fmx_take u hx]
          generalize fmx u ((cs.take j).map g) = F at *
          simp [b49_1, evSs, evS, ev, evA, evCs, i, varV_p (cp x hm), esc_p (cp x hm), bi_mx, -bi_max]) cs.length 0 [bd, some (.int depth), some (.int (lim depth (mx t 1))), some (.int u), some s, x5, x6, x7] st (by simp) ⟨⟨x5, rfl⟩, rfl⟩
      subst q2 q3
      rw [List.take_length] at q1
      exact ⟨x3', q1⟩
    have lm : ∀ j, lim depth (mx t (1 + fmx 0 ((bs.take j).map fun b => (f b).1))) = lim depth (mx (mx t 1) (1 + fmx 0 ((bs.take j).map fun b => (f b).1))) := fun j => by
      rw [mx_self ht (fmx_nn _ (Int.le_refl 0))]
    obtain ⟨x6', x7', f2⟩ : ∃ x6' x7', forLoop (MG.put (.nm 6)) (evSs (evCall TURNS D (k + N)) TURNS b49_0) (.items bs) 0 bs.length [bd, some (.int depth), some (.int (lim depth (mx t 1))), some (.int (fmx u (cs.map g))), some s, x5', x6, x7] st = .nx [bd, some (.int depth), some (.int (lim depth (mx t (1 + fmx 0 (bs.map fun b => (f b).1))))), some (.int (fmx (fmx u (cs.map g)) (bs.map fun b => (f b).2))), some s, x5', x6', x7'] st := by
      obtain ⟨e, s2, q1, ⟨x6', x7', q2⟩, q3⟩ := forLoop_inv (put := MG.put (.nm 6)) (body := evSs (evCall TURNS D (k + N)) TURNS b49_0) (xs := bs)
        (fun j env s2 => (∃ x6' x7', env = [bd, some (.int depth), some (.int (lim depth (mx t (1 + fmx 0 ((bs.take j).map fun b => (f b).1))))), some (.int (fmx (fmx u (cs.map g)) ((bs.take j).map fun b => (f b).2))), some s, x5', x6', x7']) ∧ s2 = st) (fun j x env s2 hx ⟨⟨x6', x7', e1⟩, e2⟩ => by
          subst e1 e2
          have hm : x ∈ bs := List.mem_of_getElem? hx
          have i := (hf x hm).2.2.2.2.2.2.2 k (depth + 1) s2 (by omega)
          have i0 : 0 ≤ (f x).1 := F0 x hm
          refine ⟨[bd, some (.int depth), some (.int (lim depth (mx t (1 + fmx 0 ((bs.take j).map fun b => (f b).1))))), some (.int (fmx (fmx u (cs.map g)) ((bs.take j).map fun b => (f b).2))), some s, x5', some x, x7'], rfl, ?_⟩
          rw [fmx_take (f := fun b => (f b).2) _ hx, fmx_take (f := fun b => (f b).1) _ hx]
          have n0 := fmx_nn ((bs.take j).map fun b => (f b).1) (Int.le_refl 0)
          have key : mx (lim depth (mx t (1 + fmx 0 ((bs.take j).map fun b => (f b).1)))) (lim (depth + 1) (f x).1) = lim depth (mx t (1 + mx (fmx 0 ((bs.take j).map fun b => (f b).1)) (f x).1)) := by
            generalize fmx 0 ((bs.take j).map fun b => (f b).1) = F at *
            unfold lim mx
            repeat' split
            all_goals omega
          rw [← key]
          generalize fmx (fmx u (cs.map g)) ((bs.take j).map fun b => (f b).2) = G at *
          generalize lim depth (mx t (1 + fmx 0 ((bs.take j).map fun b => (f b).1))) = H at *
          simp [b49_0, evSs, evS, ev, evA, evCs, i, varV_p (bp x hm), esc_p (bp x hm), bi_mx, -bi_max]) bs.length 0 [bd, some (.int depth), some (.int (lim depth (mx t 1))), some (.int (fmx u (cs.map g))), some s, x5', x6, x7] st (by simp) ⟨⟨x6, x7, rfl⟩, rfl⟩
      subst q2 q3
      rw [List.take_length] at q1
      exact ⟨x6', x7', q1⟩
    rw [pm u hu] at f2
    have hl : mx (lim depth t) depth = lim depth (mx t 1) := by
      unfold lim mx
      repeat' split
      all_goals omega
    generalize fmx (fmx 0 (cs.map g)) (bs.map fun b => (f b).2) = G at *
    generalize fmx u (cs.map g) = G1 at *
    generalize lim depth (mx t (1 + fmx 0 (bs.map fun b => (f b).1))) = H at *
    refine ⟨x5', x6', x7', ?_⟩
    unfold b49_2
    simp [evSs, evS, ev, evA, evCs, evSrc, srcV, Src.many, e33, e32, hl, f1, f2, vp, ep, bi_mx, -bi_max]
theorem body_depths {L N : Nat} {M : Nat} {b : List PV} (hp : ∀ s ∈ b, PV.pure s = true) (hl : b.length ≤ 100000) (hM : M ≤ 100) (h : ∀ s ∈ b, ∃ l p : Int, l ≤ M ∧ SDp L N s l p) : ∃ l p : Int, l ≤ M ∧ (l = 0 → b = []) ∧ BD (L + 1) (N + 1) (.tup b) l p := by
  obtain ⟨f, hf⟩ := choose_on (P := fun (s : PV) (lp : Int × Int) => lp.1 ≤ M ∧ SDp L N s lp.1 lp.2) (xs := b) fun s hs => by
    obtain ⟨l, p, h1, h2⟩ := h s hs
    exact ⟨(l, p), h1, h2⟩
  have l0 := fmx_nn (b.map fun s => (f s).1) (Int.le_refl 0)
  have l1 : fmx 0 (b.map fun s => (f s).1) ≤ (M : Int) := fmx_le _ _ (by omega) fun x hx => by
    obtain ⟨s, hs, rfl⟩ := List.mem_map.mp hx
    exact (hf s hs).1
  have p0 := fmx_nn (b.map fun s => (f s).2) (Int.le_refl 0)
  have p1 : fmx 0 (b.map fun s => (f s).2) ≤ (25 : Int) := fmx_le _ _ (by omega) fun x hx => by
    obtain ⟨s, hs, rfl⟩ := List.mem_map.mp hx
    exact (hf s hs).2.2.2.2.1
  refine ⟨fmx 0 (b.map fun s => (f s).1), fmx 0 (b.map fun s => (f s).2), l1, fun e => ?_, l0, by omega, p0, p1, fun k st => ?_, fun k st => ?_, fun k depth st hd => ?_⟩
  · cases b with
    | nil => rfl
    | cons s b =>
      exfalso
      have s1 : 1 ≤ (f s).1 := (hf s List.mem_cons_self).2.1
      rw [List.map_cons, fmx_cons _ (by omega), fmx_mx _ _ (by omega)] at e
      unfold mx at e
      split at e <;> omega
  · obtain ⟨e, s2, q1, ⟨x2, x3, x4, q2⟩, q3⟩ := forLoop_inv (put := MG.put (.nm 2)) (body := evSs (evCall TURNS D (k + L)) TURNS b44_1) (xs := b)
      (fun j env s2 => (∃ x2 x3 x4, env = [some (.tup b), some (.int (fmx 0 ((b.take j).map fun s => (f s).1))), x2, x3, x4]) ∧ s2 = st) (fun j x env s2 hx ⟨⟨x2, x3, x4, e1⟩, e2⟩ => by
        subst e1 e2
        have hm : x ∈ b := List.mem_of_getElem? hx
        obtain ⟨x3', x4', i⟩ := (hf x hm).2.2.2.2.2.1 k s2 (fmx 0 ((b.take j).map fun s => (f s).1)) (some (.tup b)) x3 x4 (fmx_nn _ (Int.le_refl 0))
        refine ⟨[some (.tup b), some (.int (fmx 0 ((b.take j).map fun s => (f s).1))), some x, x3, x4], rfl, ?_⟩
        rw [i, fmx_take (f := fun s => (f s).1) _ hx]
        exact ⟨⟨_, x3', x4', rfl⟩, rfl⟩) b.length 0 [some (.tup b), some (.int 0), none, none, none] st (by simp) ⟨⟨none, none, none, rfl⟩, rfl⟩
    subst q2 q3
    rw [List.take_length] at q1
    generalize fmx 0 (b.map fun s => (f s).1) = S at *
    rw [show k + (L + 1) = (k + L) + 1 by omega, evCall]
    simp [D, d44, evSs, evS, ev, evA, evCs, evSrc, ME.held, leave_id, srcV, Src.many, q1]
  · obtain ⟨e, s2, q1, ⟨x2, x3, x4, q2⟩, q3⟩ := forLoop_inv (put := MG.put (.nm 2)) (body := evSs (evCall TURNS D (k + L)) TURNS b45_2) (xs := b)
      (fun j env s2 => (∃ x2 x3 x4, env = [some (.tup b), some (.int (fmx 0 ((b.take j).map fun s => (f s).2))), x2, x3, x4]) ∧ s2 = st) (fun j x env s2 hx ⟨⟨x2, x3, x4, e1⟩, e2⟩ => by
        subst e1 e2
        have hm : x ∈ b := List.mem_of_getElem? hx
        obtain ⟨x3', x4', i⟩ := (hf x hm).2.2.2.2.2.2.1 k s2 (fmx 0 ((b.take j).map fun s => (f s).2)) (some (.tup b)) x3 x4 (fmx_nn _ (Int.le_refl 0))
        refine ⟨[some (.tup b), some (.int (fmx 0 ((b.take j).map fun s => (f s).2))), some x, x3, x4], rfl, ?_⟩
        rw [i, fmx_take (f := fun s => (f s).2) _ hx]
        exact ⟨⟨_, x3', x4', rfl⟩, rfl⟩) b.length 0 [some (.tup b), some (.int 0), none, none, none] st (by simp) ⟨⟨none, none, none, rfl⟩, rfl⟩
    subst q2 q3
    rw [List.take_length] at q1
    generalize fmx 0 (b.map fun s => (f s).2) = S at *
    rw [show k + (L + 1) = (k + L) + 1 by omega, evCall]
    simp [D, d45, evSs, evS, ev, evA, evCs, evSrc, ME.held, leave_id, srcV, Src.many, q1]
  · obtain ⟨e, s2, q1, ⟨x4, x5, x6, x7, q2⟩, q3⟩ := forLoop_inv (put := MG.put (.nm 4)) (body := evSs (evCall TURNS D (k + N)) TURNS b49_2) (xs := b)
      (fun j env s2 => (∃ x4 x5 x6 x7, env = [some (.tup b), some (.int depth), some (.int (lim depth (fmx 0 ((b.take j).map fun s => (f s).1)))), some (.int (fmx 0 ((b.take j).map fun s => (f s).2))), x4, x5, x6, x7]) ∧ s2 = st) (fun j x env s2 hx ⟨⟨x4, x5, x6, x7, e1⟩, e2⟩ => by
        subst e1 e2
        have hm : x ∈ b := List.mem_of_getElem? hx
        obtain ⟨x5', x6', x7', i⟩ := (hf x hm).2.2.2.2.2.2.2 k s2 depth (fmx 0 ((b.take j).map fun s => (f s).1)) (fmx 0 ((b.take j).map fun s => (f s).2)) (some (.tup b)) x5 x6 x7 hd (fmx_nn _ (Int.le_refl 0)) (fmx_nn _ (Int.le_refl 0))
        refine ⟨[some (.tup b), some (.int depth), some (.int (lim depth (fmx 0 ((b.take j).map fun s => (f s).1)))), some (.int (fmx 0 ((b.take j).map fun s => (f s).2))), some x, x5, x6, x7], rfl, ?_⟩
        rw [i, fmx_take (f := fun s => (f s).1) _ hx, fmx_take (f := fun s => (f s).2) _ hx]
        exact ⟨⟨_, x5', x6', x7', rfl⟩, rfl⟩) b.length 0 [some (.tup b), some (.int depth), some (.int 0), some (.int 0), none, none, none, none] st (by simp) ⟨⟨none, none, none, none, rfl⟩, rfl⟩
    subst q2 q3
    rw [List.take_length] at q1
    generalize fmx 0 (b.map fun s => (f s).2) = S at *
    generalize lim depth (fmx 0 (b.map fun s => (f s).1)) = S1 at *
    rw [show k + (N + 1) = (k + N) + 1 by omega, evCall]
    simp [D, d49, evSs, evS, ev, evA, evCs, evSrc, ME.held, leave_id, srcV, Src.many, q1, sizeLine_eq]
theorem depths_ok : ∀ (d : Nat) (b : List PV), d ≤ 60 → (∀ s ∈ b, ZS d s) → pzL b ≤ 100000 → ∃ l p : Int, l ≤ d + 1 ∧ (l = 0 → b = []) ∧ BD (d + 28) (d + 28) (.tup b) l p := by
  intro d
  induction d with
  | zero =>
    intro b hd h hz
    have hl := pz_many fun s hs => (h s hs).pos
    obtain ⟨l, p, h1, h2, h3⟩ := body_depths (L := 27) (N := 27) (M := 1) (b := b) (fun s hs => (h s hs).pure) (by omega) (by omega) fun s hs => by
      have sz := pzL_mem hs
      obtain ⟨cs, bs, sd⟩ := sd_ok (P := fun _ => False) (s := s) (fun _ z => z.elim) (h s hs)
      obtain ⟨l, p, h1, h2⟩ := stm_depths (L := 27) (N := 27) (M := 0) sd (by omega) (by omega) (by omega) (by omega) (fun _ z => z.elim) (fun _ z => z.elim) (fun _ z => z.elim)
      exact ⟨l, p, by omega, h2⟩
    exact ⟨l, p, by omega, h2, h3⟩
  | succ d ih =>
    intro b hd h hz
    have hl := pz_many fun s hs => (h s hs).pos
    obtain ⟨l, p, h1, h2, h3⟩ := body_depths (L := d + 28) (N := d + 28) (M := d + 2) (b := b) (fun s hs => (h s hs).pure) (by omega) (by omega) fun s hs => by
      have sz := pzL_mem hs
      obtain ⟨cs, bs, sd⟩ := sd_ok (P := fun b => ∀ s ∈ b, ZS d s) (s := s) (fun b z => pureL_of fun s hs => (z s hs).pure) (h s hs)
      obtain ⟨l, p, h1, h2⟩ := stm_depths (L := d + 28) (N := d + 28) (M := d + 1) sd (by omega) (by omega) (by omega) (by omega) (fun b z => pureL_of fun s hs => (z s hs).pure) (fun b z => zz_b z) (fun b z hz => by
        obtain ⟨l, p, h1, _, h3⟩ := ih b (by omega) z hz
        exact ⟨l, p, by omega, h3⟩)
      exact ⟨l, p, by omega, h2⟩
    exact ⟨l, p, by omega, h2, by rw [show d + 1 + 28 = d + 28 + 1 by omega]; exact h3⟩
end K02

set_option maxHeartbeats 4000000
namespace K02
open PySem L2 U
variable {ns : List Int} {R C : Store} {st : Store} {xs : List Str} {f w : Nat} {a b r : Int}
abbrev R3 (xs : List Str) (a b : Int) : Store := [.lst (xs.map .str), .lst (FR a b), .lst [.loc 3, .loc 2, .loc 2, .loc 2]]
theorem great_turn {k j : Nat} (hx : NM xs) (hj : j ≤ 10) {c : PV} {x3 x4 x5 : Option PV} (h : TR ns (R3 xs a b) st) (hc : WC (9 + j) c) (hz : pz c ≤ 18 + 2 * j) :
    ∃ (c' : PV) (x4' x5' : Option PV) (st' : Store), evSs (evCall TURNS D (k + 1)) TURNS b50_0 [some (.loc 1), some (.loc 2), some c, x3, x4, x5] st = .nx [some (.loc 1), some (.loc 2), some c', x3, x4', x5'] st' ∧
      TR ns (R3 xs a b) st' ∧ WC (9 + (j + 1)) c' ∧ pz c' ≤ 18 + 2 * (j + 1) := by
  obtain ⟨q1, st1, a1, a2, a3, a4⟩ := drawR (k := k) (m := 2) h (by decide)
  have wd : ∃ w : Str, atI [PV.str "call", .str "flag"] q1 = some (.str w) ∧ (w = "call" ∨ w = "flag") := pickS a3 (by simpa using a4) (fun x hx => by
    simp only [List.mem_cons, List.not_mem_nil, or_false] at hx
    rcases hx with rfl | rfl <;> exact ⟨_, rfl, by simp⟩)
  obtain ⟨wd, w1, w2⟩ := wd
  have nm : st1[2]? = some (.lst (xs.map .str)) := TR.at a2 0
  have ln : biV .len [.loc 2] st1 = some (.int xs.length) := by rw [bi_len_loc nm]; simp
  obtain ⟨q2, st2, x, b1, b2, b3, b4, _⟩ := nameR (k := k) a2 hx
  have nm2 : st2[2]? = some (.lst (xs.map .str)) := TR.at b2 0
  have i1 := ix_loc (k := q2) nm2
  rw [b3] at i1
  obtain ⟨ch, st3, c1, c2, c3, c4⟩ := drawR (k := k) (m := 6) b2 (by decide)
  have lf : WF (.tup [.str wd, .str x]) := ⟨wd, x, w2, b4, rfl⟩
  have zl : pz (.tup [.str wd, .str x]) = 1 := by simp
  have lc : WC (9 + j) (.tup [.str wd, .str x]) := WC.leaf _ lf
  have pc := fun st => esc_p hc.pure st
  have vc := fun st => varV_p hc.pure st
  by_cases k2 : ch < 2
  · refine ⟨.tup [.str "not", c], some (.tup [.str wd, .str x]), some (.int ch), st3, ?_, c2, .inr (.inl ⟨c, rfl, hc⟩), by rw [pz_node, pzL_cons, pzL_nil]; omega⟩
    simp [b50_0, evSs, evS, ev, evA, evCs, a1, w1, ln, b1, i1, c1, k2, pc, vc, sizeLine_eq]
  have andor : ∀ i : Int, 0 ≤ i → i < 2 → ∃ w : Str, atI [PV.str "and", .str "or"] i = some (.str w) ∧ (w = "and" ∨ w = "or") := fun i i0 i2 => pickS i0 (by simpa using i2) (fun x hx => by
    simp only [List.mem_cons, List.not_mem_nil, or_false] at hx
    rcases hx with rfl | rfl <;> exact ⟨_, rfl, by simp⟩)
  by_cases k4 : ch < 4
  · obtain ⟨wj, j1, j2⟩ := andor (ch - 2) (by omega) (by omega)
    obtain ⟨v, v1, v2, v3, v4⟩ := joined_ok (d := 8 + j) j2 (hc.mono (by omega)) (lc.mono (by omega)) (by omega) (by omega)
    have v1 := fun st => v1 k st
    have ev' := fun st => esc_p v4 st
    refine ⟨v, some (.tup [.str wd, .str x]), some (.int ch), st3, ?_, c2, v2.mono (by omega), by omega⟩
    simp [b50_0, evSs, evS, ev, evA, evCs, a1, w1, ln, b1, i1, c1, k2, k4, j1, v1, ev', pc, vc, sizeLine_eq]
  · obtain ⟨wj, j1, j2⟩ := andor (ch - 4) (by omega) (by omega)
    obtain ⟨v, v1, v2, v3, v4⟩ := joined_ok (d := 8 + j) j2 (lc.mono (by omega)) (hc.mono (by omega)) (by omega) (by omega)
    have v1 := fun st => v1 k st
    have ev' := fun st => esc_p v4 st
    refine ⟨v, some (.tup [.str wd, .str x]), some (.int ch), st3, ?_, c2, v2.mono (by omega), by omega⟩
    simp [b50_0, evSs, evS, ev, evA, evCs, a1, w1, ln, b1, i1, c1, k2, k4, j1, v1, ev', pc, vc, sizeLine_eq]
theorem great_ok {k : Nat} (hx : NM xs) (h : TR ns (R1 xs) st) : ∃ c st', evCall TURNS D (k + 13) 50 [.loc 1, .loc 2] st = .ok c st' ∧ TR ns (R1 xs) st' ∧ WC 25 c ∧ pz c ≤ 40 := by
  have len0 : st.length = 3 := h.len
  have h2 : TR ns (R3 xs 99 99) (st ++ [.lst (FR 99 99), .lst [.loc 3, .loc 2, .loc 2, .loc 2]]) := h.push [.lst (FR 99 99), .lst [.loc 3, .loc 2, .loc 2, .loc 2]]
  have W : Wl (R3 xs 99 99) xs 1 2 := ⟨rfl, rfl, by decide, by decide, by simp⟩
  obtain ⟨c, st1, a', b', g1, g2, g3, g4⟩ := cond_ok (ns := ns) (R := R3 xs 99 99) (f := 1) (w := 2) (a := 99) (b := 99) (k := k) W hx (by omega) h2
  have g4 : TR ns (R3 xs a' b') st1 := g4
  obtain ⟨n, st2, d1, d2, d3, d4⟩ := drawR (k := k + 11) (m := 11) g4 (by decide)
  have hr := rng_ok' (n := n) d3 (by omega) st2
  obtain ⟨e, s, m1, c', x3, x4, x5, m2, m3, m4, m5⟩ := forLoop_inv (put := MG.put (.nm 3)) (body := evSs (evCall TURNS D (k + 12)) TURNS b50_0) (xs := (List.range n.toNat).map fun (k : Nat) => .int k)
    (fun j env s => ∃ (c : PV) (x3 x4 x5 : Option PV), env = [some (.loc 1), some (.loc 2), some c, x3, x4, x5] ∧ TR ns (R3 xs a' b') s ∧ WC (9 + j) c ∧ pz c ≤ 18 + 2 * j) (fun j x env s hx' ⟨c, x3, x4, x5, e1, e2, e3, e4⟩ => by
      subst e1
      have hj : j < n.toNat := by
        have := (List.getElem?_eq_some_iff.mp hx').1
        simpa using this
      obtain ⟨c', x4', x5', st', q1, q2, q3, q4⟩ := great_turn (k := k + 11) (j := j) (x3 := some x) (x4 := x4) (x5 := x5) hx (by omega) e2 e3 e4
      refine ⟨[some (.loc 1), some (.loc 2), some c, some x, x4, x5], rfl, ?_⟩
      show SR.go (evSs (evCall TURNS D (k + 12)) TURNS b50_0 [some (.loc 1), some (.loc 2), some c, some x, x4, x5] s) _
      rw [q1]
      exact ⟨c', _, _, _, rfl, q2, q3, q4⟩) n.toNat 0 [some (.loc 1), some (.loc 2), some c, none, none, none] st2 (by simp) ⟨c, none, none, none, rfl, d2, g2, by omega⟩
  subst m2
  simp only [List.length_map, List.length_range] at m4 m5
  have low : Low ((R1 xs).length + 2) (R1 xs) := fun c hc => RS.low (xs := xs) (r := 0) (C := []) (fun c hc => nomatch hc) c (by simp at hc; simp [hc])
  obtain ⟨st6, v1, v2⟩ := TR.drop' (R' := R1 xs) (C := [.lst (FR a' b'), .lst [.loc 3, .loc 2, .loc 2, .loc 2]]) (v := c') h m3 rfl low m4.pure
  have pc := fun st => esc_p g2.pure st
  have vc := fun st => varV_p m4.pure st
  refine ⟨c', st6, ?_, v2, m4.mono (by omega), by omega⟩
  rw [len0] at v1
  have hh : ME.held (.var 2) [some (.loc 1), some (.loc 2), some c', x3, x4, x5] = none := by
    obtain ⟨w', x', e, _⟩ := m4.tup
    subst e; rfl
  rw [show k + 13 = (k + 12) + 1 by omega, evCall]
  simp [D, d50, evSs, evS, ev, evA, evCs, evSrc, Src.many, hh, len0, g1, d1, hr, m1, pc, vc, v1, sizeLine_eq, -List.map_map]
end K02

set_option maxHeartbeats 4000000
namespace K02.V
open PySem L2 U
variable {fs : List Str} {ns : List Int} {R : Store} {st : Store} {as ls gs : List Str} {f w A F Lb G m : Nat} {a b : Int} {qq : Int × Int × Int × Int}
/-! ### programs whose names are in order -/
def dcl : PV → List Str
  | .tup (.str k :: .str x :: _) => if k = "let" then [x] else []
  | _ => []
def dcls (b : List PV) : List Str := (b.map dcl).flatten
def VL (S : List Str → PV → Prop) : List Str → List PV → Prop
  | _, [] => True
  | fs, s :: r => S fs s ∧ VL S (fs ++ dcl s) r
theorem VL.snoc {S : List Str → PV → Prop} : ∀ {b : List PV} {fs : List Str} {s : PV}, VL S fs b → S (fs ++ dcls b) s → VL S fs (b ++ [s])
  | [], fs, s, _, h => ⟨by simpa [dcls] using h, trivial⟩
  | x :: b, fs, s, h, h2 => ⟨h.1, VL.snoc h.2 (by simpa [dcls, List.append_assoc] using h2)⟩
theorem dcls_snoc (b : List PV) (s : PV) : dcls (b ++ [s]) = dcls b ++ dcl s := by simp [dcls]
theorem VL.mem {S : List Str → PV → Prop} : ∀ {b : List PV} {fs : List Str}, VL S fs b → ∀ s ∈ b, ∃ fs', S fs' s
  | x :: b, fs, h, s, hs => by
    rcases List.mem_cons.mp hs with rfl | hs
    · exact ⟨fs, h.1⟩
    · exact h.2.mem s hs
theorem dcl_no {k : Str} {xs : List PV} (h : ¬ k = "let") : dcl (.tup (.str k :: xs)) = [] := by
  cases xs with
  | nil => rfl
  | cons x xs => cases x with
    | str y => show (if k = "let" then [y] else []) = []; rw [if_neg h]
    | _ => rfl
theorem dcl_let (x : Str) (v : Bool) : dcl (.tup [.str "let", .str x, .bl v]) = [x] := by
  show (if ("let" : Str) = "let" then [x] else []) = [x]
  rw [if_pos rfl]
inductive VH (P : List Str → Nat → List PV → Prop) (fs : List Str) (n : Nat) : PV → Prop
  | call {x : Str} (h : B 60 x) : VH P fs n (.tup [.str "call", .str x])
  | let_ {x : Str} {v : Bool} (h : B 60 x) : VH P fs n (.tup [.str "let", .str x, .bl v])
  | set {x : Str} {v : Bool} (h : x ∈ fs) : VH P fs n (.tup [.str "set", .str x, .bl v])
  | jump {w : Str} {l : PV} (hw : w = "break" ∨ w = "continue") (hl : (l = .non ∧ 0 < n) ∨ ∃ x : Str, B 60 x ∧ l = .str x) : VH P fs n (.tup [.str w, l])
  | ret {l : PV} (h : NUM l) : VH P fs n (.tup [.str "return", l])
  | block {b : List PV} (h : P fs n b) : VH P fs n (.tup [.str "block", .tup b])
  | for_ {l : PV} {b : List PV} (hl : LAB l) (h : P fs (n + 1) b) : VH P fs n (.tup [.str "for", l, .tup b])
  | try_ {a b : List PV} (h1 : P fs n a) (h2 : P fs n b) : VH P fs n (.tup [.str "try", .tup a, .tup b])
  | while_ {l c : PV} {b : List PV} (hl : LAB l) (hc : WC fs 9 c) (h : P fs (n + 1) b) : VH P fs n (.tup [.str "while", l, c, .tup b])
  | if_ {c : PV} {a b : List PV} (hc : WC fs 9 c) (h1 : P fs n a) (h2 : P fs n b) : VH P fs n (.tup [.str "if", c, .tup a, .tup b])
def VS : Nat → List Str → Nat → PV → Prop
  | 0 => VH fun _ _ b => b = []
  | d + 1 => VH fun fs n b => VL (fun fs s => VS d fs n s) fs b
def VB (d : Nat) (fs : List Str) (n : Nat) (b : List PV) : Prop := VL (fun fs s => VS d fs n s) fs b
theorem WC.z : ∀ {d : Nat} {v : PV}, WC fs d v → ZC d v := by
  have l : ∀ {v}, WF fs v → ZF v := fun h => by
    rcases h with ⟨x, hx, rfl⟩ | ⟨x, _, hx, rfl⟩
    · exact ⟨_, _, .inl rfl, rfl, by simp, rfl⟩
    · exact ⟨_, _, .inr rfl, rfl, by simp, rfl⟩
  intro d
  induction d with
  | zero => exact fun h => l h
  | succ d ih =>
    intro v h
    rcases h with h | ⟨c, e, h⟩ | ⟨k, cs, hk, e, h, ne⟩
    · exact .inl (l h)
    · exact .inr (.inl ⟨c, e, ih h⟩)
    · exact .inr (.inr ⟨k, cs, hk, e, fun c hc => ih (h c hc).1, ne⟩)
theorem VH.z {P : List Str → Nat → List PV → Prop} {P' : List PV → Prop} {n : Nat} {v : PV} (h : VH P fs n v) (i : ∀ fs n b, P fs n b → P' b) : ZH P' v := by
  have one : ∀ {x : PV}, PV.pure x = true → PV.pureL [x] = true := fun {x} h => by
    show (PV.pure x && true) = true
    rw [h]; rfl
  cases h with
  | call h => exact .simple (.inl rfl) rfl (by simp)
  | let_ h => exact .simple (.inr (.inl rfl)) rfl (by simp)
  | set h => exact .simple (.inr (.inr (.inl rfl))) rfl (by simp)
  | @jump w l hw hl =>
    have h : LAB l := by
      rcases hl with ⟨e, _⟩ | ⟨x, hx, e⟩
      · exact .inl e
      · exact .inr ⟨x, e, hx⟩
    rcases hw with rfl | rfl
    · exact .simple (.inr (.inr (.inr (.inl rfl)))) (one h.pure) (by rw [pzL_cons, pzL_nil, h.pz])
    · exact .simple (.inr (.inr (.inr (.inr (.inl rfl))))) (one h.pure) (by rw [pzL_cons, pzL_nil, h.pz])
  | ret h => exact .simple (.inr (.inr (.inr (.inr (.inr (.inl rfl)))))) (one h.pure) (by rw [pzL_cons, pzL_nil, h.pz])
  | block h => exact .block (i _ _ _ h)
  | for_ hl h => exact .for_ hl.pure hl.pz (i _ _ _ h)
  | try_ h1 h2 => exact .try_ (i _ _ _ h1) (i _ _ _ h2)
  | while_ hl hc h => exact .while_ hl.pure hl.pz (hc.z.mono (by omega)) (i _ _ _ h)
  | if_ hc h1 h2 => exact .if_ (hc.z.mono (by omega)) (i _ _ _ h1) (i _ _ _ h2)
theorem VS.z : ∀ {d : Nat} {fs : List Str} {n : Nat} {v : PV}, VS d fs n v → ZS (d + 1) v := by
  intro d
  induction d with
  | zero => exact fun h => VH.z h fun _ _ b e s hs => by rw [e] at hs; nomatch hs
  | succ d ih =>
    exact fun h => VH.z h fun fs n b hb s hs => by
      obtain ⟨fs', h'⟩ := hb.mem s hs
      exact ih h'
theorem VB.z {d n : Nat} {b : List PV} (h : VB d fs n b) : ∀ s ∈ b, ZS (d + 1) s := fun s hs => by
  obtain ⟨fs', h'⟩ := VL.mem h s hs
  exact h'.z
theorem vz_b {d n : Nat} {b : List PV} (h : VB d fs n b) : pz (.tup b) = pzL b := zz_b h.z
theorem VB.pure {d n : Nat} {b : List PV} (h : VB d fs n b) : PV.pureL b = true := pureL_of fun s hs => (h.z s hs).pure
/-! ### the store -/
def Ag (S : List Nat) (R R2 : Store) : Prop := R2.length = R.length ∧ ∀ i, i ∉ S → R2[i]? = R[i]?
theorem Ag.refl (S : List Nat) (R : Store) : Ag S R R := ⟨rfl, fun _ _ => rfl⟩
theorem Ag.trans {S : List Nat} {R1 R2 R3 : Store} (h : Ag S R1 R2) (h' : Ag S R2 R3) : Ag S R1 R3 := ⟨by rw [h'.1, h.1], fun i hi => by rw [h'.2 i hi, h.2 i hi]⟩
theorem Ag.mono {S S' : List Nat} {R1 R2 : Store} (h : Ag S R1 R2) (hs : ∀ i ∈ S, i ∈ S') : Ag S' R1 R2 := ⟨h.1, fun i hi => h.2 i fun z => hi (hs i z)⟩
theorem Ag.set (R : Store) (i : Nat) (c : Cell) : Ag [i] R (R.set i c) := ⟨by simp, fun j hj => by rw [List.getElem?_set_ne]; intro e; exact hj (by simp [e])⟩
theorem Ag.take {S : List Nat} {R X R4 : Store} (g : Ag S (R ++ X) R4) : Ag S R (R4.take R.length) := by
  have hl := g.1
  rw [List.length_append] at hl
  refine ⟨by rw [List.length_take]; omega, fun i hi => ?_⟩
  by_cases h : i < R.length
  · rw [List.getElem?_take_of_lt h, g.2 i hi, List.getElem?_append_left h]
  · rw [List.getElem?_eq_none (by rw [List.length_take]; omega), List.getElem?_eq_none (by omega)]
theorem take_at {R4 : Store} {n i : Nat} (h : i < n) : (R4.take n)[i]? = R4[i]? := List.getElem?_take_of_lt h
theorem at_lt {R : Store} {i : Nat} {c : Cell} (h : R[i]? = some c) : i < R.length := (List.getElem?_eq_some_iff.mp h).1
theorem Low.ag {n : Nat} {S : List Nat} {R R2 : Store} (lo : Low n R) (g : Ag S R R2) (h : ∀ i ∈ S, ∀ c, R2[i]? = some c → Cell.low n c = true) : Low n R2 := fun c hc => by
  obtain ⟨i, hi⟩ := List.mem_iff_getElem?.mp hc
  by_cases hs : i ∈ S
  · exact h i hs c hi
  · rw [g.2 i hs] at hi
    exact lo c (List.mem_of_getElem? hi)
theorem low_fr (n : Nat) (qq : Int × Int × Int × Int) (a b : Int) : Cell.low n (.lst (FR qq a b)) = true := rfl
theorem low_strs (n : Nat) (l : List Str) : Cell.low n (.lst (l.map .str)) = true := by
  induction l with
  | nil => rfl
  | cons x l ih => exact ih
theorem TR.cut (h : TR ns R st) {R1 st1 : Store} (h' : TR ns R1 st1) (hl : R.length ≤ R1.length) (lo : Low (R.length + 2) (R1.take R.length)) {v : PV} (hv : PV.pure v = true) : ∃ st2, U.leave st.length v st1 = .ok v st2 ∧ TR ns (R1.take R.length) st2 :=
  TR.drop' (R' := R1.take R.length) (C := R1.drop R.length) h (by rw [List.take_append_drop]; exact h') (by rw [List.length_take]; omega) lo hv
structure VW (R : Store) (as ls gs : List Str) (f A Lb G w m : Nat) (qq : Int × Int × Int × Int) (a b : Int) : Prop where
  hf : R[f]? = some (.lst (FR qq a b))
  hA : R[A]? = some (.lst (as.map .str))
  hL : R[Lb]? = some (.lst (ls.map .str))
  hG : R[G]? = some (.lst (gs.map .str))
  hw : R[w]? = some (.lst [.loc (f + 2), .loc (A + 2), .loc (Lb + 2), .loc (G + 2)])
  lt : f < m ∧ A < m ∧ Lb < m ∧ G < m ∧ w < m
  ne : f ≠ A ∧ f ≠ Lb ∧ f ≠ G ∧ f ≠ w
  ml : m ≤ R.length
  low : Low (R.length + 2) R
theorem VW.ag (W : VW R as ls gs f A Lb G w m qq a b) {S : List Nat} {R2 : Store} {qq' : Int × Int × Int × Int} {a' b' : Int} (g : Ag S R R2) (hS : ∀ i ∈ S, i = f ∨ m ≤ i) (h : R2[f]? = some (.lst (FR qq' a' b'))) (lo : Low (R2.length + 2) R2) : VW R2 as ls gs f A Lb G w m qq' a' b' := by
  obtain ⟨l1, l2, l3, l4, l5⟩ := W.lt
  obtain ⟨n1, n2, n3, n4⟩ := W.ne
  have k : ∀ i, i < m → i ≠ f → i ∉ S := fun i h1 h2 h3 => by
    rcases hS i h3 with h | h
    · exact h2 h
    · omega
  exact ⟨h, by rw [g.2 A (k A l2 n1.symm)]; exact W.hA, by rw [g.2 Lb (k Lb l3 n2.symm)]; exact W.hL, by rw [g.2 G (k G l4 n3.symm)]; exact W.hG, by rw [g.2 w (k w l5 n4.symm)]; exact W.hw, W.lt, W.ne, by rw [g.1]; exact W.ml, lo⟩
theorem VW.agf (W : VW R as ls gs f A Lb G w m qq a b) {R2 : Store} {qq' : Int × Int × Int × Int} {a' b' : Int} (g : Ag [f] R R2) (h : R2[f]? = some (.lst (FR qq' a' b'))) : VW R2 as ls gs f A Lb G w m qq' a' b' :=
  W.ag g (fun i hi => .inl (List.mem_singleton.mp hi)) h (by
    rw [g.1]
    exact Low.ag W.low g fun i hi c hc => by
      rw [List.mem_singleton.mp hi, h] at hc
      rw [← Option.some.inj hc]; rfl)
theorem VW.put (W : VW R as ls gs f A Lb G w m qq a b) (qq' : Int × Int × Int × Int) (a' b' : Int) : VW (R.set f (.lst (FR qq' a' b'))) as ls gs f A Lb G w m qq' a' b' :=
  W.agf (Ag.set R f _) (List.getElem?_set_self (at_lt W.hf))
theorem VW.push (W : VW R as ls gs f A Lb G w m qq a b) {X : Store} (hX : Low (R.length + 2 + X.length) X) : VW (R ++ X) as ls gs f A Lb G w m qq a b := by
  obtain ⟨l1, l2, l3, l4, l5⟩ := W.lt
  have ml := W.ml
  have p : ∀ i, i < m → (R ++ X)[i]? = R[i]? := fun i h => List.getElem?_append_left (by omega)
  exact ⟨by rw [p f l1]; exact W.hf, by rw [p A l2]; exact W.hA, by rw [p Lb l3]; exact W.hL, by rw [p G l4]; exact W.hG, by rw [p w l5]; exact W.hw, W.lt, W.ne, by rw [List.length_append]; omega, fun c hc => by
    rw [List.length_append]
    rcases List.mem_append.mp hc with hc | hc
    · exact W.low.mono (by omega) c hc
    · rw [show R.length + X.length + 2 = R.length + 2 + X.length by omega]
      exact hX c hc⟩
theorem set_same {R : Store} {i : Nat} {c : Cell} (h : R[i]? = some c) : R.set i c = R := by
  apply List.ext_getElem?
  intro j
  by_cases e : i = j
  · subst e
    rw [List.getElem?_set_self (at_lt h), h]
  · rw [List.getElem?_set_ne e]
theorem VW.wl (W : VW R as ls gs f A Lb G w m qq a b) (hF : R[F]? = some (.lst (fs.map .str))) (mF : m ≤ F) : Wl R as fs f w A F Lb G :=
  ⟨W.hA, hF, W.hw, W.ne.1, by have := W.lt.1; omega, W.ne.2.2.2, at_lt W.hf⟩
theorem call_rt {k f : Nat} {d : Def} {args : List PV} {v : PV} {st s : Store} {env0 : En} (hd : D f = some d) (hn : args.length = d.np) (hf : args.any PV.isFl = false) (he : args.map some ++ List.replicate (d.nl - d.np) none = env0)
    (h : evSs (evCall TURNS D k) TURNS d.body env0 st = .rt v s) : evCall TURNS D (k + 1) f args st = U.leave st.length v s := by
  rw [evCall, hd]
  simp only [he, h]
  rw [if_pos ⟨hn, hf⟩]
def NFB (fs : List Str) (qq : Int × Int × Int × Int) : Prop := (∀ x ∈ fs, B 60 x) ∧ (fs.length : Int) + max qq.2.2.1 0 ≤ 20
theorem NFB.nf (h : NFB fs qq) : NF fs := ⟨by have := h.2; omega, h.1⟩
theorem NFB.le (h : NFB fs qq) {q2 : Int × Int × Int × Int} (l : q2.2.2.1 ≤ qq.2.2.1) : NFB fs q2 := ⟨h.1, by have := h.2; omega⟩
end K02.V

set_option maxHeartbeats 4000000
namespace K02.V
open PySem L2 U
variable {fs : List Str} {ns : List Int} {R : Store} {st : Store} {as ls gs : List Str} {f w A F Lb G m : Nat} {a b : Int} {qq : Int × Int × Int × Int}
theorem VW.cf (W : VW R as ls gs f A Lb G w m qq a b) (h : TR ns R st) : st[f + 2]? = some (.lst (FR qq a b)) := by rw [TR.at h]; exact W.hf
theorem VW.cw (W : VW R as ls gs f A Lb G w m qq a b) (h : TR ns R st) : st[w + 2]? = some (.lst [.loc (f + 2), .loc (A + 2), .loc (Lb + 2), .loc (G + 2)]) := by rw [TR.at h]; exact W.hw
theorem VW.cL (W : VW R as ls gs f A Lb G w m qq a b) (h : TR ns R st) : st[Lb + 2]? = some (.lst (ls.map .str)) := by rw [TR.at h]; exact W.hL
theorem VW.cA (W : VW R as ls gs f A Lb G w m qq a b) (h : TR ns R st) : st[A + 2]? = some (.lst (as.map .str)) := by rw [TR.at h]; exact W.hA
theorem VW.cG (W : VW R as ls gs f A Lb G w m qq a b) (h : TR ns R st) : st[G + 2]? = some (.lst (gs.map .str)) := by rw [TR.at h]; exact W.hG
theorem stop_ok {k n : Nat} (W : VW R as ls gs f A Lb G w m qq a b) (hls : NM ls) (h : TR ns R st) :
    ∃ v st', evCall TURNS D (k + 2) 22 [.loc 1, .loc (w + 2), .int n] st = .ok v st' ∧ TR ns R st' ∧ (∀ P fs, VH P fs n v) ∧ pz v = 1 ∧ dcl v = [] := by
  obtain ⟨q1, st1, a1, a2, a3, a4⟩ := drawR (k := k) (m := 5) h (by decide)
  have fin : ∀ {st'}, TR ns R st' → ∀ v, U.leave st.length v st' = .ok v st' := fun c v => leave_same (by rw [c.len, h.len]; omega)
  rw [show k + 2 = (k + 1) + 1 from rfl, evCall]
  by_cases h0 : q1 = 0
  · subst h0
    obtain ⟨q2, st2, b1, b2, b3, b4⟩ := drawR (k := k) (m := 100) a2 (by decide)
    obtain ⟨q3, st3, c1, c2, c3, c4⟩ := drawR (k := k) (m := 6) b2 (by decide)
    have nm : ∃ nv, atI [PV.non, .int 0, .int 9, .int 10, .int 99, .int q2] q3 = some nv ∧ NUM nv := by
      obtain ⟨y, hy, e3⟩ := pick (xs := [PV.non, .int 0, .int 9, .int 10, .int 99, .int q2]) (i := q3) c3 (by simpa using c4)
      simp only [List.mem_cons, List.not_mem_nil, or_false] at hy
      rcases hy with rfl | rfl | rfl | rfl | rfl | rfl
      · exact ⟨_, e3, .inl rfl⟩
      · exact ⟨_, e3, .inr ⟨_, rfl, by omega, by omega⟩⟩
      · exact ⟨_, e3, .inr ⟨_, rfl, by omega, by omega⟩⟩
      · exact ⟨_, e3, .inr ⟨_, rfl, by omega, by omega⟩⟩
      · exact ⟨_, e3, .inr ⟨_, rfl, by omega, by omega⟩⟩
      · exact ⟨_, e3, .inr ⟨_, rfl, by omega, by omega⟩⟩
    obtain ⟨nv, n1, n2⟩ := nm
    have en := fun st => esc_p n2.pure st
    refine ⟨.tup [.str "return", nv], st3, ?_, c2, fun P fs => .ret n2, by rw [pz_node, pzL_cons, pzL_nil, n2.pz], dcl_no (by simp)⟩
    simp [D, d22, evSs, evS, ev, evA, evCs, ME.held, a1, b1, c1, n1, en, sizeLine_eq, fin c2]
  · have iw := ix_loc (k := 2) (W.cw a2)
    rw [atI_2] at iw
    have bl := bi_len_loc (W.cL a2)
    rw [List.length_map] at bl
    obtain ⟨q2, st2, x, b1, b2, b3, b4, _⟩ := nameR (k := k) a2 hls
    have ix := ix_loc (k := q2) (W.cL b2)
    rw [b3] at ix
    have wd : ∃ wd : Str, atI [PV.str "break", .str "continue"] (q1 / 3) = some (.str wd) ∧ (wd = "break" ∨ wd = "continue") := pickS (Int.ediv_nonneg a3 (by omega)) (by simp; omega) (fun x hx => by
      simp only [List.mem_cons, List.not_mem_nil, or_false] at hx
      rcases hx with rfl | rfl <;> exact ⟨_, rfl, by simp⟩)
    obtain ⟨wd, w1, w2⟩ := wd
    have fd : ∀ st, binV .fdiv (.int q1) (.int 3) st = some (.int (q1 / 3)) := fun st => bin_fdiv_int (by decide)
    have nl : ∀ l : PV, ¬ wd = "let" := fun _ e => by rcases w2 with rfl | rfl <;> simp at e
    by_cases hn : 0 < n
    · obtain ⟨q3, st3, c1, c2, c3, c4⟩ := drawR (k := k) (m := 2) b2 (by decide)
      by_cases h3 : q3 = 0
      · subst h3
        refine ⟨.tup [.str wd, .non], st3, ?_, c2, fun P fs => .jump w2 (.inl ⟨rfl, hn⟩), by simp, dcl_no (nl .non)⟩
        simp [D, d22, evSs, evS, ev, evA, evCs, ME.held, a1, h0, iw, bl, b1, ix, hn, c1, fd, w1, sizeLine_eq, fin c2]
      · refine ⟨.tup [.str wd, .str x], st3, ?_, c2, fun P fs => .jump w2 (.inr ⟨x, b4, rfl⟩), by simp, dcl_no (nl .non)⟩
        simp [D, d22, evSs, evS, ev, evA, evCs, ME.held, a1, h0, iw, bl, b1, ix, hn, c1, h3, fd, w1, sizeLine_eq, fin c2]
    · refine ⟨.tup [.str wd, .str x], st2, ?_, b2, fun P fs => .jump w2 (.inr ⟨x, b4, rfl⟩), by simp, dcl_no (nl .non)⟩
      simp [D, d22, evSs, evS, ev, evA, evCs, ME.held, a1, h0, iw, bl, b1, ix, hn, fd, w1, sizeLine_eq, fin b2]
def BodyOk (ns : List Int) (as ls gs : List Str) (f A Lb G w m d : Nat) : Prop := ∀ (k : Nat) (R st : Store) (fs : List Str) (F n : Nat) (last : Bool) (dI : Int) (qq : Int × Int × Int × Int) (a b : Int), dI = d → TR ns R st → VW R as ls gs f A Lb G w m qq a b → R[F]? = some (.lst (fs.map .str)) → m ≤ F → NFB fs qq → 0 ≤ qq.1 →
  ∃ (body : List PV) (R' st' : Store) (qq' : Int × Int × Int × Int) (a' b' : Int), evCall TURNS D (k + 3 * d + 18) 25 [.loc 1, .loc (w + 2), .loc (F + 2), .int n, .bl last, .int dI] st = .ok (.tup body) st' ∧ TR ns R' st' ∧ Ag [f] R R' ∧ R'[f]? = some (.lst (FR qq' a' b')) ∧
    VB d fs n body ∧ 0 ≤ qq'.1 ∧ qq'.1 ≤ qq.1 ∧ qq'.2.2.1 ≤ qq.2.2.1 ∧ (pzL body : Int) ≤ 20 * (qq.1 - qq'.1)
theorem ag_lt {R' : Store} {S : List Nat} (g : Ag S R R') (h : TR ns R st) {st' : Store} (h' : TR ns R' st') (v : PV) : U.leave st.length v st' = .ok v st' := leave_same (by rw [h.len, h'.len, g.1]; omega)
theorem nest_ok {k e n : Nat} {last : Bool} {dI : Int} (ih : BodyOk ns as ls gs f A Lb G w m e) (hA : NM as) (hL : NM ls) (hd : dI = (e : Int) + 1) (h : TR ns R st) (W : VW R as ls gs f A Lb G w m qq a b) (hF : R[F]? = some (.lst (fs.map .str))) (mF : m ≤ F) (hn : NFB fs qq) (h0 : 0 ≤ qq.1) :
    ∃ (v : PV) (R' st' : Store) (qq' : Int × Int × Int × Int) (a' b' : Int), evCall TURNS D (k + 3 * e + 19) 23 [.loc 1, .loc (w + 2), .loc (F + 2), .int n, .bl last, .int dI] st = .ok v st' ∧ TR ns R' st' ∧ Ag [f] R R' ∧ R'[f]? = some (.lst (FR qq' a' b')) ∧
    VS (e + 1) fs n v ∧ dcl v = [] ∧ 0 ≤ qq'.1 ∧ qq'.1 ≤ qq.1 ∧ qq'.2.2.1 ≤ qq.2.2.1 ∧ (pz v : Int) ≤ 20 + 20 * (qq.1 - qq'.1) := by
  have hd1 : dI - 1 = (e : Int) := by omega
  obtain ⟨ch, st1, a1, a2, a3, a4⟩ := drawR (k := k + 3 * e + 17) (m := 8) h (by decide)
  rw [show k + 3 * e + 17 + 1 = k + 3 * e + 18 by omega] at a1
  have fF : ∀ {i : Nat}, i ∈ [f] → i ≠ F := fun hi => by rw [List.mem_singleton.mp hi]; have := W.lt.1; omega
  have keepF : ∀ {R' : Store}, Ag [f] R R' → R'[F]? = some (.lst (fs.map .str)) := fun g => by rw [g.2 F (fun z => fF z rfl)]; exact hF
  have iw := ix_loc (k := 0) (W.cw h)
  rw [atI_0] at iw
  have i4 := ix_loc (k := 4) (W.cf a2)
  rw [show atI (FR qq a b) 4 = some (.int qq.2.2.2) from rfl] at i4
  have i1 := ix_loc (k := 1) (W.cf a2)
  rw [atI_1] at i1
  -- the steps
  generalize hc : evCall TURNS D (k + 3 * e + 18) = call at *
  have e1 : ∀ env : En, env[1]? = some (some (.loc (w + 2))) → ev call (.ix (.var 1) (.con (.int 0))) .val env st = .ok (.loc (f + 2)) st := fun env h1 => by simp [ev, h1, iw]
  have e2 : ∀ env : En, env[0]? = some (some (.loc 1)) → ev call (.fn 5 (.cons (.var 0) (.cons (.con (.int 8)) .nil))) .val env st = .ok (.int ch) st1 := fun env h1 => by simp [ev, evA, h1, a1]
  have T : ∀ env : En, env[4]? = some (some (.bl last)) → env[6]? = some (some (.loc (f + 2))) → env[7]? = some (some (.int ch)) →
      ev call (.and (.cmp .lt (.var 7) (.con (.int 2))) (.and (.cmp .gt (.ix (.var 6) (.con (.int 4))) (.con (.int 0))) (.not (.var 4)))) .test env st1 = .ok (.bl (decide (ch < 2) && (decide (0 < qq.2.2.2) && !last))) st1 := fun env h4 h6 h7 => by
    by_cases k2 : ch < 2
    · by_cases k4 : 0 < qq.2.2.2 <;> simp [ev, h4, h6, h7, i4, k2, k4]
    · simp [ev, h7, k2]
  have ed : ∀ (env : En) (s : Store), env[5]? = some (some (.int dI)) → ev call (.bin .sub (.var 5) (.con (.int 1))) .val env s = .ok (.int (dI - 1)) s := fun env s h5 => by simp [ev, h5]
  have hd23 : D 23 = some d23 := rfl
  have start : ∀ {v : PV} {s : Store}, evSs call TURNS d23.body [some (.loc 1), some (.loc (w + 2)), some (.loc (F + 2)), some (.int n), some (.bl last), some (.int dI), none, none, none, none, none, none] st = .rt v s →
      evCall TURNS D (k + 3 * e + 19) 23 [.loc 1, .loc (w + 2), .loc (F + 2), .int n, .bl last, .int dI] st = U.leave st.length v s := fun hh => by
    rw [← hc] at hh
    exact call_rt (k := k + 3 * e + 18) hd23 rfl rfl rfl hh
  by_cases hT : (decide (ch < 2) && (decide (0 < qq.2.2.2) && !last)) = true
  · -- try
    have W2 := W.put (qq.1, qq.2.1, qq.2.2.1, qq.2.2.2 - 1) a b
    have t2 : TR ns (R.set f (.lst (FR (qq.1, qq.2.1, qq.2.2.1, qq.2.2.2 - 1) a b))) (setAt st1 (f + 2) (FR (qq.1, qq.2.1, qq.2.2.1, qq.2.2.2 - 1) a b)) := TR.set a2 f _
    have g2 := Ag.set R f (.lst (FR (qq.1, qq.2.1, qq.2.2.1, qq.2.2.2 - 1) a b))
    obtain ⟨b1, R3, st3, q3, a3', b3', c1, c2, c3, c4, c5, c6, c7, c8, c9⟩ := ih k _ _ fs F n last (dI - 1) _ a b hd1 t2 W2 (keepF g2) mF (hn.le (by show qq.2.2.1 ≤ qq.2.2.1; omega)) h0
    have W3 := W2.agf c3 c4
    obtain ⟨b2, R4, st4, q4, a4', b4', d1, d2, d3, d4, d5, d6, d7, d8, d9⟩ := ih k _ _ fs F n true (dI - 1) _ _ _ hd1 c2 W3 (keepF (g2.trans c3)) mF (hn.le (by show q3.2.2.1 ≤ qq.2.2.1; exact c8)) c6
    rw [show k + 3 * e + 18 = k + 3 * e + 18 from rfl, hc] at c1 d1
    have gg := (g2.trans c3).trans d3
    have c7 : q3.1 ≤ qq.1 := c7
    have c8 : q3.2.2.1 ≤ qq.2.2.1 := c8
    have c9 : (pzL b1 : Int) ≤ 20 * (qq.1 - q3.1) := c9
    have vs : VS (e + 1) fs n (.tup [.str "try", .tup b1, .tup b2]) := VH.try_ c5 d5
    refine ⟨.tup [.str "try", .tup b1, .tup b2], R4, st4, q4, a4', b4', ?_, d2, gg, d4, vs, dcl_no (by simp), d6, by omega, by omega, by rw [pz_node, pzL_cons, pzL_cons, pzL_nil, vz_b c5, vz_b d5]; omega⟩
    rw [start (v := .tup [.str "try", .tup b1, .tup b2]) (s := st4), ag_lt gg h d2]
    have jf := W.cf a2
    have e4 : ixN 6 4 = some 4 := rfl
    unfold d23
    simp only [evSs, evS, e1, e2, T, hT, to_ok_, then_nx_, if_true, if_false, List.set_cons_succ, List.set_cons_zero, isBl_bl_, List.getElem?_cons_succ, List.getElem?_cons_zero]
    simp [ev, evA, evS, evSs, ME.held, i4, jf, e4, c1, d1, sizeLine_eq]
  · have hT : (decide (ch < 2) && (decide (0 < qq.2.2.2) && !last)) = false := by simpa using hT
    by_cases k2 : ch = 2
    · obtain ⟨b1, R3, st3, q3, a3', b3', c1, c2, c3, c4, c5, c6, c7, c8, c9⟩ := ih k _ _ fs F n last (dI - 1) _ a b hd1 a2 W hF mF hn h0
      rw [hc] at c1
      have vs : VS (e + 1) fs n (.tup [.str "block", .tup b1]) := VH.block c5
      refine ⟨.tup [.str "block", .tup b1], R3, st3, q3, a3', b3', ?_, c2, c3, c4, vs, dcl_no (by simp), c6, c7, c8, by rw [pz_node, pzL_cons, pzL_nil, vz_b c5]; omega⟩
      rw [start (v := .tup [.str "block", .tup b1]) (s := st3), ag_lt c3 h c2]
      unfold d23
      simp only [evSs, evS, e1, e2, T, hT, to_ok_, then_nx_, if_true, if_false, List.set_cons_succ, List.set_cons_zero, isBl_bl_, List.getElem?_cons_succ, List.getElem?_cons_zero]
      simp [ev, evA, evS, evSs, ME.held, k2, c1, sizeLine_eq]
    -- the label
    have iL := ix_loc (k := 2) (W.cw a2)
    rw [atI_2] at iL
    have bl := bi_len_loc (W.cL a2)
    rw [List.length_map] at bl
    obtain ⟨q2, st2, x, b1, b2, b3, b4, _⟩ := nameR (k := k + 3 * e + 17) a2 hL
    have ixl := ix_loc (k := q2) (W.cL b2)
    rw [b3] at ixl
    obtain ⟨q3, st3, c1, c2, c3, c4⟩ := drawR (k := k + 3 * e + 17) (m := 3) b2 (by decide)
    rw [show k + 3 * e + 17 + 1 = k + 3 * e + 18 by omega, hc] at b1 c1
    have lb : ∃ l, atI [PV.non, .non, .str x] q3 = some l ∧ LAB l := by
      obtain ⟨y, hy, e⟩ := pick (xs := [PV.non, .non, .str x]) (i := q3) c3 (by simpa using c4)
      simp only [List.mem_cons, List.not_mem_nil, or_false] at hy
      rcases hy with rfl | rfl | rfl
      · exact ⟨_, e, .inl rfl⟩
      · exact ⟨_, e, .inl rfl⟩
      · exact ⟨_, e, .inr ⟨_, rfl, b4⟩⟩
    obtain ⟨l, l1, lB⟩ := lb
    have L5 : ∀ env : En, env[0]? = some (some (.loc 1)) → env[1]? = some (some (.loc (w + 2))) →
        ev call (.ix (.lst (.cons (.con .non) (.cons (.con .non) (.cons (.ix (.ix (.var 1) (.con (.int 2))) (.fn 5 (.cons (.var 0) (.cons (.bi .len (.cons (.ix (.var 1) (.con (.int 2))) .nil)) .nil)))) .nil)))) (.fn 5 (.cons (.var 0) (.cons (.con (.int 3)) .nil)))) .val env st1 = .ok l st3 := fun env h0 h1 => by
      simp [ev, evA, evCs, h0, h1, iL, bl, b1, ixl, c1, l1, sizeLine_eq]
    have C4 : ∀ env : En, env[7]? = some (some (.int ch)) → ev call (.cmp .eq (.var 7) (.con (.int 2))) .test env st1 = .ok (.bl false) st1 := fun env h7 => by simp [ev, h7, k2]
    have el := esc_p lB.pure st3
    have vl := fun st => varV_p lB.pure st
    have elx := fun st => esc_p lB.pure st
    have tF := truth_loc (n := F + 2) (st := st3) (ys := fs.map .str) (by rw [TR.at c2]; exact hF)
    have i13 := ix_loc (k := 1) (W.cf c2)
    rw [atI_1] at i13
    generalize hE : (fs.map PV.str).isEmpty = em at tF
    have T2 : ∀ env : En, env[2]? = some (some (.loc (F + 2))) → env[6]? = some (some (.loc (f + 2))) → env[7]? = some (some (.int ch)) →
        ev call (.or (.cmp .eq (.var 7) (.con (.int 3))) (.and (.cmp .eq (.ix (.var 6) (.con (.int 1))) (.con (.int 0))) (.not (.var 2)))) .test env st3 = .ok (.bl (decide (ch = 3) || (decide (a = 0) && em))) st3 := fun env h2 h6 h7 => by
      by_cases k3 : ch = 3
      · simp [ev, h7, k3]
      · by_cases k0 : a = 0 <;> simp [ev, h2, h6, h7, i13, k3, k0, tF]
    by_cases hT2 : (decide (ch = 3) || (decide (a = 0) && em)) = true
    · obtain ⟨b1', R4, st4, q4, a4', b4', d1, d2, d3, d4, d5, d6, d7, d8, d9⟩ := ih k _ _ fs F (n + 1) last (dI - 1) _ a b hd1 c2 W hF mF hn h0
      rw [hc, show ((n + 1 : Nat) : Int) = (n : Int) + 1 by omega] at d1
      have vs : VS (e + 1) fs n (.tup [.str "for", l, .tup b1']) := VH.for_ lB d5
      refine ⟨.tup [.str "for", l, .tup b1'], R4, st4, q4, a4', b4', ?_, d2, d3, d4, vs, dcl_no (by simp), d6, d7, d8, by rw [pz_node, pzL_cons, pzL_cons, pzL_nil, vz_b d5, lB.pz]; omega⟩
      rw [start (v := .tup [.str "for", l, .tup b1']) (s := st4), ag_lt d3 h d2]
      unfold d23
      simp only [evSs, evS, e1, e2, T, hT, C4, L5, T2, hT2, el, to_ok_, then_nx_, if_true, if_false, Bool.false_eq_true, List.set_cons_succ, List.set_cons_zero, isBl_bl_, List.getElem?_cons_succ, List.getElem?_cons_zero]
      simp [ev, evA, evS, evSs, ME.held, d1, sizeLine_eq, vl, elx]
    have hT2 : (decide (ch = 3) || (decide (a = 0) && em)) = false := by simpa using hT2
    -- the condition
    have wl := W.wl hF mF
    obtain ⟨c, st4, a5, b5, g1, g2, g3, g4⟩ := cond_ok (k := k + 3 * e + 6) (ns := ns) (st := st3) wl hA hn.nf (by show TR ns _ _; rw [set_same W.hf]; exact c2)
    rw [show k + 3 * e + 6 + 12 = k + 3 * e + 18 by omega, hc] at g1
    have g4 : TR ns (R.set f (.lst (FR qq a5 b5))) st4 := g4
    have W4 := W.put qq a5 b5
    have ga := Ag.set R f (.lst (FR qq a5 b5))
    have ec := fun st => esc_p g2.pure st
    have vc := fun st => varV_p g2.pure st
    have C7 : ∀ env : En, env[0]? = some (some (.loc 1)) → env[1]? = some (some (.loc (w + 2))) → env[2]? = some (some (.loc (F + 2))) → ev call (.fn 21 (.cons (.var 0) (.cons (.var 1) (.cons (.var 2) .nil)))) .val env st3 = .ok c st4 := fun env h0 h1 h2 => by simp [ev, evA, h0, h1, h2, g1]
    by_cases k6 : ch < 6
    · obtain ⟨b1', R5, st5, q5, a5', b5', d1, d2, d3, d4, d5, d6, d7, d8, d9⟩ := ih k _ _ fs F n last (dI - 1) _ _ _ hd1 g4 W4 (keepF ga) mF hn h0
      rw [hc] at d1
      obtain ⟨q6, st6, u1, u2, u3, u4⟩ := drawR (k := k + 3 * e + 17) (m := 2) d2 (by decide)
      rw [show k + 3 * e + 17 + 1 = k + 3 * e + 18 by omega, hc] at u1
      have W5 := W4.agf d3 d4
      by_cases k0 : q6 = 0
      · subst k0
        obtain ⟨b2', R7, st7, q7, a7', b7', y1, y2, y3, y4, y5, y6, y7, y8, y9⟩ := ih k _ _ fs F n last (dI - 1) _ _ _ hd1 u2 W5 (keepF (ga.trans d3)) mF (hn.le d8) d6
        rw [hc] at y1
        have gg := (ga.trans d3).trans y3
        have vs : VS (e + 1) fs n (.tup [.str "if", c, .tup b1', .tup b2']) := VH.if_ g2 d5 y5
        refine ⟨.tup [.str "if", c, .tup b1', .tup b2'], R7, st7, q7, a7', b7', ?_, y2, gg, y4, vs, dcl_no (by simp), y6, by omega, by omega, by rw [pz_node, pzL_cons, pzL_cons, pzL_cons, pzL_nil, vz_b d5, vz_b y5]; omega⟩
        rw [start (v := .tup [.str "if", c, .tup b1', .tup b2']) (s := st7), ag_lt gg h y2]
        unfold d23
        simp only [evSs, evS, e1, e2, T, hT, C4, L5, T2, hT2, C7, el, ec, to_ok_, then_nx_, if_true, if_false, Bool.false_eq_true, List.set_cons_succ, List.set_cons_zero, isBl_bl_, List.getElem?_cons_succ, List.getElem?_cons_zero]
        simp [ev, evA, evS, evSs, ME.held, k6, d1, u1, y1, sizeLine_eq, vc, ec]
      · have vs : VS (e + 1) fs n (.tup [.str "if", c, .tup b1', .tup []]) := VH.if_ g2 d5 trivial
        refine ⟨.tup [.str "if", c, .tup b1', .tup []], R5, st6, q5, a5', b5', ?_, u2, ga.trans d3, d4, vs, dcl_no (by simp), d6, d7, d8, by rw [pz_node, pzL_cons, pzL_cons, pzL_cons, pzL_nil, vz_b d5, show pz (.tup []) = 0 by simp [pz, pzT]]; omega⟩
        rw [start (v := .tup [.str "if", c, .tup b1', .tup []]) (s := st6), ag_lt (ga.trans d3) h u2]
        unfold d23
        simp only [evSs, evS, e1, e2, T, hT, C4, L5, T2, hT2, C7, el, ec, to_ok_, then_nx_, if_true, if_false, Bool.false_eq_true, List.set_cons_succ, List.set_cons_zero, isBl_bl_, List.getElem?_cons_succ, List.getElem?_cons_zero]
        simp [ev, evA, evS, evSs, ME.held, k6, d1, u1, k0, sizeLine_eq, vc, ec]
    · obtain ⟨b1', R5, st5, q5, a5', b5', d1, d2, d3, d4, d5, d6, d7, d8, d9⟩ := ih k _ _ fs F (n + 1) last (dI - 1) _ _ _ hd1 g4 W4 (keepF ga) mF hn h0
      rw [hc, show ((n + 1 : Nat) : Int) = (n : Int) + 1 by omega] at d1
      have vs : VS (e + 1) fs n (.tup [.str "while", l, c, .tup b1']) := VH.while_ lB g2 d5
      refine ⟨.tup [.str "while", l, c, .tup b1'], R5, st5, q5, a5', b5', ?_, d2, ga.trans d3, d4, vs, dcl_no (by simp), d6, d7, d8, by rw [pz_node, pzL_cons, pzL_cons, pzL_cons, pzL_nil, vz_b d5, lB.pz]; omega⟩
      rw [start (v := .tup [.str "while", l, c, .tup b1']) (s := st5), ag_lt (ga.trans d3) h d2]
      unfold d23
      simp only [evSs, evS, e1, e2, T, hT, C4, L5, T2, hT2, C7, el, ec, to_ok_, then_nx_, if_true, if_false, Bool.false_eq_true, List.set_cons_succ, List.set_cons_zero, isBl_bl_, List.getElem?_cons_succ, List.getElem?_cons_zero]
      simp [ev, evA, evS, evSs, ME.held, k6, d1, sizeLine_eq, vc, ec, vl, elx]
end K02.V

set_option maxHeartbeats 4000000
namespace K02.V
open PySem L2 U
variable {fs os : List Str} {ns : List Int} {R : Store} {st : Store} {as ls gs : List Str} {f w A F Lb G m o : Nat} {a b : Int} {qq : Int × Int × Int × Int}
/-- a comprehension over a list of the store that leaves the store -/
theorem lc_live {call : Nat → List PV → Store → Res PV} {test : En → Store → Res Bool} {elt : En → Store → Res PV} {i n : Nat} {env : En} {xs : List PV} {st : Store} (p : PV → Bool) (hs : st[n]? = some (.lst xs)) (hz : xs.length < 16000000)
    (h : ∀ x ∈ xs, test (env.set i (some x)) st = .ok (p x) st ∧ (p x = true → elt (env.set i (some x)) st = .ok x st ∧ x.isFl = false)) :
    lcLoop test elt (MG.put (.nm i)) env (.live n xs.length) 0 xs.length [] st = .ok (.fl (xs.filter p)) st := by
  have sq := seq_loc hs
  have go : ∀ (m j : Nat) (acc : List PV), j + m = xs.length → acc.length ≤ j → lcLoop test elt (MG.put (.nm i)) env (.live n xs.length) j m acc st = .ok (.fl (acc ++ (xs.drop j).filter p)) st := by
    intro m
    induction m with
    | zero =>
      intro j acc e _
      have e : j = xs.length := by omega
      subst e
      have f : (Src.live n xs.length).fits st = true := by
        show (match seqOf (.loc n) st with | some ys => ys.length == xs.length | none => false) = true
        rw [sq]; simp
      unfold lcLoop
      rw [f, List.drop_length]
      simp
    | succ m ih =>
      intro j acc e hl
      have hj : j < xs.length := by omega
      have g : (Src.live n xs.length).get j st = some xs[j] := by
        show (match seqOf (.loc n) st with | some ys => if ys.length = xs.length then ys[j]? else none | none => none) = _
        rw [sq]; simp [hj]
      obtain ⟨h1, h2⟩ := h xs[j] (List.getElem_mem hj)
      have dr : xs.drop j = xs[j] :: xs.drop (j + 1) := List.drop_eq_getElem_cons hj
      unfold lcLoop
      rw [g]
      simp only [MG.put, h1, bind_ok_]
      cases hp : p xs[j] with
      | false =>
        simp only [Bool.false_eq_true, if_false]
        rw [ih (j + 1) acc (by omega) (by omega), dr, List.filter_cons_of_neg (by rw [hp]; simp)]
      | true =>
        obtain ⟨h3, h4⟩ := h2 hp
        simp only [if_true, h3, bind_ok_]
        have es : esc xs[j] st = (xs[j], st) := by
          cases q : xs[j] <;> first | rfl | (rw [q] at h4; cases h4)
        rw [es, if_pos (by rw [sizeLine_eq]; omega), ih (j + 1) _ (by omega) (by simp; omega), dr, List.filter_cons_of_pos hp]
        simp
  have := go xs.length 0 [] (by omega) (by simp)
  simpa using this
theorem ninStrs {x : Str} {l : List Str} {n : Nat} {st : Store} (h : st[n]? = some (.lst (l.map .str))) : ∃ b, cmpV .nin (.str x) (.loc n) st = some b := by
  have e : ∀ l : List Str, flL (l.map .str) = some (l.map V.str) := fun l => by
    induction l with
    | nil => rfl
    | cons z l ih =>
      show (match flV (.str z), flL (l.map .str) with | some v, some vs => some (v :: vs) | _, _ => none) = _
      rw [ih]; rfl
  have h2 : memF (.str x) (l.map .str) = some (L2.inV (.str x) (l.map V.str)) := by
    show (match flV (.str x), flL (l.map .str) with | some x, some vs => some (L2.inV x vs) | _, _ => none) = _
    rw [e]; rfl
  refine ⟨!L2.inV (.str x) (l.map V.str), ?_⟩
  show (U.inV (.str x) (.loc n) st).map (!·) = _
  unfold U.inV
  simp only [seq_loc h, h2]
  rfl
theorem filter_strs (p : PV → Bool) : ∀ l : List Str, ∃ l' : List Str, (l.map PV.str).filter p = l'.map PV.str ∧ (∀ x ∈ l', x ∈ l) ∧ l'.length ≤ l.length
  | [] => ⟨[], rfl, (fun _ h => (nomatch h)), Nat.le_refl _⟩
  | x :: l => by
    obtain ⟨l', h1, h2, h3⟩ := filter_strs p l
    by_cases hp : p (.str x) = true
    · exact ⟨x :: l', by rw [List.map_cons, List.filter_cons_of_pos hp, h1, List.map_cons], fun y hy => by
        rcases List.mem_cons.mp hy with rfl | hy
        · exact List.mem_cons_self
        · exact List.mem_cons_of_mem _ (h2 y hy), by simp; omega⟩
    · exact ⟨l', by rw [List.map_cons, List.filter_cons_of_neg hp, h1], fun y hy => List.mem_cons_of_mem _ (h2 y hy), by simp; omega⟩
def StmOk (ns : List Int) (as ls gs : List Str) (f A Lb G w m d : Nat) : Prop := ∀ (k : Nat) (R st : Store) (fs os : List Str) (F o n : Nat) (last : Bool) (dI : Int) (qq : Int × Int × Int × Int) (a b : Int), dI = d → TR ns R st → VW R as ls gs f A Lb G w m qq a b → R[F]? = some (.lst (fs.map .str)) → R[o]? = some (.lst (os.map .str)) → m ≤ F → m ≤ o → F ≠ o → NFB fs qq → NFB os qq → 0 ≤ qq.1 →
  ∃ (v : PV) (R' st' : Store) (qq' : Int × Int × Int × Int) (a' b' : Int), evCall TURNS D (k + 3 * d + 17) 24 [.loc 1, .loc (w + 2), .loc (F + 2), .loc (o + 2), .int n, .bl last, .int dI] st = .ok v st' ∧ TR ns R' st' ∧ Ag [f, F, o] R R' ∧ R'[f]? = some (.lst (FR qq' a' b')) ∧
    R'[F]? = some (.lst ((fs ++ dcl v).map .str)) ∧ R'[o]? = some (.lst ((os ++ dcl v).map .str)) ∧ VS d fs n v ∧ NFB (fs ++ dcl v) qq' ∧ NFB (os ++ dcl v) qq' ∧ 0 ≤ qq'.1 ∧ qq'.1 ≤ qq.1 ∧ qq'.2.2.1 ≤ qq.2.2.1 ∧ (pz v : Int) ≤ 20 + 20 * (qq.1 - qq'.1)
theorem stm_ok {d : Nat} (ih : ∀ e, d = e + 1 → BodyOk ns as ls gs f A Lb G w m e) (hA : NM as) (hL : NM ls) (hG : gs.length ≤ 50 ∧ ∀ x ∈ gs, B 60 x) : StmOk ns as ls gs f A Lb G w m d := by
  intro k R st fs os F o n last dI qq a b hd h W hF ho mF mo Fo hn hno h0
  obtain ⟨lf, lA, lL, lG, lw⟩ := W.lt
  have hml := W.ml
  have Fl := at_lt hF
  have ol := at_lt ho
  obtain ⟨ch, st1, a1, a2, a3, a4⟩ := drawR (k := k + 3 * d + 15) (m := 14) h (by decide)
  rw [show k + 3 * d + 15 + 1 = k + 3 * d + 16 by omega] at a1
  have iw := ix_loc (k := 0) (W.cw h)
  rw [atI_0] at iw
  -- the names that are not declared here
  have cG := W.cG a2
  have co : st1[o + 2]? = some (.lst (os.map .str)) := by rw [TR.at a2]; exact ho
  have iw3 := ix_loc (k := 3) (W.cw a2)
  rw [atI_3] at iw3
  have sG : srcV (.loc (G + 2)) st1 = some (.live (G + 2) (gs.map PV.str).length) := by
    show (seqOf (.loc (G + 2)) st1).map _ = _
    rw [seq_loc cG]; rfl
  generalize hc : evCall TURNS D (k + 3 * d + 16) = call at *
  obtain ⟨nms, m1, m2, m3⟩ := filter_strs (fun x => (cmpV .nin x (.loc (o + 2)) st1).getD false) gs
  have lc : ∀ env : En, env.length = 11 → env[3]? = some (some (.loc (o + 2))) → lcLoop (fun e s => (ev call c24_0 .test e s).bind fun x s1 => opt (isBl x) s1) (ev call e24_1 .val) (MG.put (.nm 10)) env (.live (G + 2) (gs.map PV.str).length) 0 (gs.map PV.str).length [] st1 = .ok (.fl (nms.map .str)) st1 := fun env l3 h3 => by
    rw [← m1]
    refine lc_live (call := call) (fun x => (cmpV .nin x (.loc (o + 2)) st1).getD false) cG (by rw [List.length_map]; have := hG.1; omega) fun x hx => ?_
    obtain ⟨x, hx, rfl⟩ := List.mem_map.mp hx
    obtain ⟨bb, hb⟩ := ninStrs (x := x) co
    have h10 : (env.set 10 (some (PV.str x)))[10]? = some (some (.str x)) := by simp [l3]
    have h33 : (env.set 10 (some (PV.str x)))[3]? = some (some (.loc (o + 2))) := by rw [List.getElem?_set_ne (by decide)]; exact h3
    rw [hb]
    refine ⟨?_, fun _ => ⟨?_, rfl⟩⟩
    · simp [c24_0, ev, h10, h33, hb]
    · simp [e24_1, ev, h10]
  have e1 : ∀ env : En, env[1]? = some (some (.loc (w + 2))) → ev call (.ix (.var 1) (.con (.int 0))) .val env st = .ok (.loc (f + 2)) st := fun env h1 => by simp [ev, h1, iw]
  have e2 : ∀ env : En, env[0]? = some (some (.loc 1)) → ev call (.fn 5 (.cons (.var 0) (.cons (.con (.int 14)) .nil))) .val env st = .ok (.int ch) st1 := fun env h1 => by simp [ev, evA, h1, a1]
  have E3 : ∀ env : En, env.length = 11 → env[10]? = some none → env[1]? = some (some (.loc (w + 2))) → env[3]? = some (some (.loc (o + 2))) → ev call (.lc e24_1 (.nm 10) (.ix (.var 1) (.con (.int 3))) true c24_0) .val env st1 = .ok (.fl (nms.map .str)) st1 := fun env l0 h10 h1 h3 => by
    have q := lc (env.set 10 none) (by simp [l0]) (by rw [List.getElem?_set_ne (by decide)]; exact h3)
    simp only [ev, h1, varV_use, bind_ok_, done_use_, done_val_, iw3, opt_some_, sG, MG.slots, U.wipe, if_true, Src.many]
    rw [q]; rfl
  -- with the names in the store
  have len1 : st1.length = R.length + 2 := a2.len
  generalize hR1 : R ++ [Cell.lst (nms.map .str)] = R1
  generalize hs2 : st1 ++ [Cell.lst (nms.map .str)] = s2
  have t2 : TR ns R1 s2 := by rw [← hR1, ← hs2]; exact a2.push _
  have W1 : VW R1 as ls gs f A Lb G w m qq a b := by rw [← hR1]; exact W.push fun c hc => by rw [List.mem_singleton.mp hc]; exact low_strs _ _
  have l1 : R1.length = R.length + 1 := by rw [← hR1]; simp
  have p1 : ∀ i, i < R.length → R1[i]? = R[i]? := fun i hi => by rw [← hR1]; exact List.getElem?_append_left hi
  have hF1 : R1[F]? = some (.lst (fs.map .str)) := by rw [p1 F Fl]; exact hF
  have ho1 : R1[o]? = some (.lst (os.map .str)) := by rw [p1 o ol]; exact ho
  have cN : s2[R.length + 2]? = some (.lst (nms.map .str)) := by rw [← hs2, ← len1]; simp
  have cF : s2[F + 2]? = some (.lst (fs.map .str)) := by rw [TR.at t2]; exact hF1
  have cf := W1.cf t2
  have i3 := ix_loc (k := 3) cf
  rw [show atI (FR qq a b) 3 = some (.int qq.2.2.1) from rfl] at i3
  have i2 := ix_loc (k := 2) cf
  rw [show atI (FR qq a b) 2 = some (.int qq.2.1) from rfl] at i2
  have i1 := ix_loc (k := 1) cf
  rw [show atI (FR qq a b) 1 = some (.int a) from rfl] at i1
  have e61 : ixN 6 1 = some 1 := rfl
  have e62 : ixN 6 2 = some 2 := rfl
  have e63 : ixN 6 3 = some 3 := rfl
  have tN := truth_loc cN
  have tF := truth_loc cF
  generalize hN : (nms.map PV.str).isEmpty = nm at tN
  generalize hFe : (fs.map PV.str).isEmpty = fm at tF
  have T4 : ∀ env : En, env[7]? = some (some (.loc (f + 2))) → env[8]? = some (some (.int ch)) → env[9]? = some (some (.loc (R.length + 2))) →
      ev call (.and (.cmp .lt (.var 8) (.con (.int 3))) (.and (.cmp .gt (.ix (.var 7) (.con (.int 3))) (.con (.int 0))) (.var 9))) .test env s2 = .ok (.bl (decide (ch < 3) && (decide (0 < qq.2.2.1) && !nm))) s2 := fun env h7 h8 h9 => by
    by_cases k3 : ch < 3
    · by_cases k0 : 0 < qq.2.2.1 <;> simp [ev, h7, h8, h9, i3, k3, k0, tN]
    · simp [ev, h8, k3]
  have T5 : ∀ env : En, env[2]? = some (some (.loc (F + 2))) → env[8]? = some (some (.int ch)) → ev call (.and (.cmp .lt (.var 8) (.con (.int 4))) (.var 2)) .test env s2 = .ok (.bl (decide (ch < 4) && !fm)) s2 := fun env h2 h8 => by
    by_cases k3 : ch < 4 <;> simp [ev, h2, h8, k3, tF]
  have T6 : ∀ env : En, env[7]? = some (some (.loc (f + 2))) → env[8]? = some (some (.int ch)) → ev call (.and (.cmp .lt (.var 8) (.con (.int 6))) (.cmp .gt (.ix (.var 7) (.con (.int 2))) (.con (.int 0)))) .test env s2 = .ok (.bl (decide (ch < 6) && decide (0 < qq.2.1))) s2 := fun env h7 h8 => by
    by_cases k3 : ch < 6
    · by_cases k0 : 0 < qq.2.1 <;> simp [ev, h7, h8, k3, i2, k0]
    · simp [ev, h8, k3]
  have T7 : ∀ env : En, env[6]? = some (some (.int dI)) → env[8]? = some (some (.int ch)) → ev call (.and (.cmp .gt (.var 6) (.con (.int 0))) (.cmp .lt (.var 8) (.con (.int 12)))) .test env s2 = .ok (.bl (decide (0 < dI) && decide (ch < 12))) s2 := fun env h6 h8 => by
    by_cases k3 : 0 < dI
    · by_cases k0 : ch < 12 <;> simp [ev, h6, h8, k3, k0]
    · simp [ev, h6, k3]
  have T8 : ∀ env : En, env[7]? = some (some (.loc (f + 2))) → ev call (.cmp .gt (.ix (.var 7) (.con (.int 1))) (.con (.int 0))) .test env s2 = .ok (.bl (decide (0 < a))) s2 := fun env h7 => by simp [ev, h7, i1]
  have hd24 : D 24 = some d24 := rfl
  have start : ∀ {v : PV} {s : Store}, evSs call TURNS d24.body [some (.loc 1), some (.loc (w + 2)), some (.loc (F + 2)), some (.loc (o + 2)), some (.int n), some (.bl last), some (.int dI), none, none, none, none] st = .rt v s →
      evCall TURNS D (k + 3 * d + 17) 24 [.loc 1, .loc (w + 2), .loc (F + 2), .loc (o + 2), .int n, .bl last, .int dI] st = U.leave st.length v s := fun hh => by
    rw [← hc] at hh
    exact call_rt (k := k + 3 * d + 16) hd24 rfl rfl rfl hh
  -- the end of a call
  have fin : ∀ {S : List Nat} {R4 st4 : Store} {q4 : Int × Int × Int × Int} {a4 b4 : Int} {v : PV} {D1 : List Str}, TR ns R4 st4 → Ag [f, F, o] R1 R4 → R4[f]? = some (.lst (FR q4 a4 b4)) → R4[F]? = some (.lst ((fs ++ D1).map .str)) → R4[o]? = some (.lst ((os ++ D1).map .str)) → PV.pure v = true →
      ∃ R' st', U.leave st.length v st4 = .ok v st' ∧ TR ns R' st' ∧ Ag [f, F, o] R R' ∧ R'[f]? = some (.lst (FR q4 a4 b4)) ∧ R'[F]? = some (.lst ((fs ++ D1).map .str)) ∧ R'[o]? = some (.lst ((os ++ D1).map .str)) := by
    intro S R4 st4 q4 a4 b4 v D1 t4 g4 f4 F4 o4 pv
    rw [← hR1] at g4
    have gt := g4.take
    have hl4 : R4.length = R.length + 1 := by rw [g4.1]; simp
    have lo : Low (R.length + 2) (R4.take R.length) := Low.ag W.low gt fun i hi c hc => by
      simp only [List.mem_cons, List.not_mem_nil, or_false] at hi
      rcases hi with rfl | rfl | rfl
      · rw [take_at (by omega), f4] at hc; rw [← Option.some.inj hc]; rfl
      · rw [take_at (by omega), F4] at hc; rw [← Option.some.inj hc]; exact low_strs _ _
      · rw [take_at (by omega), o4] at hc; rw [← Option.some.inj hc]; exact low_strs _ _
    obtain ⟨st', v1, v2⟩ := TR.cut h t4 (by omega) lo pv
    exact ⟨_, st', v1, v2, gt, by rw [take_at (by omega)]; exact f4, by rw [take_at (by omega)]; exact F4, by rw [take_at (by omega)]; exact o4⟩
  have fF : f ≠ F := by omega
  have fo : f ≠ o := by omega
  have app0 : ∀ l : List Str, l ++ [] = l := fun l => List.append_nil l
  by_cases hT4 : (decide (ch < 3) && (decide (0 < qq.2.2.1) && !nm)) = true
  · -- let
    have k0 : 0 < qq.2.2.1 := by
      simp only [Bool.and_eq_true, decide_eq_true_eq] at hT4
      exact hT4.2.1
    have hnm : nm = false := by
      simp only [Bool.and_eq_true, decide_eq_true_eq, Bool.not_eq_true'] at hT4
      exact hT4.2.2
    have NN : NM nms := ⟨(fun e => by rw [e] at hN; rw [← hN] at hnm; cases hnm), (by have := hG.1; omega), fun x hx => hG.2 x (m2 x hx)⟩
    have bl := bi_len_loc cN
    rw [List.length_map] at bl
    obtain ⟨q1, s3, x, b1, b2, b3, b4, _⟩ := nameR (k := k + 3 * d + 15) t2 NN
    rw [show k + 3 * d + 15 + 1 = k + 3 * d + 16 by omega, hc] at b1
    have cN3 : s3[R.length + 2]? = some (.lst (nms.map .str)) := by rw [TR.at b2, ← TR.at t2]; exact cN
    have ix := ix_loc (k := q1) cN3
    rw [b3] at ix
    have cf3 := W1.cf b2
    have i33 := ix_loc (k := 3) cf3
    rw [show atI (FR qq a b) 3 = some (.int qq.2.2.1) from rfl] at i33
    generalize hq : (qq.1, qq.2.1, qq.2.2.1 - 1, qq.2.2.2) = qn
    have t4 : TR ns (R1.set f (.lst (FR qn a b))) (setAt s3 (f + 2) (FR qn a b)) := TR.set b2 f _
    have ho4 : (R1.set f (.lst (FR qn a b)))[o]? = some (.lst (os.map .str)) := by rw [List.getElem?_set_ne fo]; exact ho1
    have co4 : (setAt s3 (f + 2) (FR qn a b))[o + 2]? = some (.lst (os.map .str)) := by rw [TR.at t4]; exact ho4
    have t5 : TR ns ((R1.set f (.lst (FR qn a b))).set o (.lst ((os ++ [x]).map .str))) (setAt (setAt s3 (f + 2) (FR qn a b)) (o + 2) ((os ++ [x]).map .str)) := TR.set t4 o _
    have hF5 : ((R1.set f (.lst (FR qn a b))).set o (.lst ((os ++ [x]).map .str)))[F]? = some (.lst (fs.map .str)) := by rw [List.getElem?_set_ne (Ne.symm Fo), List.getElem?_set_ne fF]; exact hF1
    have cF5 : (setAt (setAt s3 (f + 2) (FR qn a b)) (o + 2) ((os ++ [x]).map .str))[F + 2]? = some (.lst (fs.map .str)) := by rw [TR.at t5]; exact hF5
    have t6 : TR ns (((R1.set f (.lst (FR qn a b))).set o (.lst ((os ++ [x]).map .str))).set F (.lst ((fs ++ [x]).map .str))) (setAt (setAt (setAt s3 (f + 2) (FR qn a b)) (o + 2) ((os ++ [x]).map .str)) (F + 2) ((fs ++ [x]).map .str)) := TR.set t5 F _
    obtain ⟨q2, s7, c1, c2, c3, c4⟩ := drawR (k := k + 3 * d + 15) (m := 2) t6 (by decide)
    rw [show k + 3 * d + 15 + 1 = k + 3 * d + 16 by omega, hc] at c1
    have dl : dcl (.tup [.str "let", .str x, .bl (decide (q2 = 0))]) = [x] := dcl_let x _
    have gA : Ag [f, F, o] R1 (((R1.set f (.lst (FR qn a b))).set o (.lst ((os ++ [x]).map .str))).set F (.lst ((fs ++ [x]).map .str))) :=
      (((Ag.set R1 f _).mono (by simp)).trans ((Ag.set _ o _).mono (by simp))).trans ((Ag.set _ F _).mono (by simp))
    have len4 := gA.1
    have r1 : (((R1.set f (.lst (FR qn a b))).set o (.lst ((os ++ [x]).map .str))).set F (.lst ((fs ++ [x]).map .str)))[f]? = some (.lst (FR qn a b)) := by
      rw [List.getElem?_set_ne fF.symm, List.getElem?_set_ne fo.symm, List.getElem?_set_self (at_lt W1.hf)]
    have r2 : (((R1.set f (.lst (FR qn a b))).set o (.lst ((os ++ [x]).map .str))).set F (.lst ((fs ++ [x]).map .str)))[F]? = some (.lst ((fs ++ [x]).map .str)) := by
      rw [List.getElem?_set_self (by simp; omega)]
    have r3 : (((R1.set f (.lst (FR qn a b))).set o (.lst ((os ++ [x]).map .str))).set F (.lst ((fs ++ [x]).map .str)))[o]? = some (.lst ((os ++ [x]).map .str)) := by
      rw [List.getElem?_set_ne Fo, List.getElem?_set_self (by simp; omega)]
    obtain ⟨R', st', y1, y2, y3, y4, y5, y6⟩ := fin (S := []) (v := .tup [.str "let", .str x, .bl (decide (q2 = 0))]) c2 gA r1 r2 r3 rfl
    have nf : ∀ l : List Str, NFB l qq → NFB (l ++ [x]) qn := fun l hl => by
      have lc : qn.2.2.1 = qq.2.2.1 - 1 := by rw [← hq]
      have := hl.2
      refine ⟨fun z hz => ?_, by rw [lc, List.length_append]; simp; omega⟩
      rcases List.mem_append.mp hz with hz | hz
      · exact hl.1 z hz
      · rw [List.mem_singleton.mp hz]; exact b4
    have vs : VS d fs n (.tup [.str "let", .str x, .bl (decide (q2 = 0))]) := by
      cases d with
      | zero => exact VH.let_ b4
      | succ d => exact VH.let_ b4
    have qa : qn.1 = qq.1 := by rw [← hq]
    have qb : qn.2.2.1 = qq.2.2.1 - 1 := by rw [← hq]
    refine ⟨.tup [.str "let", .str x, .bl (decide (q2 = 0))], R', st', qn, a, b, ?_, y2, y3, y4, by rw [dl]; exact y5, by rw [dl]; exact y6, vs, by rw [dl]; exact nf fs hn, by rw [dl]; exact nf os hno, by omega, by omega, by omega, by simp; omega⟩
    rw [start (v := .tup [.str "let", .str x, .bl (decide (q2 = 0))]) (s := s7), y1]
    have z1 : os.length < 16777216 ∧ fs.length < 16777216 := by have := hn.2; have := hno.2; omega
    have fr : (FR qq a b).set 3 (.int (qq.2.2.1 - 1)) = FR qn a b := by rw [← hq]; rfl
    have mo' : os.map PV.str ++ [.str x] = (os ++ [x]).map .str := by simp
    have mF' : fs.map PV.str ++ [.str x] = (fs ++ [x]).map .str := by simp
    have ap1 : mtV .append (.loc (o + 2)) [.str x] (setAt s3 (f + 2) (FR qn a b)) = .ok .non (setAt (setAt s3 (f + 2) (FR qn a b)) (o + 2) ((os ++ [x]).map .str)) := by
      unfold mtV
      simp only [co4]
      rw [if_pos ⟨by rw [List.length_map, sizeLine_eq]; exact z1.1, rfl⟩, mo']
    have ap2 : mtV .append (.loc (F + 2)) [.str x] (setAt (setAt s3 (f + 2) (FR qn a b)) (o + 2) ((os ++ [x]).map .str)) = .ok .non (setAt (setAt (setAt s3 (f + 2) (FR qn a b)) (o + 2) ((os ++ [x]).map .str)) (F + 2) ((fs ++ [x]).map .str)) := by
      unfold mtV
      simp only [cF5]
      rw [if_pos ⟨by rw [List.length_map, sizeLine_eq]; exact z1.2, rfl⟩, mF']
    unfold d24
    have lN : st1.length = R.length + 2 := len1
    simp only [evSs, evS, e1, e2, E3, esc_fl, lN, hs2, T4, hT4, to_ok_, then_nx_, if_true, if_false, Bool.false_eq_true, List.length_cons, List.length_nil, List.set_cons_succ, List.set_cons_zero, isBl_bl_, List.getElem?_cons_succ, List.getElem?_cons_zero, esc_loc]
    generalize hS4 : setAt s3 (f + 2) (FR qn a b) = S4 at *
    generalize hS5 : setAt S4 (o + 2) ((os ++ [x]).map .str) = S5 at *
    generalize hS6 : setAt S5 (F + 2) ((fs ++ [x]).map .str) = S6 at *
    have hS4' : setAt s3 (f + 2) ((FR qq a b).set 3 (.int (qq.2.2.1 - 1))) = S4 := by rw [fr]; exact hS4
    simp [ev, evA, evCs, evS, evSs, ME.held, bl, b1, ix, i33, cf3, e63, sizeLine_eq]
    simp only [FR, List.set_cons_succ, List.set_cons_zero] at hS4'
    rw [hS4']
    simp [ap1, ap2, c1]
  have hT4 : (decide (ch < 3) && (decide (0 < qq.2.2.1) && !nm)) = false := by simpa using hT4
  have gR : Ag [f, F, o] R1 R1 := Ag.refl _ _
  have mkF : R1[F]? = some (.lst ((fs ++ []).map .str)) := by rw [app0]; exact hF1
  have mkO : R1[o]? = some (.lst ((os ++ []).map .str)) := by rw [app0]; exact ho1
  have keep : ∀ {R4 : Store}, Ag [f] R1 R4 → R4[F]? = some (.lst ((fs ++ []).map .str)) ∧ R4[o]? = some (.lst ((os ++ []).map .str)) := fun g =>
    ⟨by rw [g.2 F (by simp [Ne.symm fF])]; exact mkF, by rw [g.2 o (by simp [Ne.symm fo])]; exact mkO⟩
  by_cases hT5 : (decide (ch < 4) && !fm) = true
  · -- set
    have hfm : fm = false := by
      simp only [Bool.and_eq_true, Bool.not_eq_true'] at hT5
      exact hT5.2
    have NN : NM fs := ⟨(fun e => by rw [e] at hFe; rw [← hFe] at hfm; cases hfm), hn.nf.1, hn.1⟩
    have bl := bi_len_loc cF
    rw [List.length_map] at bl
    obtain ⟨q1, s3, x, b1, b2, b3, b4, b5⟩ := nameR (k := k + 3 * d + 15) t2 NN
    rw [show k + 3 * d + 15 + 1 = k + 3 * d + 16 by omega, hc] at b1
    have cF3 : s3[F + 2]? = some (.lst (fs.map .str)) := by rw [TR.at b2, ← TR.at t2]; exact cF
    have ix := ix_loc (k := q1) cF3
    rw [b3] at ix
    obtain ⟨q2, s4, c1, c2, c3, c4⟩ := drawR (k := k + 3 * d + 15) (m := 2) b2 (by decide)
    rw [show k + 3 * d + 15 + 1 = k + 3 * d + 16 by omega, hc] at c1
    have dl : dcl (.tup [.str "set", .str x, .bl (decide (q2 = 0))]) = [] := dcl_no (by simp)
    obtain ⟨R', st', y1, y2, y3, y4, y5, y6⟩ := fin (S := []) (v := .tup [.str "set", .str x, .bl (decide (q2 = 0))]) c2 gR W1.hf mkF mkO rfl
    have vs : VS d fs n (.tup [.str "set", .str x, .bl (decide (q2 = 0))]) := by
      cases d with
      | zero => exact VH.set b5
      | succ d => exact VH.set b5
    refine ⟨.tup [.str "set", .str x, .bl (decide (q2 = 0))], R', st', qq, a, b, ?_, y2, y3, y4, by rw [dl]; exact y5, by rw [dl]; exact y6, vs, by rw [dl, app0]; exact hn, by rw [dl, app0]; exact hno, h0, by omega, by omega, by simp⟩
    rw [start (v := .tup [.str "set", .str x, .bl (decide (q2 = 0))]) (s := s4), y1]
    unfold d24
    simp only [evSs, evS, e1, e2, E3, esc_fl, len1, hs2, T4, hT4, T5, hT5, to_ok_, then_nx_, if_true, if_false, Bool.false_eq_true, List.length_cons, List.length_nil, List.set_cons_succ, List.set_cons_zero, isBl_bl_, List.getElem?_cons_succ, List.getElem?_cons_zero, esc_loc]
    simp [ev, evA, evCs, evS, evSs, ME.held, bl, b1, ix, c1, sizeLine_eq]
  have hT5 : (decide (ch < 4) && !fm) = false := by simpa using hT5
  by_cases hT6 : (decide (ch < 6) && decide (0 < qq.2.1)) = true
  · -- a stop
    have t3 : TR ns (R1.set f (.lst (FR (qq.1, qq.2.1 - 1, qq.2.2.1, qq.2.2.2) a b))) (setAt s2 (f + 2) (FR (qq.1, qq.2.1 - 1, qq.2.2.1, qq.2.2.2) a b)) := TR.set t2 f _
    have W3 := W1.put (qq.1, qq.2.1 - 1, qq.2.2.1, qq.2.2.2) a b
    have g3 := Ag.set R1 f (.lst (FR (qq.1, qq.2.1 - 1, qq.2.2.1, qq.2.2.2) a b))
    obtain ⟨v, s4, b1, b2, b3, b4, b5⟩ := stop_ok (k := k + 3 * d + 14) (n := n) W3 hL t3
    rw [show k + 3 * d + 14 + 2 = k + 3 * d + 16 by omega, hc] at b1
    have vs : VS d fs n v := by
      cases d with
      | zero => exact b3 _ _
      | succ d => exact b3 _ _
    obtain ⟨kF, kO⟩ := keep g3
    obtain ⟨R', st', y1, y2, y3, y4, y5, y6⟩ := fin (S := []) (v := v) b2 (g3.mono (by simp)) W3.hf kF kO vs.z.pure
    refine ⟨v, R', st', (qq.1, qq.2.1 - 1, qq.2.2.1, qq.2.2.2), a, b, ?_, y2, y3, y4, by rw [b5]; exact y5, by rw [b5]; exact y6, vs, by rw [b5, app0]; exact hn.le (by show qq.2.2.1 ≤ _; omega), by rw [b5, app0]; exact hno.le (by show qq.2.2.1 ≤ _; omega), h0, by show qq.1 ≤ _; omega, by show qq.2.2.1 ≤ _; omega, by show _ ≤ 20 + 20 * (qq.1 - qq.1); omega⟩
    rw [start (v := v) (s := s4), y1]
    unfold d24
    simp only [evSs, evS, e1, e2, E3, esc_fl, len1, hs2, T4, hT4, T5, hT5, T6, hT6, to_ok_, then_nx_, if_true, if_false, Bool.false_eq_true, List.length_cons, List.length_nil, List.set_cons_succ, List.set_cons_zero, isBl_bl_, List.getElem?_cons_succ, List.getElem?_cons_zero, esc_loc]
    simp [ev, evA, evCs, evS, evSs, ME.held, i2, cf, e62, b1, sizeLine_eq]
  have hT6 : (decide (ch < 6) && decide (0 < qq.2.1)) = false := by simpa using hT6
  by_cases hT7 : (decide (0 < dI) && decide (ch < 12)) = true
  · -- a nest
    have d0 : 0 < dI := by
      simp only [Bool.and_eq_true, decide_eq_true_eq] at hT7
      exact hT7.1
    obtain ⟨e, rfl⟩ : ∃ e, d = e + 1 := ⟨d - 1, by omega⟩
    obtain ⟨v, R4, s4, q4, a4, b4, b1, b2, b3, b5, vs, dl, z1, z2, z3, z4⟩ := nest_ok (k := k) (e := e) (n := n) (last := last) (dI := dI) (ih e rfl) hA hL (by omega) t2 W1 hF1 mF hn h0
    rw [show k + 3 * e + 19 = k + 3 * (e + 1) + 16 by omega, hc] at b1
    obtain ⟨kF, kO⟩ := keep b3
    obtain ⟨R', st', y1, y2, y3, y4, y5, y6⟩ := fin (S := []) (v := v) b2 (b3.mono (by simp)) b5 kF kO vs.z.pure
    refine ⟨v, R', st', q4, a4, b4, ?_, y2, y3, y4, by rw [dl]; exact y5, by rw [dl]; exact y6, vs, by rw [dl, app0]; exact hn.le z3, by rw [dl, app0]; exact hno.le z3, z1, z2, z3, z4⟩
    rw [start (v := v) (s := s4), y1]
    unfold d24
    simp only [evSs, evS, e1, e2, E3, esc_fl, len1, hs2, T4, hT4, T5, hT5, T6, hT6, T7, hT7, to_ok_, then_nx_, if_true, if_false, Bool.false_eq_true, List.length_cons, List.length_nil, List.set_cons_succ, List.set_cons_zero, isBl_bl_, List.getElem?_cons_succ, List.getElem?_cons_zero, esc_loc]
    simp [ev, evA, evCs, evS, evSs, ME.held, b1, sizeLine_eq]
  have hT7 : (decide (0 < dI) && decide (ch < 12)) = false := by simpa using hT7
  by_cases hT8 : decide (0 < a) = true
  · -- a call
    have t3 : TR ns (R1.set f (.lst (FR qq (a - 1) b))) (setAt s2 (f + 2) (FR qq (a - 1) b)) := TR.set t2 f _
    have W3 := W1.put qq (a - 1) b
    have g3 := Ag.set R1 f (.lst (FR qq (a - 1) b))
    have jw := ix_loc (k := 1) (W3.cw t3)
    rw [atI_1] at jw
    have bl := bi_len_loc (W3.cA t3)
    rw [List.length_map] at bl
    obtain ⟨q1, s4, x, b1, b2, b3, b4, _⟩ := nameR (k := k + 3 * d + 15) t3 hA
    rw [show k + 3 * d + 15 + 1 = k + 3 * d + 16 by omega, hc] at b1
    have ix := ix_loc (k := q1) (W3.cA b2)
    rw [b3] at ix
    have dl : dcl (.tup [.str "call", .str x]) = [] := dcl_no (by simp)
    have vs : VS d fs n (.tup [.str "call", .str x]) := by
      cases d with
      | zero => exact VH.call b4
      | succ d => exact VH.call b4
    obtain ⟨kF, kO⟩ := keep g3
    obtain ⟨R', st', y1, y2, y3, y4, y5, y6⟩ := fin (S := []) (v := .tup [.str "call", .str x]) b2 (g3.mono (by simp)) W3.hf kF kO rfl
    refine ⟨.tup [.str "call", .str x], R', st', qq, a - 1, b, ?_, y2, y3, y4, by rw [dl]; exact y5, by rw [dl]; exact y6, vs, by rw [dl, app0]; exact hn, by rw [dl, app0]; exact hno, h0, by omega, by omega, by simp⟩
    rw [start (v := .tup [.str "call", .str x]) (s := s4), y1]
    unfold d24
    simp only [evSs, evS, e1, e2, E3, esc_fl, len1, hs2, T4, hT4, T5, hT5, T6, hT6, T7, hT7, T8, hT8, to_ok_, then_nx_, if_true, if_false, Bool.false_eq_true, List.length_cons, List.length_nil, List.set_cons_succ, List.set_cons_zero, isBl_bl_, List.getElem?_cons_succ, List.getElem?_cons_zero, esc_loc]
    simp [ev, evA, evCs, evS, evSs, ME.held, i1, cf, e61, jw, bl, b1, ix, sizeLine_eq]
  have hT8 : decide (0 < a) = false := by simpa using hT8
  have dl : dcl (.tup [.str "block", .tup []]) = [] := dcl_no (by simp)
  have vs : VS d fs n (.tup [.str "block", .tup []]) := by
    cases d with
    | zero => exact VH.block rfl
    | succ d => exact VH.block trivial
  obtain ⟨R', st', y1, y2, y3, y4, y5, y6⟩ := fin (S := []) (v := .tup [.str "block", .tup []]) t2 gR W1.hf mkF mkO rfl
  refine ⟨.tup [.str "block", .tup []], R', st', qq, a, b, ?_, y2, y3, y4, by rw [dl]; exact y5, by rw [dl]; exact y6, vs, by rw [dl, app0]; exact hn, by rw [dl, app0]; exact hno, h0, by omega, by omega, by rw [pz_node, pzL_cons, pzL_nil, show pz (.tup []) = 0 by simp [pz, pzT]]; omega⟩
  rw [start (v := .tup [.str "block", .tup []]) (s := s2), y1]
  unfold d24
  simp only [evSs, evS, e1, e2, E3, esc_fl, len1, hs2, T4, hT4, T5, hT5, T6, hT6, T7, hT7, T8, hT8, to_ok_, then_nx_, if_true, if_false, Bool.false_eq_true, List.length_cons, List.length_nil, List.set_cons_succ, List.set_cons_zero, isBl_bl_, List.getElem?_cons_succ, List.getElem?_cons_zero, esc_loc]
  simp [ev, evA, evCs, evS, evSs, ME.held, sizeLine_eq]
end K02.V

set_option maxHeartbeats 4000000
namespace K02.V
open PySem L2 U
variable {fs os : List Str} {ns : List Int} {R : Store} {st : Store} {as ls gs : List Str} {f w A F Lb G m o : Nat} {a b : Int} {qq : Int × Int × Int × Int}
/-- one turn of a body's loop: room is left, a statement comes -/
theorem turn_ok {k d n F o j : Nat} {last : Bool} {dI : Int} (sk : StmOk ns as ls gs f A Lb G w m d) (hd : dI = d) {R0 : Store} (h : TR ns R st) (W : VW R as ls gs f A Lb G w m qq a b) (g0 : Ag [f, F, o] R0 R)
    {ps : List PV} {fs0 os0 : List Str} (hF : R[F]? = some (.lst ((fs0 ++ dcls ps).map .str))) (ho : R[o]? = some (.lst ((os0 ++ dcls ps).map .str))) (mF : m ≤ F) (mo : m ≤ o) (Fo : F ≠ o) (hn : NFB (fs0 ++ dcls ps) qq) (hno : NFB (os0 ++ dcls ps) qq) (vb : VB d fs0 n ps) (c0 : 0 ≤ qq.1) (pl : ps.length ≤ j)
    {C : Int} (cC : qq.1 ≤ C) (hz : (pzL ps : Int) ≤ 20 * (C - qq.1)) (hlt : 0 < qq.1) :
    ∃ (v : PV) (R' st' : Store) (qq' : Int × Int × Int × Int) (a' b' : Int), evCall TURNS D (k + 3 * d + 17) 24 [.loc 1, .loc (w + 2), .loc (F + 2), .loc (o + 2), .int n, .bl last, .int dI] (setAt st (f + 2) (FR (qq.1 - 1, qq.2.1, qq.2.2.1, qq.2.2.2) a b)) = .ok v st' ∧ TR ns R' st' ∧ VW R' as ls gs f A Lb G w m qq' a' b' ∧ Ag [f, F, o] R0 R' ∧
      R'[F]? = some (.lst ((fs0 ++ dcls (ps ++ [v])).map .str)) ∧ R'[o]? = some (.lst ((os0 ++ dcls (ps ++ [v])).map .str)) ∧ NFB (fs0 ++ dcls (ps ++ [v])) qq' ∧ NFB (os0 ++ dcls (ps ++ [v])) qq' ∧ VB d fs0 n (ps ++ [v]) ∧ 0 ≤ qq'.1 ∧ (ps ++ [v]).length ≤ j + 1 ∧ qq'.1 ≤ C ∧ (pzL (ps ++ [v]) : Int) ≤ 20 * (C - qq'.1) ∧
      qq'.2.2.1 ≤ qq.2.2.1 ∧ PV.pure v = true := by
  have t1 : TR ns (R.set f (.lst (FR (qq.1 - 1, qq.2.1, qq.2.2.1, qq.2.2.2) a b))) (setAt st (f + 2) (FR (qq.1 - 1, qq.2.1, qq.2.2.1, qq.2.2.2) a b)) := TR.set h f _
  have W1 := W.put (qq.1 - 1, qq.2.1, qq.2.2.1, qq.2.2.2) a b
  have lf := W.lt.1
  have hF1 : (R.set f (.lst (FR (qq.1 - 1, qq.2.1, qq.2.2.1, qq.2.2.2) a b)))[F]? = some (.lst ((fs0 ++ dcls ps).map .str)) := by rw [List.getElem?_set_ne (by omega)]; exact hF
  have ho1 : (R.set f (.lst (FR (qq.1 - 1, qq.2.1, qq.2.2.1, qq.2.2.2) a b)))[o]? = some (.lst ((os0 ++ dcls ps).map .str)) := by rw [List.getElem?_set_ne (by omega)]; exact ho
  obtain ⟨v, R', st', q', a', b', e1, e2, e3, e4, e5, e6, e7, e8, e9, e10, e11, e12, e13⟩ := sk k _ _ _ _ F o n last dI _ a b hd t1 W1 hF1 ho1 mF mo Fo (hn.le (by show qq.2.2.1 ≤ qq.2.2.1; omega)) (hno.le (by show qq.2.2.1 ≤ qq.2.2.1; omega)) (by show 0 ≤ qq.1 - 1; omega)
  have gg := (g0.trans ((Ag.set R f _).mono (by simp))).trans e3
  have e11 : q'.1 ≤ qq.1 - 1 := e11
  have e13 : (pz v : Int) ≤ 20 + 20 * (qq.1 - 1 - q'.1) := e13
  have lo : Low (R'.length + 2) R' := by
    rw [e3.1]
    exact Low.ag W1.low e3 fun i hi c hc => by
      simp only [List.mem_cons, List.not_mem_nil, or_false] at hi
      rcases hi with rfl | rfl | rfl
      · rw [e4] at hc; rw [← Option.some.inj hc]; rfl
      · rw [e5] at hc; rw [← Option.some.inj hc]; exact low_strs _ _
      · rw [e6] at hc; rw [← Option.some.inj hc]; exact low_strs _ _
  have W2 := W1.ag e3 (fun i hi => by
    simp only [List.mem_cons, List.not_mem_nil, or_false] at hi
    rcases hi with rfl | rfl | rfl
    · exact .inl rfl
    · exact .inr mF
    · exact .inr mo) e4 lo
  refine ⟨v, R', st', q', a', b', e1, e2, W2, gg, ?_, ?_, ?_, ?_, ?_, e10, by simp; omega, by omega, ?_, e12, e7.z.pure⟩
  · rw [dcls_snoc, ← List.append_assoc]; exact e5
  · rw [dcls_snoc, ← List.append_assoc]; exact e6
  · rw [dcls_snoc, ← List.append_assoc]; exact e8
  · rw [dcls_snoc, ← List.append_assoc]; exact e9
  · exact VL.snoc vb e7
  · rw [pzL_app, pzL_cons, pzL_nil]; omega
theorem body_ok {d : Nat} (sk : StmOk ns as ls gs f A Lb G w m d) : BodyOk ns as ls gs f A Lb G w m d := by
  intro k R st fs F n last dI qq a b hd h W hF mF hn h0
  obtain ⟨lf, lA, lL, lG, lw⟩ := W.lt
  have hml := W.ml
  have Fl := at_lt hF
  have len0 : st.length = R.length + 2 := h.len
  have bl : biV .list [.loc (F + 2)] st = some (.fl (fs.map .str)) := by
    show (seqOf (.loc (F + 2)) st).map _ = _
    rw [seq_loc (by rw [TR.at h]; exact hF)]; rfl
  generalize hR0 : R ++ [Cell.lst (fs.map .str), .lst []] = R0
  have t0 : TR ns R0 (st ++ [.lst (fs.map .str), .lst []]) := by rw [← hR0]; exact h.push _
  have W0 : VW R0 as ls gs f A Lb G w m qq a b := by
    rw [← hR0]
    exact W.push fun c hc => by
      simp only [List.mem_cons, List.not_mem_nil, or_false] at hc
      rcases hc with rfl | rfl
      · exact low_strs _ _
      · rfl
  have F0 : R0[R.length]? = some (.lst (fs.map .str)) := by rw [← hR0]; simp
  have O0 : R0[R.length + 1]? = some (.lst (([] : List Str).map .str)) := by rw [← hR0]; simp
  have dc0 : dcls [] = [] := rfl
  obtain ⟨q, st1, d1, d2, d3, d4⟩ := drawR (k := k + 3 * d + 16) (m := 6) t0 (by decide)
  rw [show k + 3 * d + 16 + 1 = k + 3 * d + 17 by omega] at d1
  have pk : ∃ n : Int, atI [PV.int 0, .int 1, .int 1, .int 2, .int 2, .int 3] q = some (.int n) ∧ 0 ≤ n ∧ n ≤ 3 := by
    obtain ⟨y, hy, e3⟩ := pick (xs := [PV.int 0, .int 1, .int 1, .int 2, .int 2, .int 3]) (i := q) d3 (by simpa using d4)
    simp only [List.mem_cons, List.not_mem_nil, or_false] at hy
    rcases hy with rfl | rfl | rfl | rfl | rfl | rfl <;> exact ⟨_, e3, by decide, by decide⟩
  obtain ⟨nn, e6, n0, n3⟩ := pk
  have hr := rng_ok' (n := nn) n0 (by omega) st1
  obtain ⟨e, s, m1, ps, R1, q1, a1, b1, x9, m2, m3, mW, m4, m5, m6, m7, m8, m9, m10, m11, m12, m13, m14⟩ := forLoop_inv (put := MG.put (.nm 9)) (body := evSs (evCall TURNS D (k + 3 * d + 17)) TURNS b25_0) (xs := (List.range nn.toNat).map fun (k : Nat) => .int k)
    (fun j env s => ∃ (ps : List PV) (R1 : Store) (q1 : Int × Int × Int × Int) (a1 b1 : Int) (x9 : Option PV), env = [some (.loc 1), some (.loc (w + 2)), some (.loc (F + 2)), some (.int n), some (.bl last), some (.int dI), some (.fl ps), some (.loc (R.length + 2)), some (.loc (R.length + 3)), x9] ∧ TR ns R1 s ∧ VW R1 as ls gs f A Lb G w m q1 a1 b1 ∧
      Ag [f, R.length, R.length + 1] R0 R1 ∧ R1[R.length]? = some (.lst ((fs ++ dcls ps).map .str)) ∧ R1[R.length + 1]? = some (.lst (([] ++ dcls ps).map .str)) ∧ NFB (fs ++ dcls ps) q1 ∧ NFB ([] ++ dcls ps) q1 ∧ VB d fs n ps ∧ 0 ≤ q1.1 ∧ ps.length ≤ j ∧ q1.1 ≤ qq.1 ∧ (pzL ps : Int) ≤ 20 * (qq.1 - q1.1) ∧ q1.2.2.1 ≤ qq.2.2.1) (fun j x env s hx' ⟨ps, R1, q1, a1, b1, x9, e1, e2, eW, e3, e4, e5, e6, e7, e8, e9, e10, e11, e12, e13⟩ => by
      subst e1
      have hj : j < nn.toNat := by
        have := (List.getElem?_eq_some_iff.mp hx').1
        simpa using this
      have iw := ix_loc (k := 0) (eW.cw e2)
      rw [atI_0] at iw
      have i0 := ix_loc (k := 0) (eW.cf e2)
      rw [atI_0] at i0
      have jf := eW.cf e2
      have e60 : ixN 6 0 = some 0 := rfl
      refine ⟨[some (.loc 1), some (.loc (w + 2)), some (.loc (F + 2)), some (.int n), some (.bl last), some (.int dI), some (.fl ps), some (.loc (R.length + 2)), some (.loc (R.length + 3)), some x], rfl, ?_⟩
      by_cases hr : 0 < q1.1
      · obtain ⟨v, R2, s2, q2, a2, b2, g1, g2, gW, g3, g4, g5, g6, g7, g8, g9, g10, g11, g12, g13, g14⟩ := turn_ok (k := k) (n := n) (last := last) sk hd e2 eW e3 e4 e5 (by omega) (by omega) (by omega) e6 e7 e8 e9 e10 e11 e12 hr
        rw [show R.length + 1 + 2 = R.length + 3 by omega] at g1
        have ec := fun st => esc_p g14 st
        have hl : ps.length < 16777216 := by omega
        have hh : evSs (evCall TURNS D (k + 3 * d + 17)) TURNS b25_0 [some (.loc 1), some (.loc (w + 2)), some (.loc (F + 2)), some (.int n), some (.bl last), some (.int dI), some (.fl ps), some (.loc (R.length + 2)), some (.loc (R.length + 3)), some x] s
            = .nx [some (.loc 1), some (.loc (w + 2)), some (.loc (F + 2)), some (.int n), some (.bl last), some (.int dI), some (.fl (ps ++ [v])), some (.loc (R.length + 2)), some (.loc (R.length + 3)), some x] s2 := by
          simp [b25_0, evSs, evS, ev, evA, evCs, iw, i0, jf, hr, e60, g1, ec, hl, sizeLine_eq]
        rw [hh]
        exact ⟨ps ++ [v], R2, q2, a2, b2, some x, rfl, g2, gW, g3, g4, g5, g6, g7, g8, g9, g10, g11, g12, by omega⟩
      · have hh : evSs (evCall TURNS D (k + 3 * d + 17)) TURNS b25_0 [some (.loc 1), some (.loc (w + 2)), some (.loc (F + 2)), some (.int n), some (.bl last), some (.int dI), some (.fl ps), some (.loc (R.length + 2)), some (.loc (R.length + 3)), some x] s
            = .nx [some (.loc 1), some (.loc (w + 2)), some (.loc (F + 2)), some (.int n), some (.bl last), some (.int dI), some (.fl ps), some (.loc (R.length + 2)), some (.loc (R.length + 3)), some x] s := by
          simp [b25_0, evSs, evS, ev, evA, evCs, iw, i0, hr]
        rw [hh]
        exact ⟨ps, R1, q1, a1, b1, some x, rfl, e2, eW, e3, e4, e5, e6, e7, e8, e9, by omega, e11, e12, e13⟩) nn.toNat 0 [some (.loc 1), some (.loc (w + 2)), some (.loc (F + 2)), some (.int n), some (.bl last), some (.int dI), some (.fl []), some (.loc (R.length + 2)), some (.loc (R.length + 3)), none] st1 (by simp)
      ⟨[], R0, qq, a, b, none, rfl, d2, W0, Ag.refl _ _, by rw [dc0, List.append_nil]; exact F0, by rw [dc0, List.append_nil]; exact O0, by rw [dc0, List.append_nil]; exact hn, ⟨(fun x hx => by simp [dc0] at hx), (by have := hn.2; simp [dc0]; omega)⟩, trivial, h0, by simp, by omega, by simp, by omega⟩
  subst m2
  rw [← hR0] at m4
  have g4' := m4.take
  have hl4 : R1.length = R.length + 2 := by rw [m4.1]; simp
  have g4 : Ag [f] R (R1.take R.length) := ⟨g4'.1, fun i hi => by
    by_cases h : i < R.length
    · exact g4'.2 i (by simp only [List.mem_cons, List.not_mem_nil, or_false] at hi ⊢; omega)
    · rw [List.getElem?_eq_none (by rw [List.length_take]; omega), List.getElem?_eq_none (by omega)]⟩
  have hf4 : (R1.take R.length)[f]? = some (.lst (FR q1 a1 b1)) := by rw [take_at (by omega)]; exact mW.hf
  have W4 := W.agf g4 hf4
  have lo : Low (R.length + 2) (R1.take R.length) := by have := W4.low; rw [g4.1] at this; exact this
  have bt := bi_tuple_fl ps
  obtain ⟨st', y1, y2⟩ := TR.cut h m3 (by omega) lo (v := .tup ps) m9.pure
  refine ⟨ps, _, st', q1, a1, b1, ?_, y2, g4, hf4, m9, m10, m12, m14, m13⟩
  rw [show k + 3 * d + 18 = (k + 3 * d + 17) + 1 by omega]
  have ap : ∀ c1 c2 : Cell, (st ++ [c1]) ++ [c2] = st ++ [c1, c2] := fun c1 c2 => by simp
  have hh : evSs (evCall TURNS D (k + 3 * d + 17)) TURNS d25.body [some (.loc 1), some (.loc (w + 2)), some (.loc (F + 2)), some (.int n), some (.bl last), some (.int dI), none, none, none, none] st = .rt (.tup ps) s := by
    simp [d25, evSs, evS, ev, evA, evCs, evSrc, Src.many, ME.held, bl, len0, d1, e6, hr, m1, bt, sizeLine_eq, -List.map_map]
  exact (call_rt (k := k + 3 * d + 17) (f := 25) (d := d25) (args := [.loc 1, .loc (w + 2), .loc (F + 2), .int n, .bl last, .int dI]) (st := st) (s := s) (v := .tup ps) rfl rfl rfl rfl hh).trans y1
theorem bodies_ok (hA : NM as) (hL : NM ls) (hG : gs.length ≤ 50 ∧ ∀ x ∈ gs, B 60 x) : ∀ d, StmOk ns as ls gs f A Lb G w m d
  | 0 => stm_ok (fun e h => absurd h (by omega)) hA hL hG
  | d + 1 => stm_ok (fun e h => by
      have : e = d := by omega
      subst this
      exact body_ok (bodies_ok hA hL hG e)) hA hL hG
end K02.V

set_option maxHeartbeats 4000000
namespace K02.V
open PySem L2 U
variable {fs os : List Str} {ns : List Int} {R : Store} {st : Store} {as ls gs : List Str} {f w A F Lb G m o : Nat} {a b : Int} {qq : Int × Int × Int × Int}
theorem program_ok {k : Nat} (sk : StmOk ns as ls gs f A Lb G w m 5) (h : TR ns R st) (W : VW R as ls gs f A Lb G w m qq a b) (h0 : 0 ≤ qq.1) (h3 : qq.2.2.1 ≤ 10) :
    ∃ (body : List PV) (R' st' : Store), evCall TURNS D (k + 33) 26 [.loc 1, .loc (w + 2)] st = .ok (.tup body) st' ∧ TR ns R' st' ∧ R'.length = R.length ∧ Low (R.length + 2) R' ∧ VB 5 [] 0 body ∧ (pzL body : Int) ≤ 20 * qq.1 := by
  obtain ⟨lf, lA, lL, lG, lw⟩ := W.lt
  have hml := W.ml
  have len0 : st.length = R.length + 2 := h.len
  generalize hR0 : R ++ [Cell.lst [], .lst []] = R0
  have t0 : TR ns R0 (st ++ [.lst [], .lst []]) := by rw [← hR0]; exact h.push _
  have W0 : VW R0 as ls gs f A Lb G w m qq a b := by
    rw [← hR0]
    exact W.push fun c hc => by
      simp only [List.mem_cons, List.not_mem_nil, or_false] at hc
      rcases hc with rfl | rfl
      · rfl
      · rfl
  have F0 : R0[R.length]? = some (.lst (([] : List Str).map .str)) := by rw [← hR0]; simp
  have O0 : R0[R.length + 1]? = some (.lst (([] : List Str).map .str)) := by rw [← hR0]; simp
  have dc0 : dcls [] = [] := rfl
  obtain ⟨q, st1, d1, d2, d3, d4⟩ := drawR (k := k + 31) (m := 6) t0 (by decide)
  have hr := rng_ok' (n := 1 + q) (by omega) (by omega) st1
  have nb0 : NFB ([] ++ dcls []) qq := ⟨(fun x hx => by simp [dc0] at hx), (by simp [dc0]; omega)⟩
  obtain ⟨e, s, m1, ps, R1, q1, a1, b1, x9, m2, m3, mW, m4, m5, m6, m7, m8, m9, m10, m11, m12, m13⟩ := forLoop_inv (put := MG.put (.nm 5)) (body := evSs (evCall TURNS D (k + 32)) TURNS b26_0) (xs := (List.range (1 + q).toNat).map fun (k : Nat) => .int k)
    (fun j env s => ∃ (ps : List PV) (R1 : Store) (q1 : Int × Int × Int × Int) (a1 b1 : Int) (x9 : Option PV), env = [some (.loc 1), some (.loc (w + 2)), some (.fl ps), some (.loc (R.length + 2)), some (.loc (R.length + 3)), x9] ∧ TR ns R1 s ∧ VW R1 as ls gs f A Lb G w m q1 a1 b1 ∧
      Ag [f, R.length, R.length + 1] R0 R1 ∧ R1[R.length]? = some (.lst (([] ++ dcls ps).map .str)) ∧ R1[R.length + 1]? = some (.lst (([] ++ dcls ps).map .str)) ∧ NFB ([] ++ dcls ps) q1 ∧ NFB ([] ++ dcls ps) q1 ∧ VB 5 [] 0 ps ∧ 0 ≤ q1.1 ∧ ps.length ≤ j ∧ q1.1 ≤ qq.1 ∧ (pzL ps : Int) ≤ 20 * (qq.1 - q1.1)) (fun j x env s hx' ⟨ps, R1, q1, a1, b1, x9, e1, e2, eW, e3, e4, e5, e6, e7, e8, e9, e10, e11, e12⟩ => by
      subst e1
      have hj : j < (1 + q).toNat := by
        have := (List.getElem?_eq_some_iff.mp hx').1
        simpa using this
      have iw := ix_loc (k := 0) (eW.cw e2)
      rw [atI_0] at iw
      have i0 := ix_loc (k := 0) (eW.cf e2)
      rw [atI_0] at i0
      have jf := eW.cf e2
      have e60 : ixN 6 0 = some 0 := rfl
      refine ⟨[some (.loc 1), some (.loc (w + 2)), some (.fl ps), some (.loc (R.length + 2)), some (.loc (R.length + 3)), some x], rfl, ?_⟩
      by_cases hr : 0 < q1.1
      · obtain ⟨v, R2, s2, q2, a2, b2, g1, g2, gW, g3, g4, g5, g6, g7, g8, g9, g10, g11, g12, g13, g14⟩ := turn_ok (k := k) (n := 0) (last := false) (dI := 5) sk rfl e2 eW e3 e4 e5 (by omega) (by omega) (by omega) e6 e7 e8 e9 e10 e11 e12 hr
        rw [show R.length + 1 + 2 = R.length + 3 by omega, show k + 3 * 5 + 17 = k + 32 by omega] at g1
        have ec := fun st => esc_p g14 st
        have hl : ps.length < 16777216 := by omega
        have hh : evSs (evCall TURNS D (k + 32)) TURNS b26_0 [some (.loc 1), some (.loc (w + 2)), some (.fl ps), some (.loc (R.length + 2)), some (.loc (R.length + 3)), some x] s
            = .nx [some (.loc 1), some (.loc (w + 2)), some (.fl (ps ++ [v])), some (.loc (R.length + 2)), some (.loc (R.length + 3)), some x] s2 := by
          have g1 : evCall TURNS D (k + 32) 24 [.loc 1, .loc (w + 2), .loc (R.length + 2), .loc (R.length + 3), .int 0, .bl false, .int 5] (setAt s (f + 2) (FR (q1.1 - 1, q1.2.1, q1.2.2.1, q1.2.2.2) a1 b1)) = .ok v s2 := g1
          simp [b26_0, evSs, evS, ev, evA, evCs, iw, i0, jf, hr, e60, g1, ec, hl, sizeLine_eq]
        rw [hh]
        exact ⟨ps ++ [v], R2, q2, a2, b2, some x, rfl, g2, gW, g3, g4, g5, g6, g7, g8, g9, g10, g11, g12⟩
      · have hh : evSs (evCall TURNS D (k + 32)) TURNS b26_0 [some (.loc 1), some (.loc (w + 2)), some (.fl ps), some (.loc (R.length + 2)), some (.loc (R.length + 3)), some x] s
            = .nx [some (.loc 1), some (.loc (w + 2)), some (.fl ps), some (.loc (R.length + 2)), some (.loc (R.length + 3)), some x] s := by
          simp [b26_0, evSs, evS, ev, evA, evCs, iw, i0, hr]
        rw [hh]
        exact ⟨ps, R1, q1, a1, b1, some x, rfl, e2, eW, e3, e4, e5, e6, e7, e8, e9, by omega, e11, e12⟩) (1 + q).toNat 0 [some (.loc 1), some (.loc (w + 2)), some (.fl []), some (.loc (R.length + 2)), some (.loc (R.length + 3)), none] st1 (by simp)
      ⟨[], R0, qq, a, b, none, rfl, d2, W0, Ag.refl _ _, by rw [dc0, List.append_nil]; exact F0, by rw [dc0, List.append_nil]; exact O0, nb0, nb0, trivial, h0, by simp, by omega, by simp⟩
  subst m2
  rw [← hR0] at m4
  have g4' := m4.take
  have hl4 : R1.length = R.length + 2 := by rw [m4.1]; simp
  have g4 : Ag [f] R (R1.take R.length) := ⟨g4'.1, fun i hi => by
    by_cases h : i < R.length
    · exact g4'.2 i (by simp only [List.mem_cons, List.not_mem_nil, or_false] at hi ⊢; omega)
    · rw [List.getElem?_eq_none (by rw [List.length_take]; omega), List.getElem?_eq_none (by omega)]⟩
  have hf4 : (R1.take R.length)[f]? = some (.lst (FR q1 a1 b1)) := by rw [take_at (by omega)]; exact mW.hf
  have W4 := W.agf g4 hf4
  have lo : Low (R.length + 2) (R1.take R.length) := by have := W4.low; rw [g4.1] at this; exact this
  have bt := bi_tuple_fl ps
  obtain ⟨st', y1, y2⟩ := TR.cut h m3 (by omega) lo (v := .tup ps) m9.pure
  refine ⟨ps, _, st', ?_, y2, g4.1, lo, m9, by omega⟩
  have hh : evSs (evCall TURNS D (k + 32)) TURNS d26.body [some (.loc 1), some (.loc (w + 2)), none, none, none, none] st = .rt (.tup ps) s := by
    simp [d26, evSs, evS, ev, evA, evCs, evSrc, Src.many, ME.held, len0, d1, hr, m1, bt, sizeLine_eq, -List.map_map]
  exact (call_rt (k := k + 32) (f := 26) (d := d26) (args := [.loc 1, .loc (w + 2)]) (st := st) (s := s) (v := .tup ps) rfl rfl rfl rfl hh).trans y1
end K02.V

set_option maxHeartbeats 4000000
namespace K02.V
open PySem L2 U
variable {fs os : List Str} {ns : List Int} {R : Store} {st : Store} {as ls gs : List Str} {f w A F Lb G m o : Nat} {a b : Int} {qq : Int × Int × Int × Int}
theorem cut_lo (l : List PV) (j : Nat) : cutL l none (some (j : Int)) = l.take j := by
  unfold cutL
  rw [HT.sIx_nat, HT.sIx_none, List.drop_zero, Nat.sub_zero]
  by_cases h : j ≤ l.length
  · rw [Nat.min_eq_left h]
  · rw [Nat.min_eq_right (by omega), List.take_length, List.take_of_length_le (by omega)]
theorem cut_hi (l : List PV) (j : Nat) : cutL l (some (j : Int)) none = l.drop j := by
  unfold cutL
  rw [HT.sIx_nat, HT.sIx_none]
  by_cases h : j ≤ l.length
  · rw [Nat.min_eq_left h, List.take_of_length_le (by simp)]
  · rw [Nat.min_eq_right (by omega), List.drop_length, List.drop_of_length_le (by omega)]; simp
theorem sl_lo {xs : List Str} {i : Int} (h : 0 ≤ i) (st : Store) : slV (.fl (xs.map .str)) none (some i) st = some (.fl ((xs.take i.toNat).map .str)) := by
  obtain ⟨j, rfl⟩ : ∃ j : Nat, i = j := ⟨i.toNat, by omega⟩
  show some (PV.fl (cutL _ none (some (j : Int)))) = _
  rw [cut_lo, List.map_take, Int.toNat_natCast]
theorem sl_hi {xs : List Str} {i : Int} (h : 0 ≤ i) (st : Store) : slV (.fl (xs.map .str)) (some i) none st = some (.fl ((xs.drop i.toNat).map .str)) := by
  obtain ⟨j, rfl⟩ : ∃ j : Nat, i = j := ⟨i.toNat, by omega⟩
  show some (PV.fl (cutL _ (some (j : Int)) none)) = _
  rw [cut_hi, List.map_drop, Int.toNat_natCast]
def FRL : List (List PV) := [[.int 14, .int 12, .int 5, .int 0, .int 0], [.int 12, .int 9, .int 4, .int 1, .int 0], [.int 14, .int 8, .int 4, .int 2, .int 0], [.int 12, .int 4, .int 3, .int 3, .int 0], [.int 12, .int 2, .int 3, .int 4, .int 0], [.int 12, .int 5, .int 5, .int 0, .int 2],
  [.int 12, .int 3, .int 3, .int 1, .int 2], [.int 12, .int 3, .int 2, .int 2, .int 2], [.int 4, .int 3, .int 1, .int 1, .int 1], [.int 3, .int 2, .int 1, .int 0, .int 0], [.int 9, .int 6, .int 3, .int 0, .int 0], [.int 0, .int 0, .int 0, .int 0, .int 0]]
theorem frl_ok : ∀ l ∈ FRL, ∃ (qq : Int × Int × Int × Int) (a : Int), l = [.int qq.1, .int a, .int qq.2.1, .int qq.2.2.1, .int qq.2.2.2] ∧ 0 ≤ qq.1 ∧ qq.1 ≤ 14 ∧ qq.2.2.1 ≤ 4 := by
  intro l hl
  simp only [FRL, List.mem_cons, List.not_mem_nil, or_false] at hl
  rcases hl with rfl | rfl | rfl | rfl | rfl | rfl | rfl | rfl | rfl | rfl | rfl | rfl
  · exact ⟨(14, 5, 0, 0), 12, rfl, by decide, by decide, by decide⟩
  · exact ⟨(12, 4, 1, 0), 9, rfl, by decide, by decide, by decide⟩
  · exact ⟨(14, 4, 2, 0), 8, rfl, by decide, by decide, by decide⟩
  · exact ⟨(12, 3, 3, 0), 4, rfl, by decide, by decide, by decide⟩
  · exact ⟨(12, 3, 4, 0), 2, rfl, by decide, by decide, by decide⟩
  · exact ⟨(12, 5, 0, 2), 5, rfl, by decide, by decide, by decide⟩
  · exact ⟨(12, 3, 1, 2), 3, rfl, by decide, by decide, by decide⟩
  · exact ⟨(12, 2, 2, 2), 3, rfl, by decide, by decide, by decide⟩
  · exact ⟨(4, 1, 1, 1), 3, rfl, by decide, by decide, by decide⟩
  · exact ⟨(3, 1, 0, 0), 2, rfl, by decide, by decide, by decide⟩
  · exact ⟨(9, 3, 0, 0), 6, rfl, by decide, by decide, by decide⟩
  · exact ⟨(0, 0, 0, 0), 0, rfl, by decide, by decide, by decide⟩
theorem world_ok {k : Nat} (h : TR ns R st) (hlow : Low (R.length + 2) R) : ∃ (as ls gs : List Str) (qq : Int × Int × Int × Int) (a : Int) (st' : Store) (R' : Store),
    evCall TURNS D (k + 3) 18 [.loc 1] st = .ok (.fl [.loc (R.length + 15), .loc (R.length + 14), .loc (R.length + 16), .loc (R.length + 17)]) st' ∧ TR ns R' st' ∧ R'.length = R.length + 16 ∧
    VW (R' ++ [.lst [.loc (R.length + 15), .loc (R.length + 14), .loc (R.length + 16), .loc (R.length + 17)]]) as ls gs (R.length + 13) (R.length + 12) (R.length + 14) (R.length + 15) (R.length + 16) (R.length + 17) qq a 60 ∧
    (∀ i, i < R.length → R'[i]? = R[i]?) ∧ NM as ∧ NM ls ∧ (gs.length ≤ 50 ∧ ∀ x ∈ gs, B 60 x) ∧ 0 ≤ qq.1 ∧ qq.1 ≤ 14 ∧ qq.2.2.1 ≤ 10 := by
  have len0 : st.length = R.length + 2 := h.len
  generalize hr : R.length = r at *
  have t1 : TR ns (R ++ FRL.map Cell.lst) (st ++ FRL.map Cell.lst) := h.push _
  obtain ⟨xs, st2, n1, n2, n3, n4⟩ := K02.N.names_ok (k := k) (mn := 5) (by omega) (by omega) t1
  have n2 : xs.length = 5 := n2
  obtain ⟨q1, st3, a1, a2, a3, a4⟩ := drawR (k := k + 1) (m := 5) n4 (by decide)
  generalize has : xs.take (1 + q1).toNat = as
  have t3 : TR ns ((R ++ FRL.map Cell.lst) ++ [.lst (as.map .str)]) (st3 ++ [.lst (as.map .str)]) := a2.push _
  obtain ⟨q2, st4, b1, b2, b3, b4⟩ := drawR (k := k + 1) (m := 4) t3 (by decide)
  obtain ⟨q3, st5, c1, c2, c3, c4⟩ := drawR (k := k + 1) (m := 4) b2 (by decide)
  obtain ⟨q4, st6, d1, d2, d3, d4⟩ := drawR (k := k + 1) (m := 12) c2 (by decide)
  obtain ⟨fl, f1, f2⟩ : ∃ fl, fl ∈ FRL ∧ FRL[q4.toNat]? = some fl := ⟨FRL[q4.toNat]'(by show q4.toNat < 12; omega), List.getElem_mem _, by simp⟩
  obtain ⟨qq, a, rfl, g1, g2, g3⟩ := frl_ok _ f1
  have t6 : TR ns (((R ++ FRL.map Cell.lst) ++ [.lst (as.map .str)]) ++ [.lst (FR qq a 60)]) (st6 ++ [.lst (FR qq a 60)]) := d2.push _
  obtain ⟨q5, st7, e1, e2, e3, e4⟩ := drawR (k := k + 1) (m := 3) t6 (by decide)
  generalize hls : (xs.drop q2.toNat).take (1 + q5).toNat = ls
  have t7 : TR ns ((((R ++ FRL.map Cell.lst) ++ [.lst (as.map .str)]) ++ [.lst (FR qq a 60)]) ++ [.lst (ls.map .str)]) (st7 ++ [.lst (ls.map .str)]) := e2.push _
  obtain ⟨q6, st8, i1, i2, i3, i4⟩ := drawR (k := k + 1) (m := 4) t7 (by decide)
  generalize hgs : (xs.drop q3.toNat).take (1 + q6).toNat = gs
  have t8 : TR ns (((((R ++ FRL.map Cell.lst) ++ [.lst (as.map .str)]) ++ [.lst (FR qq a 60)]) ++ [.lst (ls.map .str)]) ++ [.lst (gs.map .str)]) (st8 ++ [.lst (gs.map .str)]) := i2.push _
  have fl12 : (FRL.map Cell.lst).length = 12 := rfl
  have lt3 : st3.length = r + 14 := by rw [a2.len, List.length_append, hr, fl12]
  have lt6 : st6.length = r + 15 := by rw [d2.len, List.length_append, List.length_append, hr, fl12]; rfl
  have lt7 : st7.length = r + 16 := by rw [e2.len, List.length_append, List.length_append, List.length_append, hr, fl12]; rfl
  have lt8 : st8.length = r + 17 := by rw [i2.len, List.length_append, List.length_append, List.length_append, List.length_append, hr, fl12]; rfl
  -- the drawn row of numbers
  have nf : st6[r + q4.toNat + 2]? = some (.lst [.int qq.1, .int a, .int qq.2.1, .int qq.2.2.1, .int qq.2.2.2]) := by
    have hq : q4.toNat < 12 := by omega
    rw [TR.at d2, List.getElem?_append_left (by rw [List.length_append, hr, fl12]; omega), List.getElem?_append_right (by omega), hr, show r + q4.toNat - r = q4.toNat by omega, List.getElem?_map, f2]
    rfl
  have ixq : ∀ s : Store, ixV (.fl [.loc (r + 2), .loc (r + 3), .loc (r + 4), .loc (r + 5), .loc (r + 6), .loc (r + 7), .loc (r + 8), .loc (r + 9), .loc (r + 10), .loc (r + 11), .loc (r + 12), .loc (r + 13)]) (.int q4) s = some (.loc (r + q4.toNat + 2)) := fun s => by
    rw [ix_fl_]
    obtain ⟨n, hn⟩ : ∃ n : Nat, q4 = n := ⟨q4.toNat, by omega⟩
    subst hn
    have : n < 12 := by omega
    refine atI_nn (by omega) ?_
    rw [Int.toNat_natCast]
    have hs : n = 0 ∨ n = 1 ∨ n = 2 ∨ n = 3 ∨ n = 4 ∨ n = 5 ∨ n = 6 ∨ n = 7 ∨ n = 8 ∨ n = 9 ∨ n = 10 ∨ n = 11 := by omega
    rcases hs with rfl | rfl | rfl | rfl | rfl | rfl | rfl | rfl | rfl | rfl | rfl | rfl <;> rfl
  have adq : binV .add (.loc (r + q4.toNat + 2)) (.fl [.int 60]) st6 = some (.fl (FR qq a 60)) := by
    unfold binV
    simp only [U.listOf, nf]
    rw [if_pos (by rw [sizeLine_eq]; simp)]
    rfl
  have E1 : ∀ (call : Nat → List PV → Store → Res PV) (env : En), ev call (.lst (.cons (.lst (.cons (.con (.int 14)) (.cons (.con (.int 12)) (.cons (.con (.int 5)) (.cons (.con (.int 0)) (.cons (.con (.int 0)) .nil)))))) (.cons (.lst (.cons (.con (.int 12)) (.cons (.con (.int 9)) (.cons (.con (.int 4)) (.cons (.con (.int 1)) (.cons (.con (.int 0)) .nil)))))) (.cons (.lst (.cons (.con (.int 14)) (.cons (.con (.int 8)) (.cons (.con (.int 4)) (.cons (.con (.int 2)) (.cons (.con (.int 0)) .nil)))))) (.cons (.lst (.cons (.con (.int 12)) (.cons (.con (.int 4)) (.cons (.con (.int 3)) (.cons (.con (.int 3)) (.cons (.con (.int 0)) .nil)))))) (.cons (.lst (.cons (.con (.int 12)) (.cons (.con (.int 2)) (.cons (.con (.int 3)) (.cons (.con (.int 4)) (.cons (.con (.int 0)) .nil)))))) (.cons (.lst (.cons (.con (.int 12)) (.cons (.con (.int 5)) (.cons (.con (.int 5)) (.cons (.con (.int 0)) (.cons (.con (.int 2)) .nil)))))) (.cons (.lst (.cons (.con (.int 12)) (.cons (.con (.int 3)) (.cons (.con (.int 3)) (.cons (.con (.int 1)) (.cons (.con (.int 2)) .nil)))))) (.cons (.lst (.cons (.con (.int 12)) (.cons (.con (.int 3)) (.cons (.con (.int 2)) (.cons (.con (.int 2)) (.cons (.con (.int 2)) .nil)))))) (.cons (.lst (.cons (.con (.int 4)) (.cons (.con (.int 3)) (.cons (.con (.int 1)) (.cons (.con (.int 1)) (.cons (.con (.int 1)) .nil)))))) (.cons (.lst (.cons (.con (.int 3)) (.cons (.con (.int 2)) (.cons (.con (.int 1)) (.cons (.con (.int 0)) (.cons (.con (.int 0)) .nil)))))) (.cons (.lst (.cons (.con (.int 9)) (.cons (.con (.int 6)) (.cons (.con (.int 3)) (.cons (.con (.int 0)) (.cons (.con (.int 0)) .nil)))))) (.cons (.lst (.cons (.con (.int 0)) (.cons (.con (.int 0)) (.cons (.con (.int 0)) (.cons (.con (.int 0)) (.cons (.con (.int 0)) .nil)))))) .nil))))))))))))) .val env st
      = .ok (.fl [.loc (r + 2), .loc (r + 3), .loc (r + 4), .loc (r + 5), .loc (r + 6), .loc (r + 7), .loc (r + 8), .loc (r + 9), .loc (r + 10), .loc (r + 11), .loc (r + 12), .loc (r + 13)]) (st ++ FRL.map Cell.lst) := fun call env => by
    simp [ev, evA, len0, sizeLine_eq, FRL]
  generalize hFL : FRL.map Cell.lst = FL at *
  have s1 := fun st => sl_lo (xs := xs) (i := 1 + q1) (by omega) st
  rw [has] at s1
  obtain ⟨xs2, hx2⟩ : ∃ l, l = xs.drop q2.toNat := ⟨_, rfl⟩
  obtain ⟨xs3, hx3⟩ : ∃ l, l = xs.drop q3.toNat := ⟨_, rfl⟩
  have s2 := fun st => sl_hi (xs := xs) (i := q2) b3 st
  rw [← hx2] at s2
  have s3 := fun st => sl_hi (xs := xs) (i := q3) c3 st
  rw [← hx3] at s3
  have s4 := fun st => sl_lo (xs := xs2) (i := 1 + q5) (by omega) st
  rw [hx2, hls, ← hx2] at s4
  have s5 := fun st => sl_lo (xs := xs3) (i := 1 + q6) (by omega) st
  rw [hx3, hgs, ← hx3] at s5
  have hh : evSs (evCall TURNS D (k + 2)) TURNS d18.body [some (.loc 1), none, none, none, none, none] st = .rt (.fl [.loc (r + 15), .loc (r + 14), .loc (r + 16), .loc (r + 17)]) (st8 ++ [.lst (gs.map .str)]) := by
    unfold d18
    simp only [evSs, evS, E1, to_ok_, then_nx_, if_true, List.set_cons_succ, List.set_cons_zero]
    simp [ev, evA, evCs, evS, evSs, ME.held, n1, a1, s1, s2, s3, s4, s5, b1, c1, d1, e1, i1, ixq, adq, lt3, lt6, lt7, lt8, ME.absent, bound_non, bound_int, sizeLine_eq]
  have lenR : (((((R ++ FL) ++ [Cell.lst (as.map PV.str)]) ++ [Cell.lst (FR qq a 60)]) ++ [Cell.lst (ls.map PV.str)]) ++ [Cell.lst (gs.map PV.str)]).length = r + 16 := by
    simp only [List.length_append, hr, fl12, List.length_cons, List.length_nil]
  have nlow : PV.low st.length (.fl [.loc (r + 15), .loc (r + 14), .loc (r + 16), .loc (r + 17)]) = false := by
    show (decide (r + 15 < st.length) && _) = false
    rw [len0, decide_eq_false (by omega)]; rfl
  have lv : U.leave st.length (.fl [.loc (r + 15), .loc (r + 14), .loc (r + 16), .loc (r + 17)]) (st8 ++ [.lst (gs.map .str)]) = .ok (.fl [.loc (r + 15), .loc (r + 14), .loc (r + 16), .loc (r + 17)]) (st8 ++ [.lst (gs.map .str)]) := by
    unfold U.leave
    split
    · rfl
    · rw [nlow]; rfl
  have inB : ∀ l : List Str, (∀ x ∈ l, x ∈ xs) → ∀ x ∈ l, B 60 x := fun l hl x hx => n3 x (hl x hx)
  have as5 : as ≠ [] ∧ as.length ≤ 50 ∧ ∀ x ∈ as, B 60 x := by
    refine ⟨fun e => ?_, ?_, inB as fun x hx => List.mem_of_mem_take (by rw [has]; exact hx)⟩
    · have := congrArg List.length (has.trans e)
      rw [List.length_take, List.length_nil] at this
      omega
    · rw [← has, List.length_take]; omega
  have ls5 : ls ≠ [] ∧ ls.length ≤ 50 ∧ ∀ x ∈ ls, B 60 x := by
    refine ⟨fun e => ?_, ?_, inB ls fun x hx => List.mem_of_mem_drop (List.mem_of_mem_take (by rw [hls]; exact hx))⟩
    · have := congrArg List.length (hls.trans e)
      rw [List.length_take, List.length_drop, List.length_nil] at this
      omega
    · rw [← hls, List.length_take, List.length_drop]; omega
  have gs5 : gs.length ≤ 50 ∧ ∀ x ∈ gs, B 60 x :=
    ⟨by rw [← hgs, List.length_take, List.length_drop]; omega, inB gs fun x hx => List.mem_of_mem_drop (List.mem_of_mem_take (by rw [hgs]; exact hx))⟩
  have hFLl : Low (r + 2) FL := by
    rw [← hFL]
    intro c hc
    simp only [FRL, List.map_cons, List.map_nil, List.mem_cons, List.not_mem_nil, or_false] at hc
    rcases hc with rfl | rfl | rfl | rfl | rfl | rfl | rfl | rfl | rfl | rfl | rfl | rfl <;> rfl
  refine ⟨as, ls, gs, qq, a, _, _, (call_rt (k := k + 2) (f := 18) (d := d18) (args := [.loc 1]) rfl rfl rfl rfl hh).trans lv, t8, lenR, ?_, ?_, as5, ls5, gs5, g1, g2, by omega⟩
  · have at12 : ∀ (X Y : Store) (c : Cell) (n : Nat), X.length = n → (X ++ c :: Y)[n]? = some c := fun X Y c n e => by
      rw [List.getElem?_append_right (by omega), e, Nat.sub_self]; rfl
    have l2 : (R ++ FL).length = r + 12 := by rw [List.length_append, hr, fl12]
    refine ⟨?_, ?_, ?_, ?_, ?_, by omega, by omega, ?_, ?_⟩
    · rw [List.append_assoc, List.append_assoc, List.append_assoc]
      exact at12 _ _ _ _ (by rw [List.length_append, l2]; rfl)
    · rw [List.append_assoc, List.append_assoc, List.append_assoc, List.append_assoc]
      exact at12 _ _ _ _ l2
    · rw [List.append_assoc, List.append_assoc]
      exact at12 _ _ _ _ (by rw [List.length_append, List.length_append, l2]; rfl)
    · rw [List.append_assoc]
      exact at12 _ _ _ _ (by rw [List.length_append, List.length_append, List.length_append, l2]; rfl)
    · exact at12 _ _ _ _ lenR
    · rw [List.length_append, lenR]; simp
    · intro c hc
      rw [List.length_append, lenR]
      simp only [List.mem_append, List.mem_cons, List.not_mem_nil, or_false] at hc
      rcases hc with (((((hc | hc) | rfl) | rfl) | rfl) | rfl) | rfl
      · exact hlow.mono (by omega) c hc
      · exact hFLl.mono (by omega) c hc
      · exact low_strs _ _
      · rfl
      · exact low_strs _ _
      · exact low_strs _ _
      · show (decide (r + 15 < r + 16 + 1 + 2) && (decide (r + 14 < r + 16 + 1 + 2) && (decide (r + 16 < r + 16 + 1 + 2) && (decide (r + 17 < r + 16 + 1 + 2) && true)))) = true
        simp
  · intro i hi
    rw [List.append_assoc, List.append_assoc, List.append_assoc, List.append_assoc, List.getElem?_append_left (by omega)]
end K02.V

set_option maxHeartbeats 4000000
namespace K02.V
open PySem L2 U
variable {fs : List Str} {st : Store}
/-! ### the law's resolving -/
theorem lc_liveF {call : Nat → List PV → Store → Res PV} {test : En → Store → Res Bool} {elt : En → Store → Res PV} {i n : Nat} {env : En} {xs : List PV} {st : Store} (p : PV → Bool) (g : PV → PV) (hs : st[n]? = some (.lst xs)) (hz : xs.length < 16000000)
    (h : ∀ x ∈ xs, test (env.set i (some x)) st = .ok (p x) st ∧ (p x = true → elt (env.set i (some x)) st = .ok (g x) st ∧ (g x).isFl = false)) :
    lcLoop test elt (MG.put (.nm i)) env (.live n xs.length) 0 xs.length [] st = .ok (.fl ((xs.filter p).map g)) st := by
  have sq := seq_loc hs
  have go : ∀ (m j : Nat) (acc : List PV), j + m = xs.length → acc.length ≤ j → lcLoop test elt (MG.put (.nm i)) env (.live n xs.length) j m acc st = .ok (.fl (acc ++ ((xs.drop j).filter p).map g)) st := by
    intro m
    induction m with
    | zero =>
      intro j acc e _
      have e : j = xs.length := by omega
      subst e
      have f : (Src.live n xs.length).fits st = true := by
        show (match seqOf (.loc n) st with | some ys => ys.length == xs.length | none => false) = true
        rw [sq]; simp
      unfold lcLoop
      rw [f, List.drop_length]
      simp
    | succ m ih =>
      intro j acc e hl
      have hj : j < xs.length := by omega
      have gg : (Src.live n xs.length).get j st = some xs[j] := by
        show (match seqOf (.loc n) st with | some ys => if ys.length = xs.length then ys[j]? else none | none => none) = _
        rw [sq]; simp [hj]
      obtain ⟨h1, h2⟩ := h xs[j] (List.getElem_mem hj)
      have dr : xs.drop j = xs[j] :: xs.drop (j + 1) := List.drop_eq_getElem_cons hj
      unfold lcLoop
      rw [gg]
      simp only [MG.put, h1, bind_ok_]
      cases hp : p xs[j] with
      | false =>
        simp only [Bool.false_eq_true, if_false]
        rw [ih (j + 1) acc (by omega) (by omega), dr, List.filter_cons_of_neg (by rw [hp]; simp)]
      | true =>
        obtain ⟨h3, h4⟩ := h2 hp
        simp only [if_true, h3, bind_ok_]
        have es : esc (g xs[j]) st = (g xs[j], st) := by
          cases q : g xs[j] <;> first | rfl | (rw [q] at h4; cases h4)
        rw [es, if_pos (by rw [sizeLine_eq]; omega), ih (j + 1) _ (by omega) (by simp; omega), dr, List.filter_cons_of_pos hp]
        simp
  have := go xs.length 0 [] (by omega) (by simp)
  simpa using this
def PR (pairs : List (Str × Int)) : List PV := pairs.map fun p => .tup [.str p.1, .int p.2]
def pq (x : Str) (v : PV) : Bool := match v with
  | .tup [.str y, .int _] => decide (y = x)
  | _ => false
def pg (v : PV) : PV := match v with
  | .tup [_, .int i] => .int i
  | _ => .non
theorem found_eq (x : Str) : ∀ pairs : List (Str × Int), ((PR pairs).filter (pq x)).map pg = ((pairs.filter fun p => decide (p.1 = x)).map fun p => .int p.2)
  | [] => rfl
  | p :: pairs => by
    have ih := found_eq x pairs
    show ((PV.tup [.str p.1, .int p.2] :: PR pairs).filter (pq x)).map pg = _
    by_cases h : p.1 = x
    · rw [List.filter_cons_of_pos (show pq x (.tup [.str p.1, .int p.2]) = true from decide_eq_true h), List.filter_cons_of_pos (p := fun q : Str × Int => decide (q.1 = x)) (by simpa using h), List.map_cons, List.map_cons, ih]; rfl
    · rw [List.filter_cons_of_neg (show ¬ pq x (.tup [.str p.1, .int p.2]) = true by show ¬ decide (p.1 = x) = true; simp [h]), List.filter_cons_of_neg (p := fun q : Str × Int => decide (q.1 = x)) (by simpa using h), ih]
theorem found_last {x : Str} {pairs : List (Str × Int)} (h : x ∈ pairs.map (·.1)) : ∃ (l : List PV) (i : Int), ((PR pairs).filter (pq x)).map pg = l ∧ atI l ((l.length : Int) - 1) = some (.int i) := by
  refine ⟨_, (((pairs.filter fun p => decide (p.1 = x)).map fun p => p.2).getLastD 0), rfl, ?_⟩
  rw [found_eq]
  obtain ⟨p, hp, rfl⟩ := List.mem_map.mp h
  have ne : (pairs.filter fun q => decide (q.1 = p.1)) ≠ [] := List.ne_nil_of_mem (List.mem_filter.mpr ⟨hp, by simp⟩)
  generalize (pairs.filter fun q => decide (q.1 = p.1)) = l at ne
  have hl : 1 ≤ l.length := by
    cases l with
    | nil => exact absurd rfl ne
    | cons a l => simp
  rw [List.length_map]
  refine atI_nn (by omega) ?_
  rw [show ((l.length : Int) - 1).toNat = l.length - 1 by omega, List.getElem?_map]
  have : (l.map fun p => p.2).getLastD 0 = (l[l.length - 1]'(by omega)).2 := by
    rw [List.getLastD_eq_getLast?, List.getLast?_map, List.getLast?_eq_getElem?, List.getElem?_eq_getElem (by omega)]
    rfl
  rw [List.getElem?_eq_getElem (by omega), this]
  rfl
theorem numbered_ok {n : Nat} {pairs : List (Str × Int)} (hs : st[n]? = some (.lst (PR pairs))) (hp : pairs.length ≤ 100000) (hin : ∀ x ∈ fs, x ∈ pairs.map (·.1)) :
    ∀ (d : Nat) (c : PV), WC fs d c → pz c ≤ 100000 → ∃ c', (∀ k, evCall TURNS D (k + d + 1) 35 [c, .loc n] st = .ok c' st) ∧ ZC d c' ∧ pz c' ≤ pz c := by
  have sG : srcV (.loc n) st = some (.live n (PR pairs).length) := by
    show (seqOf (.loc n) st).map _ = _
    rw [seq_loc hs]; rfl
  have l : ∀ (c : PV), WF fs c → ∃ c', (∀ k, evCall TURNS D (k + 1) 35 [c, .loc n] st = .ok c' st) ∧ ZF c' ∧ pz c' ≤ pz c := by
    intro c h
    rcases h with ⟨x, hx, rfl⟩ | ⟨x, hm, hx, rfl⟩
    · refine ⟨.tup [.str "call", .str x], fun k => ?_, ⟨_, _, .inl rfl, rfl, by simp, rfl⟩, Nat.le_refl _⟩
      rw [evCall]
      simp [D, d35, evSs, evS, ev, evA, evCs, ME.held, leave_id]
    · obtain ⟨fl, i, f1, f2⟩ := found_last (hin x hm)
      refine ⟨.tup [.str "flag", .int i], fun k => ?_, ⟨_, _, .inr rfl, rfl, by simp, rfl⟩, by simp⟩
      have lc : lcLoop (fun e s => (ev (evCall TURNS D k) c35_1 .test e s).bind fun x s1 => opt (isBl x) s1) (ev (evCall TURNS D k) e35_2 .val) (MG.put (.nm 3)) [some (.tup [.str "flag", .str x]), some (.loc n), none, none, none] (.live n (PR pairs).length) 0 (PR pairs).length [] st = .ok (.fl fl) st := by
        rw [← f1]
        refine lc_liveF (call := evCall TURNS D k) (pq x) pg hs (by show (pairs.map _).length < _; rw [List.length_map]; omega) fun y hy => ?_
        obtain ⟨p, hp, rfl⟩ := List.mem_map.mp hy
        refine ⟨?_, fun _ => ⟨?_, rfl⟩⟩
        · simp [c35_1, ev, pq]
        · simp [e35_2, ev, pg]
      rw [evCall]
      simp [D, d35, evSs, evS, ev, evA, evCs, ME.held, sG, Src.many, MG.slots, U.wipe, lc, f2, leave_id, sizeLine_eq]
  intro d
  induction d with
  | zero =>
    intro c h hz
    obtain ⟨c', h1, h2, h3⟩ := l c h
    exact ⟨c', fun k => h1 k, h2, h3⟩
  | succ d ih =>
    intro c h hz
    rcases h with h | ⟨c, rfl, h⟩ | ⟨w, cs, hw, rfl, h, ne⟩
    · obtain ⟨c', h1, h2, h3⟩ := l c h
      exact ⟨c', fun k => h1 (k + d + 1), .inl h2, h3⟩
    · obtain ⟨c', h1, h2, h3⟩ := ih c h (by simp at hz; omega)
      refine ⟨.tup [.str "not", c'], fun k => ?_, .inr (.inl ⟨c', rfl, h2⟩), by simp; omega⟩
      have i := h1 k
      have e1 := esc_p h.pure
      have e2 := esc_p h2.pure
      rw [show k + (d + 1) + 1 = (k + d + 1) + 1 by omega, evCall]
      simp [D, d35, evSs, evS, ev, evA, evCs, ME.held, leave_id, i, e1, e2, sizeLine_eq]
    · have np := noStr_of fun c hc => by obtain ⟨w, x, e, _⟩ := (h c hc).1.tup; exact ⟨_, e⟩
      simp only [pz_node, pzL_cons, pzL_nil, pz_body np] at hz ⊢
      have hl := pz_many fun c hc => (h c hc).1.pos
      obtain ⟨g, hg⟩ := choose_on (P := fun c c' => (∀ k, evCall TURNS D (k + d + 1) 35 [c, .loc n] st = .ok c' st) ∧ ZC d c' ∧ pz c' ≤ pz c) (xs := cs) fun c hc => ih c (h c hc).1 (by have := pzL_mem hc; omega)
      have pm : pzL (cs.map g) ≤ pzL cs := by
        have : ∀ cs : List PV, (∀ c ∈ cs, pz (g c) ≤ pz c) → pzL (cs.map g) ≤ pzL cs := fun cs => by
          induction cs with
          | nil => intro _; simp
          | cons c cs ih2 =>
            intro q
            have q1 := q c List.mem_cons_self
            have q2 := ih2 fun x hx => q x (List.mem_cons_of_mem _ hx)
            rw [List.map_cons, pzL_cons, pzL_cons]; omega
        exact this cs fun c hc => (hg c hc).2.2
      have zc : ∀ c ∈ cs.map g, ZC d c := fun c hc => by
        obtain ⟨y, hy, rfl⟩ := List.mem_map.mp hc
        exact (hg y hy).2.1
      have np2 : noStr (cs.map g) := noStr_of fun c hc => by obtain ⟨w, x, e⟩ := (zc c hc).tup; exact ⟨_, e⟩
      refine ⟨.tup [.str w, .tup (cs.map g)], fun k => ?_, .inr (.inr ⟨w, cs.map g, hw, rfl, zc, fun e => ne (List.map_eq_nil_iff.mp e)⟩), by rw [pz_node, pzL_cons, pzL_nil, pz_body np2]; omega⟩
      have lc : ∀ env : En, env.length = 5 → env[1]? = some (some (.loc n)) → lcLoop (fun _ s => .ok true s) (ev (evCall TURNS D (k + d + 1)) e35_0 .val) (MG.put (.nm 4)) env (.items cs) 0 cs.length [] st = .ok (.fl (cs.map g)) st := fun env h5 h1 => by
        refine lc_each g (by omega) (by omega) fun c hc env' he h2 => ⟨?_, ?_⟩
        · have i := (hg c hc).1 k
          have h1' : env'[1]? = some (some (.loc n)) := by rw [he, List.getElem?_set_ne (by decide)]; exact h1
          simp [e35_0, ev, evA, h2, h1', varV_p (h c hc).1.pure, esc_p (h c hc).1.pure, i]
        · exact pure_nofl (hg c hc).2.1.pure
      have bt := bi_tuple_fl (cs.map g)
      rw [show k + (d + 1) + 1 = (k + d + 1) + 1 by omega, evCall]
      rcases hw with rfl | rfl <;> simp [D, d35, evSs, evS, ev, evA, evCs, ME.held, leave_id, srcV, Src.many, MG.slots, U.wipe, lc, bt, sizeLine_eq]
theorem eq_lab {x : Str} {l : PV} (h : LAB l) : ∃ b, ∀ st, cmpV .eq (.str x) l st = some b := by
  rcases h with rfl | ⟨y, rfl, _⟩
  · exact ⟨_, fun st => rfl⟩
  · exact ⟨decide (x = y), fun st => cmp_eq_str _ _ _⟩
theorem rng_any {i j : Int} {st : Store} (h : 0 ≤ i ∧ i ≤ 100000 ∧ 0 ≤ j ∧ j ≤ 1000000) : rngV (.int i) (.int j) st = .ok (.items ((List.range (j - i).toNat).map fun (k : Nat) => .int (i + k))) st := if_pos (by omega)
theorem jump_ret {L : Nat} {l : PV} (h : NUM l) : ∃ (v : PV), (∀ k st, evCall TURNS D (k + 1) 36 [.tup [.str "return", l], .loc L] st = .ok v st) ∧ (∀ P', ZH P' v) ∧ pz v = 1 := by
  rcases h with rfl | ⟨i, rfl, i0, i1⟩
  · refine ⟨.tup [.str "stop", .str "return"], fun k st => ?_, fun P' => .simple (by simp) rfl (by simp), by simp⟩
    rw [evCall]
    simp [D, d36, evSs, evS, ev, evA, evCs, ME.held, leave_id, sizeLine_eq]
  · have sb := fun st => bi_str (i := i) (st := st) (by omega)
    have nl := num_len i0 (by omega)
    have ad : ∀ st, binV .add (.str "return ") (.str (toString i)) st = some (.str ("return " ++ toString i)) := fun st => add_ok (by decide +kernel) (by have := nl.1; omega)
    have isn : ∀ st, cmpV .isN (.int i) .non st = some false := fun st => rfl
    generalize hT : (toString i : Str) = ti at *
    refine ⟨.tup [.str "stop", .str ("return " ++ ti)], fun k st => ?_, fun P' => .simple (by simp) rfl (by simp), by simp⟩
    rw [evCall]
    simp [D, d36, evSs, evS, ev, evA, evCs, ME.held, leave_id, sizeLine_eq, isn, sb, ad]
theorem jump_one {n L : Nat} {lls : List PV} {w : Str} {l : PV} (hs : st[L]? = some (.lst lls)) (hn : lls.length = n) (hL : ∀ l ∈ lls, LAB l) (lab : LAB l) (bl : biV .len [.loc L] st = some (.int n)) :
    ∀ j : Nat, ∃ bb : Bool, j < n → ∀ call : Nat → List PV → Store → Res PV, evSs call TURNS b36_0 [some (.tup [.str w, l]), some (.loc L), some (.int (1 + j))] st = if bb then .rt (.tup [.str w, .int (1 + j)]) st else .nx [some (.tup [.str w, l]), some (.loc L), some (.int (1 + j))] st := fun j => by
  by_cases hj : j < n
  · obtain ⟨y, y1, y2⟩ : ∃ y, y ∈ lls ∧ atI lls ((n : Int) - (1 + j)) = some y := pick (xs := lls) (i := (n : Int) - (1 + j)) (by omega) (by omega)
    have ixl := ix_loc (k := (n : Int) - (1 + j)) hs
    rw [y2] at ixl
    rcases lab with rfl | ⟨z, rfl, _⟩
    · exact ⟨true, fun _ call => by simp [b36_0, evSs, evS, ev, evA, evCs, ME.held, sizeLine_eq]⟩
    · obtain ⟨bb, hb⟩ := eq_lab (x := z) (hL y y1)
      have hb := hb st
      have isn : cmpV .isN (.str z) .non st = some false := rfl
      refine ⟨bb, fun _ call => ?_⟩
      cases bb <;> simp [b36_0, evSs, evS, ev, evA, evCs, ME.held, isn, bl, ixl, hb, sizeLine_eq]
  · exact ⟨true, fun h => absurd h hj⟩
theorem jump_loop {n L : Nat} {w : Str} {l : PV} {pr : Nat → Bool} (hpr : ∀ j, j < n → ∀ call : Nat → List PV → Store → Res PV, evSs call TURNS b36_0 [some (.tup [.str w, l]), some (.loc L), some (.int (1 + j))] st = if pr j then .rt (.tup [.str w, .int (1 + j)]) st else .nx [some (.tup [.str w, l]), some (.loc L), some (.int (1 + j))] st) (call : Nat → List PV → Store → Res PV) :
    (∃ x2, forLoop (MG.put (.nm 2)) (evSs call TURNS b36_0) (.items ((List.range n).map fun (k : Nat) => .int (1 + k))) 0 n [some (.tup [.str w, l]), some (.loc L), none] st = .nx [some (.tup [.str w, l]), some (.loc L), x2] st ∧ ∀ i, i < n → pr i = false) ∨
        ∃ j : Nat, forLoop (MG.put (.nm 2)) (evSs call TURNS b36_0) (.items ((List.range n).map fun (k : Nat) => .int (1 + k))) 0 n [some (.tup [.str w, l]), some (.loc L), none] st = .rt (.tup [.str w, .int (1 + j)]) st ∧ j < n ∧ pr j = true ∧ ∀ i, i < j → pr i = false := by
  have r := forLoop_ret (put := MG.put (.nm 2)) (body := evSs call TURNS b36_0) (xs := (List.range n).map fun (k : Nat) => .int (1 + k))
    (fun j e s => (∃ x2, e = [some (.tup [.str w, l]), some (.loc L), x2]) ∧ s = st ∧ ∀ i, i < j → pr i = false) (fun v s => s = st ∧ ∃ j : Nat, v = .tup [.str w, .int (1 + j)] ∧ j < n ∧ pr j = true ∧ ∀ i, i < j → pr i = false) (fun j x e s hx ⟨⟨x2, e1⟩, e2, e3⟩ => by
      subst e1 e2
      have hj : j < n := by
        have := (List.getElem?_eq_some_iff.mp hx).1
        simpa using this
      have hx : x = .int (1 + j) := by
        rw [List.getElem?_map, List.getElem?_range hj] at hx
        exact (Option.some.inj hx).symm
      subst hx
      refine ⟨[some (.tup [.str w, l]), some (.loc L), some (.int (1 + j))], rfl, ?_⟩
      rw [hpr j hj call]
      cases q : pr j with
      | true => exact ⟨rfl, j, rfl, hj, q, e3⟩
      | false => exact ⟨⟨_, rfl⟩, rfl, fun i hi => by
          by_cases e : i = j
          · rw [e]; exact q
          · exact e3 i (by omega)⟩) n 0 [some (.tup [.str w, l]), some (.loc L), none] st (by simp) ⟨⟨none, rfl⟩, rfl, fun i h => absurd h (by omega)⟩
  rw [show ((List.range n).map fun (k : Nat) => PV.int (1 + k)).length = n by simp] at r
  rcases r with ⟨e, s, r1, ⟨x2, r2⟩, r3, r4⟩ | ⟨v, s, r1, r2, j, r3, r4, r5, r6⟩
  · subst r2 r3; exact .inl ⟨x2, r1, r4⟩
  · subst r2 r3; exact .inr ⟨j, r1, r4, r5, r6⟩
theorem jump_ok {n L : Nat} {lls : List PV} {w : Str} {l : PV} (hs : st[L]? = some (.lst lls)) (hn : lls.length = n) (hz : n ≤ 100000) (hL : ∀ l ∈ lls, LAB l) (hw : w = "break" ∨ w = "continue") (hl : (l = .non ∧ 0 < n) ∨ ∃ x : Str, B 60 x ∧ l = .str x) :
    ∃ (v : PV), (∀ k, evCall TURNS D (k + 1) 36 [.tup [.str w, l], .loc L] st = .ok v st) ∧ (∀ P', ZH P' v) ∧ pz v = 1 := by
  have bl : biV .len [.loc L] st = some (.int n) := by rw [bi_len_loc hs, hn]
  have wr : ¬ w = "return" := by rcases hw with rfl | rfl <;> simp
  have lab : LAB l := by
    rcases hl with ⟨e, _⟩ | ⟨x, hx, e⟩
    · exact .inl e
    · exact .inr ⟨x, e, hx⟩
  have el := fun st => esc_p lab.pure st
  obtain ⟨M, hM⟩ : ∃ M : Int, M = (n : Int) + 1 := ⟨_, rfl⟩
  have hr : rngV (.int 1) (.int M) st = .ok (.items ((List.range (M - 1).toNat).map fun (k : Nat) => .int (1 + k))) st := rng_any (by omega)
  rw [show (M - 1).toNat = n by omega] at hr
  have E : ∀ (call : Nat → List PV → Store → Res PV) (env : En), env[1]? = some (some (.loc L)) → ev call (.bin .add (.bi .len (.cons (.var 1) .nil)) (.con (.int 1))) .val env st = .ok (.int M) st := fun call env h => by
    have : binV .add (.int n) (.int 1) st = some (.int M) := by rw [hM]; rfl
    simp [ev, evCs, h, bl, this, -bin_add_int]
  have E1 : ∀ (call : Nat → List PV → Store → Res PV) (env : En), ev call (.con (.int 1)) .val env st = .ok (.int 1) st := fun call env => rfl
  have T1 : ∀ (call : Nat → List PV → Store → Res PV) (env : En), env[0]? = some (some (.tup [.str w, l])) → ev call (.and (.cmp .eq (.ix (.var 0) (.con (.int 0))) (.con (.str "return"))) (.cmp .isN (.ix (.var 0) (.con (.int 1))) (.con .non))) .test env st = .ok (.bl false) st := fun call env h => by simp [ev, h, wr]
  have T2 : ∀ (call : Nat → List PV → Store → Res PV) (env : En), env[0]? = some (some (.tup [.str w, l])) → ev call (.cmp .eq (.ix (.var 0) (.con (.int 0))) (.con (.str "return"))) .test env st = .ok (.bl false) st := fun call env h => by simp [ev, h, wr]
  have many : (Src.items ((List.range n).map fun (k : Nat) => PV.int (1 + k))).many = n := by
    show ((List.range n).map fun (k : Nat) => PV.int (1 + k)).length = n
    simp
  have hd36 : D 36 = some d36 := rfl
  have start : ∀ (k : Nat) {v : PV}, evSs (evCall TURNS D k) TURNS d36.body [some (.tup [.str w, l]), some (.loc L), none] st = .rt v st → evCall TURNS D (k + 1) 36 [.tup [.str w, l], .loc L] st = .ok v st := fun k v hh =>
    (call_rt (k := k) (args := [.tup [.str w, l], .loc L]) (st := st) (s := st) (v := v) hd36 rfl rfl rfl hh).trans (leave_id _ _)
  obtain ⟨pr, hpr⟩ := Classical.axiomOfChoice (jump_one (w := w) hs hn hL lab bl)
  have pr0 : l = .non → ∀ j, j < n → pr j = true := fun e j hj => by
    have := hpr j hj (fun _ _ _ => .bad)
    subst e
    cases q : pr j with
    | true => rfl
    | false =>
      rw [q] at this
      simp [b36_0, evSs, evS, ev, evA, evCs, ME.held, sizeLine_eq] at this
  have loop := fun call => jump_loop (n := n) hpr call
  have lw : w.length ≤ 10 := by rcases hw with rfl | rfl <;> decide +kernel
  have a1 : ∀ st, binV .add (.str w) (.str " ") st = some (.str (w ++ " ")) := fun st => add_ok (by omega) (by decide +kernel)
  have isn : ∀ (z : Str) st, cmpV .isN (.str z) .non st = some false := fun z st => rfl
  rcases loop (fun _ _ _ => .bad) with ⟨_, _, al⟩ | ⟨j, _, hj, pj, mj⟩
  · -- no loop has the label
    obtain ⟨z, rfl, zB⟩ : ∃ z, l = .str z ∧ B 60 z := by
      rcases hl with ⟨e, h0⟩ | ⟨x, hx, e⟩
      · have := al 0 h0
        rw [pr0 e 0 h0] at this
        cases this
      · exact ⟨x, e, hx⟩
    have a2 : ∀ st, binV .add (.str (w ++ " ")) (.str z) st = some (.str (w ++ " " ++ z)) := fun st => add_ok (by rw [len_app, show Str.length " " = 1 by decide +kernel]; omega) (by have := zB.1; omega)
    refine ⟨.tup [.str "stop", .str (w ++ " " ++ z)], fun k => ?_, fun P' => .simple (by simp) rfl (by simp), by simp⟩
    rcases loop (evCall TURNS D k) with ⟨x2, q, _⟩ | ⟨j, _, hj, pj, _⟩
    · refine start k ?_
      unfold d36
      simp only [evSs, evS, evSrc, T1, T2, E1, E, hr, many, q, bind_ok_, to_ok_, then_nx_, isBl_bl_, List.getElem?_cons_zero, List.getElem?_cons_succ]
      simp [ev, evA, evCs, ME.held, a1, a2, sizeLine_eq]
    · rw [al j hj] at pj; cases pj
  · refine ⟨.tup [.str w, .int (1 + j)], fun k => ?_, fun P' => ?_, by simp⟩
    · rcases loop (evCall TURNS D k) with ⟨x2, _, al⟩ | ⟨j', q, hj', pj', mj'⟩
      · rw [al j hj] at pj; cases pj
      · have e : j' = j := by
          rcases Nat.lt_trichotomy j' j with h | h | h
          · rw [mj j' h] at pj'; cases pj'
          · exact h
          · rw [mj' j h] at pj; cases pj
        subst e
        refine start k ?_
        unfold d36
        simp only [evSs, evS, evSrc, T1, T2, E1, E, hr, many, q, bind_ok_, to_ok_, then_nx_, then_rt_, isBl_bl_, List.getElem?_cons_zero, List.getElem?_cons_succ]
    · rcases hw with rfl | rfl
      · exact .simple (by simp) rfl (by simp)
      · exact .simple (by simp) rfl (by simp)
end K02.V

set_option maxHeartbeats 4000000
namespace K02.V
open PySem L2 U
variable {fs : List Str} {st s : Store} {c : Nat} {z : Int} {pairs : List (Str × Int)}
def RB (lv e : Nat) (fs : List Str) (n : Nat) (body : List PV) : Prop := ∀ (k : Nat) (st : Store) (F L c : Nat) (pairs : List (Str × Int)) (lls : List PV) (z : Int), st[F]? = some (.lst (PR pairs)) → st[L]? = some (.lst lls) → st[c]? = some (.lst [.int z]) → c ≠ F → c ≠ L → (∀ x ∈ fs, x ∈ pairs.map (·.1)) → lls.length = n → (∀ l ∈ lls, LAB l) → Low st.length st → pairs.length + pzL body ≤ 2000 → n + pzL body ≤ 2000 →
  ∃ (rows : List PV) (z' : Int), evCall TURNS D (k + lv) 37 [.tup body, .loc F, .loc L, .loc c] st = .ok (.tup rows) (setAt st c [.int z']) ∧ (∀ s ∈ rows, ZS e s) ∧ pzL rows ≤ pzL body
structure RS2 (st : Store) (c : Nat) (z : Int) (pairs : List (Str × Int)) (s : Store) : Prop where
  hc : s[c]? = some (.lst [.int z])
  hs : s[st.length]? = some (.lst (PR pairs))
  ln : st.length < s.length
  ag : ∀ i, i < st.length → i ≠ c → s[i]? = st[i]?
  lo : Low s.length s
theorem low_PR (n : Nat) (pairs : List (Str × Int)) : Cell.low n (.lst (PR pairs)) = true := by
  induction pairs with
  | nil => rfl
  | cons p ps ih => exact ih
theorem low_lab (n : Nat) {l : List PV} (h : ∀ x ∈ l, LAB x) : Cell.low n (.lst l) = true := by
  show PV.lowL n l = true
  induction l with
  | nil => rfl
  | cons x l ih =>
    show (PV.low n x && PV.lowL n l) = true
    rw [PV.pure_low n x (h x List.mem_cons_self).pure, ih fun y hy => h y (List.mem_cons_of_mem _ hy)]; rfl
theorem low_setAt {n m : Nat} {s : Store} {xs : List PV} (h : Low n s) (hx : Cell.low n (.lst xs) = true) : Low n (setAt s m xs) := fun c hc => by
  rcases List.mem_or_eq_of_mem_set hc with hc | hc
  · exact h c hc
  · rw [hc]; exact hx
theorem RS2.setc (r : RS2 st c z pairs s) (cl : c < st.length) (z' : Int) : RS2 st c z' pairs (setAt s c [.int z']) := by
  have ln := r.ln
  refine ⟨by unfold setAt; rw [List.getElem?_set_self (by omega)], by unfold setAt; rw [List.getElem?_set_ne (by omega)]; exact r.hs, by unfold setAt; rw [List.length_set]; exact ln, fun i h1 h2 => by unfold setAt; rw [List.getElem?_set_ne (Ne.symm h2)]; exact r.ag i h1 h2, ?_⟩
  have : (setAt s c [.int z']).length = s.length := by unfold setAt; rw [List.length_set]
  rw [this]
  exact low_setAt r.lo rfl
theorem RS2.app (r : RS2 st c z pairs s) (cl : c < st.length) (q : List (Str × Int)) : RS2 st c z q (setAt s st.length (PR q)) := by
  have ln := r.ln
  refine ⟨by unfold setAt; rw [List.getElem?_set_ne (by omega)]; exact r.hc, by unfold setAt; rw [List.getElem?_set_self (by omega)], by unfold setAt; rw [List.length_set]; exact ln, fun i h1 h2 => by unfold setAt; rw [List.getElem?_set_ne (by omega)]; exact r.ag i h1 h2, ?_⟩
  have : (setAt s st.length (PR q)).length = s.length := by unfold setAt; rw [List.length_set]
  rw [this]
  exact low_setAt r.lo (low_PR _ _)
theorem RS2.push (r : RS2 st c z pairs s) (cl : c < st.length) {xs : List PV} (h : ∀ x ∈ xs, LAB x) : RS2 st c z pairs (s ++ [.lst xs]) := by
  have ln := r.ln
  refine ⟨by rw [List.getElem?_append_left (by omega)]; exact r.hc, by rw [List.getElem?_append_left (by omega)]; exact r.hs, by rw [List.length_append]; omega, fun i h1 h2 => by rw [List.getElem?_append_left (by omega)]; exact r.ag i h1 h2, fun y hy => ?_⟩
  rw [List.length_append]
  rcases List.mem_append.mp hy with hy | hy
  · exact r.lo.mono (by omega) y hy
  · rw [List.mem_singleton.mp hy]; exact low_lab _ h
theorem zs_of {e : Nat} {v : PV} (h : ∀ P', ZH P' v) : ZS e v := by
  cases e with
  | zero => exact h _
  | succ e => exact h _
theorem add_loc {L : Nat} {s : Store} {lls : List PV} {l : PV} (h : s[L]? = some (.lst lls)) (hz : lls.length ≤ 100000) : binV .add (.loc L) (.fl [l]) s = some (.fl (lls ++ [l])) := by
  unfold binV
  simp only [U.listOf, h]
  rw [if_pos (by rw [sizeLine_eq]; simp; omega)]
theorem turn_r {P : List Str → Nat → List PV → Prop} {lv e n k F L : Nat} {s0 : PV} {lls rows : List PV} {bd : PV} {x7 x8 x9 x10 x11 : Option PV} (ih : ∀ fs n b, P fs n b → RB lv e fs n b) (tu : ∀ fs n b, P fs n b → pz (.tup b) = pzL b) (hlv : 12 ≤ lv)
    (r : RS2 st c z pairs s) (cl : c < st.length) (hL : st[L]? = some (.lst lls)) (cL : c ≠ L) (hn : lls.length = n) (hl : ∀ l ∈ lls, LAB l) (hin : ∀ x ∈ fs, x ∈ pairs.map (·.1)) (h : VH P fs n s0) (b1 : pairs.length + pz s0 ≤ 2000) (b2 : n + pz s0 ≤ 2000) (b3 : rows.length + pz s0 ≤ 100000) :
    ∃ (new : List PV) (z' : Int) (pairs' : List (Str × Int)) (s' : Store) (y7 y8 y9 y10 y11 : Option PV), evSs (evCall TURNS D (k + lv)) TURNS b37_2 [some bd, some (.loc F), some (.loc L), some (.loc c), some (.loc st.length), some (.fl rows), some s0, x7, x8, x9, x10, x11, none] s
      = .nx [some bd, some (.loc F), some (.loc L), some (.loc c), some (.loc st.length), some (.fl (rows ++ new)), some s0, y7, y8, y9, y10, y11, none] s' ∧ RS2 st c z' pairs' s' ∧ (∀ x ∈ fs ++ dcl s0, x ∈ pairs'.map (·.1)) ∧ (∀ v ∈ new, ZS (e + 1) v) ∧ pzL new ≤ pz s0 ∧ pairs'.length ≤ pairs.length + 1 := by
  have hLs : s[L]? = some (.lst lls) := by rw [r.ag L (at_lt hL) (Ne.symm cL)]; exact hL
  have ln := r.ln
  have i0 := ix_loc (k := 0) r.hc
  rw [atI_0] at i0
  have e10 : ixN 1 0 = some 0 := rfl
  have ne : c ≠ st.length := by omega
  have z0 : pz (.tup []) = 0 := by simp [pz, pzT]
  have keep : ∀ x ∈ fs ++ [], x ∈ pairs.map (·.1) := fun x hx => hin x (by simpa using hx)
  have r16 : rows.length < 16777216 := by omega
  have nest : ∀ (s2 : Store) (z2 : Int) (b : List PV), RS2 st c z2 pairs s2 → P fs n b → pz (.tup b) + 1 ≤ pz s0 → ∃ rs z', evCall TURNS D (k + lv) 37 [.tup b, .loc st.length, .loc L, .loc c] s2 = .ok (.tup rs) (setAt s2 c [.int z']) ∧ (∀ s ∈ rs, ZS e s) ∧ pzL rs ≤ pzL b ∧ pz (.tup rs) = pzL rs ∧ RS2 st c z' pairs (setAt s2 c [.int z']) := fun s2 z2 b r2 hb hz => by
    have t := tu _ _ _ hb
    obtain ⟨rs, z', g1, g2, g3⟩ := ih fs n b hb k s2 st.length L c pairs lls z2 r2.hs (by rw [r2.ag L (at_lt hL) (Ne.symm cL)]; exact hL) r2.hc ne cL hin hn hl r2.lo (by omega) (by omega)
    exact ⟨rs, z', g1, g2, g3, zz_b g2, r2.setc cl z'⟩
  have nestL : ∀ (s2 : Store) (z2 : Int) (l : PV) (b : List PV), RS2 st c z2 pairs s2 → LAB l → P fs (n + 1) b → pz (.tup b) + 1 ≤ pz s0 → ∃ rs z', binV .add (.loc L) (.fl [l]) s2 = some (.fl (lls ++ [l])) ∧ evCall TURNS D (k + lv) 37 [.tup b, .loc st.length, .loc s2.length, .loc c] (s2 ++ [.lst (lls ++ [l])]) = .ok (.tup rs) (setAt (s2 ++ [.lst (lls ++ [l])]) c [.int z']) ∧ (∀ s ∈ rs, ZS e s) ∧ pzL rs ≤ pzL b ∧ pz (.tup rs) = pzL rs ∧ RS2 st c z' pairs (setAt (s2 ++ [.lst (lls ++ [l])]) c [.int z']) := fun s2 z2 l b r2 lb hb hz => by
    have t := tu _ _ _ hb
    have ln2 := r2.ln
    have hll : ∀ x ∈ lls ++ [l], LAB x := fun x hx => by
      rcases List.mem_append.mp hx with hx | hx
      · exact hl x hx
      · rw [List.mem_singleton.mp hx]; exact lb
    have r3 := r2.push cl hll
    obtain ⟨rs, z', g1, g2, g3⟩ := ih fs (n + 1) b hb k (s2 ++ [.lst (lls ++ [l])]) st.length s2.length c pairs (lls ++ [l]) z2 r3.hs (by simp) r3.hc ne (by omega) hin (by rw [List.length_append, hn]; rfl) hll r3.lo (by omega) (by omega)
    exact ⟨rs, z', add_loc (by rw [r2.ag L (at_lt hL) (Ne.symm cL)]; exact hL) (by omega), g1, g2, g3, zz_b g2, r3.setc cl z'⟩
  have cond : ∀ (s2 : Store) (z2 : Int) (q : PV), RS2 st c z2 pairs s2 → WC fs 9 q → pz q + 1 ≤ pz s0 → ∃ q', evCall TURNS D (k + lv) 35 [q, .loc st.length] s2 = .ok q' s2 ∧ ZC 25 q' ∧ pz q' ≤ pz q := fun s2 z2 q r2 hq hz => by
    obtain ⟨q', g1, g2, g3⟩ := numbered_ok r2.hs (by omega) hin 9 q hq (by omega)
    have g1 := g1 (k + lv - 10)
    rw [show k + lv - 10 + 9 + 1 = k + lv by omega] at g1
    exact ⟨q', g1, g2.mono (by omega), g3⟩
  have bzz : ∀ {rs : List PV}, (∀ s ∈ rs, ZS e s) → PV.pure (.tup rs) = true := fun h => pureL_of fun s hs => (h s hs).pure
  cases h with
  | @call x h =>
    refine ⟨[.tup [.str "call", .str x]], z, pairs, s, some (.str "call"), x8, x9, x10, x11, ?_, r, by rw [dcl_no (by simp)]; exact keep, fun v hv => by rw [List.mem_singleton.mp hv]; exact ZH.simple (by simp) rfl (by simp), by simp, by omega⟩
    simp [b37_2, evSs, evS, ev, evA, evCs, r16, sizeLine_eq]
  | @let_ x v h =>
    have rA := r.app cl (pairs ++ [(x, z)])
    have rB := rA.setc cl (z + 1)
    have pr : PR pairs ++ [.tup [.str x, .int z]] = PR (pairs ++ [(x, z)]) := by simp [PR]
    have pl : (PR pairs).length < 16777216 := by show (pairs.map _).length < _; rw [List.length_map]; omega
    have ap : mtV .append (.loc st.length) [.tup [.str x, .int z]] s = .ok .non (setAt s st.length (PR (pairs ++ [(x, z)]))) := by
      unfold mtV
      simp only [r.hs]
      rw [if_pos ⟨by rw [sizeLine_eq]; exact pl, rfl⟩, pr]
    have iA := ix_loc (k := 0) rA.hc
    rw [atI_0] at iA
    have hcA := rA.hc
    refine ⟨[.tup [.str "set", .int z, .bl v]], z + 1, pairs ++ [(x, z)], _, some (.str "let"), x8, x9, x10, x11, ?_, rB, ?_, fun v hv => by rw [List.mem_singleton.mp hv]; exact ZH.simple (by simp) rfl (by simp), by simp, by simp⟩
    · generalize hSA : setAt s st.length (PR (pairs ++ [(x, z)])) = SA at *
      simp [b37_2, evSs, evS, ev, evA, evCs, r16, i0, ap, iA, hcA, e10, sizeLine_eq]
    · rw [dcl_let]
      intro y hy
      rw [List.map_append, List.mem_append]
      rcases List.mem_append.mp hy with hy | hy
      · exact .inl (hin y hy)
      · exact .inr (by simpa using hy)
  | @set x v h =>
    obtain ⟨fl, i, f1, f2⟩ := found_last (hin x h)
    have sG : srcV (.loc st.length) s = some (.live st.length (PR pairs).length) := by
      show (seqOf (.loc st.length) s).map _ = _
      rw [seq_loc r.hs]; rfl
    have lc : lcLoop (fun e s => (ev (evCall TURNS D (k + lv)) c37_0 .test e s).bind fun x s1 => opt (isBl x) s1) (ev (evCall TURNS D (k + lv)) e37_1 .val) (MG.put (.nm 12)) [some bd, some (.loc F), some (.loc L), some (.loc c), some (.loc st.length), some (.fl rows), some (.tup [.str "set", .str x, .bl v]), some (.str "set"), x8, x9, x10, x11, none] (.live st.length (PR pairs).length) 0 (PR pairs).length [] s = .ok (.fl fl) s := by
      rw [← f1]
      refine lc_liveF (call := evCall TURNS D (k + lv)) (pq x) pg r.hs (by show (pairs.map _).length < _; rw [List.length_map]; omega) fun y hy => ?_
      obtain ⟨p, hp, rfl⟩ := List.mem_map.mp hy
      refine ⟨?_, fun _ => ⟨?_, rfl⟩⟩
      · simp [c37_0, ev, pq]
      · simp [e37_1, ev, pg]
    refine ⟨[.tup [.str "set", .int i, .bl v]], z, pairs, s, some (.str "set"), some (.fl fl), x9, x10, x11, ?_, r, by rw [dcl_no (by simp)]; exact keep, fun v hv => by rw [List.mem_singleton.mp hv]; exact ZH.simple (by simp) rfl (by simp), by simp, by omega⟩
    simp [b37_2, evSs, evS, ev, evA, evCs, r16, sG, Src.many, MG.slots, U.wipe, lc, f2, sizeLine_eq]
  | @jump w l hw hlb =>
    have z1 : pz (.tup [.str w, l]) = 1 := by
      rcases hlb with ⟨rfl, _⟩ | ⟨x, _, rfl⟩ <;> simp
    obtain ⟨v, v1, v2, v3⟩ := jump_ok (w := w) (l := l) hLs hn (by omega) hl hw hlb
    have v1 := v1 (k + lv - 1)
    rw [show k + lv - 1 + 1 = k + lv by omega] at v1
    have vz : ZS (e + 1) v := zs_of v2
    have ec := fun st => esc_p vz.pure st
    have lb : LAB l := by
      rcases hlb with ⟨e, _⟩ | ⟨x, hx, e⟩
      · exact .inl e
      · exact .inr ⟨x, e, hx⟩
    refine ⟨[v], z, pairs, s, some (.str w), x8, x9, x10, x11, ?_, r, by rw [dcl_no (by rcases hw with rfl | rfl <;> simp)]; exact keep, fun u hu => by rw [List.mem_singleton.mp hu]; exact vz, by rw [pzL_cons, pzL_nil, v3, z1]; omega, by omega⟩
    rcases hw with rfl | rfl <;> simp [b37_2, evSs, evS, ev, evA, evCs, r16, v1, ec, sizeLine_eq]
  | @ret l h =>
    obtain ⟨v, v1, v2, v3⟩ := jump_ret (L := L) h
    have v1 := v1 (k + lv - 1) s
    rw [show k + lv - 1 + 1 = k + lv by omega] at v1
    have vz : ZS (e + 1) v := zs_of v2
    have ec := fun st => esc_p vz.pure st
    refine ⟨[v], z, pairs, s, some (.str "return"), x8, x9, x10, x11, ?_, r, by rw [dcl_no (by simp)]; exact keep, fun u hu => by rw [List.mem_singleton.mp hu]; exact vz, by rw [pzL_cons, pzL_nil, v3, pz_node]; omega, by omega⟩
    simp [b37_2, evSs, evS, ev, evA, evCs, r16, v1, ec, sizeLine_eq]
  | @block b h =>
    have t := tu _ _ _ h
    rw [pz_node, pzL_cons, pzL_nil] at b1 b2 b3
    obtain ⟨rs, z', g1, g2, g3, g4, g5⟩ := nest s z b r h (by rw [pz_node, pzL_cons, pzL_nil]; omega)
    have rl := pz_many fun s hs => (g2 s hs).pos
    have ad := bin_add_fl (xs := rows) (ys := rs) (st := setAt s c [.int z']) (by omega)
    have bl := bi_list_tup rs (setAt s c [.int z'])
    refine ⟨rs, z', pairs, _, some (.str "block"), x8, x9, x10, x11, ?_, g5, by rw [dcl_no (by simp)]; exact keep, fun u hu => (g2 u hu).up, by rw [pz_node, pzL_cons, pzL_nil]; omega, by omega⟩
    simp [b37_2, evSs, evS, ev, evA, evCs, g1, bl, ad, sizeLine_eq]
  | @for_ l b hlb h =>
    have t := tu _ _ _ h
    obtain ⟨rs, z', g0, g1, g2, g3, g4, g5⟩ := nestL s z l b r hlb h (by rw [pz_node, pzL_cons, pzL_cons, pzL_nil]; omega)
    have el := fun st => esc_p hlb.pure st
    refine ⟨[.tup [.str "for", .non, .tup rs]], z', pairs, _, some (.str "for"), x8, x9, x10, x11, ?_, g5, by rw [dcl_no (by simp)]; exact keep, fun u hu => by rw [List.mem_singleton.mp hu]; exact ZH.for_ rfl (by simp) g2, by simp only [pz_node, pzL_cons, pzL_nil, g4, t, pz_non, hlb.pz]; omega, by omega⟩
    simp [b37_2, evSs, evS, ev, evA, evCs, r16, g0, g1, el, sizeLine_eq]
  | @try_ a b h1 h2 =>
    have t1 := tu _ _ _ h1
    have t2 := tu _ _ _ h2
    obtain ⟨rs, z', g1, g2, g3, g4, g5⟩ := nest s z a r h1 (by rw [pz_node, pzL_cons, pzL_cons, pzL_nil]; omega)
    obtain ⟨rs2, z2, q1, q2, q3, q4, q5⟩ := nest _ _ b g5 h2 (by rw [pz_node, pzL_cons, pzL_cons, pzL_nil]; omega)
    refine ⟨[.tup [.str "try", .tup rs, .tup rs2]], z2, pairs, _, some (.str "try"), x8, some (.tup rs), x10, x11, ?_, q5, by rw [dcl_no (by simp)]; exact keep, fun u hu => by rw [List.mem_singleton.mp hu]; exact ZH.try_ g2 q2, by simp only [pz_node, pzL_cons, pzL_nil, g4, q4, t1, t2]; omega, by omega⟩
    simp [b37_2, evSs, evS, ev, evA, evCs, r16, g1, q1, sizeLine_eq]
  | @while_ l q b hlb hq h =>
    have t := tu _ _ _ h
    obtain ⟨q', q1, q2, q3⟩ := cond s z q r hq (by simp only [pz_node, pzL_cons, pzL_nil]; omega)
    obtain ⟨rs, z', g0, g1, g2, g3, g4, g5⟩ := nestL s z l b r hlb h (by simp only [pz_node, pzL_cons, pzL_nil]; omega)
    have el := fun st => esc_p hlb.pure st
    have eq1 := fun st => esc_p hq.pure st
    have eq2 := fun st => esc_p q2.pure st
    have vq2 := fun st => varV_p q2.pure st
    refine ⟨[.tup [.str "while", .non, q', .tup rs]], z', pairs, _, some (.str "while"), x8, x9, some q', x11, ?_, g5, by rw [dcl_no (by simp)]; exact keep, fun u hu => by rw [List.mem_singleton.mp hu]; exact ZH.while_ rfl (by simp) q2 g2, by simp only [pz_node, pzL_cons, pzL_nil, g4, t, pz_non, hlb.pz]; omega, by omega⟩
    simp [b37_2, evSs, evS, ev, evA, evCs, r16, q1, g0, g1, el, eq1, eq2, vq2, sizeLine_eq]
  | @if_ q a b hq h1 h2 =>
    have t1 := tu _ _ _ h1
    have t2 := tu _ _ _ h2
    obtain ⟨q', q1, q2, q3⟩ := cond s z q r hq (by simp only [pz_node, pzL_cons, pzL_nil]; omega)
    obtain ⟨rs, z', g1, g2, g3, g4, g5⟩ := nest s z a r h1 (by simp only [pz_node, pzL_cons, pzL_nil]; omega)
    obtain ⟨rs2, z2, w1, w2, w3, w4, w5⟩ := nest _ _ b g5 h2 (by simp only [pz_node, pzL_cons, pzL_nil]; omega)
    have eq1 := fun st => esc_p hq.pure st
    have eq2 := fun st => esc_p q2.pure st
    have vq2 := fun st => varV_p q2.pure st
    refine ⟨[.tup [.str "if", q', .tup rs, .tup rs2]], z2, pairs, _, some (.str "if"), x8, x9, some q', some (.tup rs), ?_, w5, by rw [dcl_no (by simp)]; exact keep, fun u hu => by rw [List.mem_singleton.mp hu]; exact ZH.if_ q2 g2 w2, by simp only [pz_node, pzL_cons, pzL_nil, g4, w4, t1, t2]; omega, by omega⟩
    simp [b37_2, evSs, evS, ev, evA, evCs, r16, q1, g1, w1, eq1, eq2, vq2, sizeLine_eq]
end K02.V

set_option maxHeartbeats 4000000
namespace K02.V
open PySem L2 U
variable {fs : List Str} {st s : Store} {c : Nat} {z : Int} {pairs : List (Str × Int)}
theorem VL.at {S : List Str → PV → Prop} : ∀ {b : List PV} {fs : List Str} {j : Nat} {s : PV}, VL S fs b → b[j]? = some s → S (fs ++ dcls (b.take j)) s
  | x :: b, fs, 0, s, h, e => by
    have e : x = s := Option.some.inj e
    subst e
    simpa [dcls] using h.1
  | x :: b, fs, j + 1, s, h, e => by
    have := VL.at (j := j) h.2 e
    simpa [dcls, List.append_assoc] using this
theorem VH.tup {P : List Str → Nat → List PV → Prop} {n : Nat} {v : PV} (h : VH P fs n v) : ∃ (k : Str) (xs : List PV), v = .tup (.str k :: xs) := by
  cases h <;> exact ⟨_, _, rfl⟩
theorem VH.pos {P : List Str → Nat → List PV → Prop} {n : Nat} {v : PV} (h : VH P fs n v) : 1 ≤ pz v := by
  obtain ⟨k, xs, rfl⟩ := h.tup
  simp
theorem res_step {P : List Str → Nat → List PV → Prop} {lv e n : Nat} {body : List PV} (ih : ∀ fs n b, P fs n b → RB lv e fs n b) (tu : ∀ fs n b, P fs n b → pz (.tup b) = pzL b) (hlv : 12 ≤ lv) (h : VL (fun fs s => VH P fs n s) fs body) : RB (lv + 1) (e + 1) fs n body := by
  intro k st F L c pairs lls z hF hL hc cF cL hin hn hl lo b1 b2
  have cl := at_lt hc
  have pos : ∀ s ∈ body, 1 ≤ pz s := fun s hs => by
    obtain ⟨fs', h'⟩ := h.mem s hs
    exact h'.pos
  have bl : biV .list [.loc F] st = some (.fl (PR pairs)) := by
    show (seqOf (.loc F) st).map _ = _
    rw [seq_loc hF]; rfl
  have r0 : RS2 st c z pairs (st ++ [.lst (PR pairs)]) := by
    refine ⟨by rw [List.getElem?_append_left cl]; exact hc, by simp, by simp, fun i h1 _ => List.getElem?_append_left h1, fun y hy => ?_⟩
    rw [List.length_append]
    rcases List.mem_append.mp hy with hy | hy
    · exact lo.mono (by omega) y hy
    · rw [List.mem_singleton.mp hy]; exact low_PR _ _
  obtain ⟨ev0, s, m1, rows, z', pairs', x6, x7, x8, x9, x10, x11, m2, m3, m4, m5, m6, m7⟩ := forLoop_inv (put := MG.put (.nm 6)) (body := evSs (evCall TURNS D (k + lv)) TURNS b37_2) (xs := body)
    (fun j env s => ∃ (rows : List PV) (z' : Int) (pairs' : List (Str × Int)) (x6 x7 x8 x9 x10 x11 : Option PV), env = [some (.tup body), some (.loc F), some (.loc L), some (.loc c), some (.loc st.length), some (.fl rows), x6, x7, x8, x9, x10, x11, none] ∧ RS2 st c z' pairs' s ∧
      (∀ x ∈ fs ++ dcls (body.take j), x ∈ pairs'.map (·.1)) ∧ (∀ v ∈ rows, ZS (e + 1) v) ∧ pzL rows ≤ pzL (body.take j) ∧ pairs'.length ≤ pairs.length + j) (fun j x env s hx ⟨rows, z', pairs', x6, x7, x8, x9, x10, x11, e1, e2, e3, e4, e5, e6⟩ => by
      subst e1
      have hj := (List.getElem?_eq_some_iff.mp hx).1
      have tk : body.take (j + 1) = body.take j ++ [x] := by rw [List.take_add_one, hx]; rfl
      have q1 : pzL (body.take j) + pz x ≤ pzL body := by
        have : pzL body = pzL (body.take (j + 1)) + pzL (body.drop (j + 1)) := by rw [← pzL_app, List.take_append_drop]
        rw [tk, pzL_app, pzL_cons, pzL_nil] at this
        omega
      have q2 : j ≤ pzL (body.take j) := by
        have := pz_many (cs := body.take j) fun s hs => pos s (List.mem_of_mem_take hs)
        rw [List.length_take] at this
        omega
      have q3 := pz_many (cs := rows) fun s hs => (e4 s hs).pos
      obtain ⟨new, z2, p2, s2, y7, y8, y9, y10, y11, g1, g2, g3, g4, g5, g6⟩ := turn_r (k := k) (F := F) (bd := .tup body) (rows := rows) (x7 := x7) (x8 := x8) (x9 := x9) (x10 := x10) (x11 := x11) ih tu hlv e2 cl hL cL hn hl e3 (h.at hx) (by omega) (by omega) (by omega)
      refine ⟨[some (.tup body), some (.loc F), some (.loc L), some (.loc c), some (.loc st.length), some (.fl rows), some x, x7, x8, x9, x10, x11, none], rfl, ?_⟩
      rw [g1, tk]
      refine ⟨rows ++ new, z2, p2, some x, y7, y8, y9, y10, y11, rfl, g2, ?_, fun v hv => ?_, by rw [pzL_app, pzL_app, pzL_cons, pzL_nil]; omega, by omega⟩
      · rw [dcls_snoc, ← List.append_assoc]; exact g3
      · rcases List.mem_append.mp hv with hv | hv
        · exact e4 v hv
        · exact g4 v hv) body.length 0 [some (.tup body), some (.loc F), some (.loc L), some (.loc c), some (.loc st.length), some (.fl []), none, none, none, none, none, none, none] (st ++ [.lst (PR pairs)]) (by simp)
      ⟨[], z, pairs, none, none, none, none, none, none, rfl, r0, (fun x hx => hin x (by simpa [dcls] using hx)), (fun v hv => nomatch hv), by simp, by omega⟩
  subst m2
  rw [List.take_length] at m6
  have bt := bi_tuple_fl rows
  refine ⟨rows, z', ?_, m5, m6⟩
  have ln := m3.ln
  have tk : s.take st.length = setAt st c [.int z'] := by
    apply List.ext_getElem?
    intro i
    by_cases hi : i < st.length
    · rw [List.getElem?_take_of_lt hi]
      unfold setAt
      by_cases e : i = c
      · subst e
        rw [m3.hc, List.getElem?_set_self hi]
      · rw [m3.ag i hi e, List.getElem?_set_ne (Ne.symm e)]
    · rw [List.getElem?_eq_none (by rw [List.length_take]; omega), List.getElem?_eq_none (by unfold setAt; rw [List.length_set]; omega)]
  have lv' : U.leave st.length (.tup rows) s = .ok (.tup rows) (setAt st c [.int z']) := by
    unfold U.leave
    rw [if_neg (by omega), tk]
    have c1 : PV.low st.length (.tup rows) = true := PV.pure_low _ _ (pureL_of fun s hs => (m5 s hs).pure)
    have c2 : (setAt st c [.int z']).all (Cell.low st.length) = true := by
      rw [List.all_eq_true]
      exact fun y hy => low_setAt lo rfl y hy
    rw [c1, c2]; rfl
  have hh : evSs (evCall TURNS D (k + lv)) TURNS d37.body [some (.tup body), some (.loc F), some (.loc L), some (.loc c), none, none, none, none, none, none, none, none, none] st = .rt (.tup rows) s := by
    simp [d37, evSs, evS, ev, evA, evCs, evSrc, srcV, Src.many, ME.held, bl, m1, bt, sizeLine_eq]
  exact (call_rt (k := k + lv) (f := 37) (d := d37) (args := [.tup body, .loc F, .loc L, .loc c]) (st := st) (s := s) (v := .tup rows) rfl rfl rfl rfl hh).trans lv'
theorem rb_ok : ∀ (d : Nat) (fs : List Str) (n : Nat) (b : List PV), VB d fs n b → RB (d + 14) (d + 2) fs n b
  | 0, fs, n, b, h => res_step (P := fun _ _ b => b = []) (lv := 13) (e := 1) (fun fs n b hb => by
      subst hb
      exact res_step (P := fun _ _ _ => False) (lv := 12) (e := 0) (fun _ _ _ z => z.elim) (fun _ _ _ z => z.elim) (by omega) trivial) (fun fs n b hb => by subst hb; simp [pz, pzT]) (by omega) h
  | d + 1, fs, n, b, h => res_step (P := fun fs n b => VB d fs n b) (lv := d + 14) (e := d + 2) (fun fs n b hb => rb_ok d fs n b hb) (fun fs n b hb => vz_b hb) (by omega) h
end K02.V

set_option maxHeartbeats 4000000
namespace K02
open PySem L2 U
variable {ns : List Int} {st : Store} {xs : List Str}
theorem WC.z : ∀ {d : Nat} {v : PV}, WC d v → ZC d v := by
  have l : ∀ {v}, WF v → ZF v := fun h => by
    obtain ⟨k, x, hk, hx, rfl⟩ := h
    exact ⟨k, _, hk, rfl, by simp, rfl⟩
  intro d
  induction d with
  | zero => exact fun h => l h
  | succ d ih =>
    intro v h
    rcases h with h | ⟨c, e, h⟩ | ⟨k, cs, hk, e, h, ne⟩
    · exact .inl (l h)
    · exact .inr (.inl ⟨c, e, ih h⟩)
    · exact .inr (.inr ⟨k, cs, hk, e, fun c hc => ih (h c hc).1, ne⟩)
theorem SH.z {P P' : List PV → Prop} {v : PV} (h : SH P v) (i : ∀ b, P b → P' b) : ZH P' v := by
  have one : ∀ {x : PV}, PV.pure x = true → PV.pureL [x] = true := fun {x} h => by
    show (PV.pure x && true) = true
    rw [h]; rfl
  cases h with
  | call h => exact .simple (.inl rfl) rfl (by simp)
  | decl hw h => rcases hw with rfl | rfl <;> exact .simple (by simp) rfl (by simp)
  | jump hw h => rcases hw with rfl | rfl <;> exact .simple (by simp) (one h.pure) (by rw [pzL_cons, pzL_nil, h.pz])
  | ret h => exact .simple (by simp) (one h.pure) (by rw [pzL_cons, pzL_nil, h.pz])
  | block h => exact .block (i _ h)
  | for_ hl h => exact .for_ hl.pure hl.pz (i _ h)
  | try_ h1 h2 => exact .try_ (i _ h1) (i _ h2)
  | while_ hl hc h => exact .while_ hl.pure hl.pz hc.z (i _ h)
  | if_ hc h1 h2 => exact .if_ hc.z (i _ h1) (i _ h2)
theorem WS.z : ∀ {d : Nat} {v : PV}, WS d v → ZS d v := by
  intro d
  induction d with
  | zero => exact fun h => SH.z h fun _ z => z
  | succ d ih => exact fun h => SH.z h fun b z s hs => ih (z s hs)
theorem TR.low {R : Store} (h : TR ns R st) (lo : Low (R.length + 2) R) : Low st.length st := by
  have e := h.len
  obtain ⟨p, q, z, _, _, _, rfl⟩ := h
  rw [e]
  intro c hc
  rcases List.mem_cons.mp hc with rfl | hc
  · exact lowL_ints _ _
  · rcases List.mem_cons.mp hc with rfl | hc
    · show (decide (0 < R.length + 2) && true) = true
      simp
    · exact lo c hc
theorem call_rt' {k f : Nat} {d : Def} {args : List PV} {v : PV} {st s : Store} {env0 : En} (hd : D f = some d) (hn : args.length = d.np) (hf : args.any PV.isFl = false) (he : args.map some ++ List.replicate (d.nl - d.np) none = env0)
    (h : evSs (evCall TURNS D k) TURNS d.body env0 st = .rt v s) : evCall TURNS D (k + 1) f args st = U.leave st.length v s := V.call_rt hd hn hf he h
theorem evSs_step {call : Nat → List PV → Store → Res PV} {m : MS} {ms : MSs} {env env' : En} {st st' : Store} (h : evS call TURNS m env st = .nx env' st') : evSs call TURNS (.cons m ms) env st = evSs call TURNS ms env' st' := by
  show (evS call TURNS m env st).then _ = _
  rw [h]; rfl
theorem leave0 (b : Bool) (st : Store) : ∃ st', U.leave 0 (.bl b) st = .ok (.bl b) st' := by
  unfold U.leave
  split
  · exact ⟨_, rfl⟩
  · exact ⟨[], by rw [List.take_zero]; rfl⟩
theorem small_shown : ∀ n : Nat, n < 128 → (PyData.shown (.int n)).length ≤ 13 ∧ PyData.showable (.int n) = true := by decide +kernel
/-- the text of a pair of small ints -/
theorem pair_text {a b : Int} (a0 : 0 ≤ a) (a1 : a ≤ 120) (b0 : 0 ≤ b) (b1 : b ≤ 120) : ∃ S : Str, ∀ st, biV .reprD [.tup [.int a, .int b]] st = some (.str S) := by
  refine ⟨(PyData.tuple [.int a, .int b]).shown, fun st => ?_⟩
  obtain ⟨la, sa⟩ := small_shown a.toNat (by omega)
  obtain ⟨lb, sb⟩ := small_shown b.toNat (by omega)
  rw [show ((a.toNat : Nat) : Int) = a by omega] at la sa
  rw [show ((b.toNat : Nat) : Int) = b by omega] at lb sb
  have hs : (PyData.tuple [.int a, .int b]).showable = true := by
    show (PyData.showable (.int a) && (PyData.showable (.int b) && true)) = true
    rw [sa, sb]; rfl
  have hl : (PyData.tuple [.int a, .int b]).shown.length ≤ sizeLine := by
    have := tupleText_len_le [PyData.shown (.int a), PyData.shown (.int b)]
    have e : (PyData.tuple [.int a, .int b]).shown = tupleText [PyData.shown (.int a), PyData.shown (.int b)] := rfl
    rw [e, sizeLine_eq]
    simp only [List.map_cons, List.map_nil, List.sum_cons, List.sum_nil, List.length_cons, List.length_nil] at this
    omega
  show (if (PyData.tuple [.int a, .int b]).showable = true ∧ (PyData.tuple [.int a, .int b]).hasDict = false ∧ (PyData.tuple [.int a, .int b]).depth ≤ 100 ∧ (PyData.tuple [.int a, .int b]).shown.length ≤ sizeLine then some (PV.str (PyData.tuple [.int a, .int b]).shown) else none) = _
  exact if_pos ⟨hs, rfl, Nat.le_of_ble_eq_true rfl, hl⟩
theorem int_text {a : Int} (h : a.natAbs < 1000000) : ∃ S : Str, ∀ st, biV .reprD [.int a] st = some (.str S) := ⟨_, fun st => if_pos h⟩
/-- what stands behind the first program -/
theorem rest_ok {ps : List PV} {e0 e2 : Option PV} (h : TR ns (R1 xs) st) (hp : ∀ s ∈ ps, ZS 42 s) (hz : pzL ps ≤ 1000) :
    ∃ s', evSs (evCall TURNS D 228) TURNS (.cons (.set 4 (.fn 26 (.cons (.var 1) (.cons (.fn 18 (.cons (.var 1) .nil)) .nil))) false)
      (.cons (.for_ (.nm 5) (.lst (.cons (.var 3) (.cons (.var 4) (.cons (.fn 37 (.cons (.var 4) (.cons (.lst .nil) (.cons (.lst .nil) (.cons (.lst (.cons (.con (.int 0)) .nil)) .nil))))) .nil)))) b0_0)
      (.cons (.ret (.con (.bl true))) .nil))) [e0, some (.loc 1), e2, some (.tup ps), none, none] st = .rt (.bl true) s' := by
  have lo1 : Low ((R1 xs).length + 2) (R1 xs) := fun c hc => RS.low (xs := xs) (r := 0) (C := []) (fun c hc => nomatch hc) c (by simp at hc; simp [hc])
  obtain ⟨as, ls, gs, qq, a, st1, R2, w1, w2, w3, w4, w5, w6, w7, w8, w9, w10, w11⟩ := V.world_ok (k := 225) h lo1
  have len1 : st1.length = 19 := by rw [w2.len, w3]; rfl
  have t2 : TR ns (R2 ++ [.lst [.loc ((R1 xs).length + 15), .loc ((R1 xs).length + 14), .loc ((R1 xs).length + 16), .loc ((R1 xs).length + 17)]]) (st1 ++ [.lst [.loc ((R1 xs).length + 15), .loc ((R1 xs).length + 14), .loc ((R1 xs).length + 16), .loc ((R1 xs).length + 17)]]) := w2.push _
  obtain ⟨vb, R3, st3, p1, p2, p3, p4, p5, p6⟩ := V.program_ok (k := 195) (V.bodies_ok w6 w7 w8 5) t2 w4 w9 w11
  have l3 : R3.length = 18 := by rw [p3, List.length_append, w3]; rfl
  rw [← p3] at p4
  have len3 : st3.length = 20 := by rw [p2.len, l3]
  have lo3 := TR.low p2 p4
  rw [len3] at lo3
  have lo4 : Low (st3 ++ [Cell.lst [], .lst [], .lst [.int 0]]).length (st3 ++ [Cell.lst [], .lst [], .lst [.int 0]]) := fun c hc => by
    rw [List.length_append, len3]
    simp only [List.mem_append, List.mem_cons, List.not_mem_nil, or_false] at hc
    rcases hc with hc | rfl | rfl | rfl
    · exact lo3.mono (by simp) c hc
    · rfl
    · rfl
    · rfl
  have zv : pzL vb ≤ 280 := by omega
  obtain ⟨rows, z', q1, q2, q3⟩ := V.rb_ok 5 [] 0 vb p5 209 (st3 ++ [.lst [], .lst [], .lst [.int 0]]) 20 21 22 [] [] 0 (by rw [List.getElem?_append_right (by omega), len3]; rfl) (by rw [List.getElem?_append_right (by omega), len3]; rfl) (by rw [List.getElem?_append_right (by omega), len3]; rfl) (by decide) (by decide) (fun x hx => nomatch hx) rfl (fun l hl => nomatch hl) lo4 (by simp; omega) (by omega)
  have q1 : evCall TURNS D 228 37 [.tup vb, .loc 20, .loc 21, .loc 22] (st3 ++ [.lst [], .lst [], .lst [.int 0]]) = .ok (.tup rows) (setAt (st3 ++ [.lst [], .lst [], .lst [.int 0]]) 22 [.int z']) := q1
  have pv := p5.pure
  have pps : PV.pureL ps = true := pureL_of fun s hs => (hp s hs).pure
  have prs : PV.pureL rows = true := pureL_of fun s hs => (q2 s hs).pure
  generalize hs5 : setAt (st3 ++ [.lst [], .lst [], .lst [.int 0]]) 22 [.int z'] = s5 at q1
  have siz : ∀ b : List PV, (∀ s ∈ b, ZS 42 s) → pzL b ≤ 1000 → ∃ (z l p : Int) (S1 S2 : Str), (∀ st, biV .reprD [.int z] st = some (.str S1)) ∧ (∀ st, biV .reprD [.tup [.int l, .int p]] st = some (.str S2)) ∧
      (∀ st, evCall TURNS D 228 40 [.tup b] st = .ok (.int z) st) ∧ (∀ st, evCall TURNS D 228 47 [.tup b] st = .ok (.int z) st) ∧
      (∀ st, evCall TURNS D 228 43 [.tup b] st = .ok (.tup [.int l, .int p]) st) ∧ (∀ st, evCall TURNS D 228 49 [.tup b, .int 0] st = .ok (.tup [.int l, .int p]) st) := fun b hb hz => by
    obtain ⟨z1, z2⟩ := places_ok 42 b hb (by omega)
    obtain ⟨l, p, l1, l0, h0, h1, p0, p1, d1, d2, d3⟩ := depths_ok 42 b (by omega) hb (by omega)
    have d1 := d1 157
    have d2 := d2 157
    have hm : mx 0 (l - 1) = lim 0 l := by
      unfold mx lim
      repeat' split
      all_goals omega
    have lb : 0 ≤ lim 0 l ∧ lim 0 l ≤ 100 := by unfold lim; split <;> omega
    obtain ⟨S1, s1⟩ := int_text (a := (pzL b : Int)) (by omega)
    obtain ⟨S2, s2⟩ := pair_text (a := lim 0 l) (b := p) lb.1 (by omega) p0 (by omega)
    refine ⟨(pzL b : Int), lim 0 l, p, S1, S2, s1, s2, fun st => z1 114 st, fun st => z2 157 st, fun st => ?_, fun st => d3 158 0 st (by omega)⟩
    have d1 := d1 st
    have d2 := d2 st
    rw [show (228 : Nat) = 227 + 1 by rfl, evCall]
    have d1 : evCall TURNS D 227 44 [.tup b] st = .ok (.int l) st := d1
    have d2 : evCall TURNS D 227 45 [.tup b] st = .ok (.int p) st := d2
    simp [D, d43, evSs, evS, ev, evA, evCs, ME.held, leave_id, d1, d2, bi_mx, hm, sizeLine_eq, -bi_max]
  have turn : ∀ (b : List PV) (e4 : Option PV) (s : Store), (∀ s ∈ b, ZS 42 s) → pzL b ≤ 1000 → evSs (evCall TURNS D 228) TURNS b0_0 [e0, some (.loc 1), e2, some (.tup ps), e4, some (.tup b)] s = .nx [e0, some (.loc 1), e2, some (.tup ps), e4, some (.tup b)] s := fun b e4 s hb hz => by
    obtain ⟨z, l, p, S1, S2, r1, r2, c1, c2, c3, c4⟩ := siz b hb hz
    simp [b0_0, evSs, evS, ev, evA, evCs, r1, r2, c1, c2, c3, c4]
  have t1 := turn ps (some (.tup vb)) s5 hp hz
  have t2 := turn vb (some (.tup vb)) s5 (fun s hs => (p5.z s hs).mono (by omega)) (by omega)
  have t3 := turn rows (some (.tup vb)) s5 (fun s hs => (q2 s hs).mono (by omega)) (by omega)
  have loop : forLoop (MG.put (.nm 5)) (evSs (evCall TURNS D 228) TURNS b0_0) (.items [.tup ps, .tup vb, .tup rows]) 0 3 [e0, some (.loc 1), e2, some (.tup ps), some (.tup vb), none] s5 = .nx [e0, some (.loc 1), e2, some (.tup ps), some (.tup vb), some (.tup rows)] s5 := by
    simp [forLoop, Src.get, MG.put, Src.fits, t1, t2, t3]
  have w1 : evCall TURNS D 228 18 [.loc 1] st = .ok (.fl [.loc 16, .loc 15, .loc 17, .loc 18]) st1 := w1
  have p1 : evCall TURNS D 228 26 [.loc 1, .loc 19] (st1 ++ [.lst [.loc 16, .loc 15, .loc 17, .loc 18]]) = .ok (.tup vb) st3 := p1
  have ES : ∀ (env : En), env[3]? = some (some (.tup ps)) → env[4]? = some (some (.tup vb)) → evSrc (evCall TURNS D 228) (.lst (.cons (.var 3) (.cons (.var 4) (.cons (.fn 37 (.cons (.var 4) (.cons (.lst .nil) (.cons (.lst .nil) (.cons (.lst (.cons (.con (.int 0)) .nil)) .nil))))) .nil)))) env st3 = .ok (.items [.tup ps, .tup vb, .tup rows]) s5 := fun env h3 h7 => by
    simp [evSrc, ev, evA, h3, h7, len3, q1, sizeLine_eq, srcV]
  refine ⟨s5, ?_⟩
  simp only [evSs, evS]
  simp [ev, evA, evCs, w1, len1, p1]
  simp only [ES, to_ok_, List.getElem?_cons_zero, List.getElem?_cons_succ, Src.many, List.length_cons, List.length_nil, Nat.zero_add, Nat.reduceAdd, loop, then_nx_]
  simp [ME.held]
theorem main (ns : List Int) (hl : ns.length ≤ 63) : ∃ st', evCall TURNS D (DEEP + 1) 0 [.rol (ns.map .int)] [] = .ok (.bl true) st' := by
  obtain ⟨z, z0, t1⟩ := tape_ok (k := 227) (ns := ns)
  have t : T ns [.lst (ns.map .int), .lst (tp 0 0 0 z)] := ⟨0, 0, z, by omega, by omega, z0, rfl⟩
  obtain ⟨q1, st1, a1, a2, a3, a4⟩ := drawT (k := 227) (m := 4) t (by decide)
  obtain ⟨xs, st2, n1, n2, n3, n4⟩ := names_ok (k := 226) (mn := 1 + q1) (by omega) (by omega) a2
  have hx : NM xs := ⟨fun e => by subst e; simp at n2; omega, by omega, n3⟩
  have len2 : st2.length = 2 := n4.len
  have h2 : TR ns (R1 xs) (st2 ++ [.lst (xs.map .str)]) := (TR.of n4).push [.lst (xs.map .str)]
  obtain ⟨ps, st3, c1, c2, c3, c4⟩ := any_ok (k := 200) hx h2
  obtain ⟨q4, st4, d1, d2, d3, d4⟩ := drawR (k := 227) (m := 2) c2 (by decide)
  have hps : ∀ s ∈ ps, ZS 42 s := fun s hs => (c3 s hs).z.mono (by omega)
  have hd0 : D 0 = some d0 := rfl
  have start : ∀ {s : Store}, evSs (evCall TURNS D 228) TURNS d0.body [some (.rol (ns.map .int)), none, none, none, none, none] [] = .rt (.bl true) s → ∃ st', evCall TURNS D (DEEP + 1) 0 [.rol (ns.map .int)] [] = .ok (.bl true) st' := fun {s} hh => by
    obtain ⟨st', l1⟩ := leave0 true s
    exact ⟨st', (call_rt' (k := 228) (args := [.rol (ns.map .int)]) (st := []) (s := s) (v := .bl true) hd0 rfl rfl rfl hh).trans l1⟩
  by_cases k0 : q4 = 0
  · subst k0
    obtain ⟨c, st5, g1, g2, g3, g4⟩ := great_ok (k := 215) hx d2
    have pl := pz_many fun s hs => (hps s hs).pos
    obtain ⟨S, hS⟩ : ∃ S : PV, S = PV.tup [.str "while", .non, c, .tup []] := ⟨_, rfl⟩
    have ad : ∀ st, binV .add (.tup ps) (.tup [S]) st = some (.tup (ps ++ [S])) := fun st => bin_add_tup (by rw [sizeLine_eq, List.length_cons, List.length_nil]; omega)
    have zw : ZS 42 S := by
      rw [hS]
      exact ZH.while_ rfl (by simp) g3.z (fun s hs => nomatch hs)
    have zp : pz S ≤ 41 := by
      rw [hS, pz_node, pzL_cons, pzL_cons, pzL_cons, pzL_nil, show pz (.tup []) = 0 by simp [pz, pzT], show pz .non = 0 by simp]
      omega
    obtain ⟨s', r1⟩ := rest_ok (ps := ps ++ [S]) (e0 := some (.rol (ns.map .int))) (e2 := some (.loc 2)) g2 (fun s hs => by
      rcases List.mem_append.mp hs with hs | hs
      · exact hps s hs
      · rw [List.mem_singleton.mp hs]; exact zw) (by rw [pzL_app, pzL_cons, pzL_nil]; omega)
    refine start (s := s') ?_
    unfold d0
    refine (evSs_step (env' := [some (.rol (ns.map .int)), some (.loc 1), none, none, none, none]) (st' := [.lst (ns.map .int), .lst (tp 0 0 0 z)]) ?_).trans ?_
    · simp [evS, ev, evA, t1]
    refine (evSs_step (env' := [some (.rol (ns.map .int)), some (.loc 1), some (.loc 2), none, none, none]) (st' := st2 ++ [.lst (xs.map .str)]) ?_).trans ?_
    · simp [evS, ev, evA, a1, n1, len2]
    refine (evSs_step (env' := [some (.rol (ns.map .int)), some (.loc 1), some (.loc 2), some (.tup ps), none, none]) (st' := st3) ?_).trans ?_
    · simp [evS, ev, evA, c1]
    refine (evSs_step (env' := [some (.rol (ns.map .int)), some (.loc 1), some (.loc 2), some (.tup (ps ++ [S])), none, none]) (st' := st5) ?_).trans r1
    have pc := fun st => esc_p g3.pure st
    rw [hS] at ad
    rw [hS]
    simp [evS, evSs, evSrc, ev, evA, evCs, d1, g1, pc, ad, sizeLine_eq, -List.map_map]
  · obtain ⟨s', r1⟩ := rest_ok (ps := ps) (e0 := some (.rol (ns.map .int))) (e2 := some (.loc 2)) d2 hps (by omega)
    refine start (s := s') ?_
    unfold d0
    refine (evSs_step (env' := [some (.rol (ns.map .int)), some (.loc 1), none, none, none, none]) (st' := [.lst (ns.map .int), .lst (tp 0 0 0 z)]) ?_).trans ?_
    · simp [evS, ev, evA, t1]
    refine (evSs_step (env' := [some (.rol (ns.map .int)), some (.loc 1), some (.loc 2), none, none, none]) (st' := st2 ++ [.lst (xs.map .str)]) ?_).trans ?_
    · simp [evS, ev, evA, a1, n1, len2]
    refine (evSs_step (env' := [some (.rol (ns.map .int)), some (.loc 1), some (.loc 2), some (.tup ps), none, none]) (st' := st3) ?_).trans ?_
    · simp [evS, ev, evA, c1]
    refine (evSs_step (env' := [some (.rol (ns.map .int)), some (.loc 1), some (.loc 2), some (.tup ps), none, none]) (st' := st4) ?_).trans r1
    simp [evS, evSs, ev, evA, d1, k0]
end K02


open PySem PySem.W PyProof.Rows
set_option maxHeartbeats 0 in
theorem PySem.Challenge.cw_flowform_k02_places_and_depths_holds : PySem.Challenge.rw_flowform_k02_places_and_depths.Holds := by
  w_on; o_law; k_head; (case hw => w_witness2)
  k_fill
  refine U.walk_ofG (l := PySem.Challenge.rw_flowform_k02_places_and_depths) (n := 63) rfl (by decide) rfl (fun w h Y => PySem.W.kIn_of Y) fun w mg fa base H s a ns KX G nl hmg hl Ev ho hS => ?_
  refine' K02.all_mk KX G hmg nl Ev (K02.main ns hl) ho hS ?a11 ?l11 ?c11 ?k11 ?a12 ?l12 ?c12 ?k12 ?a13 ?l13 ?c13 ?k13 ?a40 ?l40 ?c40 ?k40 ?a41 ?l41 ?c41 ?k41 ?a42 ?l42 ?c42 ?k42 ?a43 ?l43 ?c43 ?k43 ?a44 ?l44 ?c44 ?k44 ?a45 ?l45 ?c45 ?k45 ?a46 ?l46 ?c46 ?k46 ?a4 ?l4 ?c4 ?k4 ?a5 ?l5 ?c5 ?k5 ?a6 ?l6 ?c6 ?k6 ?a18 ?l18 ?c18 ?k18 ?a19 ?l19 ?c19 ?k19 ?a20 ?l20 ?c20 ?k20 ?a21 ?l21 ?c21 ?k21 ?a22 ?l22 ?c22 ?k22 ?a23 ?l23 ?c23 ?k23 ?a24 ?l24 ?c24 ?k24 ?a25 ?l25 ?c25 ?k25 ?a26 ?l26 ?c26 ?k26 ?a27 ?l27 ?c27 ?k27 ?a28 ?l28 ?c28 ?k28 ?a29 ?l29 ?c29 ?k29 ?a30 ?l30 ?c30 ?k30 ?a31 ?l31 ?c31 ?k31 ?a32 ?l32 ?c32 ?k32 ?a33 ?l33 ?c33 ?k33 ?a35 ?l35 ?c35 ?k35 ?a36 ?l36 ?c36 ?k36 ?a37 ?l37 ?c37 ?k37 ?a47 ?l47 ?c47 ?k47 ?a48 ?l48 ?c48 ?k48 ?a49 ?l49 ?c49 ?k49 ?a50 ?l50 ?c50 ?k50 ?a0 ?l0 ?c0 ?k0 ?dg0 ?dl0 ?di0 ?dj0 ?dm0 ?b0 ?b1 ?b2 ?b3 ?b4 ?b5 ?b6 ?b7 ?b8 ?b9 ?b10
  (case a11 => k_is); (case l11 => k_is); (case c11 => k_is); (case k11 => k_is); (case a12 => k_is); (case l12 => k_is); (case c12 => k_is); (case k12 => k_is); (case a13 => k_is); (case l13 => k_is); (case c13 => k_is); (case k13 => k_is); (case a40 => k_is); (case l40 => k_is); (case c40 => k_is); (case k40 => k_is); (case a41 => k_is); (case l41 => k_is); (case c41 => k_is); (case k41 => k_is); (case a42 => k_is); (case l42 => k_is); (case c42 => k_is); (case k42 => k_is); (case a43 => k_is); (case l43 => k_is); (case c43 => k_is); (case k43 => k_is); (case a44 => k_is); (case l44 => k_is); (case c44 => k_is); (case k44 => k_is); (case a45 => k_is); (case l45 => k_is); (case c45 => k_is); (case k45 => k_is); (case a46 => k_is); (case l46 => k_is); (case c46 => k_is); (case k46 => k_is); (case a4 => k_is); (case l4 => k_is); (case c4 => k_is); (case k4 => k_is); (case a5 => k_is); (case l5 => k_is); (case c5 => k_is); (case k5 => k_is); (case a6 => k_is); (case l6 => k_is); (case c6 => k_is); (case k6 => k_is); (case a18 => k_is); (case l18 => k_is); (case c18 => k_is); (case k18 => k_is); (case a19 => k_is); (case l19 => k_is); (case c19 => k_is); (case k19 => k_is); (case a20 => k_is); (case l20 => k_is); (case c20 => k_is); (case k20 => k_is); (case a21 => k_is); (case l21 => k_is); (case c21 => k_is); (case k21 => k_is); (case a22 => k_is); (case l22 => k_is); (case c22 => k_is); (case k22 => k_is); (case a23 => k_is); (case l23 => k_is); (case c23 => k_is); (case k23 => k_is); (case a24 => k_is); (case l24 => k_is); (case c24 => k_is); (case k24 => k_is); (case a25 => k_is); (case l25 => k_is); (case c25 => k_is); (case k25 => k_is); (case a26 => k_is); (case l26 => k_is); (case c26 => k_is); (case k26 => k_is); (case a27 => k_is); (case l27 => k_is); (case c27 => k_is); (case k27 => k_is); (case a28 => k_is); (case l28 => k_is); (case c28 => k_is); (case k28 => k_is); (case a29 => k_is); (case l29 => k_is); (case c29 => k_is); (case k29 => k_is); (case a30 => k_is); (case l30 => k_is); (case c30 => k_is); (case k30 => k_is); (case a31 => k_is); (case l31 => k_is); (case c31 => k_is); (case k31 => k_is); (case a32 => k_is); (case l32 => k_is); (case c32 => k_is); (case k32 => k_is); (case a33 => k_is); (case l33 => k_is); (case c33 => k_is); (case k33 => k_is); (case a35 => k_is); (case l35 => k_is); (case c35 => k_is); (case k35 => k_is); (case a36 => k_is); (case l36 => k_is); (case c36 => k_is); (case k36 => k_is); (case a37 => k_is); (case l37 => k_is); (case c37 => k_is); (case k37 => k_is); (case a47 => k_is); (case l47 => k_is); (case c47 => k_is); (case k47 => k_is); (case a48 => k_is); (case l48 => k_is); (case c48 => k_is); (case k48 => k_is); (case a49 => k_is); (case l49 => k_is); (case c49 => k_is); (case k49 => k_is); (case a50 => k_is); (case l50 => k_is); (case c50 => k_is); (case k50 => k_is); (case a0 => k_is); (case l0 => k_is); (case c0 => k_is); (case k0 => k_is); (case dg0 => k_is); (case dl0 => k_is); (case b0 => k_is); (case b1 => k_is); (case b2 => k_is); (case b3 => k_is); (case b4 => k_is); (case b5 => k_is); (case b6 => k_is); (case b7 => k_is); (case b8 => k_is); (case b9 => k_is); (case b10 => k_is)
  (case di0 => exact ⟨⟨_, _, rfl, rfl⟩, ⟨⟨_, _, rfl, rfl⟩, ⟨⟨_, _, rfl, rfl⟩, ⟨⟨_, _, rfl, rfl⟩, ⟨⟨_, _, rfl, rfl⟩, trivial⟩⟩⟩⟩⟩); (case dj0 => decide); (case dm0 => exact ⟨⟨_, _, rfl, rfl, ⟨_, rfl⟩⟩, ⟨⟨_, _, rfl, rfl, ⟨_, rfl⟩⟩, ⟨⟨_, _, rfl, rfl, ⟨_, rfl⟩⟩, ⟨⟨_, _, rfl, rfl, ⟨_, rfl⟩⟩, ⟨⟨_, _, rfl, rfl, ⟨_, rfl⟩⟩, trivial⟩⟩⟩⟩⟩)

