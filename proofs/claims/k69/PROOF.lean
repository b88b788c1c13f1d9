import PyProof.Rows.All
import HandS.ForMost
import HandS.TupLe
import HandS.TupAny
import HandS.DeepEq
import HandS.RaiseMore
import HandS.IsInst
import HandS.More
import HandS.Dict
import HandS.SortKw
import KE.DataMinMax
import HandS.Star
import HandS.FStr
import HandS.Flow
import HandS.Iter
import HandS.Rev
import HandS.Strs
import PySem.Challenge.RW_flowform_k69_order_of_blocks
import HandS.Codes
set_option Elab.async false
set_option linter.all false
set_option maxRecDepth 100000
namespace U
open PySem PySem.Spec PyProof.Rows
open PySem.SeqAt
open MeetsSeq MeetsSeq2 MeetsSeq3 SeqRoads2
/-! t < u of tuples: decided at the first pair that is not equal; what stands behind it need not be comparable -/
/-- x < y gives k and leaves the state -/
def LtAt (A : Around) (s : Shared) (x y : Value) (k : Bool) : Prop :=
  ∀ (P : Program) (W : World) (Er Qq : Value → Shared → Prop), Qq (.bool k) s → wpAny (model P W) A (richCompare .Lt x y) Qq Er s
def Lx (A : Around) (s : Shared) (z : Bool) : List (Value × Value) → Bool → Prop
  | [], k => k = z
  | p :: r, k => (EqAt A s p.1 p.2 true ∧ Lx A s z r k) ∨ (EqAt A s p.1 p.2 false ∧ LtAt A s p.1 p.2 k)
theorem lt_meets (p q : Addr) (us vs : Array Value) (m n : Nat) (d1 d2 : Option Addr) (s1 s2 : Array (Option Value)) (k : Bool) :
    Meets (Builtin.«tuple.__lt__» ⟨[.ref p, .ref q], []⟩) (fun A R s => s.heap.get? p = some ⟨.type "tuple", d1, .seq us m, s1⟩ ∧ s.heap.get? q = some ⟨.type "tuple", d2, .seq vs n, s2⟩ ∧
      Lx A.in1 s (decide (us.size < vs.size)) (us.toList.zip vs.toList) k ∧ R (.ok (.ret (.bool k))) s) := by
  refine .of_wp fun P W A R s h => ?_
  obtain ⟨H, g, d, tk, os⟩ := s
  obtain ⟨hp, hq, hx, hR⟩ := h
  have f2 := AutoSeq1.sub_tuple_tuple
  wp_walk using AutoSeq1.wpAny_loadPart' hp, AutoSeq1.wpAny_loadPart' hq, wpAny_forIn_list _ (fun left b t => b.1 = none ∧ t = ⟨H, g, d, tk, os⟩ ∧ Lx A.in1 ⟨H, g, d, tk, os⟩ (decide (us.size < vs.size)) left k) _
  case turn =>
    rintro ⟨u, v⟩ left b t ⟨hb, rfl, hL⟩
    rcases hL with ⟨e1, e2⟩ | ⟨e1, e2⟩
    · refine wpAny_bind (e1 P W _ _ ?_)
      wp_walk
      exact ⟨rfl, rfl, e2⟩
    · refine wpAny_bind (e1 P W _ _ ?_)
      have e3 := e2 P W
      wp_walk using e3
      exact ⟨_, rfl, hR⟩
  case fin =>
    rintro ⟨b1, b2⟩ t ⟨hb, rfl, hL⟩
    simp only at hb
    subst hb
    have hL : k = decide (us.size < vs.size) := hL
    subst hL
    wp_walk
    exact ⟨_, rfl, by simpa [Builtin.Tuple.tupleCompareSizes] using hR⟩
  case h => exact ⟨rfl, rfl, hx⟩
theorem LtAt.tup {A : Around} {s : Shared} {p q : Addr} {us vs : Array Value} {k : Bool} (hp : s.heap.IsTuple p us) (hq : s.heap.IsTuple q vs) (hu : A.units < cLine)
    (h : Lx A.in1 s (decide (us.size < vs.size)) (us.toList.zip vs.toList) k) : LtAt A s (.ref p) (.ref q) k := by
  intro P W Er Qq hQ
  obtain ⟨⟨c1, d1, x1, s1⟩, h1, h2, m, h3⟩ := id hp
  obtain ⟨⟨c2, d2, x2, s2⟩, h4, h5, n, h6⟩ := id hq
  cases h2; cases h3; cases h5; cases h6
  exact richCompare_meets_room (op := .Lt) ⟨_, h1, rfl⟩ ⟨_, h4, rfl⟩ F.slot_tuple_lt F.entry_tuple_lt (F.args_tuple_lt_2 _ _) (lt_meets p q us vs m n d1 d2 s1 s2 k) ⟨h1, h4, h, ⟨(fun z => nomatch z), hQ⟩⟩ hu
mutual
/-- x < y of data: numbers, texts, tuples -/
def dLt : PyData → PyData → Option Bool
  | .int i, .int j => some (decide (i < j))
  | .str x, .str y => some (decide (x.cps.toList < y.cps.toList))
  | .tuple xs, .tuple ys => dLts xs ys
  | _, _ => none
def dLts : List PyData → List PyData → Option Bool
  | [], ys => some (!ys.isEmpty)
  | _ :: _, [] => some false
  | x :: xs, y :: ys => if PyData.eqv x y = true then dLts xs ys else dLt x y
end
mutual
theorem lt_reads : ∀ (a b : PyData) (A : Around) (s : Shared) (x y : Value) (as bs : List Addr) (k : Bool), Reads s.heap x a as → Reads s.heap y b bs → a.canLay0 = true → b.canLay0 = true → A.units + min a.depth b.depth < cLine → dLt a b = some k → LtAt A s x y k
  | .int i, b, A, s, x, y, as, bs, k, ra, rb, ca, cb, hu, h => by
    unfold dLt at h
    cases b <;> first | (cases h; done) | skip
    cases h
    cases ra
    cases rb
    exact fun P W Er Qq hQ => PyProof.Rows.lt_int hQ
  | .str i, b, A, s, x, y, as, bs, k, ra, rb, ca, cb, hu, h => by
    unfold dLt at h
    cases b <;> first | (cases h; done) | skip
    cases h
    cases ra
    cases rb
    exact fun P W Er Qq hQ => PyProof.Rows.lt_str hQ
  | .tuple xs, b, A, s, x, y, as, bs, k, ra, rb, ca, cb, hu, h => by
    unfold dLt at h
    cases b <;> first | (cases h; done) | skip
    rename_i ys
    cases ra with
    | @tuple l o us n _ as1 h1 h2 h3 h4 =>
      cases rb with
      | @tuple l' o' vs n' _ bs1 k1 k2 k3 k4 =>
        have hd : A.units + (1 + min (PyData.depthAll xs) (PyData.depthAll ys)) < cLine := by
          have e1 : (PyData.tuple xs).depth = PyData.depthAll xs + 1 := rfl
          have e2 : (PyData.tuple ys).depth = PyData.depthAll ys + 1 := rfl
          rw [e1, e2] at hu
          omega
        refine LtAt.tup ⟨_, h1, h2, _, h3⟩ ⟨_, k1, k2, _, k3⟩ (by omega) ?_
        have n1 : us.size = us.toList.length := by simp
        have n2 : vs.size = vs.toList.length := by simp
        rw [n1, n2]
        exact lt_readsAll xs ys A.in1 s us.toList vs.toList _ _ k h4 k4 ca cb (by show A.units + 1 + _ < _; omega) h
  | .none, b, _, _, _, _, _, _, _, _, _, _, _, _, h => by unfold dLt at h; cases b <;> cases h
  | .bool _, b, _, _, _, _, _, _, _, _, _, _, _, _, h => by unfold dLt at h; cases b <;> cases h
  | .list _, b, _, _, _, _, _, _, _, _, _, _, _, _, h => by unfold dLt at h; cases b <;> cases h
  | .dict _, b, _, _, _, _, _, _, _, _, _, _, _, _, h => by unfold dLt at h; cases b <;> cases h
theorem lt_readsAll : ∀ (xs ys : List PyData) (A : Around) (s : Shared) (us vs : List Value) (as bs : List Addr) (k : Bool), ReadsAll s.heap us xs as → ReadsAll s.heap vs ys bs → PyData.canLayAll0 xs = true → PyData.canLayAll0 ys = true →
    A.units + min (PyData.depthAll xs) (PyData.depthAll ys) < cLine → dLts xs ys = some k → Lx A s (decide (us.length < vs.length)) (us.zip vs) k
  | [], ys, A, s, us, vs, as, bs, k, ra, rb, ca, cb, hu, h => by
    cases ra
    cases rb with
    | nil => cases h; rfl
    | cons r1 r2 => cases h; rfl
  | x :: xs, [], A, s, us, vs, as, bs, k, ra, rb, ca, cb, hu, h => by
    cases rb
    cases ra
    cases h
    show _ = decide _
    simp
  | x :: xs, y :: ys, A, s, us, vs, as, bs, k, ra, rb, ca, cb, hu, h => by
    cases ra with
    | @cons u us' _ _ a1 a2 r1 r2 =>
      cases rb with
      | @cons v vs' _ _ b1 b2 q1 q2 =>
        have ca : (PyData.canLay0 x && PyData.canLayAll0 xs) = true := ca
        have cb : (PyData.canLay0 y && PyData.canLayAll0 ys) = true := cb
        rw [Bool.and_eq_true] at ca cb
        have e1 : PyData.depthAll (x :: xs) = max x.depth (PyData.depthAll xs) := rfl
        have e2 : PyData.depthAll (y :: ys) = max y.depth (PyData.depthAll ys) := rfl
        rw [e1, e2] at hu
        have E := eqAt_reads x y A s u v _ _ r1 q1 ca.1 cb.1 (by omega)
        unfold dLts at h
        have dl : decide ((u :: us').length < (v :: vs').length) = decide (us'.length < vs'.length) := by simp
        rw [dl]
        split at h
        · rename_i he
          rw [he] at E
          exact .inl ⟨E, lt_readsAll xs ys A s us' vs' _ _ k r2 q2 ca.2 cb.2 (by omega) h⟩
        · rename_i he
          rw [eq_false_of_ne_true he] at E
          exact .inr ⟨E, lt_reads x y A s u v _ _ k r1 q1 ca.1 cb.1 (by omega) h⟩
end
end U

set_option maxHeartbeats 4000000
/-! U1: a small language of programs over plain data, and what its programs yield. -/
namespace U
open PySem

/-- plain data; loc: a list that is shared, by its place in the store; fl: a list that nothing else holds; rol: a list that is only read -/
inductive PV where
  | non | bl (b : Bool) | int (i : Int) | str (s : Str) | tup (xs : List PV) | loc (n : Nat) | fl (xs : List PV) | rol (xs : List PV)
  deriving Inhabited
/-- what stands at a place of the store: a list -/
inductive Cell where
  | lst (xs : List PV)
  deriving Inhabited
abbrev Store := List Cell
abbrev En := List (Option PV)

inductive Res (α : Type) where
  | ok (a : α) (st : Store)
  | bad
def Res.bind {α β : Type} : Res α → (α → Store → Res β) → Res β
  | .ok a st, f => f a st
  | .bad, _ => .bad
def opt {α : Type} (o : Option α) (st : Store) : Res α := match o with
  | some a => .ok a st
  | none => .bad

inductive BOp where | add | sub | mul | fdiv | mod | pow
inductive COp where | eq | ne | lt | le | gt | ge | isN | notN | inn | nin
inductive BF where | len | int | abs | max | min | str | repr | reprD | list | tuple | sum | all | any
inductive MF where | append | split | partition | join
inductive Ty where | int | bool | str | tuple | list
inductive MG where
  | nm (i : Nat)
  | tp (is : List Nat)

mutual
inductive ME where
  | var (i : Nat)
  | con (v : PV)
  | glb (x : Str) (v : PV)
  | bin (o : BOp) (a b : ME)
  | neg (a : ME)
  | cmp (o : COp) (a b : ME)
  | cmp2 (o o' : COp) (a b c : ME)
  | not (a : ME)
  | and (a b : ME)
  | or (a b : ME)
  | ite (t a b : ME)
  | fn (f : Nat) (as : MEs)
  | bi (f : BF) (as : MEs)
  | mt (m : MF) (o : ME) (as : MEs)
  | tup (as : MEs)
  | lst (as : MEs)
  | ix (a i : ME)
  | sl (a lo hi : ME)
  | lc (elt : ME) (g : MG) (src : ME) (has : Bool) (c : ME)
  | rng (a b : ME)
  | rev (a : ME)
  | star (a : ME)
  | tupS (as : MEs)
  | gidx (x : Str) (vs : List Str) (a : ME)
  | isi (t : Ty) (a : ME)
  | fmt (a : ME)
  | mxd (a : ME) (d : Int)
  | fstr (as : MEs)
  | dix (x : Str) (kvs : List (Str × PV)) (a : ME)
  | gget (x : Str) (kvs : List (Str × PV)) (a b : ME)
inductive MEs where
  | nil
  | cons (a : ME) (as : MEs)
end
mutual
inductive MS where
  | set (i : Nat) (e : ME) (own : Bool)
  | setT (is : List Nat) (e : ME)
  | par (i j : Nat) (as : MEs)
  | setIx (a i e : ME)
  | swp (a i b j e : ME)
  | ins (a : ME) (as : MEs)
  | setSl (a lo hi e : ME)
  | aug (i : Nat) (o : BOp) (e : ME)
  | ex (e : ME)
  | app (i : Nat) (e : ME)
  | ext (i : Nat) (e : ME)
  | ret (e : ME)
  | ret0
  | ite (t : ME) (a b : MSs)
  | whl (t : ME) (b : MSs)
  | for_ (g : MG) (src : ME) (b : MSs)
  | brk | cnt | pass
inductive MSs where
  | nil
  | cons (s : MS) (ss : MSs)
end

/-! ### values -/
def PV.isFl : PV → Bool
  | .fl _ => true
  | _ => false
/-- the items of a list or tuple -/
def seqOf (v : PV) (st : Store) : Option (List PV) := match v with
  | .tup xs => some xs
  | .fl xs => some xs
  | .rol xs => some xs
  | .loc n => match st[n]? with
    | some (.lst xs) => some xs
    | none => none
  | _ => none
/-- .. of a list that is read -/
def rdOf (v : PV) (st : Store) : Option (List PV) := match v with
  | .tup _ => none
  | v => seqOf v st
/-- .. of a list -/
def listOf (v : PV) (st : Store) : Option (List PV) := match v with
  | .fl xs => some xs
  | .loc n => match st[n]? with
    | some (.lst xs) => some xs
    | none => none
  | _ => none
def truth (v : PV) (st : Store) : Option Bool := match v with
  | .non => some false
  | .bl b => some b
  | .int i => some (i != 0)
  | .str s => if s.length ≤ sizeLine then some ((s.length : Int) != 0) else none
  | v => (seqOf v st).map fun xs => !xs.isEmpty
def ckM (i j : Int) : Bool := (decide (-(2 ^ 64) < i) && decide (i < 2 ^ 64)) || (decide (-(2 ^ 64) < j) && decide (j < 2 ^ 64))
def binV (o : BOp) (a b : PV) (st : Store) : Option PV := match o, a, b with
  | .add, .int i, .int j => some (.int (i + j))
  | .add, .str x, .str y => if x.length + y.length ≤ sizeLine then some (.str (x ++ y)) else none
  | .add, .tup xs, .tup ys => if xs.length + ys.length ≤ sizeLine then some (.tup (xs ++ ys)) else none
  | .add, a, b => match listOf a st, listOf b st with
    | some xs, some ys => if xs.length + ys.length ≤ sizeLine then some (.fl (xs ++ ys)) else none
    | _, _ => none
  | .sub, .int i, .int j => some (.int (i - j))
  | .mul, .int i, .int j => if ckM i j then some (.int (i * j)) else none
  | .mul, .str x, .int j => if -1000000 ≤ j ∧ j ≤ 1000000 ∧ x.length * j.toNat ≤ 1000000 then some (.str (⟨((List.replicate j.toNat x.cps.toList).flatten).toArray⟩)) else none
  | .fdiv, .int i, .int j => if 0 < j ∧ j < 1073741824 then some (.int (i / j)) else none
  | .mod, .int i, .int j => if 0 < j then some (.int (i % j)) else none
  | .pow, .int i, .int j => if 0 ≤ j ∧ j ≤ 1000000 ∧ i.natAbs < 2 ^ 64 then some (.int (i ^ j.toNat)) else none
  | _, _, _ => none
/-- a flat value -/
def flV : PV → Option L2.V
  | .non => some .non
  | .bl b => some (.bl b)
  | .int i => some (.int i)
  | .str s => some (.str s)
  | _ => none
def flL : List PV → Option (List L2.V)
  | [] => some []
  | x :: r => match flV x, flL r with
    | some v, some vs => some (v :: vs)
    | _, _ => none
/-- == of two scalars -/
def eqS (a b : PV) : Option Bool := match flV a, flV b with
  | some x, some y => if L2.scal x y = true then some (decide (x = y)) else none
  | _, _ => none
/-- a flat thing among flat things -/
def memF (a : PV) (ys : List PV) : Option Bool := match flV a, flL ys with
  | some x, some vs => some (L2.inV x vs)
  | _, _ => none
def inV (a b : PV) (st : Store) : Option Bool := match a, b with
  | .str x, .str z => match x.cps.toList with
    | [c] => some (decide (c ∈ z.cps.toList))
    | _ => none
  | a, b => match seqOf b st with
    | some ys => memF a ys
    | none => none
def ixV (a i : PV) (st : Store) : Option PV := match i with
  | .int k => match a with
    | .str z => if z.length ≤ sizeLine then (L2.atI z.cps.toList k).map fun c => .str ⟨#[c]⟩ else none
    | a => match seqOf a st with
      | some xs => L2.atI xs k
      | none => none
  | _ => none
/-- a slice's bound; absent: none is written -/
def bound (absent : Bool) (v : PV) : Option (Option Int) := match absent, v with
  | true, .non => some none
  | false, .int i => some (some i)
  | _, _ => none
def cutL (xs : List PV) (lo hi : Option Int) : List PV := (xs.drop (HT.sIx xs.length 0 lo)).take (HT.sIx xs.length xs.length hi - HT.sIx xs.length 0 lo)
def slV (a : PV) (lo hi : Option Int) (st : Store) : Option PV := match a with
  | .str z => if z.length ≤ sizeLine then some (.str (L2.cutS z lo hi)) else none
  | .tup xs => some (.tup (cutL xs lo hi))
  | a => match seqOf a st with
    | some xs => some (.fl (cutL xs lo hi))
    | none => none
def bools : List PV → Option (List Bool)
  | [] => some []
  | .bl b :: r => (bools r).map (b :: ·)
  | _ :: _ => none
def intsL : List PV → Option (List Int)
  | [] => some []
  | .int b :: r => (intsL r).map (b :: ·)
  | _ :: _ => none
def strsL : List PV → Option (List Str)
  | [] => some []
  | .str b :: r => (strsL r).map (b :: ·)
  | _ :: _ => none
mutual
/-- a value as the library's data -/
def pyOf : PV → Option PyData
  | .non => some .none
  | .bl b => some (.bool b)
  | .int i => some (.int i)
  | .str s => some (.str s)
  | .tup xs => (pyOfL xs).map .tuple
  | _ => none
def pyOfL : List PV → Option (List PyData)
  | [] => some []
  | x :: xs => match pyOf x, pyOfL xs with
    | some d, some ds => some (d :: ds)
    | _, _ => none
end
/-- == of scalars, or of data -/
def eqD (a b : PV) : Option Bool := match eqS a b with
  | some k => some k
  | none => match pyOf a, pyOf b with
    | some d, some e => if (SeqAt.shaped d && SeqAt.shaped e) = true then some (PyData.eqv d e) else none
    | _, _ => none
/-- < of data -/
def ltD (a b : PV) : Option Bool := match pyOf a, pyOf b with
  | some d, some e => if (SeqAt.shaped d && SeqAt.shaped e) = true then dLt d e else none
  | _, _ => none
def cmpV (o : COp) (a b : PV) (st : Store) : Option Bool := match o with
  | .eq => eqD a b
  | .ne => (eqD a b).map (!·)
  | .lt => match a, b with
    | .int i, .int j => some (decide (i < j))
    | a, b => ltD a b
  | .le => match a, b with
    | .int i, .int j => some (decide (i ≤ j))
    | _, _ => none
  | .gt => match a, b with
    | .int i, .int j => some (decide (j < i))
    | _, _ => none
  | .ge => match a, b with
    | .int i, .int j => some (decide (j ≤ i))
    | _, _ => none
  | .isN => match b with
    | .non => match a with
      | .non => some true
      | .fl _ => none
      | _ => some false
    | _ => none
  | .notN => match b with
    | .non => match a with
      | .non => some false
      | .fl _ => none
      | _ => some true
    | _ => none
  | .inn => inV a b st
  | .nin => (inV a b st).map (!·)
/-- the text of data -/
def shownV (v : PV) : Option PV := match pyOf v with
  | some d => if d.showable = true ∧ d.hasDict = false ∧ d.depth ≤ 100 ∧ d.shown.length ≤ sizeLine then some (.str d.shown) else none
  | none => none
def biV (f : BF) (as : List PV) (st : Store) : Option PV := match f, as with
  | .len, [.str z] => if z.length ≤ sizeLine then some (.int z.length) else none
  | .len, [a] => (seqOf a st).map fun xs => .int xs.length
  | .int, [.int i] => some (.int i)
  | .int, [.bl k] => some (.int (if k then 1 else 0))
  | .int, [.str z] => if z.length ≤ 640 then (PySem.intText? z).map .int else none
  | .abs, [.int i] => some (.int (if i < 0 then -i else i))
  | .max, [.int i, .int j] => some (.int (if j > i then j else i))
  | .min, [.int i, .int j] => some (.int (if j < i then j else i))
  | .str, [.int i] => if i.natAbs < 1000000 then some (.str (toString i)) else none
  | .str, [.str z] => some (.str z)
  | .max, [a] => match rdOf a st with
    | some xs => match intsL xs with
      | some (n :: r) => some (.int (r.foldl max n))
      | _ => none
    | none => none
  | .reprD, [.tup xs] => shownV (.tup xs)
  | .reprD, [.int i] => if i.natAbs < 1000000 then some (.str (toString i)) else none
  | .repr, [.bl b] => some (.str (if b then Str.ofString "True" else Str.ofString "False"))
  | .repr, [.str z] => if (reprText z).length ≤ sizeLine then some (.str (reprText z)) else none
  | .list, [a] => (seqOf a st).map fun xs => .fl xs
  | .tuple, [.tup xs] => some (.tup xs)
  | .tuple, [a] => (seqOf a st).map fun xs => .tup xs
  | .sum, [a] => match rdOf a st with
    | some xs => (intsL xs).map fun ns => .int ns.sum
    | none => none
  | .all, [a] => match rdOf a st with
    | some xs => (bools xs).map fun bs => .bl (bs.all id)
    | none => none
  | .any, [a] => match rdOf a st with
    | some xs => (bools xs).map fun bs => .bl (bs.any id)
    | none => none
  | _, _ => none
def setAt (st : Store) (n : Nat) (xs : List PV) : Store := st.set n (.lst xs)
/-- max of a list of ints, d where it is empty -/
def maxdV (d : Int) (x : PV) (st : Store) : Option PV := match rdOf x st with
  | some xs => match intsL xs with
    | some [] => some (.int d)
    | some (n :: r) => some (.int (r.foldl max n))
    | none => none
  | none => none
/-- {x} -/
def fmtV (x : PV) : Option PV := match x with
  | .str z => if z.length ≤ sizeLine then some (.str z) else none
  | .int i => if i.natAbs < 1000000 then some (.str (toString i)) else none
  | _ => none
/-- texts one behind the other -/
def glueV : List PV → Str → Option Str
  | [], acc => some acc
  | .str y :: r, acc => if (acc ++ y).length ≤ sizeLine then glueV r (acc ++ y) else none
  | _ :: _, _ => none
/-- the value at a text among a dict's -/
def dixV (kvs : List (Str × PV)) (x : PV) : Option PV := match x with
  | .str z => kvs.lookup z
  | _ => none
/-- the value at a text among a dict's, or another one -/
def getV (kvs : List (Str × PV)) (x y : PV) : Option PV := match x with
  | .str z => if y.isFl then none else some ((kvs.lookup z).getD y)
  | _ => none
/-- where a text stands in a tuple of the module -/
def idxV (vs : List Str) (y : PV) : Option PV := match y with
  | .str z => (vs.findIdx? fun y => decide (y = z)).map fun j => .int (j : Nat)
  | _ => none
/-- isinstance -/
def isiV (t : Ty) (v : PV) : Bool := match t, v with
  | .int, .int _ => true
  | .int, .bl _ => true
  | .bool, .bl _ => true
  | .str, .str _ => true
  | .tuple, .tup _ => true
  | .list, .loc _ => true
  | .list, .fl _ => true
  | .list, .rol _ => true
  | _, _ => false
/-- a method of a list or text: the answer, the store -/
def mtV (m : MF) (o : PV) (as : List PV) (st : Store) : Res PV := match m, o, as with
  | .append, .loc n, [x] => match st[n]? with
    | some (.lst xs) => if xs.length < sizeLine ∧ x.isFl = false then .ok .non (setAt st n (xs ++ [x])) else .bad
    | _ => .bad
  | .split, .str a, [.str b] => if b.length = 0 ∨ sizeLine < a.length + 2 then .bad else .ok (.fl ((Txt.split a b).map .str)) st
  | .partition, .str a, [.str b] => if b.length = 0 ∨ sizeLine < a.length then .bad else .ok (.tup [.str (Txt.partition a b).1, .str (Txt.partition a b).2.1, .str (Txt.partition a b).2.2]) st
  | .join, .str a, [x] => match seqOf x st with
    | some xs => match strsL xs with
      | some ys => if (ys.map (·.length)).sum + a.length * ys.length ≤ 16000000 then .ok (.str (Txt.join a ys)) st else .bad
      | none => .bad
    | none => .bad
  | _, _, _ => .bad
/-- a list that comes to be shared -/
def esc (v : PV) (st : Store) : PV × Store := match v with
  | .fl xs => (.loc st.length, st ++ [.lst xs])
  | v => (v, st)

/-! ### what a walk goes over -/
inductive Src where
  | items (xs : List PV)
  | live (n : Nat) (many : Nat)
def Src.many : Src → Nat
  | .items xs => xs.length
  | .live _ m => m
/-- the j-th item; the source must be as long as it was -/
def Src.get (s : Src) (j : Nat) (st : Store) : Option PV := match s with
  | .items xs => xs[j]?
  | .live n m => match seqOf (.loc n) st with
    | some xs => if xs.length = m then xs[j]? else none
    | none => none
def Src.fits (s : Src) (st : Store) : Bool := match s with
  | .items _ => true
  | .live n m => match seqOf (.loc n) st with
    | some xs => xs.length == m
    | none => false
def srcV (v : PV) (st : Store) : Option Src := match v with
  | .str s => some (.items (s.cps.toList.map fun c => .str ⟨#[c]⟩))
  | .tup xs => some (.items xs)
  | .fl xs => some (.items xs)
  | .rol xs => some (.items xs)
  | .loc n => (seqOf (.loc n) st).map fun xs => .live n xs.length
  | _ => none
def setEach : List Nat → List PV → En → Option En
  | [], [], env => some env
  | i :: is, x :: xs, env => setEach is xs (env.set i (some x))
  | _, _, _ => none
def MG.put (g : MG) (x : PV) (env : En) : Option En := match g with
  | .nm i => some (env.set i (some x))
  | .tp is => match x with
    | .tup xs => setEach is xs env
    | _ => none
def MG.slots : MG → List Nat
  | .nm i => [i]
  | .tp is => is
def wipe (env : En) : List Nat → En
  | [] => env
  | v :: vs => (wipe env vs).set v none

/-! ### expressions -/
section
variable (call : Nat → List PV → Store → Res PV)
/-- the comprehension's turns -/
def lcLoop (test : En → Store → Res Bool) (elt : En → Store → Res PV) (put : PV → En → Option En) (env : En) (src : Src) : Nat → Nat → List PV → Store → Res PV
  | _, 0, acc, st => if src.fits st then .ok (.fl acc) st else .bad
  | j, m + 1, acc, st => match src.get j st with
    | none => .bad
    | some x => match put x env with
      | none => .bad
      | some env' => (test env' st).bind fun b st1 =>
        if b then (elt env' st1).bind fun y st2 => if acc.length < sizeLine then lcLoop test elt put env src (j + 1) m (acc ++ [(esc y st2).1]) (esc y st2).2 else .bad
        else lcLoop test elt put env src (j + 1) m acc st1
def ME.absent : ME → Bool
  | .con .non => true
  | _ => false
/-- for a value, for an immediate use that keeps no list, for its truth -/
inductive Md where | val | use | test
def done (m : Md) (v : PV) (st : Store) : Res PV := match m with
  | .test => (opt (truth v st) st).bind fun k st1 => .ok (.bl k) st1
  | _ => .ok v st
def isBl : PV → Option Bool
  | .bl k => some k
  | _ => none
def rngV (x y : PV) (st : Store) : Res Src := match x, y with
  | .int i, .int j => if (-(2 ^ 62) ≤ i ∧ i < 2 ^ 62 ∧ -(2 ^ 62) ≤ j ∧ j < 2 ^ 62) then .ok (.items ((List.range (j - i).toNat).map fun (k : Nat) => .int (i + k))) st else .bad
  | _, _ => .bad
def varV (m : Md) (o : Option (Option PV)) (st : Store) : Res PV := match o with
  | some (some v) => match m with
    | .val => match v with
      | .fl _ => .bad
      | v => .ok v st
    | m => done m v st
  | _ => .bad
mutual
/-- the value; a list that comes is fresh, but of a name that is used -/
def ev : ME → Md → En → Store → Res PV
  | .var i, m, env, st => varV m env[i]? st
  | .con v, m, _, st => done m v st
  | .glb _ v, m, _, st => done m v st
  | .bin o a b, m, env, st => (ev a .use env st).bind fun x st1 => (ev b .use env st1).bind fun y st2 => (opt (binV o x y st2) st2).bind fun v st3 => done m v st3
  | .neg a, m, env, st => (ev a .val env st).bind fun x st1 => match x with
    | .int i => done m (.int (-i)) st1
    | _ => .bad
  | .cmp o a b, _, env, st => (ev a .use env st).bind fun x st1 => (ev b .use env st1).bind fun y st2 => (opt (cmpV o x y st2) st2).bind fun k st3 => .ok (.bl k) st3
  | .cmp2 o o' a b c, _, env, st => (ev a .use env st).bind fun x st1 => (ev b .use env st1).bind fun y st2 => (opt (cmpV o x y st2) st2).bind fun k st3 =>
      if k then (ev c .use env st3).bind fun z st4 => (opt (cmpV o' y z st4) st4).bind fun k' st5 => .ok (.bl k') st5 else .ok (.bl false) st3
  | .not a, m, env, st => match m with
    | .test => (ev a .test env st).bind fun x st1 => (opt (isBl x) st1).bind fun k st2 => .ok (.bl (!k)) st2
    | _ => (ev a .use env st).bind fun x st1 => (opt (truth x st1) st1).bind fun k st2 => .ok (.bl (!k)) st2
  | .and a b, m, env, st => (ev a m env st).bind fun x st1 => (opt (isBl x) st1).bind fun k st2 => if k then ev b m env st2 else .ok (.bl false) st2
  | .or a b, m, env, st => (ev a m env st).bind fun x st1 => (opt (isBl x) st1).bind fun k st2 => if k then .ok (.bl true) st2 else ev b m env st2
  | .ite _ _ _, .test, _, _ => .bad
  | .ite t a b, m, env, st => (ev t .test env st).bind fun x st1 => (opt (isBl x) st1).bind fun k st2 => if k then ev a m env st2 else ev b m env st2
  | .fn f as, m, env, st => (evA as env st).bind fun xs st1 => (call f xs st1).bind fun v st2 => done m v st2
  | .bi f as, m, env, st => (evCs as env st).bind fun xs st1 => (opt (biV f xs st1) st1).bind fun v st2 => done m v st2
  | .mt f o as, m, env, st => (ev o .use env st).bind fun x st1 => (evCs as env st1).bind fun xs st2 => (mtV f x xs st2).bind fun v st3 => done m v st3
  | .tup as, m, env, st => (evA as env st).bind fun xs st1 => if xs.length ≤ sizeLine then done m (.tup xs) st1 else .bad
  | .lst as, m, env, st => (evA as env st).bind fun xs st1 => if xs.length ≤ sizeLine then done m (.fl xs) st1 else .bad
  | .ix a i, m, env, st => (ev a .use env st).bind fun x st1 => (ev i .val env st1).bind fun y st2 => (opt (ixV x y st2) st2).bind fun v st3 => done m v st3
  | .sl a lo hi, m, env, st => (ev a .use env st).bind fun x st1 => (ev lo .val env st1).bind fun l st2 => (ev hi .val env st2).bind fun h st3 =>
      (opt (bound lo.absent l) st3).bind fun l' st4 => (opt (bound hi.absent h) st4).bind fun h' st5 => (opt (slV x l' h' st5) st5).bind fun v st6 => done m v st6
  | .lc elt g (.rng a b) has c, m, env, st => (ev a .val env st).bind fun x st1 => (ev b .val env st1).bind fun y st2 => (rngV x y st2).bind fun s st3 =>
      (lcLoop (fun e s => if has then (ev c .test e s).bind fun x s1 => opt (isBl x) s1 else .ok true s) (ev elt .val) g.put (wipe env g.slots) s 0 s.many [] st3).bind fun v st4 => done m v st4
  | .lc elt g src has c, m, env, st => (ev src .use env st).bind fun x st1 => (opt (srcV x st1) st1).bind fun s st3 =>
      (lcLoop (fun e s => if has then (ev c .test e s).bind fun x s1 => opt (isBl x) s1 else .ok true s) (ev elt .val) g.put (wipe env g.slots) s 0 s.many [] st3).bind fun v st4 => done m v st4
  | .rng _ _, _, _, _ => .bad
  | .rev _, _, _, _ => .bad
  | .star _, _, _, _ => .bad
  | .tupS as, m, env, st => (evI as env st).bind fun xs st1 => if xs.length ≤ sizeLine then done m (.tup xs) st1 else .bad
  | .gidx _ vs a, m, env, st => (ev a .use env st).bind fun y st1 => (opt (idxV vs y) st1).bind fun v st2 => done m v st2
  | .isi t a, m, env, st => (ev a .use env st).bind fun x st1 => done m (.bl (isiV t x)) st1
  | .mxd a d, m, env, st => (ev a .use env st).bind fun x st1 => (opt (maxdV d x st1) st1).bind fun v st2 => done m v st2
  | .fmt a, m, env, st => (ev a .use env st).bind fun x st1 => (opt (fmtV x) st1).bind fun v st2 => done m v st2
  | .fstr as, m, env, st => (evCs as env st).bind fun xs st1 => (opt (glueV xs Str.empty) st1).bind fun z st2 => done m (.str z) st2
  | .dix _ kvs a, m, env, st => (ev a .val env st).bind fun x st1 => (opt (dixV kvs x) st1).bind fun v st2 => done m v st2
  | .gget _ kvs a b, m, env, st => (ev a .use env st).bind fun x st1 => (ev b .val env st1).bind fun y st2 => (opt (getV kvs x y) st2).bind fun v st3 => done m v st3
/-- arguments, items of a display: a list that comes is shared from then on -/
def evA : MEs → En → Store → Res (List PV)
  | .nil, _, st => .ok [] st
  | .cons a as, env, st => (ev a .val env st).bind fun x st1 => (evA as env (esc x st1).2).bind fun xs st2 => .ok ((esc x st1).1 :: xs) st2
/-- items of a display, some of them starred -/
def evI : MEs → En → Store → Res (List PV)
  | .nil, _, st => .ok [] st
  | .cons (.star a) as, env, st => (ev a .use env st).bind fun x st1 => (opt (seqOf x st1) st1).bind fun ys st2 => (evI as env st2).bind fun xs st3 => .ok (ys ++ xs) st3
  | .cons a as, env, st => (ev a .val env st).bind fun x st1 => (evI as env (esc x st1).2).bind fun xs st2 => .ok ((esc x st1).1 :: xs) st2
/-- arguments of a built-in, which keeps none of them -/
def evCs : MEs → En → Store → Res (List PV)
  | .nil, _, st => .ok [] st
  | .cons a as, env, st => (ev a .use env st).bind fun x st1 => (evCs as env st1).bind fun xs st2 => .ok (x :: xs) st2
end
/-- what reversed goes over -/
def revV (v : PV) : Option Src := match v with
  | .fl xs => some (.items xs.reverse)
  | .tup xs => some (.items xs.reverse)
  | _ => none
/-- o[k] = v -/
def putIx (o k v : PV) (st : Store) : Option Store := match o, k with
  | .loc n, .int k => match st[n]? with
    | some (.lst xs) => match L2.ixN xs.length k with
      | some j => if v.isFl then none else some (setAt st n (xs.set j v))
      | none => none
    | _ => none
  | _, _ => none
/-- what a for goes over -/
def evSrc : ME → En → Store → Res Src
  | .rng a b, env, st => (ev call a .val env st).bind fun x st1 => (ev call b .val env st1).bind fun y st2 => rngV x y st2
  | .rev a, env, st => (ev call a .val env st).bind fun v st1 => opt (revV v) st1
  | e, env, st => (ev call e .val env st).bind fun v st1 => opt (srcV v st1) st1

/-! ### statements -/
inductive SR where
  | nx (env : En) (st : Store)
  | rt (v : PV) (st : Store)
  | bk (env : En) (st : Store)
  | ct (env : En) (st : Store)
  | bad
def SR.then : SR → (En → Store → SR) → SR
  | .nx env st, f => f env st
  | r, _ => r
def Res.to {α : Type} : Res α → (α → Store → SR) → SR
  | .ok a st, f => f a st
  | .bad, _ => .bad
/-- a loop's turns -/
def forLoop (put : PV → En → Option En) (body : En → Store → SR) (src : Src) : Nat → Nat → En → Store → SR
  | _, 0, env, st => if src.fits st then .nx env st else .bad
  | j, m + 1, env, st => match src.get j st with
    | none => .bad
    | some x => match put x env with
      | none => .bad
      | some env' => match body env' st with
        | .nx e s => forLoop put body src (j + 1) m e s
        | .ct e s => forLoop put body src (j + 1) m e s
        | .bk e s => .nx e s
        | r => r
/-- at most so many turns of a while -/
def whlLoop (test : En → Store → Res PV) (body : En → Store → SR) : Nat → En → Store → SR
  | 0, _, _ => .bad
  | n + 1, env, st => (test env st).to fun x st1 => match isBl x with
    | some true => match body env st1 with
      | .nx e s => whlLoop test body n e s
      | .ct e s => whlLoop test body n e s
      | .bk e s => .nx e s
      | r => r
    | some false => .nx env st1
    | none => .bad
/-- a name that holds a list of its own -/
def ME.held : ME → En → Option (Nat × List PV)
  | .var i, env => match env[i]? with
    | some (some (.fl xs)) => some (i, xs)
    | _ => none
  | _, _ => none
variable (turns : Nat)
mutual
def evS : MS → En → Store → SR
  | .set i e own, env, st => (ev call e .val env st).to fun x st1 => if own then .nx (env.set i (some x)) st1 else .nx (env.set i (some (esc x st1).1)) (esc x st1).2
  | .setT is e, env, st => (ev call e .val env st).to fun x st1 => match x with
    | .tup xs => match setEach is xs env with
      | some env' => .nx env' st1
      | none => .bad
    | _ => .bad
  | .par i j as, env, st => (evA call as env st).to fun xs st1 => match xs with
    | [v, w] => .nx ((env.set i (some v)).set j (some w)) st1
    | _ => .bad
  | .setIx a i e, env, st => (ev call e .val env st).to fun v st1 => (ev call a .val env st1).to fun o st2 => (ev call i .val env st2).to fun k st3 =>
      match o, k with
      | .loc n, .int k => match st3[n]? with
        | some (.lst xs) => match L2.ixN xs.length k with
          | some j => if v.isFl then .bad else .nx env (setAt st3 n (xs.set j v))
          | none => .bad
        | _ => .bad
      | _, _ => .bad
  | .swp a i b j e, env, st => (ev call e .val env st).to fun v st1 => match v with
    | .tup [x, y] => (ev call a .val env st1).to fun o st2 => (ev call i .val env st2).to fun k st3 => match putIx o k x st3 with
      | some st4 => (ev call b .val env st4).to fun o2 st5 => (ev call j .val env st5).to fun k2 st6 => match putIx o2 k2 y st6 with
        | some st7 => .nx env st7
        | none => .bad
      | none => .bad
    | _ => .bad
  | .ins a as, env, st => (ev call a .val env st).to fun o st1 => (evA call as env st1).to fun xs st2 => match o, xs with
    | .loc n, [.int k, v] => match st2[n]? with
      | some (.lst ys) => if ys.length < sizeLine ∧ 0 ≤ k ∧ k < 2 ^ 63 ∧ v.isFl = false then .nx env (setAt st2 n (ys.take k.toNat ++ [v] ++ ys.drop k.toNat)) else .bad
      | none => .bad
    | _, _ => .bad
  | .setSl a lo hi e, env, st => (ev call e .val env st).to fun v st1 => (ev call a .val env st1).to fun o st2 => (ev call lo .val env st2).to fun l st3 => (ev call hi .val env st3).to fun h st4 => match v, o, l, h with
    | .fl zs, .loc n, .int i, .int j => match st4[n]? with
      | some (.lst ys) => if 0 ≤ i ∧ i ≤ j ∧ j ≤ ys.length ∧ ys.length + zs.length ≤ sizeLine then .nx env (setAt st4 n (ys.take i.toNat ++ zs ++ ys.drop j.toNat)) else .bad
      | none => .bad
    | _, _, _, _ => .bad
  | .aug i o e, env, st => match env[i]? with
    | some (some (.int x)) => (ev call e .val env st).to fun y st1 => match y with
      | .int z => match o with
        | .add => .nx (env.set i (some (.int (x + z)))) st1
        | .sub => .nx (env.set i (some (.int (x - z)))) st1
        | _ => .bad
      | _ => .bad
    | _ => .bad
  | .ex e, env, st => (ev call e .val env st).to fun _ st1 => .nx env st1
  | .app i e, env, st => (ev call e .val env st).to fun x st1 => match env[i]? with
    | some (some (.fl xs)) => if xs.length < sizeLine then .nx (env.set i (some (.fl (xs ++ [(esc x st1).1])))) (esc x st1).2 else .bad
    | _ => .bad
  | .ext i e, env, st => (ev call e .val env st).to fun x st1 => match env[i]?, x with
    | some (some (.fl xs)), .fl ys => if xs.length + ys.length ≤ sizeLine then .nx (env.set i (some (.fl (xs ++ ys)))) st1 else .bad
    | _, _ => .bad
  | .ret e, env, st => match e.held env with
    | some (_, xs) => .rt (.fl xs) st
    | none => (ev call e .val env st).to fun x st1 => .rt x st1
  | .ret0, _, st => .rt .non st
  | .ite t a b, env, st => (ev call t .test env st).to fun x st1 => match isBl x with
    | some true => evSs a env st1
    | some false => evSs b env st1
    | none => .bad
  | .whl t b, env, st => whlLoop (ev call t .test) (evSs b) turns env st
  | .for_ g src b, env, st => (evSrc call src env st).to fun s st1 => forLoop g.put (evSs b) s 0 s.many env st1
  | .brk, env, st => .bk env st
  | .cnt, env, st => .ct env st
  | .pass, env, st => .nx env st
def evSs : MSs → En → Store → SR
  | .nil, env, st => .nx env st
  | .cons s ss, env, st => (evS s env st).then fun env1 st1 => evSs ss env1 st1
end
end

mutual
def PV.same : PV → PV → Bool
  | .non, .non => true
  | .bl a, .bl b => a == b
  | .int a, .int b => decide (a = b)
  | .str a, .str b => decide (a = b)
  | .tup a, .tup b => PV.sameL a b
  | _, _ => false
def PV.sameL : List PV → List PV → Bool
  | [], [] => true
  | x :: xs, y :: ys => PV.same x y && PV.sameL xs ys
  | _, _ => false
end
def sameD : List (Str × PV) → List (Str × PV) → Bool
  | [], [] => true
  | (x, v) :: r, (y, w) :: q => decide (x = y) && PV.same v w && sameD r q
  | _, _ => false
/-! ### a program -/
mutual
/-- no list in it stands at a place of the store from n on -/
def PV.low (n : Nat) : PV → Bool
  | .tup xs => PV.lowL n xs
  | .fl xs => PV.lowL n xs
  | .rol xs => PV.lowL n xs
  | .loc k => decide (k < n)
  | _ => true
def PV.lowL (n : Nat) : List PV → Bool
  | [] => true
  | x :: xs => PV.low n x && PV.lowL n xs
end
def Cell.low (n : Nat) : Cell → Bool
  | .lst xs => PV.lowL n xs
structure Def where
  np : Nat
  nl : Nat
  body : MSs
/-- behind a call: what nothing can reach any more is forgotten -/
def leave (n : Nat) (v : PV) (st : Store) : Res PV :=
  if st.length ≤ n then .ok v st
  else if PV.low n v && (st.take n).all (Cell.low n) then .ok v (st.take n) else .ok v st
def evCall (turns : Nat) (D : Nat → Option Def) : Nat → Nat → List PV → Store → Res PV
  | 0, _, _, _ => .bad
  | k + 1, f, args, st => match D f with
    | none => .bad
    | some d => if args.length = d.np ∧ (args.any PV.isFl) = false then
        match evSs (evCall turns D k) turns d.body (args.map some ++ List.replicate (d.nl - d.np) none) st with
        | .nx _ s => leave st.length .non s
        | .rt v s => leave st.length v s
        | _ => .bad
      else .bad
end U

set_option maxHeartbeats 4000000
/-! U2: how the store's data stand in the heap. -/
namespace U
open PySem PySem.Spec PyProof.Rows L2

section
variable (K : PySem.W.Frag)
/-- what is only read: the script, a written list -/
def Kl (H : Hp) (a : Addr) (vs : List V) : Prop :=
  (∃ o, H a = some (.frz o (.lst vs))) ∨
    ∃ (o : Obj) (its : Array Value) (n : Nat), K.lookup a = some o ∧ o.cls = .type "list" ∧ o.dict = none ∧ o.data = .seq its n ∧ its.size ≤ sizeLine ∧ Vals vs its.toList
mutual
inductive RV (μ : Nat → Addr) (L : Nat) (H : Hp) : PV → V → Prop
  | non : RV μ L H .non .non
  | bl (b : Bool) : RV μ L H (.bl b) (.bl b)
  | int (i : Int) : RV μ L H (.int i) (.int i)
  | str (s : Str) : RV μ L H (.str s) (.str s)
  | tup {xs : List PV} {a : Addr} {vs : List V} (h : SqT K H a vs) (r : RVs μ L H xs vs) : RV μ L H (.tup xs) (.ref a)
  | loc {n : Nat} (h : n < L) : RV μ L H (.loc n) (.ref (μ n))
  | fl {xs : List PV} {a : Addr} {vs : List V} (h : H a = some (.lst vs)) (n : ∀ n, n < L → μ n ≠ a) (r : RVs μ L H xs vs) : RV μ L H (.fl xs) (.ref a)
  | rol {xs : List PV} {a : Addr} {vs : List V} (h : Kl K H a vs) (r : RVs μ L H xs vs) : RV μ L H (.rol xs) (.ref a)
inductive RVs (μ : Nat → Addr) (L : Nat) (H : Hp) : List PV → List V → Prop
  | nil : RVs μ L H [] []
  | cons {x : PV} {v : V} {xs : List PV} {vs : List V} (f : x.isFl = false) (h : RV μ L H x v) (r : RVs μ L H xs vs) : RVs μ L H (x :: xs) (v :: vs)
end
/-- the store stands in the heap -/
structure Ok (μ : Nat → Addr) (st : Store) (H : Hp) : Prop where
  inj : ∀ n m, n < st.length → m < st.length → μ n = μ m → n = m
  cell : ∀ n xs, st[n]? = some (.lst xs) → ∃ vs, H (μ n) = some (.lst vs) ∧ RVs K μ st.length H xs vs
end
/-- from one state to a later one; what stands at S may have been changed besides the store -/
structure StX (S : Addr → Prop) (μ : Nat → Addr) (L : Nat) (H : Hp) (μ' : Nat → Addr) (L' : Nat) (H' : Hp) : Prop where
  le : L ≤ L'
  ext : ∀ n, n < L → μ' n = μ n
  keep : ∀ b o, H b = some o → (∀ n, n < L → μ n ≠ b) → ¬ S b → H' b = some o
  tup : ∀ b xs, H b = some (.tup xs) → H' b = some (.tup xs)
  frz : ∀ b o u, H b = some (.frz o u) → H' b = some (.frz o u)
  there : ∀ b, H' b = none → H b = none
  new : ∀ n, L ≤ n → n < L' → H (μ' n) = none
abbrev NoS : Addr → Prop := fun _ => False
abbrev Stp := StX NoS

section
variable {K : PySem.W.Frag} {μ μ1 μ2 : Nat → Addr} {L L1 L2 : Nat} {H H1 H2 : Hp} {S S1 : Addr → Prop}
theorem StX.refl : StX S μ L H μ L H := ⟨Nat.le_refl _, fun _ _ => rfl, fun _ _ h _ _ => h, fun _ _ h => h, fun _ _ _ h => h, fun _ h => h, fun n h1 h2 => absurd h2 (by omega)⟩
theorem StX.some (s : StX S μ L H μ1 L1 H1) {b : Addr} {o : HO} (h : H b = some o) : ∃ o', H1 b = Option.some o' := by
  cases q : H1 b with
  | none => rw [s.there b q] at h; cases h
  | some o' => exact ⟨o', rfl⟩
theorem StX.trans (s : StX S μ L H μ1 L1 H1) (t : StX S1 μ1 L1 H1 μ2 L2 H2) (hs : ∀ b, S1 b → S b ∨ H b = none) : StX S μ L H μ2 L2 H2 := by
  refine ⟨Nat.le_trans s.le t.le, fun n h => (t.ext n (Nat.lt_of_lt_of_le h s.le)).trans (s.ext n h), fun b o h n hS => ?_, fun b xs h => t.tup b xs (s.tup b xs h), fun b o u h => t.frz b o u (s.frz b o u h), fun b h => s.there b (t.there b h), fun n h1 h2 => ?_⟩
  · refine t.keep b o (s.keep b o h n hS) (fun k hk e => ?_) fun z => ?_
    · by_cases hl : k < L
      · exact n k hl ((s.ext k hl).symm.trans e)
      · have := s.new k (by omega) hk
        rw [e, h] at this
        cases this
    · rcases hs b z with z | z
      · exact hS z
      · rw [h] at z; cases z
  · by_cases hl : n < L1
    · have := s.new n h1 hl
      rw [t.ext n hl]
      exact this
    · exact s.there _ (t.new n (by omega) h2)
theorem Stp.trans (s : Stp μ L H μ1 L1 H1) (t : Stp μ1 L1 H1 μ2 L2 H2) : Stp μ L H μ2 L2 H2 := StX.trans s t fun _ h => h.elim
theorem StX.weak (s : StX S μ L H μ1 L1 H1) (hs : ∀ b, S b → S1 b) : StX S1 μ L H μ1 L1 H1 := ⟨s.le, s.ext, fun b o h n hS => s.keep b o h n fun z => hS (hs b z), s.tup, s.frz, s.there, s.new⟩
theorem Stp.wide (s : Stp μ L H μ1 L1 H1) : StX S μ L H μ1 L1 H1 := StX.weak s fun _ h => h.elim

theorem StX.sqT (s : StX S μ L H μ1 L1 H1) {a : Addr} {vs : List V} (h : SqT K H a vs) : SqT K H1 a vs := by
  rcases h with (h | ⟨o, h⟩) | h
  · exact .inl (.inl (s.tup _ _ h))
  · exact .inl (.inr ⟨o, s.frz _ _ _ h⟩)
  · exact .inr h
theorem StX.kl (s : StX S μ L H μ1 L1 H1) {a : Addr} {vs : List V} (h : Kl K H a vs) : Kl K H1 a vs := by
  rcases h with ⟨o, h⟩ | h
  · exact .inl ⟨o, s.frz _ _ _ h⟩
  · exact .inr h
theorem Kl.sq {a : Addr} {vs : List V} (h : Kl K H a vs) : SqL K H a vs := by
  rcases h with ⟨o, h⟩ | h
  · exact .inl (.inr ⟨o, h⟩)
  · exact .inr h

theorem RVs.len {xs : List PV} {vs : List V} : RVs K μ L H xs vs → xs.length = vs.length
  | .nil => rfl
  | .cons _ _ r => congrArg (· + 1) (RVs.len r)
theorem RVs.get : ∀ {xs : List PV} {vs : List V} {i : Nat} {x : PV}, RVs K μ L H xs vs → xs[i]? = some x → ∃ v, vs[i]? = some v ∧ RV K μ L H x v ∧ x.isFl = false
  | _, _, _, _, .nil, e => by simp at e
  | _, _, 0, _, .cons f h r, e => by
    simp only [List.getElem?_cons_zero, Option.some.injEq] at e
    subst e
    exact ⟨_, rfl, h, f⟩
  | _, _, i + 1, _, .cons f h r, e => by
    obtain ⟨v, h1, h2⟩ := RVs.get (i := i) r (by simpa using e)
    exact ⟨v, by simpa using h1, h2⟩
theorem RVs.app {xs ys : List PV} {vs ws : List V} : RVs K μ L H xs vs → RVs K μ L H ys ws → RVs K μ L H (xs ++ ys) (vs ++ ws)
  | .nil, s => s
  | .cons f h r, s => .cons f h (RVs.app r s)
theorem RVs.set {x : PV} {v : V} (f : x.isFl = false) (q : RV K μ L H x v) : ∀ {xs : List PV} {vs : List V} (i : Nat), RVs K μ L H xs vs → RVs K μ L H (xs.set i x) (vs.set i v)
  | _, _, _, .nil => .nil
  | _, _, 0, .cons _ _ r => .cons f q r
  | _, _, i + 1, .cons f' h r => .cons f' h (RVs.set f q i r)
theorem RVs.take : ∀ {xs : List PV} {vs : List V} (n : Nat), RVs K μ L H xs vs → RVs K μ L H (xs.take n) (vs.take n)
  | _, _, 0, _ => .nil
  | _, _, _ + 1, .nil => .nil
  | _, _, n + 1, .cons f h r => .cons f h (RVs.take n r)
theorem RVs.drop : ∀ {xs : List PV} {vs : List V} (n : Nat), RVs K μ L H xs vs → RVs K μ L H (xs.drop n) (vs.drop n)
  | _, _, 0, r => r
  | _, _, _ + 1, .nil => .nil
  | _, _, n + 1, .cons _ _ r => RVs.drop n r
theorem RVs.one {x : PV} {v : V} (f : x.isFl = false) (q : RV K μ L H x v) : RVs K μ L H [x] [v] := .cons f q .nil

/-- an own list stands off S -/
def Off (S : Addr → Prop) : PV → V → Prop
  | .fl _, .ref a => ¬ S a
  | _, _ => True
mutual
theorem RV.mono (s : StX S μ L H μ1 L1 H1) : ∀ {x : PV} {v : V}, Off S x v → RV K μ L H x v → RV K μ1 L1 H1 x v
  | _, _, _, .non => .non
  | _, _, _, .bl b => .bl b
  | _, _, _, .int i => .int i
  | _, _, _, .str z => .str z
  | _, _, _, .tup h r => .tup (StX.sqT s h) (RVs.mono s r)
  | _, _, _, .loc (n := n) h => by
    have e := s.ext n h
    rw [← e]
    exact .loc (Nat.lt_of_lt_of_le h s.le)
  | .fl _, .ref a, o, .fl h n r => by
    refine .fl (s.keep _ _ h n o) (fun k hk e => ?_) (RVs.mono s r)
    by_cases hl : k < L
    · exact n k hl ((s.ext k hl).symm.trans e)
    · have := s.new k (by omega) hk
      rw [e, h] at this
      cases this
  | _, _, _, .rol h r => .rol (StX.kl s h) (RVs.mono s r)
theorem RVs.mono (s : StX S μ L H μ1 L1 H1) : ∀ {xs : List PV} {vs : List V}, RVs K μ L H xs vs → RVs K μ1 L1 H1 xs vs
  | _, _, .nil => .nil
  | _, _, .cons (x := x) f h r => .cons f (RV.mono s (by cases x <;> first | trivial | cases f) h) (RVs.mono s r)
end
theorem off_no {x : PV} {v : V} : Off NoS x v := by
  unfold Off
  split <;> simp
theorem RV.mono0 (s : Stp μ L H μ1 L1 H1) {x : PV} {v : V} (h : RV K μ L H x v) : RV K μ1 L1 H1 x v := RV.mono s off_no h

/-- a list of the store is written -/
theorem Ok.write {st : Store} {n : Nat} {ys : List PV} {ws : List V} (o : Ok K μ st H) (hn : n < st.length) (r : RVs K μ st.length H ys ws) :
    Stp μ st.length H μ (setAt st n ys).length (upd H (μ n) (.lst ws)) ∧ Ok K μ (setAt st n ys) (upd H (μ n) (.lst ws)) := by
  have hl : (setAt st n ys).length = st.length := by simp [setAt]
  obtain ⟨xs, hx⟩ : ∃ xs, st[n]? = some (.lst xs) := by
    rw [List.getElem?_eq_getElem hn]
    cases st[n] with
    | lst xs => exact ⟨xs, rfl⟩
  obtain ⟨vs, hv, _⟩ := o.cell n xs hx
  have s : Stp μ st.length H μ (setAt st n ys).length (upd H (μ n) (.lst ws)) := by
    rw [hl]
    refine ⟨Nat.le_refl _, fun _ _ => rfl, fun b u h k _ => ?_, fun b zs h => ?_, fun b u z h => ?_, fun b h => ?_, fun k h1 h2 => absurd h2 (by omega)⟩
    · rw [upd_ne (fun e => k n hn e.symm)]; exact h
    · rw [upd_ne (fun e => by rw [e, hv] at h; cases h)]; exact h
    · rw [upd_ne (fun e => by rw [e, hv] at h; cases h)]; exact h
    · by_cases e : b = μ n
      · rw [e, upd_same] at h; cases h
      · rw [upd_ne e] at h; exact h
  refine ⟨s, ⟨fun a b ha hb e => o.inj a b (by omega) (by omega) e, fun k zs hk => ?_⟩⟩
  by_cases e : k = n
  · subst e
    have e2 : zs = ys := by
      have hk' : some (Cell.lst ys) = some (.lst zs) := by
        rw [← hk]
        simp [setAt, hn]
      cases hk'; rfl
    subst e2
    exact ⟨ws, upd_same, RVs.mono s r⟩
  · have hk' : st[k]? = some (.lst zs) := by
      rw [← hk]
      simp [setAt, List.getElem?_set_ne (Ne.symm e)]
    obtain ⟨us, h1, h2⟩ := o.cell k zs hk'
    have hkl : k < st.length := (List.getElem?_eq_some_iff.mp hk').1
    refine ⟨us, ?_, RVs.mono s h2⟩
    rw [upd_ne (fun z => e (o.inj k n hkl hn z))]
    exact h1
/-- a new object is laid -/
theorem Stp.laid {p : Addr} {u : HO} (h : H p = none) : Stp μ L H μ L (upd H p u) := by
  refine ⟨Nat.le_refl _, fun _ _ => rfl, fun b o hb _ _ => ?_, fun b o hb => ?_, fun b o z hb => ?_, fun b hb => ?_, fun n h1 h2 => absurd h2 (by omega)⟩
  · rw [upd_ne (ne_of_none hb h)]; exact hb
  · rw [upd_ne (ne_of_none hb h)]; exact hb
  · rw [upd_ne (ne_of_none hb h)]; exact hb
  · by_cases e : b = p
    · rw [e, upd_same] at hb; cases hb
    · rw [upd_ne e] at hb; exact hb
theorem Ok.stp {st : Store} (o : Ok K μ st H) (s : Stp μ st.length H μ st.length H1) (k : ∀ n, n < st.length → ∀ u, H (μ n) = some u → H1 (μ n) = some u) : Ok K μ st H1 :=
  ⟨o.inj, fun n xs h => by
    obtain ⟨vs, h1, h2⟩ := o.cell n xs h
    exact ⟨vs, k n (List.getElem?_eq_some_iff.mp h).1 _ h1, RVs.mono s h2⟩⟩
theorem Ok.laid {st : Store} {p : Addr} {u : HO} (o : Ok K μ st H) (h : H p = none) : Ok K μ st (upd H p u) :=
  o.stp (Stp.laid h) fun n _ u hu => by rw [upd_ne (ne_of_none hu h)]; exact hu
theorem Ok.apart {st : Store} {p : Addr} (o : Ok K μ st H) (h : H p = none) : ∀ n, n < st.length → μ n ≠ p := fun n hn e => by
  have : ∃ xs, st[n]? = some (.lst xs) := by
    rw [List.getElem?_eq_getElem hn]
    cases st[n] with
    | lst xs => exact ⟨xs, rfl⟩
  obtain ⟨xs, hx⟩ := this
  obtain ⟨vs, h1, _⟩ := o.cell n xs hx
  rw [e, h] at h1
  cases h1
mutual
/-- one place more -/
theorem RV.grow {a : Addr} : ∀ {x : PV} {v : V}, x.isFl = false → RV K μ L H x v → RV K (fun k => if k = L then a else μ k) (L + 1) H x v
  | _, _, _, .non => .non
  | _, _, _, .bl b => .bl b
  | _, _, _, .int i => .int i
  | _, _, _, .str z => .str z
  | _, _, _, .tup h r => .tup h (RVs.grow r a)
  | _, _, _, .loc (n := n) h => by
    have : RV K (fun k => if k = L then a else μ k) (L + 1) H (.loc n) (.ref ((fun k => if k = L then a else μ k) n)) := .loc (by omega)
    have e : (fun k => if k = L then a else μ k) n = μ n := if_neg (by omega)
    rw [e] at this
    exact this
  | _, _, f, .fl _ _ _ => by cases f
  | _, _, _, .rol h r => .rol h (RVs.grow r a)
theorem RVs.grow : ∀ {xs : List PV} {vs : List V}, RVs K μ L H xs vs → ∀ a : Addr, RVs K (fun k => if k = L then a else μ k) (L + 1) H xs vs
  | _, _, .nil, _ => .nil
  | _, _, .cons f h r, a => .cons f (RV.grow f h) (RVs.grow r a)
end
/-- fresh behind H -/
def Fr (H : Hp) : PV → V → Prop
  | .fl _, .ref a => H a = none
  | _, _ => True
theorem Fr.back {x : PV} {v : V} (s : StX S μ L H μ1 L1 H1) (f : Fr H1 x v) : Fr H x v := by
  unfold Fr at f ⊢
  split <;> simp_all
  exact s.there _ f
theorem fr_of {x : PV} {v : V} (h : x.isFl = false) : Fr H x v := by
  cases x <;> first | trivial | cases h
/-- a fresh list comes to be shared -/
theorem Ok.esc {μ0 : Nat → Addr} {L0 : Nat} {H0 : Hp} {st : Store} {x : PV} {v : V} (s : Stp μ0 L0 H0 μ st.length H) (o : Ok K μ st H) (r : RV K μ st.length H x v) (f : Fr H0 x v) :
    ∃ μ', Stp μ0 L0 H0 μ' (esc x st).2.length H ∧ Ok K μ' (esc x st).2 H ∧ RV K μ' (esc x st).2.length H (esc x st).1 v ∧ (esc x st).1.isFl = false ∧ (∀ n, n < st.length → μ' n = μ n) := by
  cases x with
  | fl xs =>
    cases r with
    | fl h n r =>
      rename_i a vs
      have f : H0 a = none := f
      have el : (U.esc (PV.fl xs) st).2.length = st.length + 1 := by simp [U.esc]
      refine ⟨fun k => if k = st.length then a else μ k, ?_, ?_, ?_, rfl, fun k hk => if_neg (by omega)⟩
      · rw [el]
        refine ⟨by have := s.le; omega, fun k hk => ?_, s.keep, s.tup, s.frz, s.there, fun k h1 h2 => ?_⟩
        · show (if k = st.length then a else μ k) = μ0 k
          rw [if_neg (by have := s.le; omega)]
          exact s.ext k hk
        · show H0 (if k = st.length then a else μ k) = none
          by_cases e : k = st.length
          · rw [if_pos e]; exact f
          · rw [if_neg e]; exact s.new k h1 (by omega)
      · have grow : ∀ {zs : List PV} {us : List V}, RVs K μ st.length H zs us → RVs K (fun k => if k = st.length then a else μ k) (st.length + 1) H zs us := by
          have go : ∀ (m : Nat), True := fun _ => trivial
          intro zs us q
          exact RVs.grow q a
        refine ⟨fun k m hk hm e => ?_, fun k zs hk => ?_⟩
        · rw [el] at hk hm
          have e : (if k = st.length then a else μ k) = (if m = st.length then a else μ m) := e
          by_cases h1 : k = st.length
          · by_cases h2 : m = st.length
            · omega
            · rw [if_pos h1, if_neg h2] at e
              exact absurd e.symm (n m (by omega))
          · by_cases h2 : m = st.length
            · rw [if_neg h1, if_pos h2] at e
              exact absurd e (n k (by omega))
            · rw [if_neg h1, if_neg h2] at e
              exact o.inj k m (by omega) (by omega) e
        · rw [el]
          have hk : (st ++ [Cell.lst xs])[k]? = some (.lst zs) := hk
          by_cases h1 : k = st.length
          · subst h1
            have e : xs = zs := by simpa using hk
            subst e
            exact ⟨vs, by simpa using h, grow r⟩
          · have hk2 : st[k]? = some (.lst zs) := by
              by_cases h2 : k < st.length
              · rw [List.getElem?_append_left h2] at hk; exact hk
              · rw [List.getElem?_eq_none (by simp; omega)] at hk; cases hk
            obtain ⟨us, h2, h3⟩ := o.cell k zs hk2
            exact ⟨us, by simpa [h1] using h2, grow h3⟩
      · rw [el]
        have : RV K (fun k => if k = st.length then a else μ k) (st.length + 1) H (.loc st.length) (.ref ((fun k => if k = st.length then a else μ k) st.length)) := .loc (by omega)
        have e : (fun k => if k = List.length st then a else μ k) (List.length st) = a := if_pos rfl
        rw [e] at this
        exact this
  | _ => exact ⟨μ, s, o, r, rfl, fun _ _ => rfl⟩
end
end U

set_option maxHeartbeats 4000000
/-! U3: the operations, from the store's data to the heap's. -/
namespace U
open PySem PySem.Spec PyProof.Rows L2

section
variable {K : PySem.W.Frag} {μ : Nat → Addr} {st : Store} {H : Hp}
/-- what is wanted behind an operation that leaves the store -/
def Go (K : PySem.W.Frag) (μ : Nat → Addr) (st : Store) (H : Hp) (v : PV) (Q : VK) : Prop :=
  ∀ H' v', Stp μ st.length H μ st.length H' → Ok K μ st H' → RV K μ st.length H' v v' → Fr H v v' → Q v' H'
theorem Go.same {v : PV} {v' : V} {Q : VK} (g : Go K μ st H v Q) (o : Ok K μ st H) (r : RV K μ st.length H v v') (f : v.isFl = false) : Q v' H := g H v' StX.refl o r (fr_of f)
theorem Go.lst {xs : List PV} {vs : List V} {Q : VK} (g : Go K μ st H (.fl xs) Q) (o : Ok K μ st H) (r : RVs K μ st.length H xs vs) : ∀ p, H p = none → Q (.ref p) (upd H p (.lst vs)) := fun p hp =>
  g _ _ (Stp.laid hp) (o.laid hp) (.fl upd_same (o.apart hp) (RVs.mono (Stp.laid hp) r)) hp
theorem Go.tup {xs : List PV} {vs : List V} {Q : VK} (g : Go K μ st H (.tup xs) Q) (o : Ok K μ st H) (r : RVs K μ st.length H xs vs) : ∀ p, H p = none → Q (.ref p) (upd H p (.tup vs)) := fun p hp =>
  g _ _ (Stp.laid hp) (o.laid hp) (.tup (SqT.of upd_same) (RVs.mono (Stp.laid hp) r)) trivial

theorem list_at {x : PV} {x' : V} {xs : List PV} (o : Ok K μ st H) (r : RV K μ st.length H x x') (h : listOf x st = some xs) : ∃ a vs, x' = .ref a ∧ H a = some (.lst vs) ∧ RVs K μ st.length H xs vs := by
  cases r with
  | fl h1 n r1 =>
    cases h
    exact ⟨_, _, rfl, h1, r1⟩
  | loc hn =>
    rename_i n
    unfold listOf at h
    cases q : st[n]? with
    | none => simp only [q] at h; cases h
    | some c =>
      cases c with
      | lst ys =>
        simp only [q] at h
        cases h
        obtain ⟨vs, h1, h2⟩ := o.cell n _ q
        exact ⟨_, _, rfl, h1, h2⟩
  | _ => cases h
theorem seq_at {x : PV} {x' : V} {xs : List PV} (o : Ok K μ st H) (r : RV K μ st.length H x x') (h : seqOf x st = some xs) : ∃ a vs, x' = .ref a ∧ (SqL K H a vs ∨ SqT K H a vs) ∧ RVs K μ st.length H xs vs := by
  cases r with
  | tup h1 r1 => cases h; exact ⟨_, _, rfl, .inr h1, r1⟩
  | rol h1 r1 => cases h; exact ⟨_, _, rfl, .inl h1.sq, r1⟩
  | fl h1 n r1 => cases h; exact ⟨_, _, rfl, .inl (SqL.of h1), r1⟩
  | loc hn =>
    rename_i n
    unfold seqOf at h
    cases q : st[n]? with
    | none => simp only [q] at h; cases h
    | some c =>
      cases c with
      | lst ys =>
        simp only [q] at h
        cases h
        obtain ⟨vs, h1, h2⟩ := o.cell n _ q
        exact ⟨_, _, rfl, .inl (SqL.of h1), h2⟩
  | _ => cases h
theorem RVs.nil_iff {L : Nat} {xs : List PV} {vs : List V} (r : RVs K μ L H xs vs) : xs.isEmpty = vs.isEmpty := by cases r <;> rfl

variable {X : Cx} {σ : L2.St} {pins : List (Addr × Obj)}
theorem OpR.imp {f : Value → Value → Sem Value} {r r' : R2} (h : OpR X f r) (i : ∀ x y H Q, r' x y H Q → r x y H Q) : OpR X f r' := fun pins s σ H x y v u Q I rx ry q => h pins s σ H x y v u Q I rx ry (i _ _ _ _ q)
theorem CallR.imp {f : Value} {r r' : List V → Hp → VK → Prop} (h : CallR X f r) (i : ∀ xs H Q, r' xs H Q → r xs H Q) : CallR X f r' := fun pins s σ H xs us Q I rx q => h pins s σ H xs us Q I rx (i _ _ _ q)
theorem MtR.imp {id : String} {r r' : V → List V → Hp → VK → Prop} (h : MtR X id r) (i : ∀ x xs H Q, r' x xs H Q → r x xs H Q) : MtR X id r' := fun pins s σ H x xs v us Q I rx rs q => h pins s σ H x xs v us Q I rx rs (i _ _ _ _ q)
theorem IxR.imp {r r' : R2} (h : IxR X r) (i : ∀ x y H Q, r' x y H Q → r x y H Q) : IxR X r' := fun a b pins s σ H x y v u Q I rx ry q hs => h a b pins s σ H x y v u Q I rx ry (i _ _ _ _ q) hs
theorem SlR.imp {r r' : V → Option Int → Option Int → Hp → VK → Prop} (h : SlR X r) (i : ∀ x l u H Q, r' x l u H Q → r x l u H Q) : SlR X r' := fun pins s σ H x v vl vu lo hi sl Q I rx hs pl pu q => h pins s σ H x v vl vu lo hi sl Q I rx hs pl pu (i _ _ _ _ _ q)

/-- the reading of an operation on values -/
def rO (K : PySem.W.Frag) (f : PV → PV → Store → Option PV) : R2 := fun x' y' H Q => ∃ μ st x y v, Ok K μ st H ∧ RV K μ st.length H x x' ∧ RV K μ st.length H y y' ∧ f x y st = some v ∧ Go K μ st H v Q

/-- text * int -/
def rMulS : R2 := fun x y H Q => ∃ z j, x = .str z ∧ y = .int j ∧ -1000000 ≤ j ∧ j ≤ 1000000 ∧ z.length * j.toNat ≤ 1000000 ∧ Q (.str ⟨((List.replicate j.toNat z.cps.toList).flatten).toArray⟩) H
theorem fold_cps (a : Array Nat) : ∀ (n : Nat) (acc : Array Nat), (List.replicate n a).foldl (· ++ ·) acc = acc ++ ((List.replicate n a.toList).flatten).toArray
  | 0, acc => by simp
  | n + 1, acc => by
    rw [List.replicate_succ, List.foldl_cons, fold_cps a n, List.replicate_succ, List.flatten_cons]
    apply Array.toList_inj.mp
    simp
theorem op_mulS : OpR X (binaryOp .Mult) rMulS := by
  intro pins s σ H x y v u Q I rx ry h
  obtain ⟨z, j, rfl, rfl, h1, h2, hz, q⟩ := h
  obtain ⟨t, rfl⟩ := rx
  obtain ⟨t', rfl⟩ := ry
  have sl := sizeLine_eq
  refine P.mul_str ?_ (fun n1 n2 => ?_) (fun n1 n2 => ?_) ?_
  · rw [decide_eq_false (by omega), decide_eq_false (by omega)]; rfl
  · have n3 : 1 ≤ j := by omega
    intro c
    have hm : ((z.length * j.toNat : Nat) : Int) ≤ 1000000 := Int.ofNat_le.mpr hz
    have e : ((z.length * j.toNat : Nat) : Int) = (z.length : Int) * j := by
      rw [Int.natCast_mul, Int.toNat_of_nonneg (by omega)]
    rw [e] at hm
    have := (Int.le_ediv_iff_mul_le (by omega : 0 < j)).mpr (show (z.length : Int) * j ≤ 2 ^ 63 - 1 by omega)
    omega
  · show decide (z.length * j.toNat > sizeLine) = false
    exact decide_eq_false (by omega)
  · by_cases n1 : j < 1
    · rw [if_pos n1]
      refine ⟨by decide, .str _, H, I.tok _, ⟨_, rfl⟩, ?_⟩
      have e : j.toNat = 0 := by omega
      rw [e] at q
      exact q
    · rw [if_neg n1]
      by_cases n2 : (j == 1 || z.length == 0) = true
      · rw [if_pos n2]
        refine ⟨.str z, H, I, ⟨_, rfl⟩, ?_⟩
        have e : (⟨((List.replicate j.toNat z.cps.toList).flatten).toArray⟩ : Str) = z := by
          refine TL.ext_tl ?_
          show ((List.replicate j.toNat z.cps.toList).flatten) = z.cps.toList
          rcases (by simpa using n2 : j = 1 ∨ z.length = 0) with e | e
          · subst e
            simp
          · have e2 : z.cps.toList = [] := by
              have h0 := TL.len_tl z
              exact List.length_eq_zero_iff.mp (h0.symm.trans e)
            show _ = z.cps.toList
            rw [e2]
            simp
        rw [e] at q
        exact q
      · rw [if_neg n2]
        have e : ((List.replicate j.toNat z.cps).foldl (· ++ ·) #[]) = ((List.replicate j.toNat z.cps.toList).flatten).toArray := by
          rw [fold_cps]; simp
        refine ⟨?_, .str _, H, I.tok _, ⟨_, rfl⟩, ?_⟩
        · rw [e]
          show ((List.replicate j.toNat z.cps.toList).flatten).toArray.size ≤ sizeLine
          have : ((List.replicate j.toNat z.cps.toList).flatten).length = j.toNat * z.length := by
            rw [List.length_flatten, List.map_replicate, List.sum_replicate_nat]
            rfl
          rw [List.size_toArray, this, Nat.mul_comm]
          omega
        · rw [e]; exact q
def bop : BOp → Operator
  | .add => .Add | .sub => .Sub | .mul => .Mult | .fdiv => .FloorDiv | .mod => .Mod | .pow => .Pow
theorem op_bin (o : BOp) : OpR X (binaryOp (bop o)) (rO X.K (binV o)) := by
  cases o with
  | add =>
    refine OpR.imp (op_add.or (op_add_str.or (op_catA.or op_cat))) fun x y H Q ⟨μ, st, a, b, v, o, ra, rb, e, g⟩ => ?_
    unfold binV at e
    split at e
    case _ _ _ _ i j h1 => cases ra; cases rb; cases e; exact .inl ⟨i, j, rfl, rfl, g.same o (.int _) rfl⟩
    case _ _ _ _ i j h1 =>
      cases ra; cases rb
      split at e
      · rename_i hz
        cases e
        exact .inr (.inl ⟨i, j, rfl, rfl, hz, g.same o (.str _) rfl⟩)
      · cases e
    case _ xs ys h1 =>
      cases ra with
      | tup h1 r1 =>
        cases rb with
        | tup h2 r2 =>
          split at e
          · rename_i hz
            cases e
            rename_i a1 v1 a2 v2
            have l1 := r1.len
            have l2 := r2.len
            refine .inr (.inr (.inl ⟨_, _, _, _, rfl, rfl, h1, h2, by omega, fun z => ?_, fun z z2 => ?_, fun _ _ => g.tup o (r1.app r2)⟩))
            · subst z
              cases r1
              exact g.same o (.tup h2 r2) rfl
            · subst z2
              cases r2
              rw [List.append_nil] at g
              exact g.same o (.tup h1 r1) rfl
          · cases e
    case _ =>
      split at e
      · rename_i xs ys h1 h2
        split at e
        · rename_i hz
          cases e
          obtain ⟨a1, v1, rfl, q1, r1⟩ := list_at o ra h1
          obtain ⟨a2, v2, rfl, q2, r2⟩ := list_at o rb h2
          have l1 := r1.len
          have l2 := r2.len
          exact .inr (.inr (.inr ⟨a1, a2, v1, v2, rfl, rfl, q1, q2, by omega, g.lst o (r1.app r2)⟩))
        · cases e
      · cases e
    all_goals contradiction
  | sub =>
    refine OpR.imp op_sub fun x y H Q ⟨μ, st, a, b, v, o, ra, rb, e, g⟩ => ?_
    unfold binV at e
    split at e <;> first | contradiction | (cases ra; cases rb; cases e; exact ⟨_, _, rfl, rfl, g.same o (.int _) rfl⟩) | cases e
  | mul =>
    refine OpR.imp (op_mul.or op_mulS) fun x y H Q ⟨μ, st, a, b, v, o, ra, rb, e, g⟩ => ?_
    unfold binV at e
    split at e <;> first | contradiction | skip
    · cases ra; cases rb
      split at e
      · rename_i hc
        cases e
        refine .inl ⟨_, _, rfl, rfl, ?_, g.same o (.int _) rfl⟩
        simpa [ckM, CMul] using hc
      · cases e
    · cases ra; cases rb
      split at e
      · rename_i hc
        cases e
        exact .inr ⟨_, _, rfl, rfl, hc.1, hc.2.1, hc.2.2, g.same o (.str _) rfl⟩
      · cases e
  | fdiv =>
    refine OpR.imp op_fdiv fun x y H Q ⟨μ, st, a, b, v, o, ra, rb, e, g⟩ => ?_
    unfold binV at e
    split at e <;> first | contradiction | skip
    · cases ra; cases rb
      split at e
      · rename_i hc
        cases e
        exact ⟨_, _, rfl, rfl, hc, g.same o (.int _) rfl⟩
      · cases e
  | mod =>
    refine OpR.imp op_mod fun x y H Q ⟨μ, st, a, b, v, o, ra, rb, e, g⟩ => ?_
    unfold binV at e
    split at e <;> first | contradiction | skip
    · cases ra; cases rb
      split at e
      · rename_i hc
        cases e
        exact ⟨_, _, rfl, rfl, hc, g.same o (.int _) rfl⟩
      · cases e
  | pow =>
    refine OpR.imp op_pow fun x y H Q ⟨μ, st, a, b, v, o, ra, rb, e, g⟩ => ?_
    unfold binV at e
    split at e <;> first | contradiction | skip
    · cases ra; cases rb
      split at e
      · rename_i hc
        cases e
        exact ⟨_, _, rfl, rfl, hc, g.same o (.int _) rfl⟩
      · cases e
end
end U

set_option maxHeartbeats 4000000
/-! U4: comparisons, items, slices, built-in functions and methods. -/
namespace U
open PySem PySem.Spec PyProof.Rows L2
section
variable {K : PySem.W.Frag} {μ : Nat → Addr} {L : Nat} {st : Store} {H : Hp} {X : Cx} {σ : L2.St} {pins : List (Addr × Obj)}
theorem flV_at {x : PV} {v v' : V} (r : RV K μ L H x v') (h : flV x = some v) : v' = v ∧ flatV v = true := by
  cases r <;> first | (cases h; exact ⟨rfl, rfl⟩) | cases h
theorem flL_at : ∀ {xs : List PV} {vs vs' : List V}, RVs K μ L H xs vs' → flL xs = some vs → vs' = vs ∧ vs.all flatV = true
  | _, _, _, .nil, h => by cases h; exact ⟨rfl, rfl⟩
  | _, _, _, .cons (x := x) (xs := xs) f r rs, h => by
    unfold flL at h
    cases h1 : flV x with
    | none => rw [h1] at h; cases h
    | some v =>
      cases h2 : flL xs with
      | none => rw [h1, h2] at h; cases h
      | some vs =>
        rw [h1, h2] at h
        cases h
        obtain ⟨e1, f1⟩ := flV_at r h1
        obtain ⟨e2, f2⟩ := flL_at rs h2
        subst e1; subst e2
        exact ⟨rfl, by simp [f1, f2]⟩
def cop : COp → CmpOp
  | .eq => .Eq | .ne => .NotEq | .lt => .Lt | .le => .LtE | .gt => .Gt | .ge => .GtE | .isN => .Is | .notN => .IsNot | .inn => .In | .nin => .NotIn
/-- the reading of a comparison -/
def rC (K : PySem.W.Frag) (f : PV → PV → Store → Option Bool) : R2 := fun x' y' H Q => ∃ μ st x y k, Ok K μ st H ∧ RV K μ st.length H x x' ∧ RV K μ st.length H y y' ∧ f x y st = some k ∧ Q (.bl k) H
theorem eqS_at {x y : PV} {x' y' : V} {k : Bool} (rx : RV K μ L H x x') (ry : RV K μ L H y y') (h : eqS x y = some k) : scal x' y' = true ∧ k = decide (x' = y') := by
  unfold eqS at h
  cases h1 : flV x with
  | none => rw [h1] at h; cases h
  | some v =>
    cases h2 : flV y with
    | none => rw [h1, h2] at h; cases h
    | some w =>
      rw [h1, h2] at h
      obtain ⟨e1, _⟩ := flV_at rx h1
      obtain ⟨e2, _⟩ := flV_at ry h2
      subst e1; subst e2
      simp only at h
      split at h
      · rename_i hs
        cases h
        exact ⟨hs, rfl⟩
      · cases h
theorem inV_at {x y : PV} {x' y' : V} {k : Bool} (o : Ok K μ st H) (rx : RV K μ st.length H x x') (ry : RV K μ st.length H y y') (h : U.inV x y st = some k) :
    (∃ c z, x' = .str ⟨#[c]⟩ ∧ y' = .str z ∧ k = decide (c ∈ z.cps.toList)) ∨ ∃ p xs, y' = .ref p ∧ (SqL K H p xs ∨ SqT K H p xs) ∧ flatV x' = true ∧ xs.all flatV = true ∧ k = L2.inV x' xs := by
  unfold U.inV at h
  split at h
  · cases rx; cases ry
    split at h
    · rename_i c hc
      cases h
      exact .inl ⟨c, _, congrArg V.str (TL.ext_tl hc), rfl, rfl⟩
    · cases h
  · split at h
    · rename_i ys hy
      obtain ⟨a, vs, rfl, q, r⟩ := seq_at o ry hy
      unfold memF at h
      cases h1 : flV x with
      | none => rw [h1] at h; cases h
      | some v =>
        cases h2 : flL ys with
        | none => rw [h1, h2] at h; cases h
        | some ws =>
          rw [h1, h2] at h
          cases h
          obtain ⟨e1, f1⟩ := flV_at rx h1
          obtain ⟨e2, f2⟩ := flL_at r h2
          subst e1; subst e2
          exact .inr ⟨a, _, rfl, q, f1, f2, rfl⟩
    · cases h
theorem truth_at {x : PV} {x' : V} {k : Bool} (o : Ok K μ st H) (r : RV K μ st.length H x x') (h : truth x st = some k) : TruV K x' H k := by
  have seqs : ∀ {y : PV} {y' : V}, RV K μ st.length H y y' → (seqOf y st).map (fun xs => !xs.isEmpty) = some k → TruV K y' H k := fun {y y'} r e => by
    obtain ⟨xs, h1, rfl⟩ := Option.map_eq_some_iff.mp e
    obtain ⟨a, vs, rfl, q, rs⟩ := seq_at o r h1
    rw [rs.nil_iff]
    rcases q with q | q
    · exact .inl ⟨vs, q, rfl⟩
    · exact .inr (.inl ⟨vs, q, rfl⟩)
  cases x with
  | non => cases r; cases h; rfl
  | bl b => cases r; cases h; rfl
  | int i => cases r; cases h; rfl
  | str s =>
    cases r
    unfold truth at h
    simp only at h
    split at h
    · rename_i hz
      cases h
      exact ⟨hz, rfl⟩
    · cases h
  | tup xs => exact seqs r h
  | fl xs => exact seqs r h
  | rol xs => exact seqs r h
  | loc n => exact seqs r h

/-- items -/
theorem atI_map {L : Nat} {xs : List PV} {vs : List V} {i : Int} {x : PV} (r : RVs K μ L H xs vs) (h : atI xs i = some x) : ∃ v, atI vs i = some v ∧ RV K μ L H x v ∧ x.isFl = false := by
  unfold atI at h ⊢
  rw [← r.len]
  cases q : ixN xs.length i with
  | none => rw [q] at h; cases h
  | some j =>
    rw [q] at h
    exact r.get h
theorem op_ix : IxR X (rO X.K ixV) := by
  refine IxR.imp ix_seq fun x y H Q ⟨μ, st, a, b, v, o, ra, rb, e, g⟩ => ?_
  unfold ixV at e
  split at e
  · cases rb
    split at e
    · cases ra
      split at e
      · rename_i hz
        obtain ⟨c, hc, rfl⟩ := Option.map_eq_some_iff.mp e
        exact .inr (.inr ⟨_, _, c, rfl, rfl, hz, hc, g.same o (.str _) rfl⟩)
      · cases e
    · split at e
      · rename_i xs hx
        obtain ⟨p, vs, rfl, q, r⟩ := seq_at o ra hx
        obtain ⟨w, h1, h2, h3⟩ := atI_map r e
        rcases q with q | q
        · exact .inl ⟨p, vs, _, w, rfl, rfl, q, h1, g.same o h2 h3⟩
        · exact .inr (.inl ⟨p, vs, _, w, rfl, rfl, q, h1, g.same o h2 h3⟩)
      · cases e
  · cases e
/-- slices -/
theorem cut_at {L : Nat} {xs : List PV} {vs : List V} (r : RVs K μ L H xs vs) (lo hi : Option Int) : RVs K μ L H (cutL xs lo hi) (cutV vs lo hi) := by
  unfold cutL cutV
  rw [← r.len]
  exact (r.drop _).take _
theorem RVs.empty {L : Nat} {xs : List PV} {vs : List V} (r : RVs K μ L H xs vs) : xs = [] ↔ vs = [] := by cases r <;> simp
def rS (K : PySem.W.Frag) : V → Option Int → Option Int → Hp → VK → Prop := fun x' lo hi H Q => ∃ μ st x v, Ok K μ st H ∧ RV K μ st.length H x x' ∧ slV x lo hi st = some v ∧ Go K μ st H v Q
theorem op_sl : SlR X (rS X.K) := by
  refine SlR.imp (sl_str.or (sl_tupA.or sl_list)) fun x lo hi H Q ⟨μ, st, a, v, o, ra, e, g⟩ => ?_
  have lists : ∀ {xs : List PV} {p : Addr} {vs : List V}, (some (PV.fl (cutL xs lo hi)) = some v) → SqL X.K H p vs → RVs X.K μ st.length H xs vs → rSlL X.K (.ref p) lo hi H Q := fun e q r => by
    cases e
    exact ⟨_, _, rfl, q, g.lst o (cut_at r lo hi)⟩
  cases ra with
  | str z =>
    unfold slV at e
    simp only at e
    split at e
    · rename_i hz
      cases e
      exact .inl ⟨_, rfl, hz, g.same o (.str _) rfl⟩
    · cases e
  | @tup xs1 _ _ h1 r1 =>
    cases e
    refine .inr (.inl ⟨_, _, rfl, h1, fun z => ?_, fun _ => g.tup o (cut_at r1 lo hi)⟩)
    have w : ∀ {α : Type} (l : List α), HT.sIx l.length 0 lo = 0 ∧ HT.sIx l.length l.length hi = l.length → (l.drop (HT.sIx l.length 0 lo)).take (HT.sIx l.length l.length hi - HT.sIx l.length 0 lo) = l := fun l z => by
      rw [z.1, z.2]; simp
    rw [← r1.len] at z
    have e1 : cutL xs1 lo hi = xs1 := w xs1 z
    rw [e1] at g
    exact g.same o (.tup h1 r1) rfl
  | fl h1 n r1 => exact .inr (.inr (lists e (SqL.of h1) r1))
  | rol h1 r1 => exact .inr (.inr (lists e h1.sq r1))
  | @loc n hn =>
    unfold slV at e
    simp only at e
    split at e
    · rename_i xs hx
      obtain ⟨p, vs, hp, hq, r⟩ := list_at o (.loc hn) (show listOf (.loc n) st = some xs from hx)
      rw [hp]
      exact .inr (.inr (lists e (SqL.of hq) r))
    · cases e
  | _ => cases e

/-! ### built-in functions -/
abbrev RAs (K : PySem.W.Frag) (μ : Nat → Addr) (L : Nat) (H : Hp) : List PV → List V → Prop := Paired (RV K μ L H)
def bfn : BF → Value
  | .len => .builtin "len" | .int => .type "int" | .abs => .builtin "abs" | .max => .builtin "max" | .min => .builtin "min" | .str => .type "str" | .repr => .builtin "repr" | .reprD => .builtin "repr"
  | .list => .type "list" | .tuple => .type "tuple" | .sum => .builtin "sum" | .all => .builtin "all" | .any => .builtin "any"
def rB (K : PySem.W.Frag) (f : BF) : List V → Hp → VK → Prop := fun vs H Q => ∃ μ st as v, Ok K μ st H ∧ RAs K μ st.length H as vs ∧ biV f as st = some v ∧ Go K μ st H v Q
theorem ints_at : ∀ {xs : List PV} {vs : List V} {ns : List Int}, RVs K μ L H xs vs → intsL xs = some ns → vs = ns.map V.int
  | _, _, _, .nil, h => by cases h; rfl
  | _, _, _, .cons (xs := xs) f r rs, h => by
    cases r <;> try cases h
    unfold intsL at h
    obtain ⟨ms, h1, rfl⟩ := Option.map_eq_some_iff.mp h
    rw [ints_at rs h1]; rfl
theorem bools_at : ∀ {xs : List PV} {vs : List V} {ns : List Bool}, RVs K μ L H xs vs → bools xs = some ns → vs = ns.map V.bl
  | _, _, _, .nil, h => by cases h; rfl
  | _, _, _, .cons (xs := xs) f r rs, h => by
    cases r <;> try cases h
    unfold bools at h
    obtain ⟨ms, h1, rfl⟩ := Option.map_eq_some_iff.mp h
    rw [bools_at rs h1]; rfl
theorem strs_at : ∀ {xs : List PV} {vs : List V} {ns : List Str}, RVs K μ L H xs vs → strsL xs = some ns → vs = ns.map V.str
  | _, _, _, .nil, h => by cases h; rfl
  | _, _, _, .cons (xs := xs) f r rs, h => by
    cases r <;> try cases h
    unfold strsL at h
    obtain ⟨ms, h1, rfl⟩ := Option.map_eq_some_iff.mp h
    rw [strs_at rs h1]; rfl
theorem rd_at {x : PV} {x' : V} {xs : List PV} (o : Ok K μ st H) (r : RV K μ st.length H x x') (h : rdOf x st = some xs) : ∃ a vs, x' = .ref a ∧ SqL K H a vs ∧ RVs K μ st.length H xs vs := by
  cases r with
  | rol h1 r1 => cases h; exact ⟨_, _, rfl, h1.sq, r1⟩
  | fl h1 n r1 => cases h; exact ⟨_, _, rfl, SqL.of h1, r1⟩
  | @loc n hn =>
    obtain ⟨p, vs, hp, hq, r⟩ := list_at o (.loc hn) (show listOf (.loc n) st = some xs from h)
    exact ⟨p, vs, hp, SqL.of hq, r⟩
  | _ => cases h
/-- repr(a bool) -/
theorem call_reprB : CallR X (.builtin "repr") (fun xs H Q => ∃ b, xs = [.bl b] ∧ Q (.str (if b then Str.ofString "True" else Str.ofString "False")) H) := by
  intro pins s σ H xs us Q I rx h
  obtain ⟨b, rfl, q⟩ := h
  obtain ⟨u, rfl, ru⟩ := vals1 rx
  cases ru
  exact PySem.P.repr_of_bool ⟨.str _, H, I.tok _, ⟨_, rfl⟩, q⟩
theorem call_reprBS : CallR X (.builtin "repr") (fun xs H Q => (∃ b, xs = [.bl b] ∧ Q (.str (if b then Str.ofString "True" else Str.ofString "False")) H) ∨ ∃ z, xs = [.str z] ∧ (reprText z).length ≤ sizeLine ∧ Q (.str (reprText z)) H) := by
  intro pins s σ H xs us Q I rx h
  rcases h with h | ⟨z, rfl, hz, q⟩
  · exact call_reprB pins s σ H xs us Q I rx h
  · obtain ⟨u, rfl, ru⟩ := vals1 rx
    obtain ⟨t, rfl⟩ := ru
    exact PySem.P.repr_of_str ⟨.str _, H, I.tok _, ⟨_, rfl⟩, q⟩ hz
theorem call_strIS : CallR X (.type "str") (fun xs H Q => (∃ i, xs = [.int i] ∧ i.natAbs.log2 < 1920 ∧ Q (.str (toString i)) H) ∨ ∃ a, xs = [.str a] ∧ Q (.str a) H) := by
  intro pins s σ H xs us Q I r h
  rcases h with h | ⟨a, rfl, q⟩
  · exact call_str_int pins s σ H xs us Q I r h
  · obtain ⟨u, rfl, t, rfl⟩ := vals1 r
    exact PySem.P.str_of_str ⟨.str a, H, I, ⟨t, rfl⟩, q⟩
theorem log_ok {i : Int} (h : i.natAbs < 1000000) : i.natAbs.log2 < 1920 := by
  by_cases h0 : i.natAbs = 0
  · rw [h0]; decide
  · have := (Nat.log2_lt h0 (k := 20)).mpr (by omega)
    omega
theorem call_reprG {X : Cx} (hg : X.A.guards = some []) : CallR X (.builtin "repr")
    (fun xs H Q => ∃ (a : Addr) (d : PyData), xs = [.ref a] ∧ Dp X.K H (.ref a) d ∧ d.showable = true ∧ d.hasDict = false ∧ X.A.units + (d.depth + 1) < cLine ∧ d.shown.length ≤ sizeLine ∧ Q (.str d.shown) H) := by
  intro pins s σ H xs us Q I hx ⟨a, d, e1, hd, h1, h2, h3, h4, q⟩
  subst e1
  cases hx with
  | cons x1 x2 =>
  cases x2
  obtain rfl : _ = Value.ref a := x1
  obtain ⟨as, rd⟩ := Dp.reads I d (.ref a) (Value.ref a) hd rfl
  exact repr_of_reads' (as := as) rd h1 (fun z => by rw [h2] at z; cases z) hg h3 (fun _ _ z => z) (fun h' u tk hk => ⟨.str d.shown, H, I.kept hk, ⟨u, rfl⟩, q⟩) h4
mutual
theorem dp_of : ∀ {v : PV} {w : V} {d : PyData}, pyOf v = some d → RV K μ L H v w → Dp K H w d
  | .non, w, d, e, r => by
    cases r
    unfold pyOf at e; cases e
    exact .non
  | .bl b, w, d, e, r => by
    cases r
    unfold pyOf at e; cases e
    exact .bl b
  | .int i, w, d, e, r => by
    cases r
    unfold pyOf at e; cases e
    exact .int i
  | .str s, w, d, e, r => by
    cases r
    unfold pyOf at e; cases e
    exact .str s
  | .tup xs, w, d, e, r => by
    cases r with
    | tup h rs =>
      unfold pyOf at e
      obtain ⟨ds, e1, rfl⟩ := Option.map_eq_some_iff.mp e
      exact .tup h (dps_of e1 rs)
  | .loc _, _, _, e, _ => by unfold pyOf at e; cases e
  | .fl _, _, _, e, _ => by unfold pyOf at e; cases e
  | .rol _, _, _, e, _ => by unfold pyOf at e; cases e
theorem dps_of : ∀ {vs : List PV} {ws : List V} {ds : List PyData}, pyOfL vs = some ds → RVs K μ L H vs ws → DpAll K H ws ds
  | [], ws, ds, e, r => by
    cases r
    unfold pyOfL at e; cases e
    exact .nil
  | v :: vs, ws, ds, e, r => by
    cases r with
    | cons _ r1 r2 =>
      unfold pyOfL at e
      split at e
      · rename_i d ds' e1 e2
        cases e
        exact .cons (dp_of e1 r1) (dps_of e2 r2)
      · cases e
end
/-- < of data -/
theorem op_ltD (hu : X.A.units + 64 < cLine) : OpR X (compareOp .Lt) (fun x y H Q => ∃ d e k, Dp X.K H x d ∧ Dp X.K H y e ∧ SeqAt.shaped d = true ∧ SeqAt.shaped e = true ∧ dLt d e = some k ∧ Q (.bl k) H) := by
  intro pins s σ H x y v u Q I rx ry h
  obtain ⟨d, e, k, hd, he, sd, se, hk, q⟩ := h
  obtain ⟨as, r1⟩ := Dp.reads I d x v hd rx
  obtain ⟨bs, r2⟩ := Dp.reads I e y u he ry
  exact lt_reads d e X.A s v u as bs k r1 r2 (SeqAt.canLay_of_shaped sd) (SeqAt.canLay_of_shaped se) (SeqAt.room_of_shaped sd hu) hk _ _ _ _ ⟨.bl _, H, I, rfl, q⟩
theorem eqD_at {x y : PV} {x' y' : V} {k : Bool} (rx : RV K μ L H x x') (ry : RV K μ L H y y') (h : eqD x y = some k) : (scal x' y' = true ∧ k = decide (x' = y')) ∨ ∃ d e, Dp K H x' d ∧ Dp K H y' e ∧ SeqAt.shaped d = true ∧ SeqAt.shaped e = true ∧ k = PyData.eqv d e := by
  unfold eqD at h
  split at h
  · rename_i k' hk
    cases h
    exact .inl (eqS_at rx ry hk)
  · split at h
    · rename_i d e hd he
      split at h
      · rename_i hs
        rw [Bool.and_eq_true] at hs
        cases h
        exact .inr ⟨d, e, dp_of hd rx, dp_of he ry, hs.1, hs.2, rfl⟩
      · cases h
    · cases h
theorem op_cmp (hu : X.A.units + 64 < cLine) (o : COp) : OpR X (compareOp (cop o)) (rC X.K (cmpV o)) := by
  cases o with
  | eq =>
    refine OpR.imp (op_eq.or (op_eqD hu)) fun x y H Q ⟨μ, st, a, b, k, o, ra, rb, e, g⟩ => ?_
    rcases eqD_at ra rb e with ⟨h1, rfl⟩ | ⟨d, f, h1, h2, h3, h4, rfl⟩
    · exact .inl ⟨h1, g⟩
    · exact .inr ⟨d, f, h1, h2, h3, h4, g⟩
  | ne =>
    refine OpR.imp (op_ne.or (op_neD hu)) fun x y H Q ⟨μ, st, a, b, k, o, ra, rb, e, g⟩ => ?_
    obtain ⟨c, hc, rfl⟩ := Option.map_eq_some_iff.mp e
    rcases eqD_at ra rb hc with ⟨h1, rfl⟩ | ⟨d, f, h1, h2, h3, h4, rfl⟩
    · exact .inl ⟨h1, g⟩
    · exact .inr ⟨d, f, h1, h2, h3, h4, g⟩
  | lt =>
    refine OpR.imp (op_lt.or (op_ltD hu)) fun x y H Q ⟨μ, st, a, b, k, o, ra, rb, e, g⟩ => ?_
    unfold cmpV at e
    simp only at e
    split at e
    · cases ra; cases rb; cases e; exact .inl ⟨_, _, rfl, rfl, g⟩
    · unfold ltD at e
      split at e
      · rename_i d f hd hf
        split at e
        · rename_i hs
          rw [Bool.and_eq_true] at hs
          exact .inr ⟨d, f, k, dp_of hd ra, dp_of hf rb, hs.1, hs.2, e, g⟩
        · cases e
      · cases e
  | le =>
    refine OpR.imp op_le fun x y H Q ⟨μ, st, a, b, k, o, ra, rb, e, g⟩ => ?_
    unfold cmpV at e
    simp only at e
    split at e
    · cases ra; cases rb; cases e; exact ⟨_, _, rfl, rfl, g⟩
    · cases e
  | gt =>
    refine OpR.imp op_gt fun x y H Q ⟨μ, st, a, b, k, o, ra, rb, e, g⟩ => ?_
    unfold cmpV at e
    simp only at e
    split at e
    · cases ra; cases rb; cases e; exact ⟨_, _, rfl, rfl, g⟩
    · cases e
  | ge =>
    refine OpR.imp op_ge fun x y H Q ⟨μ, st, a, b, k, o, ra, rb, e, g⟩ => ?_
    unfold cmpV at e
    simp only at e
    split at e
    · cases ra; cases rb; cases e; exact ⟨_, _, rfl, rfl, g⟩
    · cases e
  | isN =>
    refine OpR.imp op_isN fun x y H Q ⟨μ, st, a, b, k, o, ra, rb, e, g⟩ => ?_
    unfold cmpV at e
    simp only at e
    split at e
    · cases rb
      refine ⟨rfl, ?_⟩
      have : decide (x = V.non) = k := by cases ra <;> first | (cases e; rfl) | cases e
      rw [this]; exact g
    · cases e
  | notN =>
    refine OpR.imp op_notN fun x y H Q ⟨μ, st, a, b, k, o, ra, rb, e, g⟩ => ?_
    unfold cmpV at e
    simp only at e
    split at e
    · cases rb
      refine ⟨rfl, ?_⟩
      have : (!decide (x = V.non)) = k := by cases ra <;> first | (cases e; rfl) | cases e
      rw [this]; exact g
    · cases e
  | inn =>
    refine OpR.imp (op_in_sign.or op_in_seq) fun x y H Q ⟨μ, st, a, b, k, o, ra, rb, e, g⟩ => ?_
    rcases inV_at o ra rb e with ⟨c, z, rfl, rfl, rfl⟩ | ⟨p, xs, rfl, q, f1, f2, rfl⟩
    · exact .inl ⟨c, z, rfl, rfl, g⟩
    · exact .inr ⟨p, xs, rfl, q, f1, f2, g⟩
  | nin =>
    refine OpR.imp (op_notIn_sign.or op_notIn_seq) fun x y H Q ⟨μ, st, a, b, k, o, ra, rb, e, g⟩ => ?_
    obtain ⟨c, hc, rfl⟩ := Option.map_eq_some_iff.mp e
    rcases inV_at o ra rb hc with ⟨c, z, rfl, rfl, rfl⟩ | ⟨p, xs, rfl, q, f1, f2, rfl⟩
    · exact .inl ⟨c, z, rfl, rfl, g⟩
    · exact .inr ⟨p, xs, rfl, q, f1, f2, g⟩

/-- truth -/
theorem fold_max : ∀ (r : List Int) (n : Int), (r.foldl max n ∈ n :: r) ∧ ∀ y ∈ n :: r, y ≤ r.foldl max n
  | [], n => ⟨List.mem_cons_self, fun y hy => by rw [List.mem_singleton.mp hy]; exact Int.le_refl _⟩
  | m :: r, n => by
    obtain ⟨h1, h2⟩ := fold_max r (max n m)
    show (r.foldl max (max n m) ∈ n :: m :: r) ∧ ∀ y ∈ n :: m :: r, y ≤ r.foldl max (max n m)
    have h3 := h2 (max n m) List.mem_cons_self
    refine ⟨?_, fun y hy => ?_⟩
    · rcases List.mem_cons.mp h1 with h | h
      · rw [h]
        by_cases z : n ≤ m
        · rw [show max n m = m by omega]; simp
        · rw [show max n m = n by omega]; simp
      · simp [h]
    · rcases List.mem_cons.mp hy with rfl | hy
      · omega
      · rcases List.mem_cons.mp hy with rfl | hy
        · omega
        · exact h2 y (List.mem_cons_of_mem _ hy)
theorem op_bi (hc : X.calm = true) (f : BF) (hG : f = .reprD → X.A.guards = some [] ∧ X.A.units + 200 < cLine) : CallR X (bfn f) (rB X.K f) := by
  cases f with
  | reprD =>
    obtain ⟨hg, hu⟩ := hG rfl
    refine CallR.imp (SkE.call_repr_int.or (call_reprG hg)) fun xs H Q ⟨μ, st, as, v, o, ra, e, g⟩ => ?_
    unfold biV at e
    split at e <;> try contradiction
    · cases ra with
      | cons r1 r2 =>
        cases r2
        unfold shownV at e
        split at e
        · rename_i d hd
          split at e
          · rename_i hh
            cases e
            have dp := dp_of hd r1
            cases r1 with
            | tup h1 h2 =>
              obtain ⟨q1, q2, q3, q4⟩ := hh
              exact .inr ⟨_, d, rfl, dp, q1, q2, by omega, q4, g.same o (.str _) rfl⟩
          · cases e
        · cases e
    · cases ra with
      | cons r1 r2 =>
        cases r2
        cases r1
        split at e
        · rename_i hz
          cases e
          exact .inl ⟨_, rfl, log_ok hz, g.same o (.str _) rfl⟩
        · cases e
  | len =>
    refine CallR.imp (call_len_seq.or call_len_str) fun xs H Q ⟨μ, st, as, v, o, ra, e, g⟩ => ?_
    unfold biV at e
    split at e <;> try contradiction
    · cases ra with
      | cons r1 r2 =>
        cases r2; cases r1
        split at e
        · rename_i hz
          cases e
          exact .inr ⟨_, rfl, hz, g.same o (.int _) rfl⟩
        · cases e
    · cases ra with
      | cons r1 r2 =>
        cases r2
        obtain ⟨ys, h1, rfl⟩ := Option.map_eq_some_iff.mp e
        obtain ⟨p, vs, rfl, q, r⟩ := seq_at o r1 h1
        refine .inl ⟨p, vs, rfl, q, ?_⟩
        rw [← r.len]
        exact g.same o (.int _) rfl
  | int =>
    refine CallR.imp (call_int1.or call_int_str) fun xs H Q ⟨μ, st, as, v, o, ra, e, g⟩ => ?_
    unfold biV at e
    split at e <;> try contradiction
    · cases ra with
      | cons r1 r2 => cases r2; cases r1; cases e; exact .inl (.inl ⟨_, rfl, g.same o (.int _) rfl⟩)
    · cases ra with
      | cons r1 r2 => cases r2; cases r1; cases e; exact .inl (.inr ⟨_, rfl, g.same o (.int _) rfl⟩)
    · cases ra with
      | cons r1 r2 =>
        cases r2; cases r1
        split at e
        · rename_i hz
          obtain ⟨n, hn, rfl⟩ := Option.map_eq_some_iff.mp e
          exact .inr ⟨_, n, rfl, hn, hz, g.same o (.int _) rfl⟩
        · cases e
  | abs =>
    refine CallR.imp call_abs fun xs H Q ⟨μ, st, as, v, o, ra, e, g⟩ => ?_
    unfold biV at e
    split at e <;> try contradiction
    cases ra with
    | cons r1 r2 => cases r2; cases r1; cases e; exact ⟨_, rfl, g.same o (.int _) rfl⟩
  | max =>
    refine CallR.imp ((call_max2 hc).or (cr_max hc)) fun xs H Q ⟨μ, st, as, v, o, ra, e, g⟩ => ?_
    unfold biV at e
    split at e <;> try contradiction
    · cases ra with
      | cons r1 r2 =>
        cases r2 with
        | cons r2 r3 => cases r3; cases r2; cases r1; cases e; exact .inl ⟨_, _, rfl, g.same o (.int _) rfl⟩
    · cases ra with
      | cons r1 r2 =>
        cases r2
        split at e
        · rename_i xs' hx
          split at e
          · rename_i n r hn
            cases e
            obtain ⟨p, vs, rfl, q, rs⟩ := rd_at o r1 hx
            have ev := ints_at rs hn
            subst ev
            obtain ⟨f1, f2⟩ := fold_max r n
            refine .inr ⟨p, n :: r, rfl, q, by simp, fun m hm hle => ?_⟩
            have : m = r.foldl max n := Int.le_antisymm (f2 m hm) (hle _ f1)
            rw [this]
            exact g.same o (.int _) rfl
          · cases e
        · cases e
  | min =>
    refine CallR.imp (call_min2 hc) fun xs H Q ⟨μ, st, as, v, o, ra, e, g⟩ => ?_
    unfold biV at e
    split at e <;> try contradiction
    cases ra with
    | cons r1 r2 =>
      cases r2 with
      | cons r2 r3 => cases r3; cases r2; cases r1; cases e; exact ⟨_, _, rfl, g.same o (.int _) rfl⟩
  | str =>
    refine CallR.imp call_strIS fun xs H Q ⟨μ, st, as, v, o, ra, e, g⟩ => ?_
    unfold biV at e
    split at e <;> try contradiction
    · cases ra with
      | cons r1 r2 =>
        cases r2
        cases r1 with
        | int i =>
        split at e
        · rename_i hz
          cases e
          exact .inl ⟨_, rfl, log_ok hz, g.same o (.str _) rfl⟩
        · cases e
    · cases ra with
      | cons r1 r2 =>
        cases r2
        cases r1 with
        | str z =>
          cases e
          exact .inr ⟨_, rfl, g.same o (.str _) rfl⟩
  | repr =>
    refine CallR.imp call_reprBS fun xs H Q ⟨μ, st, as, v, o, ra, e, g⟩ => ?_
    unfold biV at e
    split at e <;> try contradiction
    · cases ra with
      | cons r1 r2 => cases r2; cases r1; cases e; exact .inl ⟨_, rfl, g.same o (.str _) rfl⟩
    · cases ra with
      | cons r1 r2 =>
        cases r2; cases r1
        split at e
        · rename_i hz
          cases e
          exact .inr ⟨_, rfl, hz, g.same o (.str _) rfl⟩
        · cases e
  | list =>
    refine CallR.imp call_list_of fun xs H Q ⟨μ, st, as, v, o, ra, e, g⟩ => ?_
    unfold biV at e
    split at e <;> try contradiction
    cases ra with
    | cons r1 r2 =>
      cases r2
      obtain ⟨ys, h1, rfl⟩ := Option.map_eq_some_iff.mp e
      obtain ⟨p, vs, rfl, q, r⟩ := seq_at o r1 h1
      exact ⟨p, vs, rfl, q, g.lst o r⟩
  | tuple =>
    refine CallR.imp call_tuple_of fun xs H Q ⟨μ, st, as, v, o, ra, e, g⟩ => ?_
    unfold biV at e
    split at e <;> try contradiction
    · cases ra with
      | cons r1 r2 =>
        cases r2
        cases e
        cases r1 with
        | tup h1 r1 => exact ⟨_, _, rfl, .inr ⟨h1, g.same o (.tup h1 r1) rfl⟩⟩
    · cases ra with
      | cons r1 r2 =>
        cases r2
        obtain ⟨ys, h1, rfl⟩ := Option.map_eq_some_iff.mp e
        have fin : rdOf _ st = some ys → ∃ p ys, [_] = [V.ref p] ∧ ((SqL X.K H p ys ∧ ∀ l, H l = none → Q (.ref l) (upd H l (.tup ys))) ∨ (SqT X.K H p ys ∧ Q (.ref p) H)) := fun h => by
          obtain ⟨p, vs, e2, q, r⟩ := rd_at o r1 h
          exact ⟨p, vs, congrArg (fun z => [z]) e2, .inl ⟨q, g.tup o r⟩⟩
        cases r1 with
        | @tup zs a vs h2 r2 =>
          cases h1
          exact ⟨_, _, rfl, .inr ⟨h2, g.same o (.tup h2 r2) rfl⟩⟩
        | _ => exact fin h1
  | sum =>
    refine CallR.imp (cr_sum hc) fun xs H Q ⟨μ, st, as, v, o, ra, e, g⟩ => ?_
    unfold biV at e
    split at e <;> try contradiction
    cases ra with
    | cons r1 r2 =>
      cases r2
      split at e
      · rename_i ys hy
        obtain ⟨ns, h1, rfl⟩ := Option.map_eq_some_iff.mp e
        obtain ⟨p, vs, rfl, q, r⟩ := rd_at o r1 hy
        have := ints_at r h1
        subst this
        exact ⟨p, ns, rfl, q, g.same o (.int _) rfl⟩
      · cases e
  | all =>
    refine CallR.imp (cr_all hc) fun xs H Q ⟨μ, st, as, v, o, ra, e, g⟩ => ?_
    unfold biV at e
    split at e <;> try contradiction
    cases ra with
    | cons r1 r2 =>
      cases r2
      split at e
      · rename_i ys hy
        obtain ⟨ns, h1, rfl⟩ := Option.map_eq_some_iff.mp e
        obtain ⟨p, vs, rfl, q, r⟩ := rd_at o r1 hy
        have := bools_at r h1
        subst this
        exact ⟨p, ns, rfl, q, g.same o (.bl _) rfl⟩
      · cases e
  | any =>
    refine CallR.imp (cr_any hc) fun xs H Q ⟨μ, st, as, v, o, ra, e, g⟩ => ?_
    unfold biV at e
    split at e <;> try contradiction
    cases ra with
    | cons r1 r2 =>
      cases r2
      split at e
      · rename_i ys hy
        obtain ⟨ns, h1, rfl⟩ := Option.map_eq_some_iff.mp e
        obtain ⟨p, vs, rfl, q, r⟩ := rd_at o r1 hy
        have := bools_at r h1
        subst this
        exact ⟨p, ns, rfl, q, g.same o (.bl _) rfl⟩
      · cases e

/-! ### methods -/
def mfn : MF → String
  | .append => "list.append" | .split => "str.split" | .partition => "str.partition" | .join => "str.join"
def rM (K : PySem.W.Frag) (f : MF) : V → List V → Hp → VK → Prop := fun x' vs H Q => ∃ μ st x as v st', Ok K μ st H ∧ RV K μ st.length H x x' ∧ RAs K μ st.length H as vs ∧ mtV f x as st = .ok v st' ∧
  ∀ H' v', Stp μ st.length H μ st'.length H' → Ok K μ st' H' → RV K μ st'.length H' v v' → Fr H v v' → Q v' H'
theorem op_mt (f : MF) : MtR X (mfn f) (rM X.K f) := by
  cases f with
  | append =>
    refine MtR.imp (show MtR X "list.append" rAppend from mt_append) fun x xs H Q ⟨μ, st, a, as, v, st', o, ra, rs, e, g⟩ => ?_
    unfold mtV at e
    split at e <;> try contradiction
    cases rs with
    | cons r1 r2 =>
      cases r2
      split at e
      · rename_i zs hz
        split at e
        · rename_i hc
          cases e
          cases ra with
          | loc hn =>
            obtain ⟨vs, h1, h2⟩ := o.cell _ _ hz
            obtain ⟨s1, o1⟩ := o.write hn (h2.app (RVs.one hc.2 r1))
            refine ⟨_, vs, _, rfl, rfl, h1, by rw [← h2.len]; exact hc.1, g _ _ s1 o1 .non trivial⟩
        · cases e
      · cases e
  | split =>
    refine MtR.imp mt_split fun x xs H Q ⟨μ, st, a, as, v, st', o, ra, rs, e, g⟩ => ?_
    unfold mtV at e
    split at e <;> try contradiction
    cases rs with
    | cons r1 r2 =>
      cases r2; cases r1; cases ra
      split at e
      · cases e
      · rename_i hc
        cases e
        refine ⟨_, _, rfl, rfl, ?_, by omega, fun p hp => ?_⟩
        · rw [beq_eq_false_iff_ne]; omega
        · rename_i s1 s2
          have q : ∀ (l : List Str), RVs X.K μ st.length H (l.map PV.str) (l.map V.str) := fun l => by
            induction l with
            | nil => exact .nil
            | cons z l ih => exact .cons rfl (.str z) ih
          exact (show Go X.K μ st H _ Q from g).lst o (q _) p hp
  | partition =>
    refine MtR.imp mt_partition fun x xs H Q ⟨μ, st, a, as, v, st', o, ra, rs, e, g⟩ => ?_
    unfold mtV at e
    split at e <;> try contradiction
    cases rs with
    | cons r1 r2 =>
      cases r2; cases r1; cases ra
      split at e
      · cases e
      · rename_i hc
        cases e
        refine ⟨_, _, rfl, rfl, ?_, by omega, fun p hp => ?_⟩
        · rw [beq_eq_false_iff_ne]; omega
        · exact (show Go X.K μ st H _ Q from g).tup o (.cons rfl (.str _) (.cons rfl (.str _) (.cons rfl (.str _) .nil))) p hp
  | join =>
    refine MtR.imp mt_join fun x xs H Q ⟨μ, st, a, as, v, st', o, ra, rs, e, g⟩ => ?_
    unfold mtV at e
    split at e <;> try contradiction
    cases rs with
    | cons r1 r2 =>
      cases r2; cases ra
      split at e
      · rename_i zs hz
        split at e
        · rename_i ys hy
          split at e
          · rename_i hc
            cases e
            obtain ⟨p, vs, rfl, q, r⟩ := seq_at o r1 hz
            have := strs_at r hy
            subst this
            exact ⟨_, p, ys, rfl, rfl, q, by rw [Nat.mul_comm]; omega, g _ _ StX.refl o (.str _) trivial⟩
          · cases e
        · cases e
      · cases e
end
end U

set_option maxHeartbeats 4000000
/-! U5: expressions: the text is the program, and what the program yields the machine yields. -/
namespace U
open PySem PySem.Spec PyProof.Rows L2

/-! ### is this text that program -/
structure Ct where
  N : List Str
  sc : Scope
  fn : List (Str × Nat)
  cs : List (Str × PV)
  bl : List Str
  ds : List (Str × List (Str × PV))
  gk : Bool
def visB (sc : Scope) (x : Str) : Bool := match sc.names.lookup x with
  | some .local => true
  | some .cell => true
  | some .free => true
  | _ => false
def glB (sc : Scope) (x : Str) : Bool := match sc.names.lookup x with
  | some .globalImplicit => !(x == ("__debug__" : Str))
  | _ => false
def conB : PV → Const → Bool
  | .non, .none => true
  | .bl a, .bool b => a == b
  | .int a, .int b => decide (a = b)
  | .str a, .str b => decide (a = b)
  | _, _ => false
def bname : BF → Str
  | .len => "len" | .int => "int" | .abs => "abs" | .max => "max" | .min => "min" | .str => "str" | .repr => "repr" | .reprD => "repr"
  | .list => "list" | .tuple => "tuple" | .sum => "sum" | .all => "all" | .any => "any"
/-- may it stand where the guards are not known -/
def gOk : BF → Bool
  | .reprD => false
  | _ => true
def tname : Ty → Str
  | .int => "int" | .bool => "bool" | .str => "str" | .tuple => "tuple" | .list => "list"
def tstr : Ty → String
  | .int => "int" | .bool => "bool" | .str => "str" | .tuple => "tuple" | .list => "list"
def mname : MF → Str
  | .append => "append" | .split => "split" | .partition => "partition" | .join => "join"
def MG.own (g : MG) (N : List Str) : List (Str × Nat) := g.slots.map fun i => (N.getD i "", i)
def locB (sc : Scope) (x : Str) : Bool := match sc.names.lookup x with
  | some .local => true
  | some .cell => true
  | _ => false
/-- a target's names; cell: may they be cells of the block itself -/
def mT1 (C : Ct) (i : Nat) (e : Expr) : Bool := match e with
  | .Name x _ => decide (C.N[i]? = some x) && decide (C.sc.names.lookup x = some .local)
  | _ => false
def mTs (C : Ct) : List Nat → List Expr → Bool
  | [], [] => true
  | i :: is, e :: es => mT1 C i e && mTs C is es
  | _, _ => false
def mG (C : Ct) (g : MG) (e : Expr) : Bool := match g, e with
  | .nm i, e => mT1 C i e
  | .tp is, .Tuple es _ _ => mTs C is es
  | _, _ => false
mutual
def mE (C : Ct) : ME → Expr → Bool
  | .var i, e => match e with
    | .Name x _ => decide (C.N[i]? = some x) && visB C.sc x && !(x == ("__debug__" : Str)) && !(x == ("__classdict__" : Str))
    | _ => false
  | .con v, e => match e with
    | .Constant c _ _ => conB v c
    | _ => false
  | .glb x v, e => match e with
    | .Name y _ => decide (y = x) && glB C.sc x && (match C.cs.lookup x with
      | some w => PV.same v w
      | none => false)
    | _ => false
  | .bin o a b, e => match e with
    | .BinOp l op r _ => decide (op = bop o) && mE C a l && mE C b r
    | _ => false
  | .neg a, e => match e with
    | .UnaryOp .USub x _ => mE C a x
    | _ => false
  | .cmp o a b, e => match e with
    | .Compare l [op] [r] _ => decide (op = cop o) && mE C a l && mE C b r
    | _ => false
  | .cmp2 o o' a b c, e => match e with
    | .Compare l [op, op'] [r, r'] _ => decide (op = cop o) && decide (op' = cop o') && mE C a l && mE C b r && mE C c r'
    | _ => false
  | .not a, e => match e with
    | .UnaryOp .Not x _ => mE C a x
    | _ => false
  | .and a b, e => match e with
    | .BoolOp .And [x, y] _ => mE C a x && mE C b y
    | .BoolOp .And (x :: y :: z :: r) p => mE C a x && mE C b (.BoolOp .And (y :: z :: r) p)
    | _ => false
  | .or a b, e => match e with
    | .BoolOp .Or [x, y] _ => mE C a x && mE C b y
    | .BoolOp .Or (x :: y :: z :: r) p => mE C a x && mE C b (.BoolOp .Or (y :: z :: r) p)
    | _ => false
  | .ite t a b, e => match e with
    | .IfExp c x y _ => mE C t c && mE C a x && mE C b y
    | _ => false
  | .fn f as, e => match e with
    | .Call (.Name x _) (y :: ys) [] _ => decide (C.fn.lookup x = some f) && glB C.sc x && mA C as (y :: ys)
    | _ => false
  | .bi f as, e => match e with
    | .Call (.Name x _) (y :: ys) [] _ => decide (x = bname f) && C.bl.contains x && glB C.sc x && (gOk f || C.gk) && mA C as (y :: ys)
    | _ => false
  | .mt f o as, e => match e with
    | .Call (.Attribute x name apos) [y] [] pos => decide (name = mname f) && mE C o x && (apos.endLine == pos.line) && !(match x with
        | .Call _ [] [] _ => true
        | _ => false) && mA C as [y]
    | _ => false
  | .tup as, e => match e with
    | .Tuple es _ _ => mA C as es
    | _ => false
  | .lst as, e => match e with
    | .List es _ => mA C as es
    | _ => false
  | .ix a i, e => match e with
    | .Subscript x y _ => mE C a x && mE C i y
    | _ => false
  | .sl a lo hi, e => match e with
    | .Subscript x (.Slice l h none _) _ => mE C a x && (match l with
        | none => lo.absent
        | some y => !lo.absent && mE C lo y) && (match h with
        | none => hi.absent
        | some y => !hi.absent && mE C hi y)
    | _ => false
  | .lc elt g (.rng a b) has c, e => match e with
    | .ListComp x [⟨tg, .Call (.Name f _) es [] _, ifs, 0⟩] scope _ => decide (f = "range") && C.bl.contains "range" && glB C.sc f &&
        (match es with
        | [y] => (match a with
          | .con (.int 0) => mE C b y
          | _ => false)
        | [z, y] => mE C a z && mE C b y
        | _ => false) && blkC C.N C.sc scope (g.own C.N) && mG { C with sc := relS scope C.sc } g tg &&
        (match has, ifs with
        | true, [t] => mE { C with sc := relS scope C.sc } c t
        | false, [] => true
        | _, _ => false) && mE { C with sc := relS scope C.sc } elt x
    | _ => false
  | .lc elt g src has c, e => match e with
    | .ListComp x [⟨tg, iter, ifs, 0⟩] scope _ => mE C src iter && blkC C.N C.sc scope (g.own C.N) && mG { C with sc := relS scope C.sc } g tg &&
        (match has, ifs with
        | true, [t] => mE { C with sc := relS scope C.sc } c t
        | false, [] => true
        | _, _ => false) && mE { C with sc := relS scope C.sc } elt x
    | _ => false
  | .rng _ _, _ => false
  | .rev _, _ => false
  | .star _, _ => false
  | .tupS as, e => match e with
    | .Tuple es _ _ => mI C as es
    | _ => false
  | .gidx x vs a, e => match e with
    | .Call (.Attribute (.Name y _) name apos) [z] [] pos => decide (name = "index") && decide (y = x) && glB C.sc x && (apos.endLine == pos.line) && mE C a z && (match C.cs.lookup x with
      | some w => PV.same (.tup (vs.map .str)) w
      | none => false)
    | _ => false
  | .mxd a d, e => match e with
    | .Call (.Name f _) [x] [⟨some kw, .Constant (.int i) _ _, _⟩] _ => decide (f = "max") && C.bl.contains "max" && glB C.sc f && decide (kw = Str.ofString "default") && decide (i = d) && mE C a x
    | _ => false
  | .fmt a, e => match e with
    | .FormattedValue x c none _ => decide (c = -1) && mE C a x
    | _ => false
  | .fstr as, e => match e with
    | .JoinedStr (x :: y :: r) _ => mA C as (x :: y :: r)
    | _ => false
  | .dix x kvs a, e => match e with
    | .Subscript (.Name y _) k _ => decide (y = x) && glB C.sc x && (match C.ds.lookup x with
      | some w => sameD kvs w
      | none => false) && mE C a k
    | _ => false
  | .gget x kvs a b, e => match e with
    | .Call (.Attribute (.Name y _) name apos) [k, d] [] pos => decide (y = x) && decide (name = "get") && glB C.sc x && (apos.endLine == pos.line) && (match C.ds.lookup x with
      | some w => sameD kvs w
      | none => false) && mE C a k && mE C b d
    | _ => false
  | .isi t a, e => match e with
    | .Call (.Name f _) [x, .Name y _] [] _ => decide (f = "isinstance") && C.bl.contains "isinstance" && glB C.sc f && decide (y = tname t) && C.bl.contains y && glB C.sc y && mE C a x
    | _ => false
def mA (C : Ct) : MEs → List Expr → Bool
  | .nil, es => match es with
    | [] => true
    | _ => false
  | .cons a as, es => match es with
    | [] => false
    | e :: es => mE C a e && mA C as es
def mI (C : Ct) : MEs → List Expr → Bool
  | .nil, es => match es with
    | [] => true
    | _ => false
  | .cons (.star a) as, es => match es with
    | .Starred e _ :: es => mE C a e && mI C as es
    | _ => false
  | .cons a as, es => match es with
    | [] => false
    | e :: es => mE C a e && mI C as es
end
end U

set_option maxHeartbeats 4000000
/-! U6: readings of expressions. -/
namespace U
open PySem PySem.Spec PyProof.Rows L2

theorem bind_ok {α β : Type} {r : Res α} {f : α → Store → Res β} {b : β} {st : Store} (h : r.bind f = .ok b st) : ∃ a st1, r = .ok a st1 ∧ f a st1 = .ok b st := by
  cases r with
  | ok a st1 => exact ⟨a, st1, rfl, h⟩
  | bad => cases h
theorem opt_ok {α : Type} {o : Option α} {st st1 : Store} {b : α} (h : opt o st = .ok b st1) : o = some b ∧ st = st1 := by
  cases o with
  | some a => cases h; exact ⟨rfl, rfl⟩
  | none => cases h
theorem isBl_ok {x : PV} {k : Bool} (h : isBl x = some k) : x = .bl k := by
  unfold isBl at h
  split at h
  · cases h; rfl
  · cases h
theorem done_ok {m : Md} {v w : PV} {st st1 : Store} (h : done m v st = .ok w st1) (hm : m ≠ .test) : w = v ∧ st = st1 := by
  cases m with
  | val => cases h; exact ⟨rfl, rfl⟩
  | use => cases h; exact ⟨rfl, rfl⟩
  | test => exact absurd rfl hm

section
variable {K : PySem.W.Frag} {μ μ1 μ2 : Nat → Addr} {L L1 : Nat} {H H1 H2 : Hp} {S : Addr → Prop}
theorem bind_assoc {α β γ : Type} (r : Res α) (f : α → Store → Res β) (g : β → Store → Res γ) : (r.bind f).bind g = r.bind fun a st => (f a st).bind g := by cases r <;> rfl
/-- the names' values -/
structure RE (K : PySem.W.Frag) (μ : Nat → Addr) (L : Nat) (H : Hp) (env : En) (σ : L2.St) : Prop where
  len : env.length = σ.length
  at_ : ∀ (i : Nat) (x : PV), env[i]? = some (some x) → ∃ v : V, σ[i]? = some (some v) ∧ RV K μ L H x v
theorem RE.mono {env : En} {σ : L2.St} (s : Stp μ L H μ1 L1 H1) (r : RE K μ L H env σ) : RE K μ1 L1 H1 env σ :=
  ⟨r.len, fun i x h => let ⟨v, h1, h2⟩ := r.at_ i x h; ⟨v, h1, h2.mono0 s⟩⟩
theorem RE.set {env : En} {σ : L2.St} {x : PV} {v : V} (r : RE K μ L H env σ) (q : RV K μ L H x v) (i : Nat) : RE K μ L H (env.set i (some x)) (σ.set i (some v)) := by
  refine ⟨by simp [r.len], fun j y h => ?_⟩
  by_cases e : i = j
  · subst e
    by_cases hi : i < env.length
    · rw [List.getElem?_set_self hi] at h
      cases h
      exact ⟨v, List.getElem?_set_self (by rw [← r.len]; exact hi), q⟩
    · rw [List.getElem?_eq_none (by simp; omega)] at h; cases h
  · rw [List.getElem?_set_ne e] at h ⊢
    exact r.at_ j y h
theorem RE.drop {env : En} {σ : L2.St} (r : RE K μ L H env σ) (i : Nat) : RE K μ L H (env.set i none) (σ.set i none) := by
  refine ⟨by simp [r.len], fun j y h => ?_⟩
  by_cases e : i = j
  · subst e
    by_cases hi : i < env.length
    · rw [List.getElem?_set_self hi] at h
      cases h
    · rw [List.getElem?_eq_none (by simp; omega)] at h; cases h
  · rw [List.getElem?_set_ne e] at h ⊢
    exact r.at_ j y h
theorem RE.wipe {env : En} {σ : L2.St} (r : RE K μ L H env σ) : ∀ vs : List Nat, RE K μ L H (U.wipe env vs) (L2.wipe σ vs)
  | [] => r
  | v :: vs => by
    unfold U.wipe L2.wipe
    exact (RE.wipe r vs).drop v

/-! ### readings -/
def rd (K : PySem.W.Frag) (m : En → Store → Res PV) : TE := fun σ H Q => ∃ μ env st v st', Ok K μ st H ∧ RE K μ st.length H env σ ∧ m env st = .ok v st' ∧
  ∀ μ' H' v', Stp μ st.length H μ' st'.length H' → Ok K μ' st' H' → RV K μ' st'.length H' v v' → Fr H v v' → Q v' H'
def rdU (K : PySem.W.Frag) (m : En → Store → Res PV) : TE := fun σ H Q => ∃ μ env st v st', Ok K μ st H ∧ RE K μ st.length H env σ ∧ m env st = .ok v st' ∧
  ∀ μ' H' v', Stp μ st.length H μ' st'.length H' → Ok K μ' st' H' → RV K μ' st'.length H' v v' → Q v' H'
def rdT (K : PySem.W.Frag) (m : En → Store → Res PV) : TT := fun σ H Q => ∃ μ env st k st', Ok K μ st H ∧ RE K μ st.length H env σ ∧ m env st = .ok (.bl k) st' ∧
  ∀ μ' H', Stp μ st.length H μ' st'.length H' → Ok K μ' st' H' → Q k H'
def rdA (K : PySem.W.Frag) (m : En → Store → Res (List PV)) : TA := fun σ H Q => ∃ μ env st v st', Ok K μ st H ∧ RE K μ st.length H env σ ∧ m env st = .ok v st' ∧
  ∀ μ' H' v', Stp μ st.length H μ' st'.length H' → Ok K μ' st' H' → RVs K μ' st'.length H' v v' → Q v' H'
def rdC (K : PySem.W.Frag) (m : En → Store → Res (List PV)) : TA := fun σ H Q => ∃ μ env st v st', Ok K μ st H ∧ RE K μ st.length H env σ ∧ m env st = .ok v st' ∧
  ∀ μ' H' v', Stp μ st.length H μ' st'.length H' → Ok K μ' st' H' → RAs K μ' st'.length H' v v' → Q v' H'
def rdO (K : PySem.W.Frag) (m : En → Store → Res PV) (absent : Bool) : TO := fun σ H Q => ∃ μ env st v st' b, Ok K μ st H ∧ RE K μ st.length H env σ ∧ m env st = .ok v st' ∧ bound absent v = some b ∧
  ∀ μ' H', Stp μ st.length H μ' st'.length H' → Ok K μ' st' H' → Q b H'
variable {X : Cx} {e : Expr}
theorem _root_.L2.PE.imp {t t' : TE} (h : PE X e t) (i : ∀ σ H Q, t' σ H Q → t σ H Q) : PE X e t' := ⟨fun pins s σ H Q I q => h.run pins s σ H Q I (i _ _ _ q)⟩
theorem _root_.L2.PT.imp {t t' : TT} (h : PT X e t) (i : ∀ σ H Q, t' σ H Q → t σ H Q) : PT X e t' := ⟨fun pins s σ H Q I q => h.run pins s σ H Q I (i _ _ _ q)⟩
theorem _root_.L2.PW.imp {t t' : TT} (h : PW X e t) (i : ∀ σ H Q, t' σ H Q → t σ H Q) : PW X e t' := ⟨fun wh pins s σ H Q I q => h.run wh pins s σ H Q I (i _ _ _ q)⟩
theorem _root_.L2.PA.imp {es : List Expr} {t t' : TA} (h : PA X es t) (i : ∀ σ H Q, t' σ H Q → t σ H Q) : PA X es t' := ⟨fun pos pins s σ H Q I q => h.run pos pins s σ H Q I (i _ _ _ q)⟩
theorem _root_.L2.PO.imp {o : Option Expr} {t t' : TO} (h : PO X o t) (i : ∀ σ H Q, t' σ H Q → t σ H Q) : PO X o t' := ⟨fun pins s σ H Q I q => h.run pins s σ H Q I (i _ _ _ q)⟩
theorem rd_eq {m m' : En → Store → Res PV} (e : ∀ env st, m' env st = m env st) : ∀ σ H Q, rd K m' σ H Q → rd K m σ H Q := fun σ H Q ⟨μ, env, st, v, st', o, r, h, g⟩ => ⟨μ, env, st, v, st', o, r, by rw [← e]; exact h, g⟩
theorem rdU_of {m : En → Store → Res PV} (h : PE X e (rd X.K m)) : PE X e (rdU X.K m) := h.imp fun σ H Q ⟨μ, env, st, v, st', o, r, h, g⟩ => ⟨μ, env, st, v, st', o, r, h, fun μ' H' v' s o' r' _ => g μ' H' v' s o' r'⟩

/-- an expression's three readings -/
structure SE (X : Cx) (call : Nat → List PV → Store → Res PV) (m : ME) (e : Expr) : Prop where
  val : PE X e (rd X.K (ev call m .val))
  use : PE X e (rdU X.K (ev call m .use))
  test : PT X e (rdT X.K (ev call m .test))
variable {call : Nat → List PV → Store → Res PV} {m : ME}
/-- whose test is its value's truth -/
theorem SE.plain (core : En → Store → Res PV) (h : PE X e (rd X.K core)) (eq : ∀ md env st, ev call m md env st = (core env st).bind fun v st1 => done md v st1)
    (he : ∀ whole, isTrue e X.env whole = (do let v ← whole; standAt e.pos; holding [v] (truthy v))) : SE X call m e := by
  have hv : PE X e (rd X.K (ev call m .val)) := h.imp (rd_eq fun env st => by
    rw [eq]
    cases core env st <;> rfl)
  refine ⟨hv, rdU_of (hv.imp (rd_eq fun env st => by
    rw [eq, eq]
    cases core env st <;> rfl)), ?_⟩
  refine PT.imp (pt_truth h he) fun σ H Q ⟨μ, env, st, k, st', o, r, h, g⟩ => ?_
  rw [eq] at h
  obtain ⟨v, st1, h1, h2⟩ := bind_ok h
  obtain ⟨k', st2, h3, h4⟩ := bind_ok h2
  obtain ⟨h5, rfl⟩ := opt_ok h3
  cases h4
  exact ⟨μ, env, st, v, st', o, r, h1, fun μ' H' v' s o' r' _ => ⟨k, truth_at o' r' h5, g μ' H' s o'⟩⟩
/-- which is a bool -/
theorem SE.bool (h : PE X e (rd X.K (ev call m .val))) (hu : ∀ env st, ev call m .use env st = ev call m .val env st) (t : PT X e (rdT X.K (ev call m .test))) : SE X call m e :=
  ⟨h, rdU_of (h.imp (rd_eq hu)), t⟩

/-! two operands -/
theorem pe_bin {a b : ME} {x y : Expr} {f : PV → PV → Store → Option PV} {g : Expr} (ha : SE X call a x) (hb : SE X call b y) (hr : ∀ {ta tb : TE}, PE X x ta → PE X y tb → PE X g (tOp (rO X.K f) ta tb)) :
    PE X g (rd X.K fun env st => (ev call a .use env st).bind fun x st1 => (ev call b .use env st1).bind fun y st2 => opt (f x y st2) st2) := by
  refine (hr ha.use hb.use).imp fun σ H Q ⟨μ, env, st, v, st', o, r, h, g⟩ => ?_
  obtain ⟨x1, st1, h1, h2⟩ := bind_ok h
  obtain ⟨y1, st2, h3, h4⟩ := bind_ok h2
  obtain ⟨h5, rfl⟩ := opt_ok h4
  exact ⟨μ, env, st, x1, st1, o, r, h1, fun μ1 H1 x' s1 o1 r1 => ⟨μ1, env, st1, y1, st2, o1, r.mono s1, h3, fun μ2 H2 y' s2 o2 r2 => ⟨μ2, st2, x1, y1, v, o2, r1.mono0 s2, r2, h5,
    fun H3 v' s3 o3 r3 f3 => g μ2 H3 v' (Stp.trans s1 (Stp.trans s2 s3)) o3 r3 (f3.back (Stp.trans s1 s2))⟩⟩⟩
theorem pe_binV {a b : ME} {x y : Expr} {f : PV → PV → Store → Option PV} {g : Expr} (ha : SE X call a x) (hb : SE X call b y) (hr : ∀ {ta tb : TE}, PE X x ta → PE X y tb → PE X g (tOp (rO X.K f) ta tb)) :
    PE X g (rd X.K fun env st => (ev call a .use env st).bind fun x st1 => (ev call b .val env st1).bind fun y st2 => opt (f x y st2) st2) := by
  refine (hr ha.use hb.val).imp fun σ H Q ⟨μ, env, st, v, st', o, r, h, g⟩ => ?_
  obtain ⟨x1, st1, h1, h2⟩ := bind_ok h
  obtain ⟨y1, st2, h3, h4⟩ := bind_ok h2
  obtain ⟨h5, rfl⟩ := opt_ok h4
  exact ⟨μ, env, st, x1, st1, o, r, h1, fun μ1 H1 x' s1 o1 r1 => ⟨μ1, env, st1, y1, st2, o1, r.mono s1, h3, fun μ2 H2 y' s2 o2 r2 _ => ⟨μ2, st2, x1, y1, v, o2, r1.mono0 s2, r2, h5,
    fun H3 v' s3 o3 r3 f3 => g μ2 H3 v' (Stp.trans s1 (Stp.trans s2 s3)) o3 r3 (f3.back (Stp.trans s1 s2))⟩⟩⟩
theorem se_bin {o : BOp} {a b : ME} {x y : Expr} {pos : Pos} (ha : SE X call a x) (hb : SE X call b y) : SE X call (.bin o a b) (.BinOp x (bop o) y pos) :=
  .plain _ (pe_bin ha hb fun p q => pe_op (op_bin o) p q) (fun md env st => by rw [ev]; simp only [bind_assoc]) fun _ => rfl
theorem se_ix {a b : ME} {x y : Expr} {pos : Pos} (ha : SE X call a x) (hb : SE X call b y) (hs : PlainIx y) : SE X call (.ix a b) (.Subscript x y pos) :=
  .plain _ (pe_binV ha hb fun p q => pe_ix op_ix p q hs) (fun md env st => by rw [ev]; simp only [bind_assoc]) fun _ => rfl
theorem tC_imp {core : PV} {v' : V} (h : ∀ μ L H, RV K μ L H core v') (f : core.isFl = false) : ∀ σ H Q, rd K (fun _ st => .ok core st) σ H Q → tC v' σ H Q := fun σ H Q ⟨μ, env, st, v, st', o, r, e, g⟩ => by
  cases e
  exact g μ H v' StX.refl o (h _ _ _) (fr_of f)
theorem se_con {v : PV} {c : Const} {k : Nat} {pos : Pos} (h : conB v c = true) : SE X call (.con v) (.Constant c k pos) := by
  refine .plain (fun _ st => .ok v st) ?_ (fun md env st => by rw [ev]; rfl) fun _ => rfl
  unfold conB at h
  split at h
  · exact pe_non.imp (tC_imp (fun _ _ _ => .non) rfl)
  · cases eq_of_beq h
    exact pe_bl.imp (tC_imp (fun _ _ _ => .bl _) rfl)
  · cases of_decide_eq_true h
    exact pe_int.imp (tC_imp (fun _ _ _ => .int _) rfl)
  · cases of_decide_eq_true h
    exact pe_str.imp (tC_imp (fun _ _ _ => .str _) rfl)
  · cases h
theorem se_glb {x : Str} {v : PV} {v' : V} {u : Value} {pos : Pos} (hg : Gl X x) (hm : X.mg x = some u) (hr : RelV v' u) (h : ∀ μ L H, RV X.K μ L H v v') (f : v.isFl = false) (hd : (x == ("__debug__" : Str)) = false) : SE X call (.glb x v) (.Name x pos) :=
  .plain (fun _ st => .ok v st) ((pe_glob hg hm hr hd).imp (tC_imp h f)) (fun md env st => by rw [ev]; rfl) fun _ => rfl
theorem se_var {i : Nat} {x : Str} {pos : Pos} (hN : X.N[i]? = some x) (hv : Vis X.env.scope x) (hd : (x == ("__debug__" : Str)) = false) (hcd : (x == ("__classdict__" : Str)) = false) : SE X call (.var i) (.Name x pos) := by
  have base : PE X (.Name x pos) (tVar i) := pe_var hN hv hd hcd
  refine ⟨base.imp fun σ H Q ⟨μ, env, st, v, st', o, r, h, g⟩ => ?_, base.imp fun σ H Q ⟨μ, env, st, v, st', o, r, h, g⟩ => ?_, PT.imp (pt_truth base fun _ => rfl) fun σ H Q ⟨μ, env, st, k, st', o, r, h, g⟩ => ?_⟩
  · rw [ev] at h
    unfold varV at h
    split at h
    · rename_i w hw
      obtain ⟨v', h1, h2⟩ := r.at_ i w hw
      simp only at h
      split at h
      · cases h
      · rename_i nf
        cases h
        exact ⟨v', h1, g μ H v' StX.refl o h2 (by cases h2 <;> first | trivial | exact absurd rfl (nf _))⟩
    · cases h
  · rw [ev] at h
    unfold varV at h
    split at h
    · rename_i w hw
      obtain ⟨v', h1, h2⟩ := r.at_ i w hw
      cases h
      exact ⟨v', h1, g μ H v' StX.refl o h2⟩
    · cases h
  · rw [ev] at h
    unfold varV at h
    split at h
    · rename_i w hw
      obtain ⟨v', h1, h2⟩ := r.at_ i w hw
      simp only at h
      obtain ⟨k', st2, h3, h4⟩ := bind_ok h
      obtain ⟨h5, rfl⟩ := opt_ok h3
      cases h4
      exact ⟨v', h1, k, truth_at o h2 h5, g μ H StX.refl o⟩
    · cases h
theorem se_neg {a : ME} {x : Expr} {pos : Pos} (ha : SE X call a x) : SE X call (.neg a) (.UnaryOp .USub x pos) := by
  refine .plain (fun env st => (ev call a .val env st).bind fun x st1 => match x with
    | .int i => .ok (.int (-i)) st1
    | _ => .bad) ((pe_un un_neg ha.val).imp fun σ H Q ⟨μ, env, st, v, st', o, r, h, g⟩ => ?_) (fun md env st => ?_) fun _ => rfl
  · obtain ⟨x1, st1, h1, h2⟩ := bind_ok h
    split at h2
    · cases h2
      refine ⟨μ, env, st, _, _, o, r, h1, fun μ1 H1 x' s1 o1 r1 _ => ?_⟩
      cases r1
      exact ⟨_, rfl, g μ1 H1 _ s1 o1 (.int _) trivial⟩
    · cases h2
  · rw [ev, bind_assoc]
    congr 1
    funext x1 st1
    cases x1 <;> rfl
end
end U

set_option maxHeartbeats 4000000
/-! U6m: max(xs, default=d) of a list of ints, as a hand rule; used by U7. -/
namespace U
open PySem PySem.W PyProof.Rows L2
theorem reads_ints {h : Heap} : ∀ {ns : List Int} {us : List Value}, Vals (ns.map V.int) us → ReadsAll h us (ns.map PyData.int) []
  | [], us, hv => by
    cases hv
    exact .nil
  | n :: ns, us, hv => by
    cases hv with
    | cons h1 h2 =>
      obtain ⟨t, rfl⟩ := h1
      exact ReadsAll.cons (h := h) (as := []) (bs := []) (Reads.int n t) (reads_ints h2)
theorem alike_ints (ns : List Int) : AlikeAll (ns.map PyData.int) := by
  refine ⟨fun x hx y hy => ?_, fun x hx => ?_⟩
  · obtain ⟨i, _, rfl⟩ := List.mem_map.mp hx
    obtain ⟨j, _, rfl⟩ := List.mem_map.mp hy
    rfl
  · obtain ⟨i, _, rfl⟩ := List.mem_map.mp hx
    intro h
    cases h
theorem depth_ints : ∀ ns : List Int, PyData.depthAll (ns.map PyData.int) ≤ 1
  | [] => Nat.zero_le _
  | n :: ns => by
    have := depth_ints ns
    show max (PyData.depth (.int n)) (PyData.depthAll (ns.map PyData.int)) ≤ 1
    have h1 : PyData.depth (.int n) ≤ 1 := by
      show (_ : Nat) ≤ 1
      first | exact Nat.le_refl _ | exact Nat.zero_le _
    omega
theorem call_maxD {X : Cx} (hc : X.calm = true) (hu : X.A.units + 10 < cLine) : CallRK X (.builtin "max") [Str.ofString "default"]
    (fun vs zs H Q => ∃ (a : Addr) (ns : List Int) (d : Int), vs = [.ref a] ∧ zs = [.int d] ∧ SqL X.K H a (ns.map V.int) ∧ (ns = [] → Q (.int d) H) ∧ ∀ n r, ns = n :: r → Q (.int (r.foldl max n)) H) := by
  intro pins s σ H xs zs us ws Q I hx hz ⟨a, ns, d, e1, e2, hq, h0, h1⟩
  subst e1 e2
  cases hx with
  | cons x1 x2 =>
  cases x2
  obtain rfl : _ = Value.ref a := x1
  cases hz with
  | cons z1 z2 =>
  cases z2
  obtain ⟨t, rfl⟩ := z1
  obtain ⟨its, v1, v2, v3⟩ := I.list hq
  have rd : ReadsAll s.heap its.toArray.toList (ns.map PyData.int) [] := by
    rw [List.toList_toArray]
    exact reads_ints v1
  have du := depth_ints ns
  show wpAny (model X.prog X.w) X.A (PySem.call (Value.builtin "max") [Value.ref a] [(Str.ofString "default", Value.int d t)]) (EP X pins σ Q) X.xe s
  refine max_list_default (I.ok.hd hc) ?_ rd (alike_ints ns) (by omega) (fun hn h' tk hk => ?_) (fun y ys i v h' tk bs hy hv hr hk => ?_)
  · obtain ⟨o, n, p1, p2, _, p4⟩ := v2
    exact ⟨o, p1, p2, n, p4⟩
  · have hn : ns = [] := List.map_eq_nil_iff.mp hn
    exact ⟨.int d, H, I.kept hk, ⟨t, rfl⟩, h0 hn⟩
  · cases ns with
    | nil => cases hy
    | cons n r =>
      rw [List.map_cons] at hy
      injection hy with hy1 hy2
      subst hy1 hy2
      rw [maxD_ints] at hr
      obtain ⟨t', rfl⟩ : ∃ t', v = Value.int (r.foldl max n) t' := by
        cases hr
        exact ⟨_, rfl⟩
      exact ⟨.int (r.foldl max n), H, I.kept hk, ⟨t', rfl⟩, h1 n r rfl⟩
end U

set_option maxHeartbeats 4000000
/-! U7: comparisons, tests, displays, arguments, calls. -/
namespace U
open PySem PySem.Spec PyProof.Rows L2
section
variable {K : PySem.W.Frag} {μ : Nat → Addr} {L : Nat} {H : Hp} {X : Cx} {e : Expr} {call : Nat → List PV → Store → Res PV} {m : ME}
/-- the reading of a comparison's two operands -/
theorem cmp_imp {a b : ME} {f : PV → PV → Store → Option Bool} (σ : L2.St) (H : Hp) (Q : Bool → Hp → Prop)
    (q : ∃ μ env st k st', Ok X.K μ st H ∧ RE X.K μ st.length H env σ ∧ ((ev call a .use env st).bind fun x st1 => (ev call b .use env st1).bind fun y st2 => (opt (f x y st2) st2).bind fun k st3 => Res.ok (PV.bl k) st3) = Res.ok (PV.bl k) st' ∧
      ∀ μ' H', Stp μ st.length H μ' st'.length H' → Ok X.K μ' st' H' → Q k H') :
    tOp (rC X.K f) (rdU X.K (ev call a .use)) (rdU X.K (ev call b .use)) σ H fun v H' => ∃ k, v = .bl k ∧ Q k H' := by
  obtain ⟨μ, env, st, k, st', o, r, h, g⟩ := q
  obtain ⟨x1, st1, h1, h2⟩ := bind_ok h
  obtain ⟨y1, st2, h3, h4⟩ := bind_ok h2
  obtain ⟨k1, st3, h5, h6⟩ := bind_ok h4
  obtain ⟨h7, rfl⟩ := opt_ok h5
  cases h6
  exact ⟨μ, env, st, x1, st1, o, r, h1, fun μ1 H1 x' s1 o1 r1 => ⟨μ1, env, st1, y1, _, o1, r.mono s1, h3, fun μ2 H2 y' s2 o2 r2 => ⟨μ2, _, x1, y1, _, o2, r1.mono0 s2, r2, h7, _, rfl, g μ2 H2 (Stp.trans s1 s2) o2⟩⟩⟩
/-- a value that is a bool, from the wish of a bool -/
theorem rd_bl {core : En → Store → Res PV} {t : TE} (hb : ∀ env st v st', core env st = .ok v st' → ∃ k, v = .bl k)
    (i : ∀ σ H (Q : Bool → Hp → Prop), rdT K core σ H Q → t σ H fun v H' => ∃ k, v = .bl k ∧ Q k H') (mono : ∀ σ H (Q Q' : VK), (∀ v H', Q v H' → Q' v H') → t σ H Q → t σ H Q') : ∀ σ H Q, rd K core σ H Q → t σ H Q := fun σ H Q ⟨μ, env, st, v, st', o, r, h, g⟩ => by
  obtain ⟨k, rfl⟩ := hb env st v st' h
  refine mono σ H _ _ (fun v H' ⟨k', e, q⟩ => ?_) (i σ H (fun k' H' => Q (.bl k') H') ⟨μ, env, st, k, st', o, r, h, fun μ' H' s o' => g μ' H' _ s o' (.bl k) trivial⟩)
  subst e
  exact q
theorem rdU_mono {core : En → Store → Res PV} (σ : L2.St) (H : Hp) (Q Q' : VK) (i : ∀ v H', Q v H' → Q' v H') : rdU K core σ H Q → rdU K core σ H Q' := fun ⟨μ, env, st, v, st', o, r, h, g⟩ => ⟨μ, env, st, v, st', o, r, h, fun μ' H' v' s o' r' => i _ _ (g μ' H' v' s o' r')⟩
theorem rC_mono {f : PV → PV → Store → Option Bool} (x y : V) (H : Hp) (Q Q' : VK) (i : ∀ v H', Q v H' → Q' v H') : rC K f x y H Q → rC K f x y H Q' := fun ⟨μ, st, a, b, k, o, r1, r2, h, g⟩ => ⟨μ, st, a, b, k, o, r1, r2, h, i _ _ g⟩
theorem cmp_bl {a b : ME} {f : PV → PV → Store → Option Bool} (env : En) (st : Store) (v : PV) (st' : Store) (h : ((ev call a .use env st).bind fun x st1 => (ev call b .use env st1).bind fun y st2 => (opt (f x y st2) st2).bind fun k st3 => Res.ok (PV.bl k) st3) = Res.ok v st') : ∃ k, v = PV.bl k := by
  obtain ⟨x1, st1, h1, h2⟩ := bind_ok h
  obtain ⟨y1, st2, h3, h4⟩ := bind_ok h2
  obtain ⟨k1, st3, h5, h6⟩ := bind_ok h4
  cases h6
  exact ⟨k1, rfl⟩
theorem se_cmp (hu : X.A.units + 64 < cLine) {o : COp} {a b : ME} {x y : Expr} {pos : Pos} (ha : SE X call a x) (hb : SE X call b y) (hm : behindInMarks (cop o) y = false) : SE X call (.cmp o a b) (.Compare x [cop o] [y] pos) := by
  refine .bool ?_ (fun env st => by rw [ev, ev]) ?_
  · refine (pe_cmpR (op_cmp hu o) ha.use hb.use hm).imp ?_
    refine rd_bl (fun env st v st' h => by rw [ev] at h; exact cmp_bl env st v st' h) (fun σ H Q ⟨μ, env, st, k, st', o, r, h, g⟩ => by rw [ev] at h; exact cmp_imp σ H Q ⟨μ, env, st, k, st', o, r, h, g⟩) ?_
    exact fun σ H Q Q' i q => rdU_mono σ H _ _ (fun x' H1 q1 => rdU_mono σ H1 _ _ (fun y' H2 q2 => rC_mono x' y' H2 Q Q' i q2) q1) q
  · exact (pt_cmpR (op_cmp hu o) ha.use hb.use hm).imp fun σ H Q ⟨μ, env, st, k, st', o, r, h, g⟩ => by
      rw [ev] at h
      exact cmp_imp σ H Q ⟨μ, env, st, k, st', o, r, h, g⟩

/-- a < b < c -/
theorem cmp2_imp {a b c : ME} {f f' : PV → PV → Store → Option Bool} (σ : L2.St) (H : Hp) (Q : Bool → Hp → Prop)
    (q : ∃ μ env st k st', Ok X.K μ st H ∧ RE X.K μ st.length H env σ ∧ ((ev call a .use env st).bind fun x st1 => (ev call b .use env st1).bind fun y st2 => (opt (f x y st2) st2).bind fun k st3 =>
      if k then (ev call c .use env st3).bind fun z st4 => (opt (f' y z st4) st4).bind fun k' st5 => Res.ok (PV.bl k') st5 else Res.ok (PV.bl false) st3) = Res.ok (PV.bl k) st' ∧
      ∀ μ' H', Stp μ st.length H μ' st'.length H' → Ok X.K μ' st' H' → Q k H') :
    tChain (rC X.K f) (rC X.K f') (rdU X.K (ev call a .use)) (rdU X.K (ev call b .use)) (rdU X.K (ev call c .use)) σ H fun v H' => ∃ k, v = .bl k ∧ Q k H' := by
  obtain ⟨μ, env, st, k, st', o, r, h, g⟩ := q
  obtain ⟨x1, st1, h1, h2⟩ := bind_ok h
  obtain ⟨y1, st2, h3, h4⟩ := bind_ok h2
  obtain ⟨k1, st3, h5, h6⟩ := bind_ok h4
  obtain ⟨h7, rfl⟩ := opt_ok h5
  refine ⟨μ, env, st, x1, st1, o, r, h1, fun μ1 H1 x' s1 o1 r1 => ⟨μ1, env, st1, y1, st2, o1, r.mono s1, h3, fun μ2 H2 y' s2 o2 r2 => ⟨μ2, st2, x1, y1, k1, o2, r1.mono0 s2, r2, h7, k1, rfl, ?_⟩⟩⟩
  cases k1 with
  | false =>
    cases h6
    exact iteF ⟨false, rfl, g μ2 H2 (Stp.trans s1 s2) o2⟩
  | true =>
    obtain ⟨z1, st4, h8, h9⟩ := bind_ok h6
    obtain ⟨k2, st5, h10, h11⟩ := bind_ok h9
    obtain ⟨h12, rfl⟩ := opt_ok h10
    cases h11
    exact iteT ⟨μ2, env, _, z1, _, o2, r.mono (Stp.trans s1 s2), h8, fun μ3 H3 z' s3 o3 r3 => ⟨μ3, _, y1, z1, _, o3, r2.mono0 s3, r3, h12, _, rfl, g μ3 H3 (Stp.trans s1 (Stp.trans s2 s3)) o3⟩⟩
theorem cmp2_bl {a b c : ME} {f f' : PV → PV → Store → Option Bool} (env : En) (st : Store) (v : PV) (st' : Store) (h : ((ev call a .use env st).bind fun x st1 => (ev call b .use env st1).bind fun y st2 => (opt (f x y st2) st2).bind fun k st3 =>
      if k then (ev call c .use env st3).bind fun z st4 => (opt (f' y z st4) st4).bind fun k' st5 => Res.ok (PV.bl k') st5 else Res.ok (PV.bl false) st3) = Res.ok v st') : ∃ k, v = PV.bl k := by
  obtain ⟨x1, st1, h1, h2⟩ := bind_ok h
  obtain ⟨y1, st2, h3, h4⟩ := bind_ok h2
  obtain ⟨k1, st3, h5, h6⟩ := bind_ok h4
  cases k1 with
  | false => cases h6; exact ⟨false, rfl⟩
  | true =>
    obtain ⟨z1, st4, h8, h9⟩ := bind_ok h6
    obtain ⟨k2, st5, h10, h11⟩ := bind_ok h9
    cases h11
    exact ⟨k2, rfl⟩
theorem se_cmp2 (hu : X.A.units + 64 < cLine) {o o' : COp} {a b c : ME} {x y z : Expr} {pos : Pos} (ha : SE X call a x) (hb : SE X call b y) (hc : SE X call c z) (hm : lastMarks [cop o, cop o'] [y, z] = false) :
    SE X call (.cmp2 o o' a b c) (.Compare x [cop o, cop o'] [y, z] pos) := by
  refine .bool ?_ (fun env st => by rw [ev, ev]) ?_
  · refine (pe_chain (op_cmp hu o) (op_cmp hu o') ha.use hb.use hc.use hm).imp ?_
    refine rd_bl (fun env st v st' h => by rw [ev] at h; exact cmp2_bl env st v st' h) (fun σ H Q ⟨μ, env, st, k, st', o, r, h, g⟩ => by rw [ev] at h; exact cmp2_imp σ H Q ⟨μ, env, st, k, st', o, r, h, g⟩) ?_
    refine fun σ H Q Q' i q => rdU_mono σ H _ _ (fun x' H1 q1 => rdU_mono σ H1 _ _ (fun y' H2 q2 => rC_mono x' y' H2 _ _ (fun v H3 ⟨k, e, q3⟩ => ⟨k, e, ?_⟩) q2) q1) q
    cases k with
    | false => exact iteF (i _ _ (by simpa using q3))
    | true => exact iteT (rdU_mono σ H3 _ _ (fun z' H4 q4 => rC_mono y' z' H4 _ _ i q4) (by simpa using q3))
  · exact (pt_chain (op_cmp hu o) (op_cmp hu o') ha.use hb.use hc.use hm).imp fun σ H Q ⟨μ, env, st, k, st', o, r, h, g⟩ => by
      rw [ev] at h
      exact cmp2_imp σ H Q ⟨μ, env, st, k, st', o, r, h, g⟩

/-! ### not, and, or, if -/
theorem ev_not1 {a : ME} {env : En} {st : Store} : ev call (.not a) .test env st = (ev call a .test env st).bind fun x st1 => (opt (isBl x) st1).bind fun k st2 => .ok (.bl (!k)) st2 := rfl
theorem ev_not2 {a : ME} {env : En} {st : Store} : ev call (.not a) .val env st = (ev call a .use env st).bind fun x st1 => (opt (truth x st1) st1).bind fun k st2 => .ok (.bl (!k)) st2 := rfl
theorem ev_not3 {a : ME} {env : En} {st : Store} : ev call (.not a) .use env st = (ev call a .use env st).bind fun x st1 => (opt (truth x st1) st1).bind fun k st2 => .ok (.bl (!k)) st2 := rfl
theorem se_not {a : ME} {x : Expr} {pos : Pos} (ha : SE X call a x) : SE X call (.not a) (.UnaryOp .Not x pos) := by
  refine .bool ((pe_notT ha.use).imp fun σ H Q ⟨μ, env, st, v, st', o, r, h, g⟩ => ?_) (fun env st => ev_not3.trans ev_not2.symm) ((pt_not ha.test).imp fun σ H Q ⟨μ, env, st, k, st', o, r, h, g⟩ => ?_)
  · rw [ev_not2] at h
    obtain ⟨x1, st1, h1, h2⟩ := bind_ok h
    obtain ⟨k1, st2, h3, h4⟩ := bind_ok h2
    obtain ⟨h5, rfl⟩ := opt_ok h3
    cases h4
    exact ⟨μ, env, st, x1, _, o, r, h1, fun μ1 H1 x' s1 o1 r1 => ⟨k1, truth_at o1 r1 h5, g μ1 H1 _ s1 o1 (.bl _) trivial⟩⟩
  · rw [ev_not1] at h
    obtain ⟨x1, st1, h1, h2⟩ := bind_ok h
    obtain ⟨k1, st2, h3, h4⟩ := bind_ok h2
    obtain ⟨h5, rfl⟩ := opt_ok h3
    cases isBl_ok h5
    cases h4
    exact ⟨μ, env, st, k1, _, o, r, h1, g⟩
/-- a chain of and, or: its test whatever its whole is -/
structure SB (X : Cx) (call : Nat → List PV → Store → Res PV) (m : ME) (e : Expr) : Prop where
  val : PE X e (rd X.K (ev call m .val))
  use : PE X e (rdU X.K (ev call m .use))
  test : PW X e (rdT X.K (ev call m .test))
theorem SB.se {m : ME} {e : Expr} (h : SB X call m e) : SE X call m e := ⟨h.val, h.use, h.test.pt⟩
theorem SE.one {m : ME} {x : Expr} {op : BoolOp} {pos : Pos} (h : SE X call m x) : SB X call m (.BoolOp op [x] pos) := by
  refine ⟨pe_one h.val, pe_one h.use, ?_⟩
  cases op with
  | And => exact pw_and1 h.test
  | Or => exact pw_or1 h.test
theorem sb_and {a b : ME} {x y : Expr} {ys : List Expr} {pos : Pos} (ha : SE X call a x) (hb : SB X call b (.BoolOp .And (y :: ys) pos)) : SB X call (.and a b) (.BoolOp .And (x :: y :: ys) pos) := by
  refine ⟨(pe_and ha.val hb.val).imp fun σ H Q ⟨μ, env, st, v, st', o, r, h, g⟩ => ?_, (pe_and ha.use hb.use).imp fun σ H Q ⟨μ, env, st, v, st', o, r, h, g⟩ => ?_, (pw_and ha.test hb.test).imp fun σ H Q ⟨μ, env, st, k, st', o, r, h, g⟩ => ?_⟩
  all_goals
    rw [ev] at h
    obtain ⟨x1, st1, h1, h2⟩ := bind_ok h
    obtain ⟨k1, st2, h3, h4⟩ := bind_ok h2
    obtain ⟨h5, rfl⟩ := opt_ok h3
    cases isBl_ok h5
  · refine ⟨μ, env, st, _, _, o, r, h1, fun μ1 H1 x' s1 o1 r1 _ => ?_⟩
    cases r1
    refine ⟨k1, rfl, ?_⟩
    cases k1 with
    | true => exact iteT ⟨μ1, env, _, v, st', o1, r.mono s1, h4, fun μ2 H2 v' s2 o2 r2 f2 => g μ2 H2 v' (Stp.trans s1 s2) o2 r2 (f2.back s1)⟩
    | false => cases h4; exact iteF (g μ1 H1 _ s1 o1 (.bl _) trivial)
  · refine ⟨μ, env, st, _, _, o, r, h1, fun μ1 H1 x' s1 o1 r1 => ?_⟩
    cases r1
    refine ⟨k1, rfl, ?_⟩
    cases k1 with
    | true => exact iteT ⟨μ1, env, _, v, st', o1, r.mono s1, h4, fun μ2 H2 v' s2 o2 r2 => g μ2 H2 v' (Stp.trans s1 s2) o2 r2⟩
    | false => cases h4; exact iteF (g μ1 H1 _ s1 o1 (.bl _))
  · refine ⟨μ, env, st, k1, _, o, r, h1, fun μ1 H1 s1 o1 => ?_⟩
    cases k1 with
    | true => exact iteT ⟨μ1, env, _, k, st', o1, r.mono s1, h4, fun μ2 H2 s2 o2 => g μ2 H2 (Stp.trans s1 s2) o2⟩
    | false => cases h4; exact iteF (g μ1 H1 s1 o1)
theorem sb_or {a b : ME} {x y : Expr} {ys : List Expr} {pos : Pos} (ha : SE X call a x) (hb : SB X call b (.BoolOp .Or (y :: ys) pos)) : SB X call (.or a b) (.BoolOp .Or (x :: y :: ys) pos) := by
  refine ⟨(pe_or ha.val hb.val).imp fun σ H Q ⟨μ, env, st, v, st', o, r, h, g⟩ => ?_, (pe_or ha.use hb.use).imp fun σ H Q ⟨μ, env, st, v, st', o, r, h, g⟩ => ?_, (pw_or ha.test hb.test).imp fun σ H Q ⟨μ, env, st, k, st', o, r, h, g⟩ => ?_⟩
  all_goals
    rw [ev] at h
    obtain ⟨x1, st1, h1, h2⟩ := bind_ok h
    obtain ⟨k1, st2, h3, h4⟩ := bind_ok h2
    obtain ⟨h5, rfl⟩ := opt_ok h3
    cases isBl_ok h5
  · refine ⟨μ, env, st, _, _, o, r, h1, fun μ1 H1 x' s1 o1 r1 _ => ?_⟩
    cases r1
    refine ⟨k1, rfl, ?_⟩
    cases k1 with
    | false => exact iteF ⟨μ1, env, _, v, st', o1, r.mono s1, h4, fun μ2 H2 v' s2 o2 r2 f2 => g μ2 H2 v' (Stp.trans s1 s2) o2 r2 (f2.back s1)⟩
    | true => cases h4; exact iteT (g μ1 H1 _ s1 o1 (.bl _) trivial)
  · refine ⟨μ, env, st, _, _, o, r, h1, fun μ1 H1 x' s1 o1 r1 => ?_⟩
    cases r1
    refine ⟨k1, rfl, ?_⟩
    cases k1 with
    | false => exact iteF ⟨μ1, env, _, v, st', o1, r.mono s1, h4, fun μ2 H2 v' s2 o2 r2 => g μ2 H2 v' (Stp.trans s1 s2) o2 r2⟩
    | true => cases h4; exact iteT (g μ1 H1 _ s1 o1 (.bl _))
  · refine ⟨μ, env, st, k1, _, o, r, h1, fun μ1 H1 s1 o1 => ?_⟩
    cases k1 with
    | false => exact iteF ⟨μ1, env, _, k, st', o1, r.mono s1, h4, fun μ2 H2 s2 o2 => g μ2 H2 (Stp.trans s1 s2) o2⟩
    | true => cases h4; exact iteT (g μ1 H1 s1 o1)

/-! ### arguments and displays -/
/-- an argument list's two readings -/
structure SA (X : Cx) (call : Nat → List PV → Store → Res PV) (as : MEs) (es : List Expr) : Prop where
  kept : PA X es (rdA X.K (evA call as))
  used : PA X es (rdC X.K (evCs call as))
theorem sa_nil : SA X call .nil [] := by
  refine ⟨pa_nil.imp fun σ H Q ⟨μ, env, st, v, st', o, r, h, g⟩ => ?_, pa_nil.imp fun σ H Q ⟨μ, env, st, v, st', o, r, h, g⟩ => ?_⟩
  · rw [evA] at h; cases h
    exact g μ H [] StX.refl o .nil
  · rw [evCs] at h; cases h
    exact g μ H [] StX.refl o .nil
theorem sa_cons {a : ME} {as : MEs} {x : Expr} {xs : List Expr} (ha : SE X call a x) (hs : SA X call as xs) (he : starEach (x :: xs) X.env = (false, eval x X.env) :: starEach xs X.env) : SA X call (.cons a as) (x :: xs) := by
  refine ⟨(pa_cons ha.val hs.kept he).imp fun σ H Q ⟨μ, env, st, v, st', o, r, h, g⟩ => ?_, (pa_cons ha.use hs.used he).imp fun σ H Q ⟨μ, env, st, v, st', o, r, h, g⟩ => ?_⟩
  · rw [evA] at h
    obtain ⟨x1, st1, h1, h2⟩ := bind_ok h
    obtain ⟨y1, st2, h3, h4⟩ := bind_ok h2
    cases h4
    refine ⟨μ, env, st, x1, st1, o, r, h1, fun μ1 H1 x' s1 o1 r1 f1 => ?_⟩
    obtain ⟨μe, se, oe, re, fe, _⟩ := Ok.esc s1 o1 r1 f1
    exact ⟨μe, env, _, y1, st', oe, r.mono se, h3, fun μ2 H2 ys s2 o2 r2 => g μ2 H2 _ (Stp.trans se s2) o2 (.cons fe (re.mono0 s2) r2)⟩
  · rw [evCs] at h
    obtain ⟨x1, st1, h1, h2⟩ := bind_ok h
    obtain ⟨y1, st2, h3, h4⟩ := bind_ok h2
    cases h4
    exact ⟨μ, env, st, x1, st1, o, r, h1, fun μ1 H1 x' s1 o1 r1 => ⟨μ1, env, st1, y1, st', o1, r.mono s1, h3, fun μ2 H2 ys s2 o2 r2 => g μ2 H2 _ (Stp.trans s1 s2) o2 (.cons (r1.mono0 s2) r2)⟩⟩
/-- a starred item -/
theorem pi_star {a : ME} {as : MEs} {x : Expr} {xs : List Expr} {p : Pos} (ha : SE X call a x) (hs : PA X xs (rdA X.K (evI call as))) (he : starEach (.Starred x p :: xs) X.env = (true, eval x X.env) :: starEach xs X.env) : PA X (.Starred x p :: xs) (rdA X.K (evI call (.cons (.star a) as))) := by
  refine (_root_.StX.pa_star ha.use hs he).imp fun σ H Q ⟨μ, env, st, v, st', o, r, h, g⟩ => ?_
  rw [evI] at h
  obtain ⟨x1, st1, h1, h2⟩ := bind_ok h
  obtain ⟨ys, st2, h3, h4⟩ := bind_ok h2
  obtain ⟨h5, rfl⟩ := opt_ok h3
  obtain ⟨zs, st3, h6, h7⟩ := bind_ok h4
  cases h7
  refine ⟨μ, env, st, x1, st1, o, r, h1, fun μ1 H1 x' s1 o1 r1 => ?_⟩
  obtain ⟨q, vs, rfl, hq, rv⟩ := seq_at o1 r1 h5
  exact ⟨q, vs, rfl, hq.symm, μ1, env, st1, zs, st', o1, r.mono s1, h6, fun μ2 H2 ws s2 o2 r2 => g μ2 H2 _ (Stp.trans s1 s2) o2 (RVs.app (RVs.mono s2 rv) r2)⟩
theorem pi_nil : PA X [] (rdA X.K (evI call .nil)) := pa_nil.imp fun σ H Q ⟨μ, env, st, v, st', o, r, h, g⟩ => by
  rw [evI] at h; cases h
  exact g μ H [] StX.refl o .nil
theorem pi_cons {a : ME} {as : MEs} {x : Expr} {xs : List Expr} (hn : ∀ b, a ≠ .star b) (ha : SE X call a x) (hs : PA X xs (rdA X.K (evI call as))) (he : starEach (x :: xs) X.env = (false, eval x X.env) :: starEach xs X.env) : PA X (x :: xs) (rdA X.K (evI call (.cons a as))) := by
  refine (pa_cons ha.val hs he).imp fun σ H Q ⟨μ, env, st, v, st', o, r, h, g⟩ => ?_
  rw [evI.eq_3 _ _ _ _ _ (fun b e => hn b e)] at h
  obtain ⟨x1, st1, h1, h2⟩ := bind_ok h
  obtain ⟨y1, st2, h3, h4⟩ := bind_ok h2
  cases h4
  refine ⟨μ, env, st, x1, st1, o, r, h1, fun μ1 H1 x' s1 o1 r1 f1 => ?_⟩
  obtain ⟨μe, se, oe, re, fe, _⟩ := Ok.esc s1 o1 r1 f1
  exact ⟨μe, env, _, y1, st', oe, r.mono se, h3, fun μ2 H2 ys s2 o2 r2 => g μ2 H2 _ (Stp.trans se s2) o2 (.cons fe (re.mono0 s2) r2)⟩
theorem se_tupS {as : MEs} {es : List Expr} {k : Nat} {pos : Pos} (hs : PA X es (rdA X.K (evI call as))) : SE X call (.tupS as) (.Tuple es k pos) := by
  refine .plain (fun env st => (evI call as env st).bind fun xs st1 => if xs.length ≤ sizeLine then .ok (.tup xs) st1 else .bad) ((pe_tup hs).imp fun σ H Q ⟨μ, env, st, v, st', o, r, h, g⟩ => ?_) (fun md env st => ?_) fun _ => rfl
  · obtain ⟨xs, st1, h1, h2⟩ := bind_ok h
    split at h2
    · rename_i hz
      cases h2
      refine ⟨μ, env, st, xs, st', o, r, h1, fun μ1 H1 vs s1 o1 r1 => ⟨by rw [← r1.len]; exact hz, fun p hp => ?_⟩⟩
      exact g μ1 _ _ (Stp.trans s1 (Stp.laid hp)) (o1.laid hp) (.tup (SqT.of upd_same) (RVs.mono (Stp.laid hp) r1)) trivial
    · cases h2
  · rw [ev, bind_assoc]
    congr 1
    funext xs st1
    split <;> rfl
theorem se_tup {as : MEs} {es : List Expr} {k : Nat} {pos : Pos} (hs : SA X call as es) : SE X call (.tup as) (.Tuple es k pos) := by
  refine .plain (fun env st => (evA call as env st).bind fun xs st1 => if xs.length ≤ sizeLine then .ok (.tup xs) st1 else .bad) ((pe_tup hs.kept).imp fun σ H Q ⟨μ, env, st, v, st', o, r, h, g⟩ => ?_) (fun md env st => ?_) fun _ => rfl
  · obtain ⟨xs, st1, h1, h2⟩ := bind_ok h
    split at h2
    · rename_i hz
      cases h2
      refine ⟨μ, env, st, xs, st', o, r, h1, fun μ1 H1 vs s1 o1 r1 => ⟨by rw [← r1.len]; exact hz, fun p hp => ?_⟩⟩
      exact g μ1 _ _ (Stp.trans s1 (Stp.laid hp)) (o1.laid hp) (.tup (SqT.of upd_same) (RVs.mono (Stp.laid hp) r1)) trivial
    · cases h2
  · rw [ev, bind_assoc]
    congr 1
    funext xs st1
    split <;> rfl
theorem se_lst {as : MEs} {es : List Expr} {pos : Pos} (hs : SA X call as es) : SE X call (.lst as) (.List es pos) := by
  refine .plain (fun env st => (evA call as env st).bind fun xs st1 => if xs.length ≤ sizeLine then .ok (.fl xs) st1 else .bad) ((pe_lst hs.kept).imp fun σ H Q ⟨μ, env, st, v, st', o, r, h, g⟩ => ?_) (fun md env st => ?_) fun _ => rfl
  · obtain ⟨xs, st1, h1, h2⟩ := bind_ok h
    split at h2
    · rename_i hz
      cases h2
      refine ⟨μ, env, st, xs, st', o, r, h1, fun μ1 H1 vs s1 o1 r1 => ⟨by rw [← r1.len]; exact hz, fun p hp => ?_⟩⟩
      exact g μ1 _ _ (Stp.trans s1 (Stp.laid hp)) (o1.laid hp) (.fl upd_same (o1.apart hp) (RVs.mono (Stp.laid hp) r1)) (s1.there _ hp)
    · cases h2
  · rw [ev, bind_assoc]
    congr 1
    funext xs st1
    split <;> rfl

/-! ### calls of built-ins -/
theorem se_bi {f : BF} {as : MEs} {es : List Expr} {g : Expr} (hs : SA X call as es) (h : ∀ {r : List V → Hp → VK → Prop} {t : TA}, CallR X (bfn f) r → PA X es t → PE X g (tCB r t)) (hc : X.calm = true) (hG : f = .reprD → X.A.guards = some [] ∧ X.A.units + 200 < cLine)
    (he : ∀ whole, isTrue g X.env whole = (do let v ← whole; standAt g.pos; holding [v] (truthy v))) : SE X call (.bi f as) g := by
  refine .plain (fun env st => (evCs call as env st).bind fun xs st1 => opt (biV f xs st1) st1) ((h (op_bi hc f hG) hs.used).imp fun σ H Q ⟨μ, env, st, v, st', o, r, h, g⟩ => ?_) (fun md env st => by rw [ev, bind_assoc]) he
  obtain ⟨xs, st1, h1, h2⟩ := bind_ok h
  obtain ⟨h3, rfl⟩ := opt_ok h2
  exact ⟨μ, env, st, xs, _, o, r, h1, fun μ1 H1 vs s1 o1 r1 => ⟨μ1, _, xs, v, o1, r1, h3, fun H2 v' s2 o2 r2 f2 => g μ1 H2 v' (Stp.trans s1 s2) o2 r2 (f2.back s1)⟩⟩
/-! ### isinstance -/
theorem ty_of {K : PySem.W.Frag} {μ : Nat → Addr} {st : Store} {H : Hp} {x : PV} {v : V} (o : Ok K μ st H) (r : RV K μ st.length H x v) : ∃ t' : Value, TyX K H v t' ∧ ∀ t : Ty, PySem.W.kitOne K t' (.type (tstr t)) = some (isiV t x) := by
  cases r with
  | non => exact ⟨_, .base .non, fun t => by cases t <;> exact kit_ty (by simp only [tstr, isiV]; decide +kernel)⟩
  | bl b => exact ⟨_, .base (.bl b), fun t => by cases t <;> exact kit_ty (by simp only [tstr, isiV]; decide +kernel)⟩
  | int i => exact ⟨_, .base (.int i), fun t => by cases t <;> exact kit_ty (by simp only [tstr, isiV]; decide +kernel)⟩
  | str s => exact ⟨_, .base (.str s), fun t => by cases t <;> exact kit_ty (by simp only [tstr, isiV]; decide +kernel)⟩
  | @tup xs a vs h r =>
    have hk : ∀ t : Ty, PySem.W.kitOne K (.type "tuple") (.type (tstr t)) = some (isiV t (.tup xs)) := fun t => by cases t <;> exact kit_ty (by simp only [tstr, isiV]; decide +kernel)
    rcases h with (h | ⟨ob, h⟩) | ⟨ob, _, _, h, c, _⟩
    · exact ⟨_, .base (.tup h), hk⟩
    · exact ⟨_, .fTuple h, hk⟩
    · exact ⟨_, .kTuple h c, hk⟩
  | @loc n h =>
    obtain ⟨vs, h, _⟩ : ∃ vs, H (μ n) = some (.lst vs) ∧ True := by
      have e : st[n]? = some st[n] := by simp [h]
      rcases q : st[n] with ⟨xs⟩
      rw [q] at e
      obtain ⟨vs, h, _⟩ := o.cell n xs e
      exact ⟨vs, h, trivial⟩
    exact ⟨_, .base (.lst h), fun t => by cases t <;> exact kit_ty (by simp only [tstr, isiV]; decide +kernel)⟩
  | fl h n r => exact ⟨_, .base (.lst h), fun t => by cases t <;> exact kit_ty (by simp only [tstr, isiV]; decide +kernel)⟩
  | @rol xs a vs h r =>
    have hk : ∀ t : Ty, PySem.W.kitOne K (.type "list") (.type (tstr t)) = some (isiV t (.rol xs)) := fun t => by cases t <;> exact kit_ty (by simp only [tstr, isiV]; decide +kernel)
    rcases h with ⟨ob, h⟩ | ⟨ob, _, _, h, c, _⟩
    · exact ⟨_, .base (.frz h), hk⟩
    · exact ⟨_, .kList h c, hk⟩
theorem se_isi {t : Ty} {a : ME} {x : Expr} {p p2 pos : Pos} (ha : SE X call a x) (hg : Gl X "isinstance") (hm : X.mg "isinstance" = none) (hg2 : Gl X (tname t)) (hm2 : X.mg (tname t) = none) (hx : starEach (x :: [.Name (tname t) p2]) X.env = (false, eval x X.env) :: starEach [.Name (tname t) p2] X.env) : SE X call (.isi t a) (.Call (.Name "isinstance" p) [x, .Name (tname t) p2] [] pos) := by
  have pt : PE X (.Name (tname t) p2) (tC (.ty (tstr t))) := by cases t <;> exact pe_bltn hg2 hm2 (by decide +kernel) rfl
  have pa : PA X [x, .Name (tname t) p2] (tCons (rdU X.K (ev call a .use)) (tCons (tC (.ty (tstr t))) tNil)) := pa_cons ha.use (pa_cons pt pa_nil rfl) hx
  refine .plain (fun env st => (ev call a .use env st).bind fun x st1 => .ok (.bl (isiV t x)) st1) ((pe_callB call_isi hg hm (by decide +kernel) pa (by decide) (by decide) hx rfl).imp fun σ H Q ⟨μ, env, st, v, st', o, r, h, g⟩ => ?_) (fun md env st => by rw [ev, bind_assoc]; rfl) fun _ => rfl
  obtain ⟨x1, st1, h1, h2⟩ := bind_ok h
  cases h2
  refine ⟨μ, env, st, x1, _, o, r, h1, fun μ1 H1 x' s1 o1 r1 => ?_⟩
  obtain ⟨t', c1, c2⟩ := ty_of o1 r1
  exact ⟨x', .ty (tstr t), t', _, isiV t x1, rfl, .ty _, c1, c2 t, g μ1 H1 (.bl _) s1 o1 (.bl _) trivial⟩
/-! ### max with a default -/
theorem se_mxd {a : ME} {d : Int} {x : Expr} {p p2 p3 pos : Pos} {j : Nat} (ha : SE X call a x) (hc : X.calm = true) (hu : X.A.units + 10 < cLine) (hg : Gl X "max") (hm : X.mg "max" = none) (hx : starEach [x] X.env = (false, eval x X.env) :: starEach [] X.env) : SE X call (.mxd a d) (.Call (.Name "max" p) [x] [⟨some (Str.ofString "default"), .Constant (.int d) j p2, p3⟩] pos) := by
  have pa : PA X [x] (tCons (rdU X.K (ev call a .use)) tNil) := pa_cons ha.use pa_nil hx
  have pk : PK X [⟨some (Str.ofString "default"), .Constant (.int d) j p2, p3⟩] (tCons (tC (.int d)) tNil) := pk_cons pe_int pk_nil
  have hb : backTo pos (starEach [x] X.env) = (false, eval x X.env) :: backTo pos (starEach [] X.env) := by rw [hx]; rfl
  have hb2 : (backTo pos (starEach [x] X.env)).any (·.1) = false := by rw [hx]; rfl
  refine .plain (fun env st => (ev call a .use env st).bind fun x st1 => opt (maxdV d x st1) st1) ((pe_callBK (call_maxD hc hu) hg hm (by decide +kernel) pa pk (by decide) (by decide) hb hb2 rfl rfl rfl).imp fun σ H Q ⟨μ, env, st, v, st', o, r, h, g⟩ => ?_) (fun md env st => by simp only [ev, bind_assoc]) fun _ => rfl
  obtain ⟨x1, st1, h1, h2⟩ := bind_ok h
  obtain ⟨h3, rfl⟩ := opt_ok h2
  refine ⟨μ, env, st, x1, _, o, r, h1, fun μ1 H1 x' s1 o1 r1 => ?_⟩
  unfold maxdV at h3
  split at h3
  · rename_i xs' hr
    obtain ⟨q, vs, rfl, hq, rs⟩ := rd_at o1 r1 hr
    split at h3
    · rename_i hn
      cases h3
      have e := ints_at rs hn
      subst e
      exact ⟨q, [], d, rfl, rfl, hq, fun _ => g μ1 H1 (.int d) s1 o1 (.int _) trivial, fun n r z => by cases z⟩
    · rename_i n r hn
      cases h3
      have e := ints_at rs hn
      subst e
      exact ⟨q, n :: r, d, rfl, rfl, hq, fun z => (by cases z), fun n' r' z => by
        cases z
        exact g μ1 H1 (.int _) s1 o1 (.int _) trivial⟩
    · cases h3
  · cases h3
/-! ### a dict of the module -/
/-- d.get(y, z), d a dict of the module -/
def tKGet (es : Array DictEntry) (ty tx : TE) : TE := fun σ H Q => ty σ H fun y H2 => tx σ H2 fun z H3 => ∃ (k : Str) (r : Option Value) (v : V), y = .str k ∧ findBy Value.isStrOf es k = r ∧ (match r with | some u => RelV v u | none => v = z) ∧ Q v H3
theorem pe_kget2 {d : Addr} {es : Array DictEntry} {n : Nat} {o e f : Expr} {apos cpos : Pos} {ty tx : TE} (D : KDict X.K X.w d es n) (ho : PE X o (tC (.ref d))) (he : PE X e ty) (hf : PE X f tx) (m : M2 X o "get" apos e f cpos) : PE X (.Call (.Attribute o "get" apos) [e, f] [] cpos) (tKGet es ty tx) := by
  refine ⟨fun pins s σ H Q I h => ?_⟩
  have h' : tC (.ref d) σ H fun x H1 => x = .ref d ∧ tKGet es ty tx σ H1 Q := ⟨rfl, h⟩
  refine wpAny_Call_method m.base m.few m.line PySem.F.plainAttrs_dict PySem.F.slot_dict_get PySem.F.type_dict_get (thn (ho.run pins s σ H _ I h') fun u s1 ⟨x, H1, I1, rx, ex, q1⟩ => ?_)
  subst ex
  obtain rfl : u = Value.ref d := rx
  refine ⟨kd_type D I1, fun b q => ?_, ?_⟩
  · cases q
    exact ⟨_, I1.kIn d _ D.at_, rfl⟩
  rw [m.trees]
  refine Calls.callWith_builtin rfl (Calls.evalArgs_plain (Calls.spliced_cons (thn (he.run pins s1 σ H1 _ I1 q1) fun iv s2 ⟨y, H2, I2, ry, q2⟩ =>
    Calls.spliced_cons (thn (hf.run pins s2 σ H2 _ I2 q2) fun fv s3 ⟨z, H3, I3, rz, k, r, v, ey, en, hv, q3⟩ => Calls.spliced_nil ?_))))
  subst ey
  obtain ⟨tk, rfl⟩ := ry
  refine call_meetsIn PySem.F.slot_dict_get (kd_type D I3) PySem.F.entry_dict_get (PySem.F.args_dict_get_3 _ _ _) (meets_dict_get_default (strKind X.prog X.w) d (PySem.strKind_is X.prog X.w k tk) D.low fv) ⟨_, PySem.W.mapOf_K (prog := X.prog) I3.kIn D.at_ D.lit, ?_⟩
  rw [en]
  cases r with
  | some u0 => exact ⟨v, H3, I3.tok _, hv, q3⟩
  | none => subst hv; exact ⟨v, H3, I3.tok _, rz, q3⟩
/-- a written dict's entries and what they are -/
def DRel : List DictEntry → List (Str × PV) → Prop
  | [], [] => True
  | e :: r, (x, v) :: q => (∃ t w, e.key = .str x t ∧ flV v = some w ∧ RelV w e.val) ∧ DRel r q
  | _, _ => False
theorem DRel.find : ∀ {l : List DictEntry} {kvs : List (Str × PV)}, DRel l kvs → ∀ z : Str, match kvs.lookup z with
    | some v => ∃ w u, flV v = some w ∧ findBy Value.isStrOf l.toArray z = some u ∧ RelV w u
    | none => findBy Value.isStrOf l.toArray z = none
  | [], [], _, z => rfl
  | [], _ :: _, h, _ => h.elim
  | _ :: _, [], h, _ => h.elim
  | e :: r, (x, v) :: q, ⟨⟨t, w, h1, h2, h3⟩, h4⟩, z => by
    have ih := DRel.find h4 z
    have ef : findBy Value.isStrOf (e :: r).toArray z = if x == z then some e.val else findBy Value.isStrOf r.toArray z := by
      unfold findBy
      rw [List.find?_toArray, List.find?_toArray, List.find?_cons, h1]
      show Option.map _ (match x == z with | true => some e | false => List.find? _ r) = _
      cases x == z <;> rfl
    rw [List.lookup_cons]
    cases hz : z == x with
    | true =>
      have := eq_of_beq hz
      subst this
      simp only
      exact ⟨w, _, h2, by rw [ef, if_pos (beq_self_eq_true z)], h3⟩
    | false =>
      have hx : (x == z) = false := by
        cases q : x == z with
        | false => rfl
        | true => rw [eq_of_beq q, beq_self_eq_true] at hz; cases hz
      rw [ef, hx]
      exact ih
theorem flV_rv {K : PySem.W.Frag} {v : PV} {w : V} (h : flV v = some w) (μ : Nat → Addr) (L : Nat) (H : Hp) : RV K μ L H v w := by
  cases v <;> cases h
  · exact .non
  · exact .bl _
  · exact .int _
  · exact .str _
theorem se_fmt {a : ME} {x : Expr} {pos : Pos} (ha : SE X call a x) : SE X call (.fmt a) (.FormattedValue x (-1) none pos) := by
  refine .plain (fun env st => (ev call a .use env st).bind fun x st1 => opt (fmtV x) st1) ((pe_fmt ha.use).imp fun σ H Q ⟨μ, env, st, v, st', o, r, h, g⟩ => ?_) (fun md env st => by simp only [ev, bind_assoc]) fun _ => rfl
  obtain ⟨x1, st1, h1, h2⟩ := bind_ok h
  obtain ⟨h3, rfl⟩ := opt_ok h2
  refine ⟨μ, env, st, x1, _, o, r, h1, fun μ1 H1 x' s1 o1 r1 => ?_⟩
  cases r1 with
  | str z =>
    have h3 : (if z.length ≤ sizeLine then some (PV.str z) else none) = some v := h3
    split at h3
    · rename_i hz
      cases h3
      exact .inl ⟨z, rfl, hz, g μ1 H1 _ s1 o1 (.str _) trivial⟩
    · cases h3
  | int i =>
    have h3 : (if i.natAbs < 1000000 then some (PV.str (toString i)) else none) = some v := h3
    split at h3
    · rename_i hz
      cases h3
      exact .inr ⟨i, rfl, log_ok hz, g μ1 H1 _ s1 o1 (.str _) trivial⟩
    · cases h3
  | _ => cases h3
/-- parts of an f-string -/
def SJ (X : Cx) (call : Nat → List PV → Store → Res PV) (as : MEs) (es : List Expr) : Prop := ∃ ts : List TE, PJ X es ts ∧ ∀ (acc : Str) (σ : L2.St) (H : Hp) (Q : Str → Hp → Prop) (μ : Nat → Addr) (env : En) (st : Store) (xs : List PV) (out : Str) (st' : Store),
  Ok X.K μ st H → RE X.K μ st.length H env σ → evCs call as env st = .ok xs st' → glueV xs acc = some out → (∀ μ' H', Stp μ st.length H μ' st'.length H' → Ok X.K μ' st' H' → Q out H') → tJs ts acc σ H Q
theorem sj_nil : SJ X call .nil [] := ⟨[], .nil, fun acc σ H Q μ env st xs out st' o r h g k => by
  rw [evCs] at h; cases h
  cases g
  exact k μ H StX.refl o⟩
theorem sj_cons {a : ME} {as : MEs} {x : Expr} {xs : List Expr} (ha : SE X call a x) (hs : SJ X call as xs) : SJ X call (.cons a as) (x :: xs) := by
  obtain ⟨ts, p, q⟩ := hs
  refine ⟨_ :: ts, .cons ha.use p, fun acc σ H Q μ env st vs out st' o r h g k => ?_⟩
  rw [evCs] at h
  obtain ⟨x1, st1, h1, h2⟩ := bind_ok h
  obtain ⟨y1, st2, h3, h4⟩ := bind_ok h2
  cases h4
  refine ⟨μ, env, st, x1, st1, o, r, h1, fun μ1 H1 x' s1 o1 r1 => ?_⟩
  cases r1 with
  | str z =>
    have g : (if (acc ++ z).length ≤ sizeLine then glueV y1 (acc ++ z) else none) = some out := g
    split at g
    · rename_i hz
      exact ⟨z, rfl, hz, q (acc ++ z) σ H1 Q μ1 env st1 y1 out st' o1 (r.mono s1) h3 g fun μ2 H2 s2 o2 => k μ2 H2 (Stp.trans s1 s2) o2⟩
    · cases g
  | _ => cases g
theorem se_fstr {as : MEs} {x y : Expr} {r : List Expr} {pos : Pos} (hs : SJ X call as (x :: y :: r)) : SE X call (.fstr as) (.JoinedStr (x :: y :: r) pos) := by
  obtain ⟨ts, p, q⟩ := hs
  refine .plain (fun env st => (evCs call as env st).bind fun xs st1 => (opt (glueV xs Str.empty) st1).bind fun z st2 => .ok (.str z) st2) ((pe_joined p).imp fun σ H Q ⟨μ, env, st, v, st', o, r, h, g⟩ => ?_) (fun md env st => by simp only [ev, bind_assoc]; rfl) fun _ => rfl
  obtain ⟨xs, st1, h1, h2⟩ := bind_ok h
  obtain ⟨z, st2, h3, h4⟩ := bind_ok h2
  obtain ⟨h5, rfl⟩ := opt_ok h3
  cases h4
  exact q _ σ H (fun out H1 => Q (.str out) H1) μ env st xs z _ o r h1 h5 fun μ1 H1 s1 o1 => g μ1 H1 (.str z) s1 o1 (.str z) trivial
theorem ix_kd {d : Addr} {es : Array DictEntry} {n : Nat} (D : KDict X.K X.w d es n) : IxR X (fun x y H Q => ∃ z u v, x = .ref d ∧ y = .str z ∧ findBy Value.isStrOf es z = some u ∧ RelV v u ∧ Q v H) := by
  intro value slice pins s σ H x y v u Q I rx ry h hs
  obtain ⟨z, u0, r, rfl, rfl, e, ru, q⟩ := h
  obtain rfl : v = Value.ref d := rx
  obtain ⟨t, rfl⟩ := ry
  have hm := PySem.W.mapOf_K (prog := X.prog) (w := X.w) I.kIn D.at_ D.lit
  exact tail_any hm.typeIs PySem.F.slot_dict_getitem.lookup (wpAny_getItem_of (strKind_is X.prog X.w z t) hm e ⟨r, H, I.tok _, ru, q⟩) hs
theorem se_dix {x : Str} {kvs : List (Str × PV)} {a : ME} {d : Addr} {es : Array DictEntry} {n : Nat} {o e : Expr} {pos : Pos} (D : KDict X.K X.w d es n) (R : DRel es.toList kvs) (ho : PE X o (tC (.ref d)))
    (ha : SE X call a e) (hs : PlainIx e) : SE X call (.dix x kvs a) (.Subscript o e pos) := by
  refine .plain (fun env st => (ev call a .val env st).bind fun x st1 => opt (dixV kvs x) st1) ((pe_ix (ix_kd D) ho ha.val hs).imp fun σ H Q ⟨μ, env, st, v, st', o, r, h, g⟩ => ?_) (fun md env st => by simp only [ev, bind_assoc]) fun _ => rfl
  obtain ⟨x1, st1, h1, h2⟩ := bind_ok h
  obtain ⟨h3, rfl⟩ := opt_ok h2
  refine ⟨μ, env, st, x1, _, o, r, h1, fun μ1 H1 x' s1 o1 r1 _ => ?_⟩
  cases r1 with
  | str z =>
    have h3 : kvs.lookup z = some v := h3
    have q := R.find z
    rw [h3] at q
    obtain ⟨w, u, q1, q2, q3⟩ := q
    exact ⟨z, u, w, rfl, rfl, q2, q3, g μ1 H1 w s1 o1 (flV_rv q1 _ _ _) (by cases v <;> first | exact trivial | cases q1)⟩
  | _ => cases h3
theorem flV_fr {H : Hp} {v : PV} {w : V} (h : flV v = some w) : v.isFl = false := by cases v <;> first | rfl | cases h
theorem se_gget {x : Str} {kvs : List (Str × PV)} {a b : ME} {d : Addr} {es : Array DictEntry} {n : Nat} {o e f : Expr} {apos cpos : Pos} (D : KDict X.K X.w d es n) (R : DRel es.toList kvs) (ho : PE X o (tC (.ref d)))
    (ha : SE X call a e) (hb : SE X call b f) (m : M2 X o "get" apos e f cpos) : SE X call (.gget x kvs a b) (.Call (.Attribute o "get" apos) [e, f] [] cpos) := by
  refine .plain (fun env st => (ev call a .use env st).bind fun x st1 => (ev call b .val env st1).bind fun y st2 => opt (getV kvs x y) st2) ((pe_kget2 D ho ha.use hb.val m).imp fun σ H Q ⟨μ, env, st, v, st', o, r, h, g⟩ => ?_) (fun md env st => by simp only [ev, bind_assoc]) fun _ => rfl
  obtain ⟨x1, st1, h1, h2⟩ := bind_ok h
  obtain ⟨y1, st2, h3, h4⟩ := bind_ok h2
  obtain ⟨h5, rfl⟩ := opt_ok h4
  refine ⟨μ, env, st, x1, st1, o, r, h1, fun μ1 H1 x' s1 o1 r1 => ⟨μ1, env, st1, y1, _, o1, r.mono s1, h3, fun μ2 H2 y' s2 o2 r2 f2 => ?_⟩⟩
  cases r1 with
  | str z =>
    have h5 : (if y1.isFl then none else some ((kvs.lookup z).getD y1)) = some v := h5
    split at h5
    · cases h5
    · rename_i hf
      have q := R.find z
      cases hl : kvs.lookup z with
      | none =>
        rw [hl] at q h5
        cases h5
        exact ⟨z, none, y', rfl, q, rfl, g μ2 H2 y' (Stp.trans s1 s2) o2 r2 (f2.back s1)⟩
      | some v0 =>
        rw [hl] at q h5
        cases h5
        obtain ⟨w, u, q1, q2, q3⟩ := q
        exact ⟨z, some u, w, rfl, q2, q3, g μ2 H2 w (Stp.trans s1 s2) o2 (flV_rv q1 _ _ _) (by cases v0 <;> first | exact trivial | cases q1)⟩
  | _ => cases h5
end
end U

set_option maxHeartbeats 4000000
/-! U8: calls, methods, slices, what is walked. -/
namespace U
open PySem PySem.Spec PyProof.Rows L2
/-- a def's promise: what the program yields -/
def spEv (K : PySem.W.Frag) (cf : List PV → Store → Res PV) : Sp := fun vs H Q _ => ∃ μ st as v st', Ok K μ st H ∧ RVs K μ st.length H as vs ∧ cf as st = .ok v st' ∧
  ∀ μ' H' v', Stp μ st.length H μ' st'.length H' → Ok K μ' st' H' → RV K μ' st'.length H' v v' → Fr H v v' → Q v' H'
section
variable {K : PySem.W.Frag} {μ : Nat → Addr} {L : Nat} {H : Hp} {X : Cx} {e : Expr} {call : Nat → List PV → Store → Res PV} {m : ME}
theorem ev_iteV {t a b : ME} {env : En} {st : Store} : ev call (.ite t a b) .val env st = (ev call t .test env st).bind fun x st1 => (opt (isBl x) st1).bind fun k st2 => if k then ev call a .val env st2 else ev call b .val env st2 := rfl
theorem ev_iteU {t a b : ME} {env : En} {st : Store} : ev call (.ite t a b) .use env st = (ev call t .test env st).bind fun x st1 => (opt (isBl x) st1).bind fun k st2 => if k then ev call a .use env st2 else ev call b .use env st2 := rfl
/-- an own def -/
theorem se_fn {f : Nat} {as : MEs} {es : List Expr} {g : Expr} (hs : SA X call as es) (h : ∀ {t : TA}, PA X es t → PE X g (fun σ H Q => t σ H fun vs H1 => spEv X.K (call f) vs H1 Q E0))
    (he : ∀ whole, isTrue g X.env whole = (do let v ← whole; standAt g.pos; holding [v] (truthy v))) : SE X call (.fn f as) g := by
  refine .plain (fun env st => (evA call as env st).bind fun xs st1 => call f xs st1) ((h hs.kept).imp fun σ H Q ⟨μ, env, st, v, st', o, r, h, g⟩ => ?_) (fun md env st => by rw [ev, bind_assoc]) he
  obtain ⟨xs, st1, h1, h2⟩ := bind_ok h
  exact ⟨μ, env, st, xs, _, o, r, h1, fun μ1 H1 vs s1 o1 r1 => ⟨μ1, _, xs, v, st', o1, r1, h2, fun μ2 H2 v' s2 o2 r2 f2 => g μ2 H2 v' (Stp.trans s1 s2) o2 r2 (f2.back s1)⟩⟩
theorem Ok.held {st : Store} {n : Nat} (o : Ok K μ st H) (hn : n < st.length) : ∃ vs, H (μ n) = some (.lst vs) := by
  have : ∃ xs, st[n]? = some (.lst xs) := by
    rw [List.getElem?_eq_getElem hn]
    cases st[n] with
    | lst xs => exact ⟨xs, rfl⟩
  obtain ⟨zs, hz⟩ := this
  obtain ⟨vs, h1, _⟩ := o.cell n zs hz
  exact ⟨vs, h1⟩
/-- a method of a list or text -/
def mty : MF → String
  | .append => "list" | .split => "str" | .partition => "str" | .join => "str"
theorem mt_ty {f : MF} {x : PV} {xs : List PV} {st st1 st' : Store} {v : PV} {x' : V} (h : mtV f x xs st = .ok v st') (o : Ok K μ st1 H) (r : RV K μ st1.length H x x') : tyV K (mty f) x' H := by
  unfold mtV at h
  split at h
  · cases r with
    | loc hn =>
      obtain ⟨vs, h1⟩ := o.held hn
      exact .inl ⟨rfl, vs, SqL.of h1⟩
  · cases r; exact rfl
  · cases r; exact rfl
  · cases r; exact rfl
  · cases h
theorem se_mt {f : MF} {ob : ME} {as : MEs} {x : Expr} {es : List Expr} {g : Expr} (ho : SE X call ob x) (hs : SA X call as es)
    (h : ∀ {r : V → List V → Hp → VK → Prop} {to : TE} {t : TA}, MtR X (mfn f) r → PE X x to → PA X es t → PE X g (tBM X.K (mty f) r to t))
    (he : ∀ whole, isTrue g X.env whole = (do let v ← whole; standAt g.pos; holding [v] (truthy v))) : SE X call (.mt f ob as) g := by
  refine .plain (fun env st => (ev call ob .use env st).bind fun x st1 => (evCs call as env st1).bind fun xs st2 => mtV f x xs st2) ((h (op_mt f) ho.use hs.used).imp fun σ H Q ⟨μ, env, st, v, st', o, r, h, g⟩ => ?_) (fun md env st => by rw [ev]; simp only [bind_assoc]) he
  obtain ⟨x1, st1, h1, h2⟩ := bind_ok h
  obtain ⟨xs, st2, h3, h4⟩ := bind_ok h2
  exact ⟨μ, env, st, x1, st1, o, r, h1, fun μ1 H1 x' s1 o1 r1 => ⟨mt_ty h4 o1 r1, μ1, env, st1, xs, st2, o1, r.mono s1, h3, fun μ2 H2 vs s2 o2 r2 =>
    ⟨μ2, st2, x1, xs, v, st', o2, r1.mono0 s2, r2, h4, fun H3 v' s3 o3 r3 f3 => g μ2 H3 v' (Stp.trans s1 (Stp.trans s2 s3)) o3 r3 (f3.back (Stp.trans s1 s2))⟩⟩⟩
theorem strsL_strs : ∀ vs : List Str, strsL (vs.map PV.str) = some vs
  | [] => rfl
  | s :: vs => by
    show (strsL (vs.map PV.str)).map (s :: ·) = _
    rw [strsL_strs vs]; rfl
/-- CONST.index(x) -/
theorem se_gidx {x : Str} {vs : List Str} {a : ME} {z : Expr} {v' : V} {u : Value} {p apos pos : Pos} (hg : Gl X x) (hm : X.mg x = some u) (hr : RelV v' u) (h : ∀ μ L H, RV X.K μ L H (.tup (vs.map .str)) v') (hd : (x == ("__debug__" : Str)) = false)
    (hk : ∃ p o, v' = .ref p ∧ X.K.lookup p = some o ∧ o.cls = .type "tuple" ∧ o.dict = none) (ha : SE X call a z)
    (hc : ∀ {r : V → List V → Hp → VK → Prop} {to : TE} {t : TA}, MtR X "tuple.index" r → PE X (.Name x p) to → PA X [z] t → PE X (.Call (.Attribute (.Name x p) "index" apos) [z] [] pos) (tBM X.K "tuple" r to t)) (hs : starEach [z] X.env = (false, eval z X.env) :: starEach [] X.env) :
    SE X call (.gidx x vs a) (.Call (.Attribute (.Name x p) "index" apos) [z] [] pos) := by
  refine .plain (fun env st => (ev call a .use env st).bind fun y st1 => opt (idxV vs y) st1) ((hc mt_tup_index (pe_glob hg hm hr hd) (pa_cons ha.use pa_nil hs)).imp fun σ H Q ⟨μ, env, st, v, st', o, r, e, g⟩ => ?_) (fun md env st => by rw [ev]; simp only [bind_assoc]) fun _ => rfl
  obtain ⟨y, st1, h1, h2⟩ := bind_ok e
  obtain ⟨h3, rfl⟩ := opt_ok h2
  obtain ⟨q, ob, e1, e2, e3, e4⟩ := hk
  subst e1
  refine ⟨.inr (.inl ⟨rfl, ob, e2, e3, e4⟩), μ, env, st, y, st1, o, r, h1, fun μ1 H1 y' s1 o1 r1 => ?_⟩
  unfold idxV at h3
  split at h3
  · rename_i w
    cases r1
    obtain ⟨j, hj, rfl⟩ := Option.map_eq_some_iff.mp h3
    obtain ⟨hl, j1, j2⟩ := List.findIdx?_eq_some_iff_getElem.mp hj
    cases h μ1 st1.length H1 with
    | tup h4 r4 =>
      have es := strs_at r4 (strsL_strs vs)
      subst es
      refine ⟨q, vs, w, j, rfl, rfl, h4, by rw [List.getElem?_eq_getElem hl]; exact congrArg some (of_decide_eq_true j1), fun m hm e => ?_, g μ1 H1 _ s1 o1 (.int _) trivial⟩
      have hml : m < vs.length := by omega
      rw [List.getElem?_eq_getElem hml] at e
      have := j2 m hm
      rw [Option.some.inj e] at this
      simp at this
  · cases h3
/-- a slice's bounds -/
theorem po_absent {l : ME} (ha : l.absent = true) : PO X none (rdO X.K (ev call l .val) l.absent) := by
  refine po_none.imp fun σ H Q ⟨μ, env, st, v, st', b, o, r, h, hb, g⟩ => ?_
  unfold ME.absent at ha
  split at ha
  · rw [ev] at h
    cases h
    cases hb
    exact g μ H StX.refl o
  · cases ha
theorem po_there {l : ME} {x : Expr} (ha : l.absent = false) (hl : SE X call l x) : PO X (some x) (rdO X.K (ev call l .val) l.absent) := by
  refine (po_some hl.val).imp fun σ H Q ⟨μ, env, st, v, st', b, o, r, h, hb, g⟩ => ⟨μ, env, st, v, st', o, r, h, fun μ1 H1 v' s1 o1 r1 _ => ?_⟩
  rw [ha] at hb
  unfold bound at hb
  split at hb
  · contradiction
  · cases hb
    cases r1
    exact ⟨_, rfl, g μ1 H1 s1 o1⟩
  · cases hb
theorem se_sl {a lo hi : ME} {x : Expr} {l h : Option Expr} {pos p2 : Pos} (ha : SE X call a x) (hl : PO X l (rdO X.K (ev call lo .val) lo.absent)) (hh : PO X h (rdO X.K (ev call hi .val) hi.absent)) :
    SE X call (.sl a lo hi) (.Subscript x (.Slice l h none p2) pos) := by
  refine .plain (fun env st => (ev call a .use env st).bind fun x st1 => (ev call lo .val env st1).bind fun l st2 => (ev call hi .val env st2).bind fun h st3 =>
      (opt (bound lo.absent l) st3).bind fun l' st4 => (opt (bound hi.absent h) st4).bind fun h' st5 => opt (slV x l' h' st5) st5) ((pe_slice op_sl ha.use hl hh).imp fun σ H Q ⟨μ, env, st, v, st', o, r, h, g⟩ => ?_) (fun md env st => by rw [ev]; simp only [bind_assoc]) fun _ => rfl
  obtain ⟨x1, st1, h1, h2⟩ := bind_ok h
  obtain ⟨l1, st2, h3, h4⟩ := bind_ok h2
  obtain ⟨k1, st3, h5, h6⟩ := bind_ok h4
  obtain ⟨b1, st4, h7, h8⟩ := bind_ok h6
  obtain ⟨h9, rfl⟩ := opt_ok h7
  obtain ⟨b2, st5, h10, h11⟩ := bind_ok h8
  obtain ⟨h12, rfl⟩ := opt_ok h10
  obtain ⟨h13, rfl⟩ := opt_ok h11
  exact ⟨μ, env, st, x1, st1, o, r, h1, fun μ1 H1 x' s1 o1 r1 => ⟨μ1, env, st1, l1, st2, b1, o1, r.mono s1, h3, h9, fun μ2 H2 s2 o2 => ⟨μ2, env, st2, k1, _, b2, o2, r.mono (Stp.trans s1 s2), h5, h12, fun μ3 H3 s3 o3 =>
    ⟨μ3, _, x1, v, o3, r1.mono0 (Stp.trans s2 s3), h13, fun H4 v' s4 o4 r4 f4 => g μ3 H4 v' (Stp.trans s1 (Stp.trans s2 (Stp.trans s3 s4))) o4 r4 (f4.back (Stp.trans s1 (Stp.trans s2 s3)))⟩⟩⟩⟩
theorem se_ite {t a b : ME} {c x y : Expr} {pos : Pos} (ht : SE X call t c) (ha : SE X call a x) (hb : SE X call b y) (X' : PT X (.IfExp c x y pos) (fun _ _ _ => False)) : SE X call (.ite t a b) (.IfExp c x y pos) := by
  refine ⟨(pe_ifExp ht.test ha.val hb.val).imp fun σ H Q ⟨μ, env, st, v, st', o, r, h, g⟩ => ?_, (pe_ifExp ht.test ha.use hb.use).imp fun σ H Q ⟨μ, env, st, v, st', o, r, h, g⟩ => ?_, X'.imp fun σ H Q ⟨μ, env, st, v, st', o, r, h, g⟩ => ?_⟩
  · rw [ev_iteV] at h
    obtain ⟨x1, st1, h1, h2⟩ := bind_ok h
    obtain ⟨k1, st2, h3, h4⟩ := bind_ok h2
    obtain ⟨h5, rfl⟩ := opt_ok h3
    cases isBl_ok h5
    refine ⟨μ, env, st, k1, _, o, r, h1, fun μ1 H1 s1 o1 => ?_⟩
    cases k1 with
    | true => exact iteT ⟨μ1, env, _, v, st', o1, r.mono s1, h4, fun μ2 H2 v' s2 o2 r2 f2 => g μ2 H2 v' (Stp.trans s1 s2) o2 r2 (f2.back s1)⟩
    | false => exact iteF ⟨μ1, env, _, v, st', o1, r.mono s1, h4, fun μ2 H2 v' s2 o2 r2 f2 => g μ2 H2 v' (Stp.trans s1 s2) o2 r2 (f2.back s1)⟩
  · rw [ev_iteU] at h
    obtain ⟨x1, st1, h1, h2⟩ := bind_ok h
    obtain ⟨k1, st2, h3, h4⟩ := bind_ok h2
    obtain ⟨h5, rfl⟩ := opt_ok h3
    cases isBl_ok h5
    refine ⟨μ, env, st, k1, _, o, r, h1, fun μ1 H1 s1 o1 => ?_⟩
    cases k1 with
    | true => exact iteT ⟨μ1, env, _, v, st', o1, r.mono s1, h4, fun μ2 H2 v' s2 o2 r2 => g μ2 H2 v' (Stp.trans s1 s2) o2 r2⟩
    | false => exact iteF ⟨μ1, env, _, v, st', o1, r.mono s1, h4, fun μ2 H2 v' s2 o2 r2 => g μ2 H2 v' (Stp.trans s1 s2) o2 r2⟩
  · cases h
theorem pt_never : PT X e (fun _ _ _ => False) := ⟨fun _ _ _ _ _ _ h => h.elim⟩

/-! ### what is walked -/
inductive SrcR (K : PySem.W.Frag) (S : Addr → Prop) (μ : Nat → Addr) (L : Nat) (H : Hp) : It → Src → Prop
  | tup {a : Addr} {vs : List V} {xs : List PV} (h : SqT K H a vs) (r : RVs K μ L H xs vs) : SrcR K S μ L H (Itt K a) (.items xs)
  | own {a : Addr} {vs : List V} {xs : List PV} (h : H a = some (.lst vs)) (n : ∀ n, n < L → μ n ≠ a) (s : ¬ S a) (r : RVs K μ L H xs vs) : SrcR K S μ L H (Itl K a) (.items xs)
  | rol {a : Addr} {vs : List V} {xs : List PV} (h : Kl K H a vs) (r : RVs K μ L H xs vs) : SrcR K S μ L H (Itl K a) (.items xs)
  | live {n m : Nat} (h : n < L) : SrcR K S μ L H (Itl K (μ n)) (.live n m)
  | revL {a : Addr} {vs : List V} {xs : List PV} (h : H a = some (.lst vs)) (n : ∀ n, n < L → μ n ≠ a) (s : ¬ S a) (r : RVs K μ L H xs vs) : SrcR K S μ L H (Itv K a vs.length) (.items xs.reverse)
  | revT {a : Addr} {vs : List V} {xs : List PV} (h : SqT K H a vs) (r : RVs K μ L H xs vs) : SrcR K S μ L H (RT.ItvT K a vs.length) (.items xs.reverse)
  | str {s : Str} : SrcR K S μ L H (Its s) (.items (s.cps.toList.map fun c => .str ⟨#[c]⟩))
  | rng {lo : Int} {n : Nat} : SrcR K S μ L H (Itr lo n) (.items ((List.range n).map fun (k : Nat) => .int (lo + k)))
theorem SrcR.mono {S S1 : Addr → Prop} {μ1 : Nat → Addr} {L1 : Nat} {H1 : Hp} {J : It} {src : Src} (s : StX S μ L H μ1 L1 H1) (h : SrcR K S μ L H J src) (hs : ∀ a, S1 a → S a ∨ H a = none) : SrcR K S1 μ1 L1 H1 J src := by
  cases h with
  | tup h r => exact .tup (s.sqT h) (r.mono s)
  | @own a vs xs h n hS r =>
    refine .own (s.keep _ _ h n hS) (fun k hk e => ?_) (fun z => ?_) (r.mono s)
    · by_cases hl : k < L
      · exact n k hl ((s.ext k hl).symm.trans e)
      · have := s.new k (by omega) hk
        rw [e, h] at this
        cases this
    · rcases hs _ z with z | z
      · exact hS z
      · rw [h] at z; cases z
  | rol h r => exact .rol (s.kl h) (r.mono s)
  | revT h r => exact .revT (s.sqT h) (r.mono s)
  | @revL a vs xs h n hS r =>
    refine .revL (s.keep _ _ h n hS) (fun k hk e => ?_) (fun z => ?_) (r.mono s)
    · by_cases hl : k < L
      · exact n k hl ((s.ext k hl).symm.trans e)
      · have := s.new k (by omega) hk
        rw [e, h] at this
        cases this
    · rcases hs _ z with z | z
      · exact hS z
      · rw [h] at z; cases z
  | @live n m h =>
    have e := s.ext n h
    rw [← e]
    exact .live (Nat.lt_of_lt_of_le h s.le)
  | str => exact .str
  | rng => exact .rng
theorem SrcR.stop {S : Addr → Prop} {J : It} {src : Src} {st : Store} (h : SrcR K S μ st.length H J src) (o : Ok K μ st H) (f : src.fits st = true) : J.stop src.many H := by
  cases h with
  | tup h r => exact ⟨_, h, Nat.le_of_eq r.len.symm⟩
  | own h n hS r => exact ⟨_, SqL.of h, Nat.le_of_eq r.len.symm⟩
  | rol h r => exact ⟨_, h.sq, Nat.le_of_eq r.len.symm⟩
  | revT h r => exact Nat.le_of_eq (by rw [← r.len]; simp [Src.many])
  | revL h n hS r => exact Nat.le_of_eq (by rw [← r.len]; simp [Src.many])
  | @live n m h =>
    unfold Src.fits at f
    simp only at f
    split at f
    · rename_i xs hx
      obtain ⟨a, vs, e, q, r⟩ := list_at o (.loc h) (show listOf (.loc n) st = some xs from hx)
      cases e
      refine ⟨vs, SqL.of q, ?_⟩
      have := r.len
      have h2 : xs.length = m := by simpa using f
      show vs.length ≤ m
      omega
    · cases f
  | str =>
    show _ ≤ _
    simp [Src.many]
  | rng =>
    show _ ≤ _
    simp [Src.many]
theorem rev_get {xs : List PV} {i : Nat} {x : PV} {st : Store} (f : (Src.items xs.reverse).get i st = some x) : i < xs.length ∧ xs[xs.length - 1 - i]? = some x := by
  have f : xs.reverse[i]? = some x := f
  have hi : i < xs.length := by
    have := (List.getElem?_eq_some_iff.mp f).1
    simpa using this
  rw [List.getElem?_reverse hi] at f
  exact ⟨hi, f⟩
theorem SrcR.go {S : Addr → Prop} {J : It} {src : Src} {st : Store} {i : Nat} {x : PV} (h : SrcR K S μ st.length H J src) (o : Ok K μ st H) (f : src.get i st = some x) :
    J.go i H ∧ ∀ x' H', J.yld i H x' H' → H' = H ∧ RV K μ st.length H x x' ∧ x.isFl = false := by
  cases h with
  | tup h r =>
    obtain ⟨v, h1, h2, h3⟩ := r.get f
    exact ⟨⟨_, v, h, h1⟩, fun x' H' ⟨e, y⟩ => ⟨e, by rw [← Option.some.inj (h1.symm.trans (y _ h))]; exact h2, h3⟩⟩
  | own h n hS r =>
    obtain ⟨v, h1, h2, h3⟩ := r.get f
    exact ⟨⟨_, v, SqL.of h, h1⟩, fun x' H' ⟨e, y⟩ => ⟨e, by rw [← Option.some.inj (h1.symm.trans (y _ (SqL.of h)))]; exact h2, h3⟩⟩
  | rol h r =>
    obtain ⟨v, h1, h2, h3⟩ := r.get f
    exact ⟨⟨_, v, h.sq, h1⟩, fun x' H' ⟨e, y⟩ => ⟨e, by rw [← Option.some.inj (h1.symm.trans (y _ h.sq))]; exact h2, h3⟩⟩
  | revT h r =>
    obtain ⟨hi, e⟩ := rev_get f
    obtain ⟨v, h1, h2, h3⟩ := r.get e
    rw [r.len] at hi h1
    exact ⟨⟨hi, _, v, h, h1⟩, fun x' H' ⟨e, y⟩ => ⟨e, by rw [← Option.some.inj (h1.symm.trans (y _ h))]; exact h2, h3⟩⟩
  | revL h n hS r =>
    obtain ⟨hi, e⟩ := rev_get f
    obtain ⟨v, h1, h2, h3⟩ := r.get e
    rw [r.len] at hi h1
    exact ⟨⟨hi, _, v, SqL.of h, h1⟩, fun x' H' ⟨e, y⟩ => ⟨e, by rw [← Option.some.inj (h1.symm.trans (y _ (SqL.of h)))]; exact h2, h3⟩⟩
  | @live n m h =>
    unfold Src.get at f
    simp only at f
    split at f
    · rename_i xs hx
      split at f
      · obtain ⟨a, vs, e, q, r⟩ := list_at o (.loc h) (show listOf (.loc n) st = some xs from hx)
        cases e
        obtain ⟨v, h1, h2, h3⟩ := r.get f
        exact ⟨⟨_, v, SqL.of q, h1⟩, fun x' H' ⟨e, y⟩ => ⟨e, by rw [← Option.some.inj (h1.symm.trans (y _ (SqL.of q)))]; exact h2, h3⟩⟩
      · cases f
    · cases f
  | @str s =>
    have f : (s.cps.toList.map fun c => PV.str ⟨#[c]⟩)[i]? = some x := f
    rw [List.getElem?_map] at f
    obtain ⟨c, h1, rfl⟩ := Option.map_eq_some_iff.mp f
    have h2 : s.cps[i]? = some c := by simpa using h1
    refine ⟨(Array.getElem?_eq_some_iff.mp h2).1, fun x' H' ⟨e, c', y1, y2⟩ => ⟨e, ?_, rfl⟩⟩
    rw [h2] at y1
    cases y1
    rw [y2]
    exact .str _
  | @rng lo n =>
    have f : ((List.range n).map fun (k : Nat) => PV.int (lo + k))[i]? = some x := f
    rw [List.getElem?_map] at f
    obtain ⟨c, h1, rfl⟩ := Option.map_eq_some_iff.mp f
    obtain ⟨h2, h3⟩ := List.getElem?_eq_some_iff.mp h1
    rw [List.getElem_range] at h3
    subst h3
    exact ⟨show i < n by simpa using h2, fun x' H' ⟨e, y⟩ => ⟨e, by rw [y]; exact .int _, rfl⟩⟩
end
end U

set_option maxHeartbeats 4000000
/-! U9: targets, what a comprehension walks, comprehensions. -/
namespace U
open PySem PySem.Spec PyProof.Rows L2
section
variable {K : PySem.W.Frag} {μ : Nat → Addr} {L : Nat} {H : Hp} {X : Cx} {e : Expr} {call : Nat → List PV → Store → Res PV} {m : ME}
/-! ### targets -/
def gAll : List Nat → TGs
  | [] => gNil
  | i :: is => gCons (gName i) (gAll is)
def gOf (K : PySem.W.Frag) : MG → TG
  | .nm i => gName i
  | .tp is => gTup K is.length (gAll is)
theorem wipe_set {σ : L2.St} {i : Nat} {v : V} : ∀ {is : List Nat}, i ∈ is → L2.wipe (σ.set i (some v)) is = L2.wipe σ is
  | [], h => by simp at h
  | j :: is, h => by
    unfold L2.wipe
    by_cases e : i = j
    · subst e
      by_cases hm : i ∈ is
      · rw [wipe_set hm]
      · have : ∀ (τ : L2.St) (is : List Nat), i ∉ is → L2.wipe (τ.set i (some v)) is = (L2.wipe τ is).set i (some v) := by
          intro τ is
          induction is with
          | nil => intro _; rfl
          | cons k is ih =>
            intro hk
            have h1 : i ≠ k := fun z => hk (by simp [z])
            have h2 : i ∉ is := fun z => hk (by simp [z])
            unfold L2.wipe
            rw [ih h2, List.set_comm _ _ h1]
        rw [this σ is hm, List.set_set]
    · have hm : i ∈ is := by
        rcases List.mem_cons.mp h with z | z
        · exact absurd z e
        · exact z
      rw [wipe_set hm]
theorem setEach_ok : ∀ {is : List Nat} {xs : List PV} {vs : List V} {env env' : En} {σ : L2.St} {Q : L2.St → Hp → Prop}, setEach is xs env = some env' → RE K μ L H env σ → RVs K μ L H xs vs →
    (∀ σ', RE K μ L H env' σ' → (∀ js : List Nat, (∀ i ∈ is, i ∈ js) → L2.wipe σ' js = L2.wipe σ js) → Q σ' H) → gAll is vs σ H Q
  | [], _, _, _, _, _, _, h, r, .nil, q => by
    cases h
    exact ⟨rfl, q _ r fun _ _ => rfl⟩
  | [], _, _, _, _, _, _, h, _, .cons _ _ _, _ => by cases h
  | _ :: _, _, _, _, _, _, _, h, _, .nil, _ => by cases h
  | i :: is, _, _, _, _, _, _, h, r, .cons f rx rs, q =>
    ⟨_, _, rfl, setEach_ok h (r.set rx i) rs fun σ' r' w => q σ' r' fun js hj => by
      rw [w js fun k hk => hj k (List.mem_cons_of_mem _ hk)]
      exact wipe_set (hj i List.mem_cons_self)⟩
theorem setEach_len : ∀ {is : List Nat} {xs : List PV} {env env' : En}, setEach is xs env = some env' → xs.length = is.length
  | [], [], _, _, _ => rfl
  | [], _ :: _, _, _, h => by cases h
  | _ :: _, [], _, _, h => by cases h
  | _ :: is, _ :: xs, _, _, h => by
    have := setEach_len (is := is) (xs := xs) h
    simp [this]
theorem put_ok {g : MG} {x : PV} {x' : V} {env env' : En} {σ : L2.St} {Q : L2.St → Hp → Prop} (h : g.put x env = some env') (r : RE K μ L H env σ) (rx : RV K μ L H x x')
    (q : ∀ σ', RE K μ L H env' σ' → L2.wipe σ' g.slots = L2.wipe σ g.slots → Q σ' H) : gOf K g x' σ H Q := by
  cases g with
  | nm i =>
    cases h
    exact q _ (r.set rx i) (wipe_set (by simp [MG.slots]))
  | tp is =>
    unfold MG.put at h
    simp only at h
    split at h
    · cases rx with
      | tup h1 r1 => exact ⟨_, _, rfl, h1, by rw [← r1.len]; exact setEach_len h, setEach_ok h r r1 fun σ' r' w => q σ' r' (w _ fun _ hi => hi)⟩
    · cases h

/-! ### sources -/
theorem _root_.L2.PI.imp {tg it : Expr} {w w' : TI} (h : PI X tg it w) (i : ∀ σ H R, w' σ H R → w σ H R) : PI X tg it w' := ⟨fun pins s σ H R I q => h.run pins s σ H R I (i _ _ _ q)⟩
def rdW (K : PySem.W.Frag) (m : En → Store → Res Src) : TI := fun σ H R => ∃ μ env st s st', Ok K μ st H ∧ RE K μ st.length H env σ ∧ m env st = .ok s st' ∧
  ∀ μ' H' J, Stp μ st.length H μ' st'.length H' → Ok K μ' st' H' → SrcR K NoS μ' st'.length H' J s → R J H'
theorem pi_used {tg it : Expr} (h : SE X call m it) : PI X tg it (rdW X.K fun env st => (ev call m .use env st).bind fun x st1 => opt (srcV x st1) st1) := by
  refine ⟨fun pins s σ H R I ⟨μ, env, st, src, st', o, r, h1, g⟩ => ?_⟩
  obtain ⟨v, st1, h2, h3⟩ := bind_ok h1
  obtain ⟨h4, rfl⟩ := opt_ok h3
  have ls : (∀ μ1 H1 v', Stp μ st.length H μ1 st1.length H1 → Ok X.K μ1 st1 H1 → RV X.K μ1 st1.length H1 v v' → ∃ a, v' = .ref a ∧ (∃ xs, SqL X.K H1 a xs) ∧ R (Itl X.K a) H1) →
      wpAny (model X.prog X.w) X.A (eval it X.env) (fun v s1 => wpAny (model X.prog X.w) X.A (pyIter v) (PIE X pins σ tg R) X.xe s1) X.xe s :=
    fun q => (pi_list h.use).run pins s σ H R I ⟨μ, env, st, v, st1, o, r, h2, fun μ1 H1 v' s1 o1 r1 => q μ1 H1 v' s1 o1 r1⟩
  cases v with
  | str z =>
    cases h4
    refine (pi_str h.use).run pins s σ H R I ⟨μ, env, st, _, st1, o, r, h2, fun μ1 H1 v' s1 o1 r1 => ?_⟩
    cases r1
    exact ⟨z, rfl, g μ1 H1 _ s1 o1 .str⟩
  | tup xs =>
    cases h4
    refine (pi_tup h.use).run pins s σ H R I ⟨μ, env, st, _, st1, o, r, h2, fun μ1 H1 v' s1 o1 r1 => ?_⟩
    cases r1 with
    | tup h5 r5 => exact ⟨_, rfl, ⟨_, h5⟩, g μ1 H1 _ s1 o1 (.tup h5 r5)⟩
  | fl xs =>
    cases h4
    refine ls fun μ1 H1 v' s1 o1 r1 => ?_
    cases r1 with
    | fl h5 n5 r5 => exact ⟨_, rfl, ⟨_, SqL.of h5⟩, g μ1 H1 _ s1 o1 (.own h5 n5 (fun z => z) r5)⟩
  | rol xs =>
    cases h4
    refine ls fun μ1 H1 v' s1 o1 r1 => ?_
    cases r1 with
    | rol h5 r5 => exact ⟨_, rfl, ⟨_, h5.sq⟩, g μ1 H1 _ s1 o1 (.rol h5 r5)⟩
  | loc n =>
    refine ls fun μ1 H1 v' s1 o1 r1 => ?_
    cases r1 with
    | loc h5 =>
      obtain ⟨xs, hx, e⟩ := Option.map_eq_some_iff.mp h4
      obtain ⟨vs, hv⟩ := o1.held h5
      subst e
      exact ⟨_, rfl, ⟨vs, SqL.of hv⟩, g μ1 H1 _ s1 o1 (.live h5)⟩
  | _ => cases h4
theorem rng_ok {x y : PV} {st st' : Store} {s : Src} (h : rngV x y st = .ok s st') : ∃ i j : Int, x = .int i ∧ y = .int j ∧ (-(2 ^ 62) ≤ i ∧ i < 2 ^ 62 ∧ -(2 ^ 62) ≤ j ∧ j < 2 ^ 62) ∧ s = .items ((List.range (j - i).toNat).map fun (k : Nat) => .int (i + k)) ∧ st = st' := by
  unfold rngV at h
  split at h
  · split at h
    · rename_i hb
      cases h
      exact ⟨_, _, rfl, rfl, hb, rfl, rfl⟩
    · cases h
  · cases h
theorem pi_rng2 {tg x y : Expr} {a b : ME} {p pos : Pos} (ha : SE X call a x) (hb : SE X call b y) (hg : Gl X "range") (hm : X.mg "range" = none) (hs : starEach [x, y] X.env = [(false, eval x X.env), (false, eval y X.env)]) (hs2 : starEach [y] X.env = [(false, eval y X.env)]) :
    PI X tg (.Call (.Name "range" p) [x, y] [] pos) (rdW X.K fun env st => (ev call a .val env st).bind fun x st1 => (ev call b .val env st1).bind fun y st2 => rngV x y st2) := by
  refine (pi_range2 hg hm (pa_cons ha.val (pa_cons hb.val pa_nil hs2) (by rw [hs, hs2])) hs hs2).imp fun σ H R ⟨μ, env, st, s, st', o, r, h, g⟩ => ?_
  obtain ⟨x1, st1, h1, h2⟩ := bind_ok h
  obtain ⟨y1, st2, h3, h4⟩ := bind_ok h2
  obtain ⟨i, j, rfl, rfl, hb, rfl, rfl⟩ := rng_ok h4
  refine ⟨μ, env, st, _, st1, o, r, h1, fun μ1 H1 x' s1 o1 r1 _ => ⟨μ1, env, st1, _, _, o1, r.mono s1, h3, fun μ2 H2 y' s2 o2 r2 _ => ?_⟩⟩
  cases r1; cases r2
  exact ⟨i, j, rfl, hb, g μ2 H2 _ (Stp.trans s1 s2) o2 .rng⟩
theorem pi_rng1 {tg y : Expr} {b : ME} {p pos : Pos} (hb : SE X call b y) (hg : Gl X "range") (hm : X.mg "range" = none) (hs : starEach [y] X.env = [(false, eval y X.env)]) :
    PI X tg (.Call (.Name "range" p) [y] [] pos) (rdW X.K fun env st => (ev call (.con (.int 0)) .val env st).bind fun x st1 => (ev call b .val env st1).bind fun y st2 => rngV x y st2) := by
  refine (pi_range1 hg hm (pa_cons hb.val pa_nil hs) hs).imp fun σ H R ⟨μ, env, st, s, st', o, r, h, g⟩ => ?_
  obtain ⟨x1, st1, h1, h2⟩ := bind_ok h
  cases (show Res.ok (PV.int 0) st = Res.ok x1 st1 from h1)
  obtain ⟨y1, st2, h3, h4⟩ := bind_ok h2
  obtain ⟨i, j, e, rfl, hb, rfl, rfl⟩ := rng_ok h4
  cases e
  refine ⟨μ, env, _, _, _, o, r, h3, fun μ2 H2 y' s2 o2 r2 _ => ?_⟩
  cases r2
  have q := g μ2 H2 _ s2 o2 (.rng (lo := 0) (n := (j - 0).toNat))
  rw [Int.sub_zero] at q
  exact ⟨j, rfl, hb.2.2.1, hb.2.2.2, q⟩

/-! ### comprehensions -/
/-- the object at D is written -/
theorem StX.wrt {D : Addr} {ys zs : List V} (h : H D = Option.some (HO.lst ys)) : StX (fun a => a = D) μ L H μ L (upd H D (HO.lst zs)) := by
  refine ⟨Nat.le_refl _, fun _ _ => rfl, fun b o hb _ ne => ?_, fun b us hb => ?_, fun b o u hb => ?_, fun b hb => ?_, fun n h1 h2 => absurd h2 (by omega)⟩
  · rw [upd_ne ne]; exact hb
  · rw [upd_ne (fun e => by rw [e, h] at hb; cases hb)]; exact hb
  · rw [upd_ne (fun e => by rw [e, h] at hb; cases hb)]; exact hb
  · by_cases e : b = D
    · rw [e, upd_same] at hb; cases hb
    · rw [upd_ne e] at hb; exact hb
theorem Ok.wrt {st : Store} {D : Addr} {ys zs : List V} (o : Ok K μ st H) (h : H D = some (.lst ys)) (n : ∀ k, k < st.length → μ k ≠ D) : Ok K μ st (upd H D (.lst zs)) :=
  ⟨o.inj, fun k xs hk => by
    obtain ⟨vs, h1, h2⟩ := o.cell k xs hk
    exact ⟨vs, by rw [upd_ne (n k (List.getElem?_eq_some_iff.mp hk).1)]; exact h1, h2.mono (StX.wrt h)⟩⟩
theorem SE.lcImp {σ : L2.St} {H : Hp} {Q : VK} {wi : TI} {tt : TT} {te : TE} {test : En → Store → Res Bool} {elt : En → Store → Res PV} {g : MG} {srcF : En → Store → Res Src}
    (hw : ∀ σ H R, rdW K srcF σ H R → wi σ H R) (he : ∀ σ H Q, rd K elt σ H Q → te σ H Q)
    (ht : ∀ μ env st b st' σ H (Q : Bool → Hp → Prop), Ok K μ st H → RE K μ st.length H env σ → test env st = .ok b st' → (∀ μ' H', Stp μ st.length H μ' st'.length H' → Ok K μ' st' H' → Q b H') → tt σ H Q)
    (h : rd K (fun env st => (srcF env st).bind fun s st1 => lcLoop test elt g.put (wipe env g.slots) s 0 s.many [] st1) σ H Q) : tLc wi (gOf K g) tt te g.slots σ H Q := by
  obtain ⟨μ, env, st, v, st4, o, r, h, fin⟩ := h
  obtain ⟨src, st1, h1, h2⟩ := bind_ok h
  refine hw σ H _ ⟨μ, env, st, src, st1, o, r, h1, fun μ1 H1 J s1 o1 j1 D hD => ?_⟩
  refine ⟨fun i m Hc => ∃ μ st acc accV, Stp μ1 st1.length H1 μ st.length Hc ∧ Ok K μ st Hc ∧ Hc D = some (.lst accV) ∧ (∀ n, n < st.length → μ n ≠ D) ∧ RVs K μ st.length Hc acc accV ∧
    SrcR K (fun a => a = D) μ st.length Hc J src ∧ i + m = src.many ∧ lcLoop test elt g.put (wipe env g.slots) src i m acc st = .ok v st4,
    ⟨src.many, μ1, st1, [], [], Stp.laid hD, o1.laid hD, upd_same, o1.apart hD, .nil, j1.mono (Stp.laid hD) (fun a z => .inr (by rw [z]; exact hD)), by omega, h2⟩, ?_⟩
  rintro i m Hc ⟨μ2, st2, acc, accV, s2, o2, d2, n2, r2, j2, em, e2⟩
  cases m with
  | zero =>
    refine .inl ?_
    unfold lcLoop at e2
    split at e2
    · rename_i hf
      cases e2
      have q := j2.stop o2 hf
      have e0 : i = src.many := by omega
      subst e0
      exact ⟨q, fin μ2 Hc _ (Stp.trans s1 s2) o2 (.fl d2 n2 r2) (s1.there _ hD)⟩
    · cases e2
  | succ m =>
    refine .inr ?_
    unfold lcLoop at e2
    split at e2
    · cases e2
    · rename_i x hx
      split at e2
      · cases e2
      · rename_i env' hp
        obtain ⟨q1, q2⟩ := j2.go o2 hx
        obtain ⟨b, st3, e3, e4⟩ := bind_ok e2
        refine ⟨q1, _, fun H' w => ⟨m, Nat.lt_succ_self m, w⟩, fun x' H' y => ?_⟩
        obtain ⟨rfl, rx, fx⟩ := q2 x' H' y
        have rw0 : RE K μ2 st2.length H' (wipe env g.slots) (L2.wipe σ g.slots) := (r.mono (Stp.trans s1 s2)).wipe _
        refine put_ok hp rw0 rx fun σ2 rE wE => ⟨?_, ?_⟩
        · rw [wE]
          have : ∀ (τ : L2.St) (vs : List Nat), L2.wipe (L2.wipe τ vs) vs = L2.wipe τ vs := by
            have idem : ∀ (τ : L2.St) (is vs : List Nat), (∀ i ∈ is, ∀ x : V, τ[i]? ≠ some (some x)) → L2.wipe τ is = τ := by
              intro τ is _
              induction is with
              | nil => intro _; rfl
              | cons k is ih =>
                intro hk
                unfold L2.wipe
                rw [ih fun i hi => hk i (List.mem_cons_of_mem _ hi)]
                apply List.ext_getElem?
                intro n
                by_cases e : k = n
                · subst e
                  by_cases hl : k < τ.length
                  · rw [List.getElem?_set_self hl]
                    have := hk k List.mem_cons_self
                    cases q : τ[k] with
                    | none => rw [List.getElem?_eq_getElem hl, q]
                    | some z => exact absurd (by rw [List.getElem?_eq_getElem hl, q]) (this z)
                  · rw [List.getElem?_eq_none (by simp; omega), List.getElem?_eq_none (by omega)]
                · rw [List.getElem?_set_ne e]
            intro τ vs
            exact idem _ vs vs fun i hi x hx => (L2.wipe_some hx).2 hi
          exact this σ g.slots
        · refine ht μ2 env' st2 b st3 σ2 H' _ o2 rE e3 fun μ3 H3 s3 o3 => ?_
          have d3 : H3 D = some (.lst accV) := s3.keep D _ d2 n2 fun z => z
          have n3 : ∀ n, n < st3.length → μ3 n ≠ D := fun n hn z => by
            by_cases hl : n < st2.length
            · exact n2 n hl ((s3.ext n hl).symm.trans z)
            · have := s3.new n (by omega) hn
              rw [z, d2] at this; cases this
          cases b with
          | false =>
            refine iteF ⟨μ3, st3, acc, accV, Stp.trans s2 s3, o3, d3, n3, r2.mono s3, j2.mono (Stp.wide s3) (fun _ z => .inl z), by omega, ?_⟩
            exact e4
          | true =>
            obtain ⟨y1, st5, e5, e6⟩ := bind_ok (show (elt env' st3).bind _ = _ from e4)
            split at e6
            · rename_i hz
              refine iteT (he σ2 H3 _ ⟨μ3, env', st3, y1, st5, o3, rE.mono s3, e5, fun μ5 H5 y' s5 o5 r5 f5 => ?_⟩)
              obtain ⟨μe, se, oe, re, fe, ext⟩ := Ok.esc s5 o5 r5 f5
              have d5 : H5 D = some (.lst accV) := s5.keep D _ d3 n3 fun z => z
              have ne : ∀ n, n < (esc y1 st5).2.length → μe n ≠ D := fun n hn z => by
                by_cases hl : n < st3.length
                · exact n3 n hl ((se.ext n hl).symm.trans z)
                · have := se.new n (by omega) hn
                  rw [z, d3] at this; cases this
              have ra : RVs K μe (esc y1 st5).2.length H5 acc accV := (r2.mono s3).mono se
              have wr : StX (fun a => a = D) μe (esc y1 st5).2.length H5 μe (esc y1 st5).2.length (upd H5 D (.lst (accV ++ [y']))) := StX.wrt d5
              have sw : Stp μ1 st1.length H1 μe (esc y1 st5).2.length (upd H5 D (.lst (accV ++ [y']))) := StX.trans (Stp.trans s2 (Stp.trans s3 se)) wr fun b e => .inr (by rw [e]; exact hD)
              refine ⟨accV, d5, by rw [← r2.len]; exact hz, μe, (esc y1 st5).2, acc ++ [(esc y1 st5).1], accV ++ [y'], sw, oe.wrt d5 ne, upd_same, ne, ?_, ?_, by omega, e6⟩
              · refine (RVs.mono wr ra).app (RVs.one fe (RV.mono wr ?_ re))
                cases hq : (esc y1 st5).1 <;> first | trivial | (rw [hq] at fe; cases fe)
              · exact (j2.mono (Stp.wide (Stp.trans s3 se)) (fun _ z => .inl z)).mono wr (fun _ z => .inl z)
            · cases e6
end
end U

set_option maxHeartbeats 8000000
/-! U10: every expression of the language. -/
namespace U
open PySem PySem.Spec PyProof.Rows L2
structure Wd where
  P : Program
  w : World
  K : PySem.W.Frag
  mg : Str → Option Value
  base : Heap
/-- a body of the text stands here -/
structure Gd (W : Wd) (C : Ct) (k : Nat) (X : Cx) : Prop where
  P : X.prog = W.P
  w : X.w = W.w
  K : X.K = W.K
  mg : X.mg = W.mg
  base : X.base = W.base
  N : X.N = C.N
  sc : X.env.scope = C.sc
  nd : X.N.Nodup
  calm : X.calm = true
  room : Room k X.A
  gu : C.gk = true → X.A.guards = some []
/-- what the names of the module are -/
structure Fx (W : Wd) (C : Ct) (k : Nat) (call : Nat → List PV → Store → Res PV) : Prop where
  fn : ∀ x f, C.fn.lookup x = some f → ∃ a fd ps, W.mg x = some (.ref a) ∧ PySem.W.keepIn W.K (.ref a) = true ∧ Binds W.K fd ps [] ∧ FnOk W.P W.w W.K W.mg W.base CX0 k a fd ps (spEv W.K (call f))
  cs : ∀ x v, C.cs.lookup x = some v → v.isFl = false ∧ ∃ u v', W.mg x = some u ∧ RelV v' u ∧ (∀ μ L H, RV W.K μ L H v v') ∧ ∀ xs, v = .tup xs → ∃ p o, v' = .ref p ∧ W.K.lookup p = some o ∧ o.cls = .type "tuple" ∧ o.dict = none
  bl : ∀ x, C.bl.contains x = true → W.mg x = none
  ds : ∀ x kvs, C.ds.lookup x = some kvs → ∃ d es n, W.mg x = some (.ref d) ∧ KDict W.K W.w d es n ∧ DRel es.toList kvs
mutual
theorem same_ok : ∀ {v w : PV}, PV.same v w = true → v = w
  | .non, .non, _ => rfl
  | .bl a, .bl b, h => by rw [eq_of_beq (show (a == b) = true from h)]
  | .int a, .int b, h => by rw [of_decide_eq_true (show decide (a = b) = true from h)]
  | .str a, .str b, h => by rw [of_decide_eq_true (show decide (a = b) = true from h)]
  | .tup a, .tup b, h => by rw [sames_ok (show PV.sameL a b = true from h)]
  | .non, .bl _, h | .non, .int _, h | .non, .str _, h | .non, .tup _, h | .non, .loc _, h | .non, .fl _, h | .non, .rol _, h => by cases h
  | .bl _, .non, h | .bl _, .int _, h | .bl _, .str _, h | .bl _, .tup _, h | .bl _, .loc _, h | .bl _, .fl _, h | .bl _, .rol _, h => by cases h
  | .int _, .non, h | .int _, .bl _, h | .int _, .str _, h | .int _, .tup _, h | .int _, .loc _, h | .int _, .fl _, h | .int _, .rol _, h => by cases h
  | .str _, .non, h | .str _, .bl _, h | .str _, .int _, h | .str _, .tup _, h | .str _, .loc _, h | .str _, .fl _, h | .str _, .rol _, h => by cases h
  | .tup _, .non, h | .tup _, .bl _, h | .tup _, .int _, h | .tup _, .str _, h | .tup _, .loc _, h | .tup _, .fl _, h | .tup _, .rol _, h => by cases h
  | .loc _, _, h | .fl _, _, h | .rol _, _, h => by cases h
theorem sames_ok : ∀ {v w : List PV}, PV.sameL v w = true → v = w
  | [], [], _ => rfl
  | [], _ :: _, h => by cases h
  | _ :: _, [], h => by cases h
  | x :: xs, y :: ys, h => by
    have h : (PV.same x y && PV.sameL xs ys) = true := h
    rw [Bool.and_eq_true] at h
    rw [same_ok h.1, sames_ok h.2]
end
section
variable {W : Wd} {k : Nat} {call : Nat → List PV → Store → Res PV}
theorem vis_of {sc : Scope} {x : Str} (h : visB sc x = true) : Vis sc x := by
  unfold visB at h
  unfold Vis
  split at h <;> first | (rename_i q; rw [q]; simp) | cases h
theorem gl_of {X : Cx} {x : Str} (h : glB X.env.scope x = true) : Gl X x ∧ (x == ("__debug__" : Str)) = false := by
  unfold glB at h
  split at h
  · rename_i q
    exact ⟨q, by simpa using h⟩
  · cases h
/-- no star, no set, no slice -/
def plainE : Expr → Bool
  | .Starred .. => false
  | .Set .. => false
  | .Slice .. => false
  | .NamedExpr .. => false
  | _ => true
theorem sameD_ok : ∀ {l m : List (Str × PV)}, sameD l m = true → l = m
  | [], [], _ => rfl
  | [], _ :: _, h => by cases h
  | _ :: _, [], h => by cases h
  | (x, v) :: r, (y, w) :: q, h => by
    have h : (decide (x = y) && PV.same v w && sameD r q) = true := h
    simp only [Bool.and_eq_true, decide_eq_true_eq] at h
    rw [h.1.1, same_ok h.1.2, sameD_ok h.2]
theorem plain_ok {C : Ct} {m : ME} {e : Expr} (h : mE C m e = true) : plainE e = true := by
  cases e <;> first | rfl | (exfalso; cases m with
    | lc elt g src has c => cases src <;> cases h
    | _ => cases h)
theorem star_ok {e : Expr} (h : plainE e = true) (es : List Expr) (env : Env) : starEach (e :: es) env = (false, eval e env) :: starEach es env := by
  cases e <;> first | rfl | cases h
theorem ix_ok {e : Expr} (h : plainE e = true) : PlainIx e := by
  intro o i
  cases e <;> first | rfl | cases h
theorem mark_ok {e : Expr} (h : plainE e = true) (op : CmpOp) : behindInMarks op e = false := by
  cases e <;> first | rfl | cases h
theorem marks_ok {e e' : Expr} (h : plainE e = true) (h' : plainE e' = true) (op op' : CmpOp) : lastMarks [op, op'] [e, e'] = false := by
  have := mark_ok h' op'
  cases e' <;> first | rfl | (exact this) | cases h'
theorem set_ok {e : Expr} (h : plainE e = true) (env : Env) : ∀ x, foldedSetIterable e env x = pure x := by
  intro x
  cases e <;> first | rfl | cases h
theorem any_ok {C : Ct} {pos : Pos} {env : Env} : ∀ {as : MEs} {es : List Expr}, mA C as es = true → (backTo pos (starEach es env)).any (·.1) = false
  | .nil, [], _ => rfl
  | .nil, _ :: _, h => by cases h
  | .cons _ _, [], h => by cases h
  | .cons a as, e :: es, h => by
    have h : (mE C a e && mA C as es) = true := h
    rw [Bool.and_eq_true] at h
    rw [star_ok (plain_ok h.1)]
    show (false || (backTo pos (starEach es env)).any (·.1)) = false
    rw [any_ok h.2]
    rfl
theorem base_ok {x : Expr} {name : Str} {env : Env} {whole : Sem Value} (h : (match x with
    | .Call _ [] [] _ => true
    | _ => false) = false) : attributeBase x name env whole = whole := by
  cases x <;> try rfl
  rename_i f as ks p
  cases as with
  | nil =>
    cases ks with
    | nil => cases h
    | cons _ _ => cases f <;> rfl
  | cons _ _ => cases f <;> rfl
end
end U

set_option maxHeartbeats 8000000
/-! U11: every expression of the language, the theorem. -/
namespace U
open PySem PySem.Spec PyProof.Rows L2
section
variable {W : Wd} {k : Nat} {call : Nat → List PV → Store → Res PV}
theorem Gd.blk {C : Ct} {X : Cx} (G : Gd W C k X) (s : Shared) (H : Hp) (scope : Scope) (c : Addr) (cl : List (Str × Addr)) (fp : List Addr) : Gd W { C with sc := relS scope C.sc } k (X.blk s H scope (compEnvC scope cl c X.env) fp) :=
  ⟨G.P, G.w, G.K, G.mg, G.base, G.N, by show relS scope X.env.scope = _; rw [G.sc], G.nd, G.calm, G.room, G.gu⟩
theorem pg1 {C : Ct} {X : Cx} (G : Gd W C k X) {i : Nat} {e : Expr} (h : mT1 C i e = true) : PG X e (gName i) := by
  cases e <;> try (exact absurd h Bool.false_ne_true)
  rename_i x pos
  have h : (decide (C.N[i]? = some x) && decide (C.sc.names.lookup x = some .local)) = true := h
  simp only [Bool.and_eq_true, decide_eq_true_eq] at h
  exact pg_name G.nd (by rw [G.N]; exact h.1) (.inl (by rw [G.sc]; exact h.2)) (.inr (by rw [G.sc]; exact h.2))
theorem assign_ok {e : Expr} {C : Ct} {i : Nat} (h : mT1 C i e = true) (es : List Expr) (env : Env) : assignEach (e :: es) env = (false, assign e env) :: assignEach es env := by
  cases e <;> first | rfl | exact absurd h Bool.false_ne_true
theorem pgs {C : Ct} {X : Cx} (G : Gd W C k X) : ∀ {is : List Nat} {es : List Expr}, mTs C is es = true → PGs X es (gAll is) ∧ (assignEach es X.env).length = is.length ∧ (assignEach es X.env).findIdx? (·.1) = none
  | [], [], _ => ⟨pgs_nil, rfl, rfl⟩
  | [], _ :: _, h => by cases h
  | _ :: _, [], h => by cases h
  | i :: is, e :: es, h => by
    have h : (mT1 C i e && mTs C is es) = true := h
    rw [Bool.and_eq_true] at h
    obtain ⟨p1, p2, p3⟩ := pgs G h.2
    have e1 := assign_ok h.1 es X.env
    refine ⟨pgs_cons (pg1 G h.1) p1 (by rw [e1]; rfl), by rw [e1]; simp [p2], by rw [e1]; simp [List.findIdx?_cons, p3]⟩
theorem pgG {C : Ct} {X : Cx} (G : Gd W C k X) {g : MG} {e : Expr} (h : mG C g e = true) : PG X e (gOf X.K g) := by
  cases g with
  | nm i => exact pg1 G h
  | tp is =>
    cases e <;> try (exact absurd h Bool.false_ne_true)
    obtain ⟨p1, p2, p3⟩ := pgs G (show mTs C is _ = true from h)
    exact pg_tup G.calm p1 p2 p3
theorem own_slots (g : MG) (N : List Str) : (g.own N).map (·.2) = g.slots := by
  unfold MG.own
  rw [List.map_map]
  have : ((fun x : Str × Nat => x.2) ∘ fun i => (N.getD i "", i)) = fun i => i := rfl
  rw [this, List.map_id']
/-- a comprehension's tests -/
def tTest' (K : PySem.W.Frag) (call : Nat → List PV → Store → Res PV) (has : Bool) (c : ME) : TT := if has then rdT K (ev call c .test) else tYes
def tsOk (C : Ct) (has : Bool) (c : ME) (ifs : List Expr) : Bool := match has, ifs with
  | true, [t] => mE C c t
  | false, [] => true
  | _, _ => false
theorem lc_plain {X : Cx} {g : MG} {has : Bool} {c elt : ME} {srcF : En → Store → Res Src} {wi : TI} {e : Expr} {m : ME}
    (hw : ∀ σ H R, rdW X.K srcF σ H R → wi σ H R)
    (hp : PE X e (tLc wi (gOf X.K g) (tTest' X.K call has c) (rd X.K (ev call elt .val)) g.slots))
    (eq : ∀ md env st, ev call m md env st = ((srcF env st).bind fun s st1 => lcLoop (fun e s => if has then (ev call c .test e s).bind fun x s1 => opt (isBl x) s1 else .ok true s) (ev call elt .val) g.put (wipe env g.slots) s 0 s.many [] st1).bind fun v st1 => done md v st1)
    (he : ∀ whole, isTrue e X.env whole = (do let v ← whole; standAt e.pos; holding [v] (truthy v))) : SE X call m e := by
  refine .plain _ (hp.imp fun σ H Q q => SE.lcImp hw (fun _ _ _ q => q) ?_ q) eq he
  intro μ env st b st' σ H Q o r h q
  unfold tTest'
  cases has with
  | true =>
    obtain ⟨x, s1, h1, h2⟩ := bind_ok h
    obtain ⟨h3, rfl⟩ := opt_ok h2
    cases isBl_ok h3
    exact ⟨μ, env, st, b, _, o, r, h1, q⟩
  | false =>
    cases h
    exact q μ H StX.refl o
theorem pw_of_pt {X : Cx} {op : BoolOp} {vs : List Expr} {p : Pos} {t : TT} (h : PT X (.BoolOp op vs p) t) : PW X (.BoolOp op vs p) t := ⟨fun wh pins s σ H Q I hw => h.run pins s σ H Q I hw⟩
theorem SE.sb {X : Cx} {m : ME} {op : BoolOp} {vs : List Expr} {p : Pos} (h : SE X call m (.BoolOp op vs p)) : SB X call m (.BoolOp op vs p) := ⟨h.val, h.use, pw_of_pt h.test⟩
theorem mE_lc {C : Ct} {elt src c : ME} {g : MG} {has : Bool} {e : Expr} (hn : ∀ a b, src ≠ .rng a b) : mE C (.lc elt g src has c) e = (match e with
    | .ListComp x [⟨tg, iter, ifs, 0⟩] scope _ => mE C src iter && blkC C.N C.sc scope (g.own C.N) && mG { C with sc := relS scope C.sc } g tg &&
        tsOk { C with sc := relS scope C.sc } has c ifs && mE { C with sc := relS scope C.sc } elt x
    | _ => false) := by
  cases src <;> first | (exact absurd rfl (hn _ _)) | rfl
theorem ev_lc {elt src c : ME} {g : MG} {has : Bool} {md : Md} {env : En} {st : Store} (hn : ∀ a b, src ≠ .rng a b) : ev call (.lc elt g src has c) md env st =
    (((ev call src .use env st).bind fun x st1 => opt (srcV x st1) st1).bind fun s st3 =>
      lcLoop (fun e s => if has then (ev call c .test e s).bind fun x s1 => opt (isBl x) s1 else .ok true s) (ev call elt .val) g.put (wipe env g.slots) s 0 s.many [] st3).bind fun v st4 => done md v st4 := by
  rw [bind_assoc, bind_assoc]
  cases src <;> first | (exact absurd rfl (hn _ _)) | rfl
theorem ev_lcR {elt a b c : ME} {g : MG} {has : Bool} {md : Md} {env : En} {st : Store} : ev call (.lc elt g (.rng a b) has c) md env st =
    (((ev call a .val env st).bind fun x st1 => (ev call b .val env st1).bind fun y st2 => rngV x y st2).bind fun s st3 =>
      lcLoop (fun e s => if has then (ev call c .test e s).bind fun x s1 => opt (isBl x) s1 else .ok true s) (ev call elt .val) g.put (wipe env g.slots) s 0 s.many [] st3).bind fun v st4 => done md v st4 := by
  simp only [bind_assoc]
  rfl
theorem ts_ok {C : Ct} {X : Cx} {has : Bool} {c : ME} {ifs : List Expr} (h : tsOk C has c ifs = true) (hc : ∀ t, mE C c t = true → SE X call c t) : PTs X ifs (tTest' X.K call has c) := by
  unfold tsOk at h
  split at h
  · exact pts_one (hc _ h).test
  · exact pts_nil
  · cases h
/-- a comprehension, from its parts -/
theorem lc_mk {C : Ct} {X : Cx} (G : Gd W C k X) {elt c m : ME} {g : MG} {has : Bool} {x tg iter : Expr} {ifs : List Expr} {scope : Scope} {pos : Pos} {srcF : En → Store → Res Src}
    (hi : PI X tg iter (rdW X.K srcF)) (hp : ∀ x, foldedSetIterable iter X.env x = pure x) (h2 : blkC C.N C.sc scope (g.own C.N) = true) (h3 : mG { C with sc := relS scope C.sc } g tg = true)
    (h4 : tsOk { C with sc := relS scope C.sc } has c ifs = true) (hc : ∀ {X : Cx}, Gd W { C with sc := relS scope C.sc } k X → ∀ t, mE { C with sc := relS scope C.sc } c t = true → SE X call c t)
    (he : ∀ {X : Cx}, Gd W { C with sc := relS scope C.sc } k X → SE X call elt x)
    (eq : ∀ md env st, ev call m md env st = ((srcF env st).bind fun s st1 => lcLoop (fun e s => if has then (ev call c .test e s).bind fun x s1 => opt (isBl x) s1 else .ok true s) (ev call elt .val) g.put (wipe env g.slots) s 0 s.many [] st1).bind fun v st1 => done md v st1) :
    SE X call m (.ListComp x [⟨tg, iter, ifs, 0⟩] scope pos) := by
  have ok : BlkOk X.N X.env.scope scope (g.own C.N) := by rw [G.N, G.sc]; exact blkOk_by h2
  have p := pe_lc (pos := pos) (own := g.own C.N) (g := gOf X.K g) (tt := tTest' X.K call has c) (te := rd X.K (ev call elt .val)) G.calm G.nd hi ok
    (fun s H a cl fp => pgG (G.blk s H scope a cl fp) h3) (fun s H a cl fp => ts_ok h4 (hc (G.blk s H scope a cl fp))) (fun s H a cl fp => (he (G.blk s H scope a cl fp)).val) hp
  rw [own_slots] at p
  exact lc_plain (fun _ _ _ q => q) p eq fun _ => rfl
theorem lc_rng {C : Ct} {X : Cx} (G : Gd W C k X) (F : Fx W C k call) {elt a b c : ME} {g : MG} {has : Bool} {e : Expr} (h : mE C (.lc elt g (.rng a b) has c) e = true)
    (ia : ∀ {e : Expr}, mE C a e = true → SE X call a e) (ib : ∀ {e : Expr}, mE C b e = true → SE X call b e)
    (ic : ∀ {C' : Ct} {X : Cx} (G : Gd W C' k X) (F : Fx W C' k call) {e : Expr}, mE C' c e = true → SE X call c e)
    (ie : ∀ {C' : Ct} {X : Cx} (G : Gd W C' k X) (F : Fx W C' k call) {e : Expr}, mE C' elt e = true → SE X call elt e) : SE X call (.lc elt g (.rng a b) has c) e := by
  unfold mE at h
  split at h
  · rename_i x tg f p es pos ifs scope pos2
    simp only [Bool.and_eq_true, decide_eq_true_eq] at h
    obtain ⟨⟨⟨⟨⟨⟨⟨rfl, h1⟩, h2⟩, h3⟩, h4⟩, h5⟩, h6⟩, h7⟩ := h
    obtain ⟨g1, g2⟩ := gl_of (X := X) (by rw [G.sc]; exact h2)
    have hm : X.mg "range" = none := by rw [G.mg]; exact F.bl _ h1
    refine lc_mk G (srcF := fun env st => (ev call a .val env st).bind fun x st1 => (ev call b .val env st1).bind fun y st2 => rngV x y st2) ?_ (fun _ => rfl) h4 h5 h6
      (fun G' t ht => ic G' ⟨F.fn, F.cs, F.bl, F.ds⟩ ht) (fun G' => ie G' ⟨F.fn, F.cs, F.bl, F.ds⟩ h7) fun _ _ _ => ev_lcR
    split at h3
    · rename_i y
      split at h3
      · exact pi_rng1 (ib h3) g1 hm (star_ok (plain_ok h3) _ _)
      · cases h3
    · rename_i z y
      rw [Bool.and_eq_true] at h3
      have e2 : starEach [y] X.env = [(false, eval y X.env)] := star_ok (plain_ok h3.2) _ _
      exact pi_rng2 (ia h3.1) (ib h3.2) g1 hm (by rw [star_ok (plain_ok h3.1), e2]) e2
    · cases h3
  · cases h
mutual
theorem sE : ∀ (m : ME) {C : Ct} {X : Cx} (G : Gd W C k X) (F : Fx W C k call) {e : Expr}, mE C m e = true → SE X call m e
  | .var i, C, X, G, F, e, h => by
    cases e <;> try (exact absurd h Bool.false_ne_true)
    rename_i x pos
    have h : (decide (C.N[i]? = some x) && visB C.sc x && !(x == ("__debug__" : Str)) && !(x == ("__classdict__" : Str))) = true := h
    simp only [Bool.and_eq_true, decide_eq_true_eq, Bool.not_eq_true'] at h
    exact se_var (by rw [G.N]; exact h.1.1.1) (vis_of (by rw [G.sc]; exact h.1.1.2)) h.1.2 h.2
  | .con v, C, X, G, F, e, h => by
    cases e <;> try (exact absurd h Bool.false_ne_true)
    exact se_con h
  | .glb x v, C, X, G, F, e, h => by
    cases e <;> try (exact absurd h Bool.false_ne_true)
    rename_i y pos
    rw [mE] at h
    simp only [Bool.and_eq_true, decide_eq_true_eq] at h
    obtain ⟨⟨rfl, h2⟩, h3⟩ := h
    obtain ⟨g1, g2⟩ := gl_of (X := X) (by rw [G.sc]; exact h2)
    split at h3
    · rename_i w hw
      cases same_ok h3
      obtain ⟨f, u, v', c1, c2, c3, _⟩ := F.cs _ _ hw
      exact se_glb g1 (by rw [G.mg]; exact c1) c2 (by rw [G.K]; exact c3) f g2
    · cases h3
  | .bin o a b, C, X, G, F, e, h => by
    cases e <;> try (exact absurd h Bool.false_ne_true)
    rw [mE] at h
    simp only [Bool.and_eq_true, decide_eq_true_eq] at h
    obtain ⟨⟨rfl, h2⟩, h3⟩ := h
    exact se_bin (sE a G F h2) (sE b G F h3)
  | .neg a, C, X, G, F, e, h => by
    cases e <;> try (exact absurd h Bool.false_ne_true)
    rename_i op x pos
    cases op <;> try (exact absurd h Bool.false_ne_true)
    exact se_neg (sE a G F h)
  | .cmp o a b, C, X, G, F, e, h => by
    unfold mE at h
    split at h
    · simp only [Bool.and_eq_true, decide_eq_true_eq] at h
      obtain ⟨⟨rfl, h2⟩, h3⟩ := h
      exact se_cmp G.room.units (sE a G F h2) (sE b G F h3) (mark_ok (plain_ok h3) _)
    · cases h
  | .cmp2 o o' a b c, C, X, G, F, e, h => by
    unfold mE at h
    split at h
    · simp only [Bool.and_eq_true, decide_eq_true_eq] at h
      obtain ⟨⟨⟨⟨rfl, rfl⟩, h2⟩, h3⟩, h4⟩ := h
      exact se_cmp2 G.room.units (sE a G F h2) (sE b G F h3) (sE c G F h4) (marks_ok (plain_ok h3) (plain_ok h4) _ _)
    · cases h
  | .not a, C, X, G, F, e, h => by
    cases e <;> try (exact absurd h Bool.false_ne_true)
    rename_i op x pos
    cases op <;> try (exact absurd h Bool.false_ne_true)
    exact se_not (sE a G F h)
  | .and a b, C, X, G, F, e, h => by
    unfold mE at h
    split at h
    · rw [Bool.and_eq_true] at h
      exact (sb_and (sE a G F h.1) (sE b G F h.2).one).se
    · rw [Bool.and_eq_true] at h
      exact (sb_and (sE a G F h.1) (sE b G F h.2).sb).se
    · cases h
  | .or a b, C, X, G, F, e, h => by
    unfold mE at h
    split at h
    · rw [Bool.and_eq_true] at h
      exact (sb_or (sE a G F h.1) (sE b G F h.2).one).se
    · rw [Bool.and_eq_true] at h
      exact (sb_or (sE a G F h.1) (sE b G F h.2).sb).se
    · cases h
  | .ite t a b, C, X, G, F, e, h => by
    unfold mE at h
    split at h
    · simp only [Bool.and_eq_true] at h
      exact se_ite (sE t G F h.1.1) (sE a G F h.1.2) (sE b G F h.2) pt_never
    · cases h
  | .fn f as, C, X, G, F, e, h => by
    unfold mE at h
    split at h
    · rename_i x p y ys pos
      simp only [Bool.and_eq_true, decide_eq_true_eq] at h
      obtain ⟨⟨h1, h2⟩, h3⟩ := h
      obtain ⟨g1, g2⟩ := gl_of (X := X) (by rw [G.sc]; exact h2)
      obtain ⟨a, fd, ps, f1, f2, f3, f4⟩ := F.fn _ _ h1
      have f4' : FnOk X.prog X.w X.K X.mg X.base CX0 k a fd ps (spEv X.K (call f)) := by rw [G.P, G.w, G.K, G.mg, G.base]; exact f4
      have hh : plainE y = true ∧ (backTo pos (starEach ys X.env)).any (·.1) = false := by
        cases as with
        | nil => cases h3
        | cons a as =>
          rw [mA, Bool.and_eq_true] at h3
          exact ⟨plain_ok h3.1, any_ok h3.2⟩
      refine se_fn (sA as G F h3) (fun {t} pa => ?_) fun _ => rfl
      refine (pe_call f4' G.room g1 (by rw [G.mg]; exact f1) (by rw [G.K]; exact f2) (by rw [G.K]; exact f3) .nil pass0 pa g2 (star_ok hh.1 _ _) hh.2).imp fun σ H Q q => ?_
      have e : (fun vs H1 => spEv X.K (call f) (vs ++ []) H1 Q E0) = (fun vs H1 => spEv X.K (call f) vs H1 Q E0) := by
        funext vs H1
        rw [List.append_nil]
      show t σ H (fun vs H1 => spEv X.K (call f) (vs ++ []) H1 Q E0)
      rw [e]
      exact q
    · cases h
  | .bi f as, C, X, G, F, e, h => by
    unfold mE at h
    split at h
    · rename_i x p y ys pos
      simp only [Bool.and_eq_true, decide_eq_true_eq, Bool.or_eq_true] at h
      obtain ⟨⟨⟨⟨rfl, h1⟩, h2⟩, h4⟩, h3⟩ := h
      have hG : f = .reprD → X.A.guards = some [] ∧ X.A.units + 200 < cLine := fun e => by
        subst e
        have h4 : C.gk = true := h4.elim (fun z => by cases z) id
        exact ⟨G.gu h4, by have := G.room.un; omega⟩
      obtain ⟨g1, g2⟩ := gl_of (X := X) (by rw [G.sc]; exact h2)
      have hm : X.mg (bname f) = none := by rw [G.mg]; exact F.bl _ h1
      have hh : plainE y = true ∧ (backTo pos (starEach ys X.env)).any (·.1) = false := by
        cases as with
        | nil => cases h3
        | cons a as =>
          rw [mA, Bool.and_eq_true] at h3
          exact ⟨plain_ok h3.1, any_ok h3.2⟩
      refine se_bi (sA as G F h3) (fun {r t} hr pa => ?_) G.calm hG fun _ => rfl
      cases f <;> first
        | exact pe_callB hr g1 hm (by decide +kernel) pa (by decide) g2 (star_ok hh.1 _ _) hh.2
        | exact pe_callTy hr g1 hm (by decide +kernel) pa (by decide) g2 (star_ok hh.1 _ _) hh.2
    · cases h
  | .mt f o as, C, X, G, F, e, h => by
    unfold mE at h
    split at h
    · rename_i x name apos y pos
      simp only [Bool.and_eq_true, decide_eq_true_eq, Bool.not_eq_true'] at h
      obtain ⟨⟨⟨⟨rfl, h1⟩, h2⟩, h3⟩, h4⟩ := h
      have hy : plainE y = true := by
        cases as with
        | nil => cases h4
        | cons a as =>
          rw [mA, Bool.and_eq_true] at h4
          exact plain_ok h4.1
      have st := star_ok hy [] X.env
      refine se_mt (sE o G F h1) (sA as G F h4) (fun {r to t} hr po pa => ?_) fun _ => rfl
      have few : ((backTo pos (starEach [y] X.env)).all (fun x => !x.1) && (backToKw pos (keywordEach [] X.env)).all (fun x => x.1.isSome)
        && decide (([y] : List Expr).length + ([] : List Keyword).length + (if ([] : List Keyword).isEmpty then 0 else 1) < 30)) = true := by rw [st]; rfl
      cases f with
      | append => exact pe_bm PySem.F.plainAttrs_list PySem.F.slot_list_append PySem.F.type_list_append hr po pa (base_ok h3) few h2 st rfl
      | split => exact pe_bm PySem.F.plainAttrs_str PySem.F.slot_str_split PySem.F.type_str_split hr po pa (base_ok h3) few h2 st rfl
      | partition => exact pe_bm PySem.F.plainAttrs_str PySem.F.slot_str_partition PySem.F.type_str_partition hr po pa (base_ok h3) few h2 st rfl
      | join => exact pe_bm PySem.F.plainAttrs_str PySem.F.slot_str_join PySem.F.type_str_join hr po pa (base_ok h3) few h2 st rfl
    · cases h
  | .tup as, C, X, G, F, e, h => by
    cases e <;> try (exact absurd h Bool.false_ne_true)
    exact se_tup (sA as G F h)
  | .lst as, C, X, G, F, e, h => by
    cases e <;> try (exact absurd h Bool.false_ne_true)
    exact se_lst (sA as G F h)
  | .ix a i, C, X, G, F, e, h => by
    cases e <;> try (exact absurd h Bool.false_ne_true)
    rw [mE, Bool.and_eq_true] at h
    exact se_ix (sE a G F h.1) (sE i G F h.2) (ix_ok (plain_ok h.2))
  | .sl a lo hi, C, X, G, F, e, h => by
    unfold mE at h
    split at h
    · rename_i x l u p2 pos
      simp only [Bool.and_eq_true] at h
      refine se_sl (sE a G F h.1.1) ?_ ?_
      · have hl := h.1.2
        cases l with
        | none => exact po_absent hl
        | some y =>
          simp only [Bool.and_eq_true, Bool.not_eq_true'] at hl
          exact po_there hl.1 (sE lo G F hl.2)
      · have hl := h.2
        cases u with
        | none => exact po_absent hl
        | some y =>
          simp only [Bool.and_eq_true, Bool.not_eq_true'] at hl
          exact po_there hl.1 (sE hi G F hl.2)
    · cases h
  | .rng _ _, C, X, G, F, e, h => by cases h
  | .rev _, C, X, G, F, e, h => by cases h
  | .star _, C, X, G, F, e, h => by cases h
  | .tupS as, C, X, G, F, e, h => by
    cases e <;> try (exact absurd h Bool.false_ne_true)
    exact se_tupS (sI as G F h)
  | .gidx x vs a, C, X, G, F, e, h => by
    unfold mE at h
    split at h
    · rename_i y p name apos z pos
      simp only [Bool.and_eq_true, decide_eq_true_eq] at h
      obtain ⟨⟨⟨⟨⟨rfl, rfl⟩, h2⟩, h3⟩, h4⟩, h5⟩ := h
      obtain ⟨g1, g2⟩ := gl_of (X := X) (by rw [G.sc]; exact h2)
      split at h5
      · rename_i w hw
        cases same_ok h5
        obtain ⟨f, u, v', c1, c2, c3, c4⟩ := F.cs _ _ hw
        have st := star_ok (plain_ok h4) [] X.env
        have few : ((backTo pos (starEach [z] X.env)).all (fun x => !x.1) && (backToKw pos (keywordEach [] X.env)).all (fun x => x.1.isSome)
          && decide (([z] : List Expr).length + ([] : List Keyword).length + (if ([] : List Keyword).isEmpty then 0 else 1) < 30)) = true := by rw [st]; rfl
        exact se_gidx g1 (by rw [G.mg]; exact c1) c2 (by rw [G.K]; exact c3) g2 (by rw [G.K]; exact c4 _ rfl) (sE a G F h4) (fun {r to t} hr po pa => pe_bm PySem.F.plainAttrs_tuple PySem.F.slot_tuple_index PySem.F.type_tuple_index hr po pa rfl few h3 st rfl) st
      · cases h5
    · cases h
  | .fmt a, C, X, G, F, e, h => by
    unfold mE at h
    split at h
    · simp only [Bool.and_eq_true, decide_eq_true_eq] at h
      obtain ⟨rfl, h2⟩ := h
      exact se_fmt (sE a G F h2)
    · cases h
  | .fstr as, C, X, G, F, e, h => by
    unfold mE at h
    split at h
    · exact se_fstr (sJ as G F h)
    · cases h
  | .dix x kvs a, C, X, G, F, e, h => by
    unfold mE at h
    split at h
    · rename_i y p k pos
      simp only [Bool.and_eq_true, decide_eq_true_eq] at h
      obtain ⟨⟨⟨rfl, h1⟩, h3⟩, h4⟩ := h
      obtain ⟨g1, g2⟩ := gl_of (X := X) (by rw [G.sc]; exact h1)
      split at h3
      · rename_i w hw
        cases sameD_ok h3
        obtain ⟨dd, es, n, c1, c2, c3⟩ := F.ds _ _ hw
        have D : KDict X.K X.w dd es n := by rw [G.K, G.w]; exact c2
        exact se_dix D c3 (pe_glob (v := .ref dd) g1 (by rw [G.mg]; exact c1) rfl g2) (sE a G F h4) (ix_ok (plain_ok h4))
      · cases h3
    · cases h
  | .gget x kvs a b, C, X, G, F, e, h => by
    unfold mE at h
    split at h
    · rename_i y p name apos k d pos
      simp only [Bool.and_eq_true, decide_eq_true_eq] at h
      obtain ⟨⟨⟨⟨⟨⟨rfl, rfl⟩, h1⟩, h2⟩, h3⟩, h4⟩, h5⟩ := h
      obtain ⟨g1, g2⟩ := gl_of (X := X) (by rw [G.sc]; exact h1)
      split at h3
      · rename_i w hw
        cases sameD_ok h3
        obtain ⟨dd, es, n, c1, c2, c3⟩ := F.ds _ _ hw
        have s1 := star_ok (plain_ok h4) [d] X.env
        have s2 : starEach [d] X.env = [(false, eval d X.env)] := star_ok (plain_ok h5) [] X.env
        rw [s2] at s1
        have D : KDict X.K X.w dd es n := by rw [G.K, G.w]; exact c2
        refine se_gget D c3 (pe_glob (v := .ref dd) g1 (by rw [G.mg]; exact c1) rfl g2) (sE a G F h4) (sE b G F h5) ⟨rfl, ?_, h2, ?_⟩
        · rw [s1]; rfl
        · rw [s1]; rfl
      · cases h3
    · cases h
  | .mxd a d, C, X, G, F, e, h => by
    unfold mE at h
    split at h
    · rename_i f p x kw i j p2 p3 pos
      simp only [Bool.and_eq_true, decide_eq_true_eq] at h
      obtain ⟨⟨⟨⟨⟨rfl, h1⟩, h2⟩, rfl⟩, rfl⟩, h5⟩ := h
      exact se_mxd (sE a G F h5) G.calm (by have := G.room.un; omega) (gl_of (X := X) (by rw [G.sc]; exact h2)).1 (by rw [G.mg]; exact F.bl _ h1) (star_ok (plain_ok h5) _ _)
    · cases h
  | .isi t a, C, X, G, F, e, h => by
    unfold mE at h
    split at h
    · rename_i f p x y p2 pos
      simp only [Bool.and_eq_true, decide_eq_true_eq] at h
      obtain ⟨⟨⟨⟨⟨⟨rfl, h1⟩, h2⟩, rfl⟩, h3⟩, h4⟩, h5⟩ := h
      exact se_isi (sE a G F h5) (gl_of (X := X) (by rw [G.sc]; exact h2)).1 (by rw [G.mg]; exact F.bl _ h1) (gl_of (X := X) (by rw [G.sc]; exact h4)).1 (by rw [G.mg]; exact F.bl _ h3) (star_ok (plain_ok h5) _ _)
    · cases h
  | .lc elt g src has c, C, X, G, F, e, h => by
    by_cases hn : ∀ a b, src ≠ .rng a b
    · rw [mE_lc hn] at h
      split at h
      · rename_i x tg iter ifs scope pos
        simp only [Bool.and_eq_true] at h
        obtain ⟨⟨⟨⟨h1, h2⟩, h3⟩, h4⟩, h5⟩ := h
        exact lc_mk G (pi_used (sE src G F h1)) (set_ok (plain_ok h1) _) h2 h3 h4
          (fun G' t ht => sE c G' ⟨F.fn, F.cs, F.bl, F.ds⟩ ht) (fun G' => sE elt G' ⟨F.fn, F.cs, F.bl, F.ds⟩ h5) fun _ _ _ => ev_lc hn
      · cases h
    · cases src with
      | rng a b => exact lc_rng G F h (fun h => sE a G F h) (fun h => sE b G F h) (fun G F _ h => sE c G F h) (fun G F _ h => sE elt G F h)
      | _ => exact absurd (fun a b z => by cases z) hn
termination_by m => sizeOf m
theorem sJ : ∀ (as : MEs) {C : Ct} {X : Cx} (G : Gd W C k X) (F : Fx W C k call) {es : List Expr}, mA C as es = true → SJ X call as es
  | .nil, C, X, G, F, es, h => by
    cases es with
    | nil => exact sj_nil
    | cons _ _ => cases h
  | .cons a as, C, X, G, F, es, h => by
    cases es with
    | nil => cases h
    | cons e es =>
      rw [mA, Bool.and_eq_true] at h
      exact sj_cons (sE a G F h.1) (sJ as G F h.2)
termination_by as => sizeOf as
theorem sA : ∀ (as : MEs) {C : Ct} {X : Cx} (G : Gd W C k X) (F : Fx W C k call) {es : List Expr}, mA C as es = true → SA X call as es
  | .nil, C, X, G, F, es, h => by
    cases es with
    | nil => exact sa_nil
    | cons _ _ => cases h
  | .cons a as, C, X, G, F, es, h => by
    cases es with
    | nil => cases h
    | cons e es =>
      rw [mA, Bool.and_eq_true] at h
      exact sa_cons (sE a G F h.1) (sA as G F h.2) (star_ok (plain_ok h.1) _ _)
termination_by as => sizeOf as
theorem sI : ∀ (as : MEs) {C : Ct} {X : Cx} (G : Gd W C k X) (F : Fx W C k call) {es : List Expr}, mI C as es = true → PA X es (rdA X.K (evI call as))
  | .nil, C, X, G, F, es, h => by
    cases es with
    | nil => exact pi_nil
    | cons _ _ => cases h
  | .cons a as, C, X, G, F, es, h => by
    by_cases hs : ∃ b, a = .star b
    · obtain ⟨b, rfl⟩ := hs
      unfold mI at h
      split at h
      · rw [Bool.and_eq_true] at h
        exact pi_star (sE b G F h.1) (sI as G F h.2) rfl
      · cases h
    · have hn : ∀ b, a ≠ .star b := fun b e => hs ⟨b, e⟩
      cases es with
      | nil => cases a <;> first | (cases h; done) | (exact (hn _ rfl).elim)
      | cons e es =>
        have h : (mE C a e && mI C as es) = true := by
          cases a <;> first | (exact (hn _ rfl).elim; done) | (unfold mI at h; exact h)
        simp only [Bool.and_eq_true] at h
        exact pi_cons hn (sE a G F h.1) (sI as G F h.2) (star_ok (plain_ok h.1) _ _)
termination_by as => sizeOf as
end
end
end U

set_option maxHeartbeats 8000000
/-! U12: statements. -/
namespace U
open PySem PySem.Spec PyProof.Rows L2
/-! ### is this text that program -/
def notLc : Expr → Bool
  | .ListComp .. => false
  | .SetComp .. => false
  | .DictComp .. => false
  | _ => true
def notTup : Expr → Bool
  | .Tuple .. => false
  | _ => true
def mV1 (C : Ct) (i : Nat) (e : Expr) : Bool := match e with
  | .Name x _ => decide (C.N[i]? = some x) && locB C.sc x
  | _ => false
def mVs (C : Ct) : List Nat → List Expr → Bool
  | [], [] => true
  | i :: is, e :: es => mV1 C i e && mVs C is es
  | _, _ => false
def mV (C : Ct) (g : MG) (e : Expr) : Bool := match g, e with
  | .nm i, e => mV1 C i e
  | .tp is, .Tuple es _ _ => mVs C is es
  | _, _ => false
/-- x = [..] on one line, x a local -/
def lcOk (C : Ct) (x : Str) (px : Pos) (v : Expr) : Bool := match v with
  | .ListComp _ _ scope p => decide (C.sc.kind = .function) && decide (C.sc.names.lookup x = some .local) && (px.line == p.line) && !(scope.names.any fun (n, k) => n == x && (k == .local || k == .cell))
  | _ => false
/-- what a for walks -/
def mSrc (C : Ct) : ME → Expr → Bool
  | .rng a b, e => match e with
    | .Call (.Name f _) es [] _ => decide (f = "range") && C.bl.contains "range" && glB C.sc f && (match es with
        | [y] => (match a with
          | .con (.int 0) => mE C b y
          | _ => false)
        | [z, y] => mE C a z && mE C b y
        | _ => false)
    | _ => false
  | .rev a, e => match e with
    | .Call (.Name f _) [y] [] _ => decide (f = "reversed") && C.bl.contains "reversed" && glB C.sc f && mE C a y
    | _ => false
  | m, e => mE C m e
mutual
def mS (C : Ct) : MS → Stmt → Bool
  | .set i e own, s => match s with
    | .Assign [.Name x px] v pos => decide (C.N[i]? = some x) && locB C.sc x && mE C e v && (notLc v || lcOk C x px v)
    | _ => false
  | .setT is e, s => match s with
    | .Assign [.Tuple es k p] v pos => mVs C is es && mE C e v && notLc v && notTup v
    | _ => false
  | .par i j as, s => match s with
    | .Assign [.Tuple [.Name x px, .Name y py] kt pt] (.Tuple [a, b] k2 pt2) pos => decide (C.N[i]? = some x) && decide (C.N[j]? = some y) && !(i == j) && !(x == y) && decide (C.sc.names.lookup x = some .local) && decide (C.sc.names.lookup y = some .local) &&
        (py.line == px.line) && !(foldedForSure 8 a && foldedForSure 8 b) && !(constantsAlone 8 a && constantsAlone 8 b) && mA C as [a, b]
    | _ => false
  | .setIx a i e, s => match s with
    | .Assign [.Subscript o x p] v pos => mE C a o && mE C i x && mE C e v && notLc v
    | _ => false
  | .swp a i b j e, s => match s with
    | .Assign [.Tuple [.Subscript o x p1, .Subscript o2 x2 p2] kt pt] v pos => mE C a o && mE C i x && mE C b o2 && mE C j x2 && mE C e v && notLc v
    | _ => false
  | .ins a as, s => match s with
    | .Expr (.Call (.Attribute o name apos) [x, y] [] cpos) pos => decide (name = "insert") && (apos.endLine == cpos.line) && mE C a o && !(match o with
        | .Call _ [] [] _ => true
        | _ => false) && mA C as [x, y]
    | _ => false
  | .setSl a lo hi e, s => match s with
    | .Assign [.Subscript o (.Slice (some l) (some u) none p2) p1] (.List es p3) pos => mE C a o && mE C lo l && mE C hi u && mE C e (.List es p3)
    | _ => false
  | .aug i o e, s => match s with
    | .AugAssign (.Name x p) op v pos => decide (op = bop o) && decide (C.N[i]? = some x) && locB C.sc x && mE C e v
    | _ => false
  | .ex e, s => match s with
    | .Expr v pos => mE C e v && notLc v
    | _ => false
  | .ext i e, s => match s with
    | .Expr (.Call (.Attribute (.Name x p) name apos) [y] [] cpos) pos => decide (name = "extend") && (apos.endLine == cpos.line) && mE C (.var i) (.Name x p) && mE C e y
    | _ => false
  | .app i e, s => match s with
    | .Expr (.Call (.Attribute (.Name x p) name apos) [y] [] cpos) pos => decide (name = "append") && (apos.endLine == cpos.line) && mE C (.var i) (.Name x p) && mE C e y
    | _ => false
  | .ret e, s => match s with
    | .Return (some v) pos => mE C e v
    | _ => false
  | .ret0, s => match s with
    | .Return none pos => true
    | _ => false
  | .ite t a b, s => match s with
    | .If c x y pos => mE C t c && mSs C a x && mSs C b y
    | _ => false
  | .whl t b, s => match s with
    | .While c x [] pos => mE C t c && mSs C b x
    | _ => false
  | .for_ g src b, s => match s with
    | .For tg iter x [] pos => mV C g tg && mSrc C src iter && plainE iter && mSs C b x
    | _ => false
  | .brk, s => match s with
    | .Break _ => true
    | _ => false
  | .cnt, s => match s with
    | .Continue _ => true
    | _ => false
  | .pass, s => match s with
    | .Pass _ => true
    | _ => false
def mSs (C : Ct) : MSs → List Stmt → Bool
  | .nil, l => match l with
    | [] => true
    | _ => false
  | .cons s ss, l => match l with
    | [] => false
    | x :: xs => mS C s x && mSs C ss xs
end

/-! ### readings -/
section
variable {K : PySem.W.Frag} {μ : Nat → Addr} {L : Nat} {H : Hp} {X : Cx} {call : Nat → List PV → Store → Res PV}
/-- the lists of its own -/
def Own (env : En) (σ : L2.St) : Addr → Prop := fun a => ∃ (i : Nat) (xs : List PV), env[i]? = some (some (.fl xs)) ∧ σ[i]? = some (some (.ref a))
structure S1 (K : PySem.W.Frag) (μ : Nat → Addr) (L : Nat) (H : Hp) (env : En) (σ : L2.St) : Prop where
  re : RE K μ L H env σ
  de : ∀ (i j : Nat) (xs ys : List PV) (a : Addr), i ≠ j → env[i]? = some (some (.fl xs)) → env[j]? = some (some (.fl ys)) → σ[i]? = some (some (.ref a)) → σ[j]? = some (some (.ref a)) → False
theorem Own.there {env : En} {σ : L2.St} {a : Addr} (r : RE K μ L H env σ) (h : Own env σ a) : ∃ vs, H a = some (.lst vs) := by
  obtain ⟨i, xs, h1, h2⟩ := h
  obtain ⟨v, h3, h4⟩ := r.at_ i _ h1
  rw [h2] at h3
  cases h3
  cases h4 with
  | fl h5 _ _ => exact ⟨_, h5⟩
theorem S1.mono {μ1 : Nat → Addr} {L1 : Nat} {H1 : Hp} {env : En} {σ : L2.St} (s : Stp μ L H μ1 L1 H1) (r : S1 K μ L H env σ) : S1 K μ1 L1 H1 env σ := ⟨r.re.mono s, r.de⟩
def post (K : PySem.W.Frag) (S : Addr → Prop) (μ : Nat → Addr) (st : Store) (H : Hp) (r : SR) (D : Ends) : Prop := match r with
  | .nx e s => ∀ μ' H' σ', StX S μ st.length H μ' s.length H' → Ok K μ' s H' → S1 K μ' s.length H' e σ' → (∀ a, Own e σ' a → S a ∨ H a = none) → D.nx σ' H'
  | .bk e s => ∀ μ' H' σ', StX S μ st.length H μ' s.length H' → Ok K μ' s H' → S1 K μ' s.length H' e σ' → (∀ a, Own e σ' a → S a ∨ H a = none) → D.bk σ' H'
  | .ct e s => ∀ μ' H' σ', StX S μ st.length H μ' s.length H' → Ok K μ' s H' → S1 K μ' s.length H' e σ' → (∀ a, Own e σ' a → S a ∨ H a = none) → D.ct σ' H'
  | .rt v s => ∀ μ' H' v', StX S μ st.length H μ' s.length H' → Ok K μ' s H' → RV K μ' s.length H' v v' → (∀ a, v.isFl = true → v' = .ref a → S a ∨ H a = none) → D.rt v' H'
  | .bad => False
def rdS (K : PySem.W.Frag) (m : En → Store → SR) : TS := fun D σ H => ∃ μ env st, Ok K μ st H ∧ S1 K μ st.length H env σ ∧ post K (Own env σ) μ st H (m env st) D
theorem post.shift {S S' : Addr → Prop} {μ1 : Nat → Addr} {st st1 : Store} {H1 : Hp} {r : SR} {D : Ends} (s : StX S μ st.length H μ1 st1.length H1) (hs : ∀ a, S' a → S a ∨ H a = none) (p : post K S μ st H r D) : post K S' μ1 st1 H1 r D := by
  have own : ∀ a, S' a ∨ H1 a = none → S a ∨ H a = none := fun a z => z.elim (hs a) fun z => .inr (s.there a z)
  cases r with
  | nx e t => exact fun μ' H' σ' t o q w => p μ' H' σ' (s.trans t hs) o q fun a z => own a (w a z)
  | bk e t => exact fun μ' H' σ' t o q w => p μ' H' σ' (s.trans t hs) o q fun a z => own a (w a z)
  | ct e t => exact fun μ' H' σ' t o q w => p μ' H' σ' (s.trans t hs) o q fun a z => own a (w a z)
  | rt v t => exact fun μ' H' v' t o q w => p μ' H' v' (s.trans t hs) o q fun a z1 z2 => own a (w a z1 z2)
  | bad => exact p
theorem to_ok {α : Type} {r : Res α} {f : α → Store → SR} {S : Addr → Prop} {st : Store} {D : Ends} (h : post K S μ st H (r.to f) D) : ∃ a st1, r = .ok a st1 ∧ post K S μ st H (f a st1) D := by
  cases r with
  | ok a st1 => exact ⟨a, st1, rfl, h⟩
  | bad => exact h.elim
theorem post.mono {S : Addr → Prop} {st : Store} {r : SR} {D D' : Ends} (p : post K S μ st H r D) (hn : ∀ σ H, D.nx σ H → D'.nx σ H) (hr : ∀ v H, D.rt v H → D'.rt v H) (hb : ∀ σ H, D.bk σ H → D'.bk σ H) (hc : ∀ σ H, D.ct σ H → D'.ct σ H) : post K S μ st H r D' := by
  cases r with
  | nx e t => exact fun μ' H' σ' t o q w => hn _ _ (p μ' H' σ' t o q w)
  | bk e t => exact fun μ' H' σ' t o q w => hb _ _ (p μ' H' σ' t o q w)
  | ct e t => exact fun μ' H' σ' t o q w => hc _ _ (p μ' H' σ' t o q w)
  | rt v t => exact fun μ' H' v' t o q w => hr _ _ (p μ' H' v' t o q w)
  | bad => exact p
theorem _root_.L2.PS.imp {st : Stmt} {t t' : TS} (h : PS X st t) (i : ∀ D σ H, t' D σ H → t D σ H) : PS X st t' := ⟨fun pins s σ H D I q => h.run pins s σ H D I (i _ _ _ q)⟩
theorem _root_.L2.PSs.imp {st : List Stmt} {t t' : TS} (h : PSs X st t) (i : ∀ D σ H, t' D σ H → t D σ H) : PSs X st t' := ⟨fun pins s σ H D I q => h.run pins s σ H D I (i _ _ _ q)⟩

/-- a name gets a value that is shared or no list -/
theorem S1.set {env : En} {σ : L2.St} {x : PV} {v : V} (r : S1 K μ L H env σ) (q : RV K μ L H x v) (f : x.isFl = false) (i : Nat) : S1 K μ L H (env.set i (some x)) (σ.set i (some v)) ∧ ∀ a, Own (env.set i (some x)) (σ.set i (some v)) a → Own env σ a := by
  have key : ∀ (j : Nat) (xs : List PV) (a : Addr), (env.set i (some x))[j]? = some (some (.fl xs)) → (σ.set i (some v))[j]? = some (some (.ref a)) → env[j]? = some (some (.fl xs)) ∧ σ[j]? = some (some (.ref a)) := fun j xs a h1 h2 => by
    by_cases e : i = j
    · subst e
      by_cases hi : i < env.length
      · rw [List.getElem?_set_self hi] at h1
        cases h1; cases f
      · rw [List.getElem?_eq_none (by simp; omega)] at h1; cases h1
    · rw [List.getElem?_set_ne e] at h1 h2
      exact ⟨h1, h2⟩
  exact ⟨⟨r.re.set q i, fun j k xs ys a ne h1 h2 h3 h4 => let ⟨a1, a2⟩ := key j xs a h1 h3; let ⟨b1, b2⟩ := key k ys a h2 h4; r.de j k xs ys a ne a1 b1 a2 b2⟩, fun a ⟨j, xs, h1, h2⟩ => let ⟨a1, a2⟩ := key j xs a h1 h2; ⟨j, xs, a1, a2⟩⟩
/-- .. or a list that stands off its own lists -/
theorem S1.setFl {env : En} {σ : L2.St} {x : PV} {v : V} (r : S1 K μ L H env σ) (q : RV K μ L H x v) (f : ∀ a, x.isFl = true → v = .ref a → ¬ Own env σ a) (i : Nat) :
    S1 K μ L H (env.set i (some x)) (σ.set i (some v)) ∧ ∀ a, Own (env.set i (some x)) (σ.set i (some v)) a → Own env σ a ∨ (x.isFl = true ∧ v = .ref a) := by
  have key : ∀ (j : Nat) (xs : List PV) (a : Addr), (env.set i (some x))[j]? = some (some (.fl xs)) → (σ.set i (some v))[j]? = some (some (.ref a)) → (j ≠ i ∧ env[j]? = some (some (.fl xs)) ∧ σ[j]? = some (some (.ref a))) ∨ (j = i ∧ x.isFl = true ∧ v = .ref a) := fun j xs a h1 h2 => by
    by_cases e : i = j
    · subst e
      by_cases hi : i < env.length
      · rw [List.getElem?_set_self hi] at h1
        rw [List.getElem?_set_self (by rw [← r.re.len]; exact hi)] at h2
        cases h1; cases h2
        exact .inr ⟨rfl, rfl, rfl⟩
      · rw [List.getElem?_eq_none (by simp; omega)] at h1; cases h1
    · rw [List.getElem?_set_ne e] at h1 h2
      exact .inl ⟨fun z => e z.symm, h1, h2⟩
  refine ⟨⟨r.re.set q i, fun j k xs ys a ne h1 h2 h3 h4 => ?_⟩, fun a ⟨j, xs, h1, h2⟩ => ?_⟩
  · rcases key j xs a h1 h3 with ⟨_, a1, a2⟩ | ⟨rfl, f1, e1⟩
    · rcases key k ys a h2 h4 with ⟨_, b1, b2⟩ | ⟨rfl, f2, e2⟩
      · exact r.de j k xs ys a ne a1 b1 a2 b2
      · exact f a f2 e2 ⟨j, xs, a1, a2⟩
    · rcases key k ys a h2 h4 with ⟨_, b1, b2⟩ | ⟨e3, _, _⟩
      · exact f a f1 e1 ⟨k, ys, b1, b2⟩
      · exact ne e3.symm
  · rcases key j xs a h1 h2 with ⟨_, a1, a2⟩ | ⟨_, f1, e1⟩
    · exact .inl ⟨j, xs, a1, a2⟩
    · exact .inr ⟨f1, e1⟩
theorem S1.setEach {Q : L2.St → Hp → Prop} : ∀ {is : List Nat} {xs : List PV} {vs : List V} {env env' : En} {σ : L2.St}, U.setEach is xs env = some env' → S1 K μ L H env σ → RVs K μ L H xs vs →
    (∀ σ', S1 K μ L H env' σ' → (∀ a, Own env' σ' a → Own env σ a) → Q σ' H) → gAll is vs σ H Q
  | [], _, _, _, _, _, h, r, .nil, q => by
    cases h
    exact ⟨rfl, q _ r fun _ z => z⟩
  | [], _, _, _, _, _, h, _, .cons _ _ _, _ => by cases h
  | _ :: _, _, _, _, _, _, h, _, .nil, _ => by cases h
  | i :: is, _, _, _, _, _, h, r, .cons f rx rs, q =>
    ⟨_, _, rfl, S1.setEach h (r.set rx f i).1 rs fun σ' r' w => q σ' r' fun a z => (r.set rx f i).2 a (w a z)⟩
theorem S1.put {g : MG} {x : PV} {x' : V} {env env' : En} {σ : L2.St} {Q : L2.St → Hp → Prop} (h : g.put x env = some env') (r : S1 K μ L H env σ) (f : x.isFl = false) (rx : RV K μ L H x x')
    (q : ∀ σ', S1 K μ L H env' σ' → (∀ a, Own env' σ' a → Own env σ a) → Q σ' H) : gOf K g x' σ H Q := by
  cases g with
  | nm i =>
    cases h
    exact q _ (r.set rx f i).1 (r.set rx f i).2
  | tp is =>
    unfold MG.put at h
    simp only at h
    split at h
    · cases rx with
      | tup h1 r1 => exact ⟨_, _, rfl, h1, by rw [← r1.len]; exact setEach_len h, S1.setEach h r r1 q⟩
    · cases h
end
end U

set_option maxHeartbeats 8000000
/-! U13: statements, one by one. -/
namespace U
open PySem PySem.Spec PyProof.Rows L2
theorem dups2 {x y : Str} (h : (x == y) = false) : ([x, y] : List Str).eraseDups.length = 2 := by
  have h' : (y == x) = false := by
    cases q : y == x with
    | false => rfl
    | true => rw [eq_of_beq q, beq_self_eq_true] at h; cases h
  simp [List.eraseDups_cons, h']
theorem sw_par {x y : Str} {px py pt pt2 : Pos} {kt k2 : Nat} {a b : Expr} {env : Env} (hk : env.blockKind = .function) (hx : env.kindOf x = some .local) (hy : env.kindOf y = some .local) (hl : (py.line == px.line) = true) (ne : (x == y) = false)
    (sa : plainE a = true) (sb : plainE b = true) (hf : (foldedForSure 8 a && foldedForSure 8 b) = false) (hc : (constantsAlone 8 a && constantsAlone 8 b) = false) :
    swappedStores [.Tuple [.Name x px, .Name y py] kt pt] (.Tuple [a, b] k2 pt2) env = pure (some [x, y]) := by
  have hl' := eq_of_beq hl
  have d := dups2 ne
  have f2 : [a, b].all (foldedForSure 8) = false := by simpa using hf
  have c2 : [a, b].all (constantsAlone 8) = false := by simpa using hc
  unfold swappedStores
  simp only [hk, f2, c2, hl', Expr.pos, List.length_cons, List.length_nil, List.head?_cons, Option.map_some, Option.getD_some, List.filterMap_cons, List.filterMap_nil, hx, hy, beq_self_eq_true, Bool.and_self, if_true, d]
  rw [if_neg (by decide), if_neg, if_neg (by decide), if_neg Bool.false_ne_true, if_neg Bool.false_ne_true]
  cases a <;> first | (cases sa; done) | (cases b <;> first | exact Bool.false_ne_true | (cases sb; done))
section
variable {K : PySem.W.Frag} {X : Cx} {call : Nat → List PV → Store → Res PV} {m : ME}
/-- e, dropped -/
theorem ps_ex {e : ME} {x : Expr} {pos : Pos} {turns : Nat} (he : SE X call e x) (hs : swapsWith x none pos.line X.env = pure false) : PS X (.Expr x pos) (rdS X.K (evS call turns (.ex e))) := by
  refine (ps_expr he.val hs).imp fun D σ H ⟨μ, env, st, o, r, p⟩ => ?_
  rw [evS] at p
  obtain ⟨x1, st1, h1, p⟩ := to_ok p
  exact ⟨μ, env, st, x1, st1, o, r.re, h1, fun μ1 H1 x' s1 o1 r1 f1 => p μ1 H1 σ s1.wide o1 (r.mono s1) fun a z => .inl z⟩
/-- x = e -/
theorem set_imp {e : ME} {i : Nat} {own : Bool} {turns : Nat} : ∀ D σ H, rdS K (evS call turns (.set i e own)) D σ H → tAsg (rd K (ev call e .val)) (gName i) D σ H := fun D σ H ⟨μ, env, st, o, r, p⟩ => by
  rw [evS] at p
  obtain ⟨x1, st1, h1, p⟩ := to_ok p
  refine ⟨μ, env, st, x1, st1, o, r.re, h1, fun μ1 H1 x' s1 o1 r1 f1 => ?_⟩
  show D.nx (σ.set i (some x')) H1
  cases own with
  | true =>
    have off : ∀ a, x1.isFl = true → x' = .ref a → H a = none := fun a z e => by
      cases x1 <;> first | cases z | skip
      subst e
      exact f1
    obtain ⟨q1, q2⟩ := (r.mono s1).setFl r1 (fun a z e w => by
      obtain ⟨vs, hv⟩ := w.there r.re
      rw [off a z e] at hv; cases hv) i
    exact p μ1 H1 _ s1.wide o1 q1 fun a z => (q2 a z).elim .inl fun w => .inr (off a w.1 w.2)
  | false =>
    obtain ⟨μe, se, oe, re, fe, _⟩ := Ok.esc s1 o1 r1 f1
    obtain ⟨q1, q2⟩ := (r.mono se).set re fe i
    exact p μe H1 _ se.wide oe q1 fun a z => .inl (q2 a z)
/-- return e -/
theorem ps_retE {e : ME} {x : Expr} {pos : Pos} {turns : Nat} (he : SE X call e x) (hv : ∀ j, e = .var j → PE X x (tVar j)) : PS X (.Return (some x) pos) (rdS X.K (evS call turns (.ret e))) := by
  have val : PS X (.Return (some x) pos) (tRet (rd X.K (ev call e .val))) := ps_ret he.val
  refine ⟨fun pins s σ H D I ⟨μ, env, st, o, r, p⟩ => ?_⟩
  rw [evS] at p
  split at p
  · rename_i i xs hh
    unfold ME.held at hh
    split at hh
    · rename_i j
      split at hh
      · rename_i hy
        cases hh
        obtain ⟨v, h1, h2⟩ := r.re.at_ _ _ hy
        refine (ps_ret (pos := pos) (hv _ rfl)).run pins s σ H D I ⟨v, h1, p μ H v StX.refl o h2 fun a _ e => .inl ⟨_, _, hy, ?_⟩⟩
        rw [← e]; exact h1
      · cases hh
    · cases hh
  · obtain ⟨x1, st1, h1, p⟩ := to_ok p
    refine val.run pins s σ H D I ⟨μ, env, st, x1, st1, o, r.re, h1, fun μ1 H1 v' s1 o1 r1 f1 => ?_⟩
    refine p μ1 H1 v' s1.wide o1 r1 fun a z e => .inr ?_
    cases x1 <;> first | cases z | skip
    subst e
    exact f1
theorem ps_ret0 {pos : Pos} {turns : Nat} : PS X (.Return none pos) (rdS X.K (evS call turns .ret0)) := by
  refine ps_retN.imp fun D σ H ⟨μ, env, st, o, r, p⟩ => ?_
  rw [evS] at p
  exact p μ H .non StX.refl o .non fun a z => by cases z
theorem ps_brk {pos : Pos} {turns : Nat} : PS X (.Break pos) (rdS X.K (evS call turns .brk)) := by
  refine ps_break.imp fun D σ H ⟨μ, env, st, o, r, p⟩ => ?_
  rw [evS] at p
  exact p μ H σ StX.refl o r fun a z => .inl z
theorem ps_cnt {pos : Pos} {turns : Nat} : PS X (.Continue pos) (rdS X.K (evS call turns .cnt)) := by
  refine ps_continue.imp fun D σ H ⟨μ, env, st, o, r, p⟩ => ?_
  rw [evS] at p
  exact p μ H σ StX.refl o r fun a z => .inl z
theorem ps_pas {pos : Pos} {turns : Nat} : PS X (.Pass pos) (rdS X.K (evS call turns .pass)) := by
  refine ps_pass.imp fun D σ H ⟨μ, env, st, o, r, p⟩ => ?_
  rw [evS] at p
  exact p μ H σ StX.refl o r fun a z => .inl z
/-- if -/
theorem ps_ite {t : ME} {a b : MSs} {c : Expr} {x y : List Stmt} {pos : Pos} {turns : Nat} (ht : SE X call t c) (ha : PSs X x (rdS X.K (evSs call turns a))) (hb : PSs X y (rdS X.K (evSs call turns b))) : PS X (.If c x y pos) (rdS X.K (evS call turns (.ite t a b))) := by
  refine (ps_if ht.test ha hb).imp fun D σ H ⟨μ, env, st, o, r, p⟩ => ?_
  rw [evS] at p
  obtain ⟨x1, st1, h1, p⟩ := to_ok p
  split at p
  · rename_i hk
    cases isBl_ok hk
    exact ⟨μ, env, st, true, st1, o, r.re, h1, fun μ1 H1 s1 o1 => iteT ⟨μ1, env, st1, o1, r.mono s1, p.shift s1.wide fun a z => .inl z⟩⟩
  · rename_i hk
    cases isBl_ok hk
    exact ⟨μ, env, st, false, st1, o, r.re, h1, fun μ1 H1 s1 o1 => iteF ⟨μ1, env, st1, o1, r.mono s1, p.shift s1.wide fun a z => .inl z⟩⟩
  · exact p.elim
/-- a block -/
theorem pss_n {turns : Nat} : PSs X [] (rdS X.K (evSs call turns .nil)) := by
  refine pss_nil.imp fun D σ H ⟨μ, env, st, o, r, p⟩ => ?_
  rw [evSs] at p
  exact p μ H σ StX.refl o r fun a z => .inl z
theorem pss_c {s : MS} {ss : MSs} {x : Stmt} {xs : List Stmt} {turns : Nat} (h1 : PS X x (rdS X.K (evS call turns s))) (h2 : PSs X xs (rdS X.K (evSs call turns ss))) : PSs X (x :: xs) (rdS X.K (evSs call turns (.cons s ss))) := by
  refine (pss_cons h1 h2).imp fun D σ H ⟨μ, env, st, o, r, p⟩ => ⟨μ, env, st, o, r, ?_⟩
  rw [evSs] at p
  cases q : evS call turns s env st with
  | nx e1 s1 =>
    rw [q] at p
    exact fun μ' H' σ' t o' r' w => ⟨μ', e1, s1, o', r', post.shift (r := evSs call turns ss e1 s1) t w p⟩
  | rt v s1 => rw [q] at p; exact p
  | bk e1 s1 => rw [q] at p; exact p
  | ct e1 s1 => rw [q] at p; exact p
  | bad => rw [q] at p; exact p
/-- while -/
theorem whl_step {test : En → Store → Res PV} {body : En → Store → SR} {n : Nat} {env : En} {st : Store} : whlLoop test body (n + 1) env st = (test env st).to fun x st1 => match isBl x with
    | some true => match body env st1 with
      | .nx e s => whlLoop test body n e s
      | .ct e s => whlLoop test body n e s
      | .bk e s => .nx e s
      | r => r
    | some false => .nx env st1
    | none => .bad := rfl
theorem ps_whl {t : ME} {b : MSs} {c : Expr} {x : List Stmt} {pos : Pos} {turns : Nat} (hp : PassesOwn (model X.prog X.w) X.A X.env X.xe) (ht : SE X call t c) (hb : PSs X x (rdS X.K (evSs call turns b))) : PS X (.While c x [] pos) (rdS X.K (evS call turns (.whl t b))) := by
  refine (ps_while hp ht.test hb).imp fun D σ H ⟨μ, env, st, o, r, p⟩ => ?_
  rw [evS] at p
  refine ⟨fun m σ H => ∃ μ env st, Ok X.K μ st H ∧ S1 X.K μ st.length H env σ ∧ post X.K (Own env σ) μ st H (whlLoop (ev call t .test) (evSs call turns b) m env st) D, ⟨turns, μ, env, st, o, r, p⟩, ?_⟩
  rintro m σ H ⟨μ, env, st, o, r, p⟩
  cases m with
  | zero => exact p.elim
  | succ m =>
    rw [whl_step] at p
    obtain ⟨x1, st1, h1, p⟩ := to_ok p
    split at p
    · rename_i hk
      cases isBl_ok hk
      refine ⟨μ, env, st, true, st1, o, r.re, h1, fun μ1 H1 s1 o1 => iteT ⟨fun σ' H' => ∃ μ env st, Ok X.K μ st H' ∧ S1 X.K μ st.length H' env σ' ∧ post X.K (Own env σ') μ st H' (whlLoop (ev call t .test) (evSs call turns b) m env st) D,
        fun σ' H' w => ⟨m, Nat.lt_succ_self m, w⟩, μ1, env, st1, o1, r.mono s1, ?_⟩⟩
      have p := p.shift (S' := Own env σ) s1.wide fun a z => .inl z
      cases q : evSs call turns b env st1 with
      | nx e s => rw [q] at p; exact fun μ' H' σ' t o' r' w => ⟨μ', e, s, o', r', post.shift t w p⟩
      | ct e s => rw [q] at p; exact fun μ' H' σ' t o' r' w => ⟨μ', e, s, o', r', post.shift t w p⟩
      | bk e s => rw [q] at p; exact p
      | rt v s => rw [q] at p; exact p
      | bad => rw [q] at p; exact p
    · rename_i hk
      cases isBl_ok hk
      exact ⟨μ, env, st, false, st1, o, r.re, h1, fun μ1 H1 s1 o1 => iteF (p μ1 H1 σ s1.wide o1 (r.mono s1) fun a z => .inl z)⟩
    · exact p.elim

/-! ### for -/
def rdF (K : PySem.W.Frag) (m : En → Store → Res Src) : TI := fun σ H R => ∃ μ env st s st', Ok K μ st H ∧ S1 K μ st.length H env σ ∧ m env st = .ok s st' ∧
  ∀ μ' H' J, Stp μ st.length H μ' st'.length H' → Ok K μ' st' H' → SrcR K (Own env σ) μ' st'.length H' J s → R J H'
theorem pf_val {tg it : Expr} (h : SE X call m it) : PI X tg it (rdF X.K fun env st => (ev call m .val env st).bind fun x st1 => opt (srcV x st1) st1) := by
  refine ⟨fun pins s σ H R I ⟨μ, env, st, src, st', o, r, h1, g⟩ => ?_⟩
  obtain ⟨v, st1, h2, h3⟩ := bind_ok h1
  obtain ⟨h4, rfl⟩ := opt_ok h3
  have ls : (∀ μ1 H1 v', Stp μ st.length H μ1 st1.length H1 → Ok X.K μ1 st1 H1 → RV X.K μ1 st1.length H1 v v' → Fr H v v' → ∃ a, v' = .ref a ∧ (∃ xs, SqL X.K H1 a xs) ∧ R (Itl X.K a) H1) →
      wpAny (model X.prog X.w) X.A (eval it X.env) (fun v s1 => wpAny (model X.prog X.w) X.A (pyIter v) (PIE X pins σ tg R) X.xe s1) X.xe s :=
    fun q => (pi_list h.val).run pins s σ H R I ⟨μ, env, st, v, st1, o, r.re, h2, fun μ1 H1 v' s1 o1 r1 f1 => q μ1 H1 v' s1 o1 r1 f1⟩
  cases v with
  | str z =>
    cases h4
    refine (pi_str h.val).run pins s σ H R I ⟨μ, env, st, _, st1, o, r.re, h2, fun μ1 H1 v' s1 o1 r1 _ => ?_⟩
    cases r1
    exact ⟨z, rfl, g μ1 H1 _ s1 o1 .str⟩
  | tup xs =>
    cases h4
    refine (pi_tup h.val).run pins s σ H R I ⟨μ, env, st, _, st1, o, r.re, h2, fun μ1 H1 v' s1 o1 r1 _ => ?_⟩
    cases r1 with
    | tup h5 r5 => exact ⟨_, rfl, ⟨_, h5⟩, g μ1 H1 _ s1 o1 (.tup h5 r5)⟩
  | fl xs =>
    cases h4
    refine ls fun μ1 H1 v' s1 o1 r1 f1 => ?_
    cases r1 with
    | fl h5 n5 r5 => exact ⟨_, rfl, ⟨_, SqL.of h5⟩, g μ1 H1 _ s1 o1 (.own h5 n5 (fun z => by
        obtain ⟨vs, hv⟩ := z.there r.re
        rw [show H _ = none from f1] at hv; cases hv) r5)⟩
  | rol xs =>
    cases h4
    refine ls fun μ1 H1 v' s1 o1 r1 _ => ?_
    cases r1 with
    | rol h5 r5 => exact ⟨_, rfl, ⟨_, h5.sq⟩, g μ1 H1 _ s1 o1 (.rol h5 r5)⟩
  | loc n =>
    refine ls fun μ1 H1 v' s1 o1 r1 _ => ?_
    cases r1 with
    | loc h5 =>
      obtain ⟨xs, hx, e⟩ := Option.map_eq_some_iff.mp h4
      obtain ⟨vs, hv⟩ := o1.held h5
      subst e
      exact ⟨_, rfl, ⟨vs, SqL.of hv⟩, g μ1 H1 _ s1 o1 (.live h5)⟩
  | _ => cases h4
theorem pf_rev {tg y : Expr} {a : ME} {p pos : Pos} (ha : SE X call a y) (hg : Gl X "reversed") (hm : X.mg "reversed" = none) (hs : starEach [y] X.env = (false, eval y X.env) :: starEach [] X.env) :
    PI X tg (.Call (.Name "reversed" p) [y] [] pos) (rdF X.K (evSrc call (.rev a))) := by
  refine (RT.pi_revA hg hm ha.val hs).imp fun σ H R ⟨μ, env, st, src, st', o, r, h1, g⟩ => ?_
  have h1 : ((ev call a .val env st).bind fun v st1 => opt (revV v) st1) = .ok src st' := h1
  obtain ⟨v, st1, h2, h3⟩ := bind_ok h1
  obtain ⟨h4, rfl⟩ := opt_ok h3
  refine ⟨μ, env, st, v, st1, o, r.re, h2, fun μ1 H1 v' s1 o1 r1 f1 => ?_⟩
  cases v with
  | tup xs =>
    cases h4
    cases r1 with
    | tup h5 r5 => exact ⟨_, _, rfl, .inr ⟨h5, g μ1 H1 _ s1 o1 (.revT h5 r5)⟩⟩
  | fl xs =>
    cases h4
    cases r1 with
    | fl h5 n5 r5 => exact ⟨_, _, rfl, .inl ⟨SqL.of h5, g μ1 H1 _ s1 o1 (.revL h5 n5 (fun z => by
        obtain ⟨vs, hv⟩ := z.there r.re
        rw [show H _ = none from f1] at hv; cases hv) r5)⟩⟩
  | _ => cases h4
theorem pf_rng2 {tg x y : Expr} {a b : ME} {p pos : Pos} (ha : SE X call a x) (hb : SE X call b y) (hg : Gl X "range") (hm : X.mg "range" = none) (hs : starEach [x, y] X.env = [(false, eval x X.env), (false, eval y X.env)]) (hs2 : starEach [y] X.env = [(false, eval y X.env)]) :
    PI X tg (.Call (.Name "range" p) [x, y] [] pos) (rdF X.K fun env st => (ev call a .val env st).bind fun x st1 => (ev call b .val env st1).bind fun y st2 => rngV x y st2) := by
  refine (pi_range2 hg hm (pa_cons ha.val (pa_cons hb.val pa_nil hs2) (by rw [hs, hs2])) hs hs2).imp fun σ H R ⟨μ, env, st, s, st', o, r, h, g⟩ => ?_
  obtain ⟨x1, st1, h1, h2⟩ := bind_ok h
  obtain ⟨y1, st2, h3, h4⟩ := bind_ok h2
  obtain ⟨i, j, rfl, rfl, hb, rfl, rfl⟩ := rng_ok h4
  refine ⟨μ, env, st, _, st1, o, r.re, h1, fun μ1 H1 x' s1 o1 r1 _ => ⟨μ1, env, st1, _, _, o1, r.re.mono s1, h3, fun μ2 H2 y' s2 o2 r2 _ => ?_⟩⟩
  cases r1; cases r2
  exact ⟨i, j, rfl, hb, g μ2 H2 _ (Stp.trans s1 s2) o2 .rng⟩
theorem pf_rng1 {tg y : Expr} {b : ME} {p pos : Pos} (hb : SE X call b y) (hg : Gl X "range") (hm : X.mg "range" = none) (hs : starEach [y] X.env = [(false, eval y X.env)]) :
    PI X tg (.Call (.Name "range" p) [y] [] pos) (rdF X.K fun env st => (ev call (.con (.int 0)) .val env st).bind fun x st1 => (ev call b .val env st1).bind fun y st2 => rngV x y st2) := by
  refine (pi_range1 hg hm (pa_cons hb.val pa_nil hs) hs).imp fun σ H R ⟨μ, env, st, s, st', o, r, h, g⟩ => ?_
  obtain ⟨x1, st1, h1, h2⟩ := bind_ok h
  cases (show Res.ok (PV.int 0) st = Res.ok x1 st1 from h1)
  obtain ⟨y1, st2, h3, h4⟩ := bind_ok h2
  obtain ⟨i, j, e, rfl, hb, rfl, rfl⟩ := rng_ok h4
  cases e
  refine ⟨μ, env, _, _, _, o, r.re, h3, fun μ2 H2 y' s2 o2 r2 _ => ?_⟩
  cases r2
  have q := g μ2 H2 _ s2 o2 (.rng (lo := 0) (n := (j - 0).toNat))
  rw [Int.sub_zero] at q
  exact ⟨j, rfl, hb.2.2.1, hb.2.2.2, q⟩
theorem for_step {put : PV → En → Option En} {body : En → Store → SR} {src : Src} {j n : Nat} {env : En} {st : Store} : forLoop put body src j (n + 1) env st = match src.get j st with
    | none => .bad
    | some x => match put x env with
      | none => .bad
      | some env' => match body env' st with
        | .nx e s => forLoop put body src (j + 1) n e s
        | .ct e s => forLoop put body src (j + 1) n e s
        | .bk e s => .nx e s
        | r => r := rfl
theorem ps_forE {g : MG} {src : ME} {b : MSs} {tg iter : Expr} {x : List Stmt} {pos : Pos} {turns : Nat} (hp : PassesOwn (model X.prog X.w) X.A X.env X.xe) (hc : X.calm = true) (hi : PI X tg iter (rdF X.K (evSrc call src))) (hg : PG X tg (gOf X.K g))
    (hb : PSs X x (rdS X.K (evSs call turns b))) (hs : ∀ x, foldedSetIterable iter X.env x = pure x) : PS X (.For tg iter x [] pos) (rdS X.K (evS call turns (.for_ g src b))) := by
  refine (ps_for hp hc hi hg hb hs).imp fun D σ H ⟨μ, env, st, o, r, p⟩ => ?_
  rw [evS] at p
  obtain ⟨src1, st1, h1, p⟩ := to_ok p
  refine ⟨μ, env, st, src1, st1, o, r, h1, fun μ1 H1 J s1 o1 j1 => ?_⟩
  have p := p.shift (S' := Own env σ) s1.wide fun a z => .inl z
  refine ⟨fun i m σ H => ∃ μ env st, Ok X.K μ st H ∧ S1 X.K μ st.length H env σ ∧ SrcR X.K (Own env σ) μ st.length H J src1 ∧ i + m = src1.many ∧ post X.K (Own env σ) μ st H (forLoop g.put (evSs call turns b) src1 i m env st) D,
    ⟨src1.many, μ1, env, st1, o1, r.mono s1, j1, by omega, p⟩, ?_⟩
  rintro i m σ H ⟨μ, env, st, o, r, j, em, p⟩
  cases m with
  | zero =>
    refine .inl ?_
    unfold forLoop at p
    split at p
    · rename_i hf
      have q := j.stop o hf
      have e0 : i = src1.many := by omega
      subst e0
      exact ⟨q, p μ H σ StX.refl o r fun a z => .inl z⟩
    · exact p.elim
  | succ m =>
    refine .inr ?_
    rw [for_step] at p
    split at p
    · exact p.elim
    · rename_i x hx
      split at p
      · exact p.elim
      · rename_i env' hput
        obtain ⟨q1, q2⟩ := j.go o hx
        refine ⟨q1, fun σ' H' => ∃ μ env st, Ok X.K μ st H' ∧ S1 X.K μ st.length H' env σ' ∧ SrcR X.K (Own env σ') μ st.length H' J src1 ∧ (i + 1) + m = src1.many ∧ post X.K (Own env σ') μ st H' (forLoop g.put (evSs call turns b) src1 (i + 1) m env st) D,
          fun σ' H' w => ⟨m, Nat.lt_succ_self m, w⟩, fun x' H' y => ?_⟩
        obtain ⟨rfl, rx, fx⟩ := q2 x' H' y
        refine S1.put hput r fx rx fun σ2 r2 w2 => ⟨μ, env', st, o, r2, ?_⟩
        have p := p.shift (S' := Own env' σ2) StX.refl fun a z => .inl (w2 a z)
        have j2 := j.mono (S1 := Own env' σ2) StX.refl fun a z => .inl (w2 a z)
        cases q : evSs call turns b env' st with
        | nx e s => rw [q] at p; exact fun μ' H' σ' t o' r' w => ⟨μ', e, s, o', r', j2.mono t w, by omega, post.shift t w p⟩
        | ct e s => rw [q] at p; exact fun μ' H' σ' t o' r' w => ⟨μ', e, s, o', r', j2.mono t w, by omega, post.shift t w p⟩
        | bk e s => rw [q] at p; exact p
        | rt v s => rw [q] at p; exact p
        | bad => rw [q] at p; exact p
/-- a, b = x, y -/
theorem ps_parS {i j : Nat} {as : MEs} {x y : Str} {a b : Expr} {px py pt pt2 pos : Pos} {kt k2 : Nat} {turns : Nat} (hc : X.calm = true) (hN : X.N.Nodup) (hi : X.N[i]? = some x) (hj : X.N[j]? = some y) (hij : i ≠ j)
    (hx : X.env.scope.names.lookup x = some .local) (hy : X.env.scope.names.lookup y = some .local) (ha : SA X call as [a, b])
    (hw : swappedStores [.Tuple [.Name x px, .Name y py] kt pt] (.Tuple [a, b] k2 pt2) X.env = pure (some [x, y])) :
    PS X (.Assign [.Tuple [.Name x px, .Name y py] kt pt] (.Tuple [a, b] k2 pt2) pos) (rdS X.K (evS call turns (.par i j as))) := by
  refine (ps_par hc hN hi hj hij hx hy ha.kept hw rfl).imp fun D σ H ⟨μ, env, st, o, r, p⟩ => ?_
  rw [evS] at p
  obtain ⟨xs, st1, h2, p⟩ := to_ok p
  refine ⟨μ, env, st, xs, st1, o, r.re, h2, fun μ1 H1 vs s1 o1 r1 => ?_⟩
  split at p
  · cases r1 with
    | cons f1 q1 t1 =>
      cases t1 with
      | cons f2 q2 t2 =>
        cases t2
        obtain ⟨z1, z2⟩ := (r.mono s1).set q1 f1 i
        obtain ⟨z3, z4⟩ := z1.set q2 f2 j
        exact ⟨_, _, rfl, p μ1 H1 _ s1.wide o1 z3 fun a w => .inl (z2 a (z4 a w))⟩
  · exact p.elim
/-- a, b = e -/
theorem ps_tup {is : List Nat} {e : ME} {x tg : Expr} {pos : Pos} {turns : Nat} (he : SE X call e x) (hg : PG X tg (gTup X.K is.length (gAll is))) (hs : swapsWithSole [tg] x pos.line X.env = pure false) (hw : swappedStores [tg] x X.env = pure none)
    (h1 : (assignEach [tg] X.env).map (·.2) = [assign tg X.env]) : PS X (.Assign [tg] x pos) (rdS X.K (evS call turns (.setT is e))) := by
  refine (ps_asg he.val hg hs hw h1).imp fun D σ H ⟨μ, env, st, o, r, p⟩ => ?_
  rw [evS] at p
  obtain ⟨x1, st1, h2, p⟩ := to_ok p
  refine ⟨μ, env, st, x1, st1, o, r.re, h2, fun μ1 H1 x' s1 o1 r1 f1 => ?_⟩
  split at p
  · split at p
    · rename_i env' hset
      cases r1 with
      | tup h3 r3 =>
        exact ⟨_, _, rfl, h3, by rw [← r3.len]; exact setEach_len hset, S1.setEach hset (r.mono s1) r3 fun σ' r' w => p μ1 H1 σ' s1.wide o1 r' fun a z => .inl (w a z)⟩
    · exact p.elim
  · exact p.elim
/-- a[i] = e -/
theorem ps_ix {a i e : ME} {y z x : Expr} {p1 pos : Pos} {turns : Nat} (ha : SE X call a y) (hi : SE X call i z) (he : SE X call e x) (hs : swapsWithSole [.Subscript y z p1] x pos.line X.env = pure false) (hw : swappedStores [.Subscript y z p1] x X.env = pure none)
    (hsub : ∀ v, assign (.Subscript y z p1) X.env v = (do
      let ov ← holding [v] (eval y X.env)
      let iv ← holding [v, ov] (eval z X.env)
      standAt p1
      holding [v, ov, iv] (setItem ov iv v)
      release [v, ov, iv] [])) : PS X (.Assign [.Subscript y z p1] x pos) (rdS X.K (evS call turns (.setIx a i e))) := by
  refine (ps_asg he.val (pg_sub ha.val hi.val set_list hsub) hs hw rfl).imp fun D σ H ⟨μ, env, st, o, r, p⟩ => ?_
  rw [evS] at p
  obtain ⟨v1, st1, h1, p⟩ := to_ok p
  obtain ⟨o1, st2, h2, p⟩ := to_ok p
  obtain ⟨k1, st3, h3, p⟩ := to_ok p
  refine ⟨μ, env, st, v1, st1, o, r.re, h1, fun μ1 H1 v' s1 ok1 r1 f1 => ⟨μ1, env, st1, o1, st2, ok1, r.re.mono s1, h2, fun μ2 H2 o' s2 ok2 r2 f2 => ⟨μ2, env, st2, k1, st3, ok2, r.re.mono (Stp.trans s1 s2), h3, fun μ3 H3 k' s3 ok3 r3 f3 => ?_⟩⟩⟩
  split at p
  · rename_i n k
    cases r3
    have r2 := r2.mono0 s3
    cases r2 with
    | loc hn =>
      split at p
      · rename_i xs hx
        split at p
        · rename_i j hj
          split at p
          · exact p.elim
          · rename_i nf
            obtain ⟨vs, q1, q2⟩ := ok3.cell _ _ hx
            have r1 := r1.mono0 (Stp.trans s2 s3)
            have nf : v1.isFl = false := by simpa using nf
            obtain ⟨w1, w2⟩ := ok3.write hn (q2.set nf r1 j)
            refine ⟨_, vs, _, j, rfl, rfl, q1, by rw [← q2.len]; exact hj, ?_⟩
            have all := Stp.trans s1 (Stp.trans s2 (Stp.trans s3 w1))
            exact p μ3 _ σ all.wide w2 (r.mono all) fun a z => .inl z
        · exact p.elim
      · exact p.elim
  · exact p.elim
theorem putIx_at {o1 k1 v1 : PV} {o' k' v' : V} {st st' : Store} (h : putIx o1 k1 v1 st = some st') (o : Ok K μ st H) (ro : RV K μ st.length H o1 o') (rk : RV K μ st.length H k1 k') (rv : RV K μ st.length H v1 v') :
    ∃ p vs k j H', o' = .ref p ∧ k' = .int k ∧ H p = some (.lst vs) ∧ L2.ixN vs.length k = some j ∧ H' = upd H p (.lst (vs.set j v')) ∧ Stp μ st.length H μ st'.length H' ∧ Ok K μ st' H' := by
  unfold putIx at h
  split at h
  · rename_i n k
    cases rk
    cases ro with
    | loc hn =>
      split at h
      · rename_i xs hx
        split at h
        · rename_i j hj
          split at h
          · cases h
          · rename_i nf
            cases h
            obtain ⟨vs, q1, q2⟩ := o.cell _ _ hx
            have nf : v1.isFl = false := by simpa using nf
            obtain ⟨w1, w2⟩ := o.write hn (q2.set nf rv j)
            exact ⟨_, vs, _, j, _, rfl, rfl, q1, by rw [← q2.len]; exact hj, rfl, w1, w2⟩
        · cases h
      · cases h
  · cases h
/-- a[i], b[j] = e -/
theorem ps_swp {a i b j e : ME} {o x o2 x2 v : Expr} {p1 p2 pt pos : Pos} {kt : Nat} {turns : Nat} (hc : X.calm = true) (ha : SE X call a o) (hi : SE X call i x) (hb : SE X call b o2) (hj : SE X call j x2) (he : SE X call e v)
    (hs : swapsWithSole [.Tuple [.Subscript o x p1, .Subscript o2 x2 p2] kt pt] v pos.line X.env = pure false) (hw : swappedStores [.Tuple [.Subscript o x p1, .Subscript o2 x2 p2] kt pt] v X.env = pure none)
    (hsub1 : ∀ v, assign (.Subscript o x p1) X.env v = (do
      let ov ← holding [v] (eval o X.env)
      let iv ← holding [v, ov] (eval x X.env)
      standAt p1
      holding [v, ov, iv] (setItem ov iv v)
      release [v, ov, iv] []))
    (hsub2 : ∀ v, assign (.Subscript o2 x2 p2) X.env v = (do
      let ov ← holding [v] (eval o2 X.env)
      let iv ← holding [v, ov] (eval x2 X.env)
      standAt p2
      holding [v, ov, iv] (setItem ov iv v)
      release [v, ov, iv] [])) : PS X (.Assign [.Tuple [.Subscript o x p1, .Subscript o2 x2 p2] kt pt] v pos) (rdS X.K (evS call turns (.swp a i b j e))) := by
  refine (ps_asg he.val (pg_tup (n := 2) hc (pgs_cons (pg_sub ha.val hi.val set_list hsub1) (pgs_cons (pg_sub hb.val hj.val set_list hsub2) pgs_nil rfl) rfl) rfl rfl) hs hw rfl).imp fun D σ H ⟨μ, env, st, ok, r, p⟩ => ?_
  rw [evS] at p
  obtain ⟨v1, st1, h1, p⟩ := to_ok p
  refine ⟨μ, env, st, v1, st1, ok, r.re, h1, fun μ1 H1 v' s1 ok1 r1 f1 => ?_⟩
  split at p
  · rename_i y1 y2
    obtain ⟨o1, st2, h2, p⟩ := to_ok p
    obtain ⟨k1, st3, h3, p⟩ := to_ok p
    split at p
    · rename_i st4 h4
      obtain ⟨o3, st5, h5, p⟩ := to_ok p
      obtain ⟨k3, st6, h6, p⟩ := to_ok p
      split at p
      · rename_i st7 h7
        cases r1 with
        | tup q1 q2 =>
          cases q2 with
          | @cons _ z1 _ _ f1 ra q3 =>
            cases q3 with
            | @cons _ z2 _ _ f2 rb q4 =>
              cases q4
              refine ⟨_, _, rfl, q1, rfl, z1, [z2], rfl, μ1, env, st1, o1, st2, ok1, r.re.mono s1, h2, fun μ2 H2 o' s2 ok2 r2 _ => ⟨μ2, env, st2, k1, st3, ok2, r.re.mono (Stp.trans s1 s2), h3, fun μ3 H3 k' s3 ok3 r3 _ => ?_⟩⟩
              have ra3 := ra.mono0 (Stp.trans s2 s3)
              have ro3 := r2.mono0 s3
              obtain ⟨pa, vs, k, j', H4, rfl, rfl, w1, w2, rfl, w3, w4⟩ := putIx_at h4 ok3 ro3 r3 ra3
              refine ⟨pa, vs, k, j', rfl, rfl, w1, w2, z2, [], rfl, μ3, env, st4, o3, st5, w4, r.re.mono (Stp.trans s1 (Stp.trans s2 (Stp.trans s3 w3))), h5, fun μ5 H5 o5 s5 ok5 r5 _ => ⟨μ5, env, st5, k3, st6, ok5, r.re.mono (Stp.trans s1 (Stp.trans s2 (Stp.trans s3 (Stp.trans w3 s5)))), h6, fun μ6 H6 k6 s6 ok6 r6 _ => ?_⟩⟩
              have rb6 := rb.mono0 (Stp.trans s2 (Stp.trans s3 (Stp.trans w3 (Stp.trans s5 s6))))
              have ro6 := r5.mono0 s6
              obtain ⟨pb, vs2, k2, j2, H7, rfl, rfl, u1, u2, rfl, u3, u4⟩ := putIx_at h7 ok6 ro6 r6 rb6
              have all := Stp.trans s1 (Stp.trans s2 (Stp.trans s3 (Stp.trans w3 (Stp.trans s5 (Stp.trans s6 u3)))))
              exact ⟨pb, vs2, k2, j2, rfl, rfl, u1, u2, rfl, p μ6 _ σ all.wide u4 (r.mono all) fun a z => .inl z⟩
      · exact p.elim
    · exact p.elim
  · exact p.elim
/-- a.insert(i, e) -/
theorem ps_ins {a : ME} {as : MEs} {o x y : Expr} {apos cpos pos : Pos} {turns : Nat} (ha : SE X call a o) (hs : SA X call as [x, y])
    (hc : ∀ {r : V → List V → Hp → VK → Prop} {to : TE} {t : TA}, MtR X "list.insert" r → PE X o to → PA X [x, y] t → PE X (.Call (.Attribute o "insert" apos) [x, y] [] cpos) (tBM X.K "list" r to t))
    (hw : swapsWith (.Call (.Attribute o "insert" apos) [x, y] [] cpos) none pos.line X.env = pure false) : PS X (.Expr (.Call (.Attribute o "insert" apos) [x, y] [] cpos) pos) (rdS X.K (evS call turns (.ins a as))) := by
  refine (ps_expr (hc mt_insert ha.val hs.kept) hw).imp fun D σ H ⟨μ, env, st, ok, r, p⟩ => ?_
  rw [evS] at p
  obtain ⟨o1, st1, h1, p⟩ := to_ok p
  obtain ⟨xs, st2, h2, p⟩ := to_ok p
  split at p
  · rename_i n k v _
    split at p
    · rename_i ys hys
      split at p
      · rename_i hb
        obtain ⟨b1, b2, b3, b4⟩ := hb
        refine ⟨μ, env, st, _, st1, ok, r.re, h1, fun μ1 H1 o' s1 ok1 r1 f1 => ?_⟩
        cases r1 with
        | loc hn =>
          obtain ⟨zs, hz⟩ := ok1.held hn
          refine ⟨.inl ⟨rfl, zs, SqL.of hz⟩, μ1, env, st1, _, st2, ok1, r.re.mono s1, h2, fun μ2 H2 vs s2 ok2 r2 => ?_⟩
          cases r2 with
          | @cons _ w1 _ _ g1 q1 r2 =>
            cases q1
            cases r2 with
            | @cons _ w2 _ _ g2 q2 r3 =>
              cases r3
              obtain ⟨ws, e1, e2⟩ := ok2.cell _ _ hys
              have en := s2.ext n hn
              have hn2 : n < st2.length := (List.getElem?_eq_some_iff.mp hys).1
              obtain ⟨s3, o3⟩ := ok2.write hn2 (RVs.app (RVs.app (e2.take k.toNat) (RVs.one b4 q2)) (e2.drop k.toNat))
              refine ⟨μ2 n, ws, k, w2, by rw [en], rfl, e1, by rw [← e2.len]; exact b1, b2, b3, ?_⟩
              have all := Stp.trans s1 (Stp.trans s2 s3)
              exact p μ2 _ σ all.wide o3 (r.mono all) fun a z => .inl z
      · exact p.elim
    · exact p.elim
  · exact p.elim
/-- a target with a slice -/
def gSl (to tl tu : TE) : TG := fun v σ H Q => to σ H fun ov H1 => tl σ H1 fun x H2 => ∃ i, x = .int i ∧ tu σ H2 fun y H3 => ∃ j, y = .int j ∧ ∃ a b xs ys, ov = .ref a ∧ v = .ref b ∧ H3 a = some (.lst xs) ∧ H3 b = some (.lst ys) ∧ a ≠ b ∧ 0 ≤ i ∧ i ≤ j ∧ j ≤ xs.length ∧ xs.length + ys.length ≤ sizeLine ∧
  Q σ (upd H3 a (.lst (xs.take i.toNat ++ ys ++ xs.drop j.toNat)))
theorem pg_slice {o l u : Expr} {to tl tu : TE} {p1 p2 : Pos} (ho : PE X o to) (hl : PE X l tl) (hu : PE X u tu)
    (ha : ∀ v, assign (.Subscript o (.Slice (some l) (some u) none p2) p1) X.env v = (do
      let ov ← holding [v] (eval o X.env)
      let iv ← holding [v, ov] (eval (.Slice (some l) (some u) none p2) X.env)
      standAt p1
      holding [v, ov, iv] (setItem ov iv v)
      release [iv, v, ov] [])) : PG X (.Subscript o (.Slice (some l) (some u) none p2) p1) (gSl to tl tu) := by
  refine ⟨fun pins s σ H v w Q I r h => ?_⟩
  rw [ha]
  refine wpAny_bind (wpAny_holding (thn (ho.run pins s σ H _ I h) fun ov s1 ⟨x, H1, I1, r1, q1⟩ => ?_))
  refine wpAny_bind (wpAny_holding ?_)
  refine wpAny_Slice (thn (hl.run pins s1 σ H1 _ I1 q1) fun vl s2 ⟨y, H2, I2, r2, q2⟩ => ?_)
  obtain ⟨i, rfl, q2⟩ := q2
  refine thn (hu.run pins s2 σ H2 _ I2 q2) fun vu s3 ⟨z, H3, I3, r3, q3⟩ => ?_
  obtain ⟨j, rfl, a, b, xs, ys, rfl, rfl, e1, e2, ne, b1, b2, b3, b4, q4⟩ := q3
  refine wpAny_pure ?_
  have I4 : Inv X pins σ H3 { s3 with heap := s3.heap.push { cls := .type "slice", data := .fields #[vl, vu, .none] } } := I3.kept (t' := s3.toks) fun b ob q => Heap.get?_push_of_some _ q
  obtain rfl : ov = Value.ref a := r1
  obtain rfl : w = Value.ref b := r
  refine wpAny_bind (wpAny_standAt (wpAny_bind (wpAny_holding ?_)))
  refine set_slice I4 e1 e2 ne (Heap.IsSliceOf.new ..) r2 r3 b1 b2 b3 b4 fun s' I5 => ?_
  exact wpAny_release ⟨σ, _, I5, q4⟩
/-- a[l:u] = [..] -/
theorem ps_setSl {a lo hi e : ME} {o l u x : Expr} {p1 p2 pos : Pos} {turns : Nat} (ha : SE X call a o) (hl : SE X call lo l) (hu : SE X call hi u) (he : SE X call e x) (hs : swapsWithSole [.Subscript o (.Slice (some l) (some u) none p2) p1] x pos.line X.env = pure false) (hw : swappedStores [.Subscript o (.Slice (some l) (some u) none p2) p1] x X.env = pure none)
    (hsub : ∀ v, assign (.Subscript o (.Slice (some l) (some u) none p2) p1) X.env v = (do
      let ov ← holding [v] (eval o X.env)
      let iv ← holding [v, ov] (eval (.Slice (some l) (some u) none p2) X.env)
      standAt p1
      holding [v, ov, iv] (setItem ov iv v)
      release [iv, v, ov] [])) : PS X (.Assign [.Subscript o (.Slice (some l) (some u) none p2) p1] x pos) (rdS X.K (evS call turns (.setSl a lo hi e))) := by
  refine (ps_asg he.val (pg_slice ha.val hl.val hu.val hsub) hs hw rfl).imp fun D σ H ⟨μ, env, st, ok, r, p⟩ => ?_
  rw [evS] at p
  obtain ⟨v1, st1, h1, p⟩ := to_ok p
  obtain ⟨o1, st2, h2, p⟩ := to_ok p
  obtain ⟨l1, st3, h3, p⟩ := to_ok p
  obtain ⟨u1, st4, h4, p⟩ := to_ok p
  refine ⟨μ, env, st, v1, st1, ok, r.re, h1, fun μ1 H1 v' s1 ok1 r1 f1 => ⟨μ1, env, st1, o1, st2, ok1, r.re.mono s1, h2, fun μ2 H2 o' s2 ok2 r2 f2 => ⟨μ2, env, st2, l1, st3, ok2, r.re.mono (Stp.trans s1 s2), h3, fun μ3 H3 l' s3 ok3 r3 f3 => ?_⟩⟩⟩
  split at p
  · rename_i zs n i j _ _ _
    cases r3
    refine ⟨i, rfl, μ3, env, st3, _, st4, ok3, r.re.mono (Stp.trans s1 (Stp.trans s2 s3)), h4, fun μ4 H4 u' s4 ok4 r4 f4 => ?_⟩
    cases r4
    split at p
    · rename_i ys hys
      split at p
      · rename_i hb
        obtain ⟨b1, b2, b3, b4⟩ := hb
        have q1 := r1.mono0 (Stp.trans s2 (Stp.trans s3 s4))
        have q2 := r2.mono0 (Stp.trans s3 s4)
        cases q2 with
        | loc hn =>
          cases q1 with
          | fl h5 n5 r5 =>
            obtain ⟨ws, e1, e2⟩ := ok4.cell _ _ hys
            have hn4 : n < st4.length := (List.getElem?_eq_some_iff.mp hys).1
            obtain ⟨w1, w2⟩ := ok4.write hn4 (RVs.app (RVs.app (e2.take i.toNat) r5) (e2.drop j.toNat))
            refine ⟨j, rfl, μ4 n, _, ws, _, rfl, rfl, e1, h5, n5 n hn4, b1, b2, by rw [← e2.len]; exact b3, by rw [← e2.len, ← r5.len]; exact b4, ?_⟩
            have all := Stp.trans s1 (Stp.trans s2 (Stp.trans s3 (Stp.trans s4 w1)))
            exact p μ4 _ σ all.wide w2 (r.mono all) fun a z => .inl z
      · exact p.elim
    · exact p.elim
  · exact p.elim
/-- x += e -/
theorem ps_augE {i : Nat} {op : BOp} {e : ME} {x : Expr} {y : Str} {py pos : Pos} {turns : Nat} (he : SE X call e x) (hN : X.N.Nodup) (hi : X.N[i]? = some y) (hx : L2.Loc X.env.scope y) (hf : X.fn y = true ∨ X.env.scope.names.lookup y = some .local) :
    PS X (.AugAssign (.Name y py) (bop op) x pos) (rdS X.K (evS call turns (.aug i op e))) := by
  refine ⟨fun pins s σ H D I ⟨μ, env, st, o, r, p⟩ => ?_⟩
  rw [evS] at p
  split at p
  · rename_i n hn
    obtain ⟨v, h1, h2⟩ := r.re.at_ _ _ hn
    cases h2
    obtain ⟨y1, st1, h3, p⟩ := to_ok p
    split at p
    · rename_i z
      split at p
      · refine (ps_aug hN hi hx he.val ip_add hf).run pins s σ H D I ⟨_, h1, μ, env, st, _, st1, o, r.re, h3, fun μ1 H1 x' s1 o1 r1 f1 => ?_⟩
        cases r1
        refine ⟨n, z, rfl, rfl, ?_⟩
        obtain ⟨q1, q2⟩ := (r.mono s1).set (.int (n + z)) rfl i
        exact p μ1 H1 _ s1.wide o1 q1 fun a w => .inl (q2 a w)
      · refine (ps_aug hN hi hx he.val ip_sub hf).run pins s σ H D I ⟨_, h1, μ, env, st, _, st1, o, r.re, h3, fun μ1 H1 x' s1 o1 r1 f1 => ?_⟩
        cases r1
        refine ⟨n, z, rfl, rfl, ?_⟩
        obtain ⟨q1, q2⟩ := (r.mono s1).set (.int (n - z)) rfl i
        exact p μ1 H1 _ s1.wide o1 q1 fun a w => .inl (q2 a w)
      · exact p.elim
    · exact p.elim
  · exact p.elim
/-- xs.append(e), xs a list of its own -/
theorem ps_app {i : Nat} {e : ME} {x y : Expr} {apos cpos pos : Pos} {turns : Nat} (he : SE X call e x) (hv : PE X y (tVar i)) (hy : attributeBase y "append" X.env (eval y X.env) = eval y X.env) (hl : (apos.endLine == cpos.line) = true) (hx : plainE x = true) :
    PS X (.Expr (.Call (.Attribute y "append" apos) [x] [] cpos) pos) (rdS X.K (evS call turns (.app i e))) := by
  have st := star_ok hx [] X.env
  have few : ((backTo cpos (starEach [x] X.env)).all (fun x => !x.1) && (backToKw cpos (keywordEach [] X.env)).all (fun x => x.1.isSome)
        && decide (([x] : List Expr).length + ([] : List Keyword).length + (if ([] : List Keyword).isEmpty then 0 else 1) < 30)) = true := by rw [st]; rfl
  refine (ps_expr (pe_bm PySem.F.plainAttrs_list PySem.F.slot_list_append PySem.F.type_list_append mt_append hv (pa_cons he.val pa_nil st) hy few hl st rfl)).imp fun D σ H ⟨μ, env, st, o, r, p⟩ => ?_
  rw [evS] at p
  obtain ⟨y1, st1, h1, p⟩ := to_ok p
  split at p
  · rename_i xs hxs
    split at p
    · rename_i hz
      obtain ⟨v, h2, h3⟩ := r.re.at_ _ _ hxs
      cases h3 with
      | @fl _ a vs h4 n4 r4 =>
        refine ⟨_, h2, .inl ⟨rfl, vs, SqL.of h4⟩, μ, env, st, y1, st1, o, r.re, h1, fun μ1 H1 y' s1 o1 r1 f1 => ?_⟩
        obtain ⟨μe, se, oe, re, fe, _⟩ := Ok.esc s1 o1 r1 f1
        have own : Own env σ a := ⟨i, xs, hxs, h2⟩
        have h5 : H1 a = some (.lst vs) := se.keep a _ h4 n4 fun z => z
        have r5 := r.mono se
        have n5 : ∀ n, n < (esc y1 st1).2.length → μe n ≠ a := fun n hn z => by
          by_cases hl : n < st.length
          · exact n4 n hl ((se.ext n hl).symm.trans z)
          · have := se.new n (by omega) hn
            rw [z, h4] at this; cases this
        have wr : StX (fun b => b = a) μe (esc y1 st1).2.length H1 μe (esc y1 st1).2.length (upd H1 a (.lst (vs ++ [y']))) := StX.wrt h5
        have all : StX (Own env σ) μ st.length H μe (esc y1 st1).2.length (upd H1 a (.lst (vs ++ [y']))) := StX.trans se.wide wr fun b e => .inl (by rw [e]; exact own)
        have off : ∀ (w : V), Off (fun b => b = a) (esc y1 st1).1 w := fun w => by
          cases hq : (esc y1 st1).1 <;> first | trivial | (rw [hq] at fe; cases fe)
        refine ⟨a, vs, y', rfl, rfl, h5, by rw [← r4.len]; exact hz, ?_⟩
        refine p μe _ σ all (oe.wrt h5 n5) ⟨⟨by simp [r.re.len], fun j q hq => ?_⟩, fun j k zs ws b ne g1 g2 g3 g4 => ?_⟩ fun b ⟨j, zs, g1, g2⟩ => .inl ?_
        · by_cases e : i = j
          · subst e
            by_cases hi : i < env.length
            · rw [List.getElem?_set_self hi] at hq
              cases hq
              exact ⟨_, h2, .fl upd_same n5 ((RVs.mono wr (RVs.mono se r4)).app (RVs.one fe (RV.mono wr (off _) re)))⟩
            · rw [List.getElem?_eq_none (by simp; omega)] at hq; cases hq
          · rw [List.getElem?_set_ne e] at hq
            obtain ⟨w, g1, g2⟩ := r5.re.at_ j q hq
            refine ⟨w, g1, RV.mono wr ?_ g2⟩
            cases g2 with
            | fl _ _ _ => exact fun z => r.de i j _ _ _ e hxs hq h2 (by rw [← z]; exact g1)
            | _ => trivial
        · have back : ∀ (j : Nat) (zs : List PV), (env.set i (some (.fl (xs ++ [(esc y1 st1).1]))))[j]? = some (some (.fl zs)) → ∃ zs', env[j]? = some (some (.fl zs')) := fun j zs h => by
            by_cases e : i = j
            · subst e; exact ⟨_, hxs⟩
            · rw [List.getElem?_set_ne e] at h; exact ⟨_, h⟩
          obtain ⟨_, b1⟩ := back j zs g1
          obtain ⟨_, b2⟩ := back k ws g2
          exact r.de j k _ _ b ne b1 b2 g3 g4
        · by_cases e : i = j
          · subst e; exact ⟨i, xs, hxs, g2⟩
          · rw [List.getElem?_set_ne e] at g1; exact ⟨j, zs, g1, g2⟩
    · exact p.elim
  · exact p.elim
/-- xs.extend(e), xs a list of its own, e a list that nothing else holds -/
theorem ps_ext {i : Nat} {e : ME} {x y : Expr} {apos cpos pos : Pos} {turns : Nat} (he : SE X call e x) (hv : PE X y (tVar i)) (hy : attributeBase y "extend" X.env (eval y X.env) = eval y X.env) (hl : (apos.endLine == cpos.line) = true) (hx : plainE x = true) :
    PS X (.Expr (.Call (.Attribute y "extend" apos) [x] [] cpos) pos) (rdS X.K (evS call turns (.ext i e))) := by
  have st := star_ok hx [] X.env
  have few : ((backTo cpos (starEach [x] X.env)).all (fun x => !x.1) && (backToKw cpos (keywordEach [] X.env)).all (fun x => x.1.isSome)
        && decide (([x] : List Expr).length + ([] : List Keyword).length + (if ([] : List Keyword).isEmpty then 0 else 1) < 30)) = true := by rw [st]; rfl
  refine (ps_expr (pe_bm PySem.F.plainAttrs_list PySem.F.slot_list_extend PySem.F.type_list_extend mt_extend hv (pa_cons he.val pa_nil st) hy few hl st rfl)).imp fun D σ H ⟨μ, env, st, o, r, p⟩ => ?_
  rw [evS] at p
  obtain ⟨y1, st1, h1, p⟩ := to_ok p
  split at p
  · rename_i xs ys hxs
    split at p
    · rename_i hz
      obtain ⟨v, h2, h3⟩ := r.re.at_ _ _ hxs
      cases h3 with
      | @fl _ a vs h4 n4 r4 =>
        refine ⟨_, h2, .inl ⟨rfl, vs, SqL.of h4⟩, μ, env, st, _, st1, o, r.re, h1, fun μ1 H1 y' s1 o1 r1 f1 => ?_⟩
        cases r1 with
        | @fl _ b ws h6 n6 r6 =>
        have own : Own env σ a := ⟨i, xs, hxs, h2⟩
        have h5 : H1 a = some (.lst vs) := s1.keep a _ h4 n4 fun z => z
        have r5 := r.mono s1
        have n5 : ∀ n, n < st1.length → μ1 n ≠ a := fun n hn z => by
          by_cases hl : n < st.length
          · exact n4 n hl ((s1.ext n hl).symm.trans z)
          · have := s1.new n (by omega) hn
            rw [z, h4] at this; cases this
        have wr : StX (fun b => b = a) μ1 st1.length H1 μ1 st1.length (upd H1 a (.lst (vs ++ ws))) := StX.wrt h5
        have all : StX (Own env σ) μ st.length H μ1 st1.length (upd H1 a (.lst (vs ++ ws))) := StX.trans s1.wide wr fun b e => .inl (by rw [e]; exact own)
        refine ⟨a, b, vs, ws, rfl, rfl, h5, h6, by rw [← r4.len, ← r6.len]; exact hz, ?_⟩
        refine p μ1 _ σ all (o1.wrt h5 n5) ⟨⟨by simp [r.re.len], fun j q hq => ?_⟩, fun j k zs ws b ne g1 g2 g3 g4 => ?_⟩ fun b ⟨j, zs, g1, g2⟩ => .inl ?_
        · by_cases e : i = j
          · subst e
            by_cases hi : i < env.length
            · rw [List.getElem?_set_self hi] at hq
              cases hq
              exact ⟨_, h2, .fl upd_same n5 ((RVs.mono wr (RVs.mono s1 r4)).app (RVs.mono wr r6))⟩
            · rw [List.getElem?_eq_none (by simp; omega)] at hq; cases hq
          · rw [List.getElem?_set_ne e] at hq
            obtain ⟨w, g1, g2⟩ := r5.re.at_ j q hq
            refine ⟨w, g1, RV.mono wr ?_ g2⟩
            cases g2 with
            | fl _ _ _ => exact fun z => r.de i j _ _ _ e hxs hq h2 (by rw [← z]; exact g1)
            | _ => trivial
        · have back : ∀ (j : Nat) (zs : List PV), (env.set i (some (.fl (xs ++ ys))))[j]? = some (some (.fl zs)) → ∃ zs', env[j]? = some (some (.fl zs')) := fun j zs h => by
            by_cases e : i = j
            · subst e; exact ⟨_, hxs⟩
            · rw [List.getElem?_set_ne e] at h; exact ⟨_, h⟩
          obtain ⟨_, b1⟩ := back j zs g1
          obtain ⟨_, b2⟩ := back k ws g2
          exact r.de j k _ _ b ne b1 b2 g3 g4
        · by_cases e : i = j
          · subst e; exact ⟨i, xs, hxs, g2⟩
          · rw [List.getElem?_set_ne e] at g1; exact ⟨j, zs, g1, g2⟩
    · exact p.elim
  · exact p.elim
end
end U

set_option maxHeartbeats 8000000
/-! U14: every statement; a def; a program. -/
namespace U
open PySem PySem.Spec PyProof.Rows L2
section
variable {W : Wd} {k : Nat} {call : Nat → List PV → Store → Res PV} {turns : Nat}
/-- a body whose every name may be stored, and which lets nothing out -/
structure Gs (W : Wd) (C : Ct) (k : Nat) (X : Cx) : Prop extends Gd W C k X where
  kind : X.env.scope.kind = .function
  fnT : ∀ x, X.fn x = true
  xe : X.xe = fun _ _ => False
theorem Gs.pass {C : Ct} {X : Cx} (G : Gs W C k X) : PassesOwn (model X.prog X.w) X.A X.env X.xe := by
  rw [G.xe]
  exact PassesOwn.never
theorem loc_of {sc : Scope} {x : Str} (h : locB sc x = true) : L2.Loc sc x := by
  unfold locB at h
  unfold L2.Loc
  split at h <;> first | (rename_i q; rw [q]; simp) | cases h
theorem pv1 {C : Ct} {X : Cx} (G : Gs W C k X) {i : Nat} {e : Expr} (h : mV1 C i e = true) : PG X e (gName i) := by
  cases e <;> try (exact absurd h Bool.false_ne_true)
  rename_i x pos
  have h : (decide (C.N[i]? = some x) && locB C.sc x) = true := h
  simp only [Bool.and_eq_true, decide_eq_true_eq] at h
  exact pg_name G.nd (by rw [G.N]; exact h.1) (loc_of (by rw [G.sc]; exact h.2)) (.inl (G.fnT x))
theorem assignV_ok {e : Expr} {C : Ct} {i : Nat} (h : mV1 C i e = true) (es : List Expr) (env : Env) : assignEach (e :: es) env = (false, assign e env) :: assignEach es env := by
  cases e <;> first | rfl | exact absurd h Bool.false_ne_true
theorem pvs {C : Ct} {X : Cx} (G : Gs W C k X) : ∀ {is : List Nat} {es : List Expr}, mVs C is es = true → PGs X es (gAll is) ∧ (assignEach es X.env).length = is.length ∧ (assignEach es X.env).findIdx? (·.1) = none
  | [], [], _ => ⟨pgs_nil, rfl, rfl⟩
  | [], _ :: _, h => by cases h
  | _ :: _, [], h => by cases h
  | i :: is, e :: es, h => by
    have h : (mV1 C i e && mVs C is es) = true := h
    rw [Bool.and_eq_true] at h
    obtain ⟨p1, p2, p3⟩ := pvs G h.2
    have e1 := assignV_ok h.1 es X.env
    refine ⟨pgs_cons (pv1 G h.1) p1 (by rw [e1]; rfl), by rw [e1]; simp [p2], by rw [e1]; simp [List.findIdx?_cons, p3]⟩
theorem pvT {C : Ct} {X : Cx} (G : Gs W C k X) {is : List Nat} {es : List Expr} {n : Nat} {p : Pos} (h : mVs C is es = true) : PG X (.Tuple es n p) (gTup X.K is.length (gAll is)) := by
  obtain ⟨p1, p2, p3⟩ := pvs G h
  exact pg_tup G.calm p1 p2 p3
theorem pvG {C : Ct} {X : Cx} (G : Gs W C k X) {g : MG} {e : Expr} (h : mV C g e = true) : PG X e (gOf X.K g) := by
  cases g with
  | nm i => exact pv1 G h
  | tp is =>
    cases e <;> try (exact absurd h Bool.false_ne_true)
    exact pvT G (show mVs C is _ = true from h)
theorem sw_ok {v : Expr} (h : notLc v = true) (t : Option Expr) (l : Nat) (env : Env) : swapsWith v t l env = pure false := by
  cases v <;> first | rfl | cases h
theorem sws_ok {v tg : Expr} (h : notLc v = true) (l : Nat) (env : Env) : swapsWithSole [tg] v l env = pure false := sw_ok h _ _ _
theorem st_ok {v : Expr} {es : List Expr} {n : Nat} {p : Pos} (h : notTup v = true) (env : Env) : swappedStores [.Tuple es n p] v env = pure none := by
  cases v <;> first | rfl | cases h
theorem st_sub {v y z : Expr} {p : Pos} (env : Env) : swappedStores [.Subscript y z p] v env = pure none := by
  cases v <;> rfl
theorem st_sub2 {v o x o2 x2 : Expr} {p1 p2 pt : Pos} {kt : Nat} (env : Env) : swappedStores [.Tuple [.Subscript o x p1, .Subscript o2 x2 p2] kt pt] v env = pure none := by
  cases v <;> first | rfl | skip
  unfold swappedStores
  simp
theorem sub_ok {y z : Expr} {p : Pos} {env : Env} (h : plainE z = true) (v : Value) : assign (.Subscript y z p) env v = (do
      let ov ← holding [v] (eval y env)
      let iv ← holding [v, ov] (eval z env)
      standAt p
      holding [v, ov, iv] (setItem ov iv v)
      release [v, ov, iv] []) := by
  cases z <;> first | rfl | cases h
theorem src_ok {C : Ct} {X : Cx} (G : Gs W C k X) (F : Fx W C k call) {src : ME} {tg it : Expr} (h : mSrc C src it = true) : PI X tg it (rdF X.K (evSrc call src)) := by
  have gen : mE C src it = true → (∀ env st, evSrc call src env st = (ev call src .val env st).bind fun v st1 => opt (srcV v st1) st1) → PI X tg it (rdF X.K (evSrc call src)) := fun h e => by
    have e2 : evSrc call src = fun env st => (ev call src .val env st).bind fun v st1 => opt (srcV v st1) st1 := by
      funext env st
      exact e env st
    rw [e2]
    exact pf_val (sE src G.toGd F h)
  cases src with
  | rng a b =>
    unfold mSrc at h
    simp only at h
    split at h
    · rename_i f p es pos
      simp only [Bool.and_eq_true, decide_eq_true_eq] at h
      obtain ⟨⟨⟨rfl, h1⟩, h2⟩, h3⟩ := h
      obtain ⟨g1, g2⟩ := gl_of (X := X) (by rw [G.sc]; exact h2)
      have hm : X.mg "range" = none := by rw [G.mg]; exact F.bl _ h1
      split at h3
      · split at h3
        · exact pf_rng1 (sE b G.toGd F h3) g1 hm (star_ok (plain_ok h3) _ _)
        · cases h3
      · rename_i z y
        rw [Bool.and_eq_true] at h3
        have e2 : starEach [y] X.env = [(false, eval y X.env)] := star_ok (plain_ok h3.2) _ _
        exact pf_rng2 (sE a G.toGd F h3.1) (sE b G.toGd F h3.2) g1 hm (by rw [star_ok (plain_ok h3.1), e2]) e2
      · cases h3
    · cases h
  | rev a =>
    unfold mSrc at h
    simp only at h
    split at h
    · rename_i f p y pos
      simp only [Bool.and_eq_true, decide_eq_true_eq] at h
      obtain ⟨⟨⟨rfl, h1⟩, h2⟩, h3⟩ := h
      obtain ⟨g1, g2⟩ := gl_of (X := X) (by rw [G.sc]; exact h2)
      exact pf_rev (sE a G.toGd F h3) g1 (by rw [G.mg]; exact F.bl _ h1) (star_ok (plain_ok h3) _ _)
    · cases h
  | _ => exact gen h fun _ _ => rfl
theorem var_ok {C : Ct} {X : Cx} (G : Gd W C k X) {i : Nat} {e : Expr} (h : mE C (.var i) e = true) : PE X e (tVar i) := by
  cases e <;> try (exact absurd h Bool.false_ne_true)
  rename_i x pos
  have h : (decide (C.N[i]? = some x) && visB C.sc x && !(x == ("__debug__" : Str)) && !(x == ("__classdict__" : Str))) = true := h
  simp only [Bool.and_eq_true, decide_eq_true_eq, Bool.not_eq_true'] at h
  exact pe_var (by rw [G.N]; exact h.1.1.1) (vis_of (by rw [G.sc]; exact h.1.1.2)) h.1.2 h.2
/-- x = [..], from its parts -/
theorem lcSet_mk {C : Ct} {X : Cx} (G : Gs W C k X) {elt c m : ME} {g : MG} {has : Bool} {x tg iter : Expr} {ifs : List Expr} {scope : Scope} {pos : Pos} {srcF : En → Store → Res Src}
    (hi : PI X tg iter (rdW X.K srcF)) (hp : ∀ x, foldedSetIterable iter X.env x = pure x) (h2 : blkC C.N C.sc scope (g.own C.N) = true) (h3 : mG { C with sc := relS scope C.sc } g tg = true)
    (h4 : tsOk { C with sc := relS scope C.sc } has c ifs = true) (hc : ∀ {X : Cx}, Gd W { C with sc := relS scope C.sc } k X → ∀ t, mE { C with sc := relS scope C.sc } c t = true → SE X call c t)
    (he : ∀ {X : Cx}, Gd W { C with sc := relS scope C.sc } k X → SE X call elt x)
    (eq : ∀ md env st, ev call m md env st = ((srcF env st).bind fun s st1 => lcLoop (fun e s => if has then (ev call c .test e s).bind fun x s1 => opt (isBl x) s1 else .ok true s) (ev call elt .val) g.put (wipe env g.slots) s 0 s.many [] st1).bind fun v st1 => done md v st1)
    {i : Nat} {y : Str} {py spos : Pos} (hN : X.N[i]? = some y) (hy : X.env.scope.names.lookup y = some .local) (hl : (py.line == pos.line) = true) (ha : (scope.names.any fun (n, k) => n == y && (k == .local || k == .cell)) = false) :
    PS X (.Assign [.Name y py] (.ListComp x [⟨tg, iter, ifs, 0⟩] scope pos) spos) (tAsg (rd X.K (ev call m .val)) (gName i)) := by
  have ok : BlkOk X.N X.env.scope scope (g.own C.N) := by rw [G.N, G.sc]; exact blkOk_by h2
  have p := ps_setLc (pos := pos) (spos := spos) (own := g.own C.N) (g := gOf X.K g) (tt := tTest' X.K call has c) (te := rd X.K (ev call elt .val)) G.calm G.nd hN hy (sw_true G.kind hy hl ha) hi ok
    (fun s H a cl fp => pgG (G.toGd.blk s H scope a cl fp) h3) (fun s H a cl fp => ts_ok h4 (hc (G.toGd.blk s H scope a cl fp))) (fun s H a cl fp => (he (G.toGd.blk s H scope a cl fp)).val) hp
  rw [own_slots] at p
  refine p.imp fun D σ H q => ?_
  refine SE.lcImp (test := fun e s => if has then (ev call c .test e s).bind fun x s1 => opt (isBl x) s1 else .ok true s) (elt := ev call elt .val) (srcF := srcF) (fun _ _ _ q => q) (fun _ _ _ q => q) ?_ (rd_eq (fun env st => ?_) σ H _ q)
  · intro μ env st b st' σ H Q o r h q
    unfold tTest'
    cases has with
    | true =>
      obtain ⟨x, s1, h1, h2⟩ := bind_ok h
      obtain ⟨h3, rfl⟩ := opt_ok h2
      cases isBl_ok h3
      exact ⟨μ, env, st, b, _, o, r, h1, q⟩
    | false =>
      cases h
      exact q μ H StX.refl o
  · rw [eq]
    cases (srcF env st).bind fun s st1 => lcLoop (fun e s => if has then (ev call c .test e s).bind fun x s1 => opt (isBl x) s1 else .ok true s) (ev call elt .val) g.put (wipe env g.slots) s 0 s.many [] st1 <;> rfl
theorem lc_only {C : Ct} {e : ME} {x : Expr} {gs : List Comprehension} {scope : Scope} {pos : Pos} (h : mE C e (.ListComp x gs scope pos) = true) : ∃ elt g src has c, e = .lc elt g src has c := by
  cases e <;> first | exact ⟨_, _, _, _, _, rfl⟩ | (cases h; done)
theorem set_lc {C : Ct} {X : Cx} (G : Gs W C k X) (F : Fx W C k call) {e : ME} {i : Nat} {y : Str} {py spos : Pos} {v : Expr} (h : mE C e v = true) (hN : X.N[i]? = some y) (hl : lcOk C y py v = true) :
    PS X (.Assign [.Name y py] v spos) (tAsg (rd X.K (ev call e .val)) (gName i)) := by
  unfold lcOk at hl
  split at hl
  · rename_i x gs scope pos
    simp only [Bool.and_eq_true, decide_eq_true_eq, Bool.not_eq_true'] at hl
    obtain ⟨⟨⟨l1, l2⟩, l3⟩, l4⟩ := hl
    have hy : X.env.scope.names.lookup y = some .local := by rw [G.sc]; exact l2
    obtain ⟨elt, g, src, has, c, rfl⟩ := lc_only h
    by_cases hn : ∀ a b, src ≠ .rng a b
    · rw [mE_lc hn] at h
      split at h
      · rename_i q
        cases q
        simp only [Bool.and_eq_true] at h
        obtain ⟨⟨⟨⟨h1, h2⟩, h3⟩, h4⟩, h5⟩ := h
        exact lcSet_mk G (pi_used (sE src G.toGd F h1)) (set_ok (plain_ok h1) _) h2 h3 h4
          (fun G' t ht => sE c G' ⟨F.fn, F.cs, F.bl, F.ds⟩ ht) (fun G' => sE elt G' ⟨F.fn, F.cs, F.bl, F.ds⟩ h5) (fun _ _ _ => ev_lc hn) hN hy l3 l4
      · cases h
    · cases src with
      | rng a b =>
        unfold mE at h
        split at h
        · rename_i q
          cases q
          simp only [Bool.and_eq_true, decide_eq_true_eq] at h
          obtain ⟨⟨⟨⟨⟨⟨⟨rfl, h1⟩, h2⟩, h3⟩, h4⟩, h5⟩, h6⟩, h7⟩ := h
          obtain ⟨g1, g2⟩ := gl_of (X := X) (by rw [G.sc]; exact h2)
          have hm : X.mg "range" = none := by rw [G.mg]; exact F.bl _ h1
          refine lcSet_mk G (srcF := fun env st => (ev call a .val env st).bind fun x st1 => (ev call b .val env st1).bind fun y st2 => rngV x y st2) ?_ (fun _ => rfl) h4 h5 h6
            (fun G' t ht => sE c G' ⟨F.fn, F.cs, F.bl, F.ds⟩ ht) (fun G' => sE elt G' ⟨F.fn, F.cs, F.bl, F.ds⟩ h7) (fun _ _ _ => ev_lcR) hN hy l3 l4
          split at h3
          · split at h3
            · exact pi_rng1 (sE b G.toGd F h3) g1 hm (star_ok (plain_ok h3) _ _)
            · cases h3
          · rename_i z y
            rw [Bool.and_eq_true] at h3
            have e2 : starEach [y] X.env = [(false, eval y X.env)] := star_ok (plain_ok h3.2) _ _
            exact pi_rng2 (sE a G.toGd F h3.1) (sE b G.toGd F h3.2) g1 hm (by rw [star_ok (plain_ok h3.1), e2]) e2
          · cases h3
        · cases h
      | _ => exact absurd (fun a b z => by cases z) hn
  · cases hl
mutual
theorem sS : ∀ (m : MS) {C : Ct} {X : Cx} (G : Gs W C k X) (F : Fx W C k call) {s : Stmt}, mS C m s = true → PS X s (rdS X.K (evS call turns m))
  | .set i e own, C, X, G, F, s, h => by
    unfold mS at h
    split at h
    · rename_i x px v pos
      simp only [Bool.and_eq_true, decide_eq_true_eq, Bool.or_eq_true] at h
      obtain ⟨⟨⟨h1, h2⟩, h3⟩, h4⟩ := h
      have se := sE e G.toGd F h3
      rcases h4 with h4 | h4
      · exact (ps_set G.nd (by rw [G.N]; exact h1) (loc_of (by rw [G.sc]; exact h2)) se.val (sw_ok h4 _ _ _) (.inl (G.fnT x))).imp set_imp
      · exact (set_lc G F h3 (by rw [G.N]; exact h1) h4).imp set_imp
    · cases h
  | .setT is e, C, X, G, F, s, h => by
    unfold mS at h
    split at h
    · simp only [Bool.and_eq_true] at h
      obtain ⟨⟨⟨h1, h2⟩, h3⟩, h4⟩ := h
      exact ps_tup (sE e G.toGd F h2) (pvT G h1) (sws_ok h3 _ _) (st_ok h4 _) rfl
    · cases h
  | .par i j as, C, X, G, F, s, h => by
    unfold mS at h
    split at h
    · rename_i x px y py kt pt a b k2 pt2 pos
      simp only [Bool.and_eq_true, decide_eq_true_eq, Bool.not_eq_true'] at h
      obtain ⟨⟨⟨⟨⟨⟨⟨⟨⟨h1, h2⟩, h3⟩, h4⟩, h5⟩, h6⟩, h7⟩, h8⟩, h9⟩, h10⟩ := h
      have hp : plainE a = true ∧ plainE b = true := by
        cases as with
        | nil => cases h10
        | cons u us =>
          rw [mA, Bool.and_eq_true] at h10
          cases us with
          | nil => cases h10.2
          | cons u2 us =>
            have h11 := h10.2
            rw [mA, Bool.and_eq_true] at h11
            exact ⟨plain_ok h10.1, plain_ok h11.1⟩
      exact ps_parS G.calm G.nd (by rw [G.N]; exact h1) (by rw [G.N]; exact h2) (fun e => by rw [e, beq_self_eq_true] at h3; cases h3) (by rw [G.sc]; exact h5) (by rw [G.sc]; exact h6) (sA as G.toGd F h10)
        (sw_par (by unfold Env.blockKind; rw [G.kind]; rfl) (show X.env.scope.names.lookup x = _ by rw [G.sc]; exact h5) (show X.env.scope.names.lookup y = _ by rw [G.sc]; exact h6) h7 h4 hp.1 hp.2 h8 h9)
    · cases h
  | .setIx a i e, C, X, G, F, s, h => by
    unfold mS at h
    split at h
    · simp only [Bool.and_eq_true] at h
      obtain ⟨⟨⟨h1, h2⟩, h3⟩, h4⟩ := h
      exact ps_ix (sE a G.toGd F h1) (sE i G.toGd F h2) (sE e G.toGd F h3) (sws_ok h4 _ _) (st_sub _) (sub_ok (plain_ok h2))
    · cases h
  | .swp a i b j e, C, X, G, F, s, h => by
    unfold mS at h
    split at h
    · simp only [Bool.and_eq_true] at h
      obtain ⟨⟨⟨⟨⟨h1, h2⟩, h3⟩, h4⟩, h5⟩, h6⟩ := h
      exact ps_swp G.calm (sE a G.toGd F h1) (sE i G.toGd F h2) (sE b G.toGd F h3) (sE j G.toGd F h4) (sE e G.toGd F h5) (sws_ok h6 _ _) (st_sub2 _) (sub_ok (plain_ok h2)) (sub_ok (plain_ok h4))
    · cases h
  | .ins a as, C, X, G, F, s, h => by
    unfold mS at h
    split at h
    · rename_i o name apos x y cpos pos
      simp only [Bool.and_eq_true, decide_eq_true_eq, Bool.not_eq_true'] at h
      obtain ⟨⟨⟨⟨rfl, h2⟩, h1⟩, h3⟩, h4⟩ := h
      have hx : plainE x = true ∧ plainE y = true := by
        cases as with
        | nil => cases h4
        | cons a as =>
          rw [mA, Bool.and_eq_true] at h4
          cases as with
          | nil => cases h4.2
          | cons b as =>
            have h5 := h4.2
            rw [mA, Bool.and_eq_true] at h5
            exact ⟨plain_ok h4.1, plain_ok h5.1⟩
      have st1 := star_ok hx.1 [y] X.env
      have st2 := star_ok hx.2 [] X.env
      have few : ((backTo cpos (starEach [x, y] X.env)).all (fun x => !x.1) && (backToKw cpos (keywordEach [] X.env)).all (fun x => x.1.isSome)
        && decide (([x, y] : List Expr).length + ([] : List Keyword).length + (if ([] : List Keyword).isEmpty then 0 else 1) < 30)) = true := by rw [st1, st2]; rfl
      exact ps_ins (sE a G.toGd F h1) (sA as G.toGd F h4) (fun {r to t} hr po pa => pe_bm PySem.F.plainAttrs_list PySem.F.slot_list_insert PySem.F.type_list_insert hr po pa (base_ok h3) few h2 st1 (by rw [st2]; rfl)) rfl
    · cases h
  | .setSl a lo hi e, C, X, G, F, s, h => by
    unfold mS at h
    split at h
    · simp only [Bool.and_eq_true] at h
      obtain ⟨⟨⟨h1, h2⟩, h3⟩, h4⟩ := h
      exact ps_setSl (sE a G.toGd F h1) (sE lo G.toGd F h2) (sE hi G.toGd F h3) (sE e G.toGd F h4) rfl rfl fun _ => rfl
    · cases h
  | .aug i o e, C, X, G, F, s, h => by
    unfold mS at h
    split at h
    · rename_i x p op v pos
      simp only [Bool.and_eq_true, decide_eq_true_eq] at h
      obtain ⟨⟨⟨rfl, h1⟩, h2⟩, h3⟩ := h
      exact ps_augE (sE e G.toGd F h3) G.nd (by rw [G.N]; exact h1) (loc_of (by rw [G.sc]; exact h2)) (.inl (G.fnT x))
    · cases h
  | .ex e, C, X, G, F, s, h => by
    unfold mS at h
    split at h
    · rw [Bool.and_eq_true] at h
      exact ps_ex (sE e G.toGd F h.1) (sw_ok h.2 _ _ _)
    · cases h
  | .ext i e, C, X, G, F, s, h => by
    unfold mS at h
    split at h
    · rename_i x p name apos y cpos pos
      simp only [Bool.and_eq_true, decide_eq_true_eq] at h
      obtain ⟨⟨⟨rfl, h1⟩, h2⟩, h3⟩ := h
      exact ps_ext (sE e G.toGd F h3) (var_ok G.toGd h2) rfl h1 (plain_ok h3)
    · cases h
  | .app i e, C, X, G, F, s, h => by
    unfold mS at h
    split at h
    · rename_i x p name apos y cpos pos
      simp only [Bool.and_eq_true, decide_eq_true_eq] at h
      obtain ⟨⟨⟨rfl, h1⟩, h2⟩, h3⟩ := h
      exact ps_app (sE e G.toGd F h3) (var_ok G.toGd h2) rfl h1 (plain_ok h3)
    · cases h
  | .ret e, C, X, G, F, s, h => by
    unfold mS at h
    split at h
    · exact ps_retE (sE e G.toGd F h) fun j z => by
        subst z
        exact var_ok G.toGd h
    · cases h
  | .ret0, C, X, G, F, s, h => by
    unfold mS at h
    split at h
    · exact ps_ret0
    · cases h
  | .ite t a b, C, X, G, F, s, h => by
    unfold mS at h
    split at h
    · simp only [Bool.and_eq_true] at h
      exact ps_ite (sE t G.toGd F h.1.1) (sSs a G F h.1.2) (sSs b G F h.2)
    · cases h
  | .whl t b, C, X, G, F, s, h => by
    unfold mS at h
    split at h
    · rw [Bool.and_eq_true] at h
      exact ps_whl G.pass (sE t G.toGd F h.1) (sSs b G F h.2)
    · cases h
  | .for_ g src b, C, X, G, F, s, h => by
    unfold mS at h
    split at h
    · simp only [Bool.and_eq_true] at h
      exact ps_forE G.pass G.calm (src_ok G F h.1.1.2) (pvG G h.1.1.1) (sSs b G F h.2) (set_ok h.1.2 _)
    · cases h
  | .brk, C, X, G, F, s, h => by
    unfold mS at h
    split at h
    · exact ps_brk
    · cases h
  | .cnt, C, X, G, F, s, h => by
    unfold mS at h
    split at h
    · exact ps_cnt
    · cases h
  | .pass, C, X, G, F, s, h => by
    unfold mS at h
    split at h
    · exact ps_pas
    · cases h
theorem sSs : ∀ (ms : MSs) {C : Ct} {X : Cx} (G : Gs W C k X) (F : Fx W C k call) {s : List Stmt}, mSs C ms s = true → PSs X s (rdS X.K (evSs call turns ms))
  | .nil, C, X, G, F, s, h => by
    cases s with
    | nil => exact pss_n
    | cons _ _ => cases h
  | .cons m ms, C, X, G, F, s, h => by
    cases s with
    | nil => cases h
    | cons x xs =>
      rw [mSs, Bool.and_eq_true] at h
      exact pss_c (sS m G F h.1) (sSs ms G F h.2)
end
end
end U

set_option maxHeartbeats 8000000
/-! U15: a def, a program, a law. -/
namespace U
open PySem PySem.Spec PyProof.Rows L2
section
variable {K : PySem.W.Frag} {μ : Nat → Addr} {L : Nat} {H : Hp}
mutual
theorem RV.low {n : Nat} (hn : n ≤ L) : ∀ {x : PV} {v : V}, PV.low n x = true → RV K μ L H x v → RV K μ n H x v
  | _, _, _, .non => .non
  | _, _, _, .bl b => .bl b
  | _, _, _, .int i => .int i
  | _, _, _, .str z => .str z
  | .tup xs, .ref a, l, .tup h r => .tup h (RVs.low hn (show PV.lowL n xs = true from l) r)
  | .loc m, _, l, .loc h => .loc (of_decide_eq_true (show decide (m < n) = true from l))
  | .fl xs, .ref a, l, .fl h k r => .fl h (fun m hm => k m (Nat.lt_of_lt_of_le hm hn)) (RVs.low hn (show PV.lowL n xs = true from l) r)
  | .rol xs, .ref a, l, .rol h r => .rol h (RVs.low hn (show PV.lowL n xs = true from l) r)
theorem RVs.low {n : Nat} (hn : n ≤ L) : ∀ {xs : List PV} {vs : List V}, PV.lowL n xs = true → RVs K μ L H xs vs → RVs K μ n H xs vs
  | _, _, _, .nil => .nil
  | x :: xs, v :: vs, l, .cons f h r => by
    have l : (PV.low n x && PV.lowL n xs) = true := l
    rw [Bool.and_eq_true] at l
    exact .cons f (RV.low hn l.1 h) (RVs.low hn l.2 r)
end
theorem leave_ok {μ0 : Nat → Addr} {H0 : Hp} {st s st' : Store} {v w : PV} {v' : V} (h : leave st.length v s = .ok w st') (t : Stp μ0 st.length H0 μ s.length H) (o : Ok K μ s H) (r : RV K μ s.length H v v') :
    w = v ∧ Stp μ0 st.length H0 μ st'.length H ∧ Ok K μ st' H ∧ RV K μ st'.length H v v' := by
  unfold leave at h
  split at h
  · cases h; exact ⟨rfl, t, o, r⟩
  · rename_i hn
    split at h
    · rename_i hc
      cases h
      rw [Bool.and_eq_true] at hc
      have el : (s.take st.length).length = st.length := by rw [List.length_take]; omega
      have hle : st.length ≤ s.length := by omega
      refine ⟨rfl, ?_, ⟨fun a b ha hb e => o.inj a b (by omega) (by omega) e, fun n xs hx => ?_⟩, ?_⟩
      · rw [el]
        exact ⟨Nat.le_refl _, t.ext, t.keep, t.tup, t.frz, t.there, fun n h1 h2 => absurd h2 (by omega)⟩
      · rw [el]
        have hm : Cell.lst xs ∈ s.take st.length := List.mem_of_getElem? hx
        have lo : PV.lowL st.length xs = true := (List.all_eq_true.mp hc.2) _ hm
        have hx2 : s[n]? = some (.lst xs) := by
          rw [List.getElem?_take] at hx
          split at hx
          · exact hx
          · cases hx
        obtain ⟨vs, h1, h2⟩ := o.cell n xs hx2
        exact ⟨vs, h1, RVs.low hle lo h2⟩
      · rw [el]; exact RV.low hle hc.1 r
    · cases h; exact ⟨rfl, t, o, r⟩
theorem start_ok {as : List PV} {vs : List V} {N : List Str} {nl : Nat} (r : RVs K μ L H as vs) (f : as.any PV.isFl = false) (hN : N.length = nl) : S1 K μ L H (as.map some ++ List.replicate (nl - as.length) none) (L2.start N vs) ∧
    ∀ a, ¬ Own (as.map some ++ List.replicate (nl - as.length) none) (L2.start N vs) a := by
  have get : ∀ (i : Nat) (x : PV), (as.map some ++ List.replicate (nl - as.length) (none : Option PV))[i]? = some (some x) → as[i]? = some x := fun i x h => by
    by_cases hi : i < as.length
    · rw [List.getElem?_append_left (by simpa using hi), List.getElem?_map] at h
      cases e : as[i]? with
      | none => rw [e] at h; cases h
      | some a => rw [e] at h; cases h; rfl
    · rw [List.getElem?_append_right (by simpa using hi), List.getElem?_replicate] at h
      split at h <;> cases h
  have nofl : ∀ (i : Nat) (xs : List PV), as[i]? ≠ some (.fl xs) := fun i xs h => by
    have := List.any_eq_false.mp f _ (List.mem_of_getElem? h)
    exact this rfl
  refine ⟨⟨⟨?_, fun i x h => ?_⟩, fun i j xs ys a _ h1 _ _ _ => nofl i xs (get i _ h1)⟩, fun a ⟨i, xs, h1, _⟩ => nofl i xs (get i _ h1)⟩
  · unfold L2.start
    have := r.len
    simp
    omega
  · obtain ⟨v, h1, h2, _⟩ := r.get (get i x h)
    refine ⟨v, ?_, h2⟩
    unfold L2.start
    have hi : i < vs.length := (List.getElem?_eq_some_iff.mp h1).1
    rw [List.getElem?_append_left (by simpa using hi), List.getElem?_map, h1]
    rfl
end
section
variable {W : Wd} {k : Nat} {turns : Nat} {D : Nat → Option Def}
theorem call_len {f : Nat} {d : Def} {as : List PV} {st st' : Store} {v : PV} {j : Nat} (hd : D f = some d) (h : evCall turns D j f as st = .ok v st') : as.length = d.np := by
  cases j with
  | zero => cases h
  | succ j =>
    rw [evCall, hd] at h
    simp only at h
    split at h
    · rename_i q; exact q.1
    · cases h
/-- a def of the text: its name, its number, where it stands -/
structure Ent where
  x : Str
  f : Nat
  a : Addr
  fd : FuncData
  st : Stmt
  N : List Str
  ps : List Str
  d : Def
def Ent.pair (e : Ent) : Str × Nat := (e.x, e.f)
structure EntOk (W : Wd) (D : Nat → Option Def) (fn : List (Str × Nat)) (cs : List (Str × PV)) (bl : List Str) (ds : List (Str × List (Str × PV))) (e : Ent) : Prop where
  mg : W.mg e.x = some (.ref e.a)
  fun_ : Fun W.K e.x e.x e.st e.a e.fd
  binds : Binds W.K e.fd e.ps []
  sc : FnScope e.N e.ps (defScope e.st)
  d : D e.f = some e.d
  np : e.ps.length = e.d.np
  nl : e.N.length = e.d.nl
  text : mSs ⟨e.N, defScope e.st, fn, cs, bl, ds, false⟩ e.d.body (defBody e.st) = true
/-- a program of the text -/
structure ProgOk (W : Wd) (D : Nat → Option Def) (es : List Ent) (cs : List (Str × PV)) (bl : List Str) (ds : List (Str × List (Str × PV))) : Prop where
  df : ∀ e ∈ es, EntOk W D (es.map Ent.pair) cs bl ds e
  cs : ∀ x v, cs.lookup x = some v → v.isFl = false ∧ ∃ u v', W.mg x = some u ∧ RelV v' u ∧ (∀ μ L H, RV W.K μ L H v v') ∧ ∀ xs, v = .tup xs → ∃ p o, v' = .ref p ∧ W.K.lookup p = some o ∧ o.cls = .type "tuple" ∧ o.dict = none
  bl : ∀ x, bl.contains x = true → W.mg x = none
  ds : ∀ x kvs, ds.lookup x = some kvs → ∃ d es n, W.mg x = some (.ref d) ∧ KDict W.K W.w d es n ∧ DRel es.toList kvs
theorem ent_of : ∀ {es : List Ent} {x : Str} {f : Nat}, (es.map Ent.pair).lookup x = some f → ∃ e, e ∈ es ∧ e.x = x ∧ e.f = f
  | [], _, _, h => by cases h
  | e :: es, x, f, h => by
    have h : (match x == e.x with
      | true => some e.f
      | false => (es.map Ent.pair).lookup x) = some f := h
    split at h
    · rename_i q
      cases h
      exact ⟨e, List.mem_cons_self, (eq_of_beq q).symm, rfl⟩
    · obtain ⟨e', h1, h2⟩ := ent_of h
      exact ⟨e', List.mem_cons_of_mem _ h1, h2⟩
theorem def_ok {es : List Ent} {cs : List (Str × PV)} {bl : List Str} {ds : List (Str × List (Str × PV))} (P : ProgOk W D es cs bl ds) (ih : ∀ e ∈ es, FnOk W.P W.w W.K W.mg W.base CX0 k e.a e.fd e.ps (spEv W.K (evCall turns D k e.f)))
    (e : Ent) (he : e ∈ es) : FnOk W.P W.w W.K W.mg W.base CX0 (k + 1) e.a e.fd e.ps (spEv W.K (evCall turns D (k + 1) e.f)) := by
  have E0 := P.df e he
  refine E0.fun_.ok E0.sc (fun vs H Q E h => ?_) fun cdv A outer s H vs Q E hr h => ?_
  · obtain ⟨μ, st, as, v, st', _, r, q, _⟩ := h
    rw [← r.len, E0.np]
    exact call_len E0.d q
  · obtain ⟨μ, st0, as, v, st', o, r, q, g⟩ := h
    rw [evCall, E0.d] at q
    simp only at q
    split at q
    · rename_i qq
      obtain ⟨s1, own⟩ := start_ok (N := e.N) r qq.2 E0.nl
      have G : Gs W ⟨e.N, defScope e.st, es.map Ent.pair, cs, bl, ds, false⟩ k (cxOf CX0 W.P W.w W.K W.mg W.base e.N e.x (defScope e.st) e.a cdv A outer s H E).nox :=
        ⟨⟨rfl, rfl, rfl, rfl, rfl, rfl, rfl, E0.sc.nd, rfl, hr, fun z => by cases z⟩, E0.sc.kind, fun _ => rfl, rfl⟩
      have F : Fx W ⟨e.N, defScope e.st, es.map Ent.pair, cs, bl, ds, false⟩ k (evCall turns D k) := ⟨fun x f hx => by
        obtain ⟨e', h1, rfl, rfl⟩ := ent_of hx
        have E1 := P.df e' h1
        exact ⟨e'.a, e'.fd, e'.ps, E1.mg, E1.fun_.kp, E1.binds, ih e' h1⟩, P.cs, P.bl, P.ds⟩
      refine ⟨_, sSs (turns := turns) e.d.body G F E0.text, μ, _, st0, o, s1, ?_⟩
      rw [← qq.1] at q
      split at q
      · rename_i env' s' hs
        rw [hs]
        refine fun μ' H' σ' t o' r' w => ?_
        have t : Stp μ st0.length H μ' s'.length H' := t.weak fun b z => (own b z).elim
        obtain ⟨rfl, q1, q2, q3⟩ := leave_ok q t o' .non
        exact g μ' H' .non q1 q2 q3 trivial
      · rename_i w' s' hs
        rw [hs]
        refine fun μ' H' v' t o' r' w => ?_
        have t : Stp μ st0.length H μ' s'.length H' := t.weak fun b z => (own b z).elim
        obtain ⟨rfl, q1, q2, q3⟩ := leave_ok q t o' r'
        refine g μ' H' v' q1 q2 q3 ?_
        cases q3 with
        | fl _ _ _ => exact (w _ rfl rfl).elim (fun z => (own _ z).elim) fun z => z
        | _ => trivial
      · cases q
    · cases q
theorem prog_ok {es : List Ent} {cs : List (Str × PV)} {bl : List Str} {ds : List (Str × List (Str × PV))} (P : ProgOk W D es cs bl ds) : ∀ (k : Nat) (e : Ent), e ∈ es → FnOk W.P W.w W.K W.mg W.base CX0 k e.a e.fd e.ps (spEv W.K (evCall turns D k e.f))
  | 0, e, he => by
    refine ⟨fun vs H Q E h => ?_, fun A outer s H args us vs Q E _ _ _ _ h => ?_⟩
    · obtain ⟨μ, st, as, v, st', _, r, q, _⟩ := h
      cases q
    · obtain ⟨μ, st, as, v, st', _, r, q, _⟩ := h
      cases q
  | k + 1, e, he => def_ok P (prog_ok P k) e he
end
/-- a def behind the top -/
theorem fun_at {K : PySem.W.Frag} {x : Str} {st : Stmt} {f : Addr} {oc : Value} {od an : Option Addr} {osl : Array (Option Value)} {kV doc pm cdv ct : Value} (l : K.lookup f = some ⟨oc, od, .func (PySem.W.fnOf x x (defArgs st) (defBody st) (defScope st) .none kV doc pm an cdv ct), osl⟩)
    (c : PySem.W.codeIn K cdv x = true) (k : PySem.W.keepIn K (.ref f) = true) : Fun K x x st f (PySem.W.fnOf x x (defArgs st) (defBody st) (defScope st) .none kV doc pm an cdv ct) := fun_mk l c k
/-- a written tuple of texts -/
theorem tup_rv {K : PySem.W.Frag} {a : Addr} {od : Option Addr} {its : Array Value} {n : Nat} {sl : Array (Option Value)} {xs : List Str} (l : K.lookup a = some ⟨.type "tuple", od, .seq its n, sl⟩) (hz : its.size ≤ sizeLine) (v : Vals (xs.map V.str) its.toList) :
    ∀ μ L H, RV K μ L H (.tup (xs.map .str)) (.ref a) := fun μ L H => by
  have go : ∀ xs : List Str, RVs K μ L H (xs.map PV.str) (xs.map V.str) := fun xs => by
    induction xs with
    | nil => exact .nil
    | cons z xs ih => exact .cons rfl (.str z) ih
  exact .tup (.inr ⟨_, its, n, l, rfl, rfl, hz, v⟩) (go xs)
/-- the law's promise, from what its program yields -/
theorem law_sp {K : PySem.W.Frag} {cf : List PV → Store → Res PV} {H : Hp} {a : Addr} {ns : List Int} (h : ∃ st', cf [.rol (ns.map .int)] [] = .ok (.bl true) st') (ho : Only H) (hs : SqL K H a (ns.map V.int)) : spEv K cf [.ref a] H (fun v _ => v = .bl true) fun _ _ _ => False := by
  obtain ⟨st', e⟩ := h
  refine ⟨fun _ => 0, [], _, _, st', ⟨fun n m hn => absurd hn (by simp), fun n xs hx => by simp at hx⟩, .cons rfl (.rol ?_ (go ns)) .nil, e, fun μ' H' v' _ _ r _ => by cases r; rfl⟩
  rcases hs with (z | ⟨o, z⟩) | z
  · rcases ho a with w | ⟨o, xs, w⟩ <;> (rw [w] at z; cases z)
  · exact .inl ⟨o, z⟩
  · exact .inr z
where go {K : PySem.W.Frag} {μ : Nat → Addr} {L : Nat} {H : Hp} : ∀ ns : List Int, RVs K μ L H (ns.map PV.int) (ns.map V.int)
  | [] => .nil
  | n :: ns => .cons rfl (.int n) (go ns)
end U

set_option maxHeartbeats 8000000
/-! U16: reasoning over the language. -/
namespace U
open PySem L2
@[simp] theorem bind_ok_ {α β : Type} (a : α) (st : Store) (f : α → Store → Res β) : (Res.ok a st).bind f = f a st := rfl
@[simp] theorem opt_some_ {α : Type} (a : α) (st : Store) : opt (some a) st = .ok a st := rfl
@[simp] theorem to_ok_ {α : Type} (a : α) (st : Store) (f : α → Store → SR) : (Res.ok a st).to f = f a st := rfl
@[simp] theorem then_nx_ (e : En) (st : Store) (f : En → Store → SR) : (SR.nx e st).then f = f e st := rfl
@[simp] theorem then_rt_ (v : PV) (st : Store) (f : En → Store → SR) : (SR.rt v st).then f = .rt v st := rfl
@[simp] theorem then_bk_ (e : En) (st : Store) (f : En → Store → SR) : (SR.bk e st).then f = .bk e st := rfl
@[simp] theorem then_ct_ (e : En) (st : Store) (f : En → Store → SR) : (SR.ct e st).then f = .ct e st := rfl
@[simp] theorem isBl_bl_ (b : Bool) : isBl (.bl b) = some b := rfl
@[simp] theorem done_val_ (v : PV) (st : Store) : done .val v st = .ok v st := rfl
@[simp] theorem done_use_ (v : PV) (st : Store) : done .use v st = .ok v st := rfl
@[simp] theorem done_tbl_ (b : Bool) (st : Store) : done .test (.bl b) st = .ok (.bl b) st := rfl
@[simp] theorem isFl_non : PV.isFl .non = false := rfl
@[simp] theorem isFl_bl (b : Bool) : PV.isFl (.bl b) = false := rfl
@[simp] theorem isFl_int (i : Int) : PV.isFl (.int i) = false := rfl
@[simp] theorem isFl_str (s : Str) : PV.isFl (.str s) = false := rfl
@[simp] theorem isFl_tup (s : List PV) : PV.isFl (.tup s) = false := rfl
@[simp] theorem isFl_loc (n : Nat) : PV.isFl (.loc n) = false := rfl
@[simp] theorem isFl_rol (n : List PV) : PV.isFl (.rol n) = false := rfl
@[simp] theorem esc_non (st : Store) : esc .non st = (.non, st) := rfl
@[simp] theorem esc_bl (b : Bool) (st : Store) : esc (.bl b) st = (.bl b, st) := rfl
@[simp] theorem esc_int (i : Int) (st : Store) : esc (.int i) st = (.int i, st) := rfl
@[simp] theorem esc_str (s : Str) (st : Store) : esc (.str s) st = (.str s, st) := rfl
@[simp] theorem esc_tup (s : List PV) (st : Store) : esc (.tup s) st = (.tup s, st) := rfl
@[simp] theorem esc_loc (n : Nat) (st : Store) : esc (.loc n) st = (.loc n, st) := rfl
@[simp] theorem esc_rol (n : List PV) (st : Store) : esc (.rol n) st = (.rol n, st) := rfl
@[simp] theorem esc_fl (n : List PV) (st : Store) : esc (.fl n) st = (.loc st.length, st ++ [.lst n]) := rfl
/-! values at names -/
@[simp] theorem varV_non (st : Store) : varV .val (some (some .non)) st = .ok .non st := rfl
@[simp] theorem varV_bl (b : Bool) (st : Store) : varV .val (some (some (.bl b))) st = .ok (.bl b) st := rfl
@[simp] theorem varV_int (i : Int) (st : Store) : varV .val (some (some (.int i))) st = .ok (.int i) st := rfl
@[simp] theorem varV_str (s : Str) (st : Store) : varV .val (some (some (.str s))) st = .ok (.str s) st := rfl
@[simp] theorem varV_tup (xs : List PV) (st : Store) : varV .val (some (some (.tup xs))) st = .ok (.tup xs) st := rfl
@[simp] theorem varV_loc (n : Nat) (st : Store) : varV .val (some (some (.loc n))) st = .ok (.loc n) st := rfl
@[simp] theorem varV_rol (xs : List PV) (st : Store) : varV .val (some (some (.rol xs))) st = .ok (.rol xs) st := rfl
@[simp] theorem varV_use (v : PV) (st : Store) : varV .use (some (some v)) st = .ok v st := rfl
@[simp] theorem varV_test (v : PV) (st : Store) : varV .test (some (some v)) st = done .test v st := rfl
/-! operations -/
@[simp] theorem bin_add_int (i j : Int) (st : Store) : binV .add (.int i) (.int j) st = some (.int (i + j)) := rfl
@[simp] theorem bin_sub_int (i j : Int) (st : Store) : binV .sub (.int i) (.int j) st = some (.int (i - j)) := rfl
theorem bin_mul_int {i j : Int} {st : Store} (h : ckM i j = true) : binV .mul (.int i) (.int j) st = some (.int (i * j)) := if_pos h
theorem bin_mod_int {i j : Int} {st : Store} (h : 0 < j) : binV .mod (.int i) (.int j) st = some (.int (i % j)) := if_pos h
theorem bin_fdiv_int {i j : Int} {st : Store} (h : 0 < j ∧ j < 1073741824) : binV .fdiv (.int i) (.int j) st = some (.int (i / j)) := if_pos h
theorem bin_pow_int {i j : Int} {st : Store} (h : 0 ≤ j ∧ j ≤ 1000000 ∧ i.natAbs < 2 ^ 64) : binV .pow (.int i) (.int j) st = some (.int (i ^ j.toNat)) := if_pos h
theorem bin_add_str {x y : Str} {st : Store} (h : x.length + y.length ≤ sizeLine) : binV .add (.str x) (.str y) st = some (.str (x ++ y)) := if_pos h
theorem bin_add_tup {x y : List PV} {st : Store} (h : x.length + y.length ≤ sizeLine) : binV .add (.tup x) (.tup y) st = some (.tup (x ++ y)) := if_pos h
theorem bin_mul_str {x : Str} {j : Int} {st : Store} (h : -1000000 ≤ j ∧ j ≤ 1000000 ∧ x.length * j.toNat ≤ 1000000) : binV .mul (.str x) (.int j) st = some (.str (⟨((List.replicate j.toNat x.cps.toList).flatten).toArray⟩)) := if_pos h
@[simp] theorem cmp_eq_int (i j : Int) (st : Store) : cmpV .eq (.int i) (.int j) st = some (decide (i = j)) := by
  show some (decide (V.int i = V.int j)) = _
  simp
@[simp] theorem cmp_ne_int (i j : Int) (st : Store) : cmpV .ne (.int i) (.int j) st = some (!decide (i = j)) := by
  show some (!decide (V.int i = V.int j)) = _
  simp
@[simp] theorem cmp_eq_str (i j : Str) (st : Store) : cmpV .eq (.str i) (.str j) st = some (decide (i = j)) := by
  show some (decide (V.str i = V.str j)) = _
  simp
@[simp] theorem cmp_ne_str (i j : Str) (st : Store) : cmpV .ne (.str i) (.str j) st = some (!decide (i = j)) := by
  show some (!decide (V.str i = V.str j)) = _
  simp
@[simp] theorem cmp_lt_int (i j : Int) (st : Store) : cmpV .lt (.int i) (.int j) st = some (decide (i < j)) := rfl
@[simp] theorem cmp_le_int (i j : Int) (st : Store) : cmpV .le (.int i) (.int j) st = some (decide (i ≤ j)) := rfl
@[simp] theorem cmp_gt_int (i j : Int) (st : Store) : cmpV .gt (.int i) (.int j) st = some (decide (j < i)) := rfl
@[simp] theorem cmp_ge_int (i j : Int) (st : Store) : cmpV .ge (.int i) (.int j) st = some (decide (j ≤ i)) := rfl
@[simp] theorem seq_tup (xs : List PV) (st : Store) : seqOf (.tup xs) st = some xs := rfl
@[simp] theorem seq_fl (xs : List PV) (st : Store) : seqOf (.fl xs) st = some xs := rfl
@[simp] theorem seq_rol (xs : List PV) (st : Store) : seqOf (.rol xs) st = some xs := rfl
theorem seq_loc {n : Nat} {xs : List PV} {st : Store} (h : st[n]? = some (.lst xs)) : seqOf (.loc n) st = some xs := by
  unfold seqOf
  simp only [h]
theorem ix_loc {n : Nat} {xs : List PV} {st : Store} {k : Int} (h : st[n]? = some (.lst xs)) : ixV (.loc n) (.int k) st = atI xs k := by
  unfold ixV
  simp only [seq_loc h]
@[simp] theorem ix_tup_ (xs : List PV) (k : Int) (st : Store) : ixV (.tup xs) (.int k) st = atI xs k := rfl
@[simp] theorem ix_fl_ (xs : List PV) (k : Int) (st : Store) : ixV (.fl xs) (.int k) st = atI xs k := rfl
@[simp] theorem ix_rol_ (xs : List PV) (k : Int) (st : Store) : ixV (.rol xs) (.int k) st = atI xs k := rfl
theorem ix_str_ {z : Str} {k : Int} {st : Store} (h : z.length ≤ sizeLine) : ixV (.str z) (.int k) st = (atI z.cps.toList k).map fun c => .str ⟨#[c]⟩ := if_pos h
@[simp] theorem atI_0 {α : Type} (x : α) (xs : List α) : atI (x :: xs) 0 = some x := atI_nat (j := 0) rfl
@[simp] theorem atI_1 {α : Type} (x y : α) (xs : List α) : atI (x :: y :: xs) 1 = some y := atI_nat (j := 1) rfl
@[simp] theorem atI_2 {α : Type} (x y z : α) (xs : List α) : atI (x :: y :: z :: xs) 2 = some z := atI_nat (j := 2) rfl
@[simp] theorem atI_3 {α : Type} (x y z w : α) (xs : List α) : atI (x :: y :: z :: w :: xs) 3 = some w := atI_nat (j := 3) rfl
@[simp] theorem truth_bl_ (b : Bool) (st : Store) : truth (.bl b) st = some b := rfl
@[simp] theorem bi_int_int (i : Int) (st : Store) : biV .int [.int i] st = some (.int i) := rfl
@[simp] theorem bi_int_bl (k : Bool) (st : Store) : biV .int [.bl k] st = some (.int (if k then 1 else 0)) := rfl
@[simp] theorem bi_abs (i : Int) (st : Store) : biV .abs [.int i] st = some (.int (if i < 0 then -i else i)) := rfl
@[simp] theorem bi_max (i j : Int) (st : Store) : biV .max [.int i, .int j] st = some (.int (if j > i then j else i)) := rfl
@[simp] theorem bi_min (i j : Int) (st : Store) : biV .min [.int i, .int j] st = some (.int (if j < i then j else i)) := rfl
theorem bi_len_str {z : Str} {st : Store} (h : z.length ≤ sizeLine) : biV .len [.str z] st = some (.int z.length) := if_pos h
theorem bi_len_loc {n : Nat} {xs : List PV} {st : Store} (h : st[n]? = some (.lst xs)) : biV .len [.loc n] st = some (.int xs.length) := by
  show (seqOf (.loc n) st).map _ = _
  rw [seq_loc h]; rfl
@[simp] theorem bi_len_fl (xs : List PV) (st : Store) : biV .len [.fl xs] st = some (.int xs.length) := rfl
@[simp] theorem bi_len_tup (xs : List PV) (st : Store) : biV .len [.tup xs] st = some (.int xs.length) := rfl
@[simp] theorem bi_list_rol (xs : List PV) (st : Store) : biV .list [.rol xs] st = some (.fl xs) := rfl
@[simp] theorem bi_repr (b : Bool) (st : Store) : biV .repr [.bl b] st = some (.str (if b then Str.ofString "True" else Str.ofString "False")) := rfl
theorem bi_str {i : Int} {st : Store} (h : i.natAbs < 1000000) : biV .str [.int i] st = some (.str (toString i)) := if_pos h
@[simp] theorem low_int (n : Nat) (i : Int) : PV.low n (.int i) = true := rfl
@[simp] theorem low_bl (n : Nat) (i : Bool) : PV.low n (.bl i) = true := rfl
@[simp] theorem low_str (n : Nat) (i : Str) : PV.low n (.str i) = true := rfl
theorem leave_id (v : PV) (st : Store) : leave st.length v st = .ok v st := if_pos (Nat.le_refl _)
theorem leave_set (v : PV) (st : Store) (n : Nat) (c : Cell) : leave st.length v (st.set n c) = .ok v (st.set n c) := if_pos (by simp)
theorem leave_setAt (v : PV) (st : Store) (n : Nat) (c : List PV) : leave st.length v (setAt st n c) = .ok v (setAt st n c) := if_pos (by simp [setAt])
/-- a call that leaves the store as long as it was -/
theorem leave_same {n : Nat} {v : PV} {st : Store} (h : st.length ≤ n) : leave n v st = .ok v st := if_pos h

/-- the turns of a comprehension over items -/
theorem lcLoop_inv {test : En → Store → Res Bool} {elt : En → Store → Res PV} {put : PV → En → Option En} {env : En} {xs : List PV} (I : Nat → List PV → Store → Prop)
    (step : ∀ j x acc st, xs[j]? = some x → I j acc st → ∃ env' b st1, put x env = some env' ∧ test env' st = .ok b st1 ∧
      if b = true then ∃ y st2, elt env' st1 = .ok y st2 ∧ acc.length < sizeLine ∧ I (j + 1) (acc ++ [(esc y st2).1]) (esc y st2).2 else I (j + 1) acc st1) :
    ∀ m j acc st, j + m = xs.length → I j acc st → ∃ acc' st', lcLoop test elt put env (.items xs) j m acc st = .ok (.fl acc') st' ∧ I xs.length acc' st'
  | 0, j, acc, st, e, i => by
    have e : j = xs.length := by omega
    subst e
    exact ⟨acc, st, rfl, i⟩
  | m + 1, j, acc, st, e, i => by
    have hj : j < xs.length := by omega
    obtain ⟨env', b, st1, h1, h2, h3⟩ := step j xs[j] acc st (by simp [hj]) i
    have hg : (Src.items xs).get j st = some xs[j] := by simp [Src.get, hj]
    unfold lcLoop
    rw [hg]
    simp only [h1, h2, bind_ok_]
    cases b with
    | false =>
      simp only [Bool.false_eq_true, if_false] at h3 ⊢
      exact lcLoop_inv I step m (j + 1) acc st1 (by omega) h3
    | true =>
      simp only [if_true] at h3 ⊢
      obtain ⟨y, st2, h4, h5, h6⟩ := h3
      simp only [h4, bind_ok_, if_pos h5]
      exact lcLoop_inv I step m (j + 1) _ _ (by omega) h6
/-- .. that leave the store -/
theorem lcLoop_pure {test : En → Store → Res Bool} {elt : En → Store → Res PV} {put : PV → En → Option En} {env : En} {xs : List PV} {st : Store} (b : PV → Bool) (f : PV → PV) (hz : xs.length < sizeLine)
    (step : ∀ x, x ∈ xs → ∃ env', put x env = some env' ∧ test env' st = .ok (b x) st ∧ (b x = true → elt env' st = .ok (f x) st ∧ (f x).isFl = false)) :
    lcLoop test elt put env (.items xs) 0 xs.length [] st = .ok (.fl ((xs.filter b).map f)) st := by
  obtain ⟨acc, st', h1, h2, h3⟩ := lcLoop_inv (env := env) (put := put) (test := test) (elt := elt) (xs := xs) (fun j acc st' => st' = st ∧ acc = ((xs.take j).filter b).map f) (fun j x acc st1 hx ⟨e1, e2⟩ => by
    subst e1
    obtain ⟨env', q1, q2, q3⟩ := step x (List.mem_of_getElem? hx)
    have ht : xs.take (j + 1) = xs.take j ++ [x] := by rw [List.take_add_one, hx]; rfl
    refine ⟨env', b x, st1, q1, q2, ?_⟩
    cases hb : b x with
    | false =>
      simp only [Bool.false_eq_true, if_false]
      exact ⟨by trivial, by rw [ht, List.filter_append, e2]; simp [hb]⟩
    | true =>
      obtain ⟨q4, q5⟩ := q3 hb
      simp only [if_true]
      refine ⟨f x, st1, q4, ?_, ?_⟩
      · rw [e2, List.length_map]
        have := List.length_filter_le b (xs.take j)
        have := List.length_take_le j xs
        have : (xs.take j).length ≤ xs.length := by rw [List.length_take]; omega
        omega
      · have es : esc (f x) st1 = (f x, st1) := by cases hf : f x <;> first | rfl | (rw [hf] at q5; cases q5)
        rw [es]
        exact ⟨by trivial, by rw [ht, List.filter_append, e2]; simp [hb]⟩) xs.length 0 [] st (by omega) ⟨rfl, by simp⟩
  rw [h1, h2, h3, List.take_length]
/-- what a turn comes to -/
def SR.go (r : SR) (P : En → Store → Prop) : Prop := match r with
  | .nx e s => P e s
  | .ct e s => P e s
  | _ => False
@[simp] theorem go_nx (e : En) (s : Store) (P : En → Store → Prop) : (SR.nx e s).go P = P e s := rfl
@[simp] theorem go_ct (e : En) (s : Store) (P : En → Store → Prop) : (SR.ct e s).go P = P e s := rfl
def SR.goR (r : SR) (P : En → Store → Prop) (R : PV → Store → Prop) : Prop := match r with
  | .nx e s => P e s
  | .ct e s => P e s
  | .rt v s => R v s
  | _ => False
@[simp] theorem goR_nx (e : En) (s : Store) (P : En → Store → Prop) (R : PV → Store → Prop) : (SR.nx e s).goR P R = P e s := rfl
@[simp] theorem goR_ct (e : En) (s : Store) (P : En → Store → Prop) (R : PV → Store → Prop) : (SR.ct e s).goR P R = P e s := rfl
@[simp] theorem goR_rt (v : PV) (s : Store) (P : En → Store → Prop) (R : PV → Store → Prop) : (SR.rt v s).goR P R = R v s := rfl
/-- the turns of a for over items, none of which leaves -/
theorem forLoop_inv {put : PV → En → Option En} {body : En → Store → SR} {xs : List PV} (I : Nat → En → Store → Prop)
    (step : ∀ j x env st, xs[j]? = some x → I j env st → ∃ env', put x env = some env' ∧ (body env' st).go fun e s => I (j + 1) e s) :
    ∀ m j env st, j + m = xs.length → I j env st → ∃ e s, forLoop put body (.items xs) j m env st = .nx e s ∧ I xs.length e s
  | 0, j, env, st, e, i => by
    have e : j = xs.length := by omega
    subst e
    exact ⟨env, st, rfl, i⟩
  | m + 1, j, env, st, e, i => by
    have hj : j < xs.length := by omega
    obtain ⟨env', h1, h2⟩ := step j xs[j] env st (by simp [hj]) i
    have hg : (Src.items xs).get j st = some xs[j] := by simp [Src.get, hj]
    unfold forLoop
    rw [hg]
    simp only [h1]
    cases q : body env' st with
    | nx e' s' => rw [q] at h2; exact forLoop_inv I step m (j + 1) e' s' (by omega) h2
    | ct e' s' => rw [q] at h2; exact forLoop_inv I step m (j + 1) e' s' (by omega) h2
    | _ => rw [q] at h2; exact h2.elim
/-- .. some of which may hand back a value of R -/
theorem forLoop_ret {put : PV → En → Option En} {body : En → Store → SR} {xs : List PV} (I : Nat → En → Store → Prop) (R : PV → Store → Prop)
    (step : ∀ j x env st, xs[j]? = some x → I j env st → ∃ env', put x env = some env' ∧ (body env' st).goR (fun e s => I (j + 1) e s) R) :
    ∀ m j env st, j + m = xs.length → I j env st → (∃ e s, forLoop put body (.items xs) j m env st = .nx e s ∧ I xs.length e s) ∨ ∃ v s, forLoop put body (.items xs) j m env st = .rt v s ∧ R v s
  | 0, j, env, st, e, i => by
    have e : j = xs.length := by omega
    subst e
    exact .inl ⟨env, st, rfl, i⟩
  | m + 1, j, env, st, e, i => by
    have hj : j < xs.length := by omega
    obtain ⟨env', h1, h2⟩ := step j xs[j] env st (by simp [hj]) i
    have hg : (Src.items xs).get j st = some xs[j] := by simp [Src.get, hj]
    unfold forLoop
    rw [hg]
    simp only [h1]
    cases q : body env' st with
    | nx e' s' => rw [q] at h2; exact forLoop_ret I R step m (j + 1) e' s' (by omega) h2
    | ct e' s' => rw [q] at h2; exact forLoop_ret I R step m (j + 1) e' s' (by omega) h2
    | rt v s => rw [q] at h2; exact .inr ⟨v, s, rfl, h2⟩
    | _ => rw [q] at h2; exact h2.elim
theorem atI_nn {α : Type} {xs : List α} {i : Int} {x : α} (h0 : 0 ≤ i) (h : xs[i.toNat]? = some x) : atI xs i = some x := by
  have := atI_nat h
  rwa [Int.toNat_of_nonneg h0] at this
end U

set_option maxHeartbeats 4000000
/-! W3: a def's call where the context is given (its guards can be known), from its body. -/
namespace U
open PySem PySem.W PyProof.Rows L2
theorem codeG {P : Program} {w : World} {K : PySem.W.Frag} {mg : Str → Option Value} {base : Heap} {x qual : Str} {st : Stmt} {f : Addr} {fd : FuncData} {N ps : List Str} {k : Nat} {A : Around} {outer : List Env} {s : Shared} {H : Hp} {args : Args} {us : List Value} {vs : List V} {Q : VK} {E : XK}
    (F : Fun K x qual st f fd) (S : FnScope N ps (defScope st)) (hr : Room (k + 1) A) (E0 : Env0 P w K mg base A outer s H) (nl : s.heap.NoLimit) (hb : BindsTo s fd args (ps.zip us)) (hv : Vals vs us) (hl : vs.length = ps.length)
    (body : ∀ cdv, Room k (A.deeper (envOfC qual (defScope st) s.heap.objs.size f cdv)) → ∃ t, PSs (cxOf CX0 P w K mg base N qual (defScope st) f cdv A outer s H E).nox (defBody st) t ∧ t { nx := fun x H' => Q V.non H', rt := Q, bk := fun _ _ => False, ct := fun _ _ => False } (L2.start N vs) H) :
    codeAny (model P w) A (Code.call (Value.ref f) args) (CR CX0 outer P w H s Q E) s := by
  obtain ⟨⟨oc, od, kV, doc, pm, an, cdv, ct, osl, hfd, hlk, hc⟩, kp⟩ := F
  subst hfd
  have kin : K.In s.heap := fun a o h => (E0.bs a o (E0.mod.kin a o h)).1
  have rm : Room k (A.deeper (envOfC qual (defScope st) s.heap.objs.size f cdv)) := by
    obtain ⟨h1, h2, h3⟩ := hr
    exact ⟨h1, by show A.depth + 1 + 3 * k + 5 < _; omega, by show A.units + 3 + 16 * k + 200 < _; omega⟩
  obtain ⟨t, b1, b2⟩ := body cdv rm
  refine Att.call_fn kin nl hlk hc (by have := hr.dp; omega) hb ?_ (fun s1 hin => ?_) S.co S.gen S.kind
  · rw [List.all_eq_true]
    intro y hy
    have hm : y.1 ∈ ps := (List.of_mem_zip hy).1
    rcases S.par y.1 hm with h | h <;> simp [h]
  · have I := inv_start (CX := CX0) (E := E) (cd := cdv) (qual := qual) (f := f) (us := us) S hr.hd E0 hl hv hin
    have I2 : L2.Inv (cxOf CX0 P w K mg base N qual (defScope st) f cdv A outer s H E).nox [] (L2.start N vs) H s1 :=
      ⟨⟨I.ok.mod, I.ok.kind, I.ok.glob, I.ok.blt, I.ok.above, I.ok.inj, I.ok.has, I.ok.cab, I.ok.hd, I.ok.frames, I.ok.stk, I.ok.exf, I.ok.bs, I.ok.bsz, I.ok.noex, I.ok.exfs, I.ok.funs, I.ok.frf⟩, I.os, I.bare, I.base, I.loc, I.cell, I.free, I.freeC, I.pin, I.hok, I.len⟩
    refine PySem.wpAny_mono (b1.run [] s1 (L2.start N vs) H _ I2 b2) (fun fl s' h => ?_) (fun _ _ h => h.elim)
    cases fl with
    | next =>
      obtain ⟨σ', H', I', q⟩ := h
      exact ⟨.non, H', I'.os, I'.bare, I'.base, I'.hok, rfl, q⟩
    | brk => obtain ⟨_, _, _, q⟩ := h; exact q.elim
    | cont => obtain ⟨_, _, _, q⟩ := h; exact q.elim
    | ret u =>
      obtain ⟨v, σ', H', I', rv, q⟩ := h
      exact ⟨v, H', I'.os, I'.bare, I'.base, I'.hok, rv, q⟩
end U

set_option maxHeartbeats 4000000
/-! W4: the law's call at the top, from codeG's kind of fact. -/
namespace U
open PySem PySem.W PyProof.Rows L2
/-- a heap with one object gone -/
def gone (h : Heap) (a : Addr) : Heap := { h with objs := h.objs.modify a fun o => { o with data := .freed } }
theorem gone_at {h : Heap} {a : Addr} : (gone h a).get? a = none := by
  unfold gone Heap.get?
  simp only [Array.getElem?_modify, if_true]
  cases h.objs[a]? <;> rfl
theorem gone_ne {h : Heap} {a b : Addr} (e : b ≠ a) : (gone h a).get? b = h.get? b := by
  unfold gone Heap.get?
  simp only [Array.getElem?_modify, if_neg (Ne.symm e)]
theorem gone_size {h : Heap} {a : Addr} : (gone h a).objs.size = h.objs.size := by
  unfold gone
  simp
theorem gone_keep {h : Heap} {a b : Addr} {o : Obj} (e : (gone h a).get? b = some o) : b ≠ a ∧ h.get? b = some o := by
  by_cases z : b = a
  · subst z; rw [gone_at] at e; cases e
  · rw [gone_ne z] at e; exact ⟨z, e⟩
theorem gone_ns {h : Heap} {a b : Addr} {m : Str → Option Value} {o : Obj} (hn : h.Ns b m) (ha : h.get? a = some o) (hd : ∀ es ep, o.data ≠ Data.dict es ep) : (gone h a).Ns b m := by
  obtain ⟨o', es, ep, p1, p2, p3, p4⟩ := hn
  have z : b ≠ a := fun e => by
    subst e
    rw [ha] at p1
    have := Option.some.inj p1
    subst this
    exact hd _ _ p2
  exact ⟨o', es, ep, by rw [gone_ne z]; exact p1, p2, p3, p4⟩
theorem vals_len : ∀ {xs : List V} {us : List Value}, Vals xs us → xs.length = us.length
  | [], us, h => by cases h; rfl
  | x :: xs, us, h => by
    cases h with
    | cons h1 h2 => simp [vals_len h2]
theorem law_callG {P : Program} {w : World} {K : PySem.W.Frag} {mg mb : Str → Option Value} {fa a : Addr} {s₁ : Shared} {vs : List Value} {ns : List Int}
    (kin : K.In s₁.heap) (hg : s₁.heap.Ns mainGlobals mg) (hb : s₁.heap.Ns builtinsNs mb) (hbo : ∀ x : Str, x ≠ Str.ofString "__name__" → mb x = bootBuiltins x) (nl : s₁.heap.NoLimit) (gens : s₁.gens = #[])
    (ha : s₁.heap.get? a = some { cls := Value.type "list", data := Data.seq vs.toArray }) (hi : IntsAre vs ns) (hz : ns.length ≤ sizeLine)
    (run : ∀ (base : Heap) (H : Hp), Env0 P w K mg base callerA [] s₁ H → Only H → SqL K H a (ns.map V.int) → codeAny (model P w) callerA (Code.call (Value.ref fa) { pos := [Value.ref a] }) (CR CX0 [] P w H s₁ (fun v _ => v = V.bl true) (fun _ _ _ => False)) s₁) :
    codeAny (model P w) callerA (Code.call (Value.ref fa) { pos := [Value.ref a] }) (fun r s' => r = Except.ok (Flow.ret (Value.bool true)) ∧ OldK s₁.heap s'.heap ∧ s'.os = s₁.os ∧ AllBare s'.gens) s₁ := by
  have hv := vals_of_ints hi
  have bare : AllBare s₁.gens := fun y hy => by rw [gens] at hy; simp at hy
  have nd : ∀ es ep, ({ cls := Value.type "list", data := Data.seq vs.toArray } : Obj).data ≠ Data.dict es ep := fun es ep e => by cases e
  -- what follows from the call
  have fin : ∀ (base : Heap) (H : Hp), Env0 P w K mg base callerA [] s₁ H → (∀ b, H b = none ∨ ∃ o u, H b = some (HO.frz o u)) → ∀ r s', CR CX0 [] P w H s₁ (fun v _ => v = V.bl true) (fun _ _ _ => False) r s' → r = Except.ok (Flow.ret (Value.bool true)) ∧ OldK s₁.heap s'.heap ∧ s'.os = s₁.os ∧ AllBare s'.gens := by
    intro base H E0 hH r s' h
    cases r with
    | error e => exact h.elim
    | ok fl =>
      cases fl with
      | ret u =>
        obtain ⟨v, H', h1, h2, h3, h4, h5, h6⟩ := h
        subst h6
        have h5 : u = Value.bool true := h5
        have old : ∀ b o, s₁.heap.get? b = some o → s'.heap.get? b = some o := fun b o hb => by
          rcases hH b with z | ⟨o', u', z⟩
          · exact h3.keep b o hb z (by simp [frs]) (by simp)
          · have z' := h3.frzs b o' u' z
            have q1 := E0.hok b _ z
            have q2 := h4 b _ z'
            rw [ObjOk.eq_def] at q1 q2
            simp only at q1 q2
            rw [q1.1] at hb
            rw [q2.1]; exact hb
        exact ⟨by rw [h5], ⟨fun b o hb => .inl (old b o hb), fun b o hb => ⟨o, old b o hb⟩⟩, h1, h2⟩
      | _ => exact h.elim
  by_cases hk : K.lookup a = none
  · -- the list stands outside: it is frozen
    let H : Hp := fun b => if b = a then some (HO.frz { cls := Value.type "list", data := Data.seq vs.toArray } (HO.lst (ns.map V.int))) else none
    have Ha : H a = some (HO.frz { cls := Value.type "list", data := Data.seq vs.toArray } (HO.lst (ns.map V.int))) := if_pos rfl
    have E0 : Env0 P w K mg (gone s₁.heap a) callerA [] s₁ H := by
      refine ⟨rfl, ⟨fun b o hb => ?_, gone_ns hg ha nd, ⟨mb, gone_ns hb ha nd, hbo⟩, ?_⟩, fun b o hb => ?_, by rw [gone_size]; exact Nat.le_refl _, ?_, fun b hb => by simp [frs] at hb, fun b o hb => ?_, bare⟩
      · have z : b ≠ a := fun e => by subst e; rw [hk] at hb; cases hb
        rw [gone_ne z]; exact kin b o hb
      · obtain ⟨mc, n1, n2⟩ := nl
        exact ⟨mc, gone_ns n1 ha nd, n2⟩
      · obtain ⟨z, q⟩ := gone_keep hb
        exact ⟨q, if_neg z⟩
      · trivial
      · by_cases e : b = a
        · subst e
          rw [Ha] at hb
          have := Option.some.inj hb
          subst this
          rw [ObjOk.eq_def]
          refine ⟨ha, ?_⟩
          rw [ObjOk.eq_def]
          exact ⟨by rw [List.length_map]; exact hz, vs, 0, hv, ha⟩
        · rw [show H b = none from if_neg e] at hb; cases hb
    have only : Only H := fun b => by
      by_cases e : b = a
      · subst e; exact .inr ⟨_, _, Ha⟩
      · exact .inl (if_neg e)
    refine codeAny_mono (run _ H E0 only (.inl (.inr ⟨_, Ha⟩))) (fin _ H E0 fun b => ?_)
    rcases only b with z | ⟨o, x, z⟩
    · exact .inl z
    · exact .inr ⟨o, _, z⟩
  · -- the list is one of the module's
    obtain ⟨o, ho⟩ := Option.ne_none_iff_exists'.mp hk
    have eo := kin a o ho
    rw [ha] at eo
    have eo := Option.some.inj eo
    have E0 : Env0 P w K mg s₁.heap callerA [] s₁ (fun _ => none) :=
      ⟨rfl, ⟨kin, hg, ⟨mb, hb, hbo⟩, nl⟩, fun b o hb => ⟨hb, rfl⟩, Nat.le_refl _, trivial, (fun b hb => rfl), (fun b o hb => by cases hb), bare⟩
    refine codeAny_mono (run _ _ E0 (fun b => .inl rfl) (.inr ⟨o, vs.toArray, 0, ho, by rw [← eo], by rw [← eo], by rw [← eo], ?_, by simpa using hv⟩)) (fin _ _ E0 fun b => .inl rfl)
    have := vals_len hv
    simp at this ⊢
    omega
end U

set_option maxHeartbeats 4000000
/-! W5: a law's statement from its def's call at the top, where the guards are known. -/
namespace U
open PySem PySem.W PyProof.Rows L2
theorem walk_ofG {l : OpenLaw} {n : Nat} {q : Program} {loose : List Str} {XP : (Str → Option Value) → Heap → Prop} {YP : World → Heap → Prop} {d : DefRec} {K : Params → PySem.W.Frag}
    (hm : l.most = some n) (hn : n ≤ sizeLine) (hd : d.params.defaults = []) (kin : ∀ (w : World) (h : Heap), YP w h → (K w.params).In h)
    (run : ∀ (w : World) (mg : Str → Option Value) (fa : Addr) (base : Heap) (H : Hp) (s : Shared) (a : Addr) (ns : List Int), (K w.params).In s.heap → s.heap.Ns mainGlobals mg → s.heap.NoLimit → mg d.name = some (Value.ref fa) → ns.length ≤ n → Env0 l.prog w (K w.params) mg base callerA [] s H → Only H → SqL (K w.params) H a (ns.map V.int) →
      codeAny (model l.prog w) callerA (Code.call (Value.ref fa) { pos := [Value.ref a] }) (CR CX0 [] l.prog w H s (fun v _ => v = V.bl true) (fun _ _ _ => False)) s) :
    WalkO q loose XP YP l.row.toRowW d [] fun f vs => PySem.call f vs := by
  refine Att.attach_call hm hd fun w s₀ s₁ mg mb fa o pm cd doc a vs ns G Y h1 h2 h3 h4 h5 h6 h7 h8 => ?_
  have T := G.T
  refine law_callG (kin w _ Y) T.g T.b T.builtins T.nolimit h8 h5 h6 (by omega) fun base H E0 ho hs => ?_
  exact run w mg fa base H s₁ a ns (kin w _ Y) T.g T.nolimit h4 h7 E0 ho hs
end U

set_option maxHeartbeats 4000000
/-! U17: the law's own def, called at the top, where the guards are known. -/
namespace U
open PySem PySem.W PyProof.Rows L2
section
variable {W : Wd} {k : Nat} {turns : Nat} {D : Nat → Option Def}
/-- the law's def: its text may ask for known guards -/
structure EntG (W : Wd) (D : Nat → Option Def) (fn : List (Str × Nat)) (cs : List (Str × PV)) (bl : List Str) (ds : List (Str × List (Str × PV))) (e : Ent) : Prop where
  mg : W.mg e.x = some (.ref e.a)
  fun_ : Fun W.K e.x e.x e.st e.a e.fd
  sc : FnScope e.N e.ps (defScope e.st)
  d : D e.f = some e.d
  np : e.ps.length = e.d.np
  nl : e.N.length = e.d.nl
  text : mSs ⟨e.N, defScope e.st, fn, cs, bl, ds, true⟩ e.d.body (defBody e.st) = true
theorem law_body {es : List Ent} {cs : List (Str × PV)} {bl : List Str} {ds : List (Str × List (Str × PV))} (P : ProgOk W D es cs bl ds) (ih : ∀ e ∈ es, FnOk W.P W.w W.K W.mg W.base CX0 k e.a e.fd e.ps (spEv W.K (evCall turns D k e.f)))
    (e : Ent) (E0 : EntG W D (es.map Ent.pair) cs bl ds e) {cdv : Value} {A : Around} {outer : List Env} {s : Shared} {H : Hp} {vs : List V} {Q : VK} {E : XK} (hgu : A.guards = some []) (hr : Room k (A.deeper (envOfC e.x (defScope e.st) s.heap.objs.size e.a cdv))) (h : spEv W.K (evCall turns D (k + 1) e.f) vs H Q E) :
    ∃ t, PSs (cxOf CX0 W.P W.w W.K W.mg W.base e.N e.x (defScope e.st) e.a cdv A outer s H E).nox (defBody e.st) t ∧ t { nx := fun x H' => Q V.non H', rt := Q, bk := fun _ _ => False, ct := fun _ _ => False } (L2.start e.N vs) H := by
  obtain ⟨μ, st0, as, v, st', o, r, q, g⟩ := h
  rw [evCall, E0.d] at q
  simp only at q
  split at q
  · rename_i qq
    obtain ⟨s1, own⟩ := start_ok (N := e.N) r qq.2 E0.nl
    have G : Gs W ⟨e.N, defScope e.st, es.map Ent.pair, cs, bl, ds, true⟩ k (cxOf CX0 W.P W.w W.K W.mg W.base e.N e.x (defScope e.st) e.a cdv A outer s H E).nox :=
      ⟨⟨rfl, rfl, rfl, rfl, rfl, rfl, rfl, E0.sc.nd, rfl, hr, fun _ => hgu⟩, E0.sc.kind, fun _ => rfl, rfl⟩
    have F : Fx W ⟨e.N, defScope e.st, es.map Ent.pair, cs, bl, ds, true⟩ k (evCall turns D k) := ⟨fun x f hx => by
      obtain ⟨e', h1, rfl, rfl⟩ := ent_of hx
      have E1 := P.df e' h1
      exact ⟨e'.a, e'.fd, e'.ps, E1.mg, E1.fun_.kp, E1.binds, ih e' h1⟩, P.cs, P.bl, P.ds⟩
    refine ⟨_, sSs (turns := turns) e.d.body G F E0.text, μ, _, st0, o, s1, ?_⟩
    rw [← qq.1] at q
    split at q
    · rename_i env' s' hs
      rw [hs]
      refine fun μ' H' σ' t o' r' w => ?_
      have t : Stp μ st0.length H μ' s'.length H' := t.weak fun b z => (own b z).elim
      obtain ⟨rfl, q1, q2, q3⟩ := leave_ok q t o' .non
      exact g μ' H' .non q1 q2 q3 trivial
    · rename_i w' s' hs
      rw [hs]
      refine fun μ' H' v' t o' r' w => ?_
      have t : Stp μ st0.length H μ' s'.length H' := t.weak fun b z => (own b z).elim
      obtain ⟨rfl, q1, q2, q3⟩ := leave_ok q t o' r'
      refine g μ' H' v' q1 q2 q3 ?_
      cases q3 with
      | fl _ _ _ => exact (w _ rfl rfl).elim (fun z => (own _ z).elim) fun z => z
      | _ => trivial
    · cases q
  · cases q

theorem law_top {es : List Ent} {cs : List (Str × PV)} {bl : List Str} {ds : List (Str × List (Str × PV))} (P : ProgOk W D es cs bl ds) (e : Ent) (E0 : EntG W D (es.map Ent.pair) cs bl ds e) {x : Str} (hx : e.ps = [x]) (hb : ∀ (s : Shared) (u : Value), BindsTo s e.fd { pos := [u] } [(x, u)])
    (hr : Room (k + 1) callerA) {s : Shared} {H : Hp} {a : Addr} {ns : List Int} (nl : s.heap.NoLimit) (Ev : Env0 W.P W.w W.K W.mg W.base callerA [] s H) (hm : ∃ st', evCall turns D (k + 1) e.f [.rol (ns.map .int)] [] = .ok (.bl true) st') (ho : Only H) (hs : SqL W.K H a (ns.map V.int)) :
    codeAny (model W.P W.w) callerA (Code.call (Value.ref e.a) { pos := [Value.ref a] }) (CR CX0 [] W.P W.w H s (fun v _ => v = V.bl true) (fun _ _ _ => False)) s := by
  refine codeG (us := [Value.ref a]) (vs := [V.ref a]) E0.fun_ E0.sc hr Ev nl ?_ (.cons rfl .nil) (by rw [hx]; rfl) fun cdv rm => law_body P (prog_ok P k) e E0 rfl rm (law_sp hm ho hs)
  rw [hx]
  exact hb s (Value.ref a)

end
end U

set_option maxHeartbeats 8000000
namespace K69
abbrev DEEP : Nat := 200
abbrev TURNS : Nat := 64
/-! the program's own text, by the generator -/
open PySem PySem.Spec PyProof.Rows L2 U
def topS (i : Nat) : Stmt := PySem.Challenge.pw_flowform_k69_order_of_blocks.main.body.getD i (.Pass ⟨0, 0, 0, 0⟩)
/-- bodies -/
abbrev s11 : Stmt := topS 3
def n11 : List Str := ["statement"]
def p11 : List Str := ["statement"]
def d11 : Def := { np := 1, nl := 1, body :=
  (.cons (.ret (.sl (.var 0) (.bin .sub (.bi .len (.cons (.var 0) .nil)) (.gget "BODY_COUNTS" [("if", (.int 2)), ("while", (.int 1)), ("for", (.int 1)), ("try", (.int 2)), ("block", (.int 1))] (.ix (.var 0) (.con (.int 0))) (.con (.int 0)))) (.con .non)))
  .nil) }
/-- whole_conditions -/
abbrev s12 : Stmt := topS 4
def n12 : List Str := ["statement"]
def p12 : List Str := ["statement"]
def d12 : Def := { np := 1, nl := 1, body :=
  (.cons (.ite (.cmp .eq (.ix (.var 0) (.con (.int 0))) (.con (.str "if"))) (.cons (.ret (.tup (.cons (.ix (.var 0) (.con (.int 1))) .nil)))
  .nil) .nil)
  (.cons (.ite (.cmp .eq (.ix (.var 0) (.con (.int 0))) (.con (.str "while"))) (.cons (.ret (.tup (.cons (.ix (.var 0) (.con (.int 2))) .nil)))
  .nil) .nil)
  (.cons (.ret (.tup .nil))
  .nil))) }
/-- operands -/
abbrev s13 : Stmt := topS 5
def n13 : List Str := ["condition"]
def p13 : List Str := ["condition"]
def d13 : Def := { np := 1, nl := 1, body :=
  (.cons (.ite (.cmp .eq (.ix (.var 0) (.con (.int 0))) (.con (.str "not"))) (.cons (.ret (.tup (.cons (.ix (.var 0) (.con (.int 1))) .nil)))
  .nil) .nil)
  (.cons (.ite (.cmp .inn (.ix (.var 0) (.con (.int 0))) (.tup (.cons (.con (.str "and")) (.cons (.con (.str "or")) .nil)))) (.cons (.ret (.ix (.var 0) (.con (.int 1))))
  .nil) .nil)
  (.cons (.ret (.tup .nil))
  .nil))) }
def e14_0 : ME :=
  (.fn 15 (.cons (.var 1) .nil))
/-- size -/
abbrev s14 : Stmt := topS 6
def n14 : List Str := ["program", "statement"]
def p14 : List Str := ["program"]
def d14 : Def := { np := 1, nl := 2, body :=
  (.cons (.ret (.bi .sum (.cons (.lc e14_0 (.nm 1) (.var 0) false (.con (.bl true))) .nil)))
  .nil) }
def e15_0 : ME :=
  (.fn 14 (.cons (.var 3) .nil))
def e15_1 : ME :=
  (.fn 17 (.cons (.var 2) .nil))
/-- _statement_size -/
abbrev s15 : Stmt := topS 7
def n15 : List Str := ["statement", "total", "condition", "body"]
def p15 : List Str := ["statement"]
def d15 : Def := { np := 1, nl := 4, body :=
  (.cons (.set 1 (.gget "OWN_SIZES" [("try", (.int 2)), ("block", (.int 0))] (.ix (.var 0) (.con (.int 0))) (.con (.int 1))) true)
  (.cons (.ite (.and (.cmp .eq (.ix (.var 0) (.con (.int 0))) (.con (.str "if"))) (.fn 16 (.cons (.ix (.var 0) (.con (.int 3))) .nil))) (.cons (.aug 1 .add (.con (.int 1)))
  .nil) .nil)
  (.cons (.aug 1 .add (.bi .sum (.cons (.lc e15_1 (.nm 2) (.fn 12 (.cons (.var 0) .nil)) false (.con (.bl true))) .nil)))
  (.cons (.ret (.bin .add (.var 1) (.bi .sum (.cons (.lc e15_0 (.nm 3) (.fn 11 (.cons (.var 0) .nil)) false (.con (.bl true))) .nil))))
  .nil)))) }
def e16_0 : ME :=
  (.or (.cmp .ne (.ix (.var 1) (.con (.int 0))) (.con (.str "block"))) (.fn 16 (.cons (.ix (.var 1) (.con (.int 1))) .nil)))
/-- _has_more_than_blocks -/
abbrev s16 : Stmt := topS 8
def n16 : List Str := ["body", "statement"]
def p16 : List Str := ["body"]
def d16 : Def := { np := 1, nl := 2, body :=
  (.cons (.ret (.bi .any (.cons (.lc e16_0 (.nm 1) (.var 0) false (.con (.bl true))) .nil)))
  .nil) }
def e17_0 : ME :=
  (.fn 17 (.cons (.var 1) .nil))
/-- _condition_size -/
abbrev s17 : Stmt := topS 9
def n17 : List Str := ["condition", "part"]
def p17 : List Str := ["condition"]
def d17 : Def := { np := 1, nl := 2, body :=
  (.cons (.ite (.cmp .inn (.ix (.var 0) (.con (.int 0))) (.tup (.cons (.con (.str "call")) (.cons (.con (.str "flag")) .nil)))) (.cons (.ret (.con (.int 1)))
  .nil) .nil)
  (.cons (.ret (.bi .sum (.cons (.lc e17_0 (.nm 1) (.fn 13 (.cons (.var 0) .nil)) false (.con (.bl true))) .nil)))
  .nil)) }
def b158_0 : MSs :=
  (.cons (.set 4 (.tup (.cons (.bin .add (.ix (.var 5) (.con (.int 0))) (.ix (.var 4) (.con (.int 0)))) (.cons (.gidx "KINDS" ["call", "not", "and", "or"] (.var 1)) (.cons (.var 5) (.cons (.var 4) .nil))))) false)
  .nil)
def e158_1 : ME :=
  (.fn 158 (.cons (.var 5) .nil))
/-- condition_key -/
abbrev s158 : Stmt := topS 12
def n158 : List Str := ["condition", "kind", "inner", "keys", "key", "part"]
def p158 : List Str := ["condition"]
def d158 : Def := { np := 1, nl := 6, body :=
  (.cons (.setT [1, 2] (.var 0))
  (.cons (.ite (.cmp .eq (.var 1) (.con (.str "call"))) (.cons (.ret (.tup (.cons (.con (.int 1)) (.cons (.con (.int 0)) (.cons (.var 2) .nil)))))
  .nil) .nil)
  (.cons (.ite (.cmp .eq (.var 1) (.con (.str "not"))) (.cons (.ret (.tup (.cons (.con (.int 1)) (.cons (.con (.int 1)) (.cons (.ix (.var 2) (.con (.int 1))) .nil)))))
  .nil) .nil)
  (.cons (.set 3 (.lc e158_1 (.nm 5) (.var 2) false (.con (.bl true))) true)
  (.cons (.set 4 (.ix (.var 3) (.neg (.con (.int 1)))) false)
  (.cons (.for_ (.nm 5) (.rev (.sl (.var 3) (.con .non) (.neg (.con (.int 1))))) b158_0)
  (.cons (.ret (.var 4))
  .nil))))))) }
/-- earlier_block -/
abbrev s163 : Stmt := topS 16
def n163 : List Str := ["first", "second"]
def p163 : List Str := ["first", "second"]
def d163 : Def := { np := 2, nl := 2, body :=
  (.cons (.ret (.cmp .lt (.fn 164 (.cons (.var 0) .nil)) (.fn 164 (.cons (.var 1) .nil))))
  .nil) }
def e164_0 : ME :=
  (.fn 165 (.cons (.var 1) .nil))
/-- block_key -/
abbrev s164 : Stmt := topS 17
def n164 : List Str := ["block", "statement"]
def p164 : List Str := ["block"]
def d164 : Def := { np := 1, nl := 2, body :=
  (.cons (.ret (.tupS (.cons (.fn 14 (.cons (.var 0) .nil)) (.cons (.bi .len (.cons (.var 0) .nil)) (.cons (.star (.lc e164_0 (.nm 1) (.var 0) false (.con (.bl true)))) .nil)))))
  .nil) }
def e165_0 : ME :=
  (.fn 164 (.cons (.var 5) .nil))
def e165_1 : ME :=
  (.fn 158 (.cons (.var 4) .nil))
/-- statement_key -/
abbrev s165 : Stmt := topS 18
def n165 : List Str := ["statement", "kind", "start", "conditions", "condition", "body"]
def p165 : List Str := ["statement"]
def d165 : Def := { np := 1, nl := 6, body :=
  (.cons (.set 1 (.ix (.var 0) (.con (.int 0))) false)
  (.cons (.set 2 (.tup (.cons (.fn 14 (.cons (.tup (.cons (.var 0) .nil)) .nil)) (.cons (.gidx "STATEMENT_KINDS" ["break", "continue", "stop", "call", "if", "while", "for"] (.var 1)) .nil))) true)
  (.cons (.ite (.cmp .eq (.var 1) (.con (.str "stop"))) (.cons (.ret (.tupS (.cons (.star (.var 2)) (.cons (.fn 166 (.cons (.ix (.var 0) (.con (.int 1))) .nil)) .nil))))
  .nil) .nil)
  (.cons (.ite (.cmp .inn (.var 1) (.tup (.cons (.con (.str "break")) (.cons (.con (.str "continue")) (.cons (.con (.str "call")) .nil))))) (.cons (.ret (.tupS (.cons (.star (.var 2)) (.cons (.ix (.var 0) (.con (.int 1))) .nil))))
  .nil) .nil)
  (.cons (.set 3 (.lc e165_1 (.nm 4) (.fn 12 (.cons (.var 0) .nil)) false (.con (.bl true))) true)
  (.cons (.ret (.tupS (.cons (.star (.var 2)) (.cons (.star (.var 3)) (.cons (.star (.lc e165_0 (.nm 5) (.fn 11 (.cons (.var 0) .nil)) false (.con (.bl true)))) .nil)))))
  .nil)))))) }
/-- _outcome_key -/
abbrev s166 : Stmt := topS 19
def n166 : List Str := ["outcome", "word", "_", "rest"]
def p166 : List Str := ["outcome"]
def d166 : Def := { np := 1, nl := 4, body :=
  (.cons (.setT [1, 2, 3] (.mt .partition (.var 0) (.cons (.con (.str " ")) .nil)))
  (.cons (.ite (.and (.cmp .eq (.var 1) (.con (.str "return"))) (.var 3)) (.cons (.ret (.tup (.cons (.gidx "OUTCOME_KINDS" ["return", "break", "continue"] (.var 1)) (.cons (.bin .add (.con (.int 1)) (.bi .int (.cons (.var 3) .nil))) (.cons (.con (.str "")) .nil)))))
  .nil) .nil)
  (.cons (.ret (.tup (.cons (.gidx "OUTCOME_KINDS" ["return", "break", "continue"] (.var 1)) (.cons (.con (.int 0)) (.cons (.var 3) .nil)))))
  .nil))) }
def b4_0 : MSs :=
  (.cons (.set 1 (.bin .mod (.bi .int (.cons (.bin .add (.bin .mul (.var 1) (.con (.int 31))) (.bi .abs (.cons (.bi .int (.cons (.var 2) .nil)) .nil))) .nil)) (.con (.int 2147483647))) false)
  .nil)
/-- _law_tape -/
abbrev s4 : Stmt := topS 21
def n4 : List Str := ["script", "total", "cell"]
def p4 : List Str := ["script"]
def d4 : Def := { np := 1, nl := 3, body :=
  (.cons (.set 1 (.con (.int 7)) false)
  (.cons (.for_ (.nm 2) (.var 0) b4_0)
  (.cons (.ret (.lst (.cons (.bi .list (.cons (.var 0) .nil)) (.cons (.con (.int 0)) (.cons (.con (.int 0)) (.cons (.var 1) .nil))))))
  .nil))) }
/-- _law_draw -/
abbrev s5 : Stmt := topS 22
def n5 : List Str := ["tape", "many", "place", "number"]
def p5 : List Str := ["tape", "many"]
def d5 : Def := { np := 2, nl := 4, body :=
  (.cons (.ite (.cmp .eq (.ix (.var 0) (.con (.int 2))) (.con (.int 0))) (.cons (.set 2 (.ix (.var 0) (.con (.int 1))) false)
  (.cons (.set 3 (.con (.int 0)) false)
  (.cons (.ite (.cmp .lt (.var 2) (.bi .len (.cons (.ix (.var 0) (.con (.int 0))) .nil))) (.cons (.set 3 (.bi .abs (.cons (.bi .int (.cons (.ix (.ix (.var 0) (.con (.int 0))) (.var 2)) .nil)) .nil)) false)
  .nil) (.cons (.setIx (.var 0) (.con (.int 3)) (.bin .mod (.bi .int (.cons (.bin .add (.bin .add (.bin .mul (.ix (.var 0) (.con (.int 3))) (.con (.int 48271))) (.var 2)) (.con (.int 1))) .nil)) (.con (.int 2147483647))))
  (.cons (.set 3 (.ix (.var 0) (.con (.int 3))) false)
  .nil)))
  (.cons (.setIx (.var 0) (.con (.int 1)) (.bin .add (.var 2) (.con (.int 1))))
  (.cons (.ite (.cmp .lt (.var 3) (.bin .pow (.con (.int 10)) (.con (.int 18)))) (.cons (.set 3 (.bin .mod (.bi .int (.cons (.bin .add (.bin .add (.bin .mul (.var 3) (.con (.int 48271))) (.bin .mul (.var 2) (.con (.int 69621)))) (.con (.int 5))) .nil)) (.con (.int 2147483647))) false)
  (.cons (.set 3 (.bin .mod (.bi .int (.cons (.bin .mul (.var 3) (.con (.int 69621))) .nil)) (.con (.int 2147483629))) false)
  (.cons (.ret (.bin .mod (.bi .int (.cons (.var 3) .nil)) (.bi .max (.cons (.var 1) (.cons (.con (.int 1)) .nil)))))
  .nil))) .nil)
  (.cons (.setIx (.var 0) (.con (.int 2)) (.var 3))
  .nil)))))) .nil)
  (.cons (.set 3 (.ix (.var 0) (.con (.int 2))) false)
  (.cons (.setIx (.var 0) (.con (.int 2)) (.bin .fdiv (.var 3) (.bi .max (.cons (.var 1) (.cons (.con (.int 2)) .nil)))))
  (.cons (.ret (.bin .mod (.bi .int (.cons (.var 3) .nil)) (.bi .max (.cons (.var 1) (.cons (.con (.int 1)) .nil)))))
  .nil)))) }
def b6_0 : MSs :=
  (.cons (.set 8 (.bin .add (.var 8) (.ix (.var 2) (.fn 5 (.cons (.var 0) (.cons (.con (.int 63)) .nil))))) false)
  .nil)
def b6_1 : MSs :=
  (.cons (.set 8 (.bin .add (.bin .add (.sl (.var 4) (.con .non) (.var 5)) (.ix (.var 2) (.fn 5 (.cons (.var 0) (.cons (.con (.int 52)) .nil))))) (.sl (.var 4) (.var 5) (.con .non))) false)
  (.cons (.for_ (.nm 9) (.rng (.con (.int 0)) (.ix (.lst (.cons (.con (.int 0)) (.cons (.con (.int 0)) (.cons (.con (.int 0)) (.cons (.con (.int 1)) (.cons (.con (.int 2)) (.cons (.con (.int 6)) .nil))))))) (.fn 5 (.cons (.var 0) (.cons (.con (.int 6)) .nil))))) b6_0)
  (.cons (.set 10 (.fn 5 (.cons (.var 0) (.cons (.con (.int 16)) .nil))) true)
  (.cons (.ite (.cmp .eq (.var 10) (.con (.int 0))) (.cons (.set 8 (.bin .add (.var 8) (.bin .mul (.con (.str "x")) (.bin .sub (.con (.int 30)) (.bi .len (.cons (.var 8) .nil))))) false)
  .nil) .nil)
  (.cons (.ite (.cmp .eq (.var 10) (.con (.int 1))) (.cons (.set 8 (.bin .add (.ix (.var 3) (.fn 5 (.cons (.var 0) (.cons (.con (.int 12)) .nil)))) (.sl (.var 8) (.con .non) (.con (.int 1)))) false)
  .nil) .nil)
  (.cons (.ite (.cmp .eq (.var 10) (.con (.int 2))) (.cons (.set 8 (.sl (.ix (.var 3) (.fn 5 (.cons (.var 0) (.cons (.con (.int 12)) .nil)))) (.con .non) (.neg (.con (.int 1)))) false)
  .nil) .nil)
  (.cons (.ite (.or (.cmp .inn (.var 8) (.var 3)) (.cmp .inn (.var 8) (.var 6))) (.cons (.set 8 (.bin .add (.con (.str "one_of_two_equal_names_")) (.bi .str (.cons (.var 7) .nil))) false)
  .nil) .nil)
  (.cons (.app 6 (.var 8))
  .nil))))))))
/-- _law_names -/
abbrev s6 : Stmt := topS 23
def n6 : List Str := ["tape", "many", "signs", "words", "stem", "place", "names", "k", "name", "j", "choice"]
def p6 : List Str := ["tape", "many"]
def d6 : Def := { np := 2, nl := 11, body :=
  (.cons (.set 2 (.con (.str "abcdefghijklmnopqrstuvwxyzABCDEFGHIJKLMNOPQRSTUVWXYZ0123456789_")) true)
  (.cons (.set 3 (.lst (.cons (.con (.str "let")) (.cons (.con (.str "if")) (.cons (.con (.str "else")) (.cons (.con (.str "while")) (.cons (.con (.str "for")) (.cons (.con (.str "break")) (.cons (.con (.str "continue")) (.cons (.con (.str "return")) (.cons (.con (.str "try")) (.cons (.con (.str "finally")) (.cons (.con (.str "true")) (.cons (.con (.str "false")) .nil))))))))))))) true)
  (.cons (.set 4 (.ix (.lst (.cons (.con (.str "")) (.cons (.con (.str "")) (.cons (.con (.str "sharedStem")) (.cons (.con (.str "while_x")) .nil))))) (.fn 5 (.cons (.var 0) (.cons (.con (.int 4)) .nil)))) true)
  (.cons (.set 5 (.fn 5 (.cons (.var 0) (.cons (.bin .add (.bi .len (.cons (.var 4) .nil)) (.con (.int 1))) .nil))) false)
  (.cons (.set 6 (.lst .nil) true)
  (.cons (.for_ (.nm 7) (.rng (.con (.int 0)) (.var 1)) b6_1)
  (.cons (.ret (.var 6))
  .nil))))))) }
def b20_0 : MSs :=
  (.cons (.ite (.cmp .eq (.ix (.var 4) (.con (.int 0))) (.var 0)) (.cons (.set 3 (.bin .add (.var 3) (.bi .list (.cons (.ix (.var 4) (.con (.int 1))) .nil))) true)
  .nil) (.cons (.app 3 (.var 4))
  .nil))
  .nil)
/-- _law_joined -/
abbrev s20 : Stmt := topS 24
def n20 : List Str := ["word", "left", "right", "parts", "side"]
def p20 : List Str := ["word", "left", "right"]
def d20 : Def := { np := 3, nl := 5, body :=
  (.cons (.set 3 (.lst .nil) true)
  (.cons (.for_ (.nm 4) (.lst (.cons (.var 1) (.cons (.var 2) .nil))) b20_0)
  (.cons (.ret (.tup (.cons (.var 0) (.cons (.bi .tuple (.cons (.var 3) .nil)) .nil))))
  .nil))) }
/-- _law_room -/
abbrev s167 : Stmt := topS 25
def n167 : List Str := ["tape", "calls", "most", "label", "stops", "stop"]
def p167 : List Str := ["tape", "calls", "most"]
def d167 : Def := { np := 3, nl := 6, body :=
  (.cons (.set 3 (.ix (.lst (.cons (.con (.str "loop1")) (.cons (.con (.str "loop2")) (.cons (.con (.str "out_1")) (.cons (.con (.str "loop12")) .nil))))) (.fn 5 (.cons (.var 0) (.cons (.con (.int 4)) .nil)))) true)
  (.cons (.set 4 (.lst (.cons (.con (.str "return")) (.cons (.bin .add (.con (.str "return ")) (.bi .str (.cons (.fn 5 (.cons (.var 0) (.cons (.con (.int 100)) .nil))) .nil))) (.cons (.bin .add (.con (.str "break ")) (.var 3)) (.cons (.bin .add (.con (.str "continue ")) (.var 3)) .nil))))) true)
  (.cons (.set 5 (.ix (.var 4) (.fn 5 (.cons (.var 0) (.cons (.con (.int 4)) .nil)))) false)
  (.cons (.ret (.lst (.cons (.var 1) (.cons (.con (.int 7)) (.cons (.var 2) (.cons (.var 5) (.cons (.fn 6 (.cons (.var 0) (.cons (.bin .add (.con (.int 1)) (.fn 5 (.cons (.var 0) (.cons (.con (.int 3)) .nil)))) .nil))) .nil)))))))
  .nil)))) }
def b168_0 : MSs :=
  (.cons (.ite (.cmp .gt (.bi .len (.cons (.var 2) .nil)) (.con (.int 1))) (.cons (.set 5 (.fn 5 (.cons (.var 0) (.cons (.bin .sub (.bi .len (.cons (.var 2) .nil)) (.con (.int 1))) .nil))) false)
  (.cons (.set 4 (.fn 20 (.cons (.ix (.lst (.cons (.con (.str "and")) (.cons (.con (.str "or")) .nil))) (.fn 5 (.cons (.var 0) (.cons (.con (.int 2)) .nil)))) (.cons (.ix (.var 2) (.var 5)) (.cons (.ix (.var 2) (.bin .add (.var 5) (.con (.int 1)))) .nil)))) false)
  (.cons (.set 2 (.bin .add (.bin .add (.sl (.var 2) (.con .non) (.var 5)) (.lst (.cons (.var 4) .nil))) (.sl (.var 2) (.bin .add (.var 5) (.con (.int 2))) (.con .non))) true)
  .nil))) .nil)
  .nil)
def b168_1 : MSs :=
  (.cons (.set 4 (.tup (.cons (.con (.str "call")) (.cons (.ix (.ix (.var 1) (.con (.int 4))) (.fn 5 (.cons (.var 0) (.cons (.bi .len (.cons (.ix (.var 1) (.con (.int 4))) .nil)) .nil)))) .nil))) false)
  (.cons (.setIx (.var 1) (.con (.int 0)) (.bin .sub (.ix (.var 1) (.con (.int 0))) (.con (.int 1))))
  (.cons (.ite (.cmp .eq (.fn 5 (.cons (.var 0) (.cons (.con (.int 3)) .nil))) (.con (.int 0))) (.cons (.set 4 (.tup (.cons (.con (.str "not")) (.cons (.var 4) .nil))) false)
  .nil) .nil)
  (.cons (.app 2 (.var 4))
  .nil))))
/-- _law_plain_condition -/
abbrev s168 : Stmt := topS 26
def n168 : List Str := ["tape", "room", "parts", "k", "part", "place"]
def p168 : List Str := ["tape", "room"]
def d168 : Def := { np := 2, nl := 6, body :=
  (.cons (.set 2 (.lst .nil) true)
  (.cons (.for_ (.nm 3) (.rng (.con (.int 0)) (.bi .max (.cons (.con (.int 1)) (.cons (.bi .min (.cons (.ix (.var 1) (.con (.int 0))) (.cons (.bin .add (.con (.int 1)) (.fn 5 (.cons (.var 0) (.cons (.ix (.lst (.cons (.con (.int 1)) (.cons (.con (.int 1)) (.cons (.con (.int 3)) .nil)))) (.fn 5 (.cons (.var 0) (.cons (.con (.int 3)) .nil)))) .nil)))) .nil))) .nil)))) b168_1)
  (.cons (.for_ (.nm 3) (.rng (.con (.int 0)) (.con (.int 2))) b168_0)
  (.cons (.ret (.ix (.var 2) (.con (.int 0))))
  .nil)))) }
/-- _law_plain_row -/
abbrev s169 : Stmt := topS 27
def n169 : List Str := ["tape", "room", "depth", "loops", "choice", "condition", "first", "second"]
def p169 : List Str := ["tape", "room", "depth", "loops"]
def d169 : Def := { np := 4, nl := 8, body :=
  (.cons (.setIx (.var 1) (.con (.int 1)) (.bin .sub (.ix (.var 1) (.con (.int 1))) (.con (.int 1))))
  (.cons (.set 4 (.fn 5 (.cons (.var 0) (.cons (.con (.int 12)) .nil))) true)
  (.cons (.ite (.and (.cmp .gt (.var 2) (.con (.int 0))) (.and (.cmp .lt (.var 4) (.con (.int 6))) (.cmp .gt (.ix (.var 1) (.con (.int 0))) (.con (.int 0))))) (.cons (.set 5 (.fn 168 (.cons (.var 0) (.cons (.var 1) .nil))) false)
  (.cons (.ite (.cmp .gt (.var 4) (.con (.int 3))) (.cons (.ret (.tup (.cons (.con (.str "while")) (.cons (.con .non) (.cons (.var 5) (.cons (.fn 170 (.cons (.var 0) (.cons (.var 1) (.cons (.bin .sub (.var 2) (.con (.int 1))) (.cons (.bin .add (.var 3) (.con (.int 1))) .nil))))) .nil))))))
  .nil) .nil)
  (.cons (.set 6 (.fn 170 (.cons (.var 0) (.cons (.var 1) (.cons (.bin .sub (.var 2) (.con (.int 1))) (.cons (.var 3) .nil))))) false)
  (.cons (.set 7 (.tup .nil) false)
  (.cons (.ite (.cmp .lt (.var 4) (.con (.int 2))) (.cons (.set 7 (.fn 170 (.cons (.var 0) (.cons (.var 1) (.cons (.bin .sub (.var 2) (.con (.int 1))) (.cons (.var 3) .nil))))) false)
  .nil) .nil)
  (.cons (.ret (.tup (.cons (.con (.str "if")) (.cons (.var 5) (.cons (.var 6) (.cons (.var 7) .nil))))))
  .nil)))))) .nil)
  (.cons (.ite (.and (.cmp .gt (.var 2) (.con (.int 0))) (.cmp .eq (.var 4) (.con (.int 6)))) (.cons (.ret (.tup (.cons (.con (.str "for")) (.cons (.con .non) (.cons (.fn 170 (.cons (.var 0) (.cons (.var 1) (.cons (.bin .sub (.var 2) (.con (.int 1))) (.cons (.bin .add (.var 3) (.con (.int 1))) .nil))))) .nil)))))
  .nil) .nil)
  (.cons (.ite (.and (.cmp .lt (.var 4) (.con (.int 9))) (.cmp .gt (.bi .min (.cons (.var 3) (.cons (.ix (.var 1) (.con (.int 2))) .nil))) (.con (.int 0)))) (.cons (.ret (.tup (.cons (.ix (.lst (.cons (.con (.str "break")) (.cons (.con (.str "continue")) .nil))) (.fn 5 (.cons (.var 0) (.cons (.con (.int 2)) .nil)))) (.cons (.bin .add (.con (.int 1)) (.fn 5 (.cons (.var 0) (.cons (.bi .min (.cons (.var 3) (.cons (.ix (.var 1) (.con (.int 2))) .nil))) .nil)))) .nil))))
  .nil) .nil)
  (.cons (.ite (.or (.cmp .eq (.ix (.var 1) (.con (.int 0))) (.con (.int 0))) (.cmp .eq (.var 4) (.con (.int 9)))) (.cons (.ret (.tup (.cons (.con (.str "stop")) (.cons (.ix (.var 1) (.con (.int 3))) .nil))))
  .nil) .nil)
  (.cons (.setIx (.var 1) (.con (.int 0)) (.bin .sub (.ix (.var 1) (.con (.int 0))) (.con (.int 1))))
  (.cons (.ret (.tup (.cons (.con (.str "call")) (.cons (.ix (.ix (.var 1) (.con (.int 4))) (.fn 5 (.cons (.var 0) (.cons (.bi .len (.cons (.ix (.var 1) (.con (.int 4))) .nil)) .nil)))) .nil))))
  .nil)))))))) }
def b170_0 : MSs :=
  (.cons (.ite (.cmp .gt (.ix (.var 1) (.con (.int 1))) (.con (.int 0))) (.cons (.app 4 (.fn 169 (.cons (.var 0) (.cons (.var 1) (.cons (.var 2) (.cons (.var 3) .nil))))))
  .nil) .nil)
  .nil)
/-- _law_plain_rows -/
abbrev s170 : Stmt := topS 28
def n170 : List Str := ["tape", "room", "depth", "loops", "rows", "k"]
def p170 : List Str := ["tape", "room", "depth", "loops"]
def d170 : Def := { np := 4, nl := 6, body :=
  (.cons (.set 4 (.lst .nil) true)
  (.cons (.for_ (.nm 5) (.rng (.con (.int 0)) (.ix (.lst (.cons (.con (.int 0)) (.cons (.con (.int 1)) (.cons (.con (.int 1)) (.cons (.con (.int 2)) (.cons (.con (.int 2)) (.cons (.con (.int 3)) .nil))))))) (.fn 5 (.cons (.var 0) (.cons (.con (.int 6)) .nil))))) b170_0)
  (.cons (.ret (.bi .tuple (.cons (.var 4) .nil)))
  .nil))) }
/-- _law_condition_key -/
abbrev s159 : Stmt := topS 29
def n159 : List Str := ["condition", "rest", "left", "right"]
def p159 : List Str := ["condition"]
def d159 : Def := { np := 1, nl := 4, body :=
  (.cons (.ite (.cmp .eq (.ix (.var 0) (.con (.int 0))) (.con (.str "call"))) (.cons (.ret (.tup (.cons (.con (.int 1)) (.cons (.con (.int 0)) (.cons (.ix (.var 0) (.con (.int 1))) .nil)))))
  .nil) .nil)
  (.cons (.ite (.cmp .eq (.ix (.var 0) (.con (.int 0))) (.con (.str "not"))) (.cons (.ret (.tup (.cons (.con (.int 1)) (.cons (.con (.int 1)) (.cons (.ix (.ix (.var 0) (.con (.int 1))) (.con (.int 1))) .nil)))))
  .nil) .nil)
  (.cons (.set 1 (.ix (.ix (.var 0) (.con (.int 1))) (.con (.int 1))) false)
  (.cons (.ite (.cmp .gt (.bi .len (.cons (.ix (.var 0) (.con (.int 1))) .nil)) (.con (.int 2))) (.cons (.set 1 (.tup (.cons (.ix (.var 0) (.con (.int 0))) (.cons (.sl (.ix (.var 0) (.con (.int 1))) (.con (.int 1)) (.con .non)) .nil))) false)
  .nil) .nil)
  (.cons (.set 2 (.fn 159 (.cons (.ix (.ix (.var 0) (.con (.int 1))) (.con (.int 0))) .nil)) false)
  (.cons (.set 3 (.fn 159 (.cons (.var 1) .nil)) false)
  (.cons (.ret (.tup (.cons (.bin .add (.ix (.var 2) (.con (.int 0))) (.ix (.var 3) (.con (.int 0)))) (.cons (.bin .add (.con (.int 2)) (.bi .int (.cons (.cmp .eq (.ix (.var 0) (.con (.int 0))) (.con (.str "or"))) .nil))) (.cons (.var 2) (.cons (.var 3) .nil))))))
  .nil))))))) }
/-- _law_stop_key -/
abbrev s171 : Stmt := topS 30
def n171 : List Str := ["text"]
def p171 : List Str := ["text"]
def d171 : Def := { np := 1, nl := 1, body :=
  (.cons (.ite (.cmp .eq (.var 0) (.con (.str "return"))) (.cons (.ret (.tup (.cons (.con (.int 0)) (.cons (.con (.int 0)) .nil))))
  .nil) .nil)
  (.cons (.ite (.cmp .eq (.sl (.var 0) (.con .non) (.con (.int 7))) (.con (.str "return "))) (.cons (.ret (.tup (.cons (.con (.int 1)) (.cons (.bi .int (.cons (.sl (.var 0) (.con (.int 7)) (.con .non)) .nil)) .nil))))
  .nil) .nil)
  (.cons (.ite (.cmp .eq (.sl (.var 0) (.con .non) (.con (.int 6))) (.con (.str "break "))) (.cons (.ret (.tup (.cons (.con (.int 2)) (.cons (.sl (.var 0) (.con (.int 6)) (.con .non)) .nil))))
  .nil) .nil)
  (.cons (.ret (.tup (.cons (.con (.int 3)) (.cons (.sl (.var 0) (.con (.int 9)) (.con .non)) .nil))))
  .nil)))) }
/-- _law_row_key -/
abbrev s172 : Stmt := topS 31
def n172 : List Str := ["row", "body", "condition", "first", "second"]
def p172 : List Str := ["row"]
def d172 : Def := { np := 1, nl := 5, body :=
  (.cons (.ite (.or (.cmp .eq (.ix (.var 0) (.con (.int 0))) (.con (.str "break"))) (.cmp .eq (.ix (.var 0) (.con (.int 0))) (.con (.str "continue")))) (.cons (.ret (.tup (.cons (.con (.int 1)) (.cons (.con (.int 1)) (.cons (.bi .int (.cons (.cmp .eq (.ix (.var 0) (.con (.int 0))) (.con (.str "continue"))) .nil)) (.cons (.ix (.var 0) (.con (.int 1))) .nil))))))
  .nil) .nil)
  (.cons (.ite (.cmp .eq (.ix (.var 0) (.con (.int 0))) (.con (.str "stop"))) (.cons (.ret (.tup (.cons (.con (.int 1)) (.cons (.con (.int 1)) (.cons (.con (.int 2)) (.cons (.fn 171 (.cons (.ix (.var 0) (.con (.int 1))) .nil)) .nil))))))
  .nil) .nil)
  (.cons (.ite (.cmp .eq (.ix (.var 0) (.con (.int 0))) (.con (.str "call"))) (.cons (.ret (.tup (.cons (.con (.int 1)) (.cons (.con (.int 1)) (.cons (.con (.int 3)) (.cons (.ix (.var 0) (.con (.int 1))) .nil))))))
  .nil) .nil)
  (.cons (.ite (.cmp .eq (.ix (.var 0) (.con (.int 0))) (.con (.str "for"))) (.cons (.set 1 (.fn 173 (.cons (.ix (.var 0) (.con (.int 2))) .nil)) false)
  (.cons (.ret (.tup (.cons (.bin .add (.con (.int 1)) (.ix (.var 1) (.con (.int 0)))) (.cons (.con (.int 1)) (.cons (.con (.int 6)) (.cons (.var 1) .nil))))))
  .nil)) .nil)
  (.cons (.set 2 (.fn 159 (.cons (.ix (.var 0) (.bin .sub (.con (.int 2)) (.bi .int (.cons (.cmp .eq (.ix (.var 0) (.con (.int 0))) (.con (.str "if"))) .nil)))) .nil)) false)
  (.cons (.ite (.cmp .eq (.ix (.var 0) (.con (.int 0))) (.con (.str "while"))) (.cons (.set 1 (.fn 173 (.cons (.ix (.var 0) (.con (.int 3))) .nil)) false)
  (.cons (.ret (.tup (.cons (.bin .add (.bin .add (.con (.int 1)) (.ix (.var 2) (.con (.int 0)))) (.ix (.var 1) (.con (.int 0)))) (.cons (.con (.int 1)) (.cons (.con (.int 5)) (.cons (.var 2) (.cons (.var 1) .nil)))))))
  .nil)) .nil)
  (.cons (.set 3 (.fn 173 (.cons (.ix (.var 0) (.con (.int 2))) .nil)) false)
  (.cons (.set 4 (.fn 173 (.cons (.ix (.var 0) (.con (.int 3))) .nil)) false)
  (.cons (.ret (.tup (.cons (.bin .add (.bin .add (.bin .add (.bin .add (.con (.int 1)) (.ix (.var 2) (.con (.int 0)))) (.ix (.var 3) (.con (.int 0)))) (.ix (.var 4) (.con (.int 0)))) (.bi .int (.cons (.cmp .gt (.ix (.var 4) (.con (.int 0))) (.con (.int 0))) .nil))) (.cons (.con (.int 1)) (.cons (.con (.int 4)) (.cons (.var 2) (.cons (.var 3) (.cons (.var 4) .nil))))))))
  .nil))))))))) }
/-- _law_rows_key -/
abbrev s173 : Stmt := topS 32
def n173 : List Str := ["rows", "first", "rest"]
def p173 : List Str := ["rows"]
def d173 : Def := { np := 1, nl := 3, body :=
  (.cons (.ite (.not (.var 0)) (.cons (.ret (.tup (.cons (.con (.int 0)) (.cons (.con (.int 0)) .nil))))
  .nil) .nil)
  (.cons (.set 1 (.fn 172 (.cons (.ix (.var 0) (.con (.int 0))) .nil)) false)
  (.cons (.ite (.cmp .eq (.bi .len (.cons (.var 0) .nil)) (.con (.int 1))) (.cons (.ret (.var 1))
  .nil) .nil)
  (.cons (.set 2 (.fn 173 (.cons (.sl (.var 0) (.con (.int 1)) (.con .non)) .nil)) false)
  (.cons (.ret (.tup (.cons (.bin .add (.ix (.var 1) (.con (.int 0))) (.ix (.var 2) (.con (.int 0)))) (.cons (.bin .add (.con (.int 1)) (.ix (.var 2) (.con (.int 1)))) (.cons (.var 1) (.cons (.var 2) .nil))))))
  .nil))))) }
def b147_0 : MSs :=
  (.cons (.ite (.not (.fn 147 (.cons (.ix (.var 0) (.var 2)) (.cons (.ix (.var 1) (.var 2)) .nil)))) (.cons (.ret (.con (.bl false)))
  .nil) .nil)
  .nil)
/-- _law_same -/
abbrev s147 : Stmt := topS 33
def n147 : List Str := ["told", "due", "k"]
def p147 : List Str := ["told", "due"]
def d147 : Def := { np := 2, nl := 3, body :=
  (.cons (.ite (.isi .tuple (.var 1)) (.cons (.ite (.or (.not (.isi .tuple (.var 0))) (.cmp .ne (.bi .len (.cons (.var 0) .nil)) (.bi .len (.cons (.var 1) .nil)))) (.cons (.ret (.con (.bl false)))
  .nil) .nil)
  (.cons (.for_ (.nm 2) (.rng (.con (.int 0)) (.bi .len (.cons (.var 1) .nil))) b147_0)
  (.cons (.ret (.con (.bl true)))
  .nil))) .nil)
  (.cons (.ite (.cmp .isN (.var 1) (.con .non)) (.cons (.ret (.cmp .isN (.var 0) (.con .non)))
  .nil) .nil)
  (.cons (.ite (.isi .str (.var 1)) (.cons (.ret (.and (.isi .str (.var 0)) (.cmp .eq (.var 0) (.var 1))))
  .nil) .nil)
  (.cons (.ret (.and (.isi .int (.var 0)) (.and (.cmp .eq (.isi .bool (.var 0)) (.isi .bool (.var 1))) (.cmp .eq (.var 0) (.var 1)))))
  .nil)))) }
def b162_0 : MSs :=
  (.cons (.set 8 (.fn 20 (.cons (.ix (.var 1) (.con (.int 0))) (.cons (.var 8) (.cons (.var 9) .nil)))) false)
  .nil)
/-- _law_changed_condition -/
abbrev s162 : Stmt := topS 34
def n162 : List Str := ["tape", "condition", "calls", "other", "choice", "more", "parts", "place", "changed", "part"]
def p162 : List Str := ["tape", "condition", "calls"]
def d162 : Def := { np := 3, nl := 10, body :=
  (.cons (.set 3 (.tup (.cons (.con (.str "call")) (.cons (.ix (.var 2) (.fn 5 (.cons (.var 0) (.cons (.bi .len (.cons (.var 2) .nil)) .nil)))) .nil))) false)
  (.cons (.set 4 (.fn 5 (.cons (.var 0) (.cons (.con (.int 4)) .nil))) false)
  (.cons (.ite (.cmp .eq (.ix (.var 1) (.con (.int 0))) (.con (.str "call"))) (.cons (.set 5 (.lst (.cons (.fn 20 (.cons (.con (.str "and")) (.cons (.var 1) (.cons (.var 3) .nil)))) (.cons (.fn 20 (.cons (.con (.str "or")) (.cons (.var 3) (.cons (.var 1) .nil)))) .nil))) true)
  (.cons (.ret (.ix (.lst (.cons (.var 3) (.cons (.tup (.cons (.con (.str "not")) (.cons (.var 1) .nil))) (.cons (.ix (.var 5) (.con (.int 0))) (.cons (.ix (.var 5) (.con (.int 1))) .nil))))) (.var 4)))
  .nil)) .nil)
  (.cons (.ite (.cmp .eq (.ix (.var 1) (.con (.int 0))) (.con (.str "not"))) (.cons (.ret (.ix (.lst (.cons (.ix (.var 1) (.con (.int 1))) (.cons (.tup (.cons (.con (.str "not")) (.cons (.var 3) .nil))) (.cons (.fn 20 (.cons (.con (.str "or")) (.cons (.var 1) (.cons (.var 3) .nil)))) (.cons (.var 3) .nil))))) (.var 4)))
  .nil) .nil)
  (.cons (.set 6 (.bi .list (.cons (.ix (.var 1) (.con (.int 1))) .nil)) false)
  (.cons (.set 7 (.fn 5 (.cons (.var 0) (.cons (.bi .len (.cons (.var 6) .nil)) .nil))) false)
  (.cons (.ite (.cmp .eq (.var 4) (.con (.int 0))) (.cons (.swp (.var 6) (.con (.int 0)) (.var 6) (.var 7) (.tup (.cons (.ix (.var 6) (.var 7)) (.cons (.ix (.var 6) (.con (.int 0))) .nil))))
  .nil) (.cons (.setIx (.var 6) (.var 7) (.fn 162 (.cons (.var 0) (.cons (.ix (.var 6) (.var 7)) (.cons (.var 2) .nil)))))
  .nil))
  (.cons (.set 8 (.ix (.var 6) (.con (.int 0))) false)
  (.cons (.for_ (.nm 9) (.sl (.var 6) (.con (.int 1)) (.con .non)) b162_0)
  (.cons (.ret (.var 8))
  .nil)))))))))) }
/-- _law_some_stop -/
abbrev s174 : Stmt := topS 35
def n174 : List Str := ["tape", "texts"]
def p174 : List Str := ["tape"]
def d174 : Def := { np := 1, nl := 2, body :=
  (.cons (.set 1 (.lst (.cons (.con (.str "return")) (.cons (.con (.str "return 2")) (.cons (.con (.str "return 10")) (.cons (.bin .add (.con (.str "return ")) (.bi .str (.cons (.fn 5 (.cons (.var 0) (.cons (.con (.int 100)) .nil))) .nil))) (.cons (.con (.str "break loop1")) (.cons (.con (.str "break ab")) (.cons (.con (.str "continue loop1")) (.cons (.con (.str "continue a")) .nil))))))))) true)
  (.cons (.ret (.tup (.cons (.con (.str "stop")) (.cons (.ix (.var 1) (.fn 5 (.cons (.var 0) (.cons (.con (.int 8)) .nil)))) .nil))))
  .nil)) }
/-- _law_changed_row -/
abbrev s175 : Stmt := topS 36
def n175 : List Str := ["tape", "row", "room", "loops", "choice"]
def p175 : List Str := ["tape", "row", "room", "loops"]
def d175 : Def := { np := 4, nl := 5, body :=
  (.cons (.set 4 (.fn 5 (.cons (.var 0) (.cons (.con (.int 3)) .nil))) true)
  (.cons (.ite (.cmp .eq (.ix (.var 1) (.con (.int 0))) (.con (.str "call"))) (.cons (.ret (.tup (.cons (.con (.str "call")) (.cons (.ix (.ix (.var 2) (.con (.int 4))) (.fn 5 (.cons (.var 0) (.cons (.bi .len (.cons (.ix (.var 2) (.con (.int 4))) .nil)) .nil)))) .nil))))
  .nil) .nil)
  (.cons (.ite (.cmp .eq (.ix (.var 1) (.con (.int 0))) (.con (.str "stop"))) (.cons (.ret (.fn 174 (.cons (.var 0) .nil)))
  .nil) .nil)
  (.cons (.ite (.or (.cmp .eq (.ix (.var 1) (.con (.int 0))) (.con (.str "break"))) (.cmp .eq (.ix (.var 1) (.con (.int 0))) (.con (.str "continue")))) (.cons (.ret (.tup (.cons (.ix (.lst (.cons (.con (.str "break")) (.cons (.con (.str "continue")) .nil))) (.fn 5 (.cons (.var 0) (.cons (.con (.int 2)) .nil)))) (.cons (.bin .add (.con (.int 1)) (.fn 5 (.cons (.var 0) (.cons (.bi .min (.cons (.var 3) (.cons (.con (.int 3)) .nil))) .nil)))) .nil))))
  .nil) .nil)
  (.cons (.ite (.cmp .eq (.ix (.var 1) (.con (.int 0))) (.con (.str "for"))) (.cons (.ret (.tup (.cons (.con (.str "for")) (.cons (.con .non) (.cons (.fn 176 (.cons (.var 0) (.cons (.ix (.var 1) (.con (.int 2))) (.cons (.var 2) (.cons (.bin .add (.var 3) (.con (.int 1))) .nil))))) .nil)))))
  .nil) .nil)
  (.cons (.ite (.cmp .eq (.ix (.var 1) (.con (.int 0))) (.con (.str "while"))) (.cons (.ite (.cmp .eq (.var 4) (.con (.int 0))) (.cons (.ret (.tup (.cons (.con (.str "while")) (.cons (.con .non) (.cons (.fn 162 (.cons (.var 0) (.cons (.ix (.var 1) (.con (.int 2))) (.cons (.ix (.var 2) (.con (.int 4))) .nil)))) (.cons (.ix (.var 1) (.con (.int 3))) .nil))))))
  .nil) .nil)
  (.cons (.ret (.tup (.cons (.con (.str "while")) (.cons (.con .non) (.cons (.ix (.var 1) (.con (.int 2))) (.cons (.fn 176 (.cons (.var 0) (.cons (.ix (.var 1) (.con (.int 3))) (.cons (.var 2) (.cons (.bin .add (.var 3) (.con (.int 1))) .nil))))) .nil))))))
  .nil)) .nil)
  (.cons (.ite (.cmp .eq (.var 4) (.con (.int 0))) (.cons (.ret (.tup (.cons (.con (.str "if")) (.cons (.fn 162 (.cons (.var 0) (.cons (.ix (.var 1) (.con (.int 1))) (.cons (.ix (.var 2) (.con (.int 4))) .nil)))) (.cons (.ix (.var 1) (.con (.int 2))) (.cons (.ix (.var 1) (.con (.int 3))) .nil))))))
  .nil) .nil)
  (.cons (.ite (.cmp .eq (.var 4) (.con (.int 1))) (.cons (.ret (.tup (.cons (.con (.str "if")) (.cons (.ix (.var 1) (.con (.int 1))) (.cons (.fn 176 (.cons (.var 0) (.cons (.ix (.var 1) (.con (.int 2))) (.cons (.var 2) (.cons (.var 3) .nil))))) (.cons (.ix (.var 1) (.con (.int 3))) .nil))))))
  .nil) .nil)
  (.cons (.ret (.tup (.cons (.con (.str "if")) (.cons (.ix (.var 1) (.con (.int 1))) (.cons (.ix (.var 1) (.con (.int 2))) (.cons (.fn 176 (.cons (.var 0) (.cons (.ix (.var 1) (.con (.int 3))) (.cons (.var 2) (.cons (.var 3) .nil))))) .nil))))))
  .nil))))))))) }
/-- _law_changed_rows -/
abbrev s176 : Stmt := topS 37
def n176 : List Str := ["tape", "rows", "room", "loops", "changed", "at", "choice", "fresh"]
def p176 : List Str := ["tape", "rows", "room", "loops"]
def d176 : Def := { np := 4, nl := 8, body :=
  (.cons (.set 4 (.bi .list (.cons (.var 1) .nil)) false)
  (.cons (.set 5 (.fn 5 (.cons (.var 0) (.cons (.bin .add (.bi .len (.cons (.var 4) .nil)) (.con (.int 1))) .nil))) false)
  (.cons (.set 6 (.fn 5 (.cons (.var 0) (.cons (.con (.int 7)) .nil))) true)
  (.cons (.set 7 (.fn 169 (.cons (.var 0) (.cons (.lst (.cons (.con (.int 2)) (.cons (.con (.int 2)) (.cons (.con (.int 3)) (.cons (.con (.str "return 9")) (.cons (.ix (.var 2) (.con (.int 4))) .nil)))))) (.cons (.con (.int 1)) (.cons (.var 3) .nil))))) false)
  (.cons (.ite (.or (.cmp .eq (.var 6) (.con (.int 0))) (.cmp .eq (.var 5) (.bi .len (.cons (.var 4) .nil)))) (.cons (.ins (.var 4) (.cons (.var 5) (.cons (.var 7) .nil)))
  .nil) (.cons (.ite (.cmp .eq (.var 6) (.con (.int 1))) (.cons (.setSl (.var 4) (.var 5) (.bin .add (.var 5) (.con (.int 1))) (.lst .nil))
  .nil) (.cons (.ite (.and (.cmp .eq (.var 6) (.con (.int 2))) (.cmp .gt (.var 5) (.con (.int 0)))) (.cons (.setSl (.var 4) (.bin .sub (.var 5) (.con (.int 1))) (.bin .add (.var 5) (.con (.int 1))) (.lst (.cons (.ix (.var 4) (.var 5)) (.cons (.ix (.var 4) (.bin .sub (.var 5) (.con (.int 1)))) .nil))))
  .nil) (.cons (.ite (.cmp .eq (.var 6) (.con (.int 3))) (.cons (.setIx (.var 4) (.var 5) (.var 7))
  .nil) (.cons (.setIx (.var 4) (.var 5) (.fn 175 (.cons (.var 0) (.cons (.ix (.var 4) (.var 5)) (.cons (.var 2) (.cons (.var 3) .nil))))))
  .nil))
  .nil))
  .nil))
  .nil))
  (.cons (.ret (.bi .tuple (.cons (.var 4) .nil)))
  .nil)))))) }
/-- law -/
abbrev s0 : Stmt := topS 38
def n0 : List Str := ["script", "tape", "room", "loops", "first", "second", "choice", "one", "other"]
def p0 : List Str := ["script"]
def d0 : Def := { np := 1, nl := 9, body :=
  (.cons (.set 1 (.fn 4 (.cons (.var 0) .nil)) false)
  (.cons (.set 2 (.fn 167 (.cons (.var 1) (.cons (.con (.int 6)) (.cons (.con (.int 3)) .nil)))) false)
  (.cons (.set 3 (.fn 5 (.cons (.var 1) (.cons (.con (.int 4)) .nil))) false)
  (.cons (.set 4 (.fn 170 (.cons (.var 1) (.cons (.var 2) (.cons (.con (.int 3)) (.cons (.var 3) .nil))))) false)
  (.cons (.set 5 (.fn 176 (.cons (.var 1) (.cons (.var 4) (.cons (.var 2) (.cons (.var 3) .nil))))) false)
  (.cons (.set 6 (.fn 5 (.cons (.var 1) (.cons (.con (.int 6)) .nil))) true)
  (.cons (.ite (.cmp .eq (.var 6) (.con (.int 0))) (.cons (.set 5 (.fn 170 (.cons (.var 1) (.cons (.fn 167 (.cons (.var 1) (.cons (.con (.int 6)) (.cons (.con (.int 3)) .nil)))) (.cons (.con (.int 3)) (.cons (.var 3) .nil))))) false)
  .nil) .nil)
  (.cons (.ite (.cmp .eq (.var 6) (.con (.int 1))) (.cons (.set 5 (.fn 176 (.cons (.var 1) (.cons (.var 5) (.cons (.var 2) (.cons (.var 3) .nil))))) false)
  .nil) .nil)
  (.cons (.set 7 (.fn 173 (.cons (.var 4) .nil)) true)
  (.cons (.set 8 (.fn 173 (.cons (.var 5) .nil)) true)
  (.cons (.ite (.not (.fn 147 (.cons (.fn 163 (.cons (.var 4) (.cons (.var 5) .nil))) (.cons (.cmp .lt (.var 7) (.var 8)) .nil)))) (.cons (.ret (.con (.bl false)))
  .nil) .nil)
  (.cons (.ite (.not (.fn 147 (.cons (.fn 163 (.cons (.var 5) (.cons (.var 4) .nil))) (.cons (.cmp .lt (.var 8) (.var 7)) .nil)))) (.cons (.ret (.con (.bl false)))
  .nil) .nil)
  (.cons (.ite (.and (.not (.cmp .lt (.var 7) (.var 8))) (.and (.not (.cmp .lt (.var 8) (.var 7))) (.cmp .ne (.var 4) (.var 5)))) (.cons (.ret (.con (.bl false)))
  .nil) .nil)
  (.cons (.ret (.and (.fn 147 (.cons (.fn 163 (.cons (.var 4) (.cons (.var 4) .nil))) (.cons (.con (.bl false)) .nil))) (.fn 147 (.cons (.fn 163 (.cons (.var 5) (.cons (.var 5) .nil))) (.cons (.con (.bl false)) .nil)))))
  .nil)))))))))))))) }
def D : Nat → Option Def
  | 11 => some d11
  | 12 => some d12
  | 13 => some d13
  | 14 => some d14
  | 15 => some d15
  | 16 => some d16
  | 17 => some d17
  | 158 => some d158
  | 163 => some d163
  | 164 => some d164
  | 165 => some d165
  | 166 => some d166
  | 4 => some d4
  | 5 => some d5
  | 6 => some d6
  | 20 => some d20
  | 167 => some d167
  | 168 => some d168
  | 169 => some d169
  | 170 => some d170
  | 159 => some d159
  | 171 => some d171
  | 172 => some d172
  | 173 => some d173
  | 147 => some d147
  | 162 => some d162
  | 174 => some d174
  | 175 => some d175
  | 176 => some d176
  | 0 => some d0
  | _ => none
def cs : List (Str × PV) := [("KINDS", (.tup [(.str "call"), (.str "not"), (.str "and"), (.str "or")])), ("STATEMENT_KINDS", (.tup [(.str "break"), (.str "continue"), (.str "stop"), (.str "call"), (.str "if"), (.str "while"), (.str "for")])), ("OUTCOME_KINDS", (.tup [(.str "return"), (.str "break"), (.str "continue")]))]
def ds : List (Str × List (Str × PV)) := [("BODY_COUNTS", [("if", (.int 2)), ("while", (.int 1)), ("for", (.int 1)), ("try", (.int 2)), ("block", (.int 1))]), ("OWN_SIZES", [("try", (.int 2)), ("block", (.int 0))])]
def bl : List Str := ["abs", "any", "bool", "int", "isinstance", "len", "list", "max", "min", "range", "reversed", "str", "sum", "tuple"]
def fnm : List (Str × Nat) := [(("bodies" : Str), 11), (("whole_conditions" : Str), 12), (("operands" : Str), 13), (("size" : Str), 14), (("_statement_size" : Str), 15), (("_has_more_than_blocks" : Str), 16), (("_condition_size" : Str), 17), (("condition_key" : Str), 158), (("earlier_block" : Str), 163), (("block_key" : Str), 164), (("statement_key" : Str), 165), (("_outcome_key" : Str), 166), (("_law_tape" : Str), 4), (("_law_draw" : Str), 5), (("_law_names" : Str), 6), (("_law_joined" : Str), 20), (("_law_room" : Str), 167), (("_law_plain_condition" : Str), 168), (("_law_plain_row" : Str), 169), (("_law_plain_rows" : Str), 170), (("_law_condition_key" : Str), 159), (("_law_stop_key" : Str), 171), (("_law_row_key" : Str), 172), (("_law_rows_key" : Str), 173), (("_law_same" : Str), 147), (("_law_changed_condition" : Str), 162), (("_law_some_stop" : Str), 174), (("_law_changed_row" : Str), 175), (("_law_changed_rows" : Str), 176)]
theorem sc11 : FnScope n11 p11 (defScope s11) := ⟨rfl, rfl, rfl, by decide +kernel, rfl, by decide +kernel, by decide +kernel⟩
theorem t11 : mSs ⟨n11, defScope s11, fnm, cs, bl, ds, false⟩ d11.body (defBody s11) = true := by decide +kernel
theorem sc12 : FnScope n12 p12 (defScope s12) := ⟨rfl, rfl, rfl, by decide +kernel, rfl, by decide +kernel, by decide +kernel⟩
theorem t12 : mSs ⟨n12, defScope s12, fnm, cs, bl, ds, false⟩ d12.body (defBody s12) = true := by decide +kernel
theorem sc13 : FnScope n13 p13 (defScope s13) := ⟨rfl, rfl, rfl, by decide +kernel, rfl, by decide +kernel, by decide +kernel⟩
theorem t13 : mSs ⟨n13, defScope s13, fnm, cs, bl, ds, false⟩ d13.body (defBody s13) = true := by decide +kernel
theorem sc14 : FnScope n14 p14 (defScope s14) := ⟨rfl, rfl, rfl, by decide +kernel, rfl, by decide +kernel, by decide +kernel⟩
theorem t14 : mSs ⟨n14, defScope s14, fnm, cs, bl, ds, false⟩ d14.body (defBody s14) = true := by decide +kernel
theorem sc15 : FnScope n15 p15 (defScope s15) := ⟨rfl, rfl, rfl, by decide +kernel, rfl, by decide +kernel, by decide +kernel⟩
theorem t15 : mSs ⟨n15, defScope s15, fnm, cs, bl, ds, false⟩ d15.body (defBody s15) = true := by decide +kernel
theorem sc16 : FnScope n16 p16 (defScope s16) := ⟨rfl, rfl, rfl, by decide +kernel, rfl, by decide +kernel, by decide +kernel⟩
theorem t16 : mSs ⟨n16, defScope s16, fnm, cs, bl, ds, false⟩ d16.body (defBody s16) = true := by decide +kernel
theorem sc17 : FnScope n17 p17 (defScope s17) := ⟨rfl, rfl, rfl, by decide +kernel, rfl, by decide +kernel, by decide +kernel⟩
theorem t17 : mSs ⟨n17, defScope s17, fnm, cs, bl, ds, false⟩ d17.body (defBody s17) = true := by decide +kernel
theorem sc158 : FnScope n158 p158 (defScope s158) := ⟨rfl, rfl, rfl, by decide +kernel, rfl, by decide +kernel, by decide +kernel⟩
theorem t158 : mSs ⟨n158, defScope s158, fnm, cs, bl, ds, false⟩ d158.body (defBody s158) = true := by decide +kernel
theorem sc163 : FnScope n163 p163 (defScope s163) := ⟨rfl, rfl, rfl, by decide +kernel, rfl, by decide +kernel, by decide +kernel⟩
theorem t163 : mSs ⟨n163, defScope s163, fnm, cs, bl, ds, false⟩ d163.body (defBody s163) = true := by decide +kernel
theorem sc164 : FnScope n164 p164 (defScope s164) := ⟨rfl, rfl, rfl, by decide +kernel, rfl, by decide +kernel, by decide +kernel⟩
theorem t164 : mSs ⟨n164, defScope s164, fnm, cs, bl, ds, false⟩ d164.body (defBody s164) = true := by decide +kernel
theorem sc165 : FnScope n165 p165 (defScope s165) := ⟨rfl, rfl, rfl, by decide +kernel, rfl, by decide +kernel, by decide +kernel⟩
theorem t165 : mSs ⟨n165, defScope s165, fnm, cs, bl, ds, false⟩ d165.body (defBody s165) = true := by decide +kernel
theorem sc166 : FnScope n166 p166 (defScope s166) := ⟨rfl, rfl, rfl, by decide +kernel, rfl, by decide +kernel, by decide +kernel⟩
theorem t166 : mSs ⟨n166, defScope s166, fnm, cs, bl, ds, false⟩ d166.body (defBody s166) = true := by decide +kernel
theorem sc4 : FnScope n4 p4 (defScope s4) := ⟨rfl, rfl, rfl, by decide +kernel, rfl, by decide +kernel, by decide +kernel⟩
theorem t4 : mSs ⟨n4, defScope s4, fnm, cs, bl, ds, false⟩ d4.body (defBody s4) = true := by decide +kernel
theorem sc5 : FnScope n5 p5 (defScope s5) := ⟨rfl, rfl, rfl, by decide +kernel, rfl, by decide +kernel, by decide +kernel⟩
theorem t5 : mSs ⟨n5, defScope s5, fnm, cs, bl, ds, false⟩ d5.body (defBody s5) = true := by decide +kernel
theorem sc6 : FnScope n6 p6 (defScope s6) := ⟨rfl, rfl, rfl, by decide +kernel, rfl, by decide +kernel, by decide +kernel⟩
theorem t6 : mSs ⟨n6, defScope s6, fnm, cs, bl, ds, false⟩ d6.body (defBody s6) = true := by decide +kernel
theorem sc20 : FnScope n20 p20 (defScope s20) := ⟨rfl, rfl, rfl, by decide +kernel, rfl, by decide +kernel, by decide +kernel⟩
theorem t20 : mSs ⟨n20, defScope s20, fnm, cs, bl, ds, false⟩ d20.body (defBody s20) = true := by decide +kernel
theorem sc167 : FnScope n167 p167 (defScope s167) := ⟨rfl, rfl, rfl, by decide +kernel, rfl, by decide +kernel, by decide +kernel⟩
theorem t167 : mSs ⟨n167, defScope s167, fnm, cs, bl, ds, false⟩ d167.body (defBody s167) = true := by decide +kernel
theorem sc168 : FnScope n168 p168 (defScope s168) := ⟨rfl, rfl, rfl, by decide +kernel, rfl, by decide +kernel, by decide +kernel⟩
theorem t168 : mSs ⟨n168, defScope s168, fnm, cs, bl, ds, false⟩ d168.body (defBody s168) = true := by decide +kernel
theorem sc169 : FnScope n169 p169 (defScope s169) := ⟨rfl, rfl, rfl, by decide +kernel, rfl, by decide +kernel, by decide +kernel⟩
theorem t169 : mSs ⟨n169, defScope s169, fnm, cs, bl, ds, false⟩ d169.body (defBody s169) = true := by decide +kernel
theorem sc170 : FnScope n170 p170 (defScope s170) := ⟨rfl, rfl, rfl, by decide +kernel, rfl, by decide +kernel, by decide +kernel⟩
theorem t170 : mSs ⟨n170, defScope s170, fnm, cs, bl, ds, false⟩ d170.body (defBody s170) = true := by decide +kernel
theorem sc159 : FnScope n159 p159 (defScope s159) := ⟨rfl, rfl, rfl, by decide +kernel, rfl, by decide +kernel, by decide +kernel⟩
theorem t159 : mSs ⟨n159, defScope s159, fnm, cs, bl, ds, false⟩ d159.body (defBody s159) = true := by decide +kernel
theorem sc171 : FnScope n171 p171 (defScope s171) := ⟨rfl, rfl, rfl, by decide +kernel, rfl, by decide +kernel, by decide +kernel⟩
theorem t171 : mSs ⟨n171, defScope s171, fnm, cs, bl, ds, false⟩ d171.body (defBody s171) = true := by decide +kernel
theorem sc172 : FnScope n172 p172 (defScope s172) := ⟨rfl, rfl, rfl, by decide +kernel, rfl, by decide +kernel, by decide +kernel⟩
theorem t172 : mSs ⟨n172, defScope s172, fnm, cs, bl, ds, false⟩ d172.body (defBody s172) = true := by decide +kernel
theorem sc173 : FnScope n173 p173 (defScope s173) := ⟨rfl, rfl, rfl, by decide +kernel, rfl, by decide +kernel, by decide +kernel⟩
theorem t173 : mSs ⟨n173, defScope s173, fnm, cs, bl, ds, false⟩ d173.body (defBody s173) = true := by decide +kernel
theorem sc147 : FnScope n147 p147 (defScope s147) := ⟨rfl, rfl, rfl, by decide +kernel, rfl, by decide +kernel, by decide +kernel⟩
theorem t147 : mSs ⟨n147, defScope s147, fnm, cs, bl, ds, false⟩ d147.body (defBody s147) = true := by decide +kernel
theorem sc162 : FnScope n162 p162 (defScope s162) := ⟨rfl, rfl, rfl, by decide +kernel, rfl, by decide +kernel, by decide +kernel⟩
theorem t162 : mSs ⟨n162, defScope s162, fnm, cs, bl, ds, false⟩ d162.body (defBody s162) = true := by decide +kernel
theorem sc174 : FnScope n174 p174 (defScope s174) := ⟨rfl, rfl, rfl, by decide +kernel, rfl, by decide +kernel, by decide +kernel⟩
theorem t174 : mSs ⟨n174, defScope s174, fnm, cs, bl, ds, false⟩ d174.body (defBody s174) = true := by decide +kernel
theorem sc175 : FnScope n175 p175 (defScope s175) := ⟨rfl, rfl, rfl, by decide +kernel, rfl, by decide +kernel, by decide +kernel⟩
theorem t175 : mSs ⟨n175, defScope s175, fnm, cs, bl, ds, false⟩ d175.body (defBody s175) = true := by decide +kernel
theorem sc176 : FnScope n176 p176 (defScope s176) := ⟨rfl, rfl, rfl, by decide +kernel, rfl, by decide +kernel, by decide +kernel⟩
theorem t176 : mSs ⟨n176, defScope s176, fnm, cs, bl, ds, false⟩ d176.body (defBody s176) = true := by decide +kernel
theorem sc0 : FnScope n0 p0 (defScope s0) := ⟨rfl, rfl, rfl, by decide +kernel, rfl, by decide +kernel, by decide +kernel⟩
theorem t0 : mSs ⟨n0, defScope s0, fnm, cs, bl, ds, true⟩ d0.body (defBody s0) = true := by decide +kernel
section
variable {w : World} {K : PySem.W.Frag} {h : Heap} {mg : Str → Option Value} {fa : Addr}
/-- the law's call at the top, its guards known -/
theorem all_mk {sh : Shared} {H : Hp} {a : Addr} {ns : List Int} {base : Heap} (X : K.In sh.heap) (G : sh.heap.Ns mainGlobals mg) (hfa : mg "law" = some (.ref fa)) (nl : sh.heap.NoLimit) (Ev : Env0 PySem.Challenge.rw_flowform_k69_order_of_blocks.prog w K mg base callerA [] sh H) (hl : ∃ st', evCall TURNS D (DEEP + 1) 0 [.rol (ns.map .int)] [] = .ok (.bl true) st') (ho : Only H) (hs : SqL K H a (ns.map V.int))
    {f11 : Addr} {oc11 kV11 dc11 pm11 cd11 ct11 : Value} {od11 an11 : Option Addr} {sl11 : Array (Option Value)}
    {f12 : Addr} {oc12 kV12 dc12 pm12 cd12 ct12 : Value} {od12 an12 : Option Addr} {sl12 : Array (Option Value)}
    {f13 : Addr} {oc13 kV13 dc13 pm13 cd13 ct13 : Value} {od13 an13 : Option Addr} {sl13 : Array (Option Value)}
    {f14 : Addr} {oc14 kV14 dc14 pm14 cd14 ct14 : Value} {od14 an14 : Option Addr} {sl14 : Array (Option Value)}
    {f15 : Addr} {oc15 kV15 dc15 pm15 cd15 ct15 : Value} {od15 an15 : Option Addr} {sl15 : Array (Option Value)}
    {f16 : Addr} {oc16 kV16 dc16 pm16 cd16 ct16 : Value} {od16 an16 : Option Addr} {sl16 : Array (Option Value)}
    {f17 : Addr} {oc17 kV17 dc17 pm17 cd17 ct17 : Value} {od17 an17 : Option Addr} {sl17 : Array (Option Value)}
    {f158 : Addr} {oc158 kV158 dc158 pm158 cd158 ct158 : Value} {od158 an158 : Option Addr} {sl158 : Array (Option Value)}
    {f163 : Addr} {oc163 kV163 dc163 pm163 cd163 ct163 : Value} {od163 an163 : Option Addr} {sl163 : Array (Option Value)}
    {f164 : Addr} {oc164 kV164 dc164 pm164 cd164 ct164 : Value} {od164 an164 : Option Addr} {sl164 : Array (Option Value)}
    {f165 : Addr} {oc165 kV165 dc165 pm165 cd165 ct165 : Value} {od165 an165 : Option Addr} {sl165 : Array (Option Value)}
    {f166 : Addr} {oc166 kV166 dc166 pm166 cd166 ct166 : Value} {od166 an166 : Option Addr} {sl166 : Array (Option Value)}
    {f4 : Addr} {oc4 kV4 dc4 pm4 cd4 ct4 : Value} {od4 an4 : Option Addr} {sl4 : Array (Option Value)}
    {f5 : Addr} {oc5 kV5 dc5 pm5 cd5 ct5 : Value} {od5 an5 : Option Addr} {sl5 : Array (Option Value)}
    {f6 : Addr} {oc6 kV6 dc6 pm6 cd6 ct6 : Value} {od6 an6 : Option Addr} {sl6 : Array (Option Value)}
    {f20 : Addr} {oc20 kV20 dc20 pm20 cd20 ct20 : Value} {od20 an20 : Option Addr} {sl20 : Array (Option Value)}
    {f167 : Addr} {oc167 kV167 dc167 pm167 cd167 ct167 : Value} {od167 an167 : Option Addr} {sl167 : Array (Option Value)}
    {f168 : Addr} {oc168 kV168 dc168 pm168 cd168 ct168 : Value} {od168 an168 : Option Addr} {sl168 : Array (Option Value)}
    {f169 : Addr} {oc169 kV169 dc169 pm169 cd169 ct169 : Value} {od169 an169 : Option Addr} {sl169 : Array (Option Value)}
    {f170 : Addr} {oc170 kV170 dc170 pm170 cd170 ct170 : Value} {od170 an170 : Option Addr} {sl170 : Array (Option Value)}
    {f159 : Addr} {oc159 kV159 dc159 pm159 cd159 ct159 : Value} {od159 an159 : Option Addr} {sl159 : Array (Option Value)}
    {f171 : Addr} {oc171 kV171 dc171 pm171 cd171 ct171 : Value} {od171 an171 : Option Addr} {sl171 : Array (Option Value)}
    {f172 : Addr} {oc172 kV172 dc172 pm172 cd172 ct172 : Value} {od172 an172 : Option Addr} {sl172 : Array (Option Value)}
    {f173 : Addr} {oc173 kV173 dc173 pm173 cd173 ct173 : Value} {od173 an173 : Option Addr} {sl173 : Array (Option Value)}
    {f147 : Addr} {oc147 kV147 dc147 pm147 cd147 ct147 : Value} {od147 an147 : Option Addr} {sl147 : Array (Option Value)}
    {f162 : Addr} {oc162 kV162 dc162 pm162 cd162 ct162 : Value} {od162 an162 : Option Addr} {sl162 : Array (Option Value)}
    {f174 : Addr} {oc174 kV174 dc174 pm174 cd174 ct174 : Value} {od174 an174 : Option Addr} {sl174 : Array (Option Value)}
    {f175 : Addr} {oc175 kV175 dc175 pm175 cd175 ct175 : Value} {od175 an175 : Option Addr} {sl175 : Array (Option Value)}
    {f176 : Addr} {oc176 kV176 dc176 pm176 cd176 ct176 : Value} {od176 an176 : Option Addr} {sl176 : Array (Option Value)}
    {f0 : Addr} {oc0 kV0 dc0 pm0 cd0 ct0 : Value} {od0 an0 : Option Addr} {sl0 : Array (Option Value)}
    {ca_0 : Addr} {ci_0 : Array Value} {cn_0 : Nat} {cl_0 : Array (Option Value)}
    {ca_1 : Addr} {ci_1 : Array Value} {cn_1 : Nat} {cl_1 : Array (Option Value)}
    {ca_2 : Addr} {ci_2 : Array Value} {cn_2 : Nat} {cl_2 : Array (Option Value)}
    {da_0 : Addr} {de_0 : Array DictEntry} {dn_0 : Nat}
    {da_1 : Addr} {de_1 : Array DictEntry} {dn_1 : Nat}
    (a11 : PySem.W.nsIn K mainGlobals "bodies" = some (some (.ref f11))) (l11 : K.lookup f11 = some ⟨oc11, od11, .func (PySem.W.fnOf "bodies" "bodies" (defArgs s11) (defBody s11) (defScope s11) .none kV11 dc11 pm11 an11 cd11 ct11), sl11⟩) (c11 : PySem.W.codeIn K cd11 "bodies" = true) (k11 : PySem.W.keepIn K (.ref f11) = true)
    (a12 : PySem.W.nsIn K mainGlobals "whole_conditions" = some (some (.ref f12))) (l12 : K.lookup f12 = some ⟨oc12, od12, .func (PySem.W.fnOf "whole_conditions" "whole_conditions" (defArgs s12) (defBody s12) (defScope s12) .none kV12 dc12 pm12 an12 cd12 ct12), sl12⟩) (c12 : PySem.W.codeIn K cd12 "whole_conditions" = true) (k12 : PySem.W.keepIn K (.ref f12) = true)
    (a13 : PySem.W.nsIn K mainGlobals "operands" = some (some (.ref f13))) (l13 : K.lookup f13 = some ⟨oc13, od13, .func (PySem.W.fnOf "operands" "operands" (defArgs s13) (defBody s13) (defScope s13) .none kV13 dc13 pm13 an13 cd13 ct13), sl13⟩) (c13 : PySem.W.codeIn K cd13 "operands" = true) (k13 : PySem.W.keepIn K (.ref f13) = true)
    (a14 : PySem.W.nsIn K mainGlobals "size" = some (some (.ref f14))) (l14 : K.lookup f14 = some ⟨oc14, od14, .func (PySem.W.fnOf "size" "size" (defArgs s14) (defBody s14) (defScope s14) .none kV14 dc14 pm14 an14 cd14 ct14), sl14⟩) (c14 : PySem.W.codeIn K cd14 "size" = true) (k14 : PySem.W.keepIn K (.ref f14) = true)
    (a15 : PySem.W.nsIn K mainGlobals "_statement_size" = some (some (.ref f15))) (l15 : K.lookup f15 = some ⟨oc15, od15, .func (PySem.W.fnOf "_statement_size" "_statement_size" (defArgs s15) (defBody s15) (defScope s15) .none kV15 dc15 pm15 an15 cd15 ct15), sl15⟩) (c15 : PySem.W.codeIn K cd15 "_statement_size" = true) (k15 : PySem.W.keepIn K (.ref f15) = true)
    (a16 : PySem.W.nsIn K mainGlobals "_has_more_than_blocks" = some (some (.ref f16))) (l16 : K.lookup f16 = some ⟨oc16, od16, .func (PySem.W.fnOf "_has_more_than_blocks" "_has_more_than_blocks" (defArgs s16) (defBody s16) (defScope s16) .none kV16 dc16 pm16 an16 cd16 ct16), sl16⟩) (c16 : PySem.W.codeIn K cd16 "_has_more_than_blocks" = true) (k16 : PySem.W.keepIn K (.ref f16) = true)
    (a17 : PySem.W.nsIn K mainGlobals "_condition_size" = some (some (.ref f17))) (l17 : K.lookup f17 = some ⟨oc17, od17, .func (PySem.W.fnOf "_condition_size" "_condition_size" (defArgs s17) (defBody s17) (defScope s17) .none kV17 dc17 pm17 an17 cd17 ct17), sl17⟩) (c17 : PySem.W.codeIn K cd17 "_condition_size" = true) (k17 : PySem.W.keepIn K (.ref f17) = true)
    (a158 : PySem.W.nsIn K mainGlobals "condition_key" = some (some (.ref f158))) (l158 : K.lookup f158 = some ⟨oc158, od158, .func (PySem.W.fnOf "condition_key" "condition_key" (defArgs s158) (defBody s158) (defScope s158) .none kV158 dc158 pm158 an158 cd158 ct158), sl158⟩) (c158 : PySem.W.codeIn K cd158 "condition_key" = true) (k158 : PySem.W.keepIn K (.ref f158) = true)
    (a163 : PySem.W.nsIn K mainGlobals "earlier_block" = some (some (.ref f163))) (l163 : K.lookup f163 = some ⟨oc163, od163, .func (PySem.W.fnOf "earlier_block" "earlier_block" (defArgs s163) (defBody s163) (defScope s163) .none kV163 dc163 pm163 an163 cd163 ct163), sl163⟩) (c163 : PySem.W.codeIn K cd163 "earlier_block" = true) (k163 : PySem.W.keepIn K (.ref f163) = true)
    (a164 : PySem.W.nsIn K mainGlobals "block_key" = some (some (.ref f164))) (l164 : K.lookup f164 = some ⟨oc164, od164, .func (PySem.W.fnOf "block_key" "block_key" (defArgs s164) (defBody s164) (defScope s164) .none kV164 dc164 pm164 an164 cd164 ct164), sl164⟩) (c164 : PySem.W.codeIn K cd164 "block_key" = true) (k164 : PySem.W.keepIn K (.ref f164) = true)
    (a165 : PySem.W.nsIn K mainGlobals "statement_key" = some (some (.ref f165))) (l165 : K.lookup f165 = some ⟨oc165, od165, .func (PySem.W.fnOf "statement_key" "statement_key" (defArgs s165) (defBody s165) (defScope s165) .none kV165 dc165 pm165 an165 cd165 ct165), sl165⟩) (c165 : PySem.W.codeIn K cd165 "statement_key" = true) (k165 : PySem.W.keepIn K (.ref f165) = true)
    (a166 : PySem.W.nsIn K mainGlobals "_outcome_key" = some (some (.ref f166))) (l166 : K.lookup f166 = some ⟨oc166, od166, .func (PySem.W.fnOf "_outcome_key" "_outcome_key" (defArgs s166) (defBody s166) (defScope s166) .none kV166 dc166 pm166 an166 cd166 ct166), sl166⟩) (c166 : PySem.W.codeIn K cd166 "_outcome_key" = true) (k166 : PySem.W.keepIn K (.ref f166) = true)
    (a4 : PySem.W.nsIn K mainGlobals "_law_tape" = some (some (.ref f4))) (l4 : K.lookup f4 = some ⟨oc4, od4, .func (PySem.W.fnOf "_law_tape" "_law_tape" (defArgs s4) (defBody s4) (defScope s4) .none kV4 dc4 pm4 an4 cd4 ct4), sl4⟩) (c4 : PySem.W.codeIn K cd4 "_law_tape" = true) (k4 : PySem.W.keepIn K (.ref f4) = true)
    (a5 : PySem.W.nsIn K mainGlobals "_law_draw" = some (some (.ref f5))) (l5 : K.lookup f5 = some ⟨oc5, od5, .func (PySem.W.fnOf "_law_draw" "_law_draw" (defArgs s5) (defBody s5) (defScope s5) .none kV5 dc5 pm5 an5 cd5 ct5), sl5⟩) (c5 : PySem.W.codeIn K cd5 "_law_draw" = true) (k5 : PySem.W.keepIn K (.ref f5) = true)
    (a6 : PySem.W.nsIn K mainGlobals "_law_names" = some (some (.ref f6))) (l6 : K.lookup f6 = some ⟨oc6, od6, .func (PySem.W.fnOf "_law_names" "_law_names" (defArgs s6) (defBody s6) (defScope s6) .none kV6 dc6 pm6 an6 cd6 ct6), sl6⟩) (c6 : PySem.W.codeIn K cd6 "_law_names" = true) (k6 : PySem.W.keepIn K (.ref f6) = true)
    (a20 : PySem.W.nsIn K mainGlobals "_law_joined" = some (some (.ref f20))) (l20 : K.lookup f20 = some ⟨oc20, od20, .func (PySem.W.fnOf "_law_joined" "_law_joined" (defArgs s20) (defBody s20) (defScope s20) .none kV20 dc20 pm20 an20 cd20 ct20), sl20⟩) (c20 : PySem.W.codeIn K cd20 "_law_joined" = true) (k20 : PySem.W.keepIn K (.ref f20) = true)
    (a167 : PySem.W.nsIn K mainGlobals "_law_room" = some (some (.ref f167))) (l167 : K.lookup f167 = some ⟨oc167, od167, .func (PySem.W.fnOf "_law_room" "_law_room" (defArgs s167) (defBody s167) (defScope s167) .none kV167 dc167 pm167 an167 cd167 ct167), sl167⟩) (c167 : PySem.W.codeIn K cd167 "_law_room" = true) (k167 : PySem.W.keepIn K (.ref f167) = true)
    (a168 : PySem.W.nsIn K mainGlobals "_law_plain_condition" = some (some (.ref f168))) (l168 : K.lookup f168 = some ⟨oc168, od168, .func (PySem.W.fnOf "_law_plain_condition" "_law_plain_condition" (defArgs s168) (defBody s168) (defScope s168) .none kV168 dc168 pm168 an168 cd168 ct168), sl168⟩) (c168 : PySem.W.codeIn K cd168 "_law_plain_condition" = true) (k168 : PySem.W.keepIn K (.ref f168) = true)
    (a169 : PySem.W.nsIn K mainGlobals "_law_plain_row" = some (some (.ref f169))) (l169 : K.lookup f169 = some ⟨oc169, od169, .func (PySem.W.fnOf "_law_plain_row" "_law_plain_row" (defArgs s169) (defBody s169) (defScope s169) .none kV169 dc169 pm169 an169 cd169 ct169), sl169⟩) (c169 : PySem.W.codeIn K cd169 "_law_plain_row" = true) (k169 : PySem.W.keepIn K (.ref f169) = true)
    (a170 : PySem.W.nsIn K mainGlobals "_law_plain_rows" = some (some (.ref f170))) (l170 : K.lookup f170 = some ⟨oc170, od170, .func (PySem.W.fnOf "_law_plain_rows" "_law_plain_rows" (defArgs s170) (defBody s170) (defScope s170) .none kV170 dc170 pm170 an170 cd170 ct170), sl170⟩) (c170 : PySem.W.codeIn K cd170 "_law_plain_rows" = true) (k170 : PySem.W.keepIn K (.ref f170) = true)
    (a159 : PySem.W.nsIn K mainGlobals "_law_condition_key" = some (some (.ref f159))) (l159 : K.lookup f159 = some ⟨oc159, od159, .func (PySem.W.fnOf "_law_condition_key" "_law_condition_key" (defArgs s159) (defBody s159) (defScope s159) .none kV159 dc159 pm159 an159 cd159 ct159), sl159⟩) (c159 : PySem.W.codeIn K cd159 "_law_condition_key" = true) (k159 : PySem.W.keepIn K (.ref f159) = true)
    (a171 : PySem.W.nsIn K mainGlobals "_law_stop_key" = some (some (.ref f171))) (l171 : K.lookup f171 = some ⟨oc171, od171, .func (PySem.W.fnOf "_law_stop_key" "_law_stop_key" (defArgs s171) (defBody s171) (defScope s171) .none kV171 dc171 pm171 an171 cd171 ct171), sl171⟩) (c171 : PySem.W.codeIn K cd171 "_law_stop_key" = true) (k171 : PySem.W.keepIn K (.ref f171) = true)
    (a172 : PySem.W.nsIn K mainGlobals "_law_row_key" = some (some (.ref f172))) (l172 : K.lookup f172 = some ⟨oc172, od172, .func (PySem.W.fnOf "_law_row_key" "_law_row_key" (defArgs s172) (defBody s172) (defScope s172) .none kV172 dc172 pm172 an172 cd172 ct172), sl172⟩) (c172 : PySem.W.codeIn K cd172 "_law_row_key" = true) (k172 : PySem.W.keepIn K (.ref f172) = true)
    (a173 : PySem.W.nsIn K mainGlobals "_law_rows_key" = some (some (.ref f173))) (l173 : K.lookup f173 = some ⟨oc173, od173, .func (PySem.W.fnOf "_law_rows_key" "_law_rows_key" (defArgs s173) (defBody s173) (defScope s173) .none kV173 dc173 pm173 an173 cd173 ct173), sl173⟩) (c173 : PySem.W.codeIn K cd173 "_law_rows_key" = true) (k173 : PySem.W.keepIn K (.ref f173) = true)
    (a147 : PySem.W.nsIn K mainGlobals "_law_same" = some (some (.ref f147))) (l147 : K.lookup f147 = some ⟨oc147, od147, .func (PySem.W.fnOf "_law_same" "_law_same" (defArgs s147) (defBody s147) (defScope s147) .none kV147 dc147 pm147 an147 cd147 ct147), sl147⟩) (c147 : PySem.W.codeIn K cd147 "_law_same" = true) (k147 : PySem.W.keepIn K (.ref f147) = true)
    (a162 : PySem.W.nsIn K mainGlobals "_law_changed_condition" = some (some (.ref f162))) (l162 : K.lookup f162 = some ⟨oc162, od162, .func (PySem.W.fnOf "_law_changed_condition" "_law_changed_condition" (defArgs s162) (defBody s162) (defScope s162) .none kV162 dc162 pm162 an162 cd162 ct162), sl162⟩) (c162 : PySem.W.codeIn K cd162 "_law_changed_condition" = true) (k162 : PySem.W.keepIn K (.ref f162) = true)
    (a174 : PySem.W.nsIn K mainGlobals "_law_some_stop" = some (some (.ref f174))) (l174 : K.lookup f174 = some ⟨oc174, od174, .func (PySem.W.fnOf "_law_some_stop" "_law_some_stop" (defArgs s174) (defBody s174) (defScope s174) .none kV174 dc174 pm174 an174 cd174 ct174), sl174⟩) (c174 : PySem.W.codeIn K cd174 "_law_some_stop" = true) (k174 : PySem.W.keepIn K (.ref f174) = true)
    (a175 : PySem.W.nsIn K mainGlobals "_law_changed_row" = some (some (.ref f175))) (l175 : K.lookup f175 = some ⟨oc175, od175, .func (PySem.W.fnOf "_law_changed_row" "_law_changed_row" (defArgs s175) (defBody s175) (defScope s175) .none kV175 dc175 pm175 an175 cd175 ct175), sl175⟩) (c175 : PySem.W.codeIn K cd175 "_law_changed_row" = true) (k175 : PySem.W.keepIn K (.ref f175) = true)
    (a176 : PySem.W.nsIn K mainGlobals "_law_changed_rows" = some (some (.ref f176))) (l176 : K.lookup f176 = some ⟨oc176, od176, .func (PySem.W.fnOf "_law_changed_rows" "_law_changed_rows" (defArgs s176) (defBody s176) (defScope s176) .none kV176 dc176 pm176 an176 cd176 ct176), sl176⟩) (c176 : PySem.W.codeIn K cd176 "_law_changed_rows" = true) (k176 : PySem.W.keepIn K (.ref f176) = true)
    (a0 : PySem.W.nsIn K mainGlobals "law" = some (some (.ref f0))) (l0 : K.lookup f0 = some ⟨oc0, od0, .func (PySem.W.fnOf "law" "law" (defArgs s0) (defBody s0) (defScope s0) .none kV0 dc0 pm0 an0 cd0 ct0), sl0⟩) (c0 : PySem.W.codeIn K cd0 "law" = true) (k0 : PySem.W.keepIn K (.ref f0) = true)
    (q0 : PySem.W.nsIn K mainGlobals "KINDS" = some (some (.ref ca_0))) (r0 : K.lookup ca_0 = some ⟨.type "tuple", none, .seq ci_0 cn_0, cl_0⟩) (z0 : ci_0.size ≤ sizeLine) (v0 : Vals ((["call", "not", "and", "or"] : List Str).map V.str) ci_0.toList)
    (q1 : PySem.W.nsIn K mainGlobals "STATEMENT_KINDS" = some (some (.ref ca_1))) (r1 : K.lookup ca_1 = some ⟨.type "tuple", none, .seq ci_1 cn_1, cl_1⟩) (z1 : ci_1.size ≤ sizeLine) (v1 : Vals ((["break", "continue", "stop", "call", "if", "while", "for"] : List Str).map V.str) ci_1.toList)
    (q2 : PySem.W.nsIn K mainGlobals "OUTCOME_KINDS" = some (some (.ref ca_2))) (r2 : K.lookup ca_2 = some ⟨.type "tuple", none, .seq ci_2 cn_2, cl_2⟩) (z2 : ci_2.size ≤ sizeLine) (v2 : Vals ((["return", "break", "continue"] : List Str).map V.str) ci_2.toList)
    (dg0 : PySem.W.nsIn K mainGlobals "BODY_COUNTS" = some (some (.ref da_0))) (dl0 : K.lookup da_0 = some ⟨.type "dict", none, .dict de_0 dn_0, #[]⟩) (di0 : PySem.W.KeysLit w.params de_0.toList) (dj0 : (da_0 == sysModules) = false) (dm0 : DRel de_0.toList [("if", (.int 2)), ("while", (.int 1)), ("for", (.int 1)), ("try", (.int 2)), ("block", (.int 1))])
    (dg1 : PySem.W.nsIn K mainGlobals "OWN_SIZES" = some (some (.ref da_1))) (dl1 : K.lookup da_1 = some ⟨.type "dict", none, .dict de_1 dn_1, #[]⟩) (di1 : PySem.W.KeysLit w.params de_1.toList) (dj1 : (da_1 == sysModules) = false) (dm1 : DRel de_1.toList [("try", (.int 2)), ("block", (.int 0))])
    (b0 : PySem.W.nsIn K mainGlobals "abs" = some none)
    (b1 : PySem.W.nsIn K mainGlobals "any" = some none)
    (b2 : PySem.W.nsIn K mainGlobals "bool" = some none)
    (b3 : PySem.W.nsIn K mainGlobals "int" = some none)
    (b4 : PySem.W.nsIn K mainGlobals "isinstance" = some none)
    (b5 : PySem.W.nsIn K mainGlobals "len" = some none)
    (b6 : PySem.W.nsIn K mainGlobals "list" = some none)
    (b7 : PySem.W.nsIn K mainGlobals "max" = some none)
    (b8 : PySem.W.nsIn K mainGlobals "min" = some none)
    (b9 : PySem.W.nsIn K mainGlobals "range" = some none)
    (b10 : PySem.W.nsIn K mainGlobals "reversed" = some none)
    (b11 : PySem.W.nsIn K mainGlobals "str" = some none)
    (b12 : PySem.W.nsIn K mainGlobals "sum" = some none)
    (b13 : PySem.W.nsIn K mainGlobals "tuple" = some none) :
    codeAny (model PySem.Challenge.rw_flowform_k69_order_of_blocks.prog w) callerA (Code.call (Value.ref fa) { pos := [Value.ref a] }) (CR CX0 [] PySem.Challenge.rw_flowform_k69_order_of_blocks.prog w H sh (fun v _ => v = V.bl true) (fun _ _ _ => False)) sh := by
  have e := hfa.symm.trans (PySem.W.mg_of X G a0)
  cases e
  let es : List Ent := [⟨"bodies", 11, f11, (PySem.W.fnOf "bodies" "bodies" (defArgs s11) (defBody s11) (defScope s11) .none kV11 dc11 pm11 an11 cd11 ct11), s11, n11, p11, d11⟩, ⟨"whole_conditions", 12, f12, (PySem.W.fnOf "whole_conditions" "whole_conditions" (defArgs s12) (defBody s12) (defScope s12) .none kV12 dc12 pm12 an12 cd12 ct12), s12, n12, p12, d12⟩, ⟨"operands", 13, f13, (PySem.W.fnOf "operands" "operands" (defArgs s13) (defBody s13) (defScope s13) .none kV13 dc13 pm13 an13 cd13 ct13), s13, n13, p13, d13⟩, ⟨"size", 14, f14, (PySem.W.fnOf "size" "size" (defArgs s14) (defBody s14) (defScope s14) .none kV14 dc14 pm14 an14 cd14 ct14), s14, n14, p14, d14⟩, ⟨"_statement_size", 15, f15, (PySem.W.fnOf "_statement_size" "_statement_size" (defArgs s15) (defBody s15) (defScope s15) .none kV15 dc15 pm15 an15 cd15 ct15), s15, n15, p15, d15⟩, ⟨"_has_more_than_blocks", 16, f16, (PySem.W.fnOf "_has_more_than_blocks" "_has_more_than_blocks" (defArgs s16) (defBody s16) (defScope s16) .none kV16 dc16 pm16 an16 cd16 ct16), s16, n16, p16, d16⟩, ⟨"_condition_size", 17, f17, (PySem.W.fnOf "_condition_size" "_condition_size" (defArgs s17) (defBody s17) (defScope s17) .none kV17 dc17 pm17 an17 cd17 ct17), s17, n17, p17, d17⟩, ⟨"condition_key", 158, f158, (PySem.W.fnOf "condition_key" "condition_key" (defArgs s158) (defBody s158) (defScope s158) .none kV158 dc158 pm158 an158 cd158 ct158), s158, n158, p158, d158⟩, ⟨"earlier_block", 163, f163, (PySem.W.fnOf "earlier_block" "earlier_block" (defArgs s163) (defBody s163) (defScope s163) .none kV163 dc163 pm163 an163 cd163 ct163), s163, n163, p163, d163⟩, ⟨"block_key", 164, f164, (PySem.W.fnOf "block_key" "block_key" (defArgs s164) (defBody s164) (defScope s164) .none kV164 dc164 pm164 an164 cd164 ct164), s164, n164, p164, d164⟩, ⟨"statement_key", 165, f165, (PySem.W.fnOf "statement_key" "statement_key" (defArgs s165) (defBody s165) (defScope s165) .none kV165 dc165 pm165 an165 cd165 ct165), s165, n165, p165, d165⟩, ⟨"_outcome_key", 166, f166, (PySem.W.fnOf "_outcome_key" "_outcome_key" (defArgs s166) (defBody s166) (defScope s166) .none kV166 dc166 pm166 an166 cd166 ct166), s166, n166, p166, d166⟩, ⟨"_law_tape", 4, f4, (PySem.W.fnOf "_law_tape" "_law_tape" (defArgs s4) (defBody s4) (defScope s4) .none kV4 dc4 pm4 an4 cd4 ct4), s4, n4, p4, d4⟩, ⟨"_law_draw", 5, f5, (PySem.W.fnOf "_law_draw" "_law_draw" (defArgs s5) (defBody s5) (defScope s5) .none kV5 dc5 pm5 an5 cd5 ct5), s5, n5, p5, d5⟩, ⟨"_law_names", 6, f6, (PySem.W.fnOf "_law_names" "_law_names" (defArgs s6) (defBody s6) (defScope s6) .none kV6 dc6 pm6 an6 cd6 ct6), s6, n6, p6, d6⟩, ⟨"_law_joined", 20, f20, (PySem.W.fnOf "_law_joined" "_law_joined" (defArgs s20) (defBody s20) (defScope s20) .none kV20 dc20 pm20 an20 cd20 ct20), s20, n20, p20, d20⟩, ⟨"_law_room", 167, f167, (PySem.W.fnOf "_law_room" "_law_room" (defArgs s167) (defBody s167) (defScope s167) .none kV167 dc167 pm167 an167 cd167 ct167), s167, n167, p167, d167⟩, ⟨"_law_plain_condition", 168, f168, (PySem.W.fnOf "_law_plain_condition" "_law_plain_condition" (defArgs s168) (defBody s168) (defScope s168) .none kV168 dc168 pm168 an168 cd168 ct168), s168, n168, p168, d168⟩, ⟨"_law_plain_row", 169, f169, (PySem.W.fnOf "_law_plain_row" "_law_plain_row" (defArgs s169) (defBody s169) (defScope s169) .none kV169 dc169 pm169 an169 cd169 ct169), s169, n169, p169, d169⟩, ⟨"_law_plain_rows", 170, f170, (PySem.W.fnOf "_law_plain_rows" "_law_plain_rows" (defArgs s170) (defBody s170) (defScope s170) .none kV170 dc170 pm170 an170 cd170 ct170), s170, n170, p170, d170⟩, ⟨"_law_condition_key", 159, f159, (PySem.W.fnOf "_law_condition_key" "_law_condition_key" (defArgs s159) (defBody s159) (defScope s159) .none kV159 dc159 pm159 an159 cd159 ct159), s159, n159, p159, d159⟩, ⟨"_law_stop_key", 171, f171, (PySem.W.fnOf "_law_stop_key" "_law_stop_key" (defArgs s171) (defBody s171) (defScope s171) .none kV171 dc171 pm171 an171 cd171 ct171), s171, n171, p171, d171⟩, ⟨"_law_row_key", 172, f172, (PySem.W.fnOf "_law_row_key" "_law_row_key" (defArgs s172) (defBody s172) (defScope s172) .none kV172 dc172 pm172 an172 cd172 ct172), s172, n172, p172, d172⟩, ⟨"_law_rows_key", 173, f173, (PySem.W.fnOf "_law_rows_key" "_law_rows_key" (defArgs s173) (defBody s173) (defScope s173) .none kV173 dc173 pm173 an173 cd173 ct173), s173, n173, p173, d173⟩, ⟨"_law_same", 147, f147, (PySem.W.fnOf "_law_same" "_law_same" (defArgs s147) (defBody s147) (defScope s147) .none kV147 dc147 pm147 an147 cd147 ct147), s147, n147, p147, d147⟩, ⟨"_law_changed_condition", 162, f162, (PySem.W.fnOf "_law_changed_condition" "_law_changed_condition" (defArgs s162) (defBody s162) (defScope s162) .none kV162 dc162 pm162 an162 cd162 ct162), s162, n162, p162, d162⟩, ⟨"_law_some_stop", 174, f174, (PySem.W.fnOf "_law_some_stop" "_law_some_stop" (defArgs s174) (defBody s174) (defScope s174) .none kV174 dc174 pm174 an174 cd174 ct174), s174, n174, p174, d174⟩, ⟨"_law_changed_row", 175, f175, (PySem.W.fnOf "_law_changed_row" "_law_changed_row" (defArgs s175) (defBody s175) (defScope s175) .none kV175 dc175 pm175 an175 cd175 ct175), s175, n175, p175, d175⟩, ⟨"_law_changed_rows", 176, f176, (PySem.W.fnOf "_law_changed_rows" "_law_changed_rows" (defArgs s176) (defBody s176) (defScope s176) .none kV176 dc176 pm176 an176 cd176 ct176), s176, n176, p176, d176⟩]
  have P : ProgOk ⟨PySem.Challenge.rw_flowform_k69_order_of_blocks.prog, w, K, mg, base⟩ D es cs bl ds := by
    refine ⟨fun e he => ?_, fun x v hx => ?_, fun x hx => ?_, fun x kvs hx => ?_⟩
    · have E : es.map Ent.pair = fnm := rfl
      rw [E]
      simp only [es, List.mem_cons, List.not_mem_nil, or_false] at he
      rcases he with rfl | rfl | rfl | rfl | rfl | rfl | rfl | rfl | rfl | rfl | rfl | rfl | rfl | rfl | rfl | rfl | rfl | rfl | rfl | rfl | rfl | rfl | rfl | rfl | rfl | rfl | rfl | rfl | rfl
      · have F := fun_at l11 c11 k11
        exact ⟨PySem.W.mg_of X G a11, F, F.binds (ps := p11) fun _ _ _ _ _ _ us hl => match us, hl with | [_], _ => rfl, sc11, rfl, rfl, rfl, t11⟩
      · have F := fun_at l12 c12 k12
        exact ⟨PySem.W.mg_of X G a12, F, F.binds (ps := p12) fun _ _ _ _ _ _ us hl => match us, hl with | [_], _ => rfl, sc12, rfl, rfl, rfl, t12⟩
      · have F := fun_at l13 c13 k13
        exact ⟨PySem.W.mg_of X G a13, F, F.binds (ps := p13) fun _ _ _ _ _ _ us hl => match us, hl with | [_], _ => rfl, sc13, rfl, rfl, rfl, t13⟩
      · have F := fun_at l14 c14 k14
        exact ⟨PySem.W.mg_of X G a14, F, F.binds (ps := p14) fun _ _ _ _ _ _ us hl => match us, hl with | [_], _ => rfl, sc14, rfl, rfl, rfl, t14⟩
      · have F := fun_at l15 c15 k15
        exact ⟨PySem.W.mg_of X G a15, F, F.binds (ps := p15) fun _ _ _ _ _ _ us hl => match us, hl with | [_], _ => rfl, sc15, rfl, rfl, rfl, t15⟩
      · have F := fun_at l16 c16 k16
        exact ⟨PySem.W.mg_of X G a16, F, F.binds (ps := p16) fun _ _ _ _ _ _ us hl => match us, hl with | [_], _ => rfl, sc16, rfl, rfl, rfl, t16⟩
      · have F := fun_at l17 c17 k17
        exact ⟨PySem.W.mg_of X G a17, F, F.binds (ps := p17) fun _ _ _ _ _ _ us hl => match us, hl with | [_], _ => rfl, sc17, rfl, rfl, rfl, t17⟩
      · have F := fun_at l158 c158 k158
        exact ⟨PySem.W.mg_of X G a158, F, F.binds (ps := p158) fun _ _ _ _ _ _ us hl => match us, hl with | [_], _ => rfl, sc158, rfl, rfl, rfl, t158⟩
      · have F := fun_at l163 c163 k163
        exact ⟨PySem.W.mg_of X G a163, F, F.binds (ps := p163) fun _ _ _ _ _ _ us hl => match us, hl with | [_, _], _ => rfl, sc163, rfl, rfl, rfl, t163⟩
      · have F := fun_at l164 c164 k164
        exact ⟨PySem.W.mg_of X G a164, F, F.binds (ps := p164) fun _ _ _ _ _ _ us hl => match us, hl with | [_], _ => rfl, sc164, rfl, rfl, rfl, t164⟩
      · have F := fun_at l165 c165 k165
        exact ⟨PySem.W.mg_of X G a165, F, F.binds (ps := p165) fun _ _ _ _ _ _ us hl => match us, hl with | [_], _ => rfl, sc165, rfl, rfl, rfl, t165⟩
      · have F := fun_at l166 c166 k166
        exact ⟨PySem.W.mg_of X G a166, F, F.binds (ps := p166) fun _ _ _ _ _ _ us hl => match us, hl with | [_], _ => rfl, sc166, rfl, rfl, rfl, t166⟩
      · have F := fun_at l4 c4 k4
        exact ⟨PySem.W.mg_of X G a4, F, F.binds (ps := p4) fun _ _ _ _ _ _ us hl => match us, hl with | [_], _ => rfl, sc4, rfl, rfl, rfl, t4⟩
      · have F := fun_at l5 c5 k5
        exact ⟨PySem.W.mg_of X G a5, F, F.binds (ps := p5) fun _ _ _ _ _ _ us hl => match us, hl with | [_, _], _ => rfl, sc5, rfl, rfl, rfl, t5⟩
      · have F := fun_at l6 c6 k6
        exact ⟨PySem.W.mg_of X G a6, F, F.binds (ps := p6) fun _ _ _ _ _ _ us hl => match us, hl with | [_, _], _ => rfl, sc6, rfl, rfl, rfl, t6⟩
      · have F := fun_at l20 c20 k20
        exact ⟨PySem.W.mg_of X G a20, F, F.binds (ps := p20) fun _ _ _ _ _ _ us hl => match us, hl with | [_, _, _], _ => rfl, sc20, rfl, rfl, rfl, t20⟩
      · have F := fun_at l167 c167 k167
        exact ⟨PySem.W.mg_of X G a167, F, F.binds (ps := p167) fun _ _ _ _ _ _ us hl => match us, hl with | [_, _, _], _ => rfl, sc167, rfl, rfl, rfl, t167⟩
      · have F := fun_at l168 c168 k168
        exact ⟨PySem.W.mg_of X G a168, F, F.binds (ps := p168) fun _ _ _ _ _ _ us hl => match us, hl with | [_, _], _ => rfl, sc168, rfl, rfl, rfl, t168⟩
      · have F := fun_at l169 c169 k169
        exact ⟨PySem.W.mg_of X G a169, F, F.binds (ps := p169) fun _ _ _ _ _ _ us hl => match us, hl with | [_, _, _, _], _ => rfl, sc169, rfl, rfl, rfl, t169⟩
      · have F := fun_at l170 c170 k170
        exact ⟨PySem.W.mg_of X G a170, F, F.binds (ps := p170) fun _ _ _ _ _ _ us hl => match us, hl with | [_, _, _, _], _ => rfl, sc170, rfl, rfl, rfl, t170⟩
      · have F := fun_at l159 c159 k159
        exact ⟨PySem.W.mg_of X G a159, F, F.binds (ps := p159) fun _ _ _ _ _ _ us hl => match us, hl with | [_], _ => rfl, sc159, rfl, rfl, rfl, t159⟩
      · have F := fun_at l171 c171 k171
        exact ⟨PySem.W.mg_of X G a171, F, F.binds (ps := p171) fun _ _ _ _ _ _ us hl => match us, hl with | [_], _ => rfl, sc171, rfl, rfl, rfl, t171⟩
      · have F := fun_at l172 c172 k172
        exact ⟨PySem.W.mg_of X G a172, F, F.binds (ps := p172) fun _ _ _ _ _ _ us hl => match us, hl with | [_], _ => rfl, sc172, rfl, rfl, rfl, t172⟩
      · have F := fun_at l173 c173 k173
        exact ⟨PySem.W.mg_of X G a173, F, F.binds (ps := p173) fun _ _ _ _ _ _ us hl => match us, hl with | [_], _ => rfl, sc173, rfl, rfl, rfl, t173⟩
      · have F := fun_at l147 c147 k147
        exact ⟨PySem.W.mg_of X G a147, F, F.binds (ps := p147) fun _ _ _ _ _ _ us hl => match us, hl with | [_, _], _ => rfl, sc147, rfl, rfl, rfl, t147⟩
      · have F := fun_at l162 c162 k162
        exact ⟨PySem.W.mg_of X G a162, F, F.binds (ps := p162) fun _ _ _ _ _ _ us hl => match us, hl with | [_, _, _], _ => rfl, sc162, rfl, rfl, rfl, t162⟩
      · have F := fun_at l174 c174 k174
        exact ⟨PySem.W.mg_of X G a174, F, F.binds (ps := p174) fun _ _ _ _ _ _ us hl => match us, hl with | [_], _ => rfl, sc174, rfl, rfl, rfl, t174⟩
      · have F := fun_at l175 c175 k175
        exact ⟨PySem.W.mg_of X G a175, F, F.binds (ps := p175) fun _ _ _ _ _ _ us hl => match us, hl with | [_, _, _, _], _ => rfl, sc175, rfl, rfl, rfl, t175⟩
      · have F := fun_at l176 c176 k176
        exact ⟨PySem.W.mg_of X G a176, F, F.binds (ps := p176) fun _ _ _ _ _ _ us hl => match us, hl with | [_, _, _, _], _ => rfl, sc176, rfl, rfl, rfl, t176⟩
    · have hm := PySem.mem_of_lookup hx
      simp only [cs, List.mem_cons, List.not_mem_nil, or_false, Prod.mk.injEq] at hm
      rcases hm with ⟨rfl, rfl⟩ | ⟨rfl, rfl⟩ | ⟨rfl, rfl⟩
      · exact ⟨rfl, _, .ref ca_0, PySem.W.mg_of X G q0, rfl, tup_rv r0 z0 v0, fun _ _ => ⟨_, _, rfl, r0, rfl, rfl⟩⟩
      · exact ⟨rfl, _, .ref ca_1, PySem.W.mg_of X G q1, rfl, tup_rv r1 z1 v1, fun _ _ => ⟨_, _, rfl, r1, rfl, rfl⟩⟩
      · exact ⟨rfl, _, .ref ca_2, PySem.W.mg_of X G q2, rfl, tup_rv r2 z2 v2, fun _ _ => ⟨_, _, rfl, r2, rfl, rfl⟩⟩
    · have hm : x ∈ bl := by simpa using hx
      simp only [bl, List.mem_cons, List.not_mem_nil, or_false] at hm
      rcases hm with rfl | rfl | rfl | rfl | rfl | rfl | rfl | rfl | rfl | rfl | rfl | rfl | rfl | rfl
      · exact PySem.W.mg_none_of X G b0
      · exact PySem.W.mg_none_of X G b1
      · exact PySem.W.mg_none_of X G b2
      · exact PySem.W.mg_none_of X G b3
      · exact PySem.W.mg_none_of X G b4
      · exact PySem.W.mg_none_of X G b5
      · exact PySem.W.mg_none_of X G b6
      · exact PySem.W.mg_none_of X G b7
      · exact PySem.W.mg_none_of X G b8
      · exact PySem.W.mg_none_of X G b9
      · exact PySem.W.mg_none_of X G b10
      · exact PySem.W.mg_none_of X G b11
      · exact PySem.W.mg_none_of X G b12
      · exact PySem.W.mg_none_of X G b13
    · have hm := PySem.mem_of_lookup hx
      simp only [ds, List.mem_cons, List.not_mem_nil, or_false, Prod.mk.injEq] at hm
      rcases hm with ⟨rfl, rfl⟩ | ⟨rfl, rfl⟩
      · exact ⟨da_0, de_0, dn_0, PySem.W.mg_of X G dg0, ⟨dl0, di0, dj0⟩, dm0⟩
      · exact ⟨da_1, de_1, dn_1, PySem.W.mg_of X G dg1, ⟨dl1, di1, dj1⟩, dm1⟩
  have FL := fun_at l0 c0 k0
  have E0 : EntG ⟨PySem.Challenge.rw_flowform_k69_order_of_blocks.prog, w, K, mg, base⟩ D (es.map Ent.pair) cs bl ds ⟨"law", 0, fa, (PySem.W.fnOf "law" "law" (defArgs s0) (defBody s0) (defScope s0) .none kV0 dc0 pm0 an0 cd0 ct0), s0, n0, p0, d0⟩ := ⟨PySem.W.mg_of X G a0, FL, sc0, rfl, rfl, rfl, t0⟩
  exact law_top (turns := TURNS) (k := DEEP) (x := "script") P _ E0 rfl (fun s u => .of_eq rfl) ⟨rfl, by decide, by decide +kernel⟩ nl Ev hl ho hs
end

end K69

set_option maxHeartbeats 4000000
namespace K69
section

open PySem L2 U
/-- the tape's four items -/
abbrev tp (c : Nat) (p q z : Int) : List PV := [.loc c, .int p, .int q, .int z]
theorem draw_ok {k : Nat} {st : Store} {t c : Nat} {ns : List Int} {p q z m : Int} (ht : st[t]? = some (.lst (tp c p q z))) (hc : st[c]? = some (.lst (ns.map .int))) (hp : 0 ≤ p) (hq : 0 ≤ q) (hz : 0 ≤ z) (hm : m < 1000000) :
    ∃ r p' q' z', evCall TURNS D (k + 1) 5 [.loc t, .int m] st = .ok (.int r) (setAt st t (tp c p' q' z')) ∧ 0 ≤ r ∧ r < max m 1 ∧ 0 ≤ p' ∧ 0 ≤ q' ∧ 0 ≤ z' := by
  have hct : c ≠ t := by
    rintro rfl
    rw [ht] at hc
    have hc : Cell.lst _ = Cell.lst _ := Option.some.inj hc
    injection hc with hc
    cases ns with
    | nil => cases hc
    | cons n ns => injection hc with h1 _; cases h1
  have htl : t < st.length := (List.getElem?_eq_some_iff.mp ht).1
  have hs : ∀ (s : Store) (x : List PV), s.length = st.length → (setAt s t x)[t]? = some (.lst x) := fun s x e => by simp [setAt, htl, e]
  have hs2 : ∀ (s : Store) (x : List PV), s[c]? = some (.lst (ns.map .int)) → (setAt s t x)[c]? = some (.lst (ns.map .int)) := fun s x e => by unfold setAt; rw [List.getElem?_set_ne (Ne.symm hct)]; exact e
  have hs1 : ∀ (x : List PV), (setAt st t x)[t]? = some (.lst x) := fun x => hs st x rfl
  have hss : ∀ (x y : List PV), (setAt (setAt st t x) t y) = setAt st t y := fun x y => by simp [setAt]
  have e2 : ixN 4 2 = some 2 := rfl
  have e1 : ixN 4 1 = some 1 := rfl
  have e3 : ixN 4 3 = some 3 := rfl
  generalize hM1 : (if m < 1 then 1 else m) = M1
  generalize hM2 : (if m < 2 then 2 else m) = M2
  have m1 : 0 < M1 ∧ M1 = max m 1 := by rw [← hM1]; split <;> omega
  have m2 : 0 < M2 ∧ M2 < 1073741824 := by rw [← hM2]; split <;> omega
  have fdiv : ∀ (i : Int) (s : Store), binV .fdiv (.int i) (.int M2) s = some (.int (i / M2)) := fun i s => bin_fdiv_int m2
  have fmod : ∀ (i : Int) (s : Store), binV .mod (.int i) (.int M1) s = some (.int (i % M1)) := fun i s => bin_mod_int m1.1
  have fin : ∀ (v : PV) (x : List PV), leave st.length v (setAt st t x) = .ok v (setAt st t x) := fun v x => leave_setAt v st t x
  by_cases h0 : q = 0
  · subst h0
    clear htl
    -- what stands behind the first if, for the number that was drawn
    have mulA : ∀ (i : Int) (s : Store), binV .mul (.int i) (.int 48271) s = some (.int (i * 48271)) := fun i s => bin_mul_int (by simp [ckM])
    have mulB : ∀ (i : Int) (s : Store), binV .mul (.int i) (.int 69621) s = some (.int (i * 69621)) := fun i s => bin_mul_int (by simp [ckM])
    have modA : ∀ (i : Int) (s : Store), binV .mod (.int i) (.int 2147483647) s = some (.int (i % 2147483647)) := fun i s => bin_mod_int (by decide)
    have modB : ∀ (i : Int) (s : Store), binV .mod (.int i) (.int 2147483629) s = some (.int (i % 2147483629)) := fun i s => bin_mod_int (by decide)
    have powA : ∀ (s : Store), binV .pow (.int 10) (.int 18) s = some (.int (10 ^ 18)) := fun s => bin_pow_int (by decide)
    have lenA : ∀ s : Store, s[c]? = some (.lst (ns.map .int)) → biV .len [.loc c] s = some (.int ns.length) := fun s h => by rw [bi_len_loc h]; simp
    by_cases hl : p < ns.length
    · obtain ⟨n, hn⟩ : ∃ n, ns[p.toNat]? = some n := ⟨ns[p.toNat]'(by omega), by simp⟩
      have hn2 : atI (ns.map PV.int) p = some (.int n) := atI_nn hp (by rw [List.getElem?_map, hn]; rfl)
      generalize ha : (if n < 0 then -n else n) = a
      have a0 : 0 ≤ a := by rw [← ha]; split <;> omega
      by_cases hb : a < 1000000000000000000
      · simp only [evCall, D, d5]
        simp [evSs, evS, ev, evA, evCs, ix_loc ht, cmp_eq_int, hs1, ht, hM1, hM2, fdiv, fmod, ME.held, e1, e2, e3, hss, mulA, mulB, modA, modB, powA, lenA _ hc, hl, ix_loc hc, hb, hn2, ha]
        exact ⟨_, _, _, _, fin _ _, Int.emod_nonneg _ (by omega), by rw [← m1.2]; exact Int.emod_lt_of_pos _ m1.1, by omega, by omega, hz⟩
      · simp only [evCall, D, d5]
        simp [evSs, evS, ev, evA, evCs, ix_loc ht, cmp_eq_int, hs1, ht, hM1, hM2, fdiv, fmod, ME.held, e1, e2, e3, hss, mulA, mulB, modA, modB, powA, lenA _ hc, hl, ix_loc hc, hb, hn2, ha, ix_loc (hs1 _)]
        exact ⟨_, _, _, _, fin _ _, Int.emod_nonneg _ (by omega), by rw [← m1.2]; exact Int.emod_lt_of_pos _ m1.1, by omega, Int.ediv_nonneg a0 (by omega), hz⟩
    · have hb : (z * 48271 + p + 1) % 2147483647 < 1000000000000000000 := Int.lt_trans (Int.emod_lt_of_pos _ (by decide)) (by decide)
      simp only [evCall, D, d5]
      simp [evSs, evS, ev, evA, evCs, ix_loc ht, cmp_eq_int, hs1, ht, hM1, hM2, fdiv, fmod, ME.held, e1, e2, e3, hss, mulA, mulB, modA, modB, powA, lenA _ hc, hl, ix_loc hc, hb, ix_loc (hs1 _)]
      exact ⟨_, _, _, _, fin _ _, Int.emod_nonneg _ (by omega), by rw [← m1.2]; exact Int.emod_lt_of_pos _ m1.1, by omega, by omega, Int.emod_nonneg _ (by omega)⟩
  · simp only [evCall, D, d5]
    clear htl
    simp [evSs, evS, ev, evA, evCs, ix_loc ht, cmp_eq_int, h0, hs1, ht, hM1, hM2, fdiv, fmod, ME.held, e2, hss]
    exact ⟨_, _, _, _, fin _ _, Int.emod_nonneg _ (by omega), by rw [← m1.2]; exact Int.emod_lt_of_pos _ m1.1, hp, Int.ediv_nonneg hq (by omega), hz⟩

end
section

open PySem L2 U
/-- the store with the script's numbers and the tape -/
def TS (ns : List Int) (p q z : Int) : Store := [.lst (ns.map .int), .lst (tp 0 p q z)]
def T (ns : List Int) (st : Store) : Prop := ∃ p q z, 0 ≤ p ∧ 0 ≤ q ∧ 0 ≤ z ∧ st = TS ns p q z
theorem T.len {ns : List Int} {st : Store} (h : T ns st) : st.length = 2 := by
  obtain ⟨p, q, z, _, _, _, rfl⟩ := h
  rfl
theorem drawT {k : Nat} {ns : List Int} {st : Store} {m : Int} (h : T ns st) (hm : 1 ≤ m ∧ m < 1000000) : ∃ r st', evCall TURNS D (k + 1) 5 [.loc 1, .int m] st = .ok (.int r) st' ∧ T ns st' ∧ 0 ≤ r ∧ r < m := by
  obtain ⟨p, q, z, hp, hq, hz, rfl⟩ := h
  obtain ⟨r, p', q', z', h1, h2, h3, h4, h5, h6⟩ := draw_ok (k := k) (st := TS ns p q z) (t := 1) (c := 0) (ns := ns) rfl rfl hp hq hz hm.2
  exact ⟨r, _, h1, ⟨p', q', z', h4, h5, h6, rfl⟩, h2, by omega⟩
theorem leaveT {ns : List Int} {st : Store} {v : PV} (h : T ns st) : leave 2 v st = .ok v st := leave_same (by rw [h.len]; exact Nat.le_refl _)
theorem pick {α : Type} {xs : List α} {i : Int} (h0 : 0 ≤ i) (h1 : i < xs.length) : ∃ x, x ∈ xs ∧ atI xs i = some x :=
  ⟨xs[i.toNat]'(by omega), List.getElem_mem _, atI_nn h0 (by simp)⟩
theorem ixS {s : Str} {i : Int} {st : Store} (h0 : 0 ≤ i) (h1 : i < s.length) (hz : s.length ≤ 1000000) : ∃ c, c ∈ s.cps.toList ∧ ixV (.str s) (.int i) st = some (.str ⟨#[c]⟩) := by
  have e := TL.len_tl s
  have hz2 : s.length ≤ sizeLine := by rw [sizeLine_eq]; omega
  obtain ⟨c, hc, h⟩ := pick (xs := s.cps.toList) h0 (by show i < ((TL.tl s).length : Int); omega)
  exact ⟨c, hc, by rw [ix_str_ hz2, h]; rfl⟩
/-- the tape -/
theorem tape_ok {k : Nat} {ns : List Int} : ∃ z, 0 ≤ z ∧ evCall TURNS D (k + 1) 4 [.rol (ns.map .int)] [] = .ok (.fl (tp 0 0 0 z)) [.lst (ns.map .int)] := by
  obtain ⟨e, s, h1, t, x, ht, rfl, rfl⟩ := forLoop_inv (put := MG.put (.nm 2)) (body := evSs (evCall TURNS D k) TURNS b4_0) (xs := ns.map .int)
    (fun j env st => ∃ t x, 0 ≤ t ∧ env = [some (.rol (ns.map .int)), some (.int t), x] ∧ st = []) (fun j x env st hx ⟨t, y, ht, e1, e2⟩ => by
      subst e1 e2
      rw [List.getElem?_map] at hx
      obtain ⟨n, hn, rfl⟩ := Option.map_eq_some_iff.mp hx
      have mulA : ∀ (i : Int) (s : Store), binV .mul (.int i) (.int 31) s = some (.int (i * 31)) := fun i s => bin_mul_int (by simp [ckM])
      have modA : ∀ (i : Int) (s : Store), binV .mod (.int i) (.int 2147483647) s = some (.int (i % 2147483647)) := fun i s => bin_mod_int (by decide)
      refine ⟨_, rfl, ?_⟩
      simp [b4_0, evSs, evS, ev, evCs, mulA, modA]
      exact Int.emod_nonneg _ (by decide)) ns.length 0 [some (.rol (ns.map .int)), some (.int 7), none] [] (by simp) ⟨7, none, by decide, rfl, rfl⟩
  refine ⟨t, ht, ?_⟩
  simp only [evCall, D, d4]
  simp [evSs, evS, ev, evA, evCs, evSrc, srcV, Src.many, h1, ME.held, leave, PV.low, PV.lowL, sizeLine_eq]
theorem len_app (x y : Str) : (x ++ y).length = x.length + y.length := by
  have h1 := TL.len_tl (x ++ y)
  rw [TL.tl_append, List.length_append] at h1
  have h2 := TL.len_tl x
  have h3 := TL.len_tl y
  omega
theorem add_ok {x y : Str} {st : Store} (hx : x.length ≤ 100000) (hy : y.length ≤ 100000) : binV .add (.str x) (.str y) st = some (.str (x ++ y)) := bin_add_str (by rw [sizeLine_eq]; omega)
theorem sl_str_ok {x : Str} {lo hi : Option Int} {st : Store} (hx : x.length ≤ 100000) : slV (.str x) lo hi st = some (.str (cutS x lo hi)) := if_pos (by rw [sizeLine_eq]; omega)
theorem cut_len {x : Str} {lo hi : Option Int} {n : Nat} (h : x.length ≤ n) : (cutS x lo hi).length ≤ n := Nat.le_trans (cutS_length x lo hi) h
theorem one_len (c : Nat) : (⟨#[c]⟩ : Str).length = 1 := rfl
theorem len_ok {x : Str} {st : Store} (hx : x.length ≤ 100000) : biV .len [.str x] st = some (.int x.length) := bi_len_str (by rw [sizeLine_eq]; omega)
theorem bound_non : bound true .non = some none := rfl
theorem bound_int (i : Int) : bound false (.int i) = some (some i) := rfl
/-- a text of at most n signs, all below 256 -/
def B (n : Nat) (x : Str) : Prop := x.length ≤ n ∧ ∀ c ∈ x.cps.toList, c < 256
def bB (n : Nat) (x : Str) : Bool := decide (x.length ≤ n) && x.cps.toList.all fun c => decide (c < 256)
theorem B.of {n : Nat} {x : Str} (h : bB n x = true) : B n x := by
  unfold bB at h
  rw [Bool.and_eq_true, List.all_eq_true] at h
  exact ⟨of_decide_eq_true h.1, fun c hc => of_decide_eq_true (h.2 c hc)⟩
theorem B.mono {n m : Nat} {x : Str} (h : B n x) (k : n ≤ m) : B m x := ⟨Nat.le_trans h.1 k, h.2⟩
theorem B.app {n m : Nat} {x y : Str} (h : B n x) (k : B m y) : B (n + m) (x ++ y) := by
  refine ⟨by rw [len_app]; have := h.1; have := k.1; omega, fun c hc => ?_⟩
  have hc : c ∈ TL.tl (x ++ y) := hc
  rw [TL.tl_append, List.mem_append] at hc
  exact hc.elim (h.2 c) (k.2 c)
theorem B.cut {n : Nat} {x : Str} (h : B n x) (lo hi : Option Int) : B n (cutS x lo hi) :=
  ⟨cut_len h.1, fun c hc => h.2 c (List.mem_of_mem_drop (List.mem_of_mem_take hc))⟩
theorem B.one {c : Nat} (h : c < 256) : B 1 ⟨#[c]⟩ := ⟨Nat.le_refl _, fun d hd => by
  have : d = c := by simpa using hd
  rw [this]; exact h⟩
theorem num_all : (List.range 100).all (fun k => bB 5 (Str.ofString (toString (k : Int)))) = true := by decide +kernel
theorem num_B {i : Int} (h0 : 0 ≤ i) (h : i < 100) : B 5 (Str.ofString (toString i)) := by
  have := (List.all_eq_true.mp num_all) i.toNat (List.mem_range.mpr (by omega))
  rw [Int.toNat_of_nonneg h0] at this
  exact B.of this
/-- one of some texts -/
theorem pickS {xs : List PV} {i : Int} {P : Str → Prop} (h0 : 0 ≤ i) (h1 : i < xs.length) (h : ∀ x ∈ xs, ∃ s : Str, x = .str s ∧ P s) : ∃ s : Str, atI xs i = some (.str s) ∧ P s := by
  obtain ⟨x, hx, e⟩ := pick h0 h1
  obtain ⟨s, rfl, hs⟩ := h x hx
  exact ⟨s, e, hs⟩
/-- what a call comes to -/
def gets {α : Type} (r : Res α) (P : α → Store → Prop) : Prop := match r with
  | .ok a st => P a st
  | .bad => False
@[simp] theorem gets_ok {α : Type} (a : α) (st : Store) (P : α → Store → Prop) : gets (.ok a st) P = P a st := rfl
theorem of_gets {α : Type} {r : Res α} {P : α → Store → Prop} (h : gets r P) : ∃ a st, r = .ok a st ∧ P a st := by
  cases r with
  | ok a st => exact ⟨a, st, rfl, h⟩
  | bad => exact h.elim
theorem strsL_map {α : Type} (f : α → Str) : ∀ l : List α, strsL (l.map fun x => .str (f x)) = some (l.map f)
  | [] => rfl
  | x :: r => by
    show (strsL (r.map fun x => .str (f x))).map (f x :: ·) = _
    rw [strsL_map f r]; rfl
theorem num_len {i : Int} (h0 : 0 ≤ i) (h : i < 10000) : (toString i : Str).length ≤ 5 ∧ i.natAbs < 1000000 := by
  have e := PySem.int_text_length_le10 (a := i) (k := 4) (by decide) (by omega)
  refine ⟨?_, by omega⟩
  show (Str.ofString (toString i)).length ≤ 5
  rw [show (Str.ofString (toString i)).length = (toString i : String).length by rw [TL.len_tl, TL.tl_ofString, List.length_map]; rfl]
  exact e

end
section

open PySem L2 U
theorem loopA {k : Nat} {ns : List Int} {st : Store} {sg name : Str} {r : Int} {a1 a3 a4 a5 a6 a7 a9 a10 : Option PV} (hg : ∀ (i : Int) (st : Store), 0 ≤ i → i < 63 → ∃ c, ixV (.str sg) (.int i) st = some (.str ⟨#[c]⟩) ∧ c < 256)
    (t : T ns st) (hn : B 21 name) (h0 : 0 ≤ r) (h1 : r ≤ 6) :
    ∃ nm x9 st', forLoop (MG.put (.nm 9)) (evSs (evCall TURNS D (k + 1)) TURNS b6_0) (.items ((List.range r.toNat).map fun (k : Nat) => .int k)) 0 r.toNat [some (.loc 1), a1, some (.str sg), a3, a4, a5, a6, a7, some (.str name), a9, a10] st
      = .nx [some (.loc 1), a1, some (.str sg), a3, a4, a5, a6, a7, some (.str nm), x9, a10] st' ∧ B 27 nm ∧ T ns st' := by
  obtain ⟨e, s, q1, nm, x9, q2, q3, q4⟩ := forLoop_inv (put := MG.put (.nm 9)) (body := evSs (evCall TURNS D (k + 1)) TURNS b6_0) (xs := (List.range r.toNat).map fun (k : Nat) => .int k)
    (fun j env st => ∃ nm x9, B (21 + j) nm ∧ T ns st ∧ env = [some (.loc 1), a1, some (.str sg), a3, a4, a5, a6, a7, some (.str nm), x9, a10]) (fun j x env st hx ⟨nm, x9, e1, e2, e3⟩ => by
      subst e3
      have hj : j < r.toNat := by
        have := (List.getElem?_eq_some_iff.mp hx).1
        simpa using this
      obtain ⟨q, st1, g1, g2, g3, g4⟩ := drawT (k := k) (m := 63) e2 (by decide)
      obtain ⟨c, hc, hc2⟩ := hg q st1 g3 g4
      have le1 := e1.1
      have a := add_ok (x := nm) (y := ⟨#[c]⟩) (st := st1) (by omega) (by rw [one_len]; omega)
      refine ⟨_, rfl, ?_⟩
      simp [b6_0, evSs, evS, ev, evA, evCs, g1, hc, a]
      exact ⟨e1.app (.one hc2), g2⟩) r.toNat 0 _ st (by simp) ⟨name, a9, hn, t, rfl⟩
  refine ⟨nm, x9, s, by rw [q1, q4], q2.mono ?_, q3⟩
  have : ((List.range r.toNat).map fun (k : Nat) => PV.int k).length = r.toNat := by simp
  omega
def SG : Str := "abcdefghijklmnopqrstuvwxyzABCDEFGHIJKLMNOPQRSTUVWXYZ0123456789_"
theorem SG_B : B 63 SG := .of (by decide +kernel)
theorem SG_ok (i : Int) (st : Store) (h0 : 0 ≤ i) (h1 : i < 63) : ∃ c, ixV (.str SG) (.int i) st = some (.str ⟨#[c]⟩) ∧ c < 256 := by
  obtain ⟨c, hm, h⟩ := ixS (s := SG) (st := st) h0 (by rw [show Str.length SG = 63 by decide +kernel]; omega) (by decide +kernel)
  exact ⟨c, h, SG_B.2 c hm⟩
def WL : List PV := [.str "let", .str "if", .str "else", .str "while", .str "for", .str "break", .str "continue", .str "return", .str "try", .str "finally", .str "true", .str "false"]
theorem WL_ok {i : Int} (l1 : 0 ≤ i) (u1 : i < 12) : ∃ s : Str, atI WL i = some (.str s) ∧ B 8 s := pickS (xs := WL) l1 (by simpa [WL] using u1) (by
    intro x hx
    simp only [WL, List.mem_cons, List.not_mem_nil, or_false] at hx
    rcases hx with rfl | rfl | rfl | rfl | rfl | rfl | rfl | rfl | rfl | rfl | rfl | rfl <;> exact ⟨_, rfl, .of (by decide +kernel)⟩)
theorem inW (x : Str) (st : Store) : ∃ b, cmpV .inn (.str x) (.fl WL) st = some b := by
  have h : ∃ b, memF (.str x) WL = some b := ⟨_, rfl⟩
  obtain ⟨b, h⟩ := h
  refine ⟨b, ?_⟩
  show U.inV (.str x) (.fl WL) st = some b
  unfold U.inV
  simp only [seq_fl, h]
theorem inXs (x : Str) (xs : List Str) (st : Store) : ∃ b, cmpV .inn (.str x) (.fl (xs.map .str)) st = some b := by
  have e : ∀ l : List Str, flL (l.map .str) = some (l.map V.str) := fun l => by
    induction l with
    | nil => rfl
    | cons z l ih =>
      show (match flV (.str z), flL (l.map .str) with | some v, some vs => some (v :: vs) | _, _ => none) = _
      rw [ih]; rfl
  have h : memF (.str x) (xs.map .str) = some (L2.inV (.str x) (xs.map V.str)) := by
    show (match flV (.str x), flL (xs.map .str) with | some x, some vs => some (L2.inV x vs) | _, _ => none) = _
    rw [e]; rfl
  refine ⟨L2.inV (.str x) (xs.map V.str), ?_⟩
  show U.inV (.str x) (.fl (xs.map .str)) st = _
  unfold U.inV
  simp only [seq_fl, h]
/-- what follows the stem in a turn -/
theorem turnA {k : Nat} {ns : List Int} {st : Store} {stem : Str} {place : Int} {a8 a9 a10 : Option PV} {xs : List Str} {j : Nat} {mn : Int} (hj : j < 100) (hxs : xs.length < 100) (t : T ns st) (hs0 : B 10 stem) (h0 : 0 ≤ place) :
    ∃ x a9' a10' st', evSs (evCall TURNS D (k + 1)) TURNS b6_1 [some (.loc 1), some (.int mn), some (.str SG), some (.fl WL), some (.str stem), some (.int place), some (.fl (xs.map .str)), some (.int j), a8, a9, a10] st
      = .nx [some (.loc 1), some (.int mn), some (.str SG), some (.fl WL), some (.str stem), some (.int place), some (.fl (xs.map .str ++ [.str x])), some (.int j), some (.str x), a9', a10'] st' ∧ B 60 x ∧ T ns st' := by
  have hs := hs0.1
  obtain ⟨r1, st1, h1, t1, l1, u1⟩ := drawT (k := k) (m := 52) t (by decide)
  obtain ⟨c1, hc1, hc1b⟩ := SG_ok r1 st1 l1 (by omega)
  have q1 := cut_len (lo := none) (hi := some place) hs
  have q2 := cut_len (lo := some place) (hi := none) hs
  have d1 := sl_str_ok (x := stem) (lo := none) (hi := some place) (st := st) (by omega)
  have d2 := sl_str_ok (x := stem) (lo := some place) (hi := none) (st := st1) (by omega)
  have m1 := add_ok (x := cutS stem none (some place)) (y := ⟨#[c1]⟩) (st := st1) (by omega) (by rw [one_len]; omega)
  have m2 := add_ok (x := cutS stem none (some place) ++ ⟨#[c1]⟩) (y := cutS stem (some place) none) (st := st1) (by rw [len_app, one_len]; omega) (by omega)
  obtain ⟨r3, st3, h3, t3, l3, u3⟩ := drawT (k := k) (m := 6) (ns := ns) (st := st1) t1 (by decide)
  have e3 : ∃ n : Int, atI [PV.int 0, .int 0, .int 0, .int 1, .int 2, .int 6] r3 = some (.int n) ∧ 0 ≤ n ∧ n ≤ 6 := by
    obtain ⟨y, hy, e3⟩ := pick (xs := [PV.int 0, .int 0, .int 0, .int 1, .int 2, .int 6]) (i := r3) l3 (by simpa using u3)
    simp only [List.mem_cons, List.not_mem_nil, or_false] at hy
    rcases hy with rfl | rfl | rfl | rfl | rfl | rfl <;> exact ⟨_, e3, by decide, by decide⟩
  obtain ⟨n, e3, n0, n6⟩ := e3
  have hr : rngV (.int 0) (.int n) st3 = .ok (.items ((List.range (n - 0).toNat).map fun (k : Nat) => .int (0 + k))) st3 := if_pos (by omega)
  rw [show n - 0 = n by omega] at hr
  simp only [Int.zero_add] at hr
  obtain ⟨nm, x9, st4, g1, g2, g3⟩ := loopA (k := k) (sg := SG) (name := cutS stem none (some place) ++ ⟨#[c1]⟩ ++ cutS stem (some place) none) (a1 := some (.int mn)) (a3 := some (.fl WL)) (a4 := some (.str stem)) (a5 := some (.int place)) (a6 := some (.fl (xs.map .str))) (a7 := some (.int j)) (a9 := a9) (a10 := a10) SG_ok t3 ((((hs0.cut _ _).app (.one hc1b)).app (hs0.cut _ _)).mono (by omega)) n0 n6
  have g2b := g2
  have g2 := g2b.1
  obtain ⟨r5, st5, h5, t5, l5, u5⟩ := drawT (k := k) (m := 16) g3 (by decide)
  have hx2 : xs.length < 16777216 := by omega
  have jb := num_B (i := (j : Int)) (by omega) (by omega)
  have jl := jb.1
  have ja : (j : Int).natAbs < 1000000 := by omega
  have wj := fun st => bi_str (i := (j : Int)) (st := st) ja
  generalize Str.ofString (toString (j : Int)) = Z at jl wj jb
  have o23 : Str.length ("one_of_two_equal_names_" : Str) = 23 := by decide +kernel
  have kj := fun st => add_ok (x := ("one_of_two_equal_names_" : Str)) (y := Z) (st := st) (by decide +kernel) (by omega)
  have one24 : B 60 (("one_of_two_equal_names_" : Str) ++ Z) := ((B.of (n := 23) (by decide +kernel)).app jb).mono (by omega)
  by_cases c0 : r5 = 0
  · subst c0
    have k1 := len_ok (x := nm) (st := st5) (by omega)
    have k2 := bin_mul_str (x := "x") (j := 30 - nm.length) (st := st5) ⟨by omega, by omega, by rw [show Str.length "x" = 1 by decide +kernel]; omega⟩
    have k4 : (⟨((List.replicate (30 - (nm.length : Int)).toNat (Str.cps "x").toList).flatten).toArray⟩ : Str).length = (30 - (nm.length : Int)).toNat := by
      rw [TL.len_tl]
      show ((List.replicate (30 - (nm.length : Int)).toNat (Str.cps "x").toList).flatten).length = _
      rw [List.length_flatten, List.map_replicate, List.sum_replicate_nat, show (Str.cps "x").toList.length = 1 by decide +kernel]
      omega
    have k5 : B 30 (⟨((List.replicate (30 - (nm.length : Int)).toNat (Str.cps "x").toList).flatten).toArray⟩ : Str) := ⟨by omega, fun c hc => by
      have hc : c ∈ ((List.replicate (30 - (nm.length : Int)).toNat (Str.cps "x").toList).flatten) := hc
      obtain ⟨l, h1, h2⟩ := List.mem_flatten.mp hc
      rw [(List.mem_replicate.mp h1).2] at h2
      exact (B.of (n := 1) (x := "x") (by decide +kernel)).2 c h2⟩
    generalize (⟨((List.replicate (30 - (nm.length : Int)).toNat (Str.cps "x").toList).flatten).toArray⟩ : Str) = XX at k2 k4 k5
    have k3 := add_ok (x := nm) (y := XX) (st := st5) (by omega) (by omega)
    obtain ⟨b, hb⟩ := inW (nm ++ XX) st5
    obtain ⟨b2, hb2⟩ := inXs (nm ++ XX) xs st5
    cases b with
    | false =>
      cases b2 with
      | false =>
        simp [b6_1, evSs, evS, ev, evA, evCs, evSrc, d1, h1, hc1, m1, d2, m2, h3, e3, hr, Src.many, g1, h5, ME.absent, bound_non, bound_int, hx2, -List.map_map, k1, k2, k3, hb, hb2, sizeLine_eq]
        exact ⟨_, _, _, _, ⟨⟨rfl, rfl, rfl⟩, rfl⟩, (g2b.app k5).mono (by omega), t5⟩
      | true =>
        simp [b6_1, evSs, evS, ev, evA, evCs, evSrc, d1, h1, hc1, m1, d2, m2, h3, e3, hr, Src.many, g1, h5, ME.absent, bound_non, bound_int, hx2, -List.map_map, k1, k2, k3, hb, hb2, wj, kj, sizeLine_eq]
        exact ⟨_, _, _, _, ⟨⟨rfl, rfl, rfl⟩, rfl⟩, one24, t5⟩
    | true =>
      simp [b6_1, evSs, evS, ev, evA, evCs, evSrc, d1, h1, hc1, m1, d2, m2, h3, e3, hr, Src.many, g1, h5, ME.absent, bound_non, bound_int, hx2, -List.map_map, k1, k2, k3, hb, wj, kj, sizeLine_eq]
      exact ⟨_, _, _, _, ⟨⟨rfl, rfl, rfl⟩, rfl⟩, one24, t5⟩
  by_cases c1' : r5 = 1
  · subst c1'
    obtain ⟨r6, st6, h6, t6, l6, u6⟩ := drawT (k := k) (m := 12) t5 (by decide)
    obtain ⟨w, hw, lwb⟩ := WL_ok l6 u6
    have lw := lwb.1
    have s1 := sl_str_ok (x := nm) (lo := none) (hi := some 1) (st := st6) (by omega)
    have s2 := cut_len (x := nm) (lo := none) (hi := some 1) g2
    have k3 := add_ok (x := w) (y := cutS nm none (some 1)) (st := st6) (by omega) (by omega)
    obtain ⟨b, hb⟩ := inW (w ++ cutS nm none (some 1)) st6
    obtain ⟨b2, hb2⟩ := inXs (w ++ cutS nm none (some 1)) xs st6
    cases b with
    | false =>
      cases b2 with
      | false =>
        simp [b6_1, evSs, evS, ev, evA, evCs, evSrc, d1, h1, hc1, m1, d2, m2, h3, e3, hr, Src.many, g1, h5, ME.absent, bound_non, bound_int, hx2, -List.map_map, h6, hw, s1, k3, hb, hb2, sizeLine_eq]
        exact ⟨_, _, _, _, ⟨⟨rfl, rfl, rfl⟩, rfl⟩, (lwb.app (g2b.cut _ _)).mono (by omega), t6⟩
      | true =>
        simp [b6_1, evSs, evS, ev, evA, evCs, evSrc, d1, h1, hc1, m1, d2, m2, h3, e3, hr, Src.many, g1, h5, ME.absent, bound_non, bound_int, hx2, -List.map_map, h6, hw, s1, k3, hb, hb2, wj, kj, sizeLine_eq]
        exact ⟨_, _, _, _, ⟨⟨rfl, rfl, rfl⟩, rfl⟩, one24, t6⟩
    | true =>
      simp [b6_1, evSs, evS, ev, evA, evCs, evSrc, d1, h1, hc1, m1, d2, m2, h3, e3, hr, Src.many, g1, h5, ME.absent, bound_non, bound_int, hx2, -List.map_map, h6, hw, s1, k3, hb, wj, kj, sizeLine_eq]
      exact ⟨_, _, _, _, ⟨⟨rfl, rfl, rfl⟩, rfl⟩, one24, t6⟩
  by_cases c2' : r5 = 2
  · subst c2'
    obtain ⟨r6, st6, h6, t6, l6, u6⟩ := drawT (k := k) (m := 12) t5 (by decide)
    obtain ⟨w, hw, lwb⟩ := WL_ok l6 u6
    have lw := lwb.1
    have s1 := sl_str_ok (x := w) (lo := none) (hi := some (-1)) (st := st6) (by omega)
    have s2 := cut_len (x := w) (lo := none) (hi := some (-1)) lw
    obtain ⟨b, hb⟩ := inW (cutS w none (some (-1))) st6
    obtain ⟨b2, hb2⟩ := inXs (cutS w none (some (-1))) xs st6
    cases b with
    | false =>
      cases b2 with
      | false =>
        simp [b6_1, evSs, evS, ev, evA, evCs, evSrc, d1, h1, hc1, m1, d2, m2, h3, e3, hr, Src.many, g1, h5, ME.absent, bound_non, bound_int, hx2, -List.map_map, h6, hw, s1, hb, hb2, sizeLine_eq]
        exact ⟨_, _, _, _, ⟨⟨rfl, rfl, rfl⟩, rfl⟩, (lwb.cut _ _).mono (by omega), t6⟩
      | true =>
        simp [b6_1, evSs, evS, ev, evA, evCs, evSrc, d1, h1, hc1, m1, d2, m2, h3, e3, hr, Src.many, g1, h5, ME.absent, bound_non, bound_int, hx2, -List.map_map, h6, hw, s1, hb, hb2, wj, kj, sizeLine_eq]
        exact ⟨_, _, _, _, ⟨⟨rfl, rfl, rfl⟩, rfl⟩, one24, t6⟩
    | true =>
      simp [b6_1, evSs, evS, ev, evA, evCs, evSrc, d1, h1, hc1, m1, d2, m2, h3, e3, hr, Src.many, g1, h5, ME.absent, bound_non, bound_int, hx2, -List.map_map, h6, hw, s1, hb, wj, kj, sizeLine_eq]
      exact ⟨_, _, _, _, ⟨⟨rfl, rfl, rfl⟩, rfl⟩, one24, t6⟩
  obtain ⟨b, hb⟩ := inW (nm) st5
  obtain ⟨b2, hb2⟩ := inXs (nm) xs st5
  cases b with
  | false =>
    cases b2 with
    | false =>
      simp [b6_1, evSs, evS, ev, evA, evCs, evSrc, d1, h1, hc1, m1, d2, m2, h3, e3, hr, Src.many, g1, h5, ME.absent, bound_non, bound_int, hx2, -List.map_map, c0, c1', c2', hb, hb2, sizeLine_eq]
      exact ⟨_, _, _, _, ⟨⟨rfl, rfl, rfl⟩, rfl⟩, g2b.mono (by omega), t5⟩
    | true =>
      simp [b6_1, evSs, evS, ev, evA, evCs, evSrc, d1, h1, hc1, m1, d2, m2, h3, e3, hr, Src.many, g1, h5, ME.absent, bound_non, bound_int, hx2, -List.map_map, c0, c1', c2', hb, hb2, wj, kj, sizeLine_eq]
      exact ⟨_, _, _, _, ⟨⟨rfl, rfl, rfl⟩, rfl⟩, one24, t5⟩
  | true =>
    simp [b6_1, evSs, evS, ev, evA, evCs, evSrc, d1, h1, hc1, m1, d2, m2, h3, e3, hr, Src.many, g1, h5, ME.absent, bound_non, bound_int, hx2, -List.map_map, c0, c1', c2', hb, wj, kj, sizeLine_eq]
    exact ⟨_, _, _, _, ⟨⟨rfl, rfl, rfl⟩, rfl⟩, one24, t5⟩
/-- the names -/
theorem names_ok {k : Nat} {ns : List Int} {st : Store} {mn : Int} (m0 : 0 ≤ mn) (m1 : mn ≤ 50) (t : T ns st) : ∃ (xs : List Str) (st' : Store), evCall TURNS D (k + 2) 6 [.loc 1, .int mn] st = .ok (.fl (xs.map .str)) st' ∧ xs.length = mn.toNat ∧ (∀ x ∈ xs, B 60 x) ∧ T ns st' := by
  obtain ⟨r1, st1, h1, t1, l1, u1⟩ := drawT (k := k) (m := 4) t (by decide)
  obtain ⟨stem, hs, lsb⟩ := pickS (xs := [.str "", .str "", .str "sharedStem", .str "while_x"]) (i := r1) (P := B 10) l1 (by simpa using u1) (by
    intro x hx
    simp only [List.mem_cons, List.not_mem_nil, or_false] at hx
    rcases hx with rfl | rfl | rfl | rfl <;> exact ⟨_, rfl, .of (by decide +kernel)⟩)
  have ls := lsb.1
  have k1 := len_ok (x := stem) (st := st1) (by omega)
  obtain ⟨r2, st2, h2, t2, l2, u2⟩ := drawT (k := k) (m := (stem.length : Int) + 1) t1 (by omega)
  have hr : rngV (.int 0) (.int mn) st2 = .ok (.items ((List.range (mn - 0).toNat).map fun (k : Nat) => .int (0 + k))) st2 := if_pos (by omega)
  rw [show mn - 0 = mn by omega] at hr
  simp only [Int.zero_add] at hr
  obtain ⟨e, st3, q1, xs, a7, a8, a9, a10, q2, q3, q4, q5⟩ := forLoop_inv (put := MG.put (.nm 7)) (body := evSs (evCall TURNS D (k + 1)) TURNS b6_1) (xs := (List.range mn.toNat).map fun (k : Nat) => .int k)
    (fun j env st => ∃ (xs : List Str) (a7 a8 a9 a10 : Option PV), xs.length = j ∧ (∀ x ∈ xs, B 60 x) ∧ T ns st ∧ env = [some (.loc 1), some (.int mn), some (.str SG), some (.fl WL), some (.str stem), some (.int r2), some (.fl (xs.map .str)), a7, a8, a9, a10]) (fun j x env st hx ⟨xs, a7, a8, a9, a10, e1, e2, e3, e4⟩ => by
      subst e4
      have hj : j < mn.toNat := by
        have := (List.getElem?_eq_some_iff.mp hx).1
        simpa using this
      have hx : x = .int j := by
        rw [List.getElem?_map, List.getElem?_range hj] at hx
        simpa using hx.symm
      subst hx
      obtain ⟨y, x9, x10, st', g1, g2, g3⟩ := turnA (k := k) (xs := xs) (j := j) (mn := mn) (stem := stem) (place := r2) (a8 := a8) (a9 := a9) (a10 := a10) (by omega) (by omega) e3 lsb l2
      refine ⟨_, rfl, ?_⟩
      show SR.go (evSs (evCall TURNS D (k + 1)) TURNS b6_1 [some (.loc 1), some (.int mn), some (.str SG), some (.fl WL), some (.str stem), some (.int r2), some (.fl (xs.map .str)), some (.int j), a8, a9, a10] st) _
      rw [g1, go_nx]
      refine ⟨xs ++ [y], some (.int j), some (.str y), x9, x10, by simp [e1], fun z hz => ?_, g3, by simp⟩
      rcases List.mem_append.mp hz with hz | hz
      · exact e2 z hz
      · rw [List.mem_singleton.mp hz]; exact g2) mn.toNat 0 [some (.loc 1), some (.int mn), some (.str SG), some (.fl WL), some (.str stem), some (.int r2), some (.fl []), none, none, none, none] st2 (by simp) ⟨[], none, none, none, none, rfl, by simp, t2, rfl⟩
  unfold SG WL at q1 q5
  refine ⟨xs, st3, ?_, by simpa using q2, q3, q4⟩
  rw [show k + 2 = (k + 1) + 1 from rfl, evCall]
  simp [D, d6, evSs, evS, ev, evA, evCs, evSrc, h1, hs, k1, h2, hr, Src.many, q1, q5, sizeLine_eq, ME.held, t.len, leaveT q4, -List.map_map]

end
end K69

set_option maxHeartbeats 4000000
namespace K69
section

open PySem L2 U
/-! ### the state: the script, the tape, what stands behind them -/
def TR (ns : List Int) (R : Store) (st : Store) : Prop := ∃ p q z, 0 ≤ p ∧ 0 ≤ q ∧ 0 ≤ z ∧ st = .lst (ns.map .int) :: .lst (tp 0 p q z) :: R
variable {ns : List Int} {R : Store} {st : Store}
theorem TR.len (h : TR ns R st) : st.length = R.length + 2 := by
  obtain ⟨p, q, z, _, _, _, rfl⟩ := h
  rfl
theorem TR.of (h : T ns st) : TR ns [] st := by
  obtain ⟨p, q, z, h1, h2, h3, rfl⟩ := h
  exact ⟨p, q, z, h1, h2, h3, rfl⟩
theorem TR.push (h : TR ns R st) (c : Store) : TR ns (R ++ c) (st ++ c) := by
  obtain ⟨p, q, z, h1, h2, h3, rfl⟩ := h
  exact ⟨p, q, z, h1, h2, h3, rfl⟩
theorem TR.at (h : TR ns R st) (n : Nat) : st[n + 2]? = R[n]? := by
  obtain ⟨p, q, z, h1, h2, h3, rfl⟩ := h
  rfl
theorem TR.set (h : TR ns R st) (n : Nat) (xs : List PV) : TR ns (R.set n (.lst xs)) (setAt st (n + 2) xs) := by
  obtain ⟨p, q, z, h1, h2, h3, rfl⟩ := h
  exact ⟨p, q, z, h1, h2, h3, rfl⟩
theorem drawR {k : Nat} {m : Int} (h : TR ns R st) (hm : 1 ≤ m ∧ m < 1000000) : ∃ r st', evCall TURNS D (k + 1) 5 [.loc 1, .int m] st = .ok (.int r) st' ∧ TR ns R st' ∧ 0 ≤ r ∧ r < m := by
  obtain ⟨p, q, z, hp, hq, hz, rfl⟩ := h
  obtain ⟨r, p', q', z', h1, h2, h3, h4, h5, h6⟩ := draw_ok (k := k) (st := .lst (ns.map .int) :: .lst (tp 0 p q z) :: R) (t := 1) (c := 0) (ns := ns) rfl rfl hp hq hz hm.2
  exact ⟨r, _, h1, ⟨p', q', z', h4, h5, h6, rfl⟩, h2, by omega⟩
/-- a call's end where the store is as long as it was -/
theorem TR.leave (h : TR ns R st) {R' : Store} {st' : Store} (h' : TR ns R' st') (e : R'.length = R.length) (v : PV) : leave st.length v st' = .ok v st' := leave_same (by rw [h.len, h'.len]; omega)
mutual
/-- nothing in it is shared -/
def PV.pure : PV → Bool
  | .tup xs => PV.pureL xs
  | .fl _ => false
  | .rol _ => false
  | .loc _ => false
  | _ => true
def PV.pureL : List PV → Bool
  | [] => true
  | x :: xs => PV.pure x && PV.pureL xs
end
mutual
theorem PV.pure_low (n : Nat) : ∀ v : PV, PV.pure v = true → PV.low n v = true
  | .tup xs, h => PV.pureL_low n xs h
  | .non, _ => rfl
  | .bl _, _ => rfl
  | .int _, _ => rfl
  | .str _, _ => rfl
theorem PV.pureL_low (n : Nat) : ∀ v : List PV, PV.pureL v = true → PV.lowL n v = true
  | [], _ => rfl
  | x :: xs, h => by
    have h : (PV.pure x && PV.pureL xs) = true := h
    rw [Bool.and_eq_true] at h
    show (PV.low n x && PV.lowL n xs) = true
    rw [PV.pure_low n x h.1, PV.pureL_low n xs h.2]; rfl
end
theorem pure_nofl {v : PV} (h : PV.pure v = true) : v.isFl = false := by cases v <;> first | rfl | cases h
def Cell.pure : Cell → Bool
  | .lst xs => PV.pureL xs
theorem lowL_ints (n : Nat) : ∀ l : List Int, PV.lowL n (l.map .int) = true
  | [] => rfl
  | _ :: l => lowL_ints n l
/-- a call's end where the store has grown -/
theorem TR.drop (h : TR ns R st) {R' C : Store} {st' : Store} (h' : TR ns (R' ++ C) st') (e : R'.length = R.length) (hR : R'.all Cell.pure = true) {v : PV} (hv : PV.pure v = true) :
    ∃ st2, U.leave st.length v st' = .ok v st2 ∧ TR ns R' st2 := by
  have l1 := h.len
  have l2 := h'.len
  obtain ⟨p, q, z, h1, h2, h3, rfl⟩ := h'
  unfold U.leave
  split
  · rename_i hl
    have : C = [] := by
      cases C with
      | nil => rfl
      | cons c C => simp at hl; omega
    subst this
    exact ⟨_, rfl, p, q, z, h1, h2, h3, by simp⟩
  · have et : (Cell.lst (ns.map .int) :: Cell.lst (tp 0 p q z) :: (R' ++ C)).take st.length = Cell.lst (ns.map .int) :: Cell.lst (tp 0 p q z) :: R' := by
      rw [l1, ← e]
      simp
    rw [et]
    have c1 : PV.low st.length v = true := PV.pure_low _ _ hv
    have c2 : (Cell.lst (ns.map .int) :: Cell.lst (tp 0 p q z) :: R').all (Cell.low st.length) = true := by
      rw [List.all_cons, List.all_cons, Bool.and_eq_true, Bool.and_eq_true]
      refine ⟨lowL_ints _ _, ?_, ?_⟩
      · show (decide (0 < st.length) && true) = true
        simp; omega
      · rw [List.all_eq_true] at hR ⊢
        intro c hc
        have := hR c hc
        cases c with
        | lst xs => exact PV.pureL_low _ _ this
    rw [c1, c2]
    exact ⟨_, rfl, p, q, z, h1, h2, h3, rfl⟩
theorem choose_on {α β : Type} [Inhabited β] {xs : List α} {P : α → β → Prop} (h : ∀ x ∈ xs, ∃ y, P x y) : ∃ f : α → β, ∀ x ∈ xs, P x (f x) := by
  classical
  exact ⟨fun x => if hx : x ∈ xs then Classical.choose (h x hx) else default, fun x hx => by
    show P x (if hx : x ∈ xs then Classical.choose (h x hx) else default)
    rw [dif_pos hx]; exact Classical.choose_spec (h x hx)⟩
/-! ### sizes -/
mutual
/-- how many tuples that begin with a word are in it -/
def pz : PV → Nat
  | .tup xs => pzT xs
  | _ => 0
def pzT : List PV → Nat
  | [] => 0
  | x :: xs => (match x with | .str _ => 1 | _ => 0) + pz x + pzL xs
def pzL : List PV → Nat
  | [] => 0
  | x :: xs => pz x + pzL xs
end
@[simp] theorem pz_str (s : Str) : pz (.str s) = 0 := by simp [pz]
@[simp] theorem pz_bl (s : Bool) : pz (.bl s) = 0 := by simp [pz]
@[simp] theorem pz_int (s : Int) : pz (.int s) = 0 := by simp [pz]
@[simp] theorem pz_non : pz .non = 0 := by simp [pz]
@[simp] theorem pzL_nil : pzL [] = 0 := by simp [pzL]
@[simp] theorem pzL_cons (x : PV) (xs : List PV) : pzL (x :: xs) = pz x + pzL xs := by simp [pzL]
@[simp] theorem pz_node (s : Str) (xs : List PV) : pz (.tup (.str s :: xs)) = 1 + pzL xs := by simp [pz, pzT]
@[simp] theorem pzL_app : ∀ (xs ys : List PV), pzL (xs ++ ys) = pzL xs + pzL ys
  | [], ys => by simp
  | x :: xs, ys => by simp [pzL_app xs ys]; omega
/-- a tuple that doesn't begin with a text -/
def noStr : List PV → Prop
  | .str _ :: _ => False
  | _ => True
theorem pz_body {xs : List PV} (h : noStr xs) : pz (.tup xs) = pzL xs := by
  cases xs with
  | nil => simp [pz, pzT]
  | cons x xs => cases x <;> first | exact h.elim | simp [pz, pzT]
theorem noStr_of {xs : List PV} (h : ∀ x ∈ xs, ∃ ys, x = .tup ys) : noStr xs := by
  cases xs with
  | nil => trivial
  | cons x xs => obtain ⟨ys, rfl⟩ := h x List.mem_cons_self; trivial
theorem pzL_mem {x : PV} : ∀ {xs : List PV}, x ∈ xs → pz x ≤ pzL xs
  | y :: ys, h => by
    rcases List.mem_cons.mp h with rfl | h
    · simp
    · have := pzL_mem h
      simp; omega
/-! ### conditions -/
/-- the word that a tuple begins with -/
def hd : PV → Option Str
  | .tup (.str k :: _) => some k
  | _ => none
def WF (v : PV) : Prop := ∃ k x : Str, (k = "call" ∨ k = "flag") ∧ B 60 x ∧ v = .tup [.str k, .str x]
def WC : Nat → PV → Prop
  | 0, v => WF v
  | d + 1, v => WF v ∨ (∃ c, v = .tup [.str "not", c] ∧ WC d c) ∨ ∃ (k : Str) (cs : List PV), (k = "and" ∨ k = "or") ∧ v = .tup [.str k, .tup cs] ∧ (∀ c ∈ cs, WC d c ∧ hd c ≠ some k) ∧ cs ≠ []
theorem WC.leaf {v : PV} (d : Nat) (h : WF v) : WC d v := by
  cases d with
  | zero => exact h
  | succ d => exact .inl h
theorem WC.up {v : PV} : ∀ {d : Nat}, WC d v → WC (d + 1) v := by
  intro d
  induction d generalizing v with
  | zero => exact fun h => .inl h
  | succ d ih =>
    intro h
    rcases h with h | ⟨c, e, h⟩ | ⟨k, cs, hk, e, h, ne⟩
    · exact .inl h
    · exact .inr (.inl ⟨c, e, ih h⟩)
    · exact .inr (.inr ⟨k, cs, hk, e, fun c hc => ⟨ih (h c hc).1, (h c hc).2⟩, ne⟩)
theorem WC.mono {v : PV} {d e : Nat} (h : WC d v) (l : d ≤ e) : WC e v := by
  induction l with
  | refl => exact h
  | step _ ih => exact ih.up
theorem WC.tup {v : PV} {d : Nat} (h : WC d v) : ∃ (k : Str) (x : PV), v = .tup [.str k, x] ∧ (k = "call" ∨ k = "flag" ∨ k = "not" ∨ k = "and" ∨ k = "or") := by
  have l : WF v → ∃ (k : Str) (x : PV), v = .tup [.str k, x] ∧ (k = "call" ∨ k = "flag" ∨ k = "not" ∨ k = "and" ∨ k = "or") := fun ⟨k, x, hk, _, e⟩ => ⟨k, .str x, e, by rcases hk with h | h <;> simp [h]⟩
  cases d with
  | zero => exact l h
  | succ d =>
    rcases h with h | ⟨c, e, h⟩ | ⟨k, cs, hk, e, h, ne⟩
    · exact l h
    · exact ⟨_, _, e, by simp⟩
    · exact ⟨_, _, e, by rcases hk with h | h <;> simp [h]⟩
theorem WC.pos {v : PV} {d : Nat} (h : WC d v) : 1 ≤ pz v := by
  obtain ⟨k, x, rfl, _⟩ := h.tup
  simp
theorem pz_many {cs : List PV} (h : ∀ c ∈ cs, 1 ≤ pz c) : cs.length ≤ pzL cs := by
  induction cs with
  | nil => simp
  | cons c cs ih =>
    have := h c List.mem_cons_self
    have := ih fun x hx => h x (List.mem_cons_of_mem _ hx)
    simp; omega
theorem WC.pure {v : PV} {d : Nat} (h : WC d v) : PV.pure v = true := by
  have l : ∀ {v}, WF v → PV.pure v = true := fun ⟨k, x, hk, _, e⟩ => by subst e; rfl
  induction d generalizing v with
  | zero => exact l h
  | succ d ih =>
    rcases h with h | ⟨c, e, h⟩ | ⟨k, cs, hk, e, h, ne⟩
    · exact l h
    · subst e
      show (true && (PV.pure c && true)) = true
      rw [ih h]; rfl
    · subst e
      show (true && (PV.pureL cs && true)) = true
      have : ∀ cs : List PV, (∀ c ∈ cs, PV.pure c = true) → PV.pureL cs = true := fun cs => by
        induction cs with
        | nil => intro _; rfl
        | cons c cs ih2 =>
          intro q
          show (PV.pure c && PV.pureL cs) = true
          rw [q c List.mem_cons_self, ih2 fun x hx => q x (List.mem_cons_of_mem _ hx)]; rfl
      rw [this cs fun c hc => ih (h c hc).1]; rfl
theorem pureL_of : ∀ {cs : List PV}, (∀ c ∈ cs, PV.pure c = true) → PV.pureL cs = true
  | [], _ => rfl
  | c :: cs, q => by
    show (PV.pure c && PV.pureL cs) = true
    rw [q c List.mem_cons_self, pureL_of fun x hx => q x (List.mem_cons_of_mem _ hx)]; rfl

end
section

open PySem L2 U
variable {ns : List Int} {R : Store} {st : Store}
/-! ### the number of parts -/
theorem intsL_map {α : Type} (f : α → Int) : ∀ l : List α, intsL (l.map fun x => .int (f x)) = some (l.map f)
  | [] => rfl
  | x :: r => by
    show (intsL (r.map fun x => .int (f x))).map (f x :: ·) = _
    rw [intsL_map f r]; rfl
theorem sum_pz : ∀ cs : List PV, ((cs.map fun c => (pz c : Int)).sum) = (pzL cs : Int)
  | [] => rfl
  | c :: cs => by
    rw [List.map_cons, List.sum_cons, sum_pz cs, pzL_cons]; omega
theorem map_inj {α β : Type} {f : α → β} (hf : ∀ a b, f a = f b → a = b) : ∀ {xs ys : List α}, xs.map f = ys.map f → xs = ys
  | [], [], _ => rfl
  | [], _ :: _, h => by cases h
  | _ :: _, [], h => by cases h
  | x :: xs, y :: ys, h => by
    rw [List.map_cons, List.map_cons] at h
    injection h with h1 h2
    rw [hf _ _ h1, map_inj hf h2]
@[simp] theorem ofS (a b : String) : (Str.ofString a = Str.ofString b) ↔ a = b := by
  refine ⟨fun h => ?_, fun h => by rw [h]⟩
  have h := congrArg TL.tl h
  rw [TL.tl_ofString, TL.tl_ofString] at h
  exact String.toList_inj.mp (map_inj (fun a b e => Char.toNat_inj.mp e) h)
theorem esc_p {v : PV} (h : PV.pure v = true) (st : Store) : esc v st = (v, st) := by cases v <;> first | rfl | cases h
theorem varV_p {v : PV} (h : PV.pure v = true) (st : Store) : varV .val (some (some v)) st = .ok v st := by cases v <;> first | rfl | cases h
/-- a comprehension over items that leaves the store -/
theorem lc_each {call : Nat → List PV → Store → Res PV} {elt : ME} {i : Nat} {env : En} {xs : List PV} {st : Store} (f : PV → PV) (hz : xs.length < 16000000) (hi : i < env.length)
    (h : ∀ x ∈ xs, ∀ env' : En, env' = env.set i (some x) → env'[i]? = some (some x) → ev call elt .val env' st = .ok (f x) st ∧ (f x).isFl = false) :
    lcLoop (fun _ s => .ok true s) (ev call elt .val) (MG.put (.nm i)) env (.items xs) 0 xs.length [] st = .ok (.fl (xs.map f)) st := by
  rw [lcLoop_pure (put := MG.put (.nm i)) (elt := ev call elt .val) (test := fun _ s => .ok true s) (fun _ => true) f (by rw [sizeLine_eq]; omega) (fun x hx => ⟨env.set i (some x), rfl, rfl, fun _ => h x hx _ rfl (by simp [hi])⟩)]
  rw [List.filter_eq_self.mpr (fun _ _ => rfl)]
end
section

open PySem L2 U
theorem bin_add_fl {xs ys : List PV} {st : Store} (h : xs.length + ys.length ≤ 16000000) : binV .add (.fl xs) (.fl ys) st = some (.fl (xs ++ ys)) := if_pos (by rw [sizeLine_eq]; omega)

end
section

open PySem L2 U
variable {ns : List Int} {R : Store} {st : Store}
/-! ### generators -/
def NM (xs : List Str) : Prop := xs ≠ [] ∧ xs.length ≤ 50 ∧ ∀ x ∈ xs, B 60 x
theorem nameR {k : Nat} {xs : List Str} (h : TR ns R st) (hx : NM xs) : ∃ r st' x, evCall TURNS D (k + 1) 5 [.loc 1, .int xs.length] st = .ok (.int r) st' ∧ TR ns R st' ∧ atI (xs.map PV.str) r = some (.str x) ∧ B 60 x ∧ x ∈ xs := by
  obtain ⟨h1, h2, h3⟩ := hx
  have hl : 1 ≤ xs.length := by
    cases xs with
    | nil => exact absurd rfl h1
    | cons x xs => simp
  obtain ⟨r, st', q1, q2, q3, q4⟩ := drawR (k := k) (m := (xs.length : Int)) h (by omega)
  obtain ⟨y, hy, q5⟩ := pick (xs := xs.map PV.str) (i := r) q3 (by rw [List.length_map]; omega)
  obtain ⟨x, hx, rfl⟩ := List.mem_map.mp hy
  exact ⟨r, st', x, q1, q2, q5, h3 x hx, hx⟩
theorem bi_list_tup (xs : List PV) (st : Store) : biV .list [.tup xs] st = some (.fl xs) := rfl
theorem bi_tuple_fl (xs : List PV) (st : Store) : biV .tuple [.fl xs] st = some (.tup xs) := rfl
end
section

open PySem L2 U
variable {ns : List Int} {R : Store} {st : Store} {xs : List Str} {f w : Nat} {a b : Int}
theorem cutL_lo {α : Type} (A C : List PV) : cutL (A ++ C) none (some (A.length : Int)) = A := by
  unfold cutL
  rw [HT.sIx_nat, HT.sIx_none]
  have : min A.length (A ++ C).length = A.length := by simp
  rw [this]
  simp
theorem cutL_hi {α : Type} (A C : List PV) (i : Int) (h : i = (A.length : Int)) : cutL (A ++ C) (some i) none = C := by
  subst h
  unfold cutL
  rw [HT.sIx_nat, HT.sIx_none]
  have : min A.length (A ++ C).length = A.length := by simp
  rw [this, List.drop_left, List.take_of_length_le (by simp)]
theorem split2 {ps : List PV} {i : Int} (h0 : 0 ≤ i) (h1 : i < (ps.length : Int) - 1) : ∃ A p q C, ps = A ++ p :: q :: C ∧ (A.length : Int) = i := by
  refine ⟨ps.take i.toNat, ps[i.toNat]'(by omega), ps[i.toNat + 1]'(by omega), ps.drop (i.toNat + 2), ?_, ?_⟩
  · have e1 : ps.drop i.toNat = ps[i.toNat]'(by omega) :: ps.drop (i.toNat + 1) := List.drop_eq_getElem_cons (by omega)
    have e2 : ps.drop (i.toNat + 1) = ps[i.toNat + 1]'(by omega) :: ps.drop (i.toNat + 2) := List.drop_eq_getElem_cons (by omega)
    have e3 : ps = ps.take i.toNat ++ ps.drop i.toNat := (List.take_append_drop _ _).symm
    rw [e1, e2] at e3
    exact e3
  · rw [List.length_take]; omega
theorem rng_ok' {n : Int} (h0 : 0 ≤ n) (h1 : n < 100000) (st : Store) : rngV (.int 0) (.int n) st = .ok (.items ((List.range n.toNat).map fun (k : Nat) => .int k)) st := by
  have hr : rngV (.int 0) (.int n) st = .ok (.items ((List.range (n - 0).toNat).map fun (k : Nat) => .int (0 + k))) st := if_pos (by omega)
  rw [show n - 0 = n by omega] at hr
  simp only [Int.zero_add] at hr
  exact hr
end
section

open PySem L2 U
variable {ns : List Int} {R C : Store} {st : Store} {xs : List Str} {f w : Nat} {a b : Int}
mutual
theorem low_mono {n m : Nat} (h : n ≤ m) : ∀ v : PV, PV.low n v = true → PV.low m v = true
  | .tup xs, l => lowL_mono h xs l
  | .fl xs, l => lowL_mono h xs l
  | .rol xs, l => lowL_mono h xs l
  | .loc k, l => by
    have l : decide (k < n) = true := l
    show decide (k < m) = true
    rw [decide_eq_true_eq] at l ⊢; omega
  | .non, _ => rfl
  | .bl _, _ => rfl
  | .int _, _ => rfl
  | .str _, _ => rfl
theorem lowL_mono {n m : Nat} (h : n ≤ m) : ∀ v : List PV, PV.lowL n v = true → PV.lowL m v = true
  | [], _ => rfl
  | x :: xs, l => by
    have l : (PV.low n x && PV.lowL n xs) = true := l
    rw [Bool.and_eq_true] at l
    show (PV.low m x && PV.lowL m xs) = true
    rw [low_mono h x l.1, lowL_mono h xs l.2]; rfl
end
def Low (n : Nat) (C : Store) : Prop := ∀ c ∈ C, Cell.low n c = true
theorem Low.mono {n m : Nat} (h : n ≤ m) (l : Low n C) : Low m C := fun c hc => by
  have := l c hc
  cases c with
  | lst xs => exact lowL_mono h xs this
/-- a call's end where the store has grown -/
theorem TR.drop' (h : TR ns R st) {R' C : Store} {st' : Store} (h' : TR ns (R' ++ C) st') (e : R'.length = R.length) (hR : Low (R.length + 2) R') {v : PV} (hv : PV.pure v = true) :
    ∃ st2, U.leave st.length v st' = .ok v st2 ∧ TR ns R' st2 := by
  have l1 := h.len
  have l2 := h'.len
  obtain ⟨p, q, z, h1, h2, h3, rfl⟩ := h'
  unfold U.leave
  split
  · rename_i hl
    have : C = [] := by
      cases C with
      | nil => rfl
      | cons c C => simp at hl; omega
    subst this
    exact ⟨_, rfl, p, q, z, h1, h2, h3, by simp⟩
  · have et : (Cell.lst (ns.map .int) :: Cell.lst (tp 0 p q z) :: (R' ++ C)).take st.length = Cell.lst (ns.map .int) :: Cell.lst (tp 0 p q z) :: R' := by
      rw [l1, ← e]
      simp
    rw [et]
    have c1 : PV.low st.length v = true := PV.pure_low _ _ hv
    have c2 : (Cell.lst (ns.map .int) :: Cell.lst (tp 0 p q z) :: R').all (Cell.low st.length) = true := by
      rw [List.all_cons, List.all_cons, Bool.and_eq_true, Bool.and_eq_true]
      refine ⟨lowL_ints _ _, ?_, ?_⟩
      · show (decide (0 < st.length) && true) = true
        simp; omega
      · rw [List.all_eq_true, l1]
        exact hR
    rw [c1, c2]
    exact ⟨_, rfl, p, q, z, h1, h2, h3, rfl⟩
/-- the names and the room -/
abbrev R1 (xs : List Str) : Store := [.lst (xs.map .str)]
end
end K69

set_option maxHeartbeats 4000000
namespace K69
open PySem L2 U
/-! ### conditions that negate only calls, and their order -/
inductive CB where
  | call (x : Str)
  | no (x : Str)
  | ch (k : Bool) (l r : CB)
deriving Inhabited
/-- the word of a chain -/
def wd (k : Bool) : Str := if k = true then "and" else "or"
namespace CB
/-- the parts of a chain of kind k; one that is no such chain is its own only part -/
def ps : CB → Bool → List CB
  | .ch k l r, k' => if k' = k then l :: r.ps k' else [.ch k l r]
  | c, _ => [c]
/-- as a value, and as the items of a chain -/
def tr : CB → PV × (Bool → List PV)
  | .call x => (.tup [.str "call", .str x], fun _ => [.tup [.str "call", .str x]])
  | .no x => (.tup [.str "not", .tup [.str "call", .str x]], fun _ => [.tup [.str "not", .tup [.str "call", .str x]]])
  | .ch k l r => (.tup [.str (wd k), .tup ((tr l).1 :: (tr r).2 k)], fun k' => if k' = k then (tr l).1 :: (tr r).2 k' else [.tup [.str (wd k), .tup ((tr l).1 :: (tr r).2 k)]])
def pv (c : CB) : PV := (tr c).1
def lk (c : CB) (k : Bool) : List PV := (tr c).2 k
theorem pv_ch (k : Bool) (l r : CB) : pv (.ch k l r) = .tup [.str (wd k), .tup (pv l :: lk r k)] := rfl
theorem lk_ch (k : Bool) (l r : CB) : lk (.ch k l r) k = pv l :: lk r k := by
  show (if k = k then _ else _) = _
  rw [if_pos rfl]; rfl
theorem lk_other {k k' : Bool} (h : ¬ k' = k) (l r : CB) : lk (.ch k l r) k' = [pv (.ch k l r)] := by
  show (if k' = k then _ else _) = _
  rw [if_neg h]; rfl
theorem lk_ps : ∀ (c : CB) (k : Bool), lk c k = (c.ps k).map pv
  | .call _, _ => rfl
  | .no _, _ => rfl
  | .ch k' l r, k => by
    by_cases h : k = k'
    · subst h
      rw [lk_ch, ps, if_pos rfl, List.map_cons, lk_ps r k]
    · rw [lk_other h, ps, if_neg h]; rfl
theorem ps_ne : ∀ (c : CB) (k : Bool), c.ps k ≠ []
  | .call _, _ => by simp [ps]
  | .no _, _ => by simp [ps]
  | .ch k' l r, k => by
    rw [ps]
    split <;> simp
/-- how many calls -/
def lc : CB → Nat
  | .ch _ l r => lc l + lc r
  | _ => 1
theorem lc_pos : ∀ c : CB, 1 ≤ lc c
  | .call _ => Nat.le_refl _
  | .no _ => Nat.le_refl _
  | .ch _ l r => by
    have := lc_pos l
    show 1 ≤ lc l + lc r
    omega
/-- all names are short -/
def nb : CB → Prop
  | .call x => B 60 x
  | .no x => B 60 x
  | .ch _ l r => nb l ∧ nb r
def kn (k : Bool) : Int := if k = true then 2 else 3
def key : CB → PV
  | .call x => .tup [.int 1, .int 0, .str x]
  | .no x => .tup [.int 1, .int 1, .str x]
  | .ch k l r => .tup [.int ((lc l : Int) + (lc r : Int)), .int (kn k), key l, key r]
def kd : CB → PyData
  | .call x => .tuple [.int 1, .int 0, .str x]
  | .no x => .tuple [.int 1, .int 1, .str x]
  | .ch k l r => .tuple [.int ((lc l : Int) + (lc r : Int)), .int (kn k), kd l, kd r]
theorem py_key : ∀ c : CB, pyOf (key c) = some (kd c)
  | .call _ => rfl
  | .no _ => rfl
  | .ch k l r => by
    show (pyOfL [.int _, .int _, key l, key r]).map PyData.tuple = _
    have : pyOfL [.int ((lc l : Int) + (lc r : Int)), .int (kn k), key l, key r] = some [.int ((lc l : Int) + (lc r : Int)), .int (kn k), kd l, kd r] := by
      simp only [pyOfL, pyOf, py_key l, py_key r]
    rw [this]; rfl
theorem str_ok {x : Str} (h : B 60 x) : PyData.canLay0 (.str x) = true := by
  show (x.cps.all fun c => decide (c < 0x110000)) = true
  rw [← Array.all_toList, List.all_eq_true]
  intro c hc
  rw [decide_eq_true_eq]
  have := h.2 c hc
  omega
theorem kd_lay : ∀ c : CB, nb c → (kd c).canLay0 = true ∧ (kd c).depth ≤ lc c
  | .call x, h => by
    have := str_ok h
    refine ⟨?_, Nat.le_of_ble_eq_true rfl⟩
    show (true && (true && (PyData.canLay0 (.str x) && true))) = true
    rw [this]; rfl
  | .no x, h => by
    have := str_ok h
    refine ⟨?_, Nat.le_of_ble_eq_true rfl⟩
    show (true && (true && (PyData.canLay0 (.str x) && true))) = true
    rw [this]; rfl
  | .ch k l r, h => by
    obtain ⟨h1, h2⟩ := h
    obtain ⟨a1, a2⟩ := kd_lay l h1
    obtain ⟨b1, b2⟩ := kd_lay r h2
    have p1 := lc_pos l
    have p2 := lc_pos r
    refine ⟨?_, ?_⟩
    · show (true && (true && (PyData.canLay0 (kd l) && (PyData.canLay0 (kd r) && true)))) = true
      rw [a1, b1]; rfl
    · show max 0 (max 0 (max (kd l).depth (max (kd r).depth 0))) + 1 ≤ lc l + lc r
      omega
theorem kd_sh {c : CB} (h : nb c) (hl : lc c ≤ 64) : SeqAt.shaped (kd c) = true := by
  obtain ⟨h1, h2⟩ := kd_lay c h
  show ((kd c).canLay0 && decide ((kd c).depth ≤ 64)) = true
  rw [h1, decide_eq_true (by omega)]; rfl
/-! equal keys are keys of equal conditions -/
theorem eqv_key : ∀ a b : CB, PyData.eqv (kd a) (kd b) = true → a = b
  | .call x, .call y, h => by
    have h : (x == y && true) = true := h
    rw [Bool.and_true] at h
    rw [eq_of_beq h]
  | .no x, .no y, h => by
    have h : (x == y && true) = true := h
    rw [Bool.and_true] at h
    rw [eq_of_beq h]
  | .call x, .no y, h => by cases h
  | .no x, .call y, h => by cases h
  | .call x, .ch k l r, h => by
    have h : (((1 : Int) == _) && (((0 : Int) == kn k) && _)) = true := h
    rw [Bool.and_eq_true, Bool.and_eq_true] at h
    exfalso
    have := eq_of_beq h.2.1
    unfold kn at this
    split at this <;> omega
  | .no x, .ch k l r, h => by
    have h : (((1 : Int) == _) && (((1 : Int) == kn k) && _)) = true := h
    rw [Bool.and_eq_true, Bool.and_eq_true] at h
    exfalso
    have := eq_of_beq h.2.1
    unfold kn at this
    split at this <;> omega
  | .ch k l r, .call x, h => by
    have h : ((_ == (1 : Int)) && ((kn k == (0 : Int)) && _)) = true := h
    rw [Bool.and_eq_true, Bool.and_eq_true] at h
    exfalso
    have := eq_of_beq h.2.1
    unfold kn at this
    split at this <;> omega
  | .ch k l r, .no x, h => by
    have h : ((_ == (1 : Int)) && ((kn k == (1 : Int)) && _)) = true := h
    rw [Bool.and_eq_true, Bool.and_eq_true] at h
    exfalso
    have := eq_of_beq h.2.1
    unfold kn at this
    split at this <;> omega
  | .ch k l r, .ch k' l' r', h => by
    have h : ((((lc l : Int) + lc r) == ((lc l' : Int) + lc r')) && ((kn k == kn k') && (PyData.eqv (kd l) (kd l') && (PyData.eqv (kd r) (kd r') && true)))) = true := h
    simp only [Bool.and_eq_true, Bool.and_true] at h
    obtain ⟨_, h2, h3, h4⟩ := h
    have e1 := eqv_key l l' h3
    have e2 := eqv_key r r' h4
    have e3 : k = k' := by
      have := eq_of_beq h2
      cases k <;> cases k' <;> first | rfl | (exfalso; revert this; decide)
    rw [e1, e2, e3]
/-! texts -/
theorem cps_lt : ∀ (x y : List Nat), ¬ x < y → ¬ y < x → x = y := fun x y h1 h2 => by
  rw [List.not_lt] at h1 h2
  exact List.le_antisymm h2 h1
theorem str_tri {x y : Str} (h1 : decide (x.cps.toList < y.cps.toList) = false) (h2 : decide (y.cps.toList < x.cps.toList) = false) : x = y := by
  have := cps_lt _ _ (of_decide_eq_false h1) (of_decide_eq_false h2)
  exact W.str_of_cps this
/-- the order of the keys: always defined, and one of two that differ comes first -/
theorem lt_key : ∀ a b : CB, ∃ u v : Bool, dLt (kd a) (kd b) = some u ∧ dLt (kd b) (kd a) = some v ∧ (u = false → v = false → a = b) ∧ (a = b → u = false) := by
  have two : ∀ {i j i' j' : Int} {p q p' q' : List PyData}, ¬ (i = i' ∧ j = j') → ∃ u v : Bool, dLt (.tuple (.int i :: .int j :: p)) (.tuple (.int i' :: .int j' :: q)) = some u ∧ dLt (.tuple (.int i' :: .int j' :: q)) (.tuple (.int i :: .int j :: p)) = some v ∧ ¬ (u = false ∧ v = false) := fun {i j i' j' p q p' q'} h => by
    by_cases hi : i = i'
    · subst hi
      have hj : ¬ j = j' := fun e => h ⟨rfl, e⟩
      refine ⟨decide (j < j'), decide (j' < j), ?_, ?_, fun ⟨e1, e2⟩ => ?_⟩
      · simp [dLt, dLts, PyData.eqv, hj]
      · simp [dLt, dLts, PyData.eqv, Ne.symm hj]
      · rw [decide_eq_false_iff_not] at e1 e2; omega
    · refine ⟨decide (i < i'), decide (i' < i), ?_, ?_, fun ⟨e1, e2⟩ => ?_⟩
      · simp [dLt, dLts, PyData.eqv, hi]
      · simp [dLt, dLts, PyData.eqv, Ne.symm hi]
      · rw [decide_eq_false_iff_not] at e1 e2; omega
  have diff : ∀ {a b : CB} {i j i' j' : Int} {p q : List PyData}, kd a = .tuple (.int i :: .int j :: p) → kd b = .tuple (.int i' :: .int j' :: q) → ¬ j = j' → ¬ a = b → ∃ u v : Bool, dLt (kd a) (kd b) = some u ∧ dLt (kd b) (kd a) = some v ∧ (u = false → v = false → a = b) ∧ (a = b → u = false) := fun {a b i j i' j' p q} ea eb hj hab => by
    obtain ⟨u, v, h1, h2, h3⟩ := two (p := p) (q := q) (p' := p) (q' := q) (i := i) (j := j) (i' := i') (j' := j') fun ⟨_, e⟩ => hj e
    rw [ea, eb]
    exact ⟨u, v, h1, h2, fun e1 e2 => absurd ⟨e1, e2⟩ h3, fun e => absurd e hab⟩
  have leaf : ∀ {i j : Int} {x y : Str}, ∃ u v : Bool, dLt (.tuple [.int i, .int j, .str x]) (.tuple [.int i, .int j, .str y]) = some u ∧ dLt (.tuple [.int i, .int j, .str y]) (.tuple [.int i, .int j, .str x]) = some v ∧ (u = false → v = false → x = y) ∧ (x = y → u = false) := fun {i j x y} => by
    by_cases h : x = y
    · subst h
      exact ⟨false, false, by simp [dLt, dLts, PyData.eqv], by simp [dLt, dLts, PyData.eqv], fun _ _ => rfl, fun _ => rfl⟩
    · have h1 : (x == y) = false := beq_eq_false_iff_ne.mpr h
      have h2 : (y == x) = false := beq_eq_false_iff_ne.mpr (Ne.symm h)
      exact ⟨_, _, by simp [dLt, dLts, PyData.eqv, h1], by simp [dLt, dLts, PyData.eqv, h2], fun e1 e2 => str_tri e1 e2, fun e => absurd e h⟩
  have kn3 : ∀ k, kn k = 2 ∨ kn k = 3 := fun k => by cases k <;> simp [kn]
  intro a
  induction a with
  | call x =>
    intro b
    cases b with
    | call y =>
      obtain ⟨u, v, h1, h2, h3, h4⟩ := leaf (i := 1) (j := 0) (x := x) (y := y)
      exact ⟨u, v, h1, h2, fun e1 e2 => by rw [h3 e1 e2], fun e => h4 (by cases e; rfl)⟩
    | no y => exact diff rfl rfl (by decide) (fun e => nomatch e)
    | ch k l r => exact diff rfl rfl (by rcases kn3 k with h | h <;> omega) (fun e => nomatch e)
  | no x =>
    intro b
    cases b with
    | no y =>
      obtain ⟨u, v, h1, h2, h3, h4⟩ := leaf (i := 1) (j := 1) (x := x) (y := y)
      exact ⟨u, v, h1, h2, fun e1 e2 => by rw [h3 e1 e2], fun e => h4 (by cases e; rfl)⟩
    | call y => exact diff rfl rfl (by decide) (fun e => nomatch e)
    | ch k l r => exact diff rfl rfl (by rcases kn3 k with h | h <;> omega) (fun e => nomatch e)
  | ch k l r ihl ihr =>
    intro b
    cases b with
    | call y => exact diff rfl rfl (by rcases kn3 k with h | h <;> omega) (fun e => nomatch e)
    | no y => exact diff rfl rfl (by rcases kn3 k with h | h <;> omega) (fun e => nomatch e)
    | ch k' l' r' =>
      by_cases hk : k = k'
      · subst hk
        by_cases hs : (lc l : Int) + lc r = (lc l' : Int) + lc r'
        · obtain ⟨ul, vl, a1, a2, a3, a4⟩ := ihl l'
          obtain ⟨ur, vr, b1, b2, b3, b4⟩ := ihr r'
          by_cases el : PyData.eqv (kd l) (kd l') = true
          · have e1 := eqv_key l l' el
            subst e1
            by_cases er : PyData.eqv (kd r) (kd r') = true
            · have e2 := eqv_key r r' er
              subst e2
              exact ⟨false, false, by simp [kd, dLt, dLts, PyData.eqv, el, er], by simp [kd, dLt, dLts, PyData.eqv, el, er], fun _ _ => rfl, fun _ => rfl⟩
            · have er' : ¬ PyData.eqv (kd r') (kd r) = true := fun e => er (by have := eqv_key r' r e; subst this; exact e)
              refine ⟨ur, vr, by simp [kd, dLt, dLts, PyData.eqv, el, er, hs, b1], by simp [kd, dLt, dLts, PyData.eqv, el, er', hs, b2], fun e1 e2 => by rw [b3 e1 e2], fun e => b4 (by cases e; rfl)⟩
          · have el' : ¬ PyData.eqv (kd l') (kd l) = true := fun e => el (by have := eqv_key l' l e; subst this; exact e)
            refine ⟨ul, vl, by simp [kd, dLt, dLts, PyData.eqv, el, hs, a1], by simp [kd, dLt, dLts, PyData.eqv, el', hs, a2], fun e1 e2 => ?_, fun e => a4 (by cases e; rfl)⟩
            exfalso
            have := a3 e1 e2
            subst this
            exact el (by
              have hc : ∀ c : CB, PyData.eqv (kd c) (kd c) = true := fun c => by
                induction c with
                | call x => simp [kd, PyData.eqv, PyData.eqvAll]
                | no x => simp [kd, PyData.eqv, PyData.eqvAll]
                | ch k l r i1 i2 => simp [kd, PyData.eqv, PyData.eqvAll, i1, i2]
              exact hc l)
        · obtain ⟨u, v, h1, h2, h3⟩ := two (p := [kd l, kd r]) (q := [kd l', kd r']) (p' := []) (q' := []) (i := (lc l : Int) + lc r) (j := kn k) (i' := (lc l' : Int) + lc r') (j' := kn k) fun ⟨e, _⟩ => hs e
          exact ⟨u, v, h1, h2, fun e1 e2 => absurd ⟨e1, e2⟩ h3, fun e => by cases e; exact absurd rfl hs⟩
      · exact diff rfl rfl (fun e => hk (by cases k <;> cases k' <;> first | rfl | (exfalso; revert e; decide))) (fun e => hk (by cases e; rfl))
end CB
end K69

set_option maxHeartbeats 4000000
namespace K69
open PySem L2 U
theorem atI_last {α : Type} (A : List α) (z : α) : atI (A ++ [z]) (-1) = some z := by
  have : ixN (A ++ [z]).length (-1) = some A.length := by
    unfold ixN
    rw [if_neg (by omega), if_pos (by rw [List.length_append, List.length_singleton]; omega), List.length_append, List.length_singleton]
    congr 1
    omega
  unfold atI
  rw [this]
  simp
theorem cutL_init (A : List PV) (z : PV) : cutL (A ++ [z]) none (some (-1)) = A := by
  have e1 : HT.sIx (A ++ [z]).length 0 none = 0 := rfl
  have e2 : HT.sIx (A ++ [z]).length (A ++ [z]).length (some (-1)) = A.length := by
    unfold HT.sIx
    simp
    omega
  unfold cutL
  rw [e1, e2]
  simp
theorem cutL_tail (h : PV) (t : List PV) : cutL (h :: t) (some 1) none = t := cutL_hi (α := PV) [h] t 1 rfl
/-- a comprehension over values of a type of one's own -/
theorem lc_own {α : Type} {call : Nat → List PV → Store → Res PV} {elt : ME} {i : Nat} {env : En} {st : Store} (g h : α → PV) (qs : List α) (hz : qs.length < 16000000) (hi : i < env.length)
    (H : ∀ q ∈ qs, ∀ env' : En, env' = env.set i (some (g q)) → env'[i]? = some (some (g q)) → ev call elt .val env' st = .ok (h q) st ∧ (h q).isFl = false) :
    lcLoop (fun _ s => .ok true s) (ev call elt .val) (MG.put (.nm i)) env (.items (qs.map g)) 0 qs.length [] st = .ok (.fl (qs.map h)) st := by
  obtain ⟨f, hf⟩ := choose_on (P := fun (v y : PV) => ev call elt .val (env.set i (some v)) st = .ok y st ∧ y.isFl = false) (xs := qs.map g) fun v hv => by
    obtain ⟨q, hq, rfl⟩ := List.mem_map.mp hv
    exact ⟨h q, H q hq _ rfl (by simp [hi])⟩
  have lc := lc_each (call := call) (elt := elt) (i := i) (env := env) (xs := qs.map g) (st := st) f (by rw [List.length_map]; exact hz) hi fun v hv env' e _ => by subst e; exact hf v hv
  rw [List.length_map] at lc
  rw [lc]
  congr 2
  rw [List.map_map]
  apply List.map_congr_left
  intro q hq
  have h1 := (hf (g q) (List.mem_map_of_mem hq)).1
  have h2 := (H q hq _ rfl (by simp [hi])).1
  rw [h1] at h2
  exact (Res.ok.inj h2).1
/-! ### chains -/
/-- L are the items of v in a chain of kind k -/
def Sd (k : Bool) (v : PV) (L : List PV) : Prop := PV.pure v = true ∧ L.length ≤ 100000 ∧ (v = .tup [.str (wd k), .tup L] ∨ (L = [v] ∧ ∃ (w : Str) (x : PV), v = .tup [.str w, x] ∧ ¬ w = wd k))
theorem Sd.pureL {k : Bool} {v : PV} {L : List PV} (h : Sd k v L) : PV.pureL L = true := by
  obtain ⟨h1, _, rfl | ⟨rfl, _⟩⟩ := h
  · have h1 : (true && (PV.pureL L && true)) = true := h1
    rw [Bool.true_and, Bool.and_true] at h1
    exact h1
  · show (PV.pure v && true) = true
    rw [h1]; rfl
theorem joined_gen {k0 : Bool} {l r : PV} {P Q : List PV} (hl : Sd k0 l P) (hr : Sd k0 r Q) (k : Nat) (st : Store) : evCall TURNS D (k + 1) 20 [.str (wd k0), l, r] st = .ok (.tup [.str (wd k0), .tup (P ++ Q)]) st := by
  obtain ⟨pl, zl, p4⟩ := hl
  obtain ⟨pr, zr, q4⟩ := hr
  generalize wd k0 = w at *
  have el := fun st => esc_p pl st
  have er := fun st => esc_p pr st
  have vl := fun st => varV_p pl st
  have vr := fun st => varV_p pr st
  have z0 : P.length < 16777216 ∧ Q.length < 16777216 ∧ P.length + Q.length ≤ 16777216 ∧ P.length + Q.length < 16777216 := by omega
  obtain ⟨z1, z2, z3, z4⟩ := z0
  rw [evCall]
  rcases p4 with rfl | ⟨rfl, w1, x, rfl, n1⟩ <;> rcases q4 with rfl | ⟨rfl, w2, y, rfl, n2⟩
  · have c1 := fun st => bin_add_fl (xs := []) (ys := P) (st := st) (by simp; omega)
    have c2 := fun st => bin_add_fl (xs := P) (ys := Q) (st := st) (by omega)
    simp only [List.nil_append] at c1
    simp [D, d20, b20_0, evSs, evS, ev, evA, evCs, evSrc, ME.held, leave_id, srcV, Src.many, forLoop, Src.get, MG.put, sizeLine_eq, bi_list_tup, bi_tuple_fl, c1, c2, el, er, vl, vr, Src.fits]
  · have c1 := fun st => bin_add_fl (xs := []) (ys := P) (st := st) (by simp; omega)
    simp only [List.nil_append] at c1
    simp [D, d20, b20_0, evSs, evS, ev, evA, evCs, evSrc, ME.held, leave_id, srcV, Src.many, forLoop, Src.get, MG.put, sizeLine_eq, bi_list_tup, bi_tuple_fl, c1, el, er, vl, vr, Src.fits, n2, z1]
  · have c1 := fun st => bin_add_fl (xs := [PV.tup [.str w1, x]]) (ys := Q) (st := st) (by simp; omega)
    simp only [List.cons_append, List.nil_append] at c1
    simp [D, d20, b20_0, evSs, evS, ev, evA, evCs, evSrc, ME.held, leave_id, srcV, Src.many, forLoop, Src.get, MG.put, sizeLine_eq, bi_list_tup, bi_tuple_fl, c1, el, er, vl, vr, Src.fits, n1]
  · simp [D, d20, b20_0, evSs, evS, ev, evA, evCs, evSrc, ME.held, leave_id, srcV, Src.many, forLoop, Src.get, MG.put, sizeLine_eq, bi_list_tup, bi_tuple_fl, el, er, vl, vr, Src.fits, n1, n2]
/-! ### what is told of a condition as a value -/
theorem wd_and (k : Bool) : wd k = "and" ∨ wd k = "or" := by cases k <;> simp [wd]
theorem wd_inj {k k' : Bool} (h : ¬ k' = k) : ¬ wd k = wd k' := by
  cases k <;> cases k' <;> simp [wd] at h ⊢
namespace CB
theorem len_lk : ∀ (c : CB) (k : Bool), (lk c k).length ≤ lc c
  | .call _, _ => Nat.le_refl _
  | .no _, _ => Nat.le_refl _
  | .ch k' l r, k => by
    by_cases h : k = k'
    · subst h
      rw [lk_ch]
      have := len_lk r k
      have := lc_pos l
      show _ + 1 ≤ lc l + lc r
      omega
    · rw [lk_other h]
      exact lc_pos (.ch k' l r)
theorem pure_pv : ∀ c : CB, PV.pure (pv c) = true ∧ ∀ k, PV.pureL (lk c k) = true
  | .call x => ⟨rfl, fun _ => rfl⟩
  | .no x => ⟨rfl, fun _ => rfl⟩
  | .ch k l r => by
    have p : PV.pure (pv (.ch k l r)) = true := by
      rw [pv_ch]
      show (true && ((PV.pure (pv l) && PV.pureL (lk r k)) && true)) = true
      rw [(pure_pv l).1, (pure_pv r).2 k]; rfl
    refine ⟨p, fun k' => ?_⟩
    by_cases h : k' = k
    · subst h
      rw [lk_ch]
      show (PV.pure (pv l) && PV.pureL (lk r k')) = true
      rw [(pure_pv l).1, (pure_pv r).2 k']; rfl
    · rw [lk_other h]
      show (PV.pure _ && true) = true
      rw [p]; rfl
theorem sd {c : CB} (hz : lc c ≤ 100000) (k : Bool) : Sd k (pv c) (lk c k) := by
  refine ⟨(pure_pv c).1, Nat.le_trans (len_lk c k) hz, ?_⟩
  cases c with
  | call x => exact .inr ⟨rfl, _, _, rfl, by cases k <;> simp [wd]⟩
  | no x => exact .inr ⟨rfl, _, _, rfl, by cases k <;> simp [wd]⟩
  | ch k' l r =>
    by_cases h : k = k'
    · subst h
      rw [lk_ch]
      exact .inl (pv_ch _ _ _)
    · rw [lk_other h]
      exact .inr ⟨rfl, _, _, pv_ch _ _ _, wd_inj h⟩
/-- one chain behind the other -/
def cat (k : Bool) : CB → CB → CB
  | .ch k' l r, b => if k' = k then .ch k l (cat k r b) else .ch k (.ch k' l r) b
  | a, b => .ch k a b
theorem cat_ok (k : Bool) : ∀ a b : CB, lk (cat k a b) k = lk a k ++ lk b k ∧ pv (cat k a b) = .tup [.str (wd k), .tup (lk a k ++ lk b k)] ∧ lc (cat k a b) = lc a + lc b ∧ (nb a → nb b → nb (cat k a b))
  | .call x, b => ⟨lk_ch _ _ _, pv_ch _ _ _, rfl, fun h1 h2 => ⟨h1, h2⟩⟩
  | .no x, b => ⟨lk_ch _ _ _, pv_ch _ _ _, rfl, fun h1 h2 => ⟨h1, h2⟩⟩
  | .ch k' l r, b => by
    obtain ⟨i1, i2, i3, i4⟩ := cat_ok k r b
    rw [cat]
    by_cases h : k' = k
    · subst h
      rw [if_pos rfl, lk_ch, lk_ch, i1, pv_ch, i1]
      exact ⟨rfl, rfl, by show lc l + _ = lc l + lc r + lc b; rw [i3]; omega, fun h1 h2 => ⟨h1.1, i4 h1.2 h2⟩⟩
    · rw [if_neg h, lk_ch, pv_ch, lk_other (fun e => h e.symm)]
      exact ⟨rfl, rfl, rfl, fun h1 h2 => ⟨h1, h2⟩⟩
theorem joined {k0 : Bool} {a b : CB} (ha : lc a ≤ 100000) (hb : lc b ≤ 100000) (k : Nat) (st : Store) : evCall TURNS D (k + 1) 20 [.str (wd k0), pv a, pv b] st = .ok (pv (cat k0 a b)) st := by
  rw [(cat_ok k0 a b).2.1]
  exact joined_gen (sd ha k0) (sd hb k0) k st
/-! ### keys -/
theorem key_head (c : CB) : ∃ t, key c = .tup (.int (lc c : Nat) :: t) := by
  cases c with
  | call x => exact ⟨_, rfl⟩
  | no x => exact ⟨_, rfl⟩
  | ch k l r => exact ⟨_, by rw [key]; rfl⟩
theorem pure_key : ∀ c : CB, PV.pure (key c) = true
  | .call x => rfl
  | .no x => rfl
  | .ch k l r => by
    show (true && (true && (PV.pure (key l) && (PV.pure (key r) && true)))) = true
    rw [pure_key l, pure_key r]; rfl
theorem ps_lc : ∀ (c : CB) (k : Bool), ∀ p ∈ c.ps k, lc p ≤ lc c
  | .call _, _, p, h => by rw [List.mem_singleton.mp h]; exact Nat.le_refl _
  | .no _, _, p, h => by rw [List.mem_singleton.mp h]; exact Nat.le_refl _
  | .ch k' l r, k, p, h => by
    rw [ps] at h
    show lc p ≤ lc l + lc r
    split at h
    · rcases List.mem_cons.mp h with rfl | h
      · omega
      · have := ps_lc r k p h; omega
    · rw [List.mem_singleton.mp h]; exact Nat.le_refl _
theorem rebuild (k : Bool) : ∀ (c : CB) (A : List CB) (z : CB), c.ps k = A ++ [z] → A.foldr (CB.ch k) z = c
  | .call x, A, z, h => by
    cases A with
    | nil => simp [ps] at h; rw [h]; rfl
    | cons a A => simp [ps] at h
  | .no x, A, z, h => by
    cases A with
    | nil => simp [ps] at h; rw [h]; rfl
    | cons a A => simp [ps] at h
  | .ch k' l r, A, z, h => by
    rw [ps] at h
    split at h
    · rename_i e
      subst e
      cases A with
      | nil =>
        have h : l :: r.ps k = [z] := h
        exact absurd (List.cons.inj h).2 (ps_ne r k)
      | cons a A =>
        obtain ⟨h1, h2⟩ := List.cons.inj h
        subst h1
        rw [List.foldr_cons, rebuild k r A z h2]
    · cases A with
      | nil => simp at h; rw [h]; rfl
      | cons a A => simp at h
theorem kinds (k : Bool) : idxV ["call", "not", "and", "or"] (.str (wd k)) = some (.int (kn k)) := by cases k <;> rfl
theorem kinds_st (k : Bool) : wd k ≠ "call" ∧ wd k ≠ "not" := by cases k <;> simp [wd]
/-- the program's key -/
theorem key_prog : ∀ c : CB, lc c ≤ 1000 → (∀ k st, evCall TURNS D (k + lc c) 158 [pv c] st = .ok (key c) st) ∧ ∀ kk, ∀ p ∈ c.ps kk, ∀ k st, evCall TURNS D (k + lc c) 158 [pv p] st = .ok (key p) st := by
  intro c
  induction c with
  | call x =>
    intro hz
    have h : ∀ k st, evCall TURNS D (k + lc (.call x)) 158 [pv (.call x)] st = .ok (key (.call x)) st := fun k st => by
      show evCall TURNS D (k + 1) 158 [.tup [.str "call", .str x]] st = _
      rw [evCall]
      simp [D, d158, evSs, evS, ev, evA, evCs, ME.held, leave_id, setEach, sizeLine_eq, key]
    exact ⟨h, fun kk p hp => by rw [List.mem_singleton.mp hp]; exact h⟩
  | no x =>
    intro hz
    have h : ∀ k st, evCall TURNS D (k + lc (.no x)) 158 [pv (.no x)] st = .ok (key (.no x)) st := fun k st => by
      show evCall TURNS D (k + 1) 158 [.tup [.str "not", .tup [.str "call", .str x]]] st = _
      rw [evCall]
      simp [D, d158, evSs, evS, ev, evA, evCs, ME.held, leave_id, setEach, sizeLine_eq, key]
    exact ⟨h, fun kk p hp => by rw [List.mem_singleton.mp hp]; exact h⟩
  | ch k0 l r ihl ihr =>
    intro hz
    have p1 := lc_pos l
    have p2 := lc_pos r
    have hz : lc l + lc r ≤ 1000 := hz
    obtain ⟨il, _⟩ := ihl (by omega)
    obtain ⟨ir, irs⟩ := ihr (by omega)
    have h : ∀ k st, evCall TURNS D (k + lc (.ch k0 l r)) 158 [pv (.ch k0 l r)] st = .ok (key (.ch k0 l r)) st := fun k st => by
      generalize hn : k + lc l + lc r - 1 = n
      have en : k + lc (.ch k0 l r) = n + 1 := by
        show k + (lc l + lc r) = _
        omega
      obtain ⟨qs, hqs⟩ : ∃ qs, qs = (CB.ch k0 l r).ps k0 := ⟨_, rfl⟩
      have hq : qs = l :: r.ps k0 := by rw [hqs, ps, if_pos rfl]
      have ip : ∀ q ∈ qs, ∀ st, evCall TURNS D n 158 [pv q] st = .ok (key q) st := fun q hm st => by
        rw [hq] at hm
        rcases List.mem_cons.mp hm with rfl | hm
        · have := il (n - lc q) st
          rwa [show n - lc q + lc q = n by omega] at this
        · have := irs k0 q hm (n - lc r) st
          rwa [show n - lc r + lc r = n by omega] at this
      have lq : qs.length ≤ lc (.ch k0 l r) := by
        have := len_lk (.ch k0 l r) k0
        rw [lk_ps, List.length_map, ← hqs] at this
        exact this
      have lq : qs.length ≤ 1000 := Nat.le_trans lq hz
      have epv : pv (.ch k0 l r) = .tup [.str (wd k0), .tup (qs.map pv)] := by rw [pv_ch, hq, List.map_cons, lk_ps]
      obtain ⟨A, z, hA⟩ : ∃ A z, qs = A ++ [z] := by
        rcases List.eq_nil_or_concat qs with e | ⟨A, z, e⟩
        · rw [hq] at e; cases e
        · exact ⟨A, z, by rw [e, List.concat_eq_append]⟩
      have hb := rebuild k0 (.ch k0 l r) A z (by rw [← hqs, hA])
      have lcl : lcLoop (fun _ s => .ok true s) (ev (evCall TURNS D n) e158_1 .val) (MG.put (.nm 5)) [some (pv (.ch k0 l r)), some (.str (wd k0)), some (.tup (qs.map pv)), none, none, none] (.items (qs.map pv)) 0 qs.length [] st = .ok (.fl (qs.map key)) st := by
        refine lc_own pv key qs (by omega) (by simp) fun q hm env' _ h2 => ⟨?_, pure_nofl (pure_key q)⟩
        have i := ip q hm st
        simp [e158_1, ev, evA, h2, varV_p (pure_pv q).1, esc_p (pure_pv q).1, i]
      have lp : ∀ x3 : Option PV, ∃ x5, forLoop (MG.put (.nm 5)) (evSs (evCall TURNS D n) TURNS b158_0) (.items (A.map key).reverse) 0 A.length [some (pv (.ch k0 l r)), some (.str (wd k0)), some (.tup (qs.map pv)), x3, some (key z), none] st =
          .nx [some (pv (.ch k0 l r)), some (.str (wd k0)), some (.tup (qs.map pv)), x3, some (key (.ch k0 l r)), x5] st := fun x3 => by
        obtain ⟨e, s2, q1, ⟨x5, q2⟩, q3⟩ := forLoop_inv (put := MG.put (.nm 5)) (body := evSs (evCall TURNS D n) TURNS b158_0) (xs := (A.map key).reverse)
          (fun j env s2 => (∃ x5, env = [some (pv (.ch k0 l r)), some (.str (wd k0)), some (.tup (qs.map pv)), x3, some (key ((A.reverse.take j).foldl (fun acc p => .ch k0 p acc) z)), x5]) ∧ s2 = st) (fun j x env s2 hx ⟨⟨x5, e1⟩, e2⟩ => by
            subst e1 e2
            rw [← List.map_reverse, List.getElem?_map] at hx
            obtain ⟨p, hp, rfl⟩ := Option.map_eq_some_iff.mp hx
            have tk : A.reverse.take (j + 1) = A.reverse.take j ++ [p] := by rw [List.take_add_one, hp]; rfl
            rw [tk, List.foldl_append]
            generalize (A.reverse.take j).foldl (fun acc p => CB.ch k0 p acc) z = acc
            refine ⟨[some (pv (.ch k0 l r)), some (.str (wd k0)), some (.tup (qs.map pv)), x3, some (key acc), some (key p)], rfl, ?_⟩
            obtain ⟨t1, h1⟩ := key_head p
            obtain ⟨t2, h2⟩ := key_head acc
            have ep := esc_p (pure_key p)
            have ea := esc_p (pure_key acc)
            have vp := varV_p (pure_key p)
            have va := varV_p (pure_key acc)
            have kk := kinds k0
            have x1 : ∀ st, ixV (key p) (.int 0) st = some (.int (lc p : Nat)) := fun st => by rw [h1]; simp
            have x2 : ∀ st, ixV (key acc) (.int 0) st = some (.int (lc acc : Nat)) := fun st => by rw [h2]; simp
            show SR.go (evSs _ TURNS b158_0 _ s2) _
            simp [b158_0, evSs, evS, ev, evA, evCs, x1, x2, ep, ea, vp, va, kk, sizeLine_eq]
            rfl) A.length 0 [some (pv (.ch k0 l r)), some (.str (wd k0)), some (.tup (qs.map pv)), x3, some (key z), none] st (by simp) ⟨⟨none, rfl⟩, rfl⟩
        subst q2 q3
        rw [List.length_reverse, List.length_map] at q1
        rw [show A.reverse.take A.length = A.reverse by rw [← List.length_reverse, List.take_length], List.foldl_reverse, hb] at q1
        exact ⟨x5, q1⟩
      obtain ⟨x5, lp⟩ := lp (some (.fl (qs.map key)))
      obtain ⟨n1, n2⟩ := kinds_st k0
      have at1 : atI (qs.map key) (-1) = some (key z) := by rw [hA, List.map_append, List.map_cons, List.map_nil]; exact atI_last _ _
      have cu : cutL (qs.map key) none (some (-1)) = A.map key := by rw [hA, List.map_append, List.map_cons, List.map_nil]; exact cutL_init _ _
      have pk := pure_key (.ch k0 l r)
      have vk := varV_p pk
      have ek := esc_p pk
      have ez := esc_p (pure_key z)
      have vz := varV_p (pure_key z)
      obtain ⟨tk, hk⟩ := key_head (.ch k0 l r)
      rw [en, evCall]
      rw [epv] at lcl lp ⊢
      rw [hk] at lp vk ek ⊢
      have hu : ∀ st, (ev (evCall TURNS D n) (.var 3) .use [some (.tup [.str (wd k0), .tup (qs.map pv)]), some (.str (wd k0)), some (.tup (qs.map pv)), some (.fl (qs.map key)), none, none] st) = .ok (.fl (qs.map key)) st := fun st => by simp [ev]
      simp [D, d158, evSs, evS, ev, evA, evCs, evSrc, setEach, srcV, revV, Src.many, MG.slots, U.wipe, ME.held, leave_id, sizeLine_eq, n1, n2, lcl, at1, ez, vz, ME.absent, bound_non, bound_int, slV, cu, lp, vk, ek]
    refine ⟨h, fun kk p hp k st => ?_⟩
    rw [ps] at hp
    split at hp
    · rcases List.mem_cons.mp hp with rfl | hp
      · have := il (k + lc r) st
        rw [show k + lc (.ch k0 p r) = k + lc r + lc p by show k + (lc p + lc r) = _; omega]
        exact this
      · have := irs kk p hp (k + lc l) st
        rw [show k + lc (.ch k0 l r) = k + lc l + lc r by show k + (lc l + lc r) = _; omega]
        exact this
    · rw [List.mem_singleton.mp hp]; exact h k st
/-- the law's key -/
theorem key_law : ∀ c : CB, lc c ≤ 1000 → ∀ k st, evCall TURNS D (k + lc c) 159 [pv c] st = .ok (key c) st := by
  intro c
  induction c with
  | call x =>
    intro hz k st
    show evCall TURNS D (k + 1) 159 [.tup [.str "call", .str x]] st = _
    rw [evCall]
    simp [D, d159, evSs, evS, ev, evA, evCs, ME.held, leave_id, sizeLine_eq, key]
  | no x =>
    intro hz k st
    show evCall TURNS D (k + 1) 159 [.tup [.str "not", .tup [.str "call", .str x]]] st = _
    rw [evCall]
    simp [D, d159, evSs, evS, ev, evA, evCs, ME.held, leave_id, sizeLine_eq, key]
  | ch k0 l r ihl ihr =>
    intro hz k st
    have p1 := lc_pos l
    have p2 := lc_pos r
    have hz : lc l + lc r ≤ 1000 := hz
    obtain ⟨n, hn⟩ : ∃ n, k + lc l + lc r = n + 1 := ⟨k + lc l + lc r - 1, by omega⟩
    have en : k + lc (.ch k0 l r) = n + 1 := by
      show k + (lc l + lc r) = _
      omega
    have il := ihl (by omega) (n - lc l) st
    have ir := ihr (by omega) (n - lc r) st
    rw [show n - lc l + lc l = n by omega] at il
    rw [show n - lc r + lc r = n by omega] at ir
    obtain ⟨n1, n2⟩ := kinds_st k0
    obtain ⟨t1, h1⟩ := key_head l
    obtain ⟨t2, h2⟩ := key_head r
    have el := esc_p (pure_key l)
    have er := esc_p (pure_key r)
    have vl := varV_p (pure_key l)
    have vr := varV_p (pure_key r)
    have pl := esc_p (pure_pv l).1
    have pr := esc_p (pure_pv r).1
    have ql := varV_p (pure_pv l).1
    have qr := varV_p (pure_pv r).1
    have x1 : ∀ st, ixV (key l) (.int 0) st = some (.int (lc l : Nat)) := fun st => by rw [h1]; simp
    have x2 : ∀ st, ixV (key r) (.int 0) st = some (.int (lc r : Nat)) := fun st => by rw [h2]; simp
    have cm : ∀ st, cmpV .eq (.str (wd k0)) (.str "or") st = some (!k0) := fun st => by cases k0 <;> rfl
    have kk : kn k0 = 2 + (if (!k0) = true then 1 else 0) := by cases k0 <;> rfl
    have n1' : ¬ wd k0 = "call" := n1
    have n2' : ¬ wd k0 = "not" := n2
    have ln := len_lk r k0
    rw [en, pv_ch, key, kk]
    by_cases hr : ∃ r1 r2, r = .ch k0 r1 r2
    · obtain ⟨r1, r2, rfl⟩ := hr
      have e : lk (.ch k0 r1 r2) k0 = pv r1 :: lk r2 k0 := lk_ch _ _ _
      have e2 : ∃ a t, lk r2 k0 = a :: t := by
        cases h : lk r2 k0 with
        | nil =>
          rw [lk_ps] at h
          exact absurd (List.map_eq_nil_iff.mp h) (ps_ne r2 k0)
        | cons a t => exact ⟨a, t, rfl⟩
      obtain ⟨a, t, e2⟩ := e2
      rw [e, e2] at ln ⊢
      have epr : pv (.ch k0 r1 r2) = .tup [.str (wd k0), .tup (pv r1 :: a :: t)] := by rw [pv_ch, e2]
      rw [epr] at ir
      have cu : cutL (pv l :: pv r1 :: a :: t) (some 1) none = pv r1 :: a :: t := cutL_tail _ _
      have lt2 : (2 : Int) < ((pv l :: pv r1 :: a :: t).length : Int) := by simp; omega
      have bl : ∀ st, biV .len [.tup (pv l :: pv r1 :: a :: t)] st = some (.int ((pv l :: pv r1 :: a :: t).length : Nat)) := fun st => rfl
      generalize ((pv l :: pv r1 :: a :: t).length : Int) = N at *
      have p1 := esc_p (pure_pv r1).1
      rw [evCall]
      simp [D, d159, evSs, evS, ev, evA, evCs, ME.held, leave_id, sizeLine_eq, n1', n2', ME.absent, bound_non, bound_int, slV, cu, bl, lt2, il, ir, x1, x2, el, er, vl, vr, pl, pr, ql, qr, p1, cm]
    · have e : lk r k0 = [pv r] := by
        cases r with
        | call x => rfl
        | no x => rfl
        | ch k' r1 r2 => exact lk_other (fun e => hr ⟨r1, r2, by rw [e]⟩) _ _
      rw [e]
      rw [evCall]
      simp [D, d159, evSs, evS, ev, evA, evCs, ME.held, leave_id, sizeLine_eq, n1', n2', il, ir, x1, x2, el, er, vl, vr, pl, pr, ql, qr, cm]
end CB
end K69

set_option maxHeartbeats 4000000
namespace K69
open PySem L2 U
namespace CB
/-! ### comparing -/
theorem cmp_lt {a b : CB} {u : Bool} (ha : nb a) (hb : nb b) (za : lc a ≤ 60) (zb : lc b ≤ 60) (h : dLt (kd a) (kd b) = some u) (st : Store) : cmpV .lt (key a) (key b) st = some u := by
  have e : ltD (key a) (key b) = some u := by
    unfold ltD
    rw [py_key, py_key]
    simp only
    rw [kd_sh ha (by omega), kd_sh hb (by omega)]
    exact h
  obtain ⟨t1, h1⟩ := key_head a
  obtain ⟨t2, h2⟩ := key_head b
  rw [h1, h2] at e ⊢
  exact e
theorem same_bl (u : Bool) (k : Nat) (st : Store) : evCall TURNS D (k + 1) 147 [.bl u, .bl u] st = .ok (.bl true) st := by
  have e1 : ∀ st, cmpV .isN (.bl u) .non st = some false := fun _ => rfl
  have e2 : ∀ st, cmpV .eq (.bl u) (.bl u) st = some true := fun _ => by cases u <;> rfl
  have e3 : ∀ st, cmpV .eq (.bl true) (.bl true) st = some true := fun _ => rfl
  rw [evCall]
  simp [D, d147, evSs, evS, ev, evA, evCs, ME.held, leave_id, isiV, e1, e2, e3]
/-- a condition as data -/
theorem py_pv : ∀ c : CB, nb c → (∃ d, pyOf (pv c) = some d ∧ d.canLay0 = true ∧ d.depth ≤ 2 * lc c) ∧ ∀ k, ∃ ds, pyOfL (lk c k) = some ds ∧ PyData.canLayAll0 ds = true ∧ PyData.depthAll ds ≤ 2 * lc c
  | .call x, h => by
    have one : ∃ d, pyOf (pv (.call x)) = some d ∧ d.canLay0 = true ∧ d.depth ≤ 2 * lc (.call x) := ⟨.tuple [.str "call", .str x], rfl, by
      show (PyData.canLay0 (.str "call") && (PyData.canLay0 (.str x) && true)) = true
      rw [str_ok h]; decide +kernel, by show 0 + 1 ≤ 2 * 1; omega⟩
    refine ⟨one, fun k => ?_⟩
    obtain ⟨d, h1, h2, h3⟩ := one
    refine ⟨[d], ?_, by show (d.canLay0 && true) = true; rw [h2]; rfl, by show max d.depth 0 ≤ _; omega⟩
    show (match pyOf (pv (.call x)), pyOfL [] with | some d, some ds => some (d :: ds) | _, _ => none) = _
    rw [h1]; rfl
  | .no x, h => by
    have one : ∃ d, pyOf (pv (.no x)) = some d ∧ d.canLay0 = true ∧ d.depth ≤ 2 * lc (.no x) := ⟨.tuple [.str "not", .tuple [.str "call", .str x]], rfl, by
      show (PyData.canLay0 (.str "not") && ((PyData.canLay0 (.str "call") && (PyData.canLay0 (.str x) && true)) && true)) = true
      rw [str_ok h]; decide +kernel, by show 1 + 1 ≤ 2 * 1; omega⟩
    refine ⟨one, fun k => ?_⟩
    obtain ⟨d, h1, h2, h3⟩ := one
    refine ⟨[d], ?_, by show (d.canLay0 && true) = true; rw [h2]; rfl, by show max d.depth 0 ≤ _; omega⟩
    show (match pyOf (pv (.no x)), pyOfL [] with | some d, some ds => some (d :: ds) | _, _ => none) = _
    rw [h1]; rfl
  | .ch k0 l r, h => by
    obtain ⟨⟨dl, l1, l2, l3⟩, _⟩ := py_pv l h.1
    obtain ⟨_, ir⟩ := py_pv r h.2
    have p1 := lc_pos l
    have p2 := lc_pos r
    have big : ∃ ds, pyOfL (pv l :: lk r k0) = some ds ∧ PyData.canLayAll0 ds = true ∧ PyData.depthAll ds ≤ 2 * (lc l + lc r) - 2 := by
      obtain ⟨ds, r1, r2, r3⟩ := ir k0
      refine ⟨dl :: ds, ?_, ?_, ?_⟩
      · show (match pyOf (pv l), pyOfL (lk r k0) with | some d, some ds => some (d :: ds) | _, _ => none) = _
        rw [l1, r1]
      · show (dl.canLay0 && PyData.canLayAll0 ds) = true
        rw [l2, r2]; rfl
      · show max dl.depth (PyData.depthAll ds) ≤ _
        omega
    have one : ∃ d, pyOf (pv (.ch k0 l r)) = some d ∧ d.canLay0 = true ∧ d.depth ≤ 2 * (lc l + lc r) := by
      obtain ⟨ds, b1, b2, b3⟩ := big
      refine ⟨.tuple [.str (wd k0), .tuple ds], ?_, ?_, ?_⟩
      · rw [pv_ch]
        show (pyOfL [.str (wd k0), .tup (pv l :: lk r k0)]).map PyData.tuple = _
        have : pyOfL [.str (wd k0), .tup (pv l :: lk r k0)] = some [.str (wd k0), .tuple ds] := by
          show (match pyOf (.str (wd k0)), pyOfL [.tup (pv l :: lk r k0)] with | some d, some ds => some (d :: ds) | _, _ => none) = _
          have : pyOfL [.tup (pv l :: lk r k0)] = some [.tuple ds] := by
            show (match (pyOfL (pv l :: lk r k0)).map PyData.tuple, pyOfL [] with | some d, some ds => some (d :: ds) | _, _ => none) = _
            rw [b1]; rfl
          rw [this]; rfl
        rw [this]; rfl
      · show (PyData.canLay0 (.str (wd k0)) && (PyData.canLayAll0 ds && true)) = true
        rw [b2]
        cases k0 <;> decide +kernel
      · show max 0 (max (PyData.depthAll ds + 1) 0) + 1 ≤ _
        omega
    refine ⟨one, fun k => ?_⟩
    by_cases e : k = k0
    · subst e
      rw [lk_ch]
      obtain ⟨ds, b1, b2, b3⟩ := big
      exact ⟨ds, b1, b2, by show _ ≤ 2 * (lc l + lc r); omega⟩
    · rw [lk_other e]
      obtain ⟨d, h1, h2, h3⟩ := one
      refine ⟨[d], ?_, by show (d.canLay0 && true) = true; rw [h2]; rfl, by show max d.depth 0 ≤ 2 * (lc l + lc r); omega⟩
      show (match pyOf (pv (.ch k0 l r)), pyOfL [] with | some d, some ds => some (d :: ds) | _, _ => none) = _
      rw [h1]; rfl
theorem ne_self {c : CB} (h : nb c) (hz : lc c ≤ 32) (st : Store) : cmpV .ne (pv c) (pv c) st = some false := by
  obtain ⟨⟨d, h1, h2, h3⟩, _⟩ := py_pv c h
  have e : eqS (pv c) (pv c) = none := by cases c <;> rfl
  have : eqD (pv c) (pv c) = some true := by
    unfold eqD
    rw [e, h1]
    have sh : SeqAt.shaped d = true := by
      show (d.canLay0 && decide (d.depth ≤ 64)) = true
      rw [h2, decide_eq_true (by omega)]; rfl
    simp only [sh, Bool.and_self, if_true]
    rw [SeqAt.eqv_refl d h2]
  show (eqD (pv c) (pv c)).map (!·) = _
  rw [this]; rfl
theorem tup (c : CB) : ∃ (w : Str) (x : PV), pv c = .tup [.str w, x] := by
  cases c with
  | call x => exact ⟨_, _, rfl⟩
  | no x => exact ⟨_, _, rfl⟩
  | ch k l r => exact ⟨_, _, pv_ch _ _ _⟩
end CB
end K69

set_option maxHeartbeats 4000000
namespace K69
open PySem L2 U
variable {ns : List Int} {R : Store} {st : Store} {xs : List Str} {g : Nat}
theorem call_rt {k f : Nat} {d : Def} {args : List PV} {v : PV} {st s : Store} {env0 : En} (hd : D f = some d) (hn : args.length = d.np) (hf : args.any PV.isFl = false) (he : args.map some ++ List.replicate (d.nl - d.np) none = env0)
    (h : evSs (evCall TURNS D k) TURNS d.body env0 st = .rt v s) : evCall TURNS D (k + 1) f args st = U.leave st.length v s := by
  rw [evCall, hd]
  simp only [he, h]
  rw [if_pos ⟨hn, hf⟩]
theorem evSs_step {call : Nat → List PV → Store → Res PV} {m : MS} {ms : MSs} {env env' : En} {st st' : Store} (h : evS call TURNS m env st = .nx env' st') : evSs call TURNS (.cons m ms) env st = evSs call TURNS ms env' st' := by
  show (evS call TURNS m env st).then _ = _
  rw [h]; rfl
/-- a name of a call -/
theorem name_ok {k : Nat} (hx : NM xs) (hR : R[g]? = some (.lst (xs.map .str))) (h : TR ns R st) : ∃ (q : Int) (x : Str) (st1 : Store), B 60 x ∧ TR ns R st1 ∧ biV .len [.loc (g + 2)] st = some (.int xs.length) ∧ evCall TURNS D (k + 1) 5 [.loc 1, .int xs.length] st = .ok (.int q) st1 ∧ ixV (.loc (g + 2)) (.int q) st1 = some (.str x) := by
  have nm : st[g + 2]? = some (.lst (xs.map .str)) := (TR.at h g).trans hR
  have ln := bi_len_loc nm
  rw [List.length_map] at ln
  obtain ⟨q, st1, x, b1, b2, b3, b4, _⟩ := nameR (k := k) h hx
  have nm2 : st1[g + 2]? = some (.lst (xs.map .str)) := (TR.at b2 g).trans hR
  have i1 := ix_loc (k := q) nm2
  rw [b3] at i1
  exact ⟨q, x, st1, b4, b2, ln, b1, i1⟩
/-! ### a condition changed -/
namespace CB
def Ch (g : Nat) (xs : List Str) (N : Nat) (c : CB) : Prop := ∀ (ns : List Int) (R st : Store) (k : Nat), R[g]? = some (.lst (xs.map .str)) → Low (R.length + 2) R → TR ns R st →
  ∃ (c' : CB) (st' : Store), c'.nb ∧ c'.lc ≤ c.lc + 1 ∧ evCall TURNS D (k + N) 162 [.loc 1, c.pv, .loc (g + 2)] st = .ok c'.pv st' ∧ TR ns R st'
theorem Ch.mono {N M : Nat} {c : CB} (h : Ch g xs N c) (l : N ≤ M) : Ch g xs M c := fun ns R st k h1 h2 h3 => by
  obtain ⟨c', st', a1, a2, a3, a4⟩ := h ns R st (k + (M - N)) h1 h2 h3
  exact ⟨c', st', a1, a2, by rwa [show k + (M - N) + N = k + M by omega] at a3, a4⟩
theorem pick4 {a b c d : CB} {q : Int} {P : CB → Prop} (h0 : 0 ≤ q) (h4 : q < 4) (ha : P a) (hb : P b) (hc : P c) (hd : P d) : ∃ y : CB, P y ∧ atI [a.pv, b.pv, c.pv, d.pv] q = some y.pv := by
  obtain ⟨y, hy, e⟩ := pick (xs := [a.pv, b.pv, c.pv, d.pv]) (i := q) h0 (by simpa using h4)
  simp only [List.mem_cons, List.not_mem_nil, or_false] at hy
  rcases hy with rfl | rfl | rfl | rfl
  · exact ⟨_, ha, e⟩
  · exact ⟨_, hb, e⟩
  · exact ⟨_, hc, e⟩
  · exact ⟨_, hd, e⟩
theorem ch_leaf (hx : NM xs) {x : Str} (xB : B 60 x) : Ch g xs 3 (.call x) := fun ns R st k hR hP h => by
  obtain ⟨q, y, st1, yB, n1, n2, n3, n4⟩ := name_ok (k := k + 1) hx hR h
  obtain ⟨c, st2, c1, c2, c3, c4⟩ := drawR (k := k + 1) (m := 4) n1 (by decide)
  have j1 := joined (k0 := true) (a := .call x) (b := .call y) (by show 1 ≤ _; omega) (by show 1 ≤ _; omega) (k + 1) st2
  have j2 := joined (k0 := false) (a := .call y) (b := .call x) (by show 1 ≤ _; omega) (by show 1 ≤ _; omega) (k + 1) st2
  obtain ⟨_, _, w1, w2⟩ := cat_ok true (.call x) (.call y)
  obtain ⟨_, _, u1, u2⟩ := cat_ok false (.call y) (.call x)
  obtain ⟨r, ⟨r1, r2⟩, r3⟩ := pick4 (a := .call y) (b := .no x) (c := cat true (.call x) (.call y)) (d := cat false (.call y) (.call x)) (q := c) (P := fun z => z.nb ∧ z.lc ≤ 2) c3 c4 ⟨yB, by show 1 ≤ 2; omega⟩ ⟨xB, by show 1 ≤ 2; omega⟩ ⟨w2 xB yB, by rw [w1]; exact Nat.le_refl _⟩ ⟨u2 yB xB, by rw [u1]; exact Nat.le_refl _⟩
  refine ⟨r, st2, r1, r2, ?_, c2⟩
  refine (call_rt (k := k + 2) (v := r.pv) (s := st2) (show D 162 = some d162 from rfl) rfl rfl rfl ?_).trans (h.leave c2 rfl _)
  have e1 := esc_p (pure_pv (cat true (.call x) (.call y))).1
  have e2 := esc_p (pure_pv (cat false (.call y) (.call x))).1
  have er := esc_p (pure_pv r).1
  have f1 := pure_nofl (pure_pv (cat true (.call x) (.call y))).1
  have f2 := pure_nofl (pure_pv (cat false (.call y) (.call x))).1
  have px : pv (.call x) = .tup [.str "call", .str x] := rfl
  have py : pv (.call y) = .tup [.str "call", .str y] := rfl
  have pn : pv (.no x) = .tup [.str "not", .tup [.str "call", .str x]] := rfl
  rw [px, py] at j1 j2
  rw [py, pn] at r3
  have wt : wd true = "and" := rfl
  have wf : wd false = "or" := rfl
  rw [wt] at j1
  rw [wf] at j2
  rw [px]
  generalize pv (cat true (.call x) (.call y)) = m1 at *
  generalize pv (cat false (.call y) (.call x)) = m2 at *
  unfold d162
  simp [evSs, evS, ev, evA, evCs, n2, n3, n4, c1, j1, j2, e1, e2, er, r3, sizeLine_eq, ME.held]
theorem ch_no (hx : NM xs) {x : Str} (xB : B 60 x) : Ch g xs 3 (.no x) := fun ns R st k hR hP h => by
  obtain ⟨q, y, st1, yB, n1, n2, n3, n4⟩ := name_ok (k := k + 1) hx hR h
  obtain ⟨c, st2, c1, c2, c3, c4⟩ := drawR (k := k + 1) (m := 4) n1 (by decide)
  have j1 := joined (k0 := false) (a := .no x) (b := .call y) (by show 1 ≤ _; omega) (by show 1 ≤ _; omega) (k + 1) st2
  obtain ⟨_, _, w1, w2⟩ := cat_ok false (.no x) (.call y)
  obtain ⟨r, ⟨r1, r2⟩, r3⟩ := pick4 (a := .call x) (b := .no y) (c := cat false (.no x) (.call y)) (d := .call y) (q := c) (P := fun z => z.nb ∧ z.lc ≤ 2) c3 c4 ⟨xB, by show 1 ≤ 2; omega⟩ ⟨yB, by show 1 ≤ 2; omega⟩ ⟨w2 xB yB, by rw [w1]; exact Nat.le_refl _⟩ ⟨yB, by show 1 ≤ 2; omega⟩
  refine ⟨r, st2, r1, r2, ?_, c2⟩
  refine (call_rt (k := k + 2) (v := r.pv) (s := st2) (show D 162 = some d162 from rfl) rfl rfl rfl ?_).trans (h.leave c2 rfl _)
  have e1 := esc_p (pure_pv (cat false (.no x) (.call y))).1
  have er := esc_p (pure_pv r).1
  have px : pv (.no x) = .tup [.str "not", .tup [.str "call", .str x]] := rfl
  have py : pv (.call y) = .tup [.str "call", .str y] := rfl
  have pc : pv (.call x) = .tup [.str "call", .str x] := rfl
  have pn : pv (.no y) = .tup [.str "not", .tup [.str "call", .str y]] := rfl
  rw [px, py] at j1
  rw [py, pc, pn] at r3
  have wf : wd false = "or" := rfl
  rw [wf] at j1
  rw [px]
  generalize pv (cat false (.no x) (.call y)) = m1 at *
  unfold d162
  simp [evSs, evS, ev, evA, evCs, n2, n3, n4, c1, j1, e1, er, r3, sizeLine_eq, ME.held]
end CB
end K69

set_option maxHeartbeats 4000000
namespace K69
open PySem L2 U
variable {ns : List Int} {R : Store} {st : Store} {xs : List Str}
namespace CB
def lcs (qs : List CB) : Nat := (qs.map lc).sum
theorem lcs_ps : ∀ (c : CB) (k : Bool), lcs (c.ps k) = lc c
  | .call _, _ => rfl
  | .no c, _ => rfl
  | .ch k' l r, k => by
    rw [ps]
    split
    · have := lcs_ps r k
      show lc l + lcs (r.ps k) = lc l + lc r
      omega
    · simp [lcs]
theorem lcs_take (qs : List CB) (j : Nat) : lcs (qs.take j) ≤ lcs qs := by
  have := congrArg List.sum (List.take_append_drop j (qs.map lc))
  rw [List.sum_append] at this
  simp only [lcs, List.map_take]
  omega
theorem lcs_set : ∀ (qs : List CB) (j : Nat) (q c : CB), qs[j]? = some q → lcs (qs.set j c) + lc q = lcs qs + lc c
  | [], _, _, _, h => by cases h
  | p :: qs, 0, q, c, h => by
    cases h
    show lc c + lcs qs + lc p = lc p + lcs qs + lc c
    omega
  | p :: qs, j + 1, q, c, h => by
    have := lcs_set qs j q c h
    show lc p + lcs (qs.set j c) + lc q = lc p + lcs qs + lc c
    omega
theorem lcs_mem {qs : List CB} {q : CB} (h : q ∈ qs) : lc q ≤ lcs qs := by
  induction qs with
  | nil => cases h
  | cons p qs ih =>
    show lc q ≤ lc p + lcs qs
    rcases List.mem_cons.mp h with rfl | h
    · omega
    · have := ih h; omega
/-- joined one after the other -/
theorem fold_ok (k0 : Bool) : ∀ (m : List CB) (a : CB), a.nb → (∀ q ∈ m, q.nb) → (m.foldl (cat k0) a).nb ∧ (m.foldl (cat k0) a).lc = a.lc + lcs m
  | [], a, ha, _ => ⟨ha, rfl⟩
  | q :: m, a, ha, hm => by
    obtain ⟨_, _, w1, w2⟩ := cat_ok k0 a q
    obtain ⟨m1, m2⟩ := fold_ok k0 m _ (w2 ha (hm q List.mem_cons_self)) fun q hq => hm q (List.mem_cons_of_mem _ hq)
    refine ⟨m1, ?_⟩
    show (m.foldl _ (cat k0 a q)).lc = lc a + (lc q + lcs m)
    rw [m2, w1]; omega
/-- the end of the def: the items joined -/
theorem ch_end {k0 : Bool} {n N : Nat} {q0 : CB} {qs : List CB} {e0 e1 e2 e3 e4 e5 e7 : Option PV} {c0 : PV} (hc : ixV c0 (.int 0) st = some (.str (wd k0))) (h1 : e1 = some c0) (hp : PV.pure c0 = true) (hn : st[n]? = some (.lst ((q0 :: qs).map pv))) (z : lcs (q0 :: qs) ≤ 100000) (zl : qs.length ≤ 100000) (n0 : ∀ q ∈ q0 :: qs, q.nb) :
    evSs (evCall TURNS D (N + 1)) TURNS (.cons (.set 8 (.ix (.var 6) (.con (.int 0))) false) (.cons (.for_ (.nm 9) (.sl (.var 6) (.con (.int 1)) (.con .non)) b162_0) (.cons (.ret (.var 8)) .nil))) [e0, e1, e2, e3, e4, e5, some (.loc n), e7, none, none] st = .rt (qs.foldl (cat k0) q0).pv st := by
  subst h1
  have i0 := ix_loc (k := 0) hn
  have sq := seq_loc hn
  rw [List.map_cons] at i0 sq
  have cu : cutL (pv q0 :: qs.map pv) (some 1) none = qs.map pv := cutL_tail _ _
  have sl : slV (.loc n) (some 1) none st = some (.fl (qs.map pv)) := by
    show (match seqOf (.loc n) st with | some xs => some (PV.fl (cutL xs (some 1) none)) | none => none) = _
    rw [sq]
    simp only [cu]
  obtain ⟨x9, lp⟩ : ∃ x9, forLoop (MG.put (.nm 9)) (evSs (evCall TURNS D (N + 1)) TURNS b162_0) (.items (qs.map pv)) 0 qs.length [e0, some c0, e2, e3, e4, e5, some (.loc n), e7, some q0.pv, none] st = .nx [e0, some c0, e2, e3, e4, e5, some (.loc n), e7, some (qs.foldl (cat k0) q0).pv, x9] st := by
    obtain ⟨e, s2, q1, ⟨x9, q2⟩, q3⟩ := forLoop_inv (put := MG.put (.nm 9)) (body := evSs (evCall TURNS D (N + 1)) TURNS b162_0) (xs := qs.map pv)
      (fun j env s2 => (∃ x9, env = [e0, some c0, e2, e3, e4, e5, some (.loc n), e7, some ((qs.take j).foldl (cat k0) q0).pv, x9]) ∧ s2 = st) (fun j x env s2 hx ⟨⟨x9, e1⟩, e2'⟩ => by
        subst e1 e2'
        rw [List.getElem?_map] at hx
        obtain ⟨q, hq, rfl⟩ := Option.map_eq_some_iff.mp hx
        have hm := List.mem_of_getElem? hq
        have tk : qs.take (j + 1) = qs.take j ++ [q] := by rw [List.take_add_one, hq]; rfl
        obtain ⟨_, f2⟩ := fold_ok k0 (qs.take j) q0 (n0 q0 List.mem_cons_self) fun q hq => n0 q (List.mem_cons_of_mem _ (List.mem_of_mem_take hq))
        have t1 := lcs_take qs j
        have t2 := lcs_mem hm
        have z' : lc q0 + lcs qs ≤ 100000 := z
        rw [tk, List.foldl_append]
        generalize (qs.take j).foldl (cat k0) q0 = a at *
        refine ⟨[e0, some c0, e2, e3, e4, e5, some (.loc n), e7, some a.pv, some (pv q)], rfl, ?_⟩
        have jn := joined (k0 := k0) (a := a) (b := q) (by omega) (by omega) N s2
        have ea := esc_p (pure_pv a).1
        have eq := esc_p (pure_pv q).1
        have va := varV_p (pure_pv a).1
        have vq := varV_p (pure_pv q).1
        have ed := esc_p (pure_pv (cat k0 a q)).1
        have ec := esc_p hp
        have vc := varV_p hp
        show SR.go (evSs _ TURNS b162_0 _ s2) _
        have vu : ∀ st, varV .use (some (some c0)) st = .ok c0 st := fun _ => rfl
        simp [b162_0, evSs, evS, ev, evA, evCs, hc, jn, ea, eq, va, vq, ed, ec, vc, vu]) qs.length 0 [e0, some c0, e2, e3, e4, e5, some (.loc n), e7, some q0.pv, none] st (by simp) ⟨⟨none, rfl⟩, rfl⟩
    subst q2 q3
    rw [List.length_map, List.take_length] at q1
    exact ⟨x9, q1⟩
  obtain ⟨w, y, hf⟩ := tup (qs.foldl (cat k0) q0)
  have e0' := esc_p (pure_pv q0).1
  have ef := esc_p (pure_pv (qs.foldl (cat k0) q0)).1
  have vf := varV_p (pure_pv (qs.foldl (cat k0) q0)).1
  rw [hf] at lp ef vf ⊢
  simp [evSs, evS, ev, evA, evCs, evSrc, srcV, Src.many, ME.held, i0, sl, e0', lp, ME.absent, bound_non, bound_int]
end CB
end K69

set_option maxHeartbeats 4000000
namespace K69
open PySem L2 U
variable {ns : List Int} {R : Store} {st : Store} {xs : List Str} {g : Nat}
theorem putIx_ok {n : Nat} {k : Int} {j : Nat} {ys : List PV} {v : PV} {st : Store} (hn : st[n]? = some (.lst ys)) (hj : ixN ys.length k = some j) (hv : v.isFl = false) : putIx (.loc n) (.int k) v st = some (setAt st n (ys.set j v)) := by
  unfold putIx
  simp only [hn, hj, hv, Bool.false_eq_true, if_false]
theorem ixN_nn {n : Nat} {i : Int} (h0 : 0 ≤ i) (h1 : i < n) : ixN n i = some i.toNat := by
  unfold ixN
  rw [if_pos h0, if_pos h1]
namespace CB
theorem changed_ok (hx : NM xs) : ∀ c : CB, c.nb → lc c ≤ 50 → Ch g xs (lc c + 2) c ∧ ∀ kk, ∀ p ∈ c.ps kk, p.nb ∧ Ch g xs (lc c + 2) p := by
  intro c
  induction c with
  | call x =>
    intro hn hz
    exact ⟨ch_leaf hx hn, fun kk p hp => by rw [List.mem_singleton.mp hp]; exact ⟨hn, ch_leaf hx hn⟩⟩
  | no x =>
    intro hn hz
    exact ⟨ch_no hx hn, fun kk p hp => by rw [List.mem_singleton.mp hp]; exact ⟨hn, ch_no hx hn⟩⟩
  | ch k0 l r ihl ihr =>
    intro hn hz
    have p1 := lc_pos l
    have p2 := lc_pos r
    have hz : lc l + lc r ≤ 50 := hz
    obtain ⟨il, _⟩ := ihl hn.1 (by omega)
    obtain ⟨_, irs⟩ := ihr hn.2 (by omega)
    have main : Ch g xs (lc (.ch k0 l r) + 2) (.ch k0 l r) := fun ns R st k hR hP h => by
      obtain ⟨qs, hqs⟩ : ∃ qs, qs = (CB.ch k0 l r).ps k0 := ⟨_, rfl⟩
      have hq : qs = l :: r.ps k0 := by rw [hqs, ps, if_pos rfl]
      have zq : lcs qs = lc l + lc r := by rw [hqs]; exact lcs_ps (.ch k0 l r) k0
      have lq : qs.length ≤ 50 := by
        have := len_lk (.ch k0 l r) k0
        rw [lk_ps, List.length_map, ← hqs] at this
        exact Nat.le_trans this hz
      have l1 : 1 ≤ qs.length := by rw [hq]; simp
      have ip : ∀ q ∈ qs, q.nb ∧ Ch g xs (lc l + lc r + 1) q := fun q hm => by
        rw [hq] at hm
        rcases List.mem_cons.mp hm with rfl | hm
        · exact ⟨hn.1, il.mono (by omega)⟩
        · obtain ⟨a1, a2⟩ := irs k0 q hm
          exact ⟨a1, a2.mono (by omega)⟩
      have epv : pv (.ch k0 l r) = .tup [.str (wd k0), .tup (qs.map pv)] := by rw [pv_ch, hq, List.map_cons, lk_ps]
      obtain ⟨q1, y, st1, yB, a1, a2, a3, a4⟩ := name_ok (k := k + (lc l + lc r)) hx hR h
      obtain ⟨c, st2, c1, c2, c3, c4⟩ := drawR (k := k + (lc l + lc r)) (m := 4) a1 (by decide)
      have len2 : st2.length = R.length + 2 := c2.len
      have c5 : TR ns (R ++ [.lst (qs.map pv)]) (st2 ++ [.lst (qs.map pv)]) := c2.push _
      have atn : ∀ {L : List PV} {s : Store}, TR ns (R ++ [.lst L]) s → s[R.length + 2]? = some (.lst L) := fun {L s} t => by
        rw [TR.at t R.length, List.getElem?_append_right (Nat.le_refl _)]; simp
      have n5 := atn c5
      have b5 := bi_len_loc n5
      rw [List.length_map] at b5
      obtain ⟨q, st3, d1, d2, d3, d4⟩ := drawR (k := k + (lc l + lc r)) (m := (qs.length : Nat)) c5 (by omega)
      have n6 := atn d2
      obtain ⟨qp, hqp⟩ : ∃ qp, qs[q.toNat]? = some qp := ⟨qs[q.toNat]'(by omega), List.getElem?_eq_getElem _⟩
      have mqp := List.mem_of_getElem? hqp
      have x6 := ix_loc (k := q) n6
      rw [atI_nn d3 (show (qs.map pv)[q.toNat]? = some (pv qp) by rw [List.getElem?_map, hqp]; rfl)] at x6
      have c1' : ∀ st, cmpV .eq (.str (wd k0)) (.str "not") st = some false := fun _ => by cases k0 <;> rfl
      have c2' : ∀ st, cmpV .eq (.str (wd k0)) (.str "call") st = some false := fun _ => by cases k0 <;> rfl
      have en : k + (lc (.ch k0 l r) + 2) = (k + (lc l + lc r) + 1) + 1 := by show k + (lc l + lc r + 2) = _; omega
      have pq := esc_p (pure_pv qp).1
      -- the items after the change
      have ch : ∃ (qs' : List CB) (st4 : Store), TR ns (R ++ [.lst (qs'.map pv)]) st4 ∧ qs' ≠ [] ∧ (∀ q ∈ qs', q.nb) ∧ lcs qs' ≤ lcs qs + 1 ∧ qs'.length = qs.length ∧
          evS (evCall TURNS D (k + (lc l + lc r) + 1)) TURNS (.ite (.cmp .eq (.var 4) (.con (.int 0))) (.cons (.swp (.var 6) (.con (.int 0)) (.var 6) (.var 7) (.tup (.cons (.ix (.var 6) (.var 7)) (.cons (.ix (.var 6) (.con (.int 0))) .nil)))) .nil) (.cons (.setIx (.var 6) (.var 7) (.fn 162 (.cons (.var 0) (.cons (.ix (.var 6) (.var 7)) (.cons (.var 2) .nil))))) .nil))
            [some (.loc 1), some (pv (.ch k0 l r)), some (.loc (g + 2)), some (.tup [.str "call", .str y]), some (.int c), none, some (.loc (R.length + 2)), some (.int q), none, none] st3 =
          .nx [some (.loc 1), some (pv (.ch k0 l r)), some (.loc (g + 2)), some (.tup [.str "call", .str y]), some (.int c), none, some (.loc (R.length + 2)), some (.int q), none, none] st4 := by
        have setR : ∀ (L L' : List PV), (R ++ [Cell.lst L]).set R.length (.lst L') = R ++ [.lst L'] := fun L L' => by
          rw [List.set_append_right _ _ (Nat.le_refl _)]; simp
        by_cases k0' : c = 0
        · have h0 : (qs.map pv)[0]? = some (pv l) := by rw [hq]; rfl
          have x0 := ix_loc (k := 0) n6
          rw [atI_nn (by omega) (show (qs.map pv)[(0 : Int).toNat]? = some (pv l) from h0)] at x0
          have pl := esc_p (pure_pv l).1
          have g1 := putIx_ok (k := 0) (j := 0) (v := pv qp) n6 (by rw [ixN_nn (by omega) (by rw [List.length_map]; omega)]; rfl) (pure_nofl (pure_pv qp).1)
          have t4 := TR.set d2 R.length ((qs.map pv).set 0 (pv qp))
          rw [setR] at t4
          have n7 := atn t4
          have g2 := putIx_ok (k := q) (j := q.toNat) (v := pv l) n7 (ixN_nn d3 (by rw [List.length_set, List.length_map]; omega)) (pure_nofl (pure_pv l).1)
          have t5 := TR.set t4 R.length (((qs.map pv).set 0 (pv qp)).set q.toNat (pv l))
          rw [setR] at t5
          have em : ((qs.map pv).set 0 (pv qp)).set q.toNat (pv l) = ((qs.set 0 qp).set q.toNat l).map pv := by rw [List.map_set, List.map_set]
          rw [em] at t5
          refine ⟨(qs.set 0 qp).set q.toNat l, _, t5, fun e => ?_, fun z hz => ?_, ?_, by simp, ?_⟩
          · have := congrArg List.length e
            simp at this
            rw [this] at l1
            simp at l1
          · rcases List.mem_or_eq_of_mem_set hz with hz | rfl
            · rcases List.mem_or_eq_of_mem_set hz with hz | rfl
              · exact (ip z hz).1
              · exact (ip z mqp).1
            · exact hn.1
          · have s1 := lcs_set qs 0 l qp (by rw [hq]; rfl)
            have s2 := lcs_set (qs.set 0 qp) q.toNat qp l (by
              rw [List.getElem?_set]
              split
              · rename_i e
                rw [if_pos (by omega)]
              · exact hqp)
            omega
          · rw [← em]
            simp [evS, evSs, ev, evA, evCs, k0', x6, x0, pq, pl, sizeLine_eq, g1, g2]
        · obtain ⟨c', st4, e1, e2, e3, e4⟩ := (ip qp mqp).2 ns (R ++ [.lst (qs.map pv)]) st3 k (by
            rw [List.getElem?_append_left]
            · exact hR
            · exact (List.getElem?_eq_some_iff.mp hR).1) (by
            rw [List.length_append]
            intro c hc
            rcases List.mem_append.mp hc with hc | hc
            · exact hP.mono (by omega) c hc
            · rw [List.mem_singleton.mp hc]
              exact PV.pureL_low _ _ (pureL_of fun v hv => by
                obtain ⟨z, _, rfl⟩ := List.mem_map.mp hv
                exact (pure_pv z).1)) d2
          have n7 := atn e4
          have t5 := TR.set e4 R.length ((qs.map pv).set q.toNat (pv c'))
          rw [setR] at t5
          have em : (qs.map pv).set q.toNat (pv c') = (qs.set q.toNat c').map pv := by rw [List.map_set]
          rw [em] at t5
          have hj : ixN (qs.map pv).length q = some q.toNat := ixN_nn d3 (by rw [List.length_map]; omega)
          have ec := esc_p (pure_pv c').1
          have nc := pure_nofl (pure_pv c').1
          have e3 : evCall TURNS D (k + (lc l + lc r) + 1) 162 [.loc 1, pv qp, .loc (g + 2)] st3 = .ok (pv c') st4 := e3
          refine ⟨qs.set q.toNat c', _, t5, fun e => ?_, fun z hz => ?_, ?_, by simp, ?_⟩
          · have := congrArg List.length e
            simp at this
            rw [this] at l1
            simp at l1
          · rcases List.mem_or_eq_of_mem_set hz with hz | rfl
            · exact (ip z hz).1
            · exact e1
          · have s1 := lcs_set qs q.toNat qp c' hqp
            omega
          · rw [← em]
            rw [List.length_map] at hj
            simp [evS, evSs, ev, evA, evCs, k0', x6, pq, e3, ec, n7, hj, nc]
      obtain ⟨qs', st4, t4, ne, nn, zz, ll, hs⟩ := ch
      obtain ⟨q0, qr, rfl⟩ : ∃ q0 qr, qs' = q0 :: qr := by
        cases qs' with
        | nil => exact absurd rfl ne
        | cons a b => exact ⟨a, b, rfl⟩
      obtain ⟨f1, f2⟩ := fold_ok k0 qr q0 (nn q0 List.mem_cons_self) fun q hq => nn q (List.mem_cons_of_mem _ hq)
      have zz : lc q0 + lcs qr ≤ lcs qs + 1 := zz
      have fin := ch_end (N := k + (lc l + lc r)) (k0 := k0) (n := R.length + 2) (q0 := q0) (qs := qr) (e0 := some (.loc 1)) (e1 := some (pv (.ch k0 l r))) (e2 := some (.loc (g + 2))) (e3 := some (.tup [.str "call", .str y])) (e4 := some (.int c)) (e5 := none) (e7 := some (.int q)) (c0 := pv (.ch k0 l r)) (st := st4)
        (by rw [epv]; simp) rfl (pure_pv _).1 (atn t4) (by show lc q0 + lcs qr ≤ _; omega) (by simp at ll; omega) nn
      obtain ⟨st5, v1, v2⟩ := TR.drop' h t4 rfl hP (pure_pv (qr.foldl (cat k0) q0)).1
      refine ⟨qr.foldl (cat k0) q0, st5, f1, by rw [f2]; show _ ≤ lc l + lc r + 1; omega, ?_, v2⟩
      rw [en]
      refine (call_rt (k := k + (lc l + lc r) + 1) (v := pv (qr.foldl (cat k0) q0)) (s := st4) (env0 := [some (.loc 1), some (pv (.ch k0 l r)), some (.loc (g + 2)), none, none, none, none, none, none, none]) (show D 162 = some d162 from rfl) rfl rfl rfl ?_).trans v1
      unfold d162
      refine (evSs_step (env' := [some (.loc 1), some (pv (.ch k0 l r)), some (.loc (g + 2)), some (.tup [.str "call", .str y]), none, none, none, none, none, none]) (st' := st1) ?_).trans ?_
      · simp [evS, ev, evA, evCs, a2, a3, a4, sizeLine_eq]
      refine (evSs_step (env' := [some (.loc 1), some (pv (.ch k0 l r)), some (.loc (g + 2)), some (.tup [.str "call", .str y]), some (.int c), none, none, none, none, none]) (st' := st2) ?_).trans ?_
      · simp [evS, ev, evA, c1]
      refine (evSs_step (env' := [some (.loc 1), some (pv (.ch k0 l r)), some (.loc (g + 2)), some (.tup [.str "call", .str y]), some (.int c), none, none, none, none, none]) (st' := st2) ?_).trans ?_
      · rw [epv]; simp [evS, ev, c2', evSs]
      refine (evSs_step (env' := [some (.loc 1), some (pv (.ch k0 l r)), some (.loc (g + 2)), some (.tup [.str "call", .str y]), some (.int c), none, none, none, none, none]) (st' := st2) ?_).trans ?_
      · rw [epv]; simp [evS, ev, c1', evSs]
      refine (evSs_step (env' := [some (.loc 1), some (pv (.ch k0 l r)), some (.loc (g + 2)), some (.tup [.str "call", .str y]), some (.int c), none, some (.loc (R.length + 2)), none, none, none]) (st' := st2 ++ [.lst (qs.map pv)]) ?_).trans ?_
      · rw [epv]; simp [evS, ev, evCs, bi_list_tup, esc, len2]
      refine (evSs_step (env' := [some (.loc 1), some (pv (.ch k0 l r)), some (.loc (g + 2)), some (.tup [.str "call", .str y]), some (.int c), none, some (.loc (R.length + 2)), some (.int q), none, none]) (st' := st3) ?_).trans ?_
      · simp [evS, ev, evA, evCs, b5, d1]
      exact (evSs_step hs).trans fin
    refine ⟨main, fun kk p hp => ?_⟩
    rw [ps] at hp
    split at hp
    · rcases List.mem_cons.mp hp with rfl | hp
      · exact ⟨hn.1, il.mono (by show lc p + 2 ≤ lc p + lc r + 2; omega)⟩
      · obtain ⟨a1, a2⟩ := irs kk p hp
        exact ⟨a1, a2.mono (by show lc r + 2 ≤ lc l + lc r + 2; omega)⟩
    · rw [List.mem_singleton.mp hp]
      exact ⟨hn, main⟩
end CB
end K69

set_option maxHeartbeats 4000000
namespace K69
open PySem L2 U
/-! ### comparisons of data -/
def C (d e : PyData) (o : Ordering) : Prop := match o with
  | .eq => PyData.eqv d e = true
  | .lt => PyData.eqv d e = false ∧ dLt d e = some true
  | .gt => PyData.eqv d e = false ∧ dLt d e = some false
theorem C_int (i j : Int) : C (.int i) (.int j) (compare i j) := by
  have h : compare i j = if i < j then .lt else if i = j then .eq else .gt := rfl
  rw [h]
  by_cases h1 : i < j
  · rw [if_pos h1]
    refine ⟨?_, by simp [dLt, h1]⟩
    show (i == j) = false
    rw [beq_eq_false_iff_ne]; omega
  · rw [if_neg h1]
    by_cases h2 : i = j
    · rw [if_pos h2]
      show (i == j) = true
      rw [h2]; exact beq_self_eq_true j
    · rw [if_neg h2]
      refine ⟨?_, by simp [dLt, h1]⟩
      show (i == j) = false
      rw [beq_eq_false_iff_ne]; exact h2
def cS (x y : Str) : Ordering := if x = y then .eq else if x.cps.toList < y.cps.toList then .lt else .gt
theorem C_str (x y : Str) : C (.str x) (.str y) (cS x y) := by
  unfold cS
  by_cases h : x = y
  · rw [if_pos h, h]
    show (y == y) = true
    exact beq_self_eq_true y
  · rw [if_neg h]
    have hb : (x == y) = false := beq_eq_false_iff_ne.mpr h
    by_cases h1 : x.cps.toList < y.cps.toList
    · rw [if_pos h1]
      exact ⟨hb, by simp [dLt, h1]⟩
    · rw [if_neg h1]
      exact ⟨hb, by simp [dLt, h1]⟩
theorem C_cons {x y : PyData} {xs ys : List PyData} {o p : Ordering} (h : C x y o) (t : o = .eq → C (.tuple xs) (.tuple ys) p) : C (.tuple (x :: xs)) (.tuple (y :: ys)) (o.then p) := by
  have e1 : PyData.eqv (.tuple (x :: xs)) (.tuple (y :: ys)) = (PyData.eqv x y && PyData.eqv (.tuple xs) (.tuple ys)) := rfl
  have e2 : dLt (.tuple (x :: xs)) (.tuple (y :: ys)) = if PyData.eqv x y = true then dLt (.tuple xs) (.tuple ys) else dLt x y := by simp [dLt, dLts]
  cases o with
  | eq =>
    have h : PyData.eqv x y = true := h
    have t := t rfl
    show C _ _ p
    unfold C at t ⊢
    rw [e1, e2, h]
    simpa using t
  | lt =>
    obtain ⟨h1, h2⟩ := h
    show _ ∧ _
    rw [e1, e2, h1]
    exact ⟨rfl, by simpa using h2⟩
  | gt =>
    obtain ⟨h1, h2⟩ := h
    show _ ∧ _
    rw [e1, e2, h1]
    exact ⟨rfl, by simpa using h2⟩
theorem C_nil : C (.tuple []) (.tuple []) .eq := rfl
theorem C_nl (y : PyData) (ys : List PyData) : C (.tuple []) (.tuple (y :: ys)) .lt := ⟨rfl, by simp [dLt, dLts]⟩
theorem C_ng (y : PyData) (ys : List PyData) : C (.tuple (y :: ys)) (.tuple []) .gt := ⟨rfl, by simp [dLt, dLts]⟩
theorem C_one {x y : PyData} {o : Ordering} (h : C x y o) : C (.tuple [x]) (.tuple [y]) o := by
  have := C_cons (p := .eq) h fun _ => C_nil
  rwa [Ordering.then_eq] at this
theorem C_lt {d e : PyData} {o : Ordering} (h : C d e o) (hd : ∀ o, C d e o → o = .eq → dLt d e = some false) : dLt d e = some (o == .lt) := by
  cases o with
  | eq => exact hd _ h rfl
  | lt => exact h.2
  | gt => exact h.2
/-- what the comparison the other way round says -/
def GL (o p : Ordering) : Prop := (o = .eq → p = .eq) ∧ (o = .gt → p = .lt)
theorem GL.then {a a' b b' : Ordering} (h : GL a a') (t : a = .eq → GL b b') : GL (a.then b) (a'.then b') := by
  obtain ⟨h1, h2⟩ := h
  cases a with
  | eq =>
    have e := h1 rfl
    subst e
    exact t rfl
  | lt => exact ⟨(fun e => nomatch e), (fun e => nomatch e)⟩
  | gt =>
    have e := h2 rfl
    subst e
    exact ⟨(fun e => nomatch e), fun _ => rfl⟩
theorem GL_int (i j : Int) : GL (compare i j) (compare j i) := by
  have h : ∀ i j : Int, compare i j = if i < j then .lt else if i = j then .eq else .gt := fun _ _ => rfl
  rw [h, h]
  constructor
  · split
    · intro e; cases e
    · split
      · intro _; rw [if_neg (by omega), if_pos (by omega)]
      · intro e; cases e
  · split
    · intro e; cases e
    · split
      · intro e; cases e
      · intro _; rw [if_pos (by omega)]
theorem GL_str (x y : Str) : GL (cS x y) (cS y x) := by
  unfold cS
  constructor
  · split
    · rename_i h; intro _; rw [if_pos h.symm]
    · split <;> intro e <;> cases e
  · split
    · intro e; cases e
    · rename_i h
      split
      · intro e; cases e
      · rename_i h1
        intro _
        rw [if_neg (Ne.symm h)]
        by_cases h2 : y.cps.toList < x.cps.toList
        · rw [if_pos h2]
        · exact absurd (CB.str_tri (decide_eq_false h1) (decide_eq_false h2)) h
theorem int_eq {i j : Int} (h : compare i j = .eq) : i = j := by
  have e : compare i j = if i < j then .lt else if i = j then .eq else .gt := rfl
  rw [e] at h
  split at h
  · cases h
  · split at h
    · assumption
    · cases h
theorem str_eq {x y : Str} (h : cS x y = .eq) : x = y := by
  unfold cS at h
  split at h
  · assumption
  · split at h <;> cases h
theorem then_eq {a b : Ordering} (h : a.then b = .eq) : a = .eq ∧ b = .eq := by
  cases a with
  | eq => exact ⟨rfl, h⟩
  | lt => cases h
  | gt => cases h
theorem int_self (i : Int) : compare i i = .eq := by
  have e : compare i i = if i < i then .lt else if i = i then .eq else .gt := rfl
  rw [e, if_neg (by omega), if_pos rfl]
/-! conditions -/
def cC (a b : CB) : Ordering := if PyData.eqv (CB.kd a) (CB.kd b) = true then .eq else if dLt (CB.kd a) (CB.kd b) = some true then .lt else .gt
theorem C_cb (a b : CB) : C (CB.kd a) (CB.kd b) (cC a b) := by
  obtain ⟨u, v, h1, h2, h3, h4⟩ := CB.lt_key a b
  unfold cC
  by_cases h : PyData.eqv (CB.kd a) (CB.kd b) = true
  · rw [if_pos h]; exact h
  · rw [if_neg h, h1]
    have h := eq_false_of_ne_true h
    cases u with
    | true => exact ⟨h, h1⟩
    | false => exact ⟨h, h1⟩
theorem cb_eq {a b : CB} (h : cC a b = .eq) : a = b := by
  unfold cC at h
  split at h
  · rename_i e; exact CB.eqv_key a b e
  · split at h <;> cases h
theorem eqv_self : ∀ c : CB, PyData.eqv (CB.kd c) (CB.kd c) = true
  | .call x => by simp [CB.kd, PyData.eqv, PyData.eqvAll]
  | .no x => by simp [CB.kd, PyData.eqv, PyData.eqvAll]
  | .ch k l r => by simp [CB.kd, PyData.eqv, PyData.eqvAll, eqv_self l, eqv_self r]
theorem GL_cb (a b : CB) : GL (cC a b) (cC b a) := by
  obtain ⟨u, v, h1, h2, h3, h4⟩ := CB.lt_key a b
  constructor
  · intro e
    have := cb_eq e
    subst this
    exact e
  · intro e
    unfold cC at e
    split at e
    · cases e
    · rename_i hne
      rw [h1] at e
      have hu : u = false := by
        cases u with
        | true => cases e
        | false => rfl
      have hv : v = true := by
        cases v with
        | true => rfl
        | false =>
          exfalso
          have := h3 hu rfl
          subst this
          exact hne (eqv_self a)
      subst hv
      unfold cC
      rw [if_neg (fun e => hne (by have := CB.eqv_key b a e; subst this; exact e)), h2, if_pos rfl]
/-! ### blocks -/
mutual
inductive RW where
  | jump (k : Bool) (n : Int)
  | stop (i n : Int) (l : Str)
  | call (x : Str)
  | ife (c : CB) (a b : RL)
  | whl (c : CB) (a : RL)
  | fr (a : RL)
inductive RL where
  | nil
  | cons (r : RW) (rs : RL)
end
mutual
def sz : RW → Int
  | .jump _ _ => 1
  | .stop _ _ _ => 1
  | .call _ => 1
  | .ife c a b => 1 + (c.lc : Int) + szs a + szs b + (match b with | .nil => 0 | .cons _ _ => 1)
  | .whl c a => 1 + (c.lc : Int) + szs a
  | .fr a => 1 + szs a
def szs : RL → Int
  | .nil => 0
  | .cons r rs => sz r + szs rs
end
def len : RL → Int
  | .nil => 0
  | .cons _ rs => 1 + len rs
def kn : RW → Int
  | .jump k _ => if k = true then 1 else 0
  | .stop _ _ _ => 2
  | .call _ => 3
  | .ife _ _ _ => 4
  | .whl _ _ => 5
  | .fr _ => 6
mutual
def cP : RW → RW → Ordering
  | .jump _ n, .jump _ n' => compare n n'
  | .stop i n l, .stop i' n' l' => (compare i i').then ((compare n n').then (cS l l'))
  | .call x, .call y => cS x y
  | .ife c a b, .ife c' a' b' => (cC c c').then (((compare (szs a) (szs a')).then ((compare (len a) (len a')).then (cL a a'))).then ((compare (szs b) (szs b')).then ((compare (len b) (len b')).then (cL b b'))))
  | .whl c a, .whl c' a' => (cC c c').then ((compare (szs a) (szs a')).then ((compare (len a) (len a')).then (cL a a')))
  | .fr a, .fr a' => (compare (szs a) (szs a')).then ((compare (len a) (len a')).then (cL a a'))
  | _, _ => .eq
def cL : RL → RL → Ordering
  | .nil, .nil => .eq
  | .nil, .cons _ _ => .lt
  | .cons _ _, .nil => .gt
  | .cons r rs, .cons s ss => ((compare (sz r) (sz s)).then ((compare (kn r) (kn s)).then (cP r s))).then (cL rs ss)
end
def cB (a b : RL) : Ordering := (compare (szs a) (szs b)).then ((compare (len a) (len b)).then (cL a b))
def cR (r s : RW) : Ordering := (compare (sz r) (sz s)).then ((compare (kn r) (kn s)).then (cP r s))
mutual
/-- the program's keys -/
def skd : RW → PyData
  | .jump k n => .tuple [.int 1, .int (if k = true then 1 else 0), .int n]
  | .stop i n l => .tuple [.int 1, .int 2, .tuple [.int i, .int n, .str l]]
  | .call x => .tuple [.int 1, .int 3, .str x]
  | .ife c a b => .tuple [.int (sz (.ife c a b)), .int 4, c.kd, .tuple (.int (szs a) :: .int (len a) :: bkl a), .tuple (.int (szs b) :: .int (len b) :: bkl b)]
  | .whl c a => .tuple [.int (sz (.whl c a)), .int 5, c.kd, .tuple (.int (szs a) :: .int (len a) :: bkl a)]
  | .fr a => .tuple [.int (sz (.fr a)), .int 6, .tuple (.int (szs a) :: .int (len a) :: bkl a)]
def bkl : RL → List PyData
  | .nil => []
  | .cons r rs => skd r :: bkl rs
end
def bkd (a : RL) : PyData := .tuple (.int (szs a) :: .int (len a) :: bkl a)
/-- the law's keys -/
def lstop (i n : Int) (l : Str) : PyData := if i = 0 then (if n = 0 then .tuple [.int 0, .int 0] else .tuple [.int 1, .int (n - 1)]) else .tuple [.int (i + 1), .str l]
mutual
def rkt : RW → List PyData
  | .jump k n => [.int (if k = true then 1 else 0), .int n]
  | .stop i n l => [.int 2, lstop i n l]
  | .call x => [.int 3, .str x]
  | .ife c a b => [.int 4, c.kd, lkd a, lkd b]
  | .whl c a => [.int 5, c.kd, lkd a]
  | .fr a => [.int 6, lkd a]
def lkd : RL → PyData
  | .nil => .tuple [.int 0, .int 0]
  | .cons r .nil => .tuple (.int (sz r) :: .int 1 :: rkt r)
  | .cons r (.cons s ss) => .tuple [.int (sz r + szs (.cons s ss)), .int (1 + len (.cons s ss)), .tuple (.int (sz r) :: .int 1 :: rkt r), lkd (.cons s ss)]
end
/-- stops as they are drawn -/
def SV (i n : Int) (l : Str) : Prop := (i = 0 ∧ 0 ≤ n ∧ l = "") ∨ ((i = 1 ∨ i = 2) ∧ n = 0)
mutual
def ok : RW → Prop
  | .stop i n l => SV i n l
  | .ife _ a b => oks a ∧ oks b
  | .whl _ a => oks a
  | .fr a => oks a
  | _ => True
def oks : RL → Prop
  | .nil => True
  | .cons r rs => ok r ∧ oks rs
end
mutual
theorem C_row : ∀ r s : RW, C (skd r) (skd s) (cR r s)
  | .jump k n, .jump k' n' => C_cons (C_int _ _) fun _ => C_cons (C_int _ _) fun _ => C_one (C_int _ _)
  | .stop i n l, .stop i' n' l' => C_cons (C_int _ _) fun _ => C_cons (C_int _ _) fun _ => C_one (C_cons (C_int _ _) fun _ => C_cons (C_int _ _) fun _ => C_one (C_str _ _))
  | .call x, .call y => C_cons (C_int _ _) fun _ => C_cons (C_int _ _) fun _ => C_one (C_str _ _)
  | .ife c a b, .ife c' a' b' => C_cons (C_int _ _) fun _ => C_cons (C_int _ _) fun _ => C_cons (C_cb _ _) fun _ => C_cons (C_cons (C_int _ _) fun _ => C_cons (C_int _ _) fun _ => C_rows a a') fun _ => C_one (C_cons (C_int _ _) fun _ => C_cons (C_int _ _) fun _ => C_rows b b')
  | .whl c a, .whl c' a' => C_cons (C_int _ _) fun _ => C_cons (C_int _ _) fun _ => C_cons (C_cb _ _) fun _ => C_one (C_cons (C_int _ _) fun _ => C_cons (C_int _ _) fun _ => C_rows a a')
  | .fr a, .fr a' => C_cons (C_int _ _) fun _ => C_cons (C_int _ _) fun _ => C_one (C_cons (C_int _ _) fun _ => C_cons (C_int _ _) fun _ => C_rows a a')
  | .jump k _, .stop _ _ _ | .jump k _, .call _ | .jump k _, .ife _ _ _ | .jump k _, .whl _ _ | .jump k _, .fr _ => C_cons (C_int _ _) fun _ => C_cons (C_int _ _) fun e => by have := int_eq e; cases k <;> cases this
  | .stop _ _ _, .jump k _ | .call _, .jump k _ | .ife _ _ _, .jump k _ | .whl _ _, .jump k _ | .fr _, .jump k _ => C_cons (C_int _ _) fun _ => C_cons (C_int _ _) fun e => by have := int_eq e; cases k <;> cases this
  | .stop _ _ _, .call _ | .stop _ _ _, .ife _ _ _ | .stop _ _ _, .whl _ _ | .stop _ _ _, .fr _ => C_cons (C_int _ _) fun _ => C_cons (C_int _ _) fun e => by have := int_eq e; cases this
  | .call _, .stop _ _ _ | .call _, .ife _ _ _ | .call _, .whl _ _ | .call _, .fr _ => C_cons (C_int _ _) fun _ => C_cons (C_int _ _) fun e => by have := int_eq e; cases this
  | .ife _ _ _, .stop _ _ _ | .ife _ _ _, .call _ | .ife _ _ _, .whl _ _ | .ife _ _ _, .fr _ => C_cons (C_int _ _) fun _ => C_cons (C_int _ _) fun e => by have := int_eq e; cases this
  | .whl _ _, .stop _ _ _ | .whl _ _, .call _ | .whl _ _, .ife _ _ _ | .whl _ _, .fr _ => C_cons (C_int _ _) fun _ => C_cons (C_int _ _) fun e => by have := int_eq e; cases this
  | .fr _, .stop _ _ _ | .fr _, .call _ | .fr _, .ife _ _ _ | .fr _, .whl _ _ => C_cons (C_int _ _) fun _ => C_cons (C_int _ _) fun e => by have := int_eq e; cases this
theorem C_rows : ∀ a b : RL, C (.tuple (bkl a)) (.tuple (bkl b)) (cL a b)
  | .nil, .nil => C_nil
  | .nil, .cons _ _ => C_nl _ _
  | .cons _ _, .nil => C_ng _ _
  | .cons r rs, .cons s ss => C_cons (C_row r s) fun _ => C_rows rs ss
end
theorem C_block (a b : RL) : C (bkd a) (bkd b) (cB a b) := C_cons (C_int _ _) fun _ => C_cons (C_int _ _) fun _ => C_rows a b
end K69

set_option maxHeartbeats 4000000
namespace K69
open PySem L2 U
theorem len_nn : ∀ a : RL, 0 ≤ len a
  | .nil => Int.le_refl _
  | .cons _ rs => by
    have := len_nn rs
    show 0 ≤ 1 + len rs
    omega
def lt : RW → RL → List PyData
  | r, .nil => rkt r
  | r, .cons s ss => [.tuple (.int (sz r) :: .int 1 :: rkt r), lkd (.cons s ss)]
theorem lkd_form (r : RW) (rs : RL) : lkd (.cons r rs) = .tuple (.int (szs (.cons r rs)) :: .int (len (.cons r rs)) :: lt r rs) := by
  cases rs with
  | nil =>
    show PyData.tuple (.int (sz r) :: .int 1 :: rkt r) = .tuple (.int (sz r + 0) :: .int (1 + 0) :: rkt r)
    rw [Int.add_zero, Int.add_zero]
  | cons s ss => rfl
theorem C_stop {i n i' n' : Int} {l l' : Str} (h : SV i n l) (h' : SV i' n' l') : C (lstop i n l) (lstop i' n' l') ((compare i i').then ((compare n n').then (cS l l'))) := by
  have e : ∀ i j : Int, compare i j = if i < j then .lt else if i = j then .eq else .gt := fun _ _ => rfl
  have c0 : ∀ {i n i' n' : Int} {x y : List PyData} {o : Ordering}, i < i' → C (.tuple (.int i :: x)) (.tuple (.int i' :: y)) .lt := fun {i n i' n' x y o} hl => by
    have := C_cons (p := .eq) (xs := x) (ys := y) (C_int i i') (fun h => by have := int_eq h; omega)
    rwa [e, if_pos hl] at this
  have c1 : ∀ {i n i' n' : Int} {x y : List PyData} {o : Ordering}, i' < i → C (.tuple (.int i :: x)) (.tuple (.int i' :: y)) .gt := fun {i n i' n' x y o} hl => by
    have := C_cons (p := .eq) (xs := x) (ys := y) (C_int i i') (fun h => by have := int_eq h; omega)
    rwa [e, if_neg (by omega), if_neg (by omega)] at this
  have ss : ∀ x : Str, cS x x = .eq := fun x => by unfold cS; rw [if_pos rfl]
  have L0 : ∀ (n : Int) (l : Str), lstop 0 n l = if n = 0 then .tuple [.int 0, .int 0] else .tuple [.int 1, .int (n - 1)] := fun n l => if_pos rfl
  have Lp : ∀ {i : Int} (n : Int) (l : Str), ¬ i = 0 → lstop i n l = .tuple [.int (i + 1), .str l] := fun n l h => if_neg h
  rcases h with ⟨rfl, n0, rfl⟩ | ⟨hi, rfl⟩ <;> rcases h' with ⟨rfl, n0', rfl⟩ | ⟨hi', rfl⟩
  · rw [L0, L0, int_self, ss]
    show C _ _ ((compare n n').then .eq)
    rw [Ordering.then_eq]
    by_cases z : n = 0
    · by_cases z' : n' = 0
      · subst z z'
        rw [if_pos rfl, int_self]; rfl
      · subst z
        rw [if_pos rfl, if_neg z', e, if_pos (by omega)]
        exact c0 (n := 0) (n' := 0) (o := .eq) (by omega)
    · by_cases z' : n' = 0
      · subst z'
        rw [if_neg z, if_pos rfl, e, if_neg (by omega), if_neg z]
        exact c1 (n := 0) (n' := 0) (o := .eq) (by omega)
      · rw [if_neg z, if_neg z']
        have := C_cons (C_int 1 1) fun _ => C_one (C_int (n - 1) (n' - 1))
        rw [int_self] at this
        have e2 : compare (n - 1) (n' - 1) = compare n n' := by
          rw [e, e]
          by_cases a : n < n'
          · rw [if_pos a, if_pos (by omega)]
          · rw [if_neg a, if_neg (by omega)]
            by_cases b : n = n'
            · rw [if_pos b, if_pos (by omega)]
            · rw [if_neg b, if_neg (by omega)]
        rw [e2] at this
        exact this
  · have hl : compare 0 i' = .lt := by rw [e, if_pos (by omega)]
    rw [L0, Lp _ _ (by omega), hl]
    show C _ _ .lt
    split
    · exact c0 (n := 0) (n' := 0) (o := .eq) (by omega)
    · exact c0 (n := 0) (n' := 0) (o := .eq) (by omega)
  · have hl : compare i 0 = .gt := by rw [e, if_neg (by omega), if_neg (by omega)]
    rw [L0, Lp _ _ (by omega), hl]
    show C _ _ .gt
    split
    · exact c1 (n := 0) (n' := 0) (o := .eq) (by omega)
    · exact c1 (n := 0) (n' := 0) (o := .eq) (by omega)
  · rw [Lp _ _ (by omega), Lp _ _ (by omega), int_self 0]
    have := C_cons (C_int (i + 1) (i' + 1)) fun _ => C_one (C_str l l')
    have e2 : compare (i + 1) (i' + 1) = compare i i' := by
      rw [e, e]
      by_cases a : i < i'
      · rw [if_pos a, if_pos (by omega)]
      · rw [if_neg a, if_neg (by omega)]
        by_cases b : i = i'
        · rw [if_pos b, if_pos (by omega)]
        · rw [if_neg b, if_neg (by omega)]
    rw [e2] at this
    exact this
mutual
theorem C_rowT : ∀ r s : RW, ok r → ok s → C (.tuple (rkt r)) (.tuple (rkt s)) ((compare (kn r) (kn s)).then (cP r s))
  | .jump k n, .jump k' n', _, _ => C_cons (C_int _ _) fun _ => C_one (C_int _ _)
  | .stop i n l, .stop i' n' l', h, h' => C_cons (C_int _ _) fun _ => C_one (C_stop h h')
  | .call x, .call y, _, _ => C_cons (C_int _ _) fun _ => C_one (C_str _ _)
  | .ife c a b, .ife c' a' b', h, h' => C_cons (C_int _ _) fun _ => C_cons (C_cb _ _) fun _ => C_cons (C_law a a' h.1 h'.1) fun _ => C_one (C_law b b' h.2 h'.2)
  | .whl c a, .whl c' a', h, h' => C_cons (C_int _ _) fun _ => C_cons (C_cb _ _) fun _ => C_one (C_law a a' h h')
  | .fr a, .fr a', h, h' => C_cons (C_int _ _) fun _ => C_one (C_law a a' h h')
  | .jump k _, .stop _ _ _, _, _ | .jump k _, .call _, _, _ | .jump k _, .ife _ _ _, _, _ | .jump k _, .whl _ _, _, _ | .jump k _, .fr _, _, _ => C_cons (C_int _ _) fun e => by have := int_eq e; cases k <;> cases this
  | .stop _ _ _, .jump k _, _, _ | .call _, .jump k _, _, _ | .ife _ _ _, .jump k _, _, _ | .whl _ _, .jump k _, _, _ | .fr _, .jump k _, _, _ => C_cons (C_int _ _) fun e => by have := int_eq e; cases k <;> cases this
  | .stop _ _ _, .call _, _, _ | .stop _ _ _, .ife _ _ _, _, _ | .stop _ _ _, .whl _ _, _, _ | .stop _ _ _, .fr _, _, _ => C_cons (C_int _ _) fun e => by have := int_eq e; cases this
  | .call _, .stop _ _ _, _, _ | .call _, .ife _ _ _, _, _ | .call _, .whl _ _, _, _ | .call _, .fr _, _, _ => C_cons (C_int _ _) fun e => by have := int_eq e; cases this
  | .ife _ _ _, .stop _ _ _, _, _ | .ife _ _ _, .call _, _, _ | .ife _ _ _, .whl _ _, _, _ | .ife _ _ _, .fr _, _, _ => C_cons (C_int _ _) fun e => by have := int_eq e; cases this
  | .whl _ _, .stop _ _ _, _, _ | .whl _ _, .call _, _, _ | .whl _ _, .ife _ _ _, _, _ | .whl _ _, .fr _, _, _ => C_cons (C_int _ _) fun e => by have := int_eq e; cases this
  | .fr _, .stop _ _ _, _, _ | .fr _, .call _, _, _ | .fr _, .ife _ _ _, _, _ | .fr _, .whl _ _, _, _ => C_cons (C_int _ _) fun e => by have := int_eq e; cases this
theorem C_law : ∀ a b : RL, oks a → oks b → C (lkd a) (lkd b) (cB a b)
  | .nil, .nil, _, _ => rfl
  | .nil, .cons s ss, _, h' => by
    rw [lkd_form]
    refine C_cons (C_int _ _) fun _ => C_cons (C_int _ _) fun e => ?_
    have h1 : (0 : Int) = 1 + len ss := int_eq e
    have := len_nn ss
    omega
  | .cons r rs, .nil, h, _ => by
    rw [lkd_form]
    refine C_cons (C_int _ _) fun _ => C_cons (C_int _ _) fun e => ?_
    have h1 : 1 + len rs = (0 : Int) := int_eq e
    have := len_nn rs
    omega
  | .cons r .nil, .cons s .nil, h, h' => by
    rw [lkd_form, lkd_form]
    refine C_cons (C_int _ _) fun e1 => C_cons (C_int _ _) fun e2 => ?_
    have e1 : sz r + 0 = sz s + 0 := int_eq e1
    show C _ _ (((compare (sz r) (sz s)).then ((compare (kn r) (kn s)).then (cP r s))).then .eq)
    rw [Ordering.then_eq, show sz r = sz s by omega, int_self]
    exact C_rowT r s h.1 h'.1
  | .cons r .nil, .cons s (.cons s2 ss), h, h' => by
    rw [lkd_form, lkd_form]
    refine C_cons (C_int _ _) fun e1 => C_cons (C_int _ _) fun e2 => ?_
    have e2 : 1 + (0 : Int) = 1 + (1 + len ss) := int_eq e2
    have := len_nn ss
    omega
  | .cons r (.cons r2 rs), .cons s .nil, h, h' => by
    rw [lkd_form, lkd_form]
    refine C_cons (C_int _ _) fun e1 => C_cons (C_int _ _) fun e2 => ?_
    have e2 : 1 + (1 + len rs) = 1 + (0 : Int) := int_eq e2
    have := len_nn rs
    omega
  | .cons r (.cons r2 rs), .cons s (.cons s2 ss), h, h' => by
    rw [lkd_form, lkd_form]
    refine C_cons (C_int _ _) fun e1 => C_cons (C_int _ _) fun e2 => ?_
    have e1 : sz r + szs (.cons r2 rs) = sz s + szs (.cons s2 ss) := int_eq e1
    have e2 : 1 + len (.cons r2 rs) = 1 + len (.cons s2 ss) := int_eq e2
    have hr : C (.tuple (.int (sz r) :: .int 1 :: rkt r)) (.tuple (.int (sz s) :: .int 1 :: rkt s)) (cR r s) := C_cons (C_int _ _) fun _ => by
      have := C_cons (C_int 1 1) fun _ => C_rowT r s h.1 h'.1
      rw [int_self] at this
      exact this
    refine C_cons hr fun e => C_one ?_
    have e3 := int_eq (then_eq e).1
    have := C_law (.cons r2 rs) (.cons s2 ss) h.2 h'.2
    unfold cB at this
    rw [show szs (.cons r2 rs) = szs (.cons s2 ss) by omega, show len (.cons r2 rs) = len (.cons s2 ss) by omega, int_self, int_self] at this
    exact this
end
mutual
theorem row_eq : ∀ r s : RW, (compare (kn r) (kn s)).then (cP r s) = .eq → r = s
  | .jump k n, .jump k' n', h => by
    obtain ⟨h1, h2⟩ := then_eq h
    have h1 := int_eq h1
    rw [int_eq h2]
    cases k <;> cases k' <;> first | rfl | (exfalso; simp [kn] at h1; done)
  | .stop i n l, .stop i' n' l', h => by
    obtain ⟨_, h2⟩ := then_eq h
    obtain ⟨h3, h4⟩ := then_eq h2
    obtain ⟨h5, h6⟩ := then_eq h4
    rw [int_eq h3, int_eq h5, str_eq h6]
  | .call x, .call y, h => by rw [str_eq (then_eq h).2]
  | .ife c a b, .ife c' a' b', h => by
    obtain ⟨_, h2⟩ := then_eq h
    obtain ⟨h3, h4⟩ := then_eq h2
    obtain ⟨h5, h6⟩ := then_eq h4
    rw [cb_eq h3, rows_eq a a' (then_eq (then_eq h5).2).2, rows_eq b b' (then_eq (then_eq h6).2).2]
  | .whl c a, .whl c' a', h => by
    obtain ⟨_, h2⟩ := then_eq h
    obtain ⟨h3, h4⟩ := then_eq h2
    rw [cb_eq h3, rows_eq a a' (then_eq (then_eq h4).2).2]
  | .fr a, .fr a', h => by
    obtain ⟨_, h4⟩ := then_eq h
    rw [rows_eq a a' (then_eq (then_eq h4).2).2]
  | .jump k _, .stop _ _ _, e | .jump k _, .call _, e | .jump k _, .ife _ _ _, e | .jump k _, .whl _ _, e | .jump k _, .fr _, e => by have := int_eq (then_eq e).1; cases k <;> cases this
  | .stop _ _ _, .jump k _, e | .call _, .jump k _, e | .ife _ _ _, .jump k _, e | .whl _ _, .jump k _, e | .fr _, .jump k _, e => by have := int_eq (then_eq e).1; cases k <;> cases this
  | .stop _ _ _, .call _, e | .stop _ _ _, .ife _ _ _, e | .stop _ _ _, .whl _ _, e | .stop _ _ _, .fr _, e => by have := int_eq (then_eq e).1; cases this
  | .call _, .stop _ _ _, e | .call _, .ife _ _ _, e | .call _, .whl _ _, e | .call _, .fr _, e => by have := int_eq (then_eq e).1; cases this
  | .ife _ _ _, .stop _ _ _, e | .ife _ _ _, .call _, e | .ife _ _ _, .whl _ _, e | .ife _ _ _, .fr _, e => by have := int_eq (then_eq e).1; cases this
  | .whl _ _, .stop _ _ _, e | .whl _ _, .call _, e | .whl _ _, .ife _ _ _, e | .whl _ _, .fr _, e => by have := int_eq (then_eq e).1; cases this
  | .fr _, .stop _ _ _, e | .fr _, .call _, e | .fr _, .ife _ _ _, e | .fr _, .whl _ _, e => by have := int_eq (then_eq e).1; cases this
theorem rows_eq : ∀ a b : RL, cL a b = .eq → a = b
  | .nil, .nil, _ => rfl
  | .nil, .cons _ _, h => by cases h
  | .cons _ _, .nil, h => by cases h
  | .cons r rs, .cons s ss, h => by
    obtain ⟨h1, h2⟩ := then_eq h
    rw [row_eq r s (then_eq h1).2, rows_eq rs ss h2]
end
mutual
theorem GL_row : ∀ r s : RW, GL ((compare (kn r) (kn s)).then (cP r s)) ((compare (kn s) (kn r)).then (cP s r))
  | .jump k n, .jump k' n' => (GL_int _ _).then fun _ => GL_int _ _
  | .stop i n l, .stop i' n' l' => (GL_int _ _).then fun _ => (GL_int _ _).then fun _ => (GL_int _ _).then fun _ => GL_str _ _
  | .call x, .call y => (GL_int _ _).then fun _ => GL_str _ _
  | .ife c a b, .ife c' a' b' => (GL_int _ _).then fun _ => (GL_cb _ _).then fun _ => ((GL_int _ _).then fun _ => (GL_int _ _).then fun _ => GL_rows a a').then fun _ => (GL_int _ _).then fun _ => (GL_int _ _).then fun _ => GL_rows b b'
  | .whl c a, .whl c' a' => (GL_int _ _).then fun _ => (GL_cb _ _).then fun _ => (GL_int _ _).then fun _ => (GL_int _ _).then fun _ => GL_rows a a'
  | .fr a, .fr a' => (GL_int _ _).then fun _ => (GL_int _ _).then fun _ => (GL_int _ _).then fun _ => GL_rows a a'
  | .jump k _, .stop _ _ _ | .jump k _, .call _ | .jump k _, .ife _ _ _ | .jump k _, .whl _ _ | .jump k _, .fr _ => (GL_int _ _).then fun e => by have := int_eq e; cases k <;> cases this
  | .stop _ _ _, .jump k _ | .call _, .jump k _ | .ife _ _ _, .jump k _ | .whl _ _, .jump k _ | .fr _, .jump k _ => (GL_int _ _).then fun e => by have := int_eq e; cases k <;> cases this
  | .stop _ _ _, .call _ | .stop _ _ _, .ife _ _ _ | .stop _ _ _, .whl _ _ | .stop _ _ _, .fr _ => (GL_int _ _).then fun e => by have := int_eq e; cases this
  | .call _, .stop _ _ _ | .call _, .ife _ _ _ | .call _, .whl _ _ | .call _, .fr _ => (GL_int _ _).then fun e => by have := int_eq e; cases this
  | .ife _ _ _, .stop _ _ _ | .ife _ _ _, .call _ | .ife _ _ _, .whl _ _ | .ife _ _ _, .fr _ => (GL_int _ _).then fun e => by have := int_eq e; cases this
  | .whl _ _, .stop _ _ _ | .whl _ _, .call _ | .whl _ _, .ife _ _ _ | .whl _ _, .fr _ => (GL_int _ _).then fun e => by have := int_eq e; cases this
  | .fr _, .stop _ _ _ | .fr _, .call _ | .fr _, .ife _ _ _ | .fr _, .whl _ _ => (GL_int _ _).then fun e => by have := int_eq e; cases this
theorem GL_rows : ∀ a b : RL, GL (cL a b) (cL b a)
  | .nil, .nil => ⟨fun _ => rfl, fun h => by cases h⟩
  | .nil, .cons _ _ => ⟨(fun h => by cases h), (fun h => by cases h)⟩
  | .cons _ _, .nil => ⟨(fun h => by cases h), fun _ => rfl⟩
  | .cons r rs, .cons s ss => ((GL_int _ _).then fun _ => GL_row r s).then fun _ => GL_rows rs ss
end
mutual
theorem row_self : ∀ r : RW, cP r r = .eq
  | .jump k n => int_self n
  | .stop i n l => by
    show (compare i i).then ((compare n n).then (cS l l)) = _
    rw [int_self, int_self]
    show cS l l = _
    unfold cS; rw [if_pos rfl]
  | .call x => by show cS x x = _; unfold cS; rw [if_pos rfl]
  | .ife c a b => by
    show (cC c c).then (((compare (szs a) (szs a)).then ((compare (len a) (len a)).then (cL a a))).then ((compare (szs b) (szs b)).then ((compare (len b) (len b)).then (cL b b)))) = _
    rw [show cC c c = .eq by unfold cC; rw [if_pos (eqv_self c)], int_self, int_self, int_self, int_self, rows_self a, rows_self b]; rfl
  | .whl c a => by
    show (cC c c).then ((compare (szs a) (szs a)).then ((compare (len a) (len a)).then (cL a a))) = _
    rw [show cC c c = .eq by unfold cC; rw [if_pos (eqv_self c)], int_self, int_self, rows_self a]; rfl
  | .fr a => by
    show (compare (szs a) (szs a)).then ((compare (len a) (len a)).then (cL a a)) = _
    rw [int_self, int_self, rows_self a]; rfl
theorem rows_self : ∀ a : RL, cL a a = .eq
  | .nil => rfl
  | .cons r rs => by
    show ((compare (sz r) (sz r)).then ((compare (kn r) (kn r)).then (cP r r))).then (cL rs rs) = _
    rw [int_self, int_self, row_self r, rows_self rs]; rfl
end
theorem GL_block (a b : RL) : GL (cB a b) (cB b a) := (GL_int _ _).then fun _ => (GL_int _ _).then fun _ => GL_rows a b
theorem block_eq {a b : RL} (h : cB a b = .eq) : a = b := rows_eq a b (then_eq (then_eq h).2).2
theorem eqvAll_lt : ∀ xs ys : List PyData, PyData.eqvAll xs ys = true → dLts xs ys = some false
  | [], [], _ => by simp [dLts]
  | [], _ :: _, h => by cases h
  | _ :: _, [], h => by cases h
  | x :: xs, y :: ys, h => by
    have h : (PyData.eqv x y && PyData.eqvAll xs ys) = true := h
    rw [Bool.and_eq_true] at h
    unfold dLts
    rw [if_pos h.1]
    exact eqvAll_lt xs ys h.2
theorem C_dLt {xs ys : List PyData} {o : Ordering} (h : C (.tuple xs) (.tuple ys) o) : dLt (.tuple xs) (.tuple ys) = some (o == .lt) := by
  cases o with
  | eq =>
    show dLt _ _ = some false
    have h : PyData.eqvAll xs ys = true := h
    unfold dLt
    exact eqvAll_lt xs ys h
  | lt => exact h.2
  | gt => exact h.2
theorem lkd_tup (a : RL) : ∃ xs, lkd a = .tuple xs := by
  cases a with
  | nil => exact ⟨_, rfl⟩
  | cons r rs => exact ⟨_, lkd_form r rs⟩
/-- the two orders agree; of two blocks that differ one comes first -/
theorem orders {a b : RL} (ha : oks a) (hb : oks b) : ∃ u v : Bool, dLt (bkd a) (bkd b) = some u ∧ dLt (bkd b) (bkd a) = some v ∧ dLt (lkd a) (lkd b) = some u ∧ dLt (lkd b) (lkd a) = some v ∧ (u = false → v = false → a = b) ∧ (a = b → u = false) := by
  obtain ⟨xs, ex⟩ := lkd_tup a
  obtain ⟨ys, ey⟩ := lkd_tup b
  have l1 := C_law a b ha hb
  have l2 := C_law b a hb ha
  rw [ex, ey] at l1 l2
  have self : ∀ c : RL, oks c → (cB c c == .lt) = false := fun c hc => by
    cases h : cB c c with
    | eq => rfl
    | gt => rfl
    | lt =>
      unfold cB at h
      rw [int_self, int_self, rows_self] at h
      cases h
  refine ⟨cB a b == .lt, cB b a == .lt, C_dLt (C_block a b), C_dLt (C_block b a), by rw [ex, ey]; exact C_dLt l1, by rw [ex, ey]; exact C_dLt l2, fun h1 h2 => ?_, fun e => by subst e; exact self a ha⟩
  cases h : cB a b with
  | eq => exact block_eq h
  | lt => rw [h] at h1; cases h1
  | gt =>
    have := (GL_block a b).2 h
    rw [this] at h2; cases h2
end K69

set_option maxHeartbeats 4000000
namespace K69
open PySem L2 U
/-! ### values -/
def jw (k : Bool) : Str := if k = true then "continue" else "break"
def rn (i n : Int) (l : Str) : Str := if i = 0 then (if n = 0 then "return" else ("return " : Str) ++ Str.ofString (toString (n - 1))) else if i = 1 then ("break " : Str) ++ l else ("continue " : Str) ++ l
mutual
def rv : RW → PV
  | .jump k n => .tup [.str (jw k), .int n]
  | .stop i n l => .tup [.str "stop", .str (rn i n l)]
  | .call x => .tup [.str "call", .str x]
  | .ife c a b => .tup [.str "if", c.pv, .tup (rl a), .tup (rl b)]
  | .whl c a => .tup [.str "while", .non, c.pv, .tup (rl a)]
  | .fr a => .tup [.str "for", .non, .tup (rl a)]
def rl : RL → List PV
  | .nil => []
  | .cons r rs => rv r :: rl rs
end
def tl : RL → List RW
  | .nil => []
  | .cons r rs => r :: tl rs
mutual
/-- how deep, at the most -/
def dr : RW → Nat
  | .jump _ _ => 1
  | .stop _ _ _ => 2
  | .call _ => 1
  | .ife c a b => 1 + max c.lc (max (dp a) (dp b))
  | .whl c a => 1 + max c.lc (dp a)
  | .fr a => 1 + dp a
def dp : RL → Nat
  | .nil => 1
  | .cons r rs => 1 + max (dr r) (dp rs)
end
theorem rl_tl : ∀ a : RL, rl a = (tl a).map rv
  | .nil => rfl
  | .cons r rs => by rw [rl, tl, List.map_cons, rl_tl rs]
theorem bkl_tl : ∀ a : RL, bkl a = (tl a).map skd
  | .nil => rfl
  | .cons r rs => by rw [bkl, tl, List.map_cons, bkl_tl rs]
theorem szs_tl : ∀ a : RL, szs a = ((tl a).map sz).sum
  | .nil => rfl
  | .cons r rs => by rw [szs, tl, List.map_cons, List.sum_cons, szs_tl rs]
theorem len_tl : ∀ a : RL, len a = ((tl a).length : Int)
  | .nil => rfl
  | .cons r rs => by rw [len, tl, List.length_cons, len_tl rs]; omega
theorem len_dp : ∀ a : RL, (tl a).length ≤ dp a
  | .nil => by simp [tl]
  | .cons r rs => by
    have := len_dp rs
    rw [tl, dp, List.length_cons]; omega
mutual
theorem pure_rv : ∀ r : RW, PV.pure (rv r) = true
  | .jump k n => rfl
  | .stop i n l => rfl
  | .call x => rfl
  | .ife c a b => by
    show (true && (PV.pure c.pv && (PV.pureL (rl a) && (PV.pureL (rl b) && true)))) = true
    rw [(CB.pure_pv c).1, pure_rl a, pure_rl b]; rfl
  | .whl c a => by
    show (true && (true && (PV.pure c.pv && (PV.pureL (rl a) && true)))) = true
    rw [(CB.pure_pv c).1, pure_rl a]; rfl
  | .fr a => by
    show (true && (true && (PV.pureL (rl a) && true))) = true
    rw [pure_rl a]; rfl
theorem pure_rl : ∀ a : RL, PV.pureL (rl a) = true
  | .nil => rfl
  | .cons r rs => by
    show (PV.pure (rv r) && PV.pureL (rl rs)) = true
    rw [pure_rv r, pure_rl rs]; rfl
end
mutual
/-- data as a value -/
def up : PyData → PV
  | .none => .non
  | .bool b => .bl b
  | .int i => .int i
  | .str x => .str x
  | .tuple xs => .tup (ups xs)
  | .list _ => .non
  | .dict _ => .non
def ups : List PyData → List PV
  | [] => []
  | x :: xs => up x :: ups xs
end
theorem ups_map : ∀ xs : List PyData, ups xs = xs.map up
  | [] => rfl
  | x :: xs => by rw [ups, List.map_cons, ups_map xs]
theorem up_key : ∀ c : CB, up c.kd = c.key
  | .call _ => rfl
  | .no _ => rfl
  | .ch k l r => by
    show PV.tup [.int _, .int _, up l.kd, up r.kd] = _
    rw [up_key l, up_key r]; rfl
mutual
theorem pure_up : ∀ d : PyData, PV.pure (up d) = true
  | .none => rfl
  | .bool b => rfl
  | .int i => rfl
  | .str x => rfl
  | .tuple xs => pure_ups xs
  | .list _ => rfl
  | .dict _ => rfl
theorem pure_ups : ∀ xs : List PyData, PV.pureL (ups xs) = true
  | [] => rfl
  | x :: xs => by
    show (PV.pure (up x) && PV.pureL (ups xs)) = true
    rw [pure_up x, pure_ups xs]; rfl
end
/-! ### sizes -/
namespace CB
theorem op_ch {k0 : Bool} {L : List PV} (k : Nat) (st : Store) : evCall TURNS D (k + 1) 13 [.tup [.str (wd k0), .tup L]] st = .ok (.tup L) st := by
  have c1 : ∀ st, cmpV .eq (.str (wd k0)) (.str "not") st = some false := fun _ => by cases k0 <;> rfl
  have c2 : ∀ st, cmpV .inn (.str (wd k0)) (.tup [.str "and", .str "or"]) st = some true := fun _ => by cases k0 <;> rfl
  rw [evCall]
  simp [D, d13, evSs, evS, ev, evA, evCs, ME.held, leave_id, sizeLine_eq, c1, c2]
theorem sum_int (f : CB → Int) (qs : List CB) (st : Store) : biV .sum [.fl (qs.map fun q => .int (f q))] st = some (.int (qs.map f).sum) := by
  show (intsL (qs.map fun q => .int (f q))).map (fun ns => PV.int ns.sum) = _
  rw [intsL_map, Option.map_some]
theorem lcs_int (qs : List CB) : (qs.map fun q => (lc q : Int)).sum = (lcs qs : Int) := by
  induction qs with
  | nil => rfl
  | cons q qs ih =>
    rw [List.map_cons, List.sum_cons, ih]
    show (lc q : Int) + (lcs qs : Int) = ((lc q + lcs qs : Nat) : Int)
    omega
theorem csize : ∀ c : CB, lc c ≤ 1000 → (∀ k st, evCall TURNS D (k + lc c + 1) 17 [pv c] st = .ok (.int (lc c)) st) ∧ ∀ kk, ∀ p ∈ c.ps kk, ∀ k st, evCall TURNS D (k + lc c + 1) 17 [pv p] st = .ok (.int (lc p)) st := by
  have i1 : ∀ st, cmpV .inn (.str "call") (.tup [.str "call", .str "flag"]) st = some true := fun _ => rfl
  have i2 : ∀ st, cmpV .inn (.str "not") (.tup [.str "call", .str "flag"]) st = some false := fun _ => rfl
  intro c
  induction c with
  | call x =>
    intro hz
    have h : ∀ k st, evCall TURNS D (k + 1) 17 [.tup [.str "call", .str x]] st = .ok (.int 1) st := fun k st => by
      rw [evCall]
      simp [D, d17, evSs, evS, ev, evA, evCs, ME.held, leave_id, i1, sizeLine_eq]
    exact ⟨fun k st => h (k + 1) st, fun kk p hp => by rw [List.mem_singleton.mp hp]; exact fun k st => h (k + 1) st⟩
  | no x =>
    intro hz
    have h0 : ∀ k st, evCall TURNS D (k + 1) 17 [.tup [.str "call", .str x]] st = .ok (.int 1) st := fun k st => by
      rw [evCall]
      simp [D, d17, evSs, evS, ev, evA, evCs, ME.held, leave_id, i1, sizeLine_eq]
    have h : ∀ k st, evCall TURNS D (k + 2) 17 [.tup [.str "not", .tup [.str "call", .str x]]] st = .ok (.int 1) st := fun k st => by
      have e13 : evCall TURNS D (k + 1) 13 [.tup [.str "not", .tup [.str "call", .str x]]] st = .ok (.tup [.tup [.str "call", .str x]]) st := by
        rw [evCall]
        simp [D, d13, evSs, evS, ev, evA, evCs, ME.held, leave_id, sizeLine_eq]
      have lc0 : ∀ v : PV, lcLoop (fun _ s => .ok true s) (ev (evCall TURNS D (k + 1)) e17_0 .val) (MG.put (.nm 1)) [some v, none] (.items [.tup [.str "call", .str x]]) 0 1 [] st = .ok (.fl [.int 1]) st := fun v => by
        refine lc_each (xs := [.tup [.str "call", .str x]]) (fun _ => .int 1) (by simp) (by simp) fun y hy env' _ h2 => ?_
        rw [List.mem_singleton.mp hy] at h2
        refine ⟨?_, rfl⟩
        simp [e17_0, ev, evA, h2, h0]
      have sm : biV .sum [.fl [.int 1]] st = some (.int 1) := rfl
      rw [show k + 2 = (k + 1) + 1 by omega, evCall]
      simp [D, d17, evSs, evS, ev, evA, evCs, ME.held, leave_id, sizeLine_eq, i2, e13, srcV, Src.many, MG.slots, U.wipe, lc0, sm]
    exact ⟨fun k st => h k st, fun kk p hp => by rw [List.mem_singleton.mp hp]; exact fun k st => h k st⟩
  | ch k0 l r ihl ihr =>
    intro hz
    have p1 := lc_pos l
    have p2 := lc_pos r
    have hz : lc l + lc r ≤ 1000 := hz
    obtain ⟨il, _⟩ := ihl (by omega)
    obtain ⟨_, irs⟩ := ihr (by omega)
    obtain ⟨qs, hqs⟩ : ∃ qs, qs = (CB.ch k0 l r).ps k0 := ⟨_, rfl⟩
    have hq : qs = l :: r.ps k0 := by rw [hqs, ps, if_pos rfl]
    have zq : lcs qs = lc l + lc r := by rw [hqs]; exact lcs_ps (.ch k0 l r) k0
    have lq : qs.length ≤ 1000 := by
      have := len_lk (.ch k0 l r) k0
      rw [lk_ps, List.length_map, ← hqs] at this
      exact Nat.le_trans this hz
    have ip : ∀ q ∈ qs, ∀ k st, evCall TURNS D (k + (lc l + lc r)) 17 [pv q] st = .ok (.int (lc q)) st := fun q hm k st => by
      rw [hq] at hm
      rcases List.mem_cons.mp hm with rfl | hm
      · have := il (k + (lc r - 1)) st
        rwa [show k + (lc r - 1) + lc q + 1 = k + (lc q + lc r) by omega] at this
      · have := irs k0 q hm (k + (lc l - 1)) st
        rwa [show k + (lc l - 1) + lc r + 1 = k + (lc l + lc r) by omega] at this
    have epv : pv (.ch k0 l r) = .tup [.str (wd k0), .tup (qs.map pv)] := by rw [pv_ch, hq, List.map_cons, lk_ps]
    have h : ∀ k st, evCall TURNS D (k + lc (.ch k0 l r) + 1) 17 [pv (.ch k0 l r)] st = .ok (.int (lc (.ch k0 l r))) st := fun k st => by
      have i3 : ∀ st, cmpV .inn (.str (wd k0)) (.tup [.str "call", .str "flag"]) st = some false := fun _ => by cases k0 <;> rfl
      have e13 := op_ch (k0 := k0) (L := qs.map pv) (k + (lc l + lc r) - 1) st
      rw [show k + (lc l + lc r) - 1 + 1 = k + (lc l + lc r) by omega] at e13
      have lc0 : ∀ v : PV, lcLoop (fun _ s => .ok true s) (ev (evCall TURNS D (k + (lc l + lc r))) e17_0 .val) (MG.put (.nm 1)) [some v, none] (.items (qs.map pv)) 0 qs.length [] st = .ok (.fl (qs.map fun q => .int (lc q))) st := fun v => by
        refine lc_own pv (fun q => .int (lc q)) qs (by omega) (by simp) fun q hm env' _ h2 => ⟨?_, rfl⟩
        have i := ip q hm k st
        simp [e17_0, ev, evA, h2, varV_p (pure_pv q).1, esc_p (pure_pv q).1, i]
      have sm := sum_int (fun q => (lc q : Int)) qs st
      rw [lcs_int, zq] at sm
      have zi : ((lc (.ch k0 l r) : Nat) : Int) = ((lc l + lc r : Nat) : Int) := rfl
      rw [epv, zi]
      generalize ((lc l + lc r : Nat) : Int) = S at *
      rw [show k + lc (.ch k0 l r) + 1 = (k + (lc l + lc r)) + 1 from rfl, evCall]
      simp [D, d17, evSs, evS, ev, evA, evCs, ME.held, leave_id, sizeLine_eq, i3, e13, srcV, Src.many, MG.slots, U.wipe, lc0, sm]
    refine ⟨h, fun kk p hp k st => ?_⟩
    rw [ps] at hp
    split at hp
    · rcases List.mem_cons.mp hp with rfl | hp
      · have := il (k + lc r) st
        rw [show k + lc (.ch k0 p r) + 1 = k + lc r + lc p + 1 by show k + (lc p + lc r) + 1 = _; omega]
        exact this
      · have := irs kk p hp (k + lc l) st
        rw [show k + lc (.ch k0 l r) + 1 = k + lc l + lc r + 1 by show k + (lc l + lc r) + 1 = _; omega]
        exact this
    · rw [List.mem_singleton.mp hp]; exact h k st
end CB
/-- conditions and bodies of a row -/
def rcs : RW → List CB
  | .ife c _ _ => [c]
  | .whl c _ => [c]
  | _ => []
def rbs : RW → List RL
  | .ife _ a b => [a, b]
  | .whl _ a => [a]
  | .fr a => [a]
  | _ => []
theorem getB (st : Store) : getV [("if", (.int 2)), ("while", (.int 1)), ("for", (.int 1)), ("try", (.int 2)), ("block", (.int 1))] (.str "call") (.int 0) = some (.int 0) ∧
  getV [("if", (.int 2)), ("while", (.int 1)), ("for", (.int 1)), ("try", (.int 2)), ("block", (.int 1))] (.str "break") (.int 0) = some (.int 0) ∧
  getV [("if", (.int 2)), ("while", (.int 1)), ("for", (.int 1)), ("try", (.int 2)), ("block", (.int 1))] (.str "continue") (.int 0) = some (.int 0) ∧
  getV [("if", (.int 2)), ("while", (.int 1)), ("for", (.int 1)), ("try", (.int 2)), ("block", (.int 1))] (.str "stop") (.int 0) = some (.int 0) ∧
  getV [("if", (.int 2)), ("while", (.int 1)), ("for", (.int 1)), ("try", (.int 2)), ("block", (.int 1))] (.str "if") (.int 0) = some (.int 2) ∧
  getV [("if", (.int 2)), ("while", (.int 1)), ("for", (.int 1)), ("try", (.int 2)), ("block", (.int 1))] (.str "while") (.int 0) = some (.int 1) ∧
  getV [("if", (.int 2)), ("while", (.int 1)), ("for", (.int 1)), ("try", (.int 2)), ("block", (.int 1))] (.str "for") (.int 0) = some (.int 1) := by
  refine ⟨?_, ?_, ?_, ?_, ?_, ?_, ?_⟩ <;> rfl
theorem getO : getV [("try", (.int 2)), ("block", (.int 0))] (.str "call") (.int 1) = some (.int 1) ∧ getV [("try", (.int 2)), ("block", (.int 0))] (.str "break") (.int 1) = some (.int 1) ∧ getV [("try", (.int 2)), ("block", (.int 0))] (.str "continue") (.int 1) = some (.int 1) ∧
  getV [("try", (.int 2)), ("block", (.int 0))] (.str "stop") (.int 1) = some (.int 1) ∧ getV [("try", (.int 2)), ("block", (.int 0))] (.str "if") (.int 1) = some (.int 1) ∧ getV [("try", (.int 2)), ("block", (.int 0))] (.str "while") (.int 1) = some (.int 1) ∧
  getV [("try", (.int 2)), ("block", (.int 0))] (.str "for") (.int 1) = some (.int 1) := by
  refine ⟨?_, ?_, ?_, ?_, ?_, ?_, ?_⟩ <;> rfl
theorem sl_tup' (xs : List PV) (lo hi : Option Int) (st : Store) : slV (.tup xs) lo hi st = some (.tup (cutL xs lo hi)) := rfl
theorem e11 (r : RW) (k : Nat) (st : Store) : evCall TURNS D (k + 1) 11 [rv r] st = .ok (.tup ((rbs r).map fun a => .tup (rl a))) st := by
  obtain ⟨g1, g2, g3, g4, g5, g6, g7⟩ := getB []
  have cu : ∀ (A B : List PV) (i : Int), i = (A.length : Int) → ∀ st, slV (.tup (A ++ B)) (some i) none st = some (.tup B) := fun A B i h st => by rw [sl_tup', cutL_hi (α := PV) A B i h]
  rw [evCall]
  cases r with
  | jump k n =>
    have c := cu [.str (jw k), .int n] [] 2 rfl
    cases k <;> simp [D, d11, rv, rbs, jw, evSs, evS, ev, evA, evCs, ME.held, leave_id, g2, g3, ME.absent, bound_non, bound_int] at c ⊢ <;> simp [c, leave_id]
  | stop i n l =>
    have c := cu [.str "stop", .str (rn i n l)] [] 2 rfl
    simp at c
    simp [D, d11, rv, rbs, evSs, evS, ev, evA, evCs, ME.held, leave_id, g4, ME.absent, bound_non, bound_int, c]
  | call x =>
    have c := cu [.str "call", .str x] [] 2 rfl
    simp at c
    simp [D, d11, rv, rbs, evSs, evS, ev, evA, evCs, ME.held, leave_id, g1, ME.absent, bound_non, bound_int, c]
  | ife p a b =>
    have c := cu [.str "if", p.pv] [.tup (rl a), .tup (rl b)] 2 rfl
    simp at c
    simp [D, d11, rv, rbs, evSs, evS, ev, evA, evCs, ME.held, leave_id, g5, ME.absent, bound_non, bound_int, c]
  | whl p a =>
    have c := cu [.str "while", .non, p.pv] [.tup (rl a)] 3 rfl
    simp at c
    simp [D, d11, rv, rbs, evSs, evS, ev, evA, evCs, ME.held, leave_id, g6, ME.absent, bound_non, bound_int, c]
  | fr a =>
    have c := cu [.str "for", .non] [.tup (rl a)] 2 rfl
    simp at c
    simp [D, d11, rv, rbs, evSs, evS, ev, evA, evCs, ME.held, leave_id, g7, ME.absent, bound_non, bound_int, c]
theorem e12 (r : RW) (k : Nat) (st : Store) : evCall TURNS D (k + 1) 12 [rv r] st = .ok (.tup ((rcs r).map CB.pv)) st := by
  rw [evCall]
  cases r with
  | jump k n => cases k <;> simp [D, d12, rv, rcs, jw, evSs, evS, ev, evA, evCs, ME.held, leave_id, sizeLine_eq]
  | stop i n l => simp [D, d12, rv, rcs, evSs, evS, ev, evA, evCs, ME.held, leave_id, sizeLine_eq]
  | call x => simp [D, d12, rv, rcs, evSs, evS, ev, evA, evCs, ME.held, leave_id, sizeLine_eq]
  | ife p a b =>
    have ep := esc_p (CB.pure_pv p).1
    simp [D, d12, rv, rcs, evSs, evS, ev, evA, evCs, ME.held, leave_id, sizeLine_eq, ep]
  | whl p a =>
    have ep := esc_p (CB.pure_pv p).1
    simp [D, d12, rv, rcs, evSs, evS, ev, evA, evCs, ME.held, leave_id, sizeLine_eq, ep]
  | fr a => simp [D, d12, rv, rcs, evSs, evS, ev, evA, evCs, ME.held, leave_id, sizeLine_eq]
end K69

set_option maxHeartbeats 4000000
namespace K69
open PySem L2 U
/-! ### the stops that are drawn -/
def labels : List Str := ["loop1", "loop2", "out_1", "loop12", "ab", "a"]
def ST : List (Int × Int × Str) := (0, 0, "") :: ((List.range 100).map (fun (n : Nat) => ((0 : Int), (n : Int) + 1, ("" : Str))) ++ (labels.map (fun l => ((1 : Int), (0 : Int), l)) ++ labels.map (fun l => ((2 : Int), (0 : Int), l))))
def stopB (i n : Int) (l : Str) : Bool :=
  let s := rn i n l
  let p := Txt.partition s " "
  decide (0 ≤ i) && decide (i ≤ 2) && decide (0 ≤ n) && decide (s.length ≤ 600) && decide (p.1 = if i = 0 then "return" else if i = 1 then "break" else "continue") && decide (p.2.2.length ≤ 600) &&
  (if i = 0 ∧ ¬ n = 0 then decide (l = "") && decide (p.2.2.length ≠ 0) && decide (PySem.intText? p.2.2 = some (n - 1)) else decide (n = 0) && decide (p.2.2 = l) && (if i = 0 then decide (l = "") else true)) &&
  (if i = 0 then (if n = 0 then decide (s = "return") else decide (¬ s = "return") && decide (L2.cutS s none (some 7) = "return ") && decide ((L2.cutS s (some 7) none).length ≤ 600) && decide (PySem.intText? (L2.cutS s (some 7) none) = some (n - 1)))
   else decide (¬ s = "return") && decide (¬ L2.cutS s none (some 7) = "return ") && (if i = 1 then decide (L2.cutS s none (some 6) = "break ") && decide (L2.cutS s (some 6) none = l) else decide (¬ L2.cutS s none (some 6) = "break ") && decide (L2.cutS s (some 9) none = l))) &&
  decide (l.length ≤ 60) && l.cps.toList.all fun c => decide (c < 256)
theorem stops : ST.all (fun t => stopB t.1 t.2.1 t.2.2) = true := by decide +kernel
theorem stop_of {i n : Int} {l : Str} (h : (i, n, l) ∈ ST) : stopB i n l = true := List.all_eq_true.mp stops _ h
mutual
/-- as they are drawn -/
def vr : RW → Prop
  | .jump _ _ => True
  | .stop i n l => (i, n, l) ∈ ST
  | .call x => B 60 x
  | .ife c a b => c.nb ∧ vl a ∧ vl b
  | .whl c a => c.nb ∧ vl a
  | .fr a => vl a
def vl : RL → Prop
  | .nil => True
  | .cons r rs => vr r ∧ vl rs
end
theorem sv_of {i n : Int} {l : Str} (h : (i, n, l) ∈ ST) : SV i n l := by
  have := stop_of h
  unfold stopB at this
  simp only [Bool.and_eq_true, decide_eq_true_eq] at this
  obtain ⟨⟨⟨⟨⟨⟨⟨⟨⟨a1, a2⟩, a3⟩, a4⟩, a5⟩, a6⟩, a7⟩, a8⟩, a9⟩, a10⟩ := this
  unfold SV
  by_cases h0 : i = 0
  · refine .inl ⟨h0, a3, ?_⟩
    by_cases hn : n = 0
    · rw [if_neg (fun e => e.2 hn), if_pos h0] at a7
      simp only [Bool.and_eq_true, decide_eq_true_eq] at a7
      exact a7.2
    · rw [if_pos ⟨h0, hn⟩] at a7
      simp only [Bool.and_eq_true, decide_eq_true_eq] at a7
      exact a7.1.1
  · rw [if_neg (fun e => h0 e.1)] at a7
    simp only [Bool.and_eq_true, decide_eq_true_eq] at a7
    exact .inr ⟨by omega, a7.1.1⟩
mutual
theorem ok_of : ∀ r : RW, vr r → ok r
  | .jump _ _, _ => trivial
  | .stop _ _ _, h => sv_of h
  | .call _, _ => trivial
  | .ife _ a b, h => ⟨oks_of a h.2.1, oks_of b h.2.2⟩
  | .whl _ a, h => oks_of a h.2
  | .fr a, h => oks_of a h
theorem oks_of : ∀ a : RL, vl a → oks a
  | .nil, _ => trivial
  | .cons r rs, h => ⟨ok_of r h.1, oks_of rs h.2⟩
end
theorem lc_nil {call : Nat → List PV → Store → Res PV} {elt : ME} {g : MG} {env : En} {st : Store} : lcLoop (fun _ s => .ok true s) (ev call elt .val) g.put env (.items []) 0 0 [] st = .ok (.fl []) st := rfl
theorem sum_nil (st : Store) : biV .sum [.fl []] st = some (.int 0) := rfl
theorem sum_rw (f : RW → Int) (qs : List RW) (st : Store) : biV .sum [.fl (qs.map fun q => .int (f q))] st = some (.int (qs.map f).sum) := by
  show (intsL (qs.map fun q => .int (f q))).map (fun ns => PV.int ns.sum) = _
  rw [intsL_map, Option.map_some]
theorem blk {a : RL} {n : Nat} (hl : (tl a).length ≤ 1000) (H : ∀ r ∈ tl a, ∀ st, evCall TURNS D n 15 [rv r] st = .ok (.int (sz r)) st) (st : Store) : evCall TURNS D (n + 1) 14 [.tup (rl a)] st = .ok (.int (szs a)) st := by
  have lc0 : lcLoop (fun _ s => .ok true s) (ev (evCall TURNS D n) e14_0 .val) (MG.put (.nm 1)) [some (.tup ((tl a).map rv)), none] (.items ((tl a).map rv)) 0 (tl a).length [] st = .ok (.fl ((tl a).map fun r => .int (sz r))) st := by
    refine lc_own rv (fun r => .int (sz r)) (tl a) (by omega) (by simp) fun r hr env' _ h2 => ⟨?_, rfl⟩
    have i := H r hr st
    simp [e14_0, ev, evA, h2, varV_p (pure_rv r), esc_p (pure_rv r), i]
  have sm := sum_rw sz (tl a) st
  rw [← szs_tl] at sm
  rw [rl_tl, evCall]
  generalize szs a = S at *
  simp [D, d14, evSs, evS, ev, evA, evCs, ME.held, leave_id, srcV, Src.many, MG.slots, U.wipe, lc0, sm]
theorem more (b : RL) (hl : (tl b).length ≤ 1000) (n : Nat) (st : Store) : evCall TURNS D (n + 1) 16 [.tup (rl b)] st = .ok (.bl (!(tl b).isEmpty)) st := by
  have nb : ∀ r : RW, ∃ w t, rv r = .tup (.str w :: t) ∧ ¬ w = "block" := fun r => by
    cases r with
    | jump k n => exact ⟨_, _, rfl, by cases k <;> simp [jw]⟩
    | stop i n l => exact ⟨_, _, rfl, by simp⟩
    | call x => exact ⟨_, _, rfl, by simp⟩
    | ife c a b => exact ⟨_, _, rfl, by simp⟩
    | whl c a => exact ⟨_, _, rfl, by simp⟩
    | fr a => exact ⟨_, _, rfl, by simp⟩
  have lc0 : lcLoop (fun _ s => .ok true s) (ev (evCall TURNS D n) e16_0 .val) (MG.put (.nm 1)) [some (.tup ((tl b).map rv)), none] (.items ((tl b).map rv)) 0 (tl b).length [] st = .ok (.fl ((tl b).map fun _ => .bl true)) st := by
    refine lc_own rv (fun _ => .bl true) (tl b) (by omega) (by simp) fun r hr env' _ h2 => ⟨?_, rfl⟩
    obtain ⟨w, t, e, ne⟩ := nb r
    rw [e] at h2
    simp [e16_0, ev, evA, h2, ne]
  have an : biV .any [.fl ((tl b).map fun _ => .bl true)] st = some (.bl (!(tl b).isEmpty)) := by
    have bm : ∀ qs : List RW, bools (qs.map fun _ => .bl true) = some (qs.map fun _ => true) := fun qs => by
      induction qs with
      | nil => rfl
      | cons q qs ih => show (bools (qs.map fun _ => .bl true)).map (true :: ·) = _; rw [ih]; rfl
    show (bools ((tl b).map fun _ => .bl true)).map (fun bs => PV.bl (bs.any id)) = _
    rw [bm]
    cases tl b <;> rfl
  rw [rl_tl, evCall]
  generalize (!(tl b).isEmpty) = t at *
  simp [D, d16, evSs, evS, ev, evA, evCs, ME.held, leave_id, srcV, Src.many, MG.slots, U.wipe, lc0, an]
mutual
theorem size_row : ∀ r : RW, vr r → dr r ≤ 500 → ∀ k st, evCall TURNS D (k + dr r + 3) 15 [rv r] st = .ok (.int (sz r)) st
  | .jump j n, hv, hd, k, st => by
    have q1 := e12 (.jump j n) (k + 2) st
    have q2 := e11 (.jump j n) (k + 2) st
    obtain ⟨o1, o2, o3, o4, o5, o6, o7⟩ := getO
    have er := esc_p (pure_rv (.jump j n))
    have vr := varV_p (pure_rv (.jump j n))
    simp only [rcs, rbs, List.map_nil] at q1 q2
    show evCall TURNS D ((k + 3) + 1) 15 _ st = _
    rw [evCall]
    rw [rv] at *
    cases j <;> simp [D, d15, jw, sz, evSs, evS, ev, evA, evCs, ME.held, leave_id, o2, o3, srcV, Src.many, MG.slots, U.wipe, lc_nil, sum_nil] at q1 q2 ⊢ <;> simp [q1, q2, srcV, lc_nil, sum_nil, leave_id, Src.many]
  | .stop i n l, hv, hd, k, st => by
    have q1 := e12 (.stop i n l) (k + 3) st
    have q2 := e11 (.stop i n l) (k + 3) st
    obtain ⟨o1, o2, o3, o4, o5, o6, o7⟩ := getO
    simp only [rcs, rbs, List.map_nil] at q1 q2
    show evCall TURNS D ((k + 4) + 1) 15 _ st = _
    rw [evCall]
    rw [rv] at *
    simp [D, d15, sz, evSs, evS, ev, evA, evCs, ME.held, leave_id, o4, srcV, Src.many, MG.slots, U.wipe, lc_nil, sum_nil, q1, q2]
  | .call x, hv, hd, k, st => by
    have q1 := e12 (.call x) (k + 2) st
    have q2 := e11 (.call x) (k + 2) st
    obtain ⟨o1, o2, o3, o4, o5, o6, o7⟩ := getO
    simp only [rcs, rbs, List.map_nil] at q1 q2
    show evCall TURNS D ((k + 3) + 1) 15 _ st = _
    rw [evCall]
    rw [rv] at *
    simp [D, d15, sz, evSs, evS, ev, evA, evCs, ME.held, leave_id, o1, srcV, Src.many, MG.slots, U.wipe, lc_nil, sum_nil, q1, q2]
  | .ife c a b, hv, hd, k, st => by
    have hd : 1 + max c.lc (max (dp a) (dp b)) ≤ 500 := hd
    generalize hN : k + (1 + max c.lc (max (dp a) (dp b))) + 2 = N
    have la := len_dp a
    have lb := len_dp b
    have ha := fun st => blk (a := a) (n := N - 1) (by omega) (fun r hr st => by
      have := size_rows a hv.2.1 (by omega) r hr (N - 1 - (dp a + 2)) st
      rwa [show N - 1 - (dp a + 2) + dp a + 2 = N - 1 by omega] at this) st
    have hb := fun st => blk (a := b) (n := N - 1) (by omega) (fun r hr st => by
      have := size_rows b hv.2.2 (by omega) r hr (N - 1 - (dp b + 2)) st
      rwa [show N - 1 - (dp b + 2) + dp b + 2 = N - 1 by omega] at this) st
    rw [show N - 1 + 1 = N by omega] at ha hb
    have hm := more b (by omega) (N - 1) st
    rw [show N - 1 + 1 = N by omega] at hm
    have hc := (CB.csize c (by omega)).1 (N - (c.lc + 1)) st
    rw [show N - (c.lc + 1) + c.lc + 1 = N by omega] at hc
    have q1 := e12 (.ife c a b) (N - 1) st
    have q2 := e11 (.ife c a b) (N - 1) st
    rw [show N - 1 + 1 = N by omega] at q1 q2
    simp only [rcs, rbs, List.map_cons, List.map_nil] at q1 q2
    obtain ⟨o1, o2, o3, o4, o5, o6, o7⟩ := getO
    have ec := esc_p (CB.pure_pv c).1
    have vc := varV_p (CB.pure_pv c).1
    have l1 : ∀ env : En, env.length = 4 → lcLoop (fun _ s => .ok true s) (ev (evCall TURNS D N) e15_1 .val) (MG.put (.nm 2)) env (.items [c.pv]) 0 1 [] st = .ok (.fl [.int c.lc]) st := fun env he => by
      refine lc_each (xs := [c.pv]) (fun _ => .int c.lc) (by simp) (by omega) fun y hy env' _ h2 => ?_
      rw [List.mem_singleton.mp hy] at h2
      refine ⟨?_, rfl⟩
      simp [e15_1, ev, evA, h2, vc, ec, hc]
    have l2 : ∀ env : En, env.length = 4 → lcLoop (fun _ s => .ok true s) (ev (evCall TURNS D N) e15_0 .val) (MG.put (.nm 3)) env (.items [.tup (rl a), .tup (rl b)]) 0 2 [] st = .ok (.fl [.int (szs a), .int (szs b)]) st := fun env he => by
      have := lc_own (call := evCall TURNS D N) (elt := e15_0) (i := 3) (env := env) (st := st) (fun x : RL => .tup (rl x)) (fun x => .int (szs x)) [a, b] (by simp) (by omega) fun q hq env' _ h2 => ⟨by
        have i : evCall TURNS D N 14 [.tup (rl q)] st = .ok (.int (szs q)) st := by
          simp only [List.mem_cons, List.not_mem_nil, or_false] at hq
          rcases hq with rfl | rfl
          · exact ha st
          · exact hb st
        simp [e15_0, ev, evA, h2, i], rfl⟩
      exact this
    have s1 : biV .sum [.fl [.int c.lc]] st = some (.int ((c.lc : Int) + 0)) := rfl
    have s2 : biV .sum [.fl [.int (szs a), .int (szs b)]] st = some (.int (szs a + (szs b + 0))) := rfl
    have er : (rv (.ife c a b)) = .tup [.str "if", c.pv, .tup (rl a), .tup (rl b)] := rfl
    have zz : sz (.ife c a b) = 1 + (c.lc : Int) + szs a + szs b + (if (!(tl b).isEmpty) = true then 1 else 0) := by
      cases b <;> rfl
    rw [er] at q1 q2
    rw [zz, er, show k + dr (.ife c a b) + 3 = N + 1 by rw [← hN]; rfl, evCall]
    cases ht : (!(tl b).isEmpty) <;> rw [ht] at hm <;> simp [D, d15, evSs, evS, ev, evA, evCs, ME.held, leave_id, o5, srcV, Src.many, MG.slots, U.wipe, hm, q1, q2, l1, l2, s1, s2, ec] <;> omega
  | .whl c a, hv, hd, k, st => by
    have hd : 1 + max c.lc (dp a) ≤ 500 := hd
    generalize hN : k + (1 + max c.lc (dp a)) + 2 = N
    have la := len_dp a
    have ha := fun st => blk (a := a) (n := N - 1) (by omega) (fun r hr st => by
      have := size_rows a hv.2 (by omega) r hr (N - 1 - (dp a + 2)) st
      rwa [show N - 1 - (dp a + 2) + dp a + 2 = N - 1 by omega] at this) st
    rw [show N - 1 + 1 = N by omega] at ha
    have hc := (CB.csize c (by omega)).1 (N - (c.lc + 1)) st
    rw [show N - (c.lc + 1) + c.lc + 1 = N by omega] at hc
    have q1 := e12 (.whl c a) (N - 1) st
    have q2 := e11 (.whl c a) (N - 1) st
    rw [show N - 1 + 1 = N by omega] at q1 q2
    simp only [rcs, rbs, List.map_cons, List.map_nil] at q1 q2
    obtain ⟨o1, o2, o3, o4, o5, o6, o7⟩ := getO
    have ec := esc_p (CB.pure_pv c).1
    have vc := varV_p (CB.pure_pv c).1
    have l1 : ∀ env : En, env.length = 4 → lcLoop (fun _ s => .ok true s) (ev (evCall TURNS D N) e15_1 .val) (MG.put (.nm 2)) env (.items [c.pv]) 0 1 [] st = .ok (.fl [.int c.lc]) st := fun env he => by
      refine lc_each (xs := [c.pv]) (fun _ => .int c.lc) (by simp) (by omega) fun y hy env' _ h2 => ?_
      rw [List.mem_singleton.mp hy] at h2
      refine ⟨?_, rfl⟩
      simp [e15_1, ev, evA, h2, vc, ec, hc]
    have l2 : ∀ env : En, env.length = 4 → lcLoop (fun _ s => .ok true s) (ev (evCall TURNS D N) e15_0 .val) (MG.put (.nm 3)) env (.items [.tup (rl a)]) 0 1 [] st = .ok (.fl [.int (szs a)]) st := fun env he => by
      refine lc_each (xs := [.tup (rl a)]) (fun _ => .int (szs a)) (by simp) (by omega) fun y hy env' _ h2 => ?_
      rw [List.mem_singleton.mp hy] at h2
      refine ⟨?_, rfl⟩
      simp [e15_0, ev, evA, h2, ha]
    have s1 : biV .sum [.fl [.int c.lc]] st = some (.int ((c.lc : Int) + 0)) := rfl
    have s2 : biV .sum [.fl [.int (szs a)]] st = some (.int (szs a + 0)) := rfl
    have er : (rv (.whl c a)) = .tup [.str "while", .non, c.pv, .tup (rl a)] := rfl
    have zz : sz (.whl c a) = 1 + (c.lc : Int) + szs a := rfl
    rw [er] at q1 q2
    rw [zz, er, show k + dr (.whl c a) + 3 = N + 1 by rw [← hN]; rfl, evCall]
    simp [D, d15, evSs, evS, ev, evA, evCs, ME.held, leave_id, o6, srcV, Src.many, MG.slots, U.wipe, q1, q2, l1, l2, s1, s2, ec]
  | .fr a, hv, hd, k, st => by
    have hd : 1 + dp a ≤ 500 := hd
    generalize hN : k + (1 + dp a) + 2 = N
    have la := len_dp a
    have ha := fun st => blk (a := a) (n := N - 1) (by omega) (fun r hr st => by
      have := size_rows a hv (by omega) r hr (N - 1 - (dp a + 2)) st
      rwa [show N - 1 - (dp a + 2) + dp a + 2 = N - 1 by omega] at this) st
    rw [show N - 1 + 1 = N by omega] at ha
    have q1 := e12 (.fr a) (N - 1) st
    have q2 := e11 (.fr a) (N - 1) st
    rw [show N - 1 + 1 = N by omega] at q1 q2
    simp only [rcs, rbs, List.map_cons, List.map_nil] at q1 q2
    obtain ⟨o1, o2, o3, o4, o5, o6, o7⟩ := getO
    have l2 : ∀ env : En, env.length = 4 → lcLoop (fun _ s => .ok true s) (ev (evCall TURNS D N) e15_0 .val) (MG.put (.nm 3)) env (.items [.tup (rl a)]) 0 1 [] st = .ok (.fl [.int (szs a)]) st := fun env he => by
      refine lc_each (xs := [.tup (rl a)]) (fun _ => .int (szs a)) (by simp) (by omega) fun y hy env' _ h2 => ?_
      rw [List.mem_singleton.mp hy] at h2
      refine ⟨?_, rfl⟩
      simp [e15_0, ev, evA, h2, ha]
    have s2 : biV .sum [.fl [.int (szs a)]] st = some (.int (szs a + 0)) := rfl
    have er : (rv (.fr a)) = .tup [.str "for", .non, .tup (rl a)] := rfl
    have zz : sz (.fr a) = 1 + szs a := rfl
    rw [er] at q1 q2
    rw [zz, er, show k + dr (.fr a) + 3 = N + 1 by rw [← hN]; rfl, evCall]
    simp [D, d15, evSs, evS, ev, evA, evCs, ME.held, leave_id, o7, srcV, Src.many, MG.slots, U.wipe, q1, q2, l2, s2, lc_nil, sum_nil]
theorem size_rows : ∀ a : RL, vl a → dp a ≤ 500 → ∀ r ∈ tl a, ∀ k st, evCall TURNS D (k + dp a + 2) 15 [rv r] st = .ok (.int (sz r)) st
  | .nil, _, _, r, hr, _, _ => nomatch hr
  | .cons s ss, hv, hd, r, hr, k, st => by
    have hd : 1 + max (dr s) (dp ss) ≤ 500 := hd
    rcases List.mem_cons.mp hr with e | hr
    · rw [e]
      have := size_row s hv.1 (by omega) (k + dp (.cons s ss) - dr s - 1) st
      rwa [show k + dp (.cons s ss) - dr s - 1 + dr s + 3 = k + dp (.cons s ss) + 2 by rw [dp]; omega] at this
    · have := size_rows ss hv.2 (by omega) r hr (k + dp (.cons s ss) - dp ss) st
      rwa [show k + dp (.cons s ss) - dp ss + dp ss + 2 = k + dp (.cons s ss) + 2 by rw [dp]; omega] at this
end
theorem size_block {a : RL} (hv : vl a) (hd : dp a ≤ 500) (k : Nat) (st : Store) : evCall TURNS D (k + dp a + 3) 14 [.tup (rl a)] st = .ok (.int (szs a)) st :=
  blk (n := k + dp a + 2) (by have := len_dp a; omega) (fun r hr st => size_rows a hv hd r hr k st) st
end K69

set_option maxHeartbeats 4000000
namespace K69
open PySem L2 U
/-! ### the program's keys -/
theorem up_tup (xs : List PyData) : up (.tuple xs) = .tup (xs.map up) := by
  show PV.tup (ups xs) = _
  rw [ups_map]
theorem out_key {i n : Int} {l : Str} (h : (i, n, l) ∈ ST) (k : Nat) (st : Store) : evCall TURNS D (k + 1) 166 [.str (rn i n l)] st = .ok (.tup [.int i, .int n, .str l]) st := by
  have := stop_of h
  unfold stopB at this
  simp only [Bool.and_eq_true, decide_eq_true_eq] at this
  obtain ⟨⟨⟨⟨⟨⟨⟨⟨⟨a1, a2⟩, a3⟩, a4⟩, a5⟩, a6⟩, a7⟩, a8⟩, a9⟩, a10⟩ := this
  clear a8
  generalize rn i n l = s at *
  have pt : ∀ st, mtV .partition (.str s) [.str " "] st = .ok (.tup [.str (Txt.partition s " ").1, .str (Txt.partition s " ").2.1, .str (Txt.partition s " ").2.2]) st := fun st => by
    have l1 : (" " : Str).length = 1 := rfl
    show (if (" " : Str).length = 0 ∨ sizeLine < s.length then _ else _) = _
    rw [if_neg (by rw [l1, sizeLine_eq]; omega)]
  generalize (Txt.partition s " ").1 = w at *
  generalize (Txt.partition s " ").2.1 = m at *
  generalize (Txt.partition s " ").2.2 = r at *
  have ki : ∀ w : Str, (w = if i = 0 then "return" else if i = 1 then "break" else "continue") → idxV ["return", "break", "continue"] (.str w) = some (.int i) := fun w e => by
    subst e
    by_cases h0 : i = 0
    · rw [if_pos h0, h0]; rfl
    · rw [if_neg h0]
      by_cases h1 : i = 1
      · rw [if_pos h1, h1]; rfl
      · rw [if_neg h1, show i = 2 by omega]; rfl
  have kw := ki w a5
  have tr : truth (.str r) st = some ((r.length : Int) != 0) := by
    show (if r.length ≤ sizeLine then _ else _) = _
    rw [if_pos (by rw [sizeLine_eq]; omega)]
  rw [evCall]
  by_cases hn : i = 0 ∧ ¬ n = 0
  · rw [if_pos hn] at a7
    simp only [Bool.and_eq_true, decide_eq_true_eq] at a7
    obtain ⟨⟨b1, b2⟩, b3⟩ := a7
    rw [if_pos hn.1] at a5
    subst a5
    have bi : biV .int [.str r] st = some (.int (n - 1)) := by
      show (if r.length ≤ 640 then _ else _) = _
      rw [if_pos (by omega), b3]; rfl
    have rl : ((r.length : Int) != 0) = true := by simp; omega
    rw [rl] at tr
    have ad : (1 : Int) + (n - 1) = n := by omega
    have dn : done .test (.str r) st = .ok (.bl true) st := by
      show (opt (truth (.str r) st) st).bind _ = _
      rw [tr]; rfl
    have vt : varV .test (some (some (.str r))) st = .ok (.bl true) st := dn
    simp [D, d166, evSs, evS, ev, evA, evCs, ME.held, leave_id, setEach, pt, kw, bi, ad, sizeLine_eq, dn, b1]
  · rw [if_neg hn] at a7
    simp only [Bool.and_eq_true, decide_eq_true_eq] at a7
    obtain ⟨⟨b1, b2⟩, b3⟩ := a7
    subst b1 b2
    have vt : w = "return" → done .test (.str r) st = .ok (.bl false) st := fun hw => by
      have h0 : i = 0 := by
        rw [hw] at a5
        by_cases h0 : i = 0
        · exact h0
        · rw [if_neg h0] at a5
          split at a5 <;> simp at a5
      rw [if_pos h0, decide_eq_true_eq] at b3
      show (opt (truth (.str r) st) st).bind _ = _
      rw [tr, b3]; rfl
    by_cases hw : w = "return"
    · have vt := vt hw
      rw [hw] at kw pt
      simp [D, d166, evSs, evS, ev, evA, evCs, ME.held, leave_id, setEach, pt, kw, sizeLine_eq, vt]
    · simp [D, d166, evSs, evS, ev, evA, evCs, ME.held, leave_id, setEach, pt, kw, sizeLine_eq, hw]
theorem stop_key {i n : Int} {l : Str} (h : (i, n, l) ∈ ST) (k : Nat) (st : Store) : evCall TURNS D (k + 1) 171 [.str (rn i n l)] st = .ok (up (lstop i n l)) st := by
  have := stop_of h
  unfold stopB at this
  simp only [Bool.and_eq_true, decide_eq_true_eq] at this
  obtain ⟨⟨⟨⟨⟨⟨⟨⟨⟨a1, a2⟩, a3⟩, a4⟩, a5⟩, a6⟩, a7⟩, a8⟩, a9⟩, a10⟩ := this
  clear a7 a5 a6
  generalize rn i n l = s at *
  have sl : ∀ lo hi st, slV (.str s) lo hi st = some (.str (cutS s lo hi)) := fun lo hi st => if_pos (by rw [sizeLine_eq]; omega)
  unfold lstop
  rw [evCall]
  by_cases h0 : i = 0
  · rw [if_pos h0] at a8
    rw [if_pos h0]
    by_cases hn : n = 0
    · rw [if_pos hn, decide_eq_true_eq] at a8
      rw [if_pos hn]
      subst a8
      simp [D, d171, evSs, evS, ev, evA, evCs, ME.held, leave_id, sizeLine_eq, up, ups]
    · rw [if_neg hn] at a8
      simp only [Bool.and_eq_true, decide_eq_true_eq] at a8
      obtain ⟨⟨⟨b1, b2⟩, b3⟩, b4⟩ := a8
      rw [if_neg hn]
      have bi : biV .int [.str (cutS s (some 7) none)] st = some (.int (n - 1)) := by
        show (if _ ≤ 640 then _ else _) = _
        rw [if_pos (by omega), b4]; rfl
      simp [D, d171, evSs, evS, ev, evA, evCs, ME.held, leave_id, sizeLine_eq, up, ups, ME.absent, bound_non, bound_int, sl, b1, b2, bi]
  · rw [if_neg h0] at a8
    rw [if_neg h0]
    simp only [Bool.and_eq_true, decide_eq_true_eq] at a8
    obtain ⟨⟨b1, b2⟩, b3⟩ := a8
    by_cases h1 : i = 1
    · rw [if_pos h1] at b3
      simp only [Bool.and_eq_true, decide_eq_true_eq] at b3
      obtain ⟨b3, b4⟩ := b3
      subst h1
      simp [D, d171, evSs, evS, ev, evA, evCs, ME.held, leave_id, sizeLine_eq, up, ups, ME.absent, bound_non, bound_int, sl, b1, b2, b3, b4]
    · rw [if_neg h1] at b3
      simp only [Bool.and_eq_true, decide_eq_true_eq] at b3
      obtain ⟨b3, b4⟩ := b3
      rw [show i = 2 by omega]
      simp [D, d171, evSs, evS, ev, evA, evCs, ME.held, leave_id, sizeLine_eq, up, ups, ME.absent, bound_non, bound_int, sl, b1, b2, b3, b4]
end K69

set_option maxHeartbeats 4000000
namespace K69
open PySem L2 U
mutual
theorem sz_pos : ∀ r : RW, 1 ≤ sz r
  | .jump _ _ => Int.le_refl _
  | .stop _ _ _ => Int.le_refl _
  | .call _ => Int.le_refl _
  | .ife c a b => by
    have h1 := szs_nn a
    have h2 := szs_nn b
    cases b with
    | nil =>
      show 1 ≤ 1 + (c.lc : Int) + szs a + szs .nil + 0
      omega
    | cons r rs =>
      show 1 ≤ 1 + (c.lc : Int) + szs a + szs (.cons r rs) + 1
      omega
  | .whl c a => by
    have := szs_nn a
    show 1 ≤ 1 + (c.lc : Int) + szs a
    omega
  | .fr a => by
    have := szs_nn a
    show 1 ≤ 1 + szs a
    omega
theorem szs_nn : ∀ a : RL, 0 ≤ szs a
  | .nil => Int.le_refl _
  | .cons r rs => by
    have := sz_pos r
    have := szs_nn rs
    show 0 ≤ sz r + szs rs
    omega
end
/-! ### the law's keys -/
theorem lkd_head (a : RL) : ∃ t, lkd a = .tuple (.int (szs a) :: .int (len a) :: t) := by
  cases a with
  | nil => exact ⟨[], rfl⟩
  | cons r rs => exact ⟨_, lkd_form r rs⟩
theorem lk_ix (a : RL) : (∀ st, ixV (up (lkd a)) (.int 0) st = some (.int (szs a))) ∧ (∀ st, ixV (up (lkd a)) (.int 1) st = some (.int (len a))) := by
  obtain ⟨t, e⟩ := lkd_head a
  rw [e]
  constructor <;> intro st
  · show ixV (.tup (.int _ :: ups _)) _ _ = _
    simp
  · show ixV (.tup (.int _ :: .int _ :: ups _)) _ _ = _
    simp
mutual
theorem row_law : ∀ r : RW, vr r → dr r ≤ 500 → ∀ k st, evCall TURNS D (k + dr r + 1) 172 [rv r] st = .ok (up (.tuple (.int (sz r) :: .int 1 :: rkt r))) st
  | .jump j n, hv, hd, k, st => by
    show evCall TURNS D ((k + 1) + 1) 172 _ st = _
    rw [evCall, rv]
    cases j <;> simp [D, d172, jw, sz, rkt, up, ups, evSs, evS, ev, evA, evCs, ME.held, leave_id, sizeLine_eq]
  | .stop i n l, hv, hd, k, st => by
    have q := stop_key hv (k + 1) st
    have e1 := esc_p (pure_up (lstop i n l))
    show evCall TURNS D ((k + 2) + 1) 172 _ st = _
    rw [evCall, rv]
    simp [D, d172, sz, rkt, up, ups, evSs, evS, ev, evA, evCs, ME.held, leave_id, sizeLine_eq, q, e1]
  | .call x, hv, hd, k, st => by
    show evCall TURNS D ((k + 1) + 1) 172 _ st = _
    rw [evCall, rv]
    simp [D, d172, sz, rkt, up, ups, evSs, evS, ev, evA, evCs, ME.held, leave_id, sizeLine_eq]
  | .ife c a b, hv, hd, k, st => by
    have hd : 1 + max c.lc (max (dp a) (dp b)) ≤ 500 := hd
    generalize hN : k + (1 + max c.lc (max (dp a) (dp b))) = N
    have qa := fun st => rows_law a hv.2.1 (by omega) (N - (dp a + 1)) st
    rw [show N - (dp a + 1) + dp a + 1 = N by omega] at qa
    have qb := fun st => rows_law b hv.2.2 (by omega) (N - (dp b + 1)) st
    rw [show N - (dp b + 1) + dp b + 1 = N by omega] at qb
    have qc := fun st => CB.key_law c (by omega) (N - c.lc) st
    rw [show N - c.lc + c.lc = N by omega] at qc
    obtain ⟨t, ht⟩ := CB.key_head c
    have x1 : ∀ st, ixV c.key (.int 0) st = some (.int (c.lc : Nat)) := fun st => by rw [ht]; simp
    obtain ⟨x2, _⟩ := lk_ix a
    obtain ⟨x3, _⟩ := lk_ix b
    have ec := esc_p (CB.pure_pv c).1
    have ek := esc_p (CB.pure_key c)
    have vk := varV_p (CB.pure_key c)
    have ea := esc_p (pure_up (lkd a))
    have va := varV_p (pure_up (lkd a))
    have eb := esc_p (pure_up (lkd b))
    have vb := varV_p (pure_up (lkd b))
    have zz : sz (.ife c a b) = 1 + (c.lc : Int) + szs a + szs b + (if 0 < szs b then 1 else 0) := by
      cases b with
      | nil => rfl
      | cons r rs =>
        have : 0 < szs (.cons r rs) := by
          have := sz_pos r
          have := szs_nn rs
          show 0 < sz r + szs rs
          omega
        rw [if_pos this]; rfl
    have er : up (.tuple (.int (sz (.ife c a b)) :: .int 1 :: rkt (.ife c a b))) = .tup [.int (sz (.ife c a b)), .int 1, .int 4, c.key, up (lkd a), up (lkd b)] := by
      rw [← up_key c]; rfl
    rw [er, zz, rv, show k + dr (.ife c a b) + 1 = N + 1 by rw [← hN]; rfl, evCall]
    generalize up (lkd a) = LA at *
    generalize up (lkd b) = LB at *
    generalize c.key = LC at *
    by_cases h : 0 < szs b
    · simp [D, d172, evSs, evS, ev, evA, evCs, ME.held, leave_id, sizeLine_eq, qa, qb, qc, x1, x2, x3, ec, ek, vk, ea, va, eb, vb, h]
    · simp [D, d172, evSs, evS, ev, evA, evCs, ME.held, leave_id, sizeLine_eq, qa, qb, qc, x1, x2, x3, ec, ek, vk, ea, va, eb, vb, h]
  | .whl c a, hv, hd, k, st => by
    have hd : 1 + max c.lc (dp a) ≤ 500 := hd
    generalize hN : k + (1 + max c.lc (dp a)) = N
    have qa := fun st => rows_law a hv.2 (by omega) (N - (dp a + 1)) st
    rw [show N - (dp a + 1) + dp a + 1 = N by omega] at qa
    have qc := fun st => CB.key_law c (by omega) (N - c.lc) st
    rw [show N - c.lc + c.lc = N by omega] at qc
    obtain ⟨t, ht⟩ := CB.key_head c
    have x1 : ∀ st, ixV c.key (.int 0) st = some (.int (c.lc : Nat)) := fun st => by rw [ht]; simp
    obtain ⟨x2, _⟩ := lk_ix a
    have ec := esc_p (CB.pure_pv c).1
    have ek := esc_p (CB.pure_key c)
    have vk := varV_p (CB.pure_key c)
    have ea := esc_p (pure_up (lkd a))
    have va := varV_p (pure_up (lkd a))
    have er : up (.tuple (.int (sz (.whl c a)) :: .int 1 :: rkt (.whl c a))) = .tup [.int (1 + (c.lc : Int) + szs a), .int 1, .int 5, c.key, up (lkd a)] := by
      rw [← up_key c]; rfl
    rw [er, rv, show k + dr (.whl c a) + 1 = N + 1 by rw [← hN]; rfl, evCall]
    generalize up (lkd a) = LA at *
    generalize c.key = LC at *
    simp [D, d172, evSs, evS, ev, evA, evCs, ME.held, leave_id, sizeLine_eq, qa, qc, x1, x2, ec, ek, vk, ea, va]
  | .fr a, hv, hd, k, st => by
    have hd : 1 + dp a ≤ 500 := hd
    generalize hN : k + (1 + dp a) = N
    have qa := fun st => rows_law a hv (by omega) (N - (dp a + 1)) st
    rw [show N - (dp a + 1) + dp a + 1 = N by omega] at qa
    obtain ⟨x2, _⟩ := lk_ix a
    have ea := esc_p (pure_up (lkd a))
    have va := varV_p (pure_up (lkd a))
    have er : up (.tuple (.int (sz (.fr a)) :: .int 1 :: rkt (.fr a))) = .tup [.int (1 + szs a), .int 1, .int 6, up (lkd a)] := rfl
    rw [er, rv, show k + dr (.fr a) + 1 = N + 1 by rw [← hN]; rfl, evCall]
    generalize up (lkd a) = LA at *
    simp [D, d172, evSs, evS, ev, evA, evCs, ME.held, leave_id, sizeLine_eq, qa, x2, ea, va]
theorem rows_law : ∀ a : RL, vl a → dp a ≤ 500 → ∀ k st, evCall TURNS D (k + dp a + 1) 173 [.tup (rl a)] st = .ok (up (lkd a)) st
  | .nil, hv, hd, k, st => by
    show evCall TURNS D ((k + 1) + 1) 173 [.tup []] st = _
    have dn : done .test (.tup []) st = .ok (.bl false) st := rfl
    rw [evCall]
    simp [dn, D, d173, lkd, up, ups, evSs, evS, ev, evA, evCs, ME.held, leave_id, sizeLine_eq]
  | .cons r .nil, hv, hd, k, st => by
    have hd : 1 + max (dr r) 1 ≤ 500 := hd
    generalize hN : k + (1 + max (dr r) 1) = N
    have qr := fun st => row_law r hv.1 (by omega) (N - (dr r + 1)) st
    rw [show N - (dr r + 1) + dr r + 1 = N by omega] at qr
    rw [show lkd (.cons r .nil) = .tuple (.int (sz r) :: .int 1 :: rkt r) from rfl, show k + dp (.cons r .nil) + 1 = N + 1 by rw [← hN]; rfl, evCall]
    have dn : ∀ (x : PV) (xs : List PV) st, done .test (.tup (x :: xs)) st = .ok (.bl true) st := fun _ _ _ => rfl
    have er := esc_p (pure_rv r)
    have vrr := varV_p (pure_rv r)
    have ek := esc_p (pure_up (.tuple (.int (sz r) :: .int 1 :: rkt r)))
    have vk := varV_p (pure_up (.tuple (.int (sz r) :: .int 1 :: rkt r)))
    obtain ⟨T, hT⟩ : ∃ T, up (.tuple (.int (sz r) :: .int 1 :: rkt r)) = .tup T := ⟨_, rfl⟩
    rw [hT] at qr ek vk ⊢
    rw [rl, rl]
    simp [D, d173, evSs, evS, ev, evA, evCs, ME.held, leave_id, sizeLine_eq, dn, er, vrr, qr, ek, vk]
  | .cons r (.cons s ss), hv, hd, k, st => by
    have hd : 1 + max (dr r) (dp (.cons s ss)) ≤ 500 := hd
    generalize hN : k + (1 + max (dr r) (dp (.cons s ss))) = N
    have qr := fun st => row_law r hv.1 (by omega) (N - (dr r + 1)) st
    rw [show N - (dr r + 1) + dr r + 1 = N by omega] at qr
    have qs := fun st => rows_law (.cons s ss) hv.2 (by omega) (N - (dp (.cons s ss) + 1)) st
    rw [show N - (dp (.cons s ss) + 1) + dp (.cons s ss) + 1 = N by omega] at qs
    have er0 : up (lkd (.cons r (.cons s ss))) = .tup [.int (sz r + szs (.cons s ss)), .int (1 + len (.cons s ss)), up (.tuple (.int (sz r) :: .int 1 :: rkt r)), up (lkd (.cons s ss))] := rfl
    rw [er0, show k + dp (.cons r (.cons s ss)) + 1 = N + 1 by rw [← hN]; rfl, evCall]
    obtain ⟨x2, x3⟩ := lk_ix (.cons s ss)
    have x1 : ∀ st, ixV (up (.tuple (.int (sz r) :: .int 1 :: rkt r))) (.int 0) st = some (.int (sz r)) := fun st => by
      show ixV (.tup (.int _ :: ups _)) _ _ = _
      simp
    have dn : ∀ (x : PV) (xs : List PV) st, done .test (.tup (x :: xs)) st = .ok (.bl true) st := fun _ _ _ => rfl
    have er := esc_p (pure_rv r)
    have vrr := varV_p (pure_rv r)
    have ek := esc_p (pure_up (.tuple (.int (sz r) :: .int 1 :: rkt r)))
    have vk := varV_p (pure_up (.tuple (.int (sz r) :: .int 1 :: rkt r)))
    have el := esc_p (pure_up (lkd (.cons s ss)))
    have vl := varV_p (pure_up (lkd (.cons s ss)))
    generalize up (.tuple (.int (sz r) :: .int 1 :: rkt r)) = LR at *
    generalize up (lkd (.cons s ss)) = LL at *
    have cu : cutL (rv r :: rl (.cons s ss)) (some 1) none = rl (.cons s ss) := cutL_tail _ _
    have ln : ¬ (((rv r :: rl (.cons s ss)).length : Nat) : Int) = 1 := by rw [rl, List.length_cons, List.length_cons]; omega
    have bl : ∀ st, biV .len [.tup (rv r :: rl (.cons s ss))] st = some (.int ((rv r :: rl (.cons s ss)).length : Nat)) := fun st => rfl
    rw [rl]
    generalize ((rv r :: rl (.cons s ss)).length : Int) = M at *
    generalize rl (.cons s ss) = RS at *
    simp [D, d173, evSs, evS, ev, evA, evCs, ME.held, leave_id, sizeLine_eq, dn, er, vrr, qr, ek, vk, el, vl, qs, ME.absent, bound_non, bound_int, slV, cu, bl, ln, x1, x2, x3]
end
end K69

set_option maxHeartbeats 4000000
namespace K69
open PySem L2 U
/-! ### the program's keys -/
theorem bk_up (a : RL) : up (bkd a) = .tup (.int (szs a) :: .int (len a) :: (tl a).map fun r => up (skd r)) := by
  show PV.tup (.int _ :: .int _ :: ups (bkl a)) = _
  rw [ups_map, bkl_tl, List.map_map]; rfl
theorem bkq {a : RL} {N : Nat} (hl : (tl a).length ≤ 1000) (hs : ∀ st, evCall TURNS D N 14 [.tup (rl a)] st = .ok (.int (szs a)) st) (H : ∀ r ∈ tl a, ∀ st, evCall TURNS D N 165 [rv r] st = .ok (up (skd r)) st) (st : Store) :
    evCall TURNS D (N + 1) 164 [.tup (rl a)] st = .ok (up (bkd a)) st := by
  have lc0 : lcLoop (fun _ s => .ok true s) (ev (evCall TURNS D N) e164_0 .val) (MG.put (.nm 1)) [some (.tup ((tl a).map rv)), none] (.items ((tl a).map rv)) 0 (tl a).length [] st = .ok (.fl ((tl a).map fun r => up (skd r))) st := by
    refine lc_own rv (fun r => up (skd r)) (tl a) (by omega) (by simp) fun r hr env' _ h2 => ⟨?_, pure_nofl (pure_up _)⟩
    have i := H r hr st
    simp [e164_0, ev, evA, h2, varV_p (pure_rv r), esc_p (pure_rv r), i]
  have bl : ∀ st, biV .len [.tup ((tl a).map rv)] st = some (.int (len a)) := fun st => by
    show some (PV.int (((tl a).map rv).length : Nat)) = _
    rw [List.length_map, ← len_tl]
  have ll : (tl a).length + 1 + 1 ≤ sizeLine := by rw [sizeLine_eq]; omega
  rw [bk_up]
  rw [rl_tl] at hs ⊢
  rw [evCall]
  have sq : ∀ st, seqOf (.fl ((tl a).map fun r => up (skd r))) st = some ((tl a).map fun r => up (skd r)) := fun _ => rfl
  generalize szs a = S at *
  generalize len a = L at *
  have l2 : ((tl a).map fun r => up (skd r)).length = (tl a).length := List.length_map _
  generalize ((tl a).map fun r => up (skd r)) = KS at *
  rw [← l2] at ll
  simp [D, d164, evSs, evS, ev, evA, evI, evCs, ME.held, leave_id, srcV, Src.many, MG.slots, U.wipe, lc0, bl, sq, hs, ll]
theorem one_size {r : RW} (hv : vr r) (hd : dr r ≤ 500) (k : Nat) (st : Store) : evCall TURNS D (k + dr r + 4) 14 [.tup [rv r]] st = .ok (.int (sz r)) st := by
  have := blk (a := .cons r .nil) (n := k + dr r + 3) (by show 0 + 1 ≤ 1000; omega) (fun s hs st => by
    rw [List.mem_singleton.mp hs]
    exact size_row r hv hd k st) st
  rw [show szs (.cons r .nil) = sz r + 0 from rfl, Int.add_zero] at this
  exact this
theorem kinds7 : idxV ["break", "continue", "stop", "call", "if", "while", "for"] (.str "break") = some (.int 0) ∧ idxV ["break", "continue", "stop", "call", "if", "while", "for"] (.str "continue") = some (.int 1) ∧ idxV ["break", "continue", "stop", "call", "if", "while", "for"] (.str "stop") = some (.int 2) ∧
  idxV ["break", "continue", "stop", "call", "if", "while", "for"] (.str "call") = some (.int 3) ∧ idxV ["break", "continue", "stop", "call", "if", "while", "for"] (.str "if") = some (.int 4) ∧ idxV ["break", "continue", "stop", "call", "if", "while", "for"] (.str "while") = some (.int 5) ∧ idxV ["break", "continue", "stop", "call", "if", "while", "for"] (.str "for") = some (.int 6) := by
  refine ⟨?_, ?_, ?_, ?_, ?_, ?_, ?_⟩ <;> rfl
theorem in3 (st : Store) : cmpV .inn (.str "break") (.tup [.str "break", .str "continue", .str "call"]) st = some true ∧ cmpV .inn (.str "continue") (.tup [.str "break", .str "continue", .str "call"]) st = some true ∧ cmpV .inn (.str "call") (.tup [.str "break", .str "continue", .str "call"]) st = some true ∧
  cmpV .inn (.str "if") (.tup [.str "break", .str "continue", .str "call"]) st = some false ∧ cmpV .inn (.str "while") (.tup [.str "break", .str "continue", .str "call"]) st = some false ∧ cmpV .inn (.str "for") (.tup [.str "break", .str "continue", .str "call"]) st = some false := by
  refine ⟨?_, ?_, ?_, ?_, ?_, ?_⟩ <;> rfl
theorem seq_tup (xs : List PV) (st : Store) : seqOf (.tup xs) st = some xs := rfl
theorem seq_fl (xs : List PV) (st : Store) : seqOf (.fl xs) st = some xs := rfl
mutual
theorem row_key : ∀ r : RW, vr r → dr r ≤ 400 → ∀ k st, evCall TURNS D (k + dr r + 5) 165 [rv r] st = .ok (up (skd r)) st
  | .jump j n, hv, hd, k, st => by
    have q := one_size hv (by omega) k st
    obtain ⟨o1, o2, o3, o4, o5, o6, o7⟩ := kinds7
    obtain ⟨p1, p2, p3, p4, p5, p6⟩ := in3 st
    rw [evCall]
    rw [rv] at *
    cases j <;> simp [jw] at q <;> simp [D, d165, jw, sz, skd, up, ups, evSs, evS, ev, evA, evI, evCs, ME.held, leave_id, sizeLine_eq, q, o1, o2, p1, p2, seq_tup]
  | .stop i n l, hv, hd, k, st => by
    have q := one_size (r := .stop i n l) hv (by omega) k st
    have q1 := out_key hv (k + dr (.stop i n l) + 3) st
    obtain ⟨o1, o2, o3, o4, o5, o6, o7⟩ := kinds7
    rw [evCall]
    rw [rv] at *
    simp [D, d165, sz, skd, up, ups, evSs, evS, ev, evA, evI, evCs, ME.held, leave_id, sizeLine_eq, q, q1, o3, seq_tup]
  | .call x, hv, hd, k, st => by
    have q := one_size (r := .call x) hv (by omega) k st
    obtain ⟨o1, o2, o3, o4, o5, o6, o7⟩ := kinds7
    obtain ⟨p1, p2, p3, p4, p5, p6⟩ := in3 st
    rw [evCall]
    rw [rv] at *
    simp [D, d165, sz, skd, up, ups, evSs, evS, ev, evA, evI, evCs, ME.held, leave_id, sizeLine_eq, q, o4, p3, seq_tup]
  | .ife c a b, hv, hd, k, st => by
    have q := one_size (r := .ife c a b) hv (by omega) k st
    have hd : 1 + max c.lc (max (dp a) (dp b)) ≤ 400 := hd
    have la := len_dp a
    have lb := len_dp b
    obtain ⟨N, hN⟩ : ∃ N, k + dr (.ife c a b) + 4 = N := ⟨_, rfl⟩
    have hN' : k + (1 + max c.lc (max (dp a) (dp b))) + 4 = N := hN
    have qa := fun st => bkq (a := a) (N := N - 1) (by omega) (fun st => by
      have := size_block hv.2.1 (by omega) (N - 1 - (dp a + 3)) st
      rwa [show N - 1 - (dp a + 3) + dp a + 3 = N - 1 by omega] at this) (fun r hr st => by
      have := rows_key a hv.2.1 (by omega) r hr (N - 1 - (dp a + 4)) st
      rwa [show N - 1 - (dp a + 4) + dp a + 4 = N - 1 by omega] at this) st
    have qb := fun st => bkq (a := b) (N := N - 1) (by omega) (fun st => by
      have := size_block hv.2.2 (by omega) (N - 1 - (dp b + 3)) st
      rwa [show N - 1 - (dp b + 3) + dp b + 3 = N - 1 by omega] at this) (fun r hr st => by
      have := rows_key b hv.2.2 (by omega) r hr (N - 1 - (dp b + 4)) st
      rwa [show N - 1 - (dp b + 4) + dp b + 4 = N - 1 by omega] at this) st
    rw [show N - 1 + 1 = N by omega] at qa qb
    have qc := fun st => (CB.key_prog c (by omega)).1 (N - c.lc) st
    rw [show N - c.lc + c.lc = N by omega] at qc
    have q1 := e12 (.ife c a b) (N - 1) st
    have q2 := e11 (.ife c a b) (N - 1) st
    rw [show N - 1 + 1 = N by omega] at q1 q2
    simp only [rcs, rbs, List.map_cons, List.map_nil] at q1 q2
    rw [hN] at q
    obtain ⟨o1, o2, o3, o4, o5, o6, o7⟩ := kinds7
    obtain ⟨p1, p2, p3, p4, p5, p6⟩ := in3 st
    have er : (rv (.ife c a b)) = .tup [.str "if", c.pv, .tup (rl a), .tup (rl b)] := rfl
    have l1 : ∀ env : En, env.length = 6 → lcLoop (fun _ s => .ok true s) (ev (evCall TURNS D N) e165_1 .val) (MG.put (.nm 4)) env (.items [c.pv]) 0 1 [] st = .ok (.fl [c.key]) st := fun env he => by
      refine lc_each (xs := [c.pv]) (fun _ => c.key) (by simp) (by omega) fun y hy env' _ h2 => ?_
      rw [List.mem_singleton.mp hy] at h2
      refine ⟨?_, pure_nofl (CB.pure_key c)⟩
      simp [e165_1, ev, evA, h2, varV_p (CB.pure_pv c).1, esc_p (CB.pure_pv c).1, qc]
    have l2 : ∀ env : En, env.length = 6 → lcLoop (fun _ s => .ok true s) (ev (evCall TURNS D N) e165_0 .val) (MG.put (.nm 5)) env (.items [.tup (rl a), .tup (rl b)]) 0 2 [] st = .ok (.fl [up (bkd a), up (bkd b)]) st := fun env he => by
      have := lc_own (call := evCall TURNS D N) (elt := e165_0) (i := 5) (env := env) (st := st) (fun x : RL => .tup (rl x)) (fun x => up (bkd x)) [a, b] (by simp) (by omega) fun q hq env' _ h2 => ⟨by
        have i : evCall TURNS D N 164 [.tup (rl q)] st = .ok (up (bkd q)) st := by
          simp only [List.mem_cons, List.not_mem_nil, or_false] at hq
          rcases hq with rfl | rfl
          · exact qa st
          · exact qb st
        simp [e165_0, ev, evA, h2, i], pure_nofl (pure_up _)⟩
      exact this
    have es : up (skd (.ife c a b)) = .tup [.int (sz (.ife c a b)), .int 4, c.key, up (bkd a), up (bkd b)] := by
      rw [← up_key c]; rfl
    rw [er] at q q1 q2 ⊢
    rw [es, show k + dr (.ife c a b) + 5 = N + 1 by rw [← hN], evCall]
    generalize up (bkd a) = KA at *
    generalize up (bkd b) = KB at *
    generalize c.key = KC at *
    generalize sz (.ife c a b) = S at *
    simp [D, d165, evSs, evS, ev, evA, evI, evCs, ME.held, leave_id, sizeLine_eq, srcV, Src.many, MG.slots, U.wipe, q, q1, q2, l1, l2, o5, p4, seq_tup, seq_fl]
  | .whl c a, hv, hd, k, st => by
    have q := one_size (r := .whl c a) hv (by omega) k st
    have hd : 1 + max c.lc (dp a) ≤ 400 := hd
    have la := len_dp a
    obtain ⟨N, hN⟩ : ∃ N, k + dr (.whl c a) + 4 = N := ⟨_, rfl⟩
    have hN' : k + (1 + max c.lc (dp a)) + 4 = N := hN
    have qa := fun st => bkq (a := a) (N := N - 1) (by omega) (fun st => by
      have := size_block hv.2 (by omega) (N - 1 - (dp a + 3)) st
      rwa [show N - 1 - (dp a + 3) + dp a + 3 = N - 1 by omega] at this) (fun r hr st => by
      have := rows_key a hv.2 (by omega) r hr (N - 1 - (dp a + 4)) st
      rwa [show N - 1 - (dp a + 4) + dp a + 4 = N - 1 by omega] at this) st
    rw [show N - 1 + 1 = N by omega] at qa
    have qc := fun st => (CB.key_prog c (by omega)).1 (N - c.lc) st
    rw [show N - c.lc + c.lc = N by omega] at qc
    have q1 := e12 (.whl c a) (N - 1) st
    have q2 := e11 (.whl c a) (N - 1) st
    rw [show N - 1 + 1 = N by omega] at q1 q2
    simp only [rcs, rbs, List.map_cons, List.map_nil] at q1 q2
    rw [hN] at q
    obtain ⟨o1, o2, o3, o4, o5, o6, o7⟩ := kinds7
    obtain ⟨p1, p2, p3, p4, p5, p6⟩ := in3 st
    have er : (rv (.whl c a)) = .tup [.str "while", .non, c.pv, .tup (rl a)] := rfl
    have l1 : ∀ env : En, env.length = 6 → lcLoop (fun _ s => .ok true s) (ev (evCall TURNS D N) e165_1 .val) (MG.put (.nm 4)) env (.items [c.pv]) 0 1 [] st = .ok (.fl [c.key]) st := fun env he => by
      refine lc_each (xs := [c.pv]) (fun _ => c.key) (by simp) (by omega) fun y hy env' _ h2 => ?_
      rw [List.mem_singleton.mp hy] at h2
      refine ⟨?_, pure_nofl (CB.pure_key c)⟩
      simp [e165_1, ev, evA, h2, varV_p (CB.pure_pv c).1, esc_p (CB.pure_pv c).1, qc]
    have l2 : ∀ env : En, env.length = 6 → lcLoop (fun _ s => .ok true s) (ev (evCall TURNS D N) e165_0 .val) (MG.put (.nm 5)) env (.items [.tup (rl a)]) 0 1 [] st = .ok (.fl [up (bkd a)]) st := fun env he => by
      refine lc_each (xs := [.tup (rl a)]) (fun _ => up (bkd a)) (by simp) (by omega) fun y hy env' _ h2 => ?_
      rw [List.mem_singleton.mp hy] at h2
      refine ⟨?_, pure_nofl (pure_up _)⟩
      simp [e165_0, ev, evA, h2, qa]
    have es : up (skd (.whl c a)) = .tup [.int (sz (.whl c a)), .int 5, c.key, up (bkd a)] := by
      rw [← up_key c]; rfl
    rw [er] at q q1 q2 ⊢
    rw [es, show k + dr (.whl c a) + 5 = N + 1 by rw [← hN], evCall]
    generalize up (bkd a) = KA at *
    generalize c.key = KC at *
    generalize sz (.whl c a) = S at *
    simp [D, d165, evSs, evS, ev, evA, evI, evCs, ME.held, leave_id, sizeLine_eq, srcV, Src.many, MG.slots, U.wipe, q, q1, q2, l1, l2, o6, p5, seq_tup, seq_fl]
  | .fr a, hv, hd, k, st => by
    have q := one_size (r := .fr a) hv (by omega) k st
    have hd : 1 + dp a ≤ 400 := hd
    have la := len_dp a
    obtain ⟨N, hN⟩ : ∃ N, k + dr (.fr a) + 4 = N := ⟨_, rfl⟩
    have hN' : k + (1 + dp a) + 4 = N := hN
    have qa := fun st => bkq (a := a) (N := N - 1) (by omega) (fun st => by
      have := size_block hv (by omega) (N - 1 - (dp a + 3)) st
      rwa [show N - 1 - (dp a + 3) + dp a + 3 = N - 1 by omega] at this) (fun r hr st => by
      have := rows_key a hv (by omega) r hr (N - 1 - (dp a + 4)) st
      rwa [show N - 1 - (dp a + 4) + dp a + 4 = N - 1 by omega] at this) st
    rw [show N - 1 + 1 = N by omega] at qa
    have q1 := e12 (.fr a) (N - 1) st
    have q2 := e11 (.fr a) (N - 1) st
    rw [show N - 1 + 1 = N by omega] at q1 q2
    simp only [rcs, rbs, List.map_cons, List.map_nil] at q1 q2
    rw [hN] at q
    obtain ⟨o1, o2, o3, o4, o5, o6, o7⟩ := kinds7
    obtain ⟨p1, p2, p3, p4, p5, p6⟩ := in3 st
    have er : (rv (.fr a)) = .tup [.str "for", .non, .tup (rl a)] := rfl
    have l2 : ∀ env : En, env.length = 6 → lcLoop (fun _ s => .ok true s) (ev (evCall TURNS D N) e165_0 .val) (MG.put (.nm 5)) env (.items [.tup (rl a)]) 0 1 [] st = .ok (.fl [up (bkd a)]) st := fun env he => by
      refine lc_each (xs := [.tup (rl a)]) (fun _ => up (bkd a)) (by simp) (by omega) fun y hy env' _ h2 => ?_
      rw [List.mem_singleton.mp hy] at h2
      refine ⟨?_, pure_nofl (pure_up _)⟩
      simp [e165_0, ev, evA, h2, qa]
    have es : up (skd (.fr a)) = .tup [.int (sz (.fr a)), .int 6, up (bkd a)] := rfl
    rw [er] at q q1 q2 ⊢
    rw [es, show k + dr (.fr a) + 5 = N + 1 by rw [← hN], evCall]
    generalize up (bkd a) = KA at *
    generalize sz (.fr a) = S at *
    simp [D, d165, evSs, evS, ev, evA, evI, evCs, ME.held, leave_id, sizeLine_eq, srcV, Src.many, MG.slots, U.wipe, q, q1, q2, l2, lc_nil, o7, p6, seq_tup, seq_fl]
theorem rows_key : ∀ a : RL, vl a → dp a ≤ 400 → ∀ r ∈ tl a, ∀ k st, evCall TURNS D (k + dp a + 4) 165 [rv r] st = .ok (up (skd r)) st
  | .nil, _, _, r, hr, _, _ => nomatch hr
  | .cons s ss, hv, hd, r, hr, k, st => by
    have hd : 1 + max (dr s) (dp ss) ≤ 400 := hd
    rcases List.mem_cons.mp hr with e | hr
    · rw [e]
      have := row_key s hv.1 (by omega) (k + dp (.cons s ss) - dr s - 1) st
      rwa [show k + dp (.cons s ss) - dr s - 1 + dr s + 5 = k + dp (.cons s ss) + 4 by rw [dp]; omega] at this
    · have := rows_key ss hv.2 (by omega) r hr (k + dp (.cons s ss) - dp ss) st
      rwa [show k + dp (.cons s ss) - dp ss + dp ss + 4 = k + dp (.cons s ss) + 4 by rw [dp]; omega] at this
end
theorem block_key {a : RL} (hv : vl a) (hd : dp a ≤ 400) (k : Nat) (st : Store) : evCall TURNS D (k + dp a + 5) 164 [.tup (rl a)] st = .ok (up (bkd a)) st :=
  bkq (N := k + dp a + 4) (by have := len_dp a; omega) (fun st => by
    have := size_block hv (by omega) (k + 1) st
    rwa [show k + 1 + dp a + 3 = k + dp a + 4 by omega] at this) (fun r hr st => rows_key a hv hd r hr k st) st
end K69

set_option maxHeartbeats 4000000
namespace K69
open PySem L2 U
/-! ### keys and blocks as data -/
def G (n : Nat) (d : PyData) : Prop := pyOf (up d) = some d ∧ d.canLay0 = true ∧ d.depth ≤ n
def GA (n : Nat) (ds : List PyData) : Prop := pyOfL (ups ds) = some ds ∧ PyData.canLayAll0 ds = true ∧ PyData.depthAll ds ≤ n
theorem G.mono {n m : Nat} {d : PyData} (h : G n d) (l : n ≤ m) : G m d := ⟨h.1, h.2.1, Nat.le_trans h.2.2 l⟩
theorem GA.mono {n m : Nat} {d : List PyData} (h : GA n d) (l : n ≤ m) : GA m d := ⟨h.1, h.2.1, Nat.le_trans h.2.2 l⟩
theorem GA.nil (n : Nat) : GA n [] := ⟨rfl, rfl, Nat.zero_le _⟩
theorem GA.cons {n : Nat} {d : PyData} {ds : List PyData} (h : G n d) (t : GA n ds) : GA n (d :: ds) := by
  obtain ⟨h1, h2, h3⟩ := h
  obtain ⟨t1, t2, t3⟩ := t
  refine ⟨?_, ?_, ?_⟩
  · show (match pyOf (up d), pyOfL (ups ds) with | some d, some ds => some (d :: ds) | _, _ => none) = _
    rw [h1, t1]
  · show (d.canLay0 && PyData.canLayAll0 ds) = true
    rw [h2, t2]; rfl
  · show max d.depth (PyData.depthAll ds) ≤ n
    omega
theorem G.tup {n m : Nat} {ds : List PyData} (h : GA n ds) (l : n < m) : G m (.tuple ds) := by
  obtain ⟨h1, h2, h3⟩ := h
  refine ⟨?_, h2, ?_⟩
  · show (pyOfL (ups ds)).map PyData.tuple = _
    rw [h1]; rfl
  · show PyData.depthAll ds + 1 ≤ m
    omega
theorem G.int (n : Nat) (i : Int) : G n (.int i) := ⟨rfl, rfl, Nat.zero_le _⟩
theorem G.str (n : Nat) {x : Str} (h : PyData.canLay0 (.str x) = true) : G n (.str x) := ⟨rfl, h, Nat.zero_le _⟩
theorem G.cb {n : Nat} {c : CB} (h : c.nb) (l : c.lc ≤ n) : G n c.kd := by
  obtain ⟨h1, h2⟩ := CB.kd_lay c h
  exact ⟨by rw [up_key, CB.py_key], h1, Nat.le_trans h2 l⟩
theorem stops2 : ST.all (fun t => PyData.canLay0 (.str (rn t.1 t.2.1 t.2.2)) && PyData.canLay0 (.str t.2.2)) = true := by decide +kernel
theorem stop_lay {i n : Int} {l : Str} (h : (i, n, l) ∈ ST) : PyData.canLay0 (.str (rn i n l)) = true ∧ PyData.canLay0 (.str l) = true := by
  have := List.all_eq_true.mp stops2 _ h
  rwa [Bool.and_eq_true] at this
mutual
theorem g_row : ∀ r : RW, vr r → G (dr r) (skd r)
  | .jump k n, h => .tup (n := 0) (.cons (.int _ _) (.cons (.int _ _) (.cons (.int _ _) (.nil _)))) (Nat.le_refl _)
  | .stop i n l, h => .tup (n := 1) (.cons (.int _ _) (.cons (.int _ _) (.cons (.tup (n := 0) (.cons (.int _ _) (.cons (.int _ _) (.cons (.str _ (stop_lay h).2) (.nil _)))) (Nat.le_refl _)) (.nil _)))) (Nat.le_refl _)
  | .call x, h => .tup (n := 0) (.cons (.int _ _) (.cons (.int _ _) (.cons (.str _ (CB.str_ok h)) (.nil _)))) (Nat.le_refl _)
  | .ife c a b, h => .tup (n := max c.lc (max (dp a) (dp b))) (.cons (.int _ _) (.cons (.int _ _) (.cons (.cb h.1 (by omega)) (.cons ((g_rows a h.2.1).1.mono (by omega)) (.cons ((g_rows b h.2.2).1.mono (by omega)) (.nil _)))))) (by rw [dr]; omega)
  | .whl c a, h => .tup (n := max c.lc (dp a)) (.cons (.int _ _) (.cons (.int _ _) (.cons (.cb h.1 (by omega)) (.cons ((g_rows a h.2).1.mono (by omega)) (.nil _))))) (by rw [dr]; omega)
  | .fr a, h => .tup (n := dp a) (.cons (.int _ _) (.cons (.int _ _) (.cons (g_rows a h).1 (.nil _)))) (by rw [dr]; omega)
theorem g_rows : ∀ a : RL, vl a → G (dp a) (bkd a) ∧ GA (dp a - 1) (bkl a)
  | .nil, _ => ⟨.tup (n := 0) (.cons (.int _ _) (.cons (.int _ _) (.nil _))) (Nat.le_refl _), .nil _⟩
  | .cons r rs, h => by
    have i := (g_rows rs h.2).2
    have t : GA (dp (.cons r rs) - 1) (bkl (.cons r rs)) := .cons ((g_row r h.1).mono (by rw [dp]; omega)) (i.mono (by rw [dp]; omega))
    exact ⟨.tup (.cons (.int _ _) (.cons (.int _ _) t)) (by rw [dp]; omega), t⟩
end
theorem g_stop {i n : Int} {l : Str} (h : (i, n, l) ∈ ST) : G 1 (lstop i n l) := by
  unfold lstop
  split
  · split
    · exact .tup (n := 0) (.cons (.int _ _) (.cons (.int _ _) (.nil _))) (Nat.le_refl _)
    · exact .tup (n := 0) (.cons (.int _ _) (.cons (.int _ _) (.nil _))) (Nat.le_refl _)
  · exact .tup (n := 0) (.cons (.int _ _) (.cons (.str _ (stop_lay h).2) (.nil _))) (Nat.le_refl _)
mutual
theorem g_rkt : ∀ r : RW, vr r → GA (dr r - 1) (rkt r)
  | .jump k n, h => .cons (.int _ _) (.cons (.int _ _) (.nil _))
  | .stop i n l, h => .cons (.int _ _) (.cons (g_stop h) (.nil _))
  | .call x, h => .cons (.int _ _) (.cons (.str _ (CB.str_ok h)) (.nil _))
  | .ife c a b, h => .cons (.int _ _) (.cons (.cb h.1 (by rw [dr]; omega)) (.cons ((g_lkd a h.2.1).mono (by rw [dr]; omega)) (.cons ((g_lkd b h.2.2).mono (by rw [dr]; omega)) (.nil _))))
  | .whl c a, h => .cons (.int _ _) (.cons (.cb h.1 (by rw [dr]; omega)) (.cons ((g_lkd a h.2).mono (by rw [dr]; omega)) (.nil _)))
  | .fr a, h => .cons (.int _ _) (.cons ((g_lkd a h).mono (by rw [dr]; omega)) (.nil _))
theorem g_lkd : ∀ a : RL, vl a → G (dp a) (lkd a)
  | .nil, _ => .tup (n := 0) (.cons (.int _ _) (.cons (.int _ _) (.nil _))) (Nat.le_refl _)
  | .cons r .nil, h => by
    refine .tup (n := dr r - 1) (.cons (.int _ _) (.cons (.int _ _) (g_rkt r h.1))) ?_
    rw [dp]; omega
  | .cons r (.cons s ss), h => by
    have i := g_lkd (.cons s ss) h.2
    refine .tup (n := max (dr r) (dp (.cons s ss))) (.cons (.int _ _) (.cons (.int _ _) (.cons (.tup (n := dr r - 1) (.cons (.int _ _) (.cons (.int _ _) (g_rkt r h.1))) ?_) (.cons (i.mono (by omega)) (.nil _))))) ?_
    · have : 1 ≤ dr r := by cases r <;> rw [dr] <;> omega
      omega
    · show max (dr r) (dp (.cons s ss)) < 1 + max (dr r) (dp (.cons s ss))
      omega
end
theorem up_tup' (d : List PyData) : up (.tuple d) = .tup (ups d) := rfl
theorem lt_of {n : Nat} {xs ys : List PyData} {u : Bool} (h1 : G n (.tuple xs)) (h2 : G n (.tuple ys)) (hn : n ≤ 64) (h : dLt (.tuple xs) (.tuple ys) = some u) (st : Store) : cmpV .lt (up (.tuple xs)) (up (.tuple ys)) st = some u := by
  have e : ltD (up (.tuple xs)) (up (.tuple ys)) = some u := by
    unfold ltD
    rw [h1.1, h2.1]
    have s1 : SeqAt.shaped (.tuple xs) = true := by
      show (PyData.canLay0 (.tuple xs) && decide (PyData.depth (.tuple xs) ≤ 64)) = true
      rw [h1.2.1, decide_eq_true (Nat.le_trans h1.2.2 hn)]; rfl
    have s2 : SeqAt.shaped (.tuple ys) = true := by
      show (PyData.canLay0 (.tuple ys) && decide (PyData.depth (.tuple ys) ≤ 64)) = true
      rw [h2.2.1, decide_eq_true (Nat.le_trans h2.2.2 hn)]; rfl
    simp only
    rw [s1, s2]
    exact h
  rw [up_tup', up_tup'] at e ⊢
  exact e
theorem lt_bkd {a b : RL} (ha : vl a) (hb : vl b) (za : dp a ≤ 60) (zb : dp b ≤ 60) {u : Bool} (h : dLt (bkd a) (bkd b) = some u) (st : Store) : cmpV .lt (up (bkd a)) (up (bkd b)) st = some u :=
  lt_of ((g_rows a ha).1.mono za) ((g_rows b hb).1.mono zb) (by omega) h st
theorem lt_lkd {a b : RL} (ha : vl a) (hb : vl b) (za : dp a ≤ 60) (zb : dp b ≤ 60) {u : Bool} (h : dLt (lkd a) (lkd b) = some u) (st : Store) : cmpV .lt (up (lkd a)) (up (lkd b)) st = some u := by
  obtain ⟨xs, ex⟩ := lkd_tup a
  obtain ⟨ys, ey⟩ := lkd_tup b
  have g1 := (g_lkd a ha).mono za
  have g2 := (g_lkd b hb).mono zb
  rw [ex] at g1 h ⊢
  rw [ey] at g2 h ⊢
  exact lt_of g1 g2 (by omega) h st
theorem earlier {a b : RL} (ha : vl a) (hb : vl b) (za : dp a ≤ 60) (zb : dp b ≤ 60) {u : Bool} (h : dLt (bkd a) (bkd b) = some u) (k : Nat) (st : Store) : evCall TURNS D (k + 66) 163 [.tup (rl a), .tup (rl b)] st = .ok (.bl u) st := by
  have q1 := fun st => block_key ha (by omega) (k + 60 - dp a) st
  rw [show k + 60 - dp a + dp a + 5 = k + 65 by omega] at q1
  have q2 := fun st => block_key hb (by omega) (k + 60 - dp b) st
  rw [show k + 60 - dp b + dp b + 5 = k + 65 by omega] at q2
  have c := fun st => lt_bkd ha hb za zb h st
  have va := varV_p (pure_up (bkd a))
  have vb := varV_p (pure_up (bkd b))
  rw [show k + 66 = (k + 65) + 1 from rfl, evCall]
  generalize up (bkd a) = A at *
  generalize up (bkd b) = B at *
  simp [D, d163, evSs, evS, ev, evA, evCs, ME.held, leave_id, q1, q2, c, va, vb]
/-! blocks that are the same -/
mutual
theorem py_rv : ∀ r : RW, vr r → ∃ d, pyOf (rv r) = some d ∧ d.canLay0 = true ∧ d.depth ≤ 2 * dr r
  | .jump k n, h => ⟨.tuple [.str (jw k), .int n], rfl, by
      show (PyData.canLay0 (.str (jw k)) && (true && true)) = true
      cases k <;> decide +kernel, by show 0 + 1 ≤ 2 * 1; omega⟩
  | .stop i n l, h => ⟨.tuple [.str "stop", .str (rn i n l)], rfl, by
      show (PyData.canLay0 (.str "stop") && (PyData.canLay0 (.str (rn i n l)) && true)) = true
      rw [(stop_lay h).1]; decide +kernel, by show 0 + 1 ≤ 2 * 2; omega⟩
  | .call x, h => ⟨.tuple [.str "call", .str x], rfl, by
      show (PyData.canLay0 (.str "call") && (PyData.canLay0 (.str x) && true)) = true
      rw [CB.str_ok h]; decide +kernel, by show 0 + 1 ≤ 2 * 1; omega⟩
  | .ife c a b, h => by
    obtain ⟨⟨dc, c1, c2, c3⟩, _⟩ := CB.py_pv c h.1
    obtain ⟨da, a1, a2, a3⟩ := py_rl a h.2.1
    obtain ⟨db, b1, b2, b3⟩ := py_rl b h.2.2
    have l2 : pyOfL [c.pv, .tup (rl a), .tup (rl b)] = some [dc, .tuple da, .tuple db] := by
      simp only [pyOfL, pyOf, c1, a1, b1, Option.map_some]
    refine ⟨.tuple [.str "if", dc, .tuple da, .tuple db], ?_, ?_, ?_⟩
    · show (match pyOf (.str "if"), pyOfL [c.pv, .tup (rl a), .tup (rl b)] with | some d, some ds => some (d :: ds) | _, _ => none).map PyData.tuple = _
      rw [l2]; rfl
    · show (PyData.canLay0 (.str "if") && (dc.canLay0 && (PyData.canLayAll0 da && (PyData.canLayAll0 db && true)))) = true
      rw [c2, a2, b2]; decide +kernel
    · show max 0 (max dc.depth (max (PyData.depthAll da + 1) (max (PyData.depthAll db + 1) 0))) + 1 ≤ 2 * (1 + max c.lc (max (dp a) (dp b)))
      omega
  | .whl c a, h => by
    obtain ⟨⟨dc, c1, c2, c3⟩, _⟩ := CB.py_pv c h.1
    obtain ⟨da, a1, a2, a3⟩ := py_rl a h.2
    have l2 : pyOfL [.non, c.pv, .tup (rl a)] = some [.none, dc, .tuple da] := by
      simp only [pyOfL, pyOf, c1, a1, Option.map_some]
    refine ⟨.tuple [.str "while", .none, dc, .tuple da], ?_, ?_, ?_⟩
    · show (match pyOf (.str "while"), pyOfL [.non, c.pv, .tup (rl a)] with | some d, some ds => some (d :: ds) | _, _ => none).map PyData.tuple = _
      rw [l2]; rfl
    · show (PyData.canLay0 (.str "while") && (true && (dc.canLay0 && (PyData.canLayAll0 da && true)))) = true
      rw [c2, a2]; decide +kernel
    · show max 0 (max 0 (max dc.depth (max (PyData.depthAll da + 1) 0))) + 1 ≤ 2 * (1 + max c.lc (dp a))
      omega
  | .fr a, h => by
    obtain ⟨da, a1, a2, a3⟩ := py_rl a h
    have l2 : pyOfL [.non, .tup (rl a)] = some [.none, .tuple da] := by
      simp only [pyOfL, pyOf, a1, Option.map_some]
    refine ⟨.tuple [.str "for", .none, .tuple da], ?_, ?_, ?_⟩
    · show (match pyOf (.str "for"), pyOfL [.non, .tup (rl a)] with | some d, some ds => some (d :: ds) | _, _ => none).map PyData.tuple = _
      rw [l2]; rfl
    · show (PyData.canLay0 (.str "for") && (true && (PyData.canLayAll0 da && true))) = true
      rw [a2]; decide +kernel
    · show max 0 (max 0 (max (PyData.depthAll da + 1) 0)) + 1 ≤ 2 * (1 + dp a)
      omega
theorem py_rl : ∀ a : RL, vl a → ∃ ds, pyOfL (rl a) = some ds ∧ PyData.canLayAll0 ds = true ∧ PyData.depthAll ds ≤ 2 * dp a - 2
  | .nil, _ => ⟨[], rfl, rfl, Nat.zero_le _⟩
  | .cons r rs, h => by
    obtain ⟨d, d1, d2, d3⟩ := py_rv r h.1
    obtain ⟨ds, e1, e2, e3⟩ := py_rl rs h.2
    refine ⟨d :: ds, ?_, ?_, ?_⟩
    · show (match pyOf (rv r), pyOfL (rl rs) with | some d, some ds => some (d :: ds) | _, _ => none) = _
      rw [d1, e1]
    · show (d.canLay0 && PyData.canLayAll0 ds) = true
      rw [d2, e2]; rfl
    · show max d.depth (PyData.depthAll ds) ≤ _
      rw [dp]; omega
end
theorem ne_self {a : RL} (h : vl a) (hz : dp a ≤ 32) (st : Store) : cmpV .ne (.tup (rl a)) (.tup (rl a)) st = some false := by
  obtain ⟨ds, h1, h2, h3⟩ := py_rl a h
  have : eqD (.tup (rl a)) (.tup (rl a)) = some true := by
    unfold eqD
    rw [show eqS (.tup (rl a)) (.tup (rl a)) = none from rfl, show pyOf (.tup (rl a)) = some (.tuple ds) by show (pyOfL (rl a)).map PyData.tuple = _; rw [h1]; rfl]
    have hc : PyData.canLay0 (.tuple ds) = true := h2
    have hd : PyData.depth (.tuple ds) ≤ 64 := by
      show PyData.depthAll ds + 1 ≤ 64
      have : 1 ≤ dp a := by cases a <;> rw [dp] <;> omega
      omega
    have sh : SeqAt.shaped (.tuple ds) = true := by
      show (PyData.canLay0 (.tuple ds) && decide (PyData.depth (.tuple ds) ≤ 64)) = true
      rw [hc, decide_eq_true hd]; rfl
    simp only [sh, Bool.and_self, if_true]
    rw [SeqAt.eqv_refl _ hc]
  show (eqD _ _).map (!·) = _
  rw [this]; rfl
end K69

set_option maxHeartbeats 4000000
namespace K69
open PySem L2 U
variable {ns : List Int} {R : Store} {st : Store} {xs : List Str} {f g : Nat} {a b : Int} {s : Str}
/-! ### a room -/
abbrev FR (g : Nat) (s : Str) (a b : Int) : List PV := [.int a, .int b, .int 3, .str s, .loc (g + 2)]
structure Wl (R : Store) (xs : List Str) (f g : Nat) : Prop where
  hg : R[g]? = some (.lst (xs.map .str))
  fg : f ≠ g
  fl : f < R.length
  low : Low (R.length + 2) R
def CS (ns : List Int) (R : Store) (f g : Nat) (s : Str) (a b : Int) (st : Store) : Prop := TR ns (R.set f (.lst (FR g s a b))) st
theorem Wl.gl (W : Wl R xs f g) : g < R.length := (List.getElem?_eq_some_iff.mp W.hg).1
theorem Wl.hs (W : Wl R xs f g) (c : Cell) : (R.set f c)[g]? = some (.lst (xs.map .str)) := by rw [List.getElem?_set_ne W.fg, W.hg]
theorem CS.cg (h : CS ns R f g s a b st) (W : Wl R xs f g) : st[g + 2]? = some (.lst (xs.map .str)) := (TR.at h g).trans (W.hs _)
theorem CS.cf (h : CS ns R f g s a b st) (W : Wl R xs f g) : st[f + 2]? = some (.lst (FR g s a b)) := by
  have := TR.at h f
  rw [List.getElem?_set_self W.fl] at this
  exact this
theorem CS.set (h : CS ns R f g s a b st) (a' b' : Int) : CS ns R f g s a' b' (setAt st (f + 2) (FR g s a' b')) := by
  have := TR.set h f (FR g s a' b')
  rw [List.set_set] at this
  exact this
theorem CS.len (h : CS ns R f g s a b st) : st.length = R.length + 2 := by
  have := TR.len h
  simpa using this
theorem Wl.low' (W : Wl R xs f g) (s : Str) (a b : Int) : Low (R.length + 2) (R.set f (.lst (FR g s a b))) := fun c hc => by
  rcases List.mem_or_eq_of_mem_set hc with hc | rfl
  · exact W.low c hc
  · have := W.gl
    show (true && (true && (true && (true && (decide (g + 2 < R.length + 2) && true))))) = true
    rw [decide_eq_true (by omega)]; rfl
theorem CS.ix (h : CS ns R f g s a b st) (W : Wl R xs f g) : ixV (.loc (f + 2)) (.int 0) st = some (.int a) ∧ ixV (.loc (f + 2)) (.int 1) st = some (.int b) ∧ ixV (.loc (f + 2)) (.int 2) st = some (.int 3) ∧ ixV (.loc (f + 2)) (.int 3) st = some (.str s) ∧ ixV (.loc (f + 2)) (.int 4) st = some (.loc (g + 2)) := by
  refine ⟨?_, ?_, ?_, ?_, ?_⟩
  · exact ix_loc (k := 0) (h.cf W)
  · exact ix_loc (k := 1) (h.cf W)
  · exact ix_loc (k := 2) (h.cf W)
  · exact ix_loc (k := 3) (h.cf W)
  · exact ix_loc (k := 4) (h.cf W)
/-- the name of a call -/
theorem CS.name {k : Nat} (h : CS ns R f g s a b st) (W : Wl R xs f g) (hx : NM xs) : ∃ (q : Int) (x : Str) (st1 : Store), B 60 x ∧ CS ns R f g s a b st1 ∧ biV .len [.loc (g + 2)] st = some (.int xs.length) ∧ evCall TURNS D (k + 1) 5 [.loc 1, .int xs.length] st = .ok (.int q) st1 ∧ ixV (.loc (g + 2)) (.int q) st1 = some (.str x) :=
  name_ok hx (W.hs _) h
theorem CS.draw {k : Nat} {m : Int} (h : CS ns R f g s a b st) (hm : 1 ≤ m ∧ m < 1000000) : ∃ r st', evCall TURNS D (k + 1) 5 [.loc 1, .int m] st = .ok (.int r) st' ∧ CS ns R f g s a b st' ∧ 0 ≤ r ∧ r < m := drawR h hm
/-! ### conditions -/
namespace CB
theorem cond_parts {k : Nat} (W : Wl R xs f g) (hx : NM xs) {n : Nat} (hn : n ≤ 4) {x3 x4 x5 : Option PV} (h : CS ns R f g s a b st) :
    ∃ (cs : List CB) (a' : Int) (x3' x4' : Option PV) (st' : Store), forLoop (MG.put (.nm 3)) (evSs (evCall TURNS D (k + 1)) TURNS b168_1) (.items ((List.range n).map fun (k : Nat) => .int k)) 0 n [some (.loc 1), some (.loc (f + 2)), some (.fl []), x3, x4, x5] st
      = .nx [some (.loc 1), some (.loc (f + 2)), some (.fl (cs.map pv)), x3', x4', x5] st' ∧ CS ns R f g s a' b st' ∧ cs.length = n ∧ (∀ c ∈ cs, c.nb) ∧ lcs cs = n := by
  obtain ⟨e, s', q1, cs, a', x3', x4', q2, q3, q4, q5, q6⟩ := forLoop_inv (put := MG.put (.nm 3)) (body := evSs (evCall TURNS D (k + 1)) TURNS b168_1) (xs := (List.range n).map fun (k : Nat) => .int k)
    (fun j env s' => ∃ (cs : List CB) (a' : Int) (x3' x4' : Option PV), env = [some (.loc 1), some (.loc (f + 2)), some (.fl (cs.map pv)), x3', x4', x5] ∧ CS ns R f g s a' b s' ∧ cs.length = j ∧ (∀ c ∈ cs, c.nb) ∧ lcs cs = j) (fun j x env s' hx' ⟨cs, a', x3', x4', e1, e2, e3, e4, e5⟩ => by
      subst e1
      have hj : j < n := by
        have := (List.getElem?_eq_some_iff.mp hx').1
        simpa using this
      obtain ⟨q, y, st1, yB, n1, n2, n3, n4⟩ := e2.name (k := k) W hx
      obtain ⟨_, _, _, _, i4⟩ := e2.ix W
      obtain ⟨i0, _, _, _, _⟩ := n1.ix W
      have cf := n1.cf W
      have t1 := n1.set (a' - 1) b
      obtain ⟨r, st2, h1, h2, h3, h4⟩ := t1.draw (k := k) (m := 3) (by decide)
      have e0 : ixN 5 0 = some 0 := rfl
      have hl : cs.length < 16777216 := by omega
      refine ⟨[some (.loc 1), some (.loc (f + 2)), some (.fl (cs.map pv)), some x, x4', x5], rfl, ?_⟩
      by_cases hr : r = 0
      · have pn : pv (.no y) = .tup [.str "not", .tup [.str "call", .str y]] := rfl
        simp [b168_1, evSs, evS, ev, evA, evCs, i4, i0, n2, n3, n4, cf, e0, h1, hr, hl, sizeLine_eq]
        refine ⟨cs ++ [.no y], ?_, ⟨_, h2⟩, by simp; omega, fun c hc => ?_, ?_⟩
        · rw [List.map_append]; rfl
        · rcases List.mem_append.mp hc with hc | hc
          · exact e4 c hc
          · rw [List.mem_singleton.mp hc]; exact yB
        · have e5 : (cs.map lc).sum = j := e5
          show ((cs ++ [CB.no y]).map lc).sum = j + 1
          rw [List.map_append, List.sum_append, e5]; rfl
      · have pn : pv (.call y) = .tup [.str "call", .str y] := rfl
        simp [b168_1, evSs, evS, ev, evA, evCs, i4, i0, n2, n3, n4, cf, e0, h1, hr, hl, sizeLine_eq]
        refine ⟨cs ++ [.call y], ?_, ⟨_, h2⟩, by simp; omega, fun c hc => ?_, ?_⟩
        · rw [List.map_append]; rfl
        · rcases List.mem_append.mp hc with hc | hc
          · exact e4 c hc
          · rw [List.mem_singleton.mp hc]; exact yB
        · have e5 : (cs.map lc).sum = j := e5
          show ((cs ++ [CB.call y]).map lc).sum = j + 1
          rw [List.map_append, List.sum_append, e5]; rfl) n 0 [some (.loc 1), some (.loc (f + 2)), some (.fl []), x3, x4, x5] st (by simp) ⟨[], a, x3, x4, rfl, h, rfl, (fun p hp => nomatch hp), rfl⟩
  rw [show ((List.range n).map fun (k : Nat) => PV.int k).length = n by simp] at q4 q6
  exact ⟨cs, a', x3', x4', s', by rw [q1, q2], q3, q4, q5, q6⟩
theorem split2' {ps : List CB} {i : Int} (h0 : 0 ≤ i) (h1 : i < (ps.length : Int) - 1) : ∃ A p q C, ps = A ++ p :: q :: C ∧ (A.length : Int) = i := by
  obtain ⟨n, rfl⟩ : ∃ n : Nat, i = n := ⟨i.toNat, by omega⟩
  have e1 : n < ps.length := by omega
  have e2 : n + 1 < ps.length := by omega
  refine ⟨ps.take n, ps[n], ps[n + 1], ps.drop (n + 2), ?_, by rw [List.length_take]; omega⟩
  rw [← List.drop_eq_getElem_cons e2, ← List.drop_eq_getElem_cons e1, List.take_append_drop]
/-- a turn of the joining -/
theorem cond_turn {k : Nat} {ps : List CB} {x3 x4 x5 : Option PV} (h : CS ns R f g s a b st) (h1 : 1 ≤ ps.length) (h2 : ps.length ≤ 4) (h3 : ∀ p ∈ ps, p.nb) (h4 : lcs ps ≤ 4) :
    ∃ (ps' : List CB) (x4' x5' : Option PV) (st' : Store), evSs (evCall TURNS D (k + 1)) TURNS b168_0 [some (.loc 1), some (.loc (f + 2)), some (.fl (ps.map pv)), x3, x4, x5] st
      = .nx [some (.loc 1), some (.loc (f + 2)), some (.fl (ps'.map pv)), x3, x4', x5'] st' ∧ CS ns R f g s a b st' ∧ 1 ≤ ps'.length ∧ ps'.length ≤ 4 ∧ (∀ p ∈ ps', p.nb) ∧ lcs ps' = lcs ps := by
  by_cases hl : ps.length = 1
  · refine ⟨ps, x4, x5, st, ?_, h, h1, h2, h3, rfl⟩
    simp [b168_0, evSs, evS, ev, evA, evCs, hl]
  · obtain ⟨r, st1, g1, g2, g3, g4⟩ := h.draw (k := k) (m := (ps.length : Int) - 1) (by omega)
    obtain ⟨A, p, q, C, e, hA⟩ := split2' g3 (by omega)
    obtain ⟨r2, st2, d1, d2, d3, d4⟩ := g2.draw (k := k) (m := 2) (by decide)
    have hp := h3 p (by rw [e]; simp)
    have hq := h3 q (by rw [e]; simp)
    obtain ⟨k0, hk0⟩ : ∃ k0 : Bool, atI [PV.str "and", .str "or"] r2 = some (.str (wd k0)) := by
      have : r2 = 0 ∨ r2 = 1 := by omega
      rcases this with rfl | rfl
      · exact ⟨true, rfl⟩
      · exact ⟨false, rfl⟩
    obtain ⟨_, _, w1, w2⟩ := cat_ok k0 p q
    have el : lcs ps = lcs A + (lc p + (lc q + lcs C)) := by
      rw [e]; simp [lcs]
    have jn := fun st => joined (k0 := k0) (a := p) (b := q) (by omega) (by omega) k st
    have em : ps.map pv = A.map pv ++ pv p :: pv q :: C.map pv := by rw [e]; simp
    have i1 : atI (ps.map pv) r = some (pv p) := atI_nn g3 (by rw [em, show r.toNat = (A.map pv).length by rw [List.length_map]; omega]; simp)
    have i2 : atI (ps.map pv) (r + 1) = some (pv q) := atI_nn (by omega) (by rw [em, show (r + 1).toNat = (A.map pv).length + 1 by rw [List.length_map]; omega]; simp)
    have c1 : cutL (ps.map pv) none (some r) = A.map pv := by
      rw [em, show r = ((A.map pv).length : Int) by rw [List.length_map]; omega]; exact cutL_lo (α := PV) (A.map pv) _
    have c2 : cutL (ps.map pv) (some (r + 2)) none = C.map pv := by
      have := cutL_hi (α := PV) (A.map pv ++ [pv p, pv q]) (C.map pv) (r + 2) (by simp; omega)
      rw [em]
      simpa using this
    have zl : (1 : Int) < (ps.length : Int) := by omega
    have sl1 : ∀ st, slV (.fl (ps.map pv)) none (some r) st = some (.fl (A.map pv)) := fun st => by rw [← c1]; rfl
    have sl2 : ∀ st, slV (.fl (ps.map pv)) (some (r + 2)) none st = some (.fl (C.map pv)) := fun st => by rw [← c2]; rfl
    have ixa := fun st => ix_fl_ (ps.map pv) r st
    have ixb := fun st => ix_fl_ (ps.map pv) (r + 1) st
    rw [i1] at ixa
    rw [i2] at ixb
    have ep := fun st => esc_p (pure_pv p).1 st
    have eq' := fun st => esc_p (pure_pv q).1 st
    have ev' := fun st => esc_p (pure_pv (cat k0 p q)).1 st
    have vv := fun st => varV_p (pure_pv (cat k0 p q)).1 st
    have hlen : A.length + C.length + 2 ≤ 4 := by
      have : ps.length = A.length + C.length + 2 := by rw [e]; simp; omega
      omega
    have a1 := fun (x : PV) (st : Store) => bin_add_fl (xs := A.map pv) (ys := [x]) (st := st) (by simp; omega)
    have a2 := fun (x : PV) (st : Store) => bin_add_fl (xs := A.map pv ++ [x]) (ys := C.map pv) (st := st) (by simp; omega)
    refine ⟨A ++ [cat k0 p q] ++ C, some (pv (cat k0 p q)), some (.int r), st2, ?_, d2, by simp; omega, by simp; omega, fun y hy => ?_, ?_⟩
    · have fin : (A ++ [cat k0 p q] ++ C).map pv = A.map pv ++ [pv (cat k0 p q)] ++ C.map pv := by simp
      have bl : ∀ st, biV .len [.fl (ps.map pv)] st = some (.int ps.length) := fun st => by
        show some (PV.int ((ps.map pv).length : Nat)) = _
        rw [List.length_map]
      rw [fin]
      generalize ps.map pv = P at *
      generalize A.map pv = A' at *
      generalize C.map pv = C' at *
      generalize pv (cat k0 p q) = V at *
      simp [b168_0, evSs, evS, ev, evA, evCs, bl, zl, g1, d1, hk0, ixa, ixb, ep, eq', jn, ev', vv, ME.absent, bound_non, bound_int, sl1, sl2, a1, a2, sizeLine_eq]
    · rcases List.mem_append.mp hy with hy | hy
      · rcases List.mem_append.mp hy with hy | hy
        · exact h3 y (by rw [e]; simp [hy])
        · rw [List.mem_singleton.mp hy]; exact w2 hp hq
      · exact h3 y (by rw [e]; simp [hy])
    · rw [el]
      simp [lcs, w1]; omega
theorem cond_ok {k : Nat} (W : Wl R xs f g) (hx : NM xs) (h : CS ns R f g s a b st) :
    ∃ (c : CB) (st' : Store) (a' : Int), evCall TURNS D (k + 3) 168 [.loc 1, .loc (f + 2)] st = .ok c.pv st' ∧ c.nb ∧ c.lc ≤ 3 ∧ CS ns R f g s a' b st' := by
  obtain ⟨r1, st1, d1, d2, d3, d4⟩ := h.draw (k := k + 1) (m := 3) (by decide)
  have pk : ∃ n : Int, atI [PV.int 1, .int 1, .int 3] r1 = some (.int n) ∧ 1 ≤ n ∧ n ≤ 3 := by
    obtain ⟨y, hy, e3⟩ := pick (xs := [PV.int 1, .int 1, .int 3]) (i := r1) d3 (by simpa using d4)
    simp only [List.mem_cons, List.not_mem_nil, or_false] at hy
    rcases hy with rfl | rfl | rfl <;> exact ⟨_, e3, by decide, by decide⟩
  obtain ⟨n, e6, n1, n3⟩ := pk
  obtain ⟨r2, st2, g1, g2, g3, g4⟩ := d2.draw (k := k + 1) (m := n) (by omega)
  obtain ⟨i0, _, _, _, _⟩ := h.ix W
  obtain ⟨N, hN⟩ : ∃ N : Int, N = max 1 (min a (1 + r2)) := ⟨_, rfl⟩
  have N1 : 1 ≤ N ∧ N ≤ 3 := by omega
  have hr := rng_ok' (n := N) (by omega) (by omega) st2
  obtain ⟨ps, a', x3, x4, st3, l1, l2, l3, l4, l5⟩ := cond_parts (k := k + 1) W hx (n := N.toNat) (by omega) (x3 := none) (x4 := none) (x5 := none) g2
  have hr3 := rng_ok' (n := 2) (by omega) (by omega) st3
  obtain ⟨e, st4, m1, ps', y3, y4, y5, m2, m3, m4, m5, m6, m7⟩ := forLoop_inv (put := MG.put (.nm 3)) (body := evSs (evCall TURNS D (k + 2)) TURNS b168_0) (xs := (List.range (2 : Int).toNat).map fun (k : Nat) => .int k)
    (fun j env s' => ∃ (ps : List CB) (x3 x4 x5 : Option PV), env = [some (.loc 1), some (.loc (f + 2)), some (.fl (ps.map pv)), x3, x4, x5] ∧ CS ns R f g s a' b s' ∧ 1 ≤ ps.length ∧ ps.length ≤ 4 ∧ (∀ p ∈ ps, p.nb) ∧ lcs ps ≤ 3) (fun j x env s' hx' ⟨ps, x3, x4, x5, e1, e2, e3, e4, e5, e6⟩ => by
      subst e1
      obtain ⟨ps', x4', x5', st', q1, q2, q3, q4, q5, q6⟩ := cond_turn (k := k + 1) (x3 := some x) (x4 := x4) (x5 := x5) e2 e3 e4 e5 (by omega)
      refine ⟨_, rfl, ?_⟩
      show SR.go (evSs (evCall TURNS D (k + 2)) TURNS b168_0 [some (.loc 1), some (.loc (f + 2)), some (.fl (ps.map pv)), some x, x4, x5] s') _
      rw [q1]
      exact ⟨ps', _, _, _, rfl, q2, q3, q4, q5, by omega⟩) 2 0 [some (.loc 1), some (.loc (f + 2)), some (.fl (ps.map pv)), x3, x4, none] st3 (by simp) ⟨ps, x3, x4, none, rfl, l2, by omega, by omega, l4, by omega⟩
  subst m2
  obtain ⟨p, qs, rfl⟩ : ∃ p qs, ps' = p :: qs := by
    cases ps' with
    | nil => simp at m4
    | cons p qs => exact ⟨p, qs, rfl⟩
  have lp : lc p ≤ 3 := by
    have : lcs (p :: qs) = lc p + lcs qs := rfl
    omega
  refine ⟨p, st4, a', ?_, m6 p List.mem_cons_self, lp, m3⟩
  have lv : ∀ v, U.leave st.length v st4 = .ok v st4 := fun v => leave_same (by rw [m3.len, h.len]; omega)
  have pp := varV_p (pure_pv p).1 st4
  have ix0 : ∀ st, ixV (.fl ((p :: qs).map pv)) (.int 0) st = some (pv p) := fun st => (ix_fl_ _ 0 st).trans (atI_nn (by omega) rfl)
  refine (call_rt (k := k + 2) (f := 168) (d := d168) (args := [.loc 1, .loc (f + 2)]) (v := p.pv) (s := st4) rfl rfl rfl rfl ?_).trans (lv _)
  have mx : ∀ st, biV .min [.int a, .int (1 + r2)] st = some (.int (min a (1 + r2))) := fun st => by
    rw [bi_min]
    congr 2
    split <;> omega
  have mm : ∀ st, biV .max [.int 1, .int (min a (1 + r2))] st = some (.int N) := fun st => by
    rw [bi_max, hN]
    congr 2
    split <;> omega
  have lN : ((List.range N.toNat).map fun (k : Nat) => PV.int k).length = N.toNat := by simp
  have l2' : ((List.range (2 : Int).toNat).map fun (k : Nat) => PV.int k).length = 2 := by simp
  unfold d168
  generalize (List.map (fun (k : Nat) => PV.int k) (List.range N.toNat)) = IT at *
  generalize (List.map (fun (k : Nat) => PV.int k) (List.range (2 : Int).toNat)) = IT2 at *
  generalize (p :: qs).map pv = PQ at *
  simp [evSs, evS, ev, evA, evCs, evSrc, Src.many, ME.held, i0, d1, e6, g1, mx, mm, hr, lN, l1, hr3, l2', m1, ix0, pp, sizeLine_eq, -bi_min, -bi_max]
end CB
end K69

set_option maxHeartbeats 4000000
namespace K69.N
variable {R : U.Store}

open PySem L2 U
theorem loopA {k : Nat} {ns : List Int} {st : Store} {sg name : Str} {r : Int} {a1 a3 a4 a5 a6 a7 a9 a10 : Option PV} (hg : ∀ (i : Int) (st : Store), 0 ≤ i → i < 63 → ∃ c, ixV (.str sg) (.int i) st = some (.str ⟨#[c]⟩) ∧ c < 256)
    (t : TR ns R st) (hn : B 21 name) (h0 : 0 ≤ r) (h1 : r ≤ 6) :
    ∃ nm x9 st', forLoop (MG.put (.nm 9)) (evSs (evCall TURNS D (k + 1)) TURNS b6_0) (.items ((List.range r.toNat).map fun (k : Nat) => .int k)) 0 r.toNat [some (.loc 1), a1, some (.str sg), a3, a4, a5, a6, a7, some (.str name), a9, a10] st
      = .nx [some (.loc 1), a1, some (.str sg), a3, a4, a5, a6, a7, some (.str nm), x9, a10] st' ∧ B 27 nm ∧ TR ns R st' := by
  obtain ⟨e, s, q1, nm, x9, q2, q3, q4⟩ := forLoop_inv (put := MG.put (.nm 9)) (body := evSs (evCall TURNS D (k + 1)) TURNS b6_0) (xs := (List.range r.toNat).map fun (k : Nat) => .int k)
    (fun j env st => ∃ nm x9, B (21 + j) nm ∧ TR ns R st ∧ env = [some (.loc 1), a1, some (.str sg), a3, a4, a5, a6, a7, some (.str nm), x9, a10]) (fun j x env st hx ⟨nm, x9, e1, e2, e3⟩ => by
      subst e3
      have hj : j < r.toNat := by
        have := (List.getElem?_eq_some_iff.mp hx).1
        simpa using this
      obtain ⟨q, st1, g1, g2, g3, g4⟩ := drawR (k := k) (m := 63) e2 (by decide)
      obtain ⟨c, hc, hc2⟩ := hg q st1 g3 g4
      have le1 := e1.1
      have a := add_ok (x := nm) (y := ⟨#[c]⟩) (st := st1) (by omega) (by rw [one_len]; omega)
      refine ⟨_, rfl, ?_⟩
      simp [b6_0, evSs, evS, ev, evA, evCs, g1, hc, a]
      exact ⟨e1.app (.one hc2), g2⟩) r.toNat 0 _ st (by simp) ⟨name, a9, hn, t, rfl⟩
  refine ⟨nm, x9, s, by rw [q1, q4], q2.mono ?_, q3⟩
  have : ((List.range r.toNat).map fun (k : Nat) => PV.int k).length = r.toNat := by simp
  omega
def SG : Str := "abcdefghijklmnopqrstuvwxyzABCDEFGHIJKLMNOPQRSTUVWXYZ0123456789_"
theorem SG_B : B 63 SG := .of (by decide +kernel)
theorem SG_ok (i : Int) (st : Store) (h0 : 0 ≤ i) (h1 : i < 63) : ∃ c, ixV (.str SG) (.int i) st = some (.str ⟨#[c]⟩) ∧ c < 256 := by
  obtain ⟨c, hm, h⟩ := ixS (s := SG) (st := st) h0 (by rw [show Str.length SG = 63 by decide +kernel]; omega) (by decide +kernel)
  exact ⟨c, h, SG_B.2 c hm⟩
def WL : List PV := [.str "let", .str "if", .str "else", .str "while", .str "for", .str "break", .str "continue", .str "return", .str "try", .str "finally", .str "true", .str "false"]
theorem WL_ok {i : Int} (l1 : 0 ≤ i) (u1 : i < 12) : ∃ s : Str, atI WL i = some (.str s) ∧ B 8 s := pickS (xs := WL) l1 (by simpa [WL] using u1) (by
    intro x hx
    simp only [WL, List.mem_cons, List.not_mem_nil, or_false] at hx
    rcases hx with rfl | rfl | rfl | rfl | rfl | rfl | rfl | rfl | rfl | rfl | rfl | rfl <;> exact ⟨_, rfl, .of (by decide +kernel)⟩)
theorem inW (x : Str) (st : Store) : ∃ b, cmpV .inn (.str x) (.fl WL) st = some b := by
  have h : ∃ b, memF (.str x) WL = some b := ⟨_, rfl⟩
  obtain ⟨b, h⟩ := h
  refine ⟨b, ?_⟩
  show U.inV (.str x) (.fl WL) st = some b
  unfold U.inV
  simp only [seq_fl, h]
theorem inXs (x : Str) (xs : List Str) (st : Store) : ∃ b, cmpV .inn (.str x) (.fl (xs.map .str)) st = some b := by
  have e : ∀ l : List Str, flL (l.map .str) = some (l.map V.str) := fun l => by
    induction l with
    | nil => rfl
    | cons z l ih =>
      show (match flV (.str z), flL (l.map .str) with | some v, some vs => some (v :: vs) | _, _ => none) = _
      rw [ih]; rfl
  have h : memF (.str x) (xs.map .str) = some (L2.inV (.str x) (xs.map V.str)) := by
    show (match flV (.str x), flL (xs.map .str) with | some x, some vs => some (L2.inV x vs) | _, _ => none) = _
    rw [e]; rfl
  refine ⟨L2.inV (.str x) (xs.map V.str), ?_⟩
  show U.inV (.str x) (.fl (xs.map .str)) st = _
  unfold U.inV
  simp only [seq_fl, h]
/-- what follows the stem in a turn -/
theorem turnA {k : Nat} {ns : List Int} {st : Store} {stem : Str} {place : Int} {a8 a9 a10 : Option PV} {xs : List Str} {j : Nat} {mn : Int} (hj : j < 100) (hxs : xs.length < 100) (t : TR ns R st) (hs0 : B 10 stem) (h0 : 0 ≤ place) :
    ∃ x a9' a10' st', evSs (evCall TURNS D (k + 1)) TURNS b6_1 [some (.loc 1), some (.int mn), some (.str SG), some (.fl WL), some (.str stem), some (.int place), some (.fl (xs.map .str)), some (.int j), a8, a9, a10] st
      = .nx [some (.loc 1), some (.int mn), some (.str SG), some (.fl WL), some (.str stem), some (.int place), some (.fl (xs.map .str ++ [.str x])), some (.int j), some (.str x), a9', a10'] st' ∧ B 60 x ∧ TR ns R st' := by
  have hs := hs0.1
  obtain ⟨r1, st1, h1, t1, l1, u1⟩ := drawR (k := k) (m := 52) t (by decide)
  obtain ⟨c1, hc1, hc1b⟩ := SG_ok r1 st1 l1 (by omega)
  have q1 := cut_len (lo := none) (hi := some place) hs
  have q2 := cut_len (lo := some place) (hi := none) hs
  have d1 := sl_str_ok (x := stem) (lo := none) (hi := some place) (st := st) (by omega)
  have d2 := sl_str_ok (x := stem) (lo := some place) (hi := none) (st := st1) (by omega)
  have m1 := add_ok (x := cutS stem none (some place)) (y := ⟨#[c1]⟩) (st := st1) (by omega) (by rw [one_len]; omega)
  have m2 := add_ok (x := cutS stem none (some place) ++ ⟨#[c1]⟩) (y := cutS stem (some place) none) (st := st1) (by rw [len_app, one_len]; omega) (by omega)
  obtain ⟨r3, st3, h3, t3, l3, u3⟩ := drawR (k := k) (m := 6) (ns := ns) (st := st1) t1 (by decide)
  have e3 : ∃ n : Int, atI [PV.int 0, .int 0, .int 0, .int 1, .int 2, .int 6] r3 = some (.int n) ∧ 0 ≤ n ∧ n ≤ 6 := by
    obtain ⟨y, hy, e3⟩ := pick (xs := [PV.int 0, .int 0, .int 0, .int 1, .int 2, .int 6]) (i := r3) l3 (by simpa using u3)
    simp only [List.mem_cons, List.not_mem_nil, or_false] at hy
    rcases hy with rfl | rfl | rfl | rfl | rfl | rfl <;> exact ⟨_, e3, by decide, by decide⟩
  obtain ⟨n, e3, n0, n6⟩ := e3
  have hr : rngV (.int 0) (.int n) st3 = .ok (.items ((List.range (n - 0).toNat).map fun (k : Nat) => .int (0 + k))) st3 := if_pos (by omega)
  rw [show n - 0 = n by omega] at hr
  simp only [Int.zero_add] at hr
  obtain ⟨nm, x9, st4, g1, g2, g3⟩ := loopA (k := k) (sg := SG) (name := cutS stem none (some place) ++ ⟨#[c1]⟩ ++ cutS stem (some place) none) (a1 := some (.int mn)) (a3 := some (.fl WL)) (a4 := some (.str stem)) (a5 := some (.int place)) (a6 := some (.fl (xs.map .str))) (a7 := some (.int j)) (a9 := a9) (a10 := a10) SG_ok t3 ((((hs0.cut _ _).app (.one hc1b)).app (hs0.cut _ _)).mono (by omega)) n0 n6
  have g2b := g2
  have g2 := g2b.1
  obtain ⟨r5, st5, h5, t5, l5, u5⟩ := drawR (k := k) (m := 16) g3 (by decide)
  have hx2 : xs.length < 16777216 := by omega
  have jb := num_B (i := (j : Int)) (by omega) (by omega)
  have jl := jb.1
  have ja : (j : Int).natAbs < 1000000 := by omega
  have wj := fun st => bi_str (i := (j : Int)) (st := st) ja
  generalize Str.ofString (toString (j : Int)) = Z at jl wj jb
  have o23 : Str.length ("one_of_two_equal_names_" : Str) = 23 := by decide +kernel
  have kj := fun st => add_ok (x := ("one_of_two_equal_names_" : Str)) (y := Z) (st := st) (by decide +kernel) (by omega)
  have one24 : B 60 (("one_of_two_equal_names_" : Str) ++ Z) := ((B.of (n := 23) (by decide +kernel)).app jb).mono (by omega)
  by_cases c0 : r5 = 0
  · subst c0
    have k1 := len_ok (x := nm) (st := st5) (by omega)
    have k2 := bin_mul_str (x := "x") (j := 30 - nm.length) (st := st5) ⟨by omega, by omega, by rw [show Str.length "x" = 1 by decide +kernel]; omega⟩
    have k4 : (⟨((List.replicate (30 - (nm.length : Int)).toNat (Str.cps "x").toList).flatten).toArray⟩ : Str).length = (30 - (nm.length : Int)).toNat := by
      rw [TL.len_tl]
      show ((List.replicate (30 - (nm.length : Int)).toNat (Str.cps "x").toList).flatten).length = _
      rw [List.length_flatten, List.map_replicate, List.sum_replicate_nat, show (Str.cps "x").toList.length = 1 by decide +kernel]
      omega
    have k5 : B 30 (⟨((List.replicate (30 - (nm.length : Int)).toNat (Str.cps "x").toList).flatten).toArray⟩ : Str) := ⟨by omega, fun c hc => by
      have hc : c ∈ ((List.replicate (30 - (nm.length : Int)).toNat (Str.cps "x").toList).flatten) := hc
      obtain ⟨l, h1, h2⟩ := List.mem_flatten.mp hc
      rw [(List.mem_replicate.mp h1).2] at h2
      exact (B.of (n := 1) (x := "x") (by decide +kernel)).2 c h2⟩
    generalize (⟨((List.replicate (30 - (nm.length : Int)).toNat (Str.cps "x").toList).flatten).toArray⟩ : Str) = XX at k2 k4 k5
    have k3 := add_ok (x := nm) (y := XX) (st := st5) (by omega) (by omega)
    obtain ⟨b, hb⟩ := inW (nm ++ XX) st5
    obtain ⟨b2, hb2⟩ := inXs (nm ++ XX) xs st5
    cases b with
    | false =>
      cases b2 with
      | false =>
        simp [b6_1, evSs, evS, ev, evA, evCs, evSrc, d1, h1, hc1, m1, d2, m2, h3, e3, hr, Src.many, g1, h5, ME.absent, bound_non, bound_int, hx2, -List.map_map, k1, k2, k3, hb, hb2, sizeLine_eq]
        exact ⟨_, _, _, _, ⟨⟨rfl, rfl, rfl⟩, rfl⟩, (g2b.app k5).mono (by omega), t5⟩
      | true =>
        simp [b6_1, evSs, evS, ev, evA, evCs, evSrc, d1, h1, hc1, m1, d2, m2, h3, e3, hr, Src.many, g1, h5, ME.absent, bound_non, bound_int, hx2, -List.map_map, k1, k2, k3, hb, hb2, wj, kj, sizeLine_eq]
        exact ⟨_, _, _, _, ⟨⟨rfl, rfl, rfl⟩, rfl⟩, one24, t5⟩
    | true =>
      simp [b6_1, evSs, evS, ev, evA, evCs, evSrc, d1, h1, hc1, m1, d2, m2, h3, e3, hr, Src.many, g1, h5, ME.absent, bound_non, bound_int, hx2, -List.map_map, k1, k2, k3, hb, wj, kj, sizeLine_eq]
      exact ⟨_, _, _, _, ⟨⟨rfl, rfl, rfl⟩, rfl⟩, one24, t5⟩
  by_cases c1' : r5 = 1
  · subst c1'
    obtain ⟨r6, st6, h6, t6, l6, u6⟩ := drawR (k := k) (m := 12) t5 (by decide)
    obtain ⟨w, hw, lwb⟩ := WL_ok l6 u6
    have lw := lwb.1
    have s1 := sl_str_ok (x := nm) (lo := none) (hi := some 1) (st := st6) (by omega)
    have s2 := cut_len (x := nm) (lo := none) (hi := some 1) g2
    have k3 := add_ok (x := w) (y := cutS nm none (some 1)) (st := st6) (by omega) (by omega)
    obtain ⟨b, hb⟩ := inW (w ++ cutS nm none (some 1)) st6
    obtain ⟨b2, hb2⟩ := inXs (w ++ cutS nm none (some 1)) xs st6
    cases b with
    | false =>
      cases b2 with
      | false =>
        simp [b6_1, evSs, evS, ev, evA, evCs, evSrc, d1, h1, hc1, m1, d2, m2, h3, e3, hr, Src.many, g1, h5, ME.absent, bound_non, bound_int, hx2, -List.map_map, h6, hw, s1, k3, hb, hb2, sizeLine_eq]
        exact ⟨_, _, _, _, ⟨⟨rfl, rfl, rfl⟩, rfl⟩, (lwb.app (g2b.cut _ _)).mono (by omega), t6⟩
      | true =>
        simp [b6_1, evSs, evS, ev, evA, evCs, evSrc, d1, h1, hc1, m1, d2, m2, h3, e3, hr, Src.many, g1, h5, ME.absent, bound_non, bound_int, hx2, -List.map_map, h6, hw, s1, k3, hb, hb2, wj, kj, sizeLine_eq]
        exact ⟨_, _, _, _, ⟨⟨rfl, rfl, rfl⟩, rfl⟩, one24, t6⟩
    | true =>
      simp [b6_1, evSs, evS, ev, evA, evCs, evSrc, d1, h1, hc1, m1, d2, m2, h3, e3, hr, Src.many, g1, h5, ME.absent, bound_non, bound_int, hx2, -List.map_map, h6, hw, s1, k3, hb, wj, kj, sizeLine_eq]
      exact ⟨_, _, _, _, ⟨⟨rfl, rfl, rfl⟩, rfl⟩, one24, t6⟩
  by_cases c2' : r5 = 2
  · subst c2'
    obtain ⟨r6, st6, h6, t6, l6, u6⟩ := drawR (k := k) (m := 12) t5 (by decide)
    obtain ⟨w, hw, lwb⟩ := WL_ok l6 u6
    have lw := lwb.1
    have s1 := sl_str_ok (x := w) (lo := none) (hi := some (-1)) (st := st6) (by omega)
    have s2 := cut_len (x := w) (lo := none) (hi := some (-1)) lw
    obtain ⟨b, hb⟩ := inW (cutS w none (some (-1))) st6
    obtain ⟨b2, hb2⟩ := inXs (cutS w none (some (-1))) xs st6
    cases b with
    | false =>
      cases b2 with
      | false =>
        simp [b6_1, evSs, evS, ev, evA, evCs, evSrc, d1, h1, hc1, m1, d2, m2, h3, e3, hr, Src.many, g1, h5, ME.absent, bound_non, bound_int, hx2, -List.map_map, h6, hw, s1, hb, hb2, sizeLine_eq]
        exact ⟨_, _, _, _, ⟨⟨rfl, rfl, rfl⟩, rfl⟩, (lwb.cut _ _).mono (by omega), t6⟩
      | true =>
        simp [b6_1, evSs, evS, ev, evA, evCs, evSrc, d1, h1, hc1, m1, d2, m2, h3, e3, hr, Src.many, g1, h5, ME.absent, bound_non, bound_int, hx2, -List.map_map, h6, hw, s1, hb, hb2, wj, kj, sizeLine_eq]
        exact ⟨_, _, _, _, ⟨⟨rfl, rfl, rfl⟩, rfl⟩, one24, t6⟩
    | true =>
      simp [b6_1, evSs, evS, ev, evA, evCs, evSrc, d1, h1, hc1, m1, d2, m2, h3, e3, hr, Src.many, g1, h5, ME.absent, bound_non, bound_int, hx2, -List.map_map, h6, hw, s1, hb, wj, kj, sizeLine_eq]
      exact ⟨_, _, _, _, ⟨⟨rfl, rfl, rfl⟩, rfl⟩, one24, t6⟩
  obtain ⟨b, hb⟩ := inW (nm) st5
  obtain ⟨b2, hb2⟩ := inXs (nm) xs st5
  cases b with
  | false =>
    cases b2 with
    | false =>
      simp [b6_1, evSs, evS, ev, evA, evCs, evSrc, d1, h1, hc1, m1, d2, m2, h3, e3, hr, Src.many, g1, h5, ME.absent, bound_non, bound_int, hx2, -List.map_map, c0, c1', c2', hb, hb2, sizeLine_eq]
      exact ⟨_, _, _, _, ⟨⟨rfl, rfl, rfl⟩, rfl⟩, g2b.mono (by omega), t5⟩
    | true =>
      simp [b6_1, evSs, evS, ev, evA, evCs, evSrc, d1, h1, hc1, m1, d2, m2, h3, e3, hr, Src.many, g1, h5, ME.absent, bound_non, bound_int, hx2, -List.map_map, c0, c1', c2', hb, hb2, wj, kj, sizeLine_eq]
      exact ⟨_, _, _, _, ⟨⟨rfl, rfl, rfl⟩, rfl⟩, one24, t5⟩
  | true =>
    simp [b6_1, evSs, evS, ev, evA, evCs, evSrc, d1, h1, hc1, m1, d2, m2, h3, e3, hr, Src.many, g1, h5, ME.absent, bound_non, bound_int, hx2, -List.map_map, c0, c1', c2', hb, wj, kj, sizeLine_eq]
    exact ⟨_, _, _, _, ⟨⟨rfl, rfl, rfl⟩, rfl⟩, one24, t5⟩
/-- the names -/
theorem names_ok {k : Nat} {ns : List Int} {st : Store} {mn : Int} (m0 : 0 ≤ mn) (m1 : mn ≤ 50) (t : TR ns R st) : ∃ (xs : List Str) (st' : Store), evCall TURNS D (k + 2) 6 [.loc 1, .int mn] st = .ok (.fl (xs.map .str)) st' ∧ xs.length = mn.toNat ∧ (∀ x ∈ xs, B 60 x) ∧ TR ns R st' := by
  obtain ⟨r1, st1, h1, t1, l1, u1⟩ := drawR (k := k) (m := 4) t (by decide)
  obtain ⟨stem, hs, lsb⟩ := pickS (xs := [.str "", .str "", .str "sharedStem", .str "while_x"]) (i := r1) (P := B 10) l1 (by simpa using u1) (by
    intro x hx
    simp only [List.mem_cons, List.not_mem_nil, or_false] at hx
    rcases hx with rfl | rfl | rfl | rfl <;> exact ⟨_, rfl, .of (by decide +kernel)⟩)
  have ls := lsb.1
  have k1 := len_ok (x := stem) (st := st1) (by omega)
  obtain ⟨r2, st2, h2, t2, l2, u2⟩ := drawR (k := k) (m := (stem.length : Int) + 1) t1 (by omega)
  have hr : rngV (.int 0) (.int mn) st2 = .ok (.items ((List.range (mn - 0).toNat).map fun (k : Nat) => .int (0 + k))) st2 := if_pos (by omega)
  rw [show mn - 0 = mn by omega] at hr
  simp only [Int.zero_add] at hr
  obtain ⟨e, st3, q1, xs, a7, a8, a9, a10, q2, q3, q4, q5⟩ := forLoop_inv (put := MG.put (.nm 7)) (body := evSs (evCall TURNS D (k + 1)) TURNS b6_1) (xs := (List.range mn.toNat).map fun (k : Nat) => .int k)
    (fun j env st => ∃ (xs : List Str) (a7 a8 a9 a10 : Option PV), xs.length = j ∧ (∀ x ∈ xs, B 60 x) ∧ TR ns R st ∧ env = [some (.loc 1), some (.int mn), some (.str SG), some (.fl WL), some (.str stem), some (.int r2), some (.fl (xs.map .str)), a7, a8, a9, a10]) (fun j x env st hx ⟨xs, a7, a8, a9, a10, e1, e2, e3, e4⟩ => by
      subst e4
      have hj : j < mn.toNat := by
        have := (List.getElem?_eq_some_iff.mp hx).1
        simpa using this
      have hx : x = .int j := by
        rw [List.getElem?_map, List.getElem?_range hj] at hx
        simpa using hx.symm
      subst hx
      obtain ⟨y, x9, x10, st', g1, g2, g3⟩ := turnA (k := k) (xs := xs) (j := j) (mn := mn) (stem := stem) (place := r2) (a8 := a8) (a9 := a9) (a10 := a10) (by omega) (by omega) e3 lsb l2
      refine ⟨_, rfl, ?_⟩
      show SR.go (evSs (evCall TURNS D (k + 1)) TURNS b6_1 [some (.loc 1), some (.int mn), some (.str SG), some (.fl WL), some (.str stem), some (.int r2), some (.fl (xs.map .str)), some (.int j), a8, a9, a10] st) _
      rw [g1, go_nx]
      refine ⟨xs ++ [y], some (.int j), some (.str y), x9, x10, by simp [e1], fun z hz => ?_, g3, by simp⟩
      rcases List.mem_append.mp hz with hz | hz
      · exact e2 z hz
      · rw [List.mem_singleton.mp hz]; exact g2) mn.toNat 0 [some (.loc 1), some (.int mn), some (.str SG), some (.fl WL), some (.str stem), some (.int r2), some (.fl []), none, none, none, none] st2 (by simp) ⟨[], none, none, none, none, rfl, by simp, t2, rfl⟩
  unfold SG WL at q1 q5
  have lvq := fun v => TR.leave t q4 rfl v
  refine ⟨xs, st3, ?_, by simpa using q2, q3, q4⟩
  rw [show k + 2 = (k + 1) + 1 from rfl, evCall]
  simp [D, d6, evSs, evS, ev, evA, evCs, evSrc, h1, hs, k1, h2, hr, Src.many, q1, q5, sizeLine_eq, ME.held, lvq, -List.map_map]
end K69.N

set_option maxHeartbeats 4000000
namespace K69
open PySem L2 U
variable {ns : List Int} {R : Store} {st : Store} {xs : List Str} {f g : Nat} {a b : Int} {s : Str}
/-! ### stops -/
def SP (s : Str) : Prop := ∃ (i n : Int) (l : Str), (i, n, l) ∈ ST ∧ s = rn i n l
theorem SP.ret : SP "return" := ⟨0, 0, "", List.mem_cons_self, rfl⟩
theorem SP.num {q : Int} (h0 : 0 ≤ q) (h1 : q < 100) : SP (("return " : Str) ++ Str.ofString (toString q)) := by
  refine ⟨0, q + 1, "", List.mem_cons_of_mem _ (List.mem_append_left _ (List.mem_map.mpr ⟨q.toNat, List.mem_range.mpr (by omega), ?_⟩)), ?_⟩
  · rw [show ((q.toNat : Nat) : Int) = q by omega]
  · unfold rn
    rw [if_pos rfl, if_neg (by omega), show q + 1 - 1 = q by omega]
theorem SP.brk {l : Str} (h : l ∈ labels) : SP (("break " : Str) ++ l) := ⟨1, 0, l, List.mem_cons_of_mem _ (List.mem_append_right _ (List.mem_append_left _ (List.mem_map.mpr ⟨l, h, rfl⟩))), rfl⟩
theorem SP.cnt {l : Str} (h : l ∈ labels) : SP (("continue " : Str) ++ l) := ⟨2, 0, l, List.mem_cons_of_mem _ (List.mem_append_right _ (List.mem_append_right _ (List.mem_map.mpr ⟨l, h, rfl⟩))), rfl⟩
theorem SP.len (h : SP s) : s.length ≤ 600 := by
  obtain ⟨i, n, l, hm, rfl⟩ := h
  have := stop_of hm
  unfold stopB at this
  simp only [Bool.and_eq_true, decide_eq_true_eq] at this
  exact this.1.1.1.1.1.1.2
theorem SP.row (h : SP s) : ∃ r : RW, rv r = .tup [.str "stop", .str s] ∧ vr r ∧ dr r = 2 := by
  obtain ⟨i, n, l, hm, rfl⟩ := h
  exact ⟨.stop i n l, rfl, hm, rfl⟩
theorem drawR0 {k : Nat} {m : Int} (h : TR ns R st) (hm : m < 1000000) : ∃ r st', evCall TURNS D (k + 1) 5 [.loc 1, .int m] st = .ok (.int r) st' ∧ TR ns R st' ∧ 0 ≤ r ∧ r < max m 1 := by
  obtain ⟨p, q, z, hp, hq, hz, rfl⟩ := h
  obtain ⟨r, p', q', z', h1, h2, h3, h4, h5, h6⟩ := draw_ok (k := k) (st := .lst (ns.map .int) :: .lst (tp 0 p q z) :: R) (t := 1) (c := 0) (ns := ns) rfl rfl hp hq hz hm
  exact ⟨r, _, h1, ⟨p', q', z', h4, h5, h6, rfl⟩, h2, h3⟩
/-! ### rows from a list -/
def ofL : List RW → RL
  | [] => .nil
  | r :: rs => .cons r (ofL rs)
theorem tl_of : ∀ rs : List RW, tl (ofL rs) = rs
  | [] => rfl
  | r :: rs => by rw [ofL, tl, tl_of rs]
theorem rl_of (rs : List RW) : rl (ofL rs) = rs.map rv := by rw [rl_tl, tl_of]
theorem vl_of : ∀ {rs : List RW}, (∀ r ∈ rs, vr r) → vl (ofL rs)
  | [], _ => trivial
  | r :: rs, h => ⟨h r List.mem_cons_self, vl_of fun q hq => h q (List.mem_cons_of_mem _ hq)⟩
theorem dp_of {M : Nat} (hM : 1 ≤ M) : ∀ {rs : List RW}, (∀ r ∈ rs, dr r ≤ M) → dp (ofL rs) ≤ M + rs.length
  | [], _ => by rw [ofL, dp]; simp; omega
  | r :: rs, h => by
    have h1 := h r List.mem_cons_self
    have h2 := dp_of hM (rs := rs) fun q hq => h q (List.mem_cons_of_mem _ hq)
    rw [ofL, dp, List.length_cons]; omega
/-! ### rows that are drawn -/
def RowOk (xs : List Str) (d : Int) (N M : Nat) : Prop := ∀ (ns : List Int) (R st : Store) (f g : Nat) (s : Str) (a b : Int) (k : Nat) (l : Int), Wl R xs f g → SP s → CS ns R f g s a b st →
  ∃ (r : RW) (st' : Store) (a' b' : Int), evCall TURNS D (k + N) 169 [.loc 1, .loc (f + 2), .int d, .int l] st = .ok (rv r) st' ∧ vr r ∧ dr r ≤ M ∧ CS ns R f g s a' b' st'
def RowsOk (xs : List Str) (d : Int) (N M : Nat) : Prop := ∀ (ns : List Int) (R st : Store) (f g : Nat) (s : Str) (a b : Int) (k : Nat) (l : Int), Wl R xs f g → SP s → CS ns R f g s a b st →
  ∃ (t : RL) (st' : Store) (a' b' : Int), evCall TURNS D (k + N) 170 [.loc 1, .loc (f + 2), .int d, .int l] st = .ok (.tup (rl t)) st' ∧ vl t ∧ dp t ≤ M ∧ CS ns R f g s a' b' st'
def w169 : MSs := (.cons (.ite (.and (.cmp .lt (.var 4) (.con (.int 9))) (.cmp .gt (.bi .min (.cons (.var 3) (.cons (.ix (.var 1) (.con (.int 2))) .nil))) (.con (.int 0)))) (.cons (.ret (.tup (.cons (.ix (.lst (.cons (.con (.str "break")) (.cons (.con (.str "continue")) .nil))) (.fn 5 (.cons (.var 0) (.cons (.con (.int 2)) .nil)))) (.cons (.bin .add (.con (.int 1)) (.fn 5 (.cons (.var 0) (.cons (.bi .min (.cons (.var 3) (.cons (.ix (.var 1) (.con (.int 2))) .nil))) .nil)))) .nil))))
  .nil) .nil)
  (.cons (.ite (.or (.cmp .eq (.ix (.var 1) (.con (.int 0))) (.con (.int 0))) (.cmp .eq (.var 4) (.con (.int 9)))) (.cons (.ret (.tup (.cons (.con (.str "stop")) (.cons (.ix (.var 1) (.con (.int 3))) .nil))))
  .nil) .nil)
  (.cons (.setIx (.var 1) (.con (.int 0)) (.bin .sub (.ix (.var 1) (.con (.int 0))) (.con (.int 1))))
  (.cons (.ret (.tup (.cons (.con (.str "call")) (.cons (.ix (.ix (.var 1) (.con (.int 4))) (.fn 5 (.cons (.var 0) (.cons (.bi .len (.cons (.ix (.var 1) (.con (.int 4))) .nil)) .nil)))) .nil))))
  .nil))))
theorem jump_row (q : Int) (h0 : 0 ≤ q) (h2 : q < 2) (n : Int) : ∃ k : Bool, atI [PV.str "break", .str "continue"] q = some (.str (jw k)) := by
  have : q = 0 ∨ q = 1 := by omega
  rcases this with rfl | rfl
  · exact ⟨false, rfl⟩
  · exact ⟨true, rfl⟩
theorem min3 (l : Int) (st : Store) : biV .min [.int l, .int 3] st = some (.int (min l 3)) := by
  rw [bi_min]
  congr 2
  split <;> omega
theorem tail_ok {k : Nat} {x2 x5 x6 x7 : Option PV} {l ch : Int} (W : Wl R xs f g) (hx : NM xs) (hs : SP s) (h : CS ns R f g s a b st) :
    ∃ (r : RW) (st' : Store) (a' : Int), evSs (evCall TURNS D (k + 1)) TURNS w169 [some (.loc 1), some (.loc (f + 2)), x2, some (.int l), some (.int ch), x5, x6, x7] st = .rt (rv r) st' ∧ vr r ∧ dr r ≤ 2 ∧ CS ns R f g s a' b st' := by
  have e0 : ixN 5 0 = some 0 := rfl
  obtain ⟨i0, i1, i2, i3, i4⟩ := h.ix W
  have cf := h.cf W
  have m0 := min3 l
  obtain ⟨m, hm⟩ : ∃ m : Int, m = min l 3 := ⟨_, rfl⟩
  rw [← hm] at m0
  by_cases c1 : ch < 9 ∧ 0 < m
  · obtain ⟨q, st1, d1, d2, d3, d4⟩ := h.draw (k := k) (m := 2) (by decide)
    obtain ⟨j, hj⟩ := jump_row q d3 d4 0
    obtain ⟨q2, st2, g1, g2, g3, g4⟩ := d2.draw (k := k) (m := m) (by omega)
    obtain ⟨_, _, j2, _, _⟩ := d2.ix W
    refine ⟨.jump j (1 + q2), st2, a, ?_, trivial, by show 1 ≤ 2; omega, g2⟩
    show _ = SR.rt (PV.tup [.str (jw j), .int (1 + q2)]) st2
    simp [ME.held, w169, evSs, evS, ev, evA, evCs, c1.1, c1.2, i2, m0, d1, hj, j2, g1, sizeLine_eq, -bi_min]
  · have c1' : (decide (ch < 9) && decide (0 < m)) = false := by
      rw [← Bool.decide_and, decide_eq_false_iff_not]; exact c1
    by_cases c2 : a = 0 ∨ ch = 9
    · obtain ⟨r, r1, r2, r3⟩ := hs.row
      refine ⟨r, st, a, ?_, r2, by omega, h⟩
      rw [r1]
      by_cases ca : ch < 9
      · have cm : ¬ 0 < m := fun h => c1 ⟨ca, h⟩
        have cz : a = 0 := by omega
        simp [ME.held, w169, evSs, evS, ev, evA, evCs, ca, cm, cz, i0, i2, i3, m0, sizeLine_eq, -bi_min]
      · by_cases cz : a = 0
        · simp [ME.held, w169, evSs, evS, ev, evA, evCs, ca, cz, i0, i2, i3, m0, sizeLine_eq, -bi_min]
        · have c9 : ch = 9 := by omega
          simp [ME.held, w169, evSs, evS, ev, evA, evCs, c9, cz, i0, i2, i3, m0, sizeLine_eq, -bi_min]
    · have t1 := h.set (a - 1) b
      obtain ⟨q, y, st1, yB, n1, n2, n3, n4⟩ := t1.name (k := k) W hx
      obtain ⟨_, _, _, _, j4⟩ := t1.ix W
      refine ⟨.call y, st1, a - 1, ?_, yB, by show 1 ≤ 2; omega, n1⟩
      have ca : ¬ a = 0 := fun e => c2 (.inl e)
      have c9 : ¬ ch = 9 := fun e => c2 (.inr e)
      show _ = SR.rt (PV.tup [.str "call", .str y]) st1
      by_cases c8 : ch < 9
      · have cm : ¬ 0 < m := fun h => c1 ⟨c8, h⟩
        simp [ME.held, w169, evSs, evS, ev, evA, evCs, c8, cm, ca, c9, i0, i2, m0, cf, e0, j4, n2, n3, n4, sizeLine_eq, -bi_min]
      · simp [ME.held, w169, evSs, evS, ev, evA, evCs, c8, ca, c9, i0, i2, m0, cf, e0, j4, n2, n3, n4, sizeLine_eq, -bi_min]
end K69

set_option maxHeartbeats 4000000
namespace K69
open PySem L2 U
variable {ns : List Int} {R : Store} {st : Store} {xs : List Str} {f g : Nat} {a b : Int} {s : Str}
theorem row_zero (hx : NM xs) : RowOk xs 0 2 2 := fun ns R st f g s a b k l W hs h => by
  have e1 : ixN 5 1 = some 1 := rfl
  obtain ⟨i0, i1, i2, i3, i4⟩ := h.ix W
  have cf := h.cf W
  obtain ⟨ch, st1, d1, d2, d3, d4⟩ := (h.set a (b - 1)).draw (k := k) (m := 12) (by decide)
  obtain ⟨r, st2, a', t1, t2, t3, t4⟩ := tail_ok (k := k) (x2 := some (.int 0)) (x5 := none) (x6 := none) (x7 := none) (l := l) (ch := ch) W hx hs d2
  refine ⟨r, st2, a', b - 1, ?_, t2, t3, t4⟩
  have lv : ∀ v, U.leave st.length v st2 = .ok v st2 := fun v => leave_same (by rw [t4.len, h.len]; omega)
  refine (call_rt (k := k + 1) (f := 169) (d := d169) (args := [.loc 1, .loc (f + 2), .int 0, .int l]) (v := rv r) (s := st2) rfl rfl rfl rfl ?_).trans (lv _)
  rw [← t1]
  show evSs _ TURNS (.cons _ (.cons _ (.cons _ (.cons _ w169)))) [some (.loc 1), some (.loc (f + 2)), some (.int 0), some (.int l), none, none, none, none] _ = _
  generalize w169 = T at *
  simp [ME.held, evSs, evS, ev, evA, evCs, i1, cf, e1, d1, sizeLine_eq]
end K69

set_option maxHeartbeats 4000000
namespace K69
open PySem L2 U
variable {ns : List Int} {R : Store} {st : Store} {xs : List Str} {f g : Nat} {a b : Int} {s : Str}
theorem row_succ (hx : NM xs) {d : Int} {N M : Nat} (hd : 0 ≤ d) (hN : 3 ≤ N) (hM : 3 ≤ M) (ih : RowsOk xs d N M) : RowOk xs (d + 1) (N + 1) (M + 1) := fun ns R st f g s a b k l W hs h => by
  have e1 : ixN 5 1 = some 1 := rfl
  have hd0 : 0 < d + 1 := by omega
  have hdd : d + 1 - 1 = d := by omega
  obtain ⟨i0, i1, i2, i3, i4⟩ := h.ix W
  have cf := h.cf W
  obtain ⟨n, hn⟩ : ∃ n, k + N = n + 1 := ⟨k + N - 1, by omega⟩
  obtain ⟨ch, st1, d1, d2, d3, d4⟩ := (h.set a (b - 1)).draw (k := n) (m := 12) (by decide)
  rw [← hn] at d1
  obtain ⟨j0, _, _, _, _⟩ := d2.ix W
  have fin : ∀ {r : RW} {st2 : Store} {a' b' : Int}, evSs (evCall TURNS D (k + N)) TURNS d169.body [some (.loc 1), some (.loc (f + 2)), some (.int (d + 1)), some (.int l), none, none, none, none] st = .rt (rv r) st2 → vr r → dr r ≤ M + 1 → CS ns R f g s a' b' st2 →
      ∃ (r : RW) (st' : Store) (a' b' : Int), evCall TURNS D (k + (N + 1)) 169 [.loc 1, .loc (f + 2), .int (d + 1), .int l] st = .ok (rv r) st' ∧ vr r ∧ dr r ≤ M + 1 ∧ CS ns R f g s a' b' st' := fun {r st2 a' b'} hh h1 h2 h3 => by
    have lv : ∀ v, U.leave st.length v st2 = .ok v st2 := fun v => leave_same (by rw [h3.len, h.len]; omega)
    exact ⟨r, st2, a', b', (call_rt (k := k + N) (f := 169) (d := d169) (args := [.loc 1, .loc (f + 2), .int (d + 1), .int l]) (v := rv r) (s := st2) rfl rfl rfl rfl hh).trans (lv _), h1, h2, h3⟩
  by_cases cA : ch < 6 ∧ 0 < a
  · obtain ⟨c, st2, a2, c1, c2, c3, c4⟩ := CB.cond_ok (k := k + N - 3) W hx d2
    rw [show k + N - 3 + 3 = k + N by omega] at c1
    have ec := esc_p (CB.pure_pv c).1
    have vc := varV_p (CB.pure_pv c).1
    by_cases c3' : 3 < ch
    · obtain ⟨t, st3, a3, b3, t1, t2, t3, t4⟩ := ih ns R st2 f g s a2 (b - 1) k (l + 1) W hs c4
      refine fin (r := .whl c t) ?_ ⟨c2, t2⟩ (by rw [dr]; omega) t4
      show _ = SR.rt (PV.tup [.str "while", .non, c.pv, .tup (rl t)]) st3
      unfold d169
      generalize c.pv = CP at *
      generalize rl t = RT at *
      simp [ME.held, evSs, evS, ev, evA, evCs, i1, cf, e1, d1, j0, hd0, hdd, cA.1, cA.2, c1, ec, vc, c3', t1, sizeLine_eq]
    · obtain ⟨t, st3, a3, b3, t1, t2, t3, t4⟩ := ih ns R st2 f g s a2 (b - 1) k l W hs c4
      by_cases c2' : ch < 2
      · obtain ⟨u, st4, a4, b4, u1, u2, u3, u4⟩ := ih ns R st3 f g s a3 b3 k l W hs t4
        refine fin (r := .ife c t u) ?_ ⟨c2, t2, u2⟩ (by rw [dr]; omega) u4
        show _ = SR.rt (PV.tup [.str "if", c.pv, .tup (rl t), .tup (rl u)]) st4
        unfold d169
        generalize c.pv = CP at *
        generalize rl t = RT at *
        generalize rl u = RU at *
        simp [ME.held, evSs, evS, ev, evA, evCs, i1, cf, e1, d1, j0, hd0, hdd, cA.1, cA.2, c1, ec, vc, c3', c2', t1, u1, sizeLine_eq]
      · refine fin (r := .ife c t .nil) ?_ ⟨c2, t2, trivial⟩ (by rw [dr]; have : dp .nil = 1 := rfl; omega) t4
        show _ = SR.rt (PV.tup [.str "if", c.pv, .tup (rl t), .tup []]) st3
        unfold d169
        generalize c.pv = CP at *
        generalize rl t = RT at *
        simp [ME.held, evSs, evS, ev, evA, evCs, i1, cf, e1, d1, j0, hd0, hdd, cA.1, cA.2, c1, ec, vc, c3', c2', t1, sizeLine_eq]
  · by_cases cB : ch = 6
    · obtain ⟨t, st3, a3, b3, t1, t2, t3, t4⟩ := ih ns R st1 f g s a (b - 1) k (l + 1) W hs d2
      refine fin (r := .fr t) ?_ t2 (by rw [dr]; omega) t4
      show _ = SR.rt (PV.tup [.str "for", .non, .tup (rl t)]) st3
      unfold d169
      generalize rl t = RT at *
      simp [ME.held, evSs, evS, ev, evA, evCs, i1, cf, e1, d1, j0, hd0, hdd, cB, t1, sizeLine_eq]
    · obtain ⟨r, st2, a', t1, t2, t3, t4⟩ := tail_ok (k := n) (x2 := some (.int (d + 1))) (x5 := none) (x6 := none) (x7 := none) (l := l) (ch := ch) W hx hs d2
      rw [← hn] at t1
      refine fin (r := r) ?_ t2 (by omega) t4
      rw [← t1]
      show evSs _ TURNS (.cons _ (.cons _ (.cons _ (.cons _ w169)))) _ _ = _
      generalize w169 = T at *
      by_cases c6 : ch < 6
      · have ca : ¬ 0 < a := fun e => cA ⟨c6, e⟩
        simp [ME.held, evSs, evS, ev, evA, evCs, i1, cf, e1, d1, j0, hd0, c6, ca, cB, sizeLine_eq]
      · simp [ME.held, evSs, evS, ev, evA, evCs, i1, cf, e1, d1, j0, hd0, c6, cB, sizeLine_eq]
end K69

set_option maxHeartbeats 4000000
namespace K69
open PySem L2 U
variable {ns : List Int} {R : Store} {st : Store} {xs : List Str} {f g : Nat} {a b : Int} {s : Str}
theorem rows_of (hx : NM xs) {d : Int} {N M : Nat} (hM : 1 ≤ M) (hN : 1 ≤ N) (ih : RowOk xs d N M) : RowsOk xs d (N + 1) (M + 3) := fun ns R st f g s a b k l W hs h => by
  obtain ⟨n, hn⟩ : ∃ n, k + N = n + 1 := ⟨k + N - 1, by omega⟩
  obtain ⟨q, st1, d1, d2, d3, d4⟩ := h.draw (k := n) (m := 6) (by decide)
  rw [← hn] at d1
  have pk : ∃ n : Int, atI [PV.int 0, .int 1, .int 1, .int 2, .int 2, .int 3] q = some (.int n) ∧ 0 ≤ n ∧ n ≤ 3 := by
    obtain ⟨y, hy, e3⟩ := pick (xs := [PV.int 0, .int 1, .int 1, .int 2, .int 2, .int 3]) (i := q) d3 (by simpa using d4)
    simp only [List.mem_cons, List.not_mem_nil, or_false] at hy
    rcases hy with rfl | rfl | rfl | rfl | rfl | rfl <;> exact ⟨_, e3, by decide, by decide⟩
  obtain ⟨m, e6, m0, m3⟩ := pk
  have hr := rng_ok' (n := m) m0 (by omega) st1
  obtain ⟨e, st2, q1, rs, a', b', x5, q2, q3, q4, q5⟩ := forLoop_inv (put := MG.put (.nm 5)) (body := evSs (evCall TURNS D (k + N)) TURNS b170_0) (xs := (List.range m.toNat).map fun (k : Nat) => .int k)
    (fun j env s' => ∃ (rs : List RW) (a' b' : Int) (x5 : Option PV), env = [some (.loc 1), some (.loc (f + 2)), some (.int d), some (.int l), some (.fl (rs.map rv)), x5] ∧ CS ns R f g s a' b' s' ∧ rs.length ≤ j ∧ ∀ r ∈ rs, vr r ∧ dr r ≤ M) (fun j x env s' hx' ⟨rs, a', b', x5, e1, e2, e3, e4⟩ => by
      subst e1
      have hj : j < m.toNat := by
        have := (List.getElem?_eq_some_iff.mp hx').1
        simpa using this
      obtain ⟨_, i1, _, _, _⟩ := e2.ix W
      refine ⟨[some (.loc 1), some (.loc (f + 2)), some (.int d), some (.int l), some (.fl (rs.map rv)), some x], rfl, ?_⟩
      by_cases hb : 0 < b'
      · obtain ⟨r, st3, a3, b3, r1, r2, r3, r4⟩ := ih ns R s' f g s a' b' k l W hs e2
        have er := esc_p (pure_rv r)
        have hl : rs.length < 16777216 := by omega
        show SR.go (evSs (evCall TURNS D (k + N)) TURNS b170_0 [some (.loc 1), some (.loc (f + 2)), some (.int d), some (.int l), some (.fl (rs.map rv)), some x] s') _
        have run : evSs (evCall TURNS D (k + N)) TURNS b170_0 [some (.loc 1), some (.loc (f + 2)), some (.int d), some (.int l), some (.fl (rs.map rv)), some x] s' = .nx [some (.loc 1), some (.loc (f + 2)), some (.int d), some (.int l), some (.fl ((rs ++ [r]).map rv)), some x] st3 := by
          rw [List.map_append, List.map_cons, List.map_nil]
          have l2 : (rs.map rv).length = rs.length := List.length_map _
          rw [← l2] at hl
          generalize rs.map rv = RS at *
          generalize rv r = V at *
          simp [ME.held, b170_0, evSs, evS, ev, evA, evCs, i1, hb, r1, er, hl, sizeLine_eq]
        rw [run]
        refine ⟨rs ++ [r], a3, b3, some x, rfl, r4, by simp; omega, fun z hz => ?_⟩
        rcases List.mem_append.mp hz with hz | hz
        · exact e4 z hz
        · rw [List.mem_singleton.mp hz]; exact ⟨r2, r3⟩
      · show SR.go (evSs (evCall TURNS D (k + N)) TURNS b170_0 [some (.loc 1), some (.loc (f + 2)), some (.int d), some (.int l), some (.fl (rs.map rv)), some x] s') _
        have run : evSs (evCall TURNS D (k + N)) TURNS b170_0 [some (.loc 1), some (.loc (f + 2)), some (.int d), some (.int l), some (.fl (rs.map rv)), some x] s' = .nx [some (.loc 1), some (.loc (f + 2)), some (.int d), some (.int l), some (.fl (rs.map rv)), some x] s' := by
          simp [ME.held, b170_0, evSs, evS, ev, evA, evCs, i1, hb, sizeLine_eq]
        rw [run]
        exact ⟨rs, a', b', some x, rfl, e2, by omega, e4⟩) m.toNat 0 [some (.loc 1), some (.loc (f + 2)), some (.int d), some (.int l), some (.fl []), none] st1 (by simp) ⟨[], a, b, none, rfl, d2, Nat.le_refl _, fun r hr => nomatch hr⟩
  have lN : ((List.range m.toNat).map fun (k : Nat) => PV.int k).length = m.toNat := by simp
  rw [lN] at q4
  subst q2
  have dpl := dp_of hM (rs := rs) fun r hr => (q5 r hr).2
  refine ⟨ofL rs, st2, a', b', ?_, vl_of fun r hr => (q5 r hr).1, by omega, q3⟩
  have lv : ∀ v, U.leave st.length v st2 = .ok v st2 := fun v => leave_same (by rw [q3.len, h.len]; omega)
  refine (call_rt (k := k + N) (f := 170) (d := d170) (args := [.loc 1, .loc (f + 2), .int d, .int l]) (v := .tup (rl (ofL rs))) (s := st2) rfl rfl rfl rfl ?_).trans (lv _)
  rw [rl_of]
  unfold d170
  generalize (List.map (fun (k : Nat) => PV.int k) (List.range m.toNat)) = IT at *
  generalize rs.map rv = RS at *
  simp [ME.held, evSs, evS, ev, evA, evCs, evSrc, Src.many, ME.held, d1, e6, hr, lN, q1, bi_tuple_fl, sizeLine_eq]
/-- rows of depth three; a row of depth one -/
theorem rows3 (hx : NM xs) : RowsOk xs 3 9 17 := by
  have r0 := rows_of hx (by omega) (by omega) (row_zero hx)
  have r1 := rows_of hx (by omega) (by omega) (row_succ hx (by omega) (by omega) (by omega) r0)
  have r2 := rows_of hx (by omega) (by omega) (row_succ hx (by omega) (by omega) (by omega) r1)
  have r3 := rows_of hx (by omega) (by omega) (row_succ hx (by omega) (by omega) (by omega) r2)
  exact r3
theorem row1 (hx : NM xs) : RowOk xs 1 4 6 := row_succ hx (d := 0) (by omega) (by omega) (by omega) (rows_of hx (by omega) (by omega) (row_zero hx))
end K69

set_option maxHeartbeats 4000000
namespace K69
open PySem L2 U
variable {ns : List Int} {R : Store} {st : Store} {xs : List Str} {f g : Nat} {a b : Int} {s : Str}
theorem SP.two : SP "return 2" := by
  have := SP.num (q := 2) (by omega) (by omega)
  rwa [show ("return " : Str) ++ Str.ofString (toString (2 : Int)) = "return 2" by decide +kernel] at this
theorem SP.nine : SP "return 9" := by
  have := SP.num (q := 9) (by omega) (by omega)
  rwa [show ("return " : Str) ++ Str.ofString (toString (9 : Int)) = "return 9" by decide +kernel] at this
theorem SP.ten : SP "return 10" := by
  have := SP.num (q := 10) (by omega) (by omega)
  rwa [show ("return " : Str) ++ Str.ofString (toString (10 : Int)) = "return 10" by decide +kernel] at this
theorem SP.b1 : SP "break loop1" := by
  have := SP.brk (l := "loop1") (by decide +kernel)
  rwa [show ("break " : Str) ++ "loop1" = "break loop1" by decide +kernel] at this
theorem SP.b2 : SP "break ab" := by
  have := SP.brk (l := "ab") (by decide +kernel)
  rwa [show ("break " : Str) ++ "ab" = "break ab" by decide +kernel] at this
theorem SP.c1 : SP "continue loop1" := by
  have := SP.cnt (l := "loop1") (by decide +kernel)
  rwa [show ("continue " : Str) ++ "loop1" = "continue loop1" by decide +kernel] at this
theorem SP.c2 : SP "continue a" := by
  have := SP.cnt (l := "a") (by decide +kernel)
  rwa [show ("continue " : Str) ++ "a" = "continue a" by decide +kernel] at this
theorem num_add {q : Int} (h0 : 0 ≤ q) (h1 : q < 100) (st : Store) : ∃ T : Str, biV .str [.int q] st = some (.str T) ∧ binV .add (.str "return ") (.str T) st = some (.str (("return " : Str) ++ T)) ∧ SP (("return " : Str) ++ T) := by
  have hl := (SP.num h0 h1).len
  rw [len_app] at hl
  exact ⟨Str.ofString (toString q), bi_str (by omega), add_ok (by omega) (by omega), SP.num h0 h1⟩
theorem room_ok {k : Nat} (h : TR ns R st) : ∃ (xs : List Str) (s : Str) (st' : Store), evCall TURNS D (k + 3) 167 [.loc 1, .int 6, .int 3] st = .ok (.fl (FR R.length s 6 7)) (st' ++ [.lst (xs.map .str)]) ∧ NM xs ∧ SP s ∧ TR ns R st' := by
  obtain ⟨q1, st1, a1, a2, a3, a4⟩ := drawR (k := k + 1) (m := 4) h (by decide)
  have lab : ∃ l : Str, atI [PV.str "loop1", .str "loop2", .str "out_1", .str "loop12"] q1 = some (.str l) ∧ l ∈ labels := by
    obtain ⟨y, hy, e3⟩ := pick (xs := [PV.str "loop1", .str "loop2", .str "out_1", .str "loop12"]) (i := q1) a3 (by simpa using a4)
    simp only [List.mem_cons, List.not_mem_nil, or_false] at hy
    rcases hy with rfl | rfl | rfl | rfl
    · exact ⟨_, e3, by decide +kernel⟩
    · exact ⟨_, e3, by decide +kernel⟩
    · exact ⟨_, e3, by decide +kernel⟩
    · exact ⟨_, e3, by decide +kernel⟩
  obtain ⟨l, l1, l2⟩ := lab
  obtain ⟨q2, st2, b1, b2, b3, b4⟩ := drawR (k := k + 1) (m := 100) a2 (by decide)
  obtain ⟨T, t1, t2, t3⟩ := num_add b3 b4 st2
  have lb := (SP.brk l2).len
  have lc := (SP.cnt l2).len
  rw [len_app] at lb lc
  have ab := add_ok (x := "break ") (y := l) (st := st2) (by omega) (by omega)
  have ac := add_ok (x := "continue ") (y := l) (st := st2) (by omega) (by omega)
  obtain ⟨q3, st3, c1, c2, c3, c4⟩ := drawR (k := k + 1) (m := 4) b2 (by decide)
  have stp : ∃ s : Str, atI [PV.str "return", .str (("return " : Str) ++ T), .str (("break " : Str) ++ l), .str (("continue " : Str) ++ l)] q3 = some (.str s) ∧ SP s := by
    obtain ⟨y, hy, e3⟩ := pick (xs := [PV.str "return", .str (("return " : Str) ++ T), .str (("break " : Str) ++ l), .str (("continue " : Str) ++ l)]) (i := q3) c3 (by simpa using c4)
    simp only [List.mem_cons, List.not_mem_nil, or_false] at hy
    rcases hy with rfl | rfl | rfl | rfl
    · exact ⟨_, e3, SP.ret⟩
    · exact ⟨_, e3, t3⟩
    · exact ⟨_, e3, SP.brk l2⟩
    · exact ⟨_, e3, SP.cnt l2⟩
  obtain ⟨s, s1, s2⟩ := stp
  obtain ⟨q4, st4, d1, d2, d3, d4⟩ := drawR (k := k + 1) (m := 3) c2 (by decide)
  obtain ⟨xs, st5, n1, n2, n3, n4⟩ := K69.N.names_ok (k := k) (mn := 1 + q4) (by omega) (by omega) d2
  have len5 := n4.len
  refine ⟨xs, s, st5, ?_, ⟨fun e => by subst e; simp at n2; omega, by omega, n3⟩, s2, n4⟩
  have lv : U.leave st.length (.fl (FR R.length s 6 7)) (st5 ++ [.lst (xs.map .str)]) = .ok (.fl (FR R.length s 6 7)) (st5 ++ [.lst (xs.map .str)]) := by
    unfold U.leave
    split
    · rfl
    · have : PV.low st.length (.fl (FR R.length s 6 7)) = false := by
        show (true && (true && (true && (true && (decide (R.length + 2 < st.length) && true))))) = false
        rw [decide_eq_false (by rw [h.len]; omega)]; rfl
      rw [this]; rfl
  refine (call_rt (k := k + 2) (f := 167) (d := d167) (args := [.loc 1, .int 6, .int 3]) (v := .fl (FR R.length s 6 7)) (s := st5 ++ [.lst (xs.map .str)]) rfl rfl rfl rfl ?_).trans lv
  unfold d167
  simp [ME.held, evSs, evS, ev, evA, evCs, a1, l1, b1, t1, t2, ab, ac, c1, s1, d1, n1, len5, sizeLine_eq]
theorem stop_ok {k : Nat} (h : TR ns R st) : ∃ (r : RW) (st' : Store), evCall TURNS D (k + 2) 174 [.loc 1] st = .ok (rv r) st' ∧ vr r ∧ dr r = 2 ∧ TR ns R st' := by
  obtain ⟨q2, st2, b1, b2, b3, b4⟩ := drawR (k := k) (m := 100) h (by decide)
  obtain ⟨T, t1, t2, t3⟩ := num_add b3 b4 st2
  obtain ⟨q3, st3, c1, c2, c3, c4⟩ := drawR (k := k) (m := 8) b2 (by decide)
  have stp : ∃ s : Str, atI [PV.str "return", .str "return 2", .str "return 10", .str (("return " : Str) ++ T), .str "break loop1", .str "break ab", .str "continue loop1", .str "continue a"] q3 = some (.str s) ∧ SP s := by
    obtain ⟨y, hy, e3⟩ := pick (xs := [PV.str "return", .str "return 2", .str "return 10", .str (("return " : Str) ++ T), .str "break loop1", .str "break ab", .str "continue loop1", .str "continue a"]) (i := q3) c3 (by simpa using c4)
    simp only [List.mem_cons, List.not_mem_nil, or_false] at hy
    rcases hy with rfl | rfl | rfl | rfl | rfl | rfl | rfl | rfl
    · exact ⟨_, e3, SP.ret⟩
    · exact ⟨_, e3, SP.two⟩
    · exact ⟨_, e3, SP.ten⟩
    · exact ⟨_, e3, t3⟩
    · exact ⟨_, e3, SP.b1⟩
    · exact ⟨_, e3, SP.b2⟩
    · exact ⟨_, e3, SP.c1⟩
    · exact ⟨_, e3, SP.c2⟩
  obtain ⟨s, s1, s2⟩ := stp
  obtain ⟨r, r1, r2, r3⟩ := s2.row
  refine ⟨r, st3, ?_, r2, r3, c2⟩
  have lv : ∀ v, U.leave st.length v st3 = .ok v st3 := fun v => leave_same (by rw [c2.len, h.len]; omega)
  refine (call_rt (k := k + 1) (f := 174) (d := d174) (args := [.loc 1]) (v := rv r) (s := st3) rfl rfl rfl rfl ?_).trans (lv _)
  rw [r1]
  unfold d174
  simp [ME.held, evSs, evS, ev, evA, evCs, b1, t1, t2, c1, s1, sizeLine_eq]
end K69

set_option maxHeartbeats 4000000
namespace K69
open PySem L2 U
variable {ns : List Int} {R : Store} {st : Store} {xs : List Str} {f g : Nat} {a b : Int} {s : Str}
/-! ### how deep -/
def E (L : List RW) : Nat := dp (ofL L)
theorem E_pos (L : List RW) : L.length + 1 ≤ E L := by
  unfold E
  induction L with
  | nil => exact Nat.le_refl _
  | cons r L ih => rw [ofL, dp, List.length_cons]; omega
theorem E_cons (r : RW) (L : List RW) : E (r :: L) = 1 + max (dr r) (E L) := by
  unfold E
  rw [ofL, dp]
theorem E_app (C : List RW) : ∀ A : List RW, E (A ++ C) = max (E A) (A.length + E C)
  | [] => by
    have := E_pos C
    have : E [] = 1 := rfl
    rw [List.nil_append, List.length_nil]; omega
  | r :: A => by rw [List.cons_append, E_cons, E_app C A, E_cons, List.length_cons]; omega
theorem ofL_tl : ∀ t : RL, ofL (tl t) = t
  | .nil => rfl
  | .cons r rs => by rw [tl, ofL, ofL_tl rs]
theorem E_tl (t : RL) : E (tl t) = dp t := by unfold E; rw [ofL_tl]
theorem vl_mem : ∀ {t : RL}, vl t → ∀ r ∈ tl t, vr r
  | .nil, _, r, hr => nomatch hr
  | .cons s ss, h, r, hr => by
    rcases List.mem_cons.mp hr with e | hr
    · rw [e]; exact h.1
    · exact vl_mem h.2 r hr
theorem dr_mem : ∀ {t : RL}, ∀ r ∈ tl t, dr r + 1 ≤ dp t
  | .nil, r, hr => nomatch hr
  | .cons s ss, r, hr => by
    rw [dp]
    rcases List.mem_cons.mp hr with e | hr
    · rw [e]; omega
    · have := dr_mem r hr
      omega
/-! ### a row changed -/
def Chg (xs : List Str) (g N : Nat) (r : RW) : Prop := ∀ (ns : List Int) (R st : Store) (f : Nat) (s : Str) (a b : Int) (k : Nat) (l : Int), Wl R xs f g → R[f]? = some (.lst (FR g s a b)) → TR ns R st →
  ∃ (r' : RW) (st' : Store), evCall TURNS D (k + N) 175 [.loc 1, rv r, .loc (f + 2), .int l] st = .ok (rv r') st' ∧ vr r' ∧ dr r' ≤ dr r + 6 ∧ TR ns R st'
def Chgs (xs : List Str) (g N : Nat) (t : RL) : Prop := ∀ (ns : List Int) (R st : Store) (f : Nat) (s : Str) (a b : Int) (k : Nat) (l : Int), Wl R xs f g → R[f]? = some (.lst (FR g s a b)) → TR ns R st →
  ∃ (t' : RL) (st' : Store), evCall TURNS D (k + N) 176 [.loc 1, .tup (rl t), .loc (f + 2), .int l] st = .ok (.tup (rl t')) st' ∧ vl t' ∧ dp t' ≤ dp t + 6 ∧ TR ns R st'
theorem Chg.mono {N M : Nat} {r : RW} (h : Chg xs g N r) (l : N ≤ M) : Chg xs g M r := fun ns R st f s a b k l' W hf h' => by
  obtain ⟨r', st', a1, a2, a3, a4⟩ := h ns R st f s a b (k + (M - N)) l' W hf h'
  exact ⟨r', st', by rwa [show k + (M - N) + N = k + M by omega] at a1, a2, a3, a4⟩
theorem Chgs.mono {N M : Nat} {t : RL} (h : Chgs xs g N t) (l : N ≤ M) : Chgs xs g M t := fun ns R st f s a b k l' W hf h' => by
  obtain ⟨r', st', a1, a2, a3, a4⟩ := h ns R st f s a b (k + (M - N)) l' W hf h'
  exact ⟨r', st', by rwa [show k + (M - N) + N = k + M by omega] at a1, a2, a3, a4⟩
theorem low_rv (n : Nat) (L : List RW) : Cell.low n (.lst (L.map rv)) = true :=
  PV.pureL_low n _ (pureL_of fun v hv => by
    obtain ⟨z, _, rfl⟩ := List.mem_map.mp hv
    exact pure_rv z)
theorem split_at {L : List RW} {j : Nat} (h : j < L.length) : ∃ A y B, L = A ++ y :: B ∧ A.length = j :=
  ⟨L.take j, L[j], L.drop (j + 1), by rw [← List.drop_eq_getElem_cons h, List.take_append_drop], by rw [List.length_take]; omega⟩
theorem drop_mid (A B : List PV) (x : PV) : (A ++ x :: B).drop (A.length + 1) = B := by
  rw [show A ++ x :: B = (A ++ [x]) ++ B by simp, show A.length + 1 = (A ++ [x]).length by simp, List.drop_left]
abbrev cell6 : MS := (.ite (.or (.cmp .eq (.var 6) (.con (.int 0))) (.cmp .eq (.var 5) (.bi .len (.cons (.var 4) .nil)))) (.cons (.ins (.var 4) (.cons (.var 5) (.cons (.var 7) .nil)))
  .nil) (.cons (.ite (.cmp .eq (.var 6) (.con (.int 1))) (.cons (.setSl (.var 4) (.var 5) (.bin .add (.var 5) (.con (.int 1))) (.lst .nil))
  .nil) (.cons (.ite (.and (.cmp .eq (.var 6) (.con (.int 2))) (.cmp .gt (.var 5) (.con (.int 0)))) (.cons (.setSl (.var 4) (.bin .sub (.var 5) (.con (.int 1))) (.bin .add (.var 5) (.con (.int 1))) (.lst (.cons (.ix (.var 4) (.var 5)) (.cons (.ix (.var 4) (.bin .sub (.var 5) (.con (.int 1)))) .nil))))
  .nil) (.cons (.ite (.cmp .eq (.var 6) (.con (.int 3))) (.cons (.setIx (.var 4) (.var 5) (.var 7))
  .nil) (.cons (.setIx (.var 4) (.var 5) (.fn 175 (.cons (.var 0) (.cons (.ix (.var 4) (.var 5)) (.cons (.var 2) (.cons (.var 3) .nil))))))
  .nil))
  .nil))
  .nil))
  .nil))
theorem cell_ok {N k : Nat} {L : List RW} {c : Cell} {y : RW} {i ch l : Int} {x1 : Option PV} {R0 : Store} (hL : L.length ≤ 1000) (hv : ∀ r ∈ L, vr r) (H : ∀ r ∈ L, Chg xs g N r) (i0 : 0 ≤ i) (i1 : i ≤ L.length) (yv : vr y) (yd : dr y ≤ 6)
    (W : Wl (R0 ++ [.lst (L.map rv), c]) xs f g) (hf : (R0 ++ [Cell.lst (L.map rv), c])[f]? = some (.lst (FR g s a b))) (h : TR ns (R0 ++ [.lst (L.map rv), c]) st) :
    ∃ (L' : List RW) (st' : Store), evS (evCall TURNS D (k + N)) TURNS cell6 [some (.loc 1), x1, some (.loc (f + 2)), some (.int l), some (.loc (R0.length + 2)), some (.int i), some (.int ch), some (rv y)] st
      = .nx [some (.loc 1), x1, some (.loc (f + 2)), some (.int l), some (.loc (R0.length + 2)), some (.int i), some (.int ch), some (rv y)] st' ∧ TR ns (R0 ++ [.lst (L'.map rv), c]) st' ∧ (∀ r ∈ L', vr r) ∧ E L' ≤ E L + 6 := by
  have atn : ∀ {I : List PV} {s : Store}, TR ns (R0 ++ [.lst I, c]) s → s[R0.length + 2]? = some (.lst I) := fun {I s} t => by
    rw [TR.at t R0.length, List.getElem?_append_right (Nat.le_refl _)]; simp
  have setR : ∀ (I I' : List PV), (R0 ++ [Cell.lst I, c]).set R0.length (.lst I') = R0 ++ [.lst I', c] := fun I I' => by
    rw [List.set_append_right _ _ (Nat.le_refl _)]; simp
  have n0 := atn h
  have bl := bi_len_loc n0
  rw [List.length_map] at bl
  have lI : (L.map rv).length = L.length := List.length_map _
  have ey := esc_p (pure_rv y)
  have vy := varV_p (pure_rv y)
  have fy := pure_nofl (pure_rv y)
  have pL := E_pos L
  by_cases c1 : ch = 0 ∨ i = (L.length : Int)
  · -- put in
    obtain ⟨j, rfl⟩ : ∃ j : Nat, i = j := ⟨i.toNat, by omega⟩
    have t := TR.set h R0.length ((L.map rv).take j ++ [rv y] ++ (L.map rv).drop j)
    rw [setR] at t
    have em : (L.map rv).take j ++ [rv y] ++ (L.map rv).drop j = (L.take j ++ y :: L.drop j).map rv := by simp [List.map_take, List.map_drop]
    have em' : (L.map rv).take j ++ rv y :: (L.map rv).drop j = (L.take j ++ y :: L.drop j).map rv := by simp [List.map_take, List.map_drop]
    have eL : E L = max (E (L.take j)) ((L.take j).length + E (L.drop j)) := by rw [← E_app, List.take_append_drop]
    have pA := E_pos (L.take j)
    refine ⟨L.take j ++ y :: L.drop j, setAt st (R0.length + 2) ((L.take j ++ y :: L.drop j).map rv), ?_, by rw [← em]; exact t, fun r hr => ?_, ?_⟩
    · rw [← em']
      have z1 : (j : Int) < 9223372036854775808 := by omega
      have z2 : L.length < 16777216 := by omega
      have cc : (decide (ch = 0) || decide ((j : Int) = (L.length : Int))) = true := by
        rw [← Bool.decide_or, decide_eq_true_eq]; exact c1
      rw [← lI] at z2
      generalize L.map rv = I at *
      generalize rv y = V at *
      rcases c1 with c1 | c1
      · simp [ME.held, evSs, evS, ev, evA, evCs, c1, bl, n0, ey, vy, fy, sizeLine_eq, z2, z1]
      · by_cases c0 : ch = 0
        · simp [ME.held, evSs, evS, ev, evA, evCs, c0, bl, n0, ey, vy, fy, sizeLine_eq, z2, z1]
        · have cj : j = L.length := by omega
          have z0 : (L.length : Int) < 9223372036854775808 := by omega
          simp [ME.held, evSs, evS, ev, evA, evCs, c0, cj, bl, n0, ey, vy, fy, sizeLine_eq, z2, z0]
    · simp only [List.mem_append, List.mem_cons] at hr
      rcases hr with hr | rfl | hr
      · exact hv r (List.mem_of_mem_take hr)
      · exact yv
      · exact hv r (List.mem_of_mem_drop hr)
    · rw [E_app, E_cons]; omega
  · have ch0 : ¬ ch = 0 := fun e => c1 (.inl e)
    have ci : ¬ i = (L.length : Int) := fun e => c1 (.inr e)
    obtain ⟨j, rfl⟩ : ∃ j : Nat, i = j := ⟨i.toNat, by omega⟩
    obtain ⟨A, q, B, e, hA⟩ := split_at (L := L) (j := j) (by omega)
    have cj : ¬ j = L.length := by omega
    have eL : E L = max (E A) (A.length + (1 + max (dr q) (E B))) := by rw [e, E_app, E_cons]
    have pA := E_pos A
    have pB := E_pos B
    have hq : q ∈ L := by rw [e]; simp
    have lL : L.length = A.length + B.length + 1 := by rw [e]; simp; omega
    have em : L.map rv = A.map rv ++ rv q :: B.map rv := by rw [e]; simp
    have lA : (A.map rv).length = j := by rw [List.length_map, hA]
    have eq := esc_p (pure_rv q)
    have xq : ∀ {st : Store}, st[R0.length + 2]? = some (.lst (L.map rv)) → ixV (.loc (R0.length + 2)) (.int j) st = some (rv q) := fun {st} hn => by
      rw [ix_loc (k := j) hn]
      exact atI_nn (by omega) (by rw [em, Int.toNat_natCast, ← lA]; simp)
    have hj : ixN L.length (j : Int) = some j := ixN_nn (by omega) (by omega)
    have hset : ∀ v : PV, (L.map rv).set j v = A.map rv ++ v :: B.map rv := fun v => by
      rw [em, ← lA, List.set_append_right _ _ (Nat.le_refl _)]; simp
    by_cases c2 : ch = 1
    · -- left out
      have cut : (L.map rv).take j ++ (L.map rv).drop (j + 1) = (A ++ B).map rv := by
        rw [em, ← lA, drop_mid]; simp
      have t := TR.set h R0.length ((A ++ B).map rv)
      rw [setR] at t
      refine ⟨A ++ B, setAt st (R0.length + 2) ((A ++ B).map rv), ?_, t, fun r hr => ?_, ?_⟩
      · rw [← cut]
        have z1 : (j : Int) + 1 ≤ ((L.map rv).length : Nat) := by rw [lI]; omega
        have z3 : j + 1 ≤ (L.map rv).length := by rw [lI]; omega
        have z2 : (L.map rv).length ≤ 16777216 := by rw [lI]; omega
        have z4 : ((j : Int) + 1).toNat = j + 1 := by omega
        have z5 : (0 : Int) ≤ (j : Int) ∧ (j : Int) ≤ (j : Int) + 1 := by omega
        generalize L.map rv = I at *
        generalize rv y = V at *
        simp [ME.held, evSs, evS, ev, evA, evCs, c2, cj, ci, bl, n0, sizeLine_eq, z2, z1, z3, z4, z5.2]
      · rcases List.mem_append.mp hr with hr | hr
        · exact hv r (by rw [e]; simp [hr])
        · exact hv r (by rw [e]; simp [hr])
      · rw [E_app]; omega
    · by_cases c3 : ch = 2 ∧ 0 < (j : Int)
      · -- exchanged
        obtain ⟨A', p, eA⟩ : ∃ A' p, A = A' ++ [p] := by
          rcases List.eq_nil_or_concat A with h | ⟨A', p, h⟩
          · rw [h] at hA; simp at hA; omega
          · exact ⟨A', p, by rw [h, List.concat_eq_append]⟩
        have lA' : (A'.map rv).length = j - 1 := by rw [List.length_map]; rw [eA] at hA; simp at hA; omega
        have em2 : L.map rv = A'.map rv ++ rv p :: rv q :: B.map rv := by rw [em, eA]; simp
        have xp : ∀ {st : Store}, st[R0.length + 2]? = some (.lst (L.map rv)) → ixV (.loc (R0.length + 2)) (.int ((j : Int) - 1)) st = some (rv p) := fun {st} hn => by
          rw [ix_loc (k := (j : Int) - 1) hn]
          exact atI_nn (by omega) (by rw [em2, show ((j : Int) - 1).toNat = (A'.map rv).length by omega]; simp)
        have x1 := xq n0
        have x2 := xp n0
        have cut : (L.map rv).take (j - 1) ++ rv q :: rv p :: (L.map rv).drop (j + 1) = (A' ++ q :: p :: B).map rv := by
          have d1 : (L.map rv).take (j - 1) = A'.map rv := by rw [em2, ← lA']; simp
          have d2 : (L.map rv).drop (j + 1) = B.map rv := by rw [em, ← lA, drop_mid]
          rw [d1, d2]; simp
        have t := TR.set h R0.length ((A' ++ q :: p :: B).map rv)
        rw [setR] at t
        have ep := esc_p (pure_rv p)
        have hp : p ∈ L := by rw [e, eA]; simp
        refine ⟨A' ++ q :: p :: B, setAt st (R0.length + 2) ((A' ++ q :: p :: B).map rv), ?_, t, fun r hr => ?_, ?_⟩
        · rw [← cut]
          have z1 : (j : Int) + 1 ≤ ((L.map rv).length : Nat) := by rw [lI]; omega
          have z3 : j + 1 ≤ (L.map rv).length := by rw [lI]; omega
          have z2 : (L.map rv).length + 2 ≤ 16777216 := by rw [lI]; omega
          have z4 : ((j : Int) + 1).toNat = j + 1 := by omega
          have z5 : ((j : Int) - 1).toNat = j - 1 := by omega
          have z6 : 0 ≤ (j : Int) - 1 ∧ (j : Int) - 1 ≤ (j : Int) + 1 := by omega
          have z7 : 0 < j := by omega
          have z8 : 1 ≤ (j : Int) := by omega
          generalize L.map rv = I at *
          generalize rv y = V at *
          generalize rv q = VQ at *
          generalize rv p = VP at *
          simp [ME.held, evSs, evS, ev, evA, evCs, c3.1, cj, ci, z7, bl, n0, x1, x2, ep, eq, sizeLine_eq, z2, z1, z3, z4, z5, z6.1, z6.2, z8]
        · simp only [List.mem_append, List.mem_cons] at hr
          rcases hr with hr | rfl | rfl | hr
          · exact hv r (by rw [e, eA]; simp [hr])
          · exact hv r hq
          · exact hv r hp
          · exact hv r (by rw [e]; simp [hr])
        · have e1 : E A = max (E A') (A'.length + (1 + max (dr p) 1)) := by rw [eA, E_app, E_cons]; rfl
          have : A.length = A'.length + 1 := by rw [eA]; simp
          rw [E_app, E_cons, E_cons]; omega
      · have c3' : ¬ (ch = 2 ∧ 0 < j) := fun e => c3 ⟨e.1, by omega⟩
        have setL : ∀ z : RW, (L.map rv).set j (rv z) = (A ++ z :: B).map rv := fun z => by rw [hset]; simp
        have mem : ∀ z : RW, vr z → ∀ r ∈ A ++ z :: B, vr r := fun z hz r hr => by
          simp only [List.mem_append, List.mem_cons] at hr
          rcases hr with hr | rfl | hr
          · exact hv r (by rw [e]; simp [hr])
          · exact hz
          · exact hv r (by rw [e]; simp [hr])
        by_cases c4 : ch = 3
        · have t := TR.set h R0.length ((A ++ y :: B).map rv)
          rw [setR] at t
          refine ⟨A ++ y :: B, setAt st (R0.length + 2) ((A ++ y :: B).map rv), ?_, t, mem y yv, by rw [E_app, E_cons]; omega⟩
          rw [← setL]
          rw [← lI] at hj
          generalize L.map rv = I at *
          generalize rv y = V at *
          simp [ME.held, evSs, evS, ev, evA, evCs, c4, cj, ci, bl, n0, ey, vy, fy, hj, sizeLine_eq]
        · obtain ⟨z, st2, z1, z2, z3, z4⟩ := H q hq ns _ st f s a b k l W hf h
          have n2 := atn z4
          have t := TR.set z4 R0.length ((A ++ z :: B).map rv)
          rw [setR] at t
          have x1 := xq n0
          have fz := pure_nofl (pure_rv z)
          have ez := esc_p (pure_rv z)
          refine ⟨A ++ z :: B, setAt st2 (R0.length + 2) ((A ++ z :: B).map rv), ?_, t, mem z z2, by rw [E_app, E_cons]; omega⟩
          rw [← setL]
          rw [← lI] at hj
          generalize L.map rv = I at *
          generalize rv y = V at *
          generalize rv q = VQ at *
          generalize rv z = VZ at *
          by_cases c5 : ch = 2
          · have j0 : j = 0 := by omega
            subst j0
            have j0' : ¬ (0 : Int) = (L.length : Int) := by omega
            have x1' : ixV (.loc (R0.length + 2)) (.int 0) st = some VQ := x1
            have hj' : ixN I.length 0 = some 0 := hj
            have z9 : ¬ L.length = 0 := by omega
            have z8 : ¬ 0 = L.length := by omega
            simp [ME.held, evSs, evS, ev, evA, evCs, c5, z8, z9, j0', bl, x1', eq, z1, n2, ez, fz, hj', sizeLine_eq]
          · simp [ME.held, evSs, evS, ev, evA, evCs, ch0, c2, c5, c4, cj, ci, bl, x1, eq, z1, n2, ez, fz, hj, sizeLine_eq]
end K69

set_option maxHeartbeats 4000000
namespace K69
open PySem L2 U
variable {ns : List Int} {R : Store} {st : Store} {xs : List Str} {f g : Nat} {a b : Int} {s : Str}
theorem low_fr {n g : Nat} {s : Str} {a b : Int} (h : g + 2 < n) : Cell.low n (.lst (FR g s a b)) = true := by
  show (true && (true && (true && (true && (decide (g + 2 < n) && true))))) = true
  rw [decide_eq_true h]; rfl
theorem chgs_of {t : RL} {N : Nat} (hx : NM xs) (hN : 4 ≤ N) (hv : vl t) (hd : dp t ≤ 900) (H : ∀ r ∈ tl t, Chg xs g N r) : Chgs xs g (N + 1) t := fun ns R st f s a b k l W hf h => by
  have len0 := h.len
  have lt := len_dp t
  obtain ⟨L, hL⟩ : ∃ L, L = tl t := ⟨_, rfl⟩
  have hI : rl t = L.map rv := by rw [hL, rl_tl]
  have fl := W.fl
  have gl := W.gl
  have t1 : TR ns (R ++ [.lst (L.map rv)]) (st ++ [.lst (L.map rv)]) := h.push _
  have n1 : (st ++ [Cell.lst (L.map rv)])[R.length + 2]? = some (.lst (L.map rv)) := by
    rw [TR.at t1 R.length, List.getElem?_append_right (Nat.le_refl _)]; simp
  have bl := bi_len_loc n1
  rw [List.length_map] at bl
  obtain ⟨n, hn⟩ : ∃ n, k + N = n + 1 := ⟨k + N - 1, by omega⟩
  obtain ⟨i, st2, d1, d2, d3, d4⟩ := drawR (k := n) (m := (L.length : Int) + 1) t1 (by rw [hL]; omega)
  obtain ⟨ch, st3, e1, e2, e3, e4⟩ := drawR (k := n) (m := 7) d2 (by decide)
  rw [← hn] at d1 e1
  have len3 : st3.length = R.length + 3 := by rw [e2.len]; simp
  have hf3 : st3[f + 2]? = some (.lst (FR g s a b)) := by
    rw [TR.at e2 f, List.getElem?_append_left fl, hf]
  have i4 : ixV (.loc (f + 2)) (.int 4) st3 = some (.loc (g + 2)) := ix_loc (k := 4) hf3
  have t4 : TR ns (R ++ [.lst (L.map rv), .lst (FR g "return 9" 2 2)]) (st3 ++ [.lst (FR g "return 9" 2 2)]) := by
    have := e2.push [.lst (FR g "return 9" 2 2)]
    rwa [List.append_assoc] at this
  have lowC : ∀ (a' b' : Int), Low (R.length + 4) (R ++ [.lst (L.map rv), .lst (FR g "return 9" a' b')]) := fun a' b' c hc => by
    simp only [List.mem_append, List.mem_cons, List.not_mem_nil, or_false] at hc
    rcases hc with hc | rfl | rfl
    · exact W.low.mono (by omega) c hc
    · exact low_rv _ _
    · exact low_fr (by omega)
  have hgC : ∀ (a' b' : Int), (R ++ [Cell.lst (L.map rv), .lst (FR g "return 9" a' b')])[g]? = some (.lst (xs.map .str)) := fun a' b' => by
    rw [List.getElem?_append_left gl, W.hg]
  have lenC : ∀ (a' b' : Int), (R ++ [Cell.lst (L.map rv), .lst (FR g "return 9" a' b')]).length = R.length + 2 := fun a' b' => by simp
  have W2 : Wl (R ++ [.lst (L.map rv), .lst (FR g "return 9" 2 2)]) xs (R.length + 1) g := ⟨hgC 2 2, by omega, by rw [lenC]; omega, by rw [lenC]; exact lowC 2 2⟩
  have setC : ∀ (a' b' : Int), (R ++ [Cell.lst (L.map rv), .lst (FR g "return 9" 2 2)]).set (R.length + 1) (.lst (FR g "return 9" a' b')) = R ++ [.lst (L.map rv), .lst (FR g "return 9" a' b')] := fun a' b' => by
    rw [List.set_append_right _ _ (by omega), show R.length + 1 - R.length = 1 by omega]; rfl
  have cs : CS ns (R ++ [.lst (L.map rv), .lst (FR g "return 9" 2 2)]) (R.length + 1) g "return 9" 2 2 (st3 ++ [.lst (FR g "return 9" 2 2)]) := by
    unfold CS
    rw [setC]; exact t4
  obtain ⟨y, st4, a', b', y1, y2, y3, y4⟩ := row1 hx ns _ _ (R.length + 1) g "return 9" 2 2 (k + N - 4) l W2 SP.nine cs
  rw [show k + N - 4 + 4 = k + N by omega] at y1
  have y4 : TR ns (R ++ [.lst (L.map rv), .lst (FR g "return 9" a' b')]) st4 := by
    unfold CS at y4
    rw [setC] at y4; exact y4
  have W3 : Wl (R ++ [.lst (L.map rv), .lst (FR g "return 9" a' b')]) xs f g := ⟨hgC a' b', W.fg, by rw [lenC]; omega, by rw [lenC]; exact lowC a' b'⟩
  obtain ⟨L', st5, c1, c2, c3, c4⟩ := cell_ok (k := k) (N := N) (L := L) (c := .lst (FR g "return 9" a' b')) (y := y) (i := i) (ch := ch) (l := l) (x1 := some (.tup (L.map rv))) (R0 := R) (by rw [hL]; omega) (fun r hr => vl_mem hv r (hL ▸ hr)) (fun r hr => H r (hL ▸ hr)) d3 (by omega) y2 y3 W3 (by rw [List.getElem?_append_left fl, hf]) y4
  have n5 : st5[R.length + 2]? = some (.lst (L'.map rv)) := by
    rw [TR.at c2 R.length, List.getElem?_append_right (Nat.le_refl _)]; simp
  obtain ⟨st6, l1, l2⟩ := TR.drop' (v := .tup (rl (ofL L'))) h c2 rfl W.low (pure_rl (ofL L'))
  refine ⟨ofL L', st6, ?_, vl_of c3, by rw [← E_tl t, ← hL]; exact c4, l2⟩
  refine (call_rt (k := k + N) (f := 176) (d := d176) (args := [.loc 1, .tup (rl t), .loc (f + 2), .int l]) (v := .tup (rl (ofL L'))) (s := st5) rfl rfl rfl rfl ?_).trans l1
  have er := esc_p (pure_rv y)
  have bt : biV .tuple [.loc (R.length + 2)] st5 = some (.tup (L'.map rv)) := by
    show (seqOf (.loc (R.length + 2)) st5).map PV.tup = _
    unfold seqOf
    simp only [n5]
    rfl
  rw [hI, rl_of]
  show evSs _ TURNS (.cons _ (.cons _ (.cons _ (.cons _ (.cons cell6 (.cons (.ret (.bi .tuple (.cons (.var 4) .nil))) .nil)))))) [some (.loc 1), some (.tup (L.map rv)), some (.loc (f + 2)), some (.int l), none, none, none, none] st = _
  refine (evSs_step (env' := [some (.loc 1), some (.tup (L.map rv)), some (.loc (f + 2)), some (.int l), some (.loc (R.length + 2)), none, none, none]) (st' := st ++ [.lst (L.map rv)]) ?_).trans ?_
  · generalize L.map rv = I
    simp [evS, ev, evA, evCs, bi_list_tup, len0]
  refine (evSs_step (env' := [some (.loc 1), some (.tup (L.map rv)), some (.loc (f + 2)), some (.int l), some (.loc (R.length + 2)), some (.int i), none, none]) (st' := st2) ?_).trans ?_
  · generalize L.map rv = I at *
    simp [evS, ev, evA, evCs, bl, d1]
  refine (evSs_step (env' := [some (.loc 1), some (.tup (L.map rv)), some (.loc (f + 2)), some (.int l), some (.loc (R.length + 2)), some (.int i), some (.int ch), none]) (st' := st3) ?_).trans ?_
  · generalize L.map rv = I at *
    simp [evS, ev, evA, evCs, e1]
  refine (evSs_step (env' := [some (.loc 1), some (.tup (L.map rv)), some (.loc (f + 2)), some (.int l), some (.loc (R.length + 2)), some (.int i), some (.int ch), some (rv y)]) (st' := st4) ?_).trans ?_
  · have y1' : evCall TURNS D (k + N) 169 [.loc 1, .loc (R.length + 3), .int 1, .int l] (st3 ++ [.lst (FR g "return 9" 2 2)]) = .ok (rv y) st4 := y1
    generalize L.map rv = I at *
    generalize rv y = V at *
    simp [evS, ev, evA, evCs, i4, len3, y1', er, sizeLine_eq]
  refine (evSs_step c1).trans ?_
  generalize L'.map rv = I' at *
  simp [ME.held, evSs, evS, ev, evA, evCs, bt]
end K69

set_option maxHeartbeats 4000000
namespace K69
open PySem L2 U
variable {ns : List Int} {R : Store} {st : Store} {xs : List Str} {f g : Nat} {a b : Int} {s : Str}
theorem three {q : Int} (h0 : 0 ≤ q) (h3 : q < 3) : q = 0 ∨ q = 1 ∨ q = 2 := by omega
theorem chg_jump (j : Bool) (n : Int) : Chg xs g 3 (.jump j n) := fun ns R st f s a b k l W hf h => by
  obtain ⟨ch, st1, d1, d2, d3, d4⟩ := drawR (k := k + 1) (m := 3) h (by decide)
  obtain ⟨q, st2, e1, e2, e3, e4⟩ := drawR (k := k + 1) (m := 2) d2 (by decide)
  obtain ⟨j', hj⟩ := jump_row q e3 e4 0
  obtain ⟨q2, st3, g1, g2, g3, g4⟩ := drawR0 (k := k + 1) (m := min l 3) e2 (by omega)
  refine ⟨.jump j' (1 + q2), st3, ?_, trivial, by show 1 ≤ 1 + 6; omega, g2⟩
  have lv : ∀ v, U.leave st.length v st3 = .ok v st3 := fun v => leave_same (by rw [g2.len, h.len]; omega)
  refine (call_rt (k := k + 2) (f := 175) (d := d175) (args := [.loc 1, rv (.jump j n), .loc (f + 2), .int l]) (v := rv (.jump j' (1 + q2))) (s := st3) rfl rfl (by rw [rv]; rfl) rfl ?_).trans (lv _)
  have m0 := min3 l
  obtain ⟨m, hm⟩ : ∃ m : Int, m = min l 3 := ⟨_, rfl⟩
  rw [← hm] at m0 g1
  have jc : jw j ≠ "call" ∧ jw j ≠ "stop" ∧ (jw j = "break" ∨ jw j = "continue") := by cases j <;> simp [jw]
  have jx : ¬ jw j = "break" → jw j = "continue" := fun h => jc.2.2.resolve_left h
  unfold d175
  show evSs _ TURNS _ [some (.loc 1), some (.tup [.str (jw j), .int n]), some (.loc (f + 2)), some (.int l), none] st = SR.rt (PV.tup [.str (jw j'), .int (1 + q2)]) st3
  cases j
  · have jb : jw false = "break" := rfl
    rw [jb]
    simp [ME.held, evSs, evS, ev, evA, evCs, d1, e1, hj, m0, g1, sizeLine_eq, -bi_min]
  · have jb : jw true = "continue" := rfl
    rw [jb]
    simp [ME.held, evSs, evS, ev, evA, evCs, d1, e1, hj, m0, g1, sizeLine_eq, -bi_min]
theorem chg_stop (i n : Int) (t : Str) : Chg xs g 3 (.stop i n t) := fun ns R st f s a b k l W hf h => by
  obtain ⟨ch, st1, d1, d2, d3, d4⟩ := drawR (k := k + 1) (m := 3) h (by decide)
  obtain ⟨r, st2, r1, r2, r3, r4⟩ := stop_ok (k := k) d2
  refine ⟨r, st2, ?_, r2, by show dr r ≤ 2 + 6; omega, r4⟩
  have lv : ∀ v, U.leave st.length v st2 = .ok v st2 := fun v => leave_same (by rw [r4.len, h.len]; omega)
  refine (call_rt (k := k + 2) (f := 175) (d := d175) (args := [.loc 1, rv (.stop i n t), .loc (f + 2), .int l]) (v := rv r) (s := st2) rfl rfl (by rw [rv]; rfl) rfl ?_).trans (lv _)
  unfold d175
  show evSs _ TURNS _ [some (.loc 1), some (.tup [.str "stop", .str (rn i n t)]), some (.loc (f + 2)), some (.int l), none] st = _
  have er := varV_p (pure_rv r)
  generalize rv r = V at *
  simp [ME.held, evSs, evS, ev, evA, evCs, d1, r1, er, sizeLine_eq]
theorem chg_call (hx : NM xs) (x : Str) : Chg xs g 3 (.call x) := fun ns R st f s a b k l W hf h => by
  obtain ⟨ch, st1, d1, d2, d3, d4⟩ := drawR (k := k + 1) (m := 3) h (by decide)
  obtain ⟨q, y, st2, yB, n1, n2, n3, n4⟩ := name_ok (k := k + 1) hx W.hg d2
  have i4 : ixV (.loc (f + 2)) (.int 4) st1 = some (.loc (g + 2)) := ix_loc (k := 4) ((TR.at d2 f).trans hf)
  refine ⟨.call y, st2, ?_, yB, by show 1 ≤ 1 + 6; omega, n1⟩
  have lv : ∀ v, U.leave st.length v st2 = .ok v st2 := fun v => leave_same (by rw [n1.len, h.len]; omega)
  refine (call_rt (k := k + 2) (f := 175) (d := d175) (args := [.loc 1, rv (.call x), .loc (f + 2), .int l]) (v := rv (.call y)) (s := st2) rfl rfl (by rw [rv]; rfl) rfl ?_).trans (lv _)
  unfold d175
  show evSs _ TURNS _ [some (.loc 1), some (.tup [.str "call", .str x]), some (.loc (f + 2)), some (.int l), none] st = SR.rt (PV.tup [.str "call", .str y]) st2
  simp [ME.held, evSs, evS, ev, evA, evCs, d1, i4, n2, n3, n4, sizeLine_eq]
theorem pureR (W : Wl R xs f g) : True := trivial
theorem chg_fr {t : RL} {N : Nat} (hN : 1 ≤ N) (H : Chgs xs g N t) : Chg xs g (N + 1) (.fr t) := fun ns R st f s a b k l W hf h => by
  obtain ⟨n, hn⟩ : ∃ n, k + N = n + 1 := ⟨k + N - 1, by omega⟩
  obtain ⟨ch, st1, d1, d2, d3, d4⟩ := drawR (k := n) (m := 3) h (by decide)
  rw [← hn] at d1
  obtain ⟨u, st2, u1, u2, u3, u4⟩ := H ns R st1 f s a b k (l + 1) W hf d2
  refine ⟨.fr u, st2, ?_, u2, by rw [dr, dr]; omega, u4⟩
  have lv : ∀ v, U.leave st.length v st2 = .ok v st2 := fun v => leave_same (by rw [u4.len, h.len]; omega)
  refine (call_rt (k := k + N) (f := 175) (d := d175) (args := [.loc 1, rv (.fr t), .loc (f + 2), .int l]) (v := rv (.fr u)) (s := st2) rfl rfl (by rw [rv]; rfl) rfl ?_).trans (lv _)
  unfold d175
  show evSs _ TURNS _ [some (.loc 1), some (.tup [.str "for", .non, .tup (rl t)]), some (.loc (f + 2)), some (.int l), none] st = SR.rt (PV.tup [.str "for", .non, .tup (rl u)]) st2
  generalize rl t = T at *
  generalize rl u = T' at *
  simp [ME.held, evSs, evS, ev, evA, evCs, d1, u1, sizeLine_eq]
end K69

set_option maxHeartbeats 4000000
namespace K69
open PySem L2 U
variable {ns : List Int} {R : Store} {st : Store} {xs : List Str} {f g : Nat} {a b : Int} {s : Str}
theorem cond_chg {c : CB} {N : Nat} (hN : c.lc + 2 ≤ N) (H : CB.Ch g xs (c.lc + 2) c) (k : Nat) (W : Wl R xs f g) (h : TR ns R st) :
    ∃ (c' : CB) (st' : Store), c'.nb ∧ c'.lc ≤ c.lc + 1 ∧ evCall TURNS D (k + N) 162 [.loc 1, c.pv, .loc (g + 2)] st = .ok c'.pv st' ∧ TR ns R st' := by
  obtain ⟨c', st', h1, h2, h3, h4⟩ := H ns R st (k + (N - (c.lc + 2))) W.hg W.low h
  exact ⟨c', st', h1, h2, by rwa [show k + (N - (c.lc + 2)) + (c.lc + 2) = k + N by omega] at h3, h4⟩
theorem chg_whl {c : CB} {t : RL} {N : Nat} (hc : c.nb) (hv : vl t) (hN : c.lc + 2 ≤ N) (Hc : CB.Ch g xs (c.lc + 2) c) (H : Chgs xs g N t) : Chg xs g (N + 1) (.whl c t) := fun ns R st f s a b k l W hf h => by
  obtain ⟨n, hn⟩ : ∃ n, k + N = n + 1 := ⟨k + N - 1, by omega⟩
  obtain ⟨ch, st1, d1, d2, d3, d4⟩ := drawR (k := n) (m := 3) h (by decide)
  rw [← hn] at d1
  have i4 : ixV (.loc (f + 2)) (.int 4) st1 = some (.loc (g + 2)) := ix_loc (k := 4) ((TR.at d2 f).trans hf)
  have fin : ∀ {r : RW} {st2 : Store}, evSs (evCall TURNS D (k + N)) TURNS d175.body [some (.loc 1), some (.tup [.str "while", .non, c.pv, .tup (rl t)]), some (.loc (f + 2)), some (.int l), none] st = .rt (rv r) st2 → vr r → dr r ≤ dr (.whl c t) + 6 → TR ns R st2 →
      ∃ (r : RW) (st' : Store), evCall TURNS D (k + (N + 1)) 175 [.loc 1, rv (.whl c t), .loc (f + 2), .int l] st = .ok (rv r) st' ∧ vr r ∧ dr r ≤ dr (.whl c t) + 6 ∧ TR ns R st' := fun {r st2} hh h1 h2 h3 => by
    have lv : ∀ v, U.leave st.length v st2 = .ok v st2 := fun v => leave_same (by rw [h3.len, h.len]; omega)
    exact ⟨r, st2, (call_rt (k := k + N) (f := 175) (d := d175) (args := [.loc 1, rv (.whl c t), .loc (f + 2), .int l]) (v := rv r) (s := st2) rfl rfl (by rw [rv]; rfl) rfl hh).trans (lv _), h1, h2, h3⟩
  have ec := esc_p (CB.pure_pv c).1
  by_cases c0 : ch = 0
  · obtain ⟨c', st2, g1, g2, g3, g4⟩ := cond_chg hN Hc k W d2
    refine fin (r := .whl c' t) ?_ ⟨g1, hv⟩ (by rw [dr, dr]; omega) g4
    show _ = SR.rt (PV.tup [.str "while", .non, c'.pv, .tup (rl t)]) st2
    have ec' := esc_p (CB.pure_pv c').1
    unfold d175
    generalize c.pv = P at *
    generalize c'.pv = P' at *
    generalize rl t = T at *
    simp [ME.held, evSs, evS, ev, evA, evCs, d1, c0, i4, ec, g3, ec', sizeLine_eq]
  · obtain ⟨u, st2, u1, u2, u3, u4⟩ := H ns R st1 f s a b k (l + 1) W hf d2
    refine fin (r := .whl c u) ?_ ⟨hc, u2⟩ (by rw [dr, dr]; omega) u4
    show _ = SR.rt (PV.tup [.str "while", .non, c.pv, .tup (rl u)]) st2
    unfold d175
    generalize c.pv = P at *
    generalize rl t = T at *
    generalize rl u = T' at *
    simp [ME.held, evSs, evS, ev, evA, evCs, d1, c0, ec, u1, sizeLine_eq]
theorem chg_ife {c : CB} {t u : RL} {N : Nat} (hc : c.nb) (hv : vl t) (hu : vl u) (hN : c.lc + 2 ≤ N) (Hc : CB.Ch g xs (c.lc + 2) c) (H : Chgs xs g N t) (H2 : Chgs xs g N u) : Chg xs g (N + 1) (.ife c t u) := fun ns R st f s a b k l W hf h => by
  obtain ⟨n, hn⟩ : ∃ n, k + N = n + 1 := ⟨k + N - 1, by omega⟩
  obtain ⟨ch, st1, d1, d2, d3, d4⟩ := drawR (k := n) (m := 3) h (by decide)
  rw [← hn] at d1
  have i4 : ixV (.loc (f + 2)) (.int 4) st1 = some (.loc (g + 2)) := ix_loc (k := 4) ((TR.at d2 f).trans hf)
  have fin : ∀ {r : RW} {st2 : Store}, evSs (evCall TURNS D (k + N)) TURNS d175.body [some (.loc 1), some (.tup [.str "if", c.pv, .tup (rl t), .tup (rl u)]), some (.loc (f + 2)), some (.int l), none] st = .rt (rv r) st2 → vr r → dr r ≤ dr (.ife c t u) + 6 → TR ns R st2 →
      ∃ (r : RW) (st' : Store), evCall TURNS D (k + (N + 1)) 175 [.loc 1, rv (.ife c t u), .loc (f + 2), .int l] st = .ok (rv r) st' ∧ vr r ∧ dr r ≤ dr (.ife c t u) + 6 ∧ TR ns R st' := fun {r st2} hh h1 h2 h3 => by
    have lv : ∀ v, U.leave st.length v st2 = .ok v st2 := fun v => leave_same (by rw [h3.len, h.len]; omega)
    exact ⟨r, st2, (call_rt (k := k + N) (f := 175) (d := d175) (args := [.loc 1, rv (.ife c t u), .loc (f + 2), .int l]) (v := rv r) (s := st2) rfl rfl (by rw [rv]; rfl) rfl hh).trans (lv _), h1, h2, h3⟩
  have ec := esc_p (CB.pure_pv c).1
  by_cases c0 : ch = 0
  · obtain ⟨c', st2, g1, g2, g3, g4⟩ := cond_chg hN Hc k W d2
    refine fin (r := .ife c' t u) ?_ ⟨g1, hv, hu⟩ (by rw [dr, dr]; omega) g4
    show _ = SR.rt (PV.tup [.str "if", c'.pv, .tup (rl t), .tup (rl u)]) st2
    have ec' := esc_p (CB.pure_pv c').1
    unfold d175
    generalize c.pv = P at *
    generalize c'.pv = P' at *
    generalize rl t = T at *
    generalize rl u = V at *
    simp [ME.held, evSs, evS, ev, evA, evCs, d1, c0, i4, ec, g3, ec', sizeLine_eq]
  · by_cases c1 : ch = 1
    · obtain ⟨w, st2, u1, u2, u3, u4⟩ := H ns R st1 f s a b k l W hf d2
      refine fin (r := .ife c w u) ?_ ⟨hc, u2, hu⟩ (by rw [dr, dr]; omega) u4
      show _ = SR.rt (PV.tup [.str "if", c.pv, .tup (rl w), .tup (rl u)]) st2
      unfold d175
      generalize c.pv = P at *
      generalize rl t = T at *
      generalize rl u = V at *
      generalize rl w = T' at *
      simp [ME.held, evSs, evS, ev, evA, evCs, d1, c1, ec, u1, sizeLine_eq]
    · obtain ⟨w, st2, u1, u2, u3, u4⟩ := H2 ns R st1 f s a b k l W hf d2
      refine fin (r := .ife c t w) ?_ ⟨hc, hv, u2⟩ (by rw [dr, dr]; omega) u4
      show _ = SR.rt (PV.tup [.str "if", c.pv, .tup (rl t), .tup (rl w)]) st2
      unfold d175
      generalize c.pv = P at *
      generalize rl t = T at *
      generalize rl u = V at *
      generalize rl w = T' at *
      simp [ME.held, evSs, evS, ev, evA, evCs, d1, c0, c1, ec, u1, sizeLine_eq]
mutual
theorem chg_row (hx : NM xs) (g : Nat) : ∀ r : RW, vr r → dr r ≤ 40 → Chg xs g (dr r + 5) r
  | .jump j n, _, _ => (chg_jump j n).mono (by omega)
  | .stop i n l, _, _ => (chg_stop i n l).mono (by omega)
  | .call x, _, _ => (chg_call hx x).mono (by omega)
  | .ife c t u, hv, hd => by
    have hd : 1 + max c.lc (max (dp t) (dp u)) ≤ 40 := hd
    have h1 := chgs_of (N := dp t + 4) hx (by omega) hv.2.1 (by omega) (chg_items hx g t hv.2.1 (by omega))
    have h2 := chgs_of (N := dp u + 4) hx (by omega) hv.2.2 (by omega) (chg_items hx g u hv.2.2 (by omega))
    have hc := (CB.changed_ok (g := g) hx c hv.1 (by omega)).1
    rw [dr]
    exact (chg_ife (N := 1 + max c.lc (max (dp t) (dp u)) + 4) hv.1 hv.2.1 hv.2.2 (by omega) hc (h1.mono (by omega)) (h2.mono (by omega))).mono (by omega)
  | .whl c t, hv, hd => by
    have hd : 1 + max c.lc (dp t) ≤ 40 := hd
    have h1 := chgs_of (N := dp t + 4) hx (by omega) hv.2 (by omega) (chg_items hx g t hv.2 (by omega))
    have hc := (CB.changed_ok (g := g) hx c hv.1 (by omega)).1
    rw [dr]
    exact (chg_whl (N := 1 + max c.lc (dp t) + 4) hv.1 hv.2 (by omega) hc (h1.mono (by omega))).mono (by omega)
  | .fr t, hv, hd => by
    have hd : 1 + dp t ≤ 40 := hd
    have h1 := chgs_of (N := dp t + 4) hx (by omega) hv (by omega) (chg_items hx g t hv (by omega))
    rw [dr]
    exact (chg_fr (N := 1 + dp t + 4) (by omega) (h1.mono (by omega))).mono (by omega)
theorem chg_items (hx : NM xs) (g : Nat) : ∀ t : RL, vl t → dp t ≤ 40 → ∀ r ∈ tl t, Chg xs g (dp t + 4) r
  | .nil, _, _, r, hr => nomatch hr
  | .cons q t, hv, hd, r, hr => by
    have hd : 1 + max (dr q) (dp t) ≤ 40 := hd
    rcases List.mem_cons.mp hr with e | hr
    · rw [e, dp]
      exact (chg_row hx g q hv.1 (by omega)).mono (by omega)
    · rw [dp]
      exact (chg_items hx g t hv.2 (by omega) r hr).mono (by omega)
end
theorem chg_rows (hx : NM xs) (g : Nat) {t : RL} (hv : vl t) (hd : dp t ≤ 40) : Chgs xs g (dp t + 5) t :=
  chgs_of (N := dp t + 4) hx (by omega) hv (by omega) (chg_items hx g t hv hd)
end K69

set_option maxHeartbeats 4000000
namespace K69
open PySem L2 U
variable {ns : List Int} {R : Store} {st : Store} {xs : List Str} {f g : Nat} {a b : Int} {s : Str}
theorem leave0 (b : Bool) (st : Store) : ∃ st', U.leave 0 (.bl b) st = .ok (.bl b) st' := by
  unfold U.leave
  split
  · exact ⟨_, rfl⟩
  · exact ⟨[], by rw [List.take_zero]; rfl⟩
theorem rest_ok {a b : RL} {e0 e1 e2 e3 e6 : Option PV} (ha : vl a) (hb : vl b) (za : dp a ≤ 32) (zb : dp b ≤ 32) (st : Store) :
    evSs (evCall TURNS D 200) TURNS (.cons (.set 7 (.fn 173 (.cons (.var 4) .nil)) true)
  (.cons (.set 8 (.fn 173 (.cons (.var 5) .nil)) true)
  (.cons (.ite (.not (.fn 147 (.cons (.fn 163 (.cons (.var 4) (.cons (.var 5) .nil))) (.cons (.cmp .lt (.var 7) (.var 8)) .nil)))) (.cons (.ret (.con (.bl false)))
  .nil) .nil)
  (.cons (.ite (.not (.fn 147 (.cons (.fn 163 (.cons (.var 5) (.cons (.var 4) .nil))) (.cons (.cmp .lt (.var 8) (.var 7)) .nil)))) (.cons (.ret (.con (.bl false)))
  .nil) .nil)
  (.cons (.ite (.and (.not (.cmp .lt (.var 7) (.var 8))) (.and (.not (.cmp .lt (.var 8) (.var 7))) (.cmp .ne (.var 4) (.var 5)))) (.cons (.ret (.con (.bl false)))
  .nil) .nil)
  (.cons (.ret (.and (.fn 147 (.cons (.fn 163 (.cons (.var 4) (.cons (.var 4) .nil))) (.cons (.con (.bl false)) .nil))) (.fn 147 (.cons (.fn 163 (.cons (.var 5) (.cons (.var 5) .nil))) (.cons (.con (.bl false)) .nil)))))
  .nil)))))) [e0, e1, e2, e3, some (.tup (rl a)), some (.tup (rl b)), e6, none, none] st = .rt (.bl true) st := by
  obtain ⟨u, v, h1, h2, l1, l2, h3, _⟩ := orders (oks_of a ha) (oks_of b hb)
  obtain ⟨w, _, h5, _, _, _, _, h6⟩ := orders (oks_of a ha) (oks_of a ha)
  have hw := h6 rfl
  subst hw
  obtain ⟨w2, _, h7, _, _, _, _, h8⟩ := orders (oks_of b hb) (oks_of b hb)
  have hw2 := h8 rfl
  subst hw2
  have k1 := fun st => rows_law a ha (by omega) (199 - dp a) st
  have k2 := fun st => rows_law b hb (by omega) (199 - dp b) st
  rw [show 199 - dp a + dp a + 1 = 200 by omega] at k1
  rw [show 199 - dp b + dp b + 1 = 200 by omega] at k2
  have q1 := fun st => earlier ha hb (by omega) (by omega) h1 134 st
  have q2 := fun st => earlier hb ha (by omega) (by omega) h2 134 st
  have q3 := fun st => earlier ha ha (by omega) (by omega) h5 134 st
  have q4 := fun st => earlier hb hb (by omega) (by omega) h7 134 st
  have s1 := fun st => CB.same_bl u 199 st
  have s2 := fun st => CB.same_bl v 199 st
  have s3 := fun st => CB.same_bl false 199 st
  have c1 := fun st => lt_lkd ha hb (by omega) (by omega) l1 st
  have c2 := fun st => lt_lkd hb ha (by omega) (by omega) l2 st
  have ka := esc_p (pure_up (lkd a))
  have kb := esc_p (pure_up (lkd b))
  have wa := varV_p (pure_up (lkd a))
  have wb := varV_p (pure_up (lkd b))
  have ne : u = false → v = false → ∀ st, cmpV .ne (.tup (rl a)) (.tup (rl b)) st = some false := fun e1 e2 st => by
    rw [h3 e1 e2]
    exact ne_self hb (by omega) st
  have ua : ∀ st, varV .use (some (some (up (lkd a)))) st = .ok (up (lkd a)) st := fun _ => rfl
  have ub : ∀ st, varV .use (some (some (up (lkd b)))) st = .ok (up (lkd b)) st := fun _ => rfl
  generalize up (lkd a) = A at *
  generalize up (lkd b) = B at *
  generalize rl a = a0 at *
  generalize rl b = b0 at *
  cases u with
  | true => simp [evSs, evS, ev, evA, evCs, ME.held, k1, k2, q1, q2, q3, q4, s1, s2, s3, c1, c2, ka, kb, wa, wb, ua, ub]
  | false =>
    cases v with
    | true => simp [evSs, evS, ev, evA, evCs, ME.held, k1, k2, q1, q2, q3, q4, s1, s2, s3, c1, c2, ka, kb, wa, wb, ua, ub]
    | false =>
      have ne := ne rfl rfl
      simp [evSs, evS, ev, evA, evCs, ME.held, k1, k2, q1, q2, q3, q4, s1, s2, s3, c1, c2, ka, kb, wa, wb, ua, ub, ne]
theorem low_strs (n : Nat) (l : List Str) : Cell.low n (.lst (l.map .str)) = true := PV.pureL_low n _ (pureL_of fun v hv => by
  obtain ⟨x, _, rfl⟩ := List.mem_map.mp hv
  rfl)
/-- a room behind what is there -/
theorem room_W (hlow : Low (R.length + 2) R) (xs : List Str) (s : Str) (a b : Int) : Wl (R ++ [.lst (xs.map .str), .lst (FR R.length s a b)]) xs (R.length + 1) R.length := by
  refine ⟨?_, by omega, by simp, fun c hc => ?_⟩
  · rw [List.getElem?_append_right (Nat.le_refl _)]; simp
  · rw [show (R ++ [Cell.lst (xs.map .str), .lst (FR R.length s a b)]).length = R.length + 2 by simp]
    simp only [List.mem_append, List.mem_cons, List.not_mem_nil, or_false] at hc
    rcases hc with hc | rfl | rfl
    · exact hlow.mono (by omega) c hc
    · exact low_strs _ _
    · exact low_fr (by omega)
theorem room_set (xs : List Str) (s : Str) (a b a' b' : Int) : (R ++ [Cell.lst (xs.map .str), .lst (FR R.length s a b)]).set (R.length + 1) (.lst (FR R.length s a' b')) = R ++ [.lst (xs.map .str), .lst (FR R.length s a' b')] := by
  rw [List.set_append_right _ _ (by omega), show R.length + 1 - R.length = 1 by omega]; rfl
/-- a room and rows in it -/
theorem rows_in {k : Nat} {l : Int} (hx : NM xs) (hs : SP s) (hlow : Low (R.length + 2) R) (h : TR ns (R ++ [.lst (xs.map .str), .lst (FR R.length s 6 7)]) st) :
    ∃ (t : RL) (st' : Store) (a' b' : Int), evCall TURNS D (k + 9) 170 [.loc 1, .loc (R.length + 3), .int 3, .int l] st = .ok (.tup (rl t)) st' ∧ vl t ∧ dp t ≤ 17 ∧ TR ns (R ++ [.lst (xs.map .str), .lst (FR R.length s a' b')]) st' := by
  obtain ⟨t, st', a', b', t1, t2, t3, t4⟩ := rows3 hx ns _ st (R.length + 1) R.length s 6 7 k l (room_W hlow xs s 6 7) hs (by
    unfold CS
    rw [room_set]; exact h)
  refine ⟨t, st', a', b', t1, t2, t3, ?_⟩
  unfold CS at t4
  rwa [room_set] at t4
theorem main (ns : List Int) (hl : ns.length ≤ 63) : ∃ st', evCall TURNS D (DEEP + 1) 0 [.rol (ns.map .int)] [] = .ok (.bl true) st' := by
  obtain ⟨z, z0, t1⟩ := tape_ok (k := 199) (ns := ns)
  have t : T ns [.lst (ns.map .int), .lst (tp 0 0 0 z)] := ⟨0, 0, z, by omega, by omega, z0, rfl⟩
  obtain ⟨xs, s, st1, r1, hx, hs, r2⟩ := room_ok (k := 197) (R := []) (TR.of t)
  have len1 : st1.length = 2 := r2.len
  have lowN : Low (([] : Store).length + 2) [] := fun c hc => nomatch hc
  have h1 : TR ns ([] ++ [.lst (xs.map .str), .lst (FR 0 s 6 7)]) (st1 ++ [.lst (xs.map .str)] ++ [.lst (FR 0 s 6 7)]) := by
    have := (r2.push [.lst (xs.map .str)]).push [.lst (FR 0 s 6 7)]
    exact this
  obtain ⟨l, st2, d1, d2, d3, d4⟩ := drawR (k := 199) (m := 4) h1 (by decide)
  obtain ⟨A, st3, a1, b1, p1, p2, p3, p4⟩ := rows_in (k := 191) (R := []) (l := l) hx hs lowN d2
  have W := room_W (R := []) lowN xs s a1 b1
  have hf : (([] : Store) ++ [Cell.lst (xs.map .str), .lst (FR 0 s a1 b1)])[1]? = some (.lst (FR 0 s a1 b1)) := rfl
  obtain ⟨B, st4, q1, q2, q3, q4⟩ := chg_rows hx 0 p2 (by omega) ns _ st3 1 s a1 b1 (195 - dp A) l W hf p4
  rw [show 195 - dp A + (dp A + 5) = 200 by omega] at q1
  obtain ⟨ch, st5, e1, e2, e3, e4⟩ := drawR (k := 199) (m := 6) q4 (by decide)
  have start : ∀ {s : Store}, evSs (evCall TURNS D 200) TURNS d0.body [some (.rol (ns.map .int)), none, none, none, none, none, none, none, none] [] = .rt (.bl true) s → ∃ st', evCall TURNS D (DEEP + 1) 0 [.rol (ns.map .int)] [] = .ok (.bl true) st' := fun {s} hh => by
    obtain ⟨st', l1⟩ := leave0 true s
    exact ⟨st', (call_rt (k := 200) (args := [.rol (ns.map .int)]) (st := []) (s := s) (v := .bl true) (show D 0 = some d0 from rfl) rfl rfl rfl hh).trans l1⟩
  have len5 : st5.length = 4 := e2.len
  have mid : ∃ (B' : RL) (st6 : Store), vl B' ∧ dp B' ≤ 23 ∧ (ch = 1 → B' = B ∧ TR ns ([] ++ [.lst (xs.map .str), .lst (FR 0 s a1 b1)]) st6) ∧ evS (evCall TURNS D 200) TURNS (.ite (.cmp .eq (.var 6) (.con (.int 0))) (.cons (.set 5 (.fn 170 (.cons (.var 1) (.cons (.fn 167 (.cons (.var 1) (.cons (.con (.int 6)) (.cons (.con (.int 3)) .nil)))) (.cons (.con (.int 3)) (.cons (.var 3) .nil))))) false)
  .nil) .nil)
      [some (.rol (ns.map .int)), some (.loc 1), some (.loc 3), some (.int l), some (.tup (rl A)), some (.tup (rl B)), some (.int ch), none, none] st5 = .nx [some (.rol (ns.map .int)), some (.loc 1), some (.loc 3), some (.int l), some (.tup (rl A)), some (.tup (rl B')), some (.int ch), none, none] st6 := by
    by_cases c0 : ch = 0
    · obtain ⟨xs2, s2, st6, f1, hx2, hs2, f2⟩ := room_ok (k := 197) e2
      have len6 : st6.length = 4 := f2.len
      have low2 := W.low
      have h2 := (f2.push [.lst (xs2.map .str)]).push [.lst (FR 2 s2 6 7)]
      rw [List.append_assoc _ [Cell.lst (xs2.map .str)]] at h2
      obtain ⟨B', st7, a2, b2, g1, g2, g3, g4⟩ := rows_in (k := 191) (l := l) hx2 hs2 low2 h2
      have f1' : evCall TURNS D 200 167 [.loc 1, .int 6, .int 3] st5 = .ok (.fl (FR 2 s2 6 7)) (st6 ++ [.lst (xs2.map .str)]) := f1
      have g1' : evCall TURNS D 200 170 [.loc 1, .loc 5, .int 3, .int l] (st6 ++ [.lst (xs2.map .str)] ++ [.lst (FR 2 s2 6 7)]) = .ok (.tup (rl B')) st7 := g1
      refine ⟨B', st7, g2, by omega, fun e => by omega, ?_⟩
      generalize rl B' = BB at *
      simp at g1'
      simp [evS, evSs, ev, evA, evCs, c0, f1', len6, g1']
    · exact ⟨B, st5, q2, by omega, fun _ => ⟨rfl, e2⟩, by simp [evS, evSs, ev, evA, evCs, c0]⟩
  obtain ⟨B', st6, m1, m2, m3, m4⟩ := mid
  have mid2 : ∃ (B2 : RL) (st7 : Store), vl B2 ∧ dp B2 ≤ 32 ∧ evS (evCall TURNS D 200) TURNS (.ite (.cmp .eq (.var 6) (.con (.int 1))) (.cons (.set 5 (.fn 176 (.cons (.var 1) (.cons (.var 5) (.cons (.var 2) (.cons (.var 3) .nil))))) false)
  .nil) .nil)
      [some (.rol (ns.map .int)), some (.loc 1), some (.loc 3), some (.int l), some (.tup (rl A)), some (.tup (rl B')), some (.int ch), none, none] st6 = .nx [some (.rol (ns.map .int)), some (.loc 1), some (.loc 3), some (.int l), some (.tup (rl A)), some (.tup (rl B2)), some (.int ch), none, none] st7 := by
    by_cases c1 : ch = 1
    · obtain ⟨rfl, e2'⟩ := m3 c1
      obtain ⟨B2, st7, g1, g2, g3, g4⟩ := chg_rows hx 0 m1 (by omega) ns _ st6 1 s a1 b1 (195 - dp B') l W hf e2'
      rw [show 195 - dp B' + (dp B' + 5) = 200 by omega] at g1
      have g1' : evCall TURNS D 200 176 [.loc 1, .tup (rl B'), .loc 3, .int l] st6 = .ok (.tup (rl B2)) st7 := g1
      refine ⟨B2, st7, g2, by omega, ?_⟩
      generalize rl B2 = BB at *
      generalize rl B' = BA at *
      simp [evS, evSs, ev, evA, evCs, c1, g1']
    · exact ⟨B', st6, m1, by omega, by simp [evS, evSs, ev, evA, evCs, c1]⟩
  obtain ⟨B2, st7, w1, w2, w3⟩ := mid2
  have r1' : evCall TURNS D 200 167 [.loc 1, .int 6, .int 3] [.lst (ns.map .int), .lst (tp 0 0 0 z)] = .ok (.fl (FR 0 s 6 7)) (st1 ++ [.lst (xs.map .str)]) := r1
  have p1' : evCall TURNS D 200 170 [.loc 1, .loc 3, .int 3, .int l] st2 = .ok (.tup (rl A)) st3 := p1
  have q1' : evCall TURNS D 200 176 [.loc 1, .tup (rl A), .loc 3, .int l] st3 = .ok (.tup (rl B)) st4 := q1
  have d1' : evCall TURNS D 200 5 [.loc 1, .int 4] (st1 ++ [.lst (xs.map .str)] ++ [.lst (FR 0 s 6 7)]) = .ok (.int l) st2 := d1
  refine start (s := st7) ?_
  unfold d0
  refine (evSs_step (env' := [some (.rol (ns.map .int)), some (.loc 1), none, none, none, none, none, none, none]) (st' := [.lst (ns.map .int), .lst (tp 0 0 0 z)]) ?_).trans ?_
  · simp [evS, ev, evA, t1]
  refine (evSs_step (env' := [some (.rol (ns.map .int)), some (.loc 1), some (.loc 3), none, none, none, none, none, none]) (st' := st1 ++ [.lst (xs.map .str)] ++ [.lst (FR 0 s 6 7)]) ?_).trans ?_
  · simp [evS, ev, evA, r1', len1]
  refine (evSs_step (env' := [some (.rol (ns.map .int)), some (.loc 1), some (.loc 3), some (.int l), none, none, none, none, none]) (st' := st2) ?_).trans ?_
  · generalize st1 ++ [Cell.lst (xs.map .str)] ++ [Cell.lst (FR 0 s 6 7)] = S1 at *
    simp [evS, ev, evA, d1']
  refine (evSs_step (env' := [some (.rol (ns.map .int)), some (.loc 1), some (.loc 3), some (.int l), some (.tup (rl A)), none, none, none, none]) (st' := st3) ?_).trans ?_
  · generalize rl A = AA at *
    simp [evS, ev, evA, p1']
  refine (evSs_step (env' := [some (.rol (ns.map .int)), some (.loc 1), some (.loc 3), some (.int l), some (.tup (rl A)), some (.tup (rl B)), none, none, none]) (st' := st4) ?_).trans ?_
  · generalize rl A = AA at *
    generalize rl B = BB at *
    simp [evS, ev, evA, q1']
  refine (evSs_step (env' := [some (.rol (ns.map .int)), some (.loc 1), some (.loc 3), some (.int l), some (.tup (rl A)), some (.tup (rl B)), some (.int ch), none, none]) (st' := st5) ?_).trans ?_
  · simp [evS, ev, evA, e1]
  exact (evSs_step m4).trans ((evSs_step w3).trans (rest_ok p2 w1 (by omega) w2 st7))
end K69


open PySem PySem.W PyProof.Rows
set_option maxHeartbeats 0 in
theorem PySem.Challenge.cw_flowform_k69_order_of_blocks_holds : PySem.Challenge.rw_flowform_k69_order_of_blocks.Holds := by
  w_on; o_law; k_head; (case hw => w_witness2)
  k_fill
  refine U.walk_ofG (l := PySem.Challenge.rw_flowform_k69_order_of_blocks) (n := 63) rfl (by decide) rfl (fun w h Y => PySem.W.kIn_of Y) fun w mg fa base H s a ns KX G nl hmg hl Ev ho hS => ?_
  refine' K69.all_mk KX G hmg nl Ev (K69.main ns hl) ho hS ?a11 ?l11 ?c11 ?k11 ?a12 ?l12 ?c12 ?k12 ?a13 ?l13 ?c13 ?k13 ?a14 ?l14 ?c14 ?k14 ?a15 ?l15 ?c15 ?k15 ?a16 ?l16 ?c16 ?k16 ?a17 ?l17 ?c17 ?k17 ?a158 ?l158 ?c158 ?k158 ?a163 ?l163 ?c163 ?k163 ?a164 ?l164 ?c164 ?k164 ?a165 ?l165 ?c165 ?k165 ?a166 ?l166 ?c166 ?k166 ?a4 ?l4 ?c4 ?k4 ?a5 ?l5 ?c5 ?k5 ?a6 ?l6 ?c6 ?k6 ?a20 ?l20 ?c20 ?k20 ?a167 ?l167 ?c167 ?k167 ?a168 ?l168 ?c168 ?k168 ?a169 ?l169 ?c169 ?k169 ?a170 ?l170 ?c170 ?k170 ?a159 ?l159 ?c159 ?k159 ?a171 ?l171 ?c171 ?k171 ?a172 ?l172 ?c172 ?k172 ?a173 ?l173 ?c173 ?k173 ?a147 ?l147 ?c147 ?k147 ?a162 ?l162 ?c162 ?k162 ?a174 ?l174 ?c174 ?k174 ?a175 ?l175 ?c175 ?k175 ?a176 ?l176 ?c176 ?k176 ?a0 ?l0 ?c0 ?k0 ?q0 ?r0 ?z0 ?v0 ?q1 ?r1 ?z1 ?v1 ?q2 ?r2 ?z2 ?v2 ?dg0 ?dl0 ?di0 ?dj0 ?dm0 ?dg1 ?dl1 ?di1 ?dj1 ?dm1 ?b0 ?b1 ?b2 ?b3 ?b4 ?b5 ?b6 ?b7 ?b8 ?b9 ?b10 ?b11 ?b12 ?b13
  (case a11 => k_is); (case l11 => k_is); (case c11 => k_is); (case k11 => k_is); (case a12 => k_is); (case l12 => k_is); (case c12 => k_is); (case k12 => k_is); (case a13 => k_is); (case l13 => k_is); (case c13 => k_is); (case k13 => k_is); (case a14 => k_is); (case l14 => k_is); (case c14 => k_is); (case k14 => k_is); (case a15 => k_is); (case l15 => k_is); (case c15 => k_is); (case k15 => k_is); (case a16 => k_is); (case l16 => k_is); (case c16 => k_is); (case k16 => k_is); (case a17 => k_is); (case l17 => k_is); (case c17 => k_is); (case k17 => k_is); (case a158 => k_is); (case l158 => k_is); (case c158 => k_is); (case k158 => k_is); (case a163 => k_is); (case l163 => k_is); (case c163 => k_is); (case k163 => k_is); (case a164 => k_is); (case l164 => k_is); (case c164 => k_is); (case k164 => k_is); (case a165 => k_is); (case l165 => k_is); (case c165 => k_is); (case k165 => k_is); (case a166 => k_is); (case l166 => k_is); (case c166 => k_is); (case k166 => k_is); (case a4 => k_is); (case l4 => k_is); (case c4 => k_is); (case k4 => k_is); (case a5 => k_is); (case l5 => k_is); (case c5 => k_is); (case k5 => k_is); (case a6 => k_is); (case l6 => k_is); (case c6 => k_is); (case k6 => k_is); (case a20 => k_is); (case l20 => k_is); (case c20 => k_is); (case k20 => k_is); (case a167 => k_is); (case l167 => k_is); (case c167 => k_is); (case k167 => k_is); (case a168 => k_is); (case l168 => k_is); (case c168 => k_is); (case k168 => k_is); (case a169 => k_is); (case l169 => k_is); (case c169 => k_is); (case k169 => k_is); (case a170 => k_is); (case l170 => k_is); (case c170 => k_is); (case k170 => k_is); (case a159 => k_is); (case l159 => k_is); (case c159 => k_is); (case k159 => k_is); (case a171 => k_is); (case l171 => k_is); (case c171 => k_is); (case k171 => k_is); (case a172 => k_is); (case l172 => k_is); (case c172 => k_is); (case k172 => k_is); (case a173 => k_is); (case l173 => k_is); (case c173 => k_is); (case k173 => k_is); (case a147 => k_is); (case l147 => k_is); (case c147 => k_is); (case k147 => k_is); (case a162 => k_is); (case l162 => k_is); (case c162 => k_is); (case k162 => k_is); (case a174 => k_is); (case l174 => k_is); (case c174 => k_is); (case k174 => k_is); (case a175 => k_is); (case l175 => k_is); (case c175 => k_is); (case k175 => k_is); (case a176 => k_is); (case l176 => k_is); (case c176 => k_is); (case k176 => k_is); (case a0 => k_is); (case l0 => k_is); (case c0 => k_is); (case k0 => k_is); (case q0 => k_is); (case r0 => k_is); (case q1 => k_is); (case r1 => k_is); (case q2 => k_is); (case r2 => k_is); (case dg0 => k_is); (case dl0 => k_is); (case dg1 => k_is); (case dl1 => k_is); (case b0 => k_is); (case b1 => k_is); (case b2 => k_is); (case b3 => k_is); (case b4 => k_is); (case b5 => k_is); (case b6 => k_is); (case b7 => k_is); (case b8 => k_is); (case b9 => k_is); (case b10 => k_is); (case b11 => k_is); (case b12 => k_is); (case b13 => k_is)
  (case z0 => decide); (case v0 => repeat (first | exact Paired.nil | refine Paired.cons ⟨_, rfl⟩ ?_)); (case z1 => decide); (case v1 => repeat (first | exact Paired.nil | refine Paired.cons ⟨_, rfl⟩ ?_)); (case z2 => decide); (case v2 => repeat (first | exact Paired.nil | refine Paired.cons ⟨_, rfl⟩ ?_)); (case di0 => exact ⟨⟨_, _, rfl, rfl⟩, ⟨⟨_, _, rfl, rfl⟩, ⟨⟨_, _, rfl, rfl⟩, ⟨⟨_, _, rfl, rfl⟩, ⟨⟨_, _, rfl, rfl⟩, trivial⟩⟩⟩⟩⟩); (case dj0 => decide); (case dm0 => exact ⟨⟨_, _, rfl, rfl, ⟨_, rfl⟩⟩, ⟨⟨_, _, rfl, rfl, ⟨_, rfl⟩⟩, ⟨⟨_, _, rfl, rfl, ⟨_, rfl⟩⟩, ⟨⟨_, _, rfl, rfl, ⟨_, rfl⟩⟩, ⟨⟨_, _, rfl, rfl, ⟨_, rfl⟩⟩, trivial⟩⟩⟩⟩⟩); (case di1 => exact ⟨⟨_, _, rfl, rfl⟩, ⟨⟨_, _, rfl, rfl⟩, trivial⟩⟩); (case dj1 => decide); (case dm1 => exact ⟨⟨_, _, rfl, rfl, ⟨_, rfl⟩⟩, ⟨⟨_, _, rfl, rfl, ⟨_, rfl⟩⟩, trivial⟩⟩)

