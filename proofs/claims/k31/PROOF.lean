import PyProof.Rows.All
import HandS.ForMost
import HandS.TupLe
import PyProof.AutoSeq1
import HandS.TupAny
import HandS.Lambda
import HandS.TupMul
import HandS.DeepEq
import HandS.RaiseMore
import HandS.Deep
import HandS.IsInst
import HandS.More
import HandS.Dict
import HandS.SortKw
import KE.DataMinMax
import HandS.Star
import HandS.FStr
import HandS.Flow
import HandS.Zip
import KE.GoesMore
import KE.GoesEnum
import HandS.Iter
import HandS.Rev
import HandS.Strs
import HandS.ForExc
import HandS.WordsExc
import HandS.ExcOwn
import HandS.ExcInit
import HandS.SetKeys
import KE.KDictDisplayH
import HandS.WordsDict
import HandS.TupLen
import HandS.ExcIs
import HandS.TryMany
import HandS.Nested
import KE.KExcSuper
import HandS.ExcField
import KE.KExcIs
import KE.KExcLine
import PySem.Challenge.RW_flowform_k31_classes_of_nodes
import HandS.Codes
import PyProof.ReprLen
set_option Elab.async false
set_option linter.all false
set_option maxRecDepth 100000
namespace U
open PySem PySem.Spec PyProof.Rows
open PySem.SeqAt
open MeetsSeq MeetsSeq2 MeetsSeq3 SeqRoads2
/-! t < u of tuples: decided at the first pair that is not equal; what stands behind it need not be comparable -/
/-- x < y gives k and leaves the state -/
def LtAt (A : Around) (s : Shared) (x y : Value) (k : Bool) : Prop :=
  ∀ (P : Program) (W : World) (Er Qq : Value → Shared → Prop), Qq (.bool k) s → wpAny (model P W) A (richCompare .Lt x y) Qq Er s
def Lx (A : Around) (s : Shared) (z : Bool) : List (Value × Value) → Bool → Prop
  | [], k => k = z
  | p :: r, k => (EqAt A s p.1 p.2 true ∧ Lx A s z r k) ∨ (EqAt A s p.1 p.2 false ∧ LtAt A s p.1 p.2 k)
theorem lt_meets (p q : Addr) (us vs : Array Value) (m n : Nat) (d1 d2 : Option Addr) (s1 s2 : Array (Option Value)) (k : Bool) :
    Meets (Builtin.«tuple.__lt__» ⟨[.ref p, .ref q], []⟩) (fun A R s => s.heap.get? p = some ⟨.type "tuple", d1, .seq us m, s1⟩ ∧ s.heap.get? q = some ⟨.type "tuple", d2, .seq vs n, s2⟩ ∧
      Lx A.in1 s (decide (us.size < vs.size)) (us.toList.zip vs.toList) k ∧ R (.ok (.ret (.bool k))) s) := by
  refine .of_wp fun P W A R s h => ?_
  obtain ⟨H, g, d, tk, os⟩ := s
  obtain ⟨hp, hq, hx, hR⟩ := h
  have f2 := AutoSeq1.sub_tuple_tuple
  wp_walk using AutoSeq1.wpAny_loadPart' hp, AutoSeq1.wpAny_loadPart' hq, wpAny_forIn_list _ (fun left b t => b.1 = none ∧ t = ⟨H, g, d, tk, os⟩ ∧ Lx A.in1 ⟨H, g, d, tk, os⟩ (decide (us.size < vs.size)) left k) _
  case turn =>
    rintro ⟨u, v⟩ left b t ⟨hb, rfl, hL⟩
    rcases hL with ⟨e1, e2⟩ | ⟨e1, e2⟩
    · refine wpAny_bind (e1 P W _ _ ?_)
      wp_walk
      exact ⟨rfl, rfl, e2⟩
    · refine wpAny_bind (e1 P W _ _ ?_)
      have e3 := e2 P W
      wp_walk using e3
      exact ⟨_, rfl, hR⟩
  case fin =>
    rintro ⟨b1, b2⟩ t ⟨hb, rfl, hL⟩
    simp only at hb
    subst hb
    have hL : k = decide (us.size < vs.size) := hL
    subst hL
    wp_walk
    exact ⟨_, rfl, by simpa [Builtin.Tuple.tupleCompareSizes] using hR⟩
  case h => exact ⟨rfl, rfl, hx⟩
theorem LtAt.tup {A : Around} {s : Shared} {p q : Addr} {us vs : Array Value} {k : Bool} (hp : s.heap.IsTuple p us) (hq : s.heap.IsTuple q vs) (hu : A.units < cLine)
    (h : Lx A.in1 s (decide (us.size < vs.size)) (us.toList.zip vs.toList) k) : LtAt A s (.ref p) (.ref q) k := by
  intro P W Er Qq hQ
  obtain ⟨⟨c1, d1, x1, s1⟩, h1, h2, m, h3⟩ := id hp
  obtain ⟨⟨c2, d2, x2, s2⟩, h4, h5, n, h6⟩ := id hq
  cases h2; cases h3; cases h5; cases h6
  exact richCompare_meets_room (op := .Lt) ⟨_, h1, rfl⟩ ⟨_, h4, rfl⟩ F.slot_tuple_lt F.entry_tuple_lt (F.args_tuple_lt_2 _ _) (lt_meets p q us vs m n d1 d2 s1 s2 k) ⟨h1, h4, h, ⟨(fun z => nomatch z), hQ⟩⟩ hu
mutual
/-- x < y of data: numbers, texts, tuples -/
def dLt : PyData → PyData → Option Bool
  | .int i, .int j => some (decide (i < j))
  | .str x, .str y => some (decide (x.cps.toList < y.cps.toList))
  | .tuple xs, .tuple ys => dLts xs ys
  | _, _ => none
def dLts : List PyData → List PyData → Option Bool
  | [], ys => some (!ys.isEmpty)
  | _ :: _, [] => some false
  | x :: xs, y :: ys => if PyData.eqv x y = true then dLts xs ys else dLt x y
end
mutual
theorem lt_reads : ∀ (a b : PyData) (A : Around) (s : Shared) (x y : Value) (as bs : List Addr) (k : Bool), Reads s.heap x a as → Reads s.heap y b bs → a.canLay0 = true → b.canLay0 = true → A.units + min a.depth b.depth < cLine → dLt a b = some k → LtAt A s x y k
  | .int i, b, A, s, x, y, as, bs, k, ra, rb, ca, cb, hu, h => by
    unfold dLt at h
    cases b <;> first | (cases h; done) | skip
    cases h
    cases ra
    cases rb
    exact fun P W Er Qq hQ => PyProof.Rows.lt_int hQ
  | .str i, b, A, s, x, y, as, bs, k, ra, rb, ca, cb, hu, h => by
    unfold dLt at h
    cases b <;> first | (cases h; done) | skip
    cases h
    cases ra
    cases rb
    exact fun P W Er Qq hQ => PyProof.Rows.lt_str hQ
  | .tuple xs, b, A, s, x, y, as, bs, k, ra, rb, ca, cb, hu, h => by
    unfold dLt at h
    cases b <;> first | (cases h; done) | skip
    rename_i ys
    cases ra with
    | @tuple l o us n _ as1 h1 h2 h3 h4 =>
      cases rb with
      | @tuple l' o' vs n' _ bs1 k1 k2 k3 k4 =>
        have hd : A.units + (1 + min (PyData.depthAll xs) (PyData.depthAll ys)) < cLine := by
          have e1 : (PyData.tuple xs).depth = PyData.depthAll xs + 1 := rfl
          have e2 : (PyData.tuple ys).depth = PyData.depthAll ys + 1 := rfl
          rw [e1, e2] at hu
          omega
        refine LtAt.tup ⟨_, h1, h2, _, h3⟩ ⟨_, k1, k2, _, k3⟩ (by omega) ?_
        have n1 : us.size = us.toList.length := by simp
        have n2 : vs.size = vs.toList.length := by simp
        rw [n1, n2]
        exact lt_readsAll xs ys A.in1 s us.toList vs.toList _ _ k h4 k4 ca cb (by show A.units + 1 + _ < _; omega) h
  | .none, b, _, _, _, _, _, _, _, _, _, _, _, _, h => by unfold dLt at h; cases b <;> cases h
  | .bool _, b, _, _, _, _, _, _, _, _, _, _, _, _, h => by unfold dLt at h; cases b <;> cases h
  | .list _, b, _, _, _, _, _, _, _, _, _, _, _, _, h => by unfold dLt at h; cases b <;> cases h
  | .dict _, b, _, _, _, _, _, _, _, _, _, _, _, _, h => by unfold dLt at h; cases b <;> cases h
theorem lt_readsAll : ∀ (xs ys : List PyData) (A : Around) (s : Shared) (us vs : List Value) (as bs : List Addr) (k : Bool), ReadsAll s.heap us xs as → ReadsAll s.heap vs ys bs → PyData.canLayAll0 xs = true → PyData.canLayAll0 ys = true →
    A.units + min (PyData.depthAll xs) (PyData.depthAll ys) < cLine → dLts xs ys = some k → Lx A s (decide (us.length < vs.length)) (us.zip vs) k
  | [], ys, A, s, us, vs, as, bs, k, ra, rb, ca, cb, hu, h => by
    cases ra
    cases rb with
    | nil => cases h; rfl
    | cons r1 r2 => cases h; rfl
  | x :: xs, [], A, s, us, vs, as, bs, k, ra, rb, ca, cb, hu, h => by
    cases rb
    cases ra
    cases h
    show _ = decide _
    simp
  | x :: xs, y :: ys, A, s, us, vs, as, bs, k, ra, rb, ca, cb, hu, h => by
    cases ra with
    | @cons u us' _ _ a1 a2 r1 r2 =>
      cases rb with
      | @cons v vs' _ _ b1 b2 q1 q2 =>
        have ca : (PyData.canLay0 x && PyData.canLayAll0 xs) = true := ca
        have cb : (PyData.canLay0 y && PyData.canLayAll0 ys) = true := cb
        rw [Bool.and_eq_true] at ca cb
        have e1 : PyData.depthAll (x :: xs) = max x.depth (PyData.depthAll xs) := rfl
        have e2 : PyData.depthAll (y :: ys) = max y.depth (PyData.depthAll ys) := rfl
        rw [e1, e2] at hu
        have E := eqAt_reads x y A s u v _ _ r1 q1 ca.1 cb.1 (by omega)
        unfold dLts at h
        have dl : decide ((u :: us').length < (v :: vs').length) = decide (us'.length < vs'.length) := by simp
        rw [dl]
        split at h
        · rename_i he
          rw [he] at E
          exact .inl ⟨E, lt_readsAll xs ys A s us' vs' _ _ k r2 q2 ca.2 cb.2 (by omega) h⟩
        · rename_i he
          rw [eq_false_of_ne_true he] at E
          exact .inr ⟨E, lt_reads x y A s u v _ _ k r1 q1 ca.1 cb.1 (by omega) h⟩
end
end U

set_option maxHeartbeats 4000000
namespace PySem
open PyProof.Rows
theorem list_extend_list_tupleG (l : Addr) (items : Array Value) (n : Nat) (b : Addr) (o : Obj) (items2 : Array Value) (n2 : Nat) (hs0 : ¬(!items.isEmpty && Builtin.List.listTooLong (items.size + items2.size)) = true) (hs1 : items.size ≤ sizeLine) (hs2 : items.size + items2.size ≤ sizeLine + 1) (hc : o.cls = .type "tuple") (hd : o.data = .seq items2 n2) :
    Meets (Builtin.«list.extend» ⟨[.ref l, .ref b], []⟩) (fun _ R s => s.heap.get? l = some { cls := .type "list", dict := none, data := .seq items n, slots := #[] } ∧ s.heap.get? b = some o ∧ R (.ok (.ret Value.none)) { s with heap := s.heap.update l (Obj.mapSeq fun x => x ++ items2), toks := s.toks }) := by
  obtain ⟨cls, dict, data, slots⟩ := o
  cases hc
  cases hd
  exact .of_wp fun prog w A R s h => by
    obtain ⟨hp, g, d, tk, os⟩ := s; obtain ⟨hl, hb, h⟩ := h
    have f1 := AutoSeq1.idx_int; have f2 := AutoSeq1.sub_tuple_tuple; have f3 := AutoSeq1.sub_list_list; have f4 := AutoSeq1.sub_tuple_list; have f5 := AutoSeq1.sub_list_tuple
    have hz' : (items ++ items2).size ≤ sizeLine + 1 := by rw [Array.size_append]; exact hs2
    wp_walk using (wpAny_updateSeq hl rfl (hz := hs1) (_hz' := hz')), wpAny_loadPart' hl, wpAny_loadPart' hb; exact ⟨_, rfl, h⟩
end PySem
namespace L2
open PySem PySem.Spec PyProof.Rows
variable {X : Cx}
def rExtend2 (K : PySem.W.Frag) : V → List V → Hp → VK → Prop := fun x vs H Q => ∃ l b xs zs, x = .ref l ∧ vs = [.ref b] ∧ H l = some (.lst xs) ∧ (H b = some (.lst zs) ∨ SqT K H b zs) ∧ xs.length + zs.length ≤ sizeLine ∧ Q .non (upd H l (.lst (xs ++ zs)))
theorem mt_extend2 : MtM X "list.extend" (rExtend2 X.K) := by
  intro pins s σ H x vs v us Q I rx rv h
  obtain ⟨l, b, xs, zs, rfl, rfl, hH, hB, hz, q⟩ := h
  rcases hB with hB | hB
  · exact mt_extend pins s σ H (.ref l) [.ref b] v us Q I rx rv ⟨l, b, xs, zs, rfl, rfl, hH, hB, hz, q⟩
  cases rx
  obtain ⟨u, rfl, ru⟩ := rv.one
  cases ru
  obtain ⟨z, its, n, r, hl, e⟩ := I.lstM hH
  obtain ⟨its2, r2, pl, hz2⟩ := I.tuple hB
  have hl2 := r2.length
  obtain ⟨o, ho, hc, n2, hd⟩ := pl
  have hsz : its.toArray.size + its2.toArray.size ≤ sizeLine := by rw [List.size_toArray, List.size_toArray]; omega
  have hlong : ¬ (!its.toArray.isEmpty && Builtin.List.listTooLong (its.toArray.size + its2.toArray.size)) = true := by
    rw [notLongL hsz, Bool.and_false]
    exact Bool.false_ne_true
  refine call_meets F.slot_list_extend ⟨_, e, rfl⟩ F.entry_list_extend (F.args_list_extend_2 _ _)
    (list_extend_list_tupleG l its.toArray n b o its2.toArray n2 hlong (by rw [List.size_toArray]; omega) (by omega) hc hd) ⟨e, ho, ?_⟩
  refine ⟨.non, _, I.lset (its' := its ++ its2) hH e (by simp) (r.append r2) ?_, rfl, q⟩
  rw [List.length_append]
  omega
end L2

set_option maxHeartbeats 4000000
/-! U1: a small language of programs over plain data, and what its programs yield. -/
namespace U
open PySem

/-- plain data; loc: a list that is shared, by its place in the store; fl: a list that nothing else holds; rol: a list that is only read -/
inductive PV where
  | non | bl (b : Bool) | int (i : Int) | str (s : Str) | tup (xs : List PV) | loc (n : Nat) | fl (xs : List PV) | rol (xs : List PV)
  /-- a lambda at f, its code object at c, of the name q -/
  | fnv (f c : Addr) (q : Str)
  deriving Inhabited
/-- what stands at a place of the store: a list -/
inductive Cell where
  | lst (xs : List PV) | ins (c : Str) (fs : List (Str × PV))
  /-- the table of code objects at P: each bears the name q -/
  | tab (P : Addr) (q : Str)
  /-- a dict; t: its keys are tuples of ints and texts, else each key is the one thing in its row -/
  | dct (t : Bool) (kvs : List (List L2.Key × PV))
  /-- a dict that is walked over: nothing is told of it meanwhile -/
  | hid
  deriving Inhabited
abbrev Store := List Cell
abbrev En := List (Option PV)

inductive Res (α : Type) where
  | ok (a : α) (st : Store)
  | xc (c : Str) (fs : List (Str × PV)) (st : Store)
  | bad
def Res.bind {α β : Type} : Res α → (α → Store → Res β) → Res β
  | .ok a st, f => f a st
  | .xc c fs st, _ => .xc c fs st
  | .bad, _ => .bad
/-- .. where nothing may be raised -/
def Res.bindN {α β : Type} : Res α → (α → Store → Res β) → Res β
  | .ok a st, f => f a st
  | _, _ => .bad
def opt {α : Type} (o : Option α) (st : Store) : Res α := match o with
  | some a => .ok a st
  | none => .bad

inductive BOp where | add | sub | mul | fdiv | mod | pow
inductive COp where | eq | ne | lt | le | gt | ge | isN | notN | inn | nin
inductive BF where | len | int | abs | max | min | str | repr | reprD | list | tuple | sum | all | any
inductive MF where | append | split | partition | join | pop
inductive Ty where | int | bool | str | tuple | list
inductive MG where
  | nm (i : Nat)
  | tp (is : List Nat)

mutual
inductive ME where
  | var (i : Nat)
  | con (v : PV)
  | glb (x : Str) (v : PV)
  | bin (o : BOp) (a b : ME)
  | neg (a : ME)
  | cmp (o : COp) (a b : ME)
  | cmp2 (o o' : COp) (a b c : ME)
  | not (a : ME)
  | and (a b : ME)
  | or (a b : ME)
  | ite (t a b : ME)
  | fn (f : Nat) (as : MEs)
  | bi (f : BF) (as : MEs)
  | mt (m : MF) (o : ME) (as : MEs)
  | tup (as : MEs)
  | lst (as : MEs)
  | ix (a i : ME)
  | sl (a lo hi : ME)
  | lc (elt : ME) (g : MG) (src : ME) (has : Bool) (c : ME)
  | rng (a b : ME)
  | rev (a : ME)
  | star (a : ME)
  | tupS (as : MEs)
  | gidx (x : Str) (vs : List Str) (a : ME)
  | isi (t : Ty) (a : ME)
  | isd (a : ME)
  | fmt (a : ME)
  | mxd (a : ME) (d : Int)
  | fld (c : Str) (a : ME) (f : Str)
  | mth (g : Nat) (c m : Str) (o : ME) (as : MEs)
  | new (g : Nat) (c : Str) (as : MEs)
  | fstr (as : MEs)
  | dix (x : Str) (kvs : List (Str × PV)) (a : ME)
  | gget (x : Str) (kvs : List (Str × PV)) (a b : ME)
  /-- {} -/
  | dnew (t : Bool)
  /-- {k: v}, the key a tuple -/
  | dsp (k v : ME)
  /-- k in d, k not in d -/
  | dhas (neg : Bool) (k d : ME)
  /-- d[k] -/
  | dget (d k : ME)
  /-- d.get(k, x) -/
  | dgt2 (d k x : ME)
  /-- d.setdefault(k, x) -/
  | dsdf (d k x : ME)
  | dlen (d : ME)
  /-- [elt for g in d.values()] -/
  | lcv (elt : ME) (g : MG) (i : Nat)
  /-- enumerate, zip: what a walk goes over -/
  | enm (a : ME)
  | zip (as : MEs)
inductive MEs where
  | nil
  | cons (a : ME) (as : MEs)
end
/-- an expression with a call that may raise, the last thing in it -/
inductive MX where
  | fn (f : Nat) (as : MEs)
  | mth (g : Nat) (c m : Str) (o : ME) (as : MEs)
  | new (g : Nat) (c : Str) (as : MEs)
  | tup (as : MEs) (x : MX)
  | lst (x : MX)
mutual
inductive MS where
  | set (i : Nat) (e : ME) (own : Bool)
  | setT (is : List Nat) (e : ME)
  | par (i j : Nat) (as : MEs)
  | setIx (a i e : ME)
  | swp (a i b j e : ME)
  | ins (a : ME) (as : MEs)
  | setSl (a lo hi e : ME)
  /-- d[k] = e -/
  | dput (d k e : ME)
  | aug (i : Nat) (o : BOp) (e : ME)
  | ex (e : ME)
  | app (i : Nat) (e : ME)
  | ext (i : Nat) (e : ME)
  | ret (e : ME)
  | ret0
  | raise (c : Str) (flds : List Str) (g : Nat) (as : MEs)
  | setX (i f : Nat) (as : MEs) (own : Bool)
  | retX (f : Nat) (as : MEs)
  | exX (f : Nat) (as : MEs)
  | never
  /-- the first place of the store is that table, the first name holds data -/
  | tabQ (P : Addr) (q : Str)
  | setE (i : Nat) (x : MX) (own : Bool)
  | retE (x : MX)
  | exE (x : MX)
  | appE (i : Nat) (x : MX)
  | extE (i : Nat) (x : MX)
  | apsE (a : ME) (x : MX)
  | setFE (c : Str) (a : ME) (f : Str) (x : MX)
  | setF (c : Str) (a : ME) (f : Str) (e : ME)
  | augF (c : Str) (a : ME) (f : Str) (o : BOp) (e : ME)
  | tryR (b : MSs) (h : Str → List (Str × PV) → Option (Option PV)) (gone : List Nat)
  | ite (t : ME) (a b : MSs)
  | whl (t : ME) (b : MSs)
  | for_ (g : MG) (src : ME) (b : MSs)
  /-- over zip of two tuples -/
  | forZ (g : MG) (as : MEs) (b : MSs)
  | brk | cnt | pass
inductive MSs where
  | nil
  | cons (s : MS) (ss : MSs)
end

/-! ### values -/
def PV.isFl : PV → Bool
  | .fl _ => true
  | _ => false
/-- the items of a list or tuple -/
def seqOf (v : PV) (st : Store) : Option (List PV) := match v with
  | .tup xs => some xs
  | .fl xs => some xs
  | .rol xs => some xs
  | .loc n => match st[n]? with
    | some (.lst xs) => some xs
    | _ => none
  | _ => none
/-- .. of a list that is read -/
def rdOf (v : PV) (st : Store) : Option (List PV) := match v with
  | .tup _ => none
  | v => seqOf v st
/-- .. of a list -/
def listOf (v : PV) (st : Store) : Option (List PV) := match v with
  | .fl xs => some xs
  | .loc n => match st[n]? with
    | some (.lst xs) => some xs
    | _ => none
  | _ => none
def truth (v : PV) (st : Store) : Option Bool := match v with
  | .non => some false
  | .bl b => some b
  | .int i => some (i != 0)
  | .str s => if s.length ≤ sizeLine then some ((s.length : Int) != 0) else none
  | v => (seqOf v st).map fun xs => !xs.isEmpty
def ckM (i j : Int) : Bool := (decide (-(2 ^ 64) < i) && decide (i < 2 ^ 64)) || (decide (-(2 ^ 64) < j) && decide (j < 2 ^ 64))
def binV (o : BOp) (a b : PV) (st : Store) : Option PV := match o, a, b with
  | .add, .int i, .int j => some (.int (i + j))
  | .add, .str x, .str y => if x.length + y.length ≤ sizeLine then some (.str (x ++ y)) else none
  | .add, .tup xs, .tup ys => if xs.length + ys.length ≤ sizeLine then some (.tup (xs ++ ys)) else none
  | .add, a, b => match listOf a st, listOf b st with
    | some xs, some ys => if xs.length + ys.length ≤ sizeLine then some (.fl (xs ++ ys)) else none
    | _, _ => none
  | .sub, .int i, .int j => some (.int (i - j))
  | .mul, .int i, .int j => if ckM i j then some (.int (i * j)) else none
  | .mul, .str x, .int j => if -1000000 ≤ j ∧ j ≤ 1000000 ∧ x.length * j.toNat ≤ 1000000 then some (.str (⟨((List.replicate j.toNat x.cps.toList).flatten).toArray⟩)) else none
  | .mul, .tup xs, .int j => if xs.isEmpty = false ∧ 2 ≤ j ∧ j ≤ 1000 ∧ xs.length ≤ 1000 then some (.tup (List.replicate j.toNat xs).flatten) else none
  | .mul, a, .int j => match listOf a st with
    | some xs => if 0 ≤ j ∧ j ≤ 1000 ∧ xs.length ≤ 1000 then some (.fl (List.replicate j.toNat xs).flatten) else none
    | none => none
  | .fdiv, .int i, .int j => if 0 < j ∧ j < 1073741824 then some (.int (i / j)) else none
  | .mod, .int i, .int j => if 0 < j then some (.int (i % j)) else none
  | .pow, .int i, .int j => if 0 ≤ j ∧ j ≤ 1000000 ∧ i.natAbs < 2 ^ 64 then some (.int (i ^ j.toNat)) else none
  | _, _, _ => none
/-- a flat value -/
def flV : PV → Option L2.V
  | .non => some .non
  | .bl b => some (.bl b)
  | .int i => some (.int i)
  | .str s => some (.str s)
  | _ => none
def flL : List PV → Option (List L2.V)
  | [] => some []
  | x :: r => match flV x, flL r with
    | some v, some vs => some (v :: vs)
    | _, _ => none
/-- == of two scalars -/
def eqS (a b : PV) : Option Bool := match flV a, flV b with
  | some x, some y => if L2.scal x y = true then some (decide (x = y)) else none
  | _, _ => none
/-- a flat thing among flat things -/
def memF (a : PV) (ys : List PV) : Option Bool := match flV a, flL ys with
  | some x, some vs => some (L2.inV x vs)
  | _, _ => none
def inV (a b : PV) (st : Store) : Option Bool := match a, b with
  | .str x, .str z => match x.cps.toList with
    | [c] => some (decide (c ∈ z.cps.toList))
    | _ => none
  | a, b => match seqOf b st with
    | some ys => memF a ys
    | none => none
def ixV (a i : PV) (st : Store) : Option PV := match i with
  | .int k => match a with
    | .str z => if z.length ≤ sizeLine then (L2.atI z.cps.toList k).map fun c => .str ⟨#[c]⟩ else none
    | a => match seqOf a st with
      | some xs => L2.atI xs k
      | none => none
  | _ => none
/-- a slice's bound; absent: none is written -/
def bound (absent : Bool) (v : PV) : Option (Option Int) := match absent, v with
  | true, .non => some none
  | false, .int i => some (some i)
  | _, _ => none
def cutL (xs : List PV) (lo hi : Option Int) : List PV := (xs.drop (HT.sIx xs.length 0 lo)).take (HT.sIx xs.length xs.length hi - HT.sIx xs.length 0 lo)
def slV (a : PV) (lo hi : Option Int) (st : Store) : Option PV := match a with
  | .str z => if z.length ≤ sizeLine then some (.str (L2.cutS z lo hi)) else none
  | .tup xs => some (.tup (cutL xs lo hi))
  | a => match seqOf a st with
    | some xs => some (.fl (cutL xs lo hi))
    | none => none
def bools : List PV → Option (List Bool)
  | [] => some []
  | .bl b :: r => (bools r).map (b :: ·)
  | _ :: _ => none
def intsL : List PV → Option (List Int)
  | [] => some []
  | .int b :: r => (intsL r).map (b :: ·)
  | _ :: _ => none
def strsL : List PV → Option (List Str)
  | [] => some []
  | .str b :: r => (strsL r).map (b :: ·)
  | _ :: _ => none
mutual
/-- a value as the library's data -/
def pyOf : PV → Option PyData
  | .non => some .none
  | .bl b => some (.bool b)
  | .int i => some (.int i)
  | .str s => some (.str s)
  | .tup xs => (pyOfL xs).map .tuple
  | _ => none
def pyOfL : List PV → Option (List PyData)
  | [] => some []
  | x :: xs => match pyOf x, pyOfL xs with
    | some d, some ds => some (d :: ds)
    | _, _ => none
end
/-- what a list is extended by -/
def extL : PV → Option (List PV)
  | .fl ys => some ys
  | .tup ys => some ys
  | _ => none
/-- == of scalars, or of data -/
def eqD (a b : PV) : Option Bool := match eqS a b with
  | some k => some k
  | none => match pyOf a, pyOf b with
    | some d, some e => if (SeqAt.shaped d && SeqAt.shaped e) = true then some (PyData.eqv d e) else none
    | _, _ => none
/-- data among a list's data -/
def inDV (a b : PV) (st : Store) : Option Bool := match listOf b st with
  | some ys => match pyOf a, pyOfL ys with
    | some d, some ds => if (SeqAt.shaped d && SeqAt.shaped (.list ds)) = true then some (ds.any fun z => PyData.eqv z d) else none
    | _, _ => none
  | none => none
/-- in -/
def inA (a b : PV) (st : Store) : Option Bool := match inV a b st with
  | some k => some k
  | none => inDV a b st
/-- < of data -/
def ltD (a b : PV) : Option Bool := match pyOf a, pyOf b with
  | some d, some e => if (SeqAt.shaped d && SeqAt.shaped e) = true then dLt d e else none
  | _, _ => none
def cmpV (o : COp) (a b : PV) (st : Store) : Option Bool := match o with
  | .eq => eqD a b
  | .ne => (eqD a b).map (!·)
  | .lt => match a, b with
    | .int i, .int j => some (decide (i < j))
    | a, b => ltD a b
  | .le => match a, b with
    | .int i, .int j => some (decide (i ≤ j))
    | _, _ => none
  | .gt => match a, b with
    | .int i, .int j => some (decide (j < i))
    | _, _ => none
  | .ge => match a, b with
    | .int i, .int j => some (decide (j ≤ i))
    | _, _ => none
  | .isN => match b with
    | .non => match a with
      | .non => some true
      | .fl _ => none
      | _ => some false
    | _ => none
  | .notN => match b with
    | .non => match a with
      | .non => some false
      | .fl _ => none
      | _ => some true
    | _ => none
  | .inn => inA a b st
  | .nin => (inA a b st).map (!·)
/-- the text of data -/
def shownV (v : PV) : Option PV := match pyOf v with
  | some d => if d.showable = true ∧ d.hasDict = false ∧ d.depth ≤ 190 ∧ d.shown.length ≤ sizeLine then some (.str d.shown) else none
  | none => none
def biV (f : BF) (as : List PV) (st : Store) : Option PV := match f, as with
  | .len, [.str z] => if z.length ≤ sizeLine then some (.int z.length) else none
  | .len, [a] => (seqOf a st).map fun xs => .int xs.length
  | .int, [.int i] => some (.int i)
  | .int, [.bl k] => some (.int (if k then 1 else 0))
  | .int, [.str z] => if z.length ≤ 640 then (PySem.intText? z).map .int else none
  | .abs, [.int i] => some (.int (if i < 0 then -i else i))
  | .max, [.int i, .int j] => some (.int (if j > i then j else i))
  | .min, [.int i, .int j] => some (.int (if j < i then j else i))
  | .str, [.int i] => if i.natAbs < 1000000 then some (.str (toString i)) else none
  | .str, [.str z] => some (.str z)
  | .max, [a] => match rdOf a st with
    | some xs => match intsL xs with
      | some (n :: r) => some (.int (r.foldl max n))
      | _ => none
    | none => none
  | .reprD, [.tup xs] => shownV (.tup xs)
  | .reprD, [.int i] => if i.natAbs < 1000000 then some (.str (toString i)) else none
  | .reprD, [.str z] => if (reprText z).length ≤ sizeLine then some (.str (reprText z)) else none
  | .repr, [.bl b] => some (.str (if b then Str.ofString "True" else Str.ofString "False"))
  | .repr, [.str z] => if (reprText z).length ≤ sizeLine then some (.str (reprText z)) else none
  | .list, [a] => (seqOf a st).map fun xs => .fl xs
  | .tuple, [.tup xs] => some (.tup xs)
  | .tuple, [a] => (seqOf a st).map fun xs => .tup xs
  | .sum, [a] => match rdOf a st with
    | some xs => (intsL xs).map fun ns => .int ns.sum
    | none => none
  | .all, [a] => match rdOf a st with
    | some xs => (bools xs).map fun bs => .bl (bs.all id)
    | none => none
  | .any, [a] => match rdOf a st with
    | some xs => (bools xs).map fun bs => .bl (bs.any id)
    | none => none
  | _, _ => none
def setAt (st : Store) (n : Nat) (xs : List PV) : Store := st.set n (.lst xs)
/-- max of a list of ints, d where it is empty -/
def maxdV (d : Int) (x : PV) (st : Store) : Option PV := match rdOf x st with
  | some xs => match intsL xs with
    | some [] => some (.int d)
    | some (n :: r) => some (.int (r.foldl max n))
    | none => none
  | none => none
/-- {x} -/
def fmtV (x : PV) : Option PV := match x with
  | .str z => if z.length ≤ sizeLine then some (.str z) else none
  | .int i => if i.natAbs < 1000000 then some (.str (toString i)) else none
  | _ => none
/-- texts one behind the other -/
def glueV : List PV → Str → Option Str
  | [], acc => some acc
  | .str y :: r, acc => if (acc ++ y).length ≤ sizeLine then glueV r (acc ++ y) else none
  | _ :: _, _ => none
/-- the value at a text among a dict's -/
def dixV (kvs : List (Str × PV)) (x : PV) : Option PV := match x with
  | .str z => kvs.lookup z
  | _ => none
/-- the value at a text among a dict's, or another one -/
def getV (kvs : List (Str × PV)) (x y : PV) : Option PV := match x with
  | .str z => if y.isFl then none else some ((kvs.lookup z).getD y)
  | _ => none
/-- where a text stands in a tuple of the module -/
def idxV (vs : List Str) (y : PV) : Option PV := match y with
  | .str z => (vs.findIdx? fun y => decide (y = z)).map fun j => .int (j : Nat)
  | _ => none
/-- what a method is called of: a text, or a list of the store -/
def recvV (x : PV) (st : Store) : Option PV := match x with
  | .loc n => match st[n]? with
    | some (.lst _) => some (.loc n)
    | _ => none
  | x => some x
theorem recv_eq {x y : PV} {st : Store} (h : recvV x st = some y) : y = x ∧ ∀ n, x = .loc n → ∃ xs, st[n]? = some (.lst xs) := by
  unfold recvV at h
  split at h
  · split at h
    · rename_i n xs q
      cases h
      exact ⟨rfl, fun m e => by cases e; exact ⟨xs, q⟩⟩
    · cases h
  · rename_i hx
    cases h
    exact ⟨rfl, fun m e => absurd e (hx m)⟩
theorem recv_str (z : Str) (st : Store) : recvV (.str z) st = some (.str z) := rfl
theorem recv_loc {n : Nat} {xs : List PV} {st : Store} (h : st[n]? = some (.lst xs)) : recvV (.loc n) st = some (.loc n) := by
  unfold recvV; simp only [h]
/-- a field of an object of the store -/
def fldV (c f : Str) (x : PV) (st : Store) : Option PV := match x with
  | .loc n => match st[n]? with
    | some (.ins c' fs) => if c' = c then fs.lookup f else none
    | _ => none
  | _ => none
/-- an object of that class, no field of it has the name -/
def objV (c m : Str) (x : PV) (st : Store) : Option PV := match x with
  | .loc n => match st[n]? with
    | some (.ins c' fs) => if c' = c ∧ fs.lookup m = none then some (.loc n) else none
    | _ => none
  | _ => none
/-- what __init__ must return -/
def newV (v : PV) (n : Nat) : Option PV := match v with
  | .non => some (.loc n)
  | _ => none
/-- a field is set -/
def putFV (f : Str) (v : PV) : List (Str × PV) → List (Str × PV)
  | [] => [(f, v)]
  | (g, w) :: r => if g = f then (g, v) :: r else (g, w) :: putFV f v r
/-- isinstance -/
def isiV (t : Ty) (v : PV) : Bool := match t, v with
  | .int, .int _ => true
  | .int, .bl _ => true
  | .bool, .bl _ => true
  | .str, .str _ => true
  | .tuple, .tup _ => true
  | .list, .loc _ => true
  | .list, .fl _ => true
  | .list, .rol _ => true
  | _, _ => false
def isiO (t : Ty) (v : PV) (st : Store) : Option PV := match v with
  | .loc n => match st[n]? with
    | some (.lst _) => some (.bl (isiV t (.loc n)))
    | _ => none
  | .fnv _ _ _ => none
  | v => some (.bl (isiV t v))
/-- a method of a list or text: the answer, the store -/
def mtV (m : MF) (o : PV) (as : List PV) (st : Store) : Res PV := match m, o, as with
  | .append, .loc n, [x] => match st[n]? with
    | some (.lst xs) => if xs.length < sizeLine ∧ x.isFl = false then .ok .non (setAt st n (xs ++ [x])) else .bad
    | _ => .bad
  | .pop, .loc n, [.int i] => match st[n]? with
    | some (.lst xs) => if -(2 ^ 62) ≤ i ∧ i < 2 ^ 62 then match seqIndex? i xs.length with
      | some k => match xs[k]? with
        | some y => .ok y (setAt st n (xs.eraseIdx k))
        | none => .bad
      | none => .bad
      else .bad
    | _ => .bad
  | .split, .str a, [.str b] => if b.length = 0 ∨ sizeLine < a.length + 2 then .bad else .ok (.fl ((Txt.split a b).map .str)) st
  | .partition, .str a, [.str b] => if b.length = 0 ∨ sizeLine < a.length then .bad else .ok (.tup [.str (Txt.partition a b).1, .str (Txt.partition a b).2.1, .str (Txt.partition a b).2.2]) st
  | .join, .str a, [x] => match seqOf x st with
    | some xs => match strsL xs with
      | some ys => if (ys.map (·.length)).sum + a.length * ys.length ≤ 16000000 then .ok (.str (Txt.join a ys)) st else .bad
      | none => .bad
    | none => .bad
  | _, _, _ => .bad
/-- a list that comes to be shared -/
def esc (v : PV) (st : Store) : PV × Store := match v with
  | .fl xs => (.loc st.length, st ++ [.lst xs])
  | v => (v, st)

/-! ### dicts -/
/-- a tuple that may be a key: no tuple that is written in a module -/
def keyOk : List PV → Bool
  | .int _ :: _ => true
  | [.str a, .str _] => decide (a = Str.ofString "call") || decide (a = Str.ofString "outcome")
  | _ => false
def keyS : PV → Option L2.Key
  | .int i => some (.inl i)
  | .str s => some (.inr s)
  | _ => none
def keysS : List PV → Option (List L2.Key)
  | [] => some []
  | x :: xs => match keyS x, keysS xs with
    | some k, some ks => some (k :: ks)
    | _, _ => none
/-- a value as a key -/
def keyD (t : Bool) (v : PV) : Option (List L2.Key) := match t, v with
  | false, v => (keyS v).map fun k => [k]
  | true, .tup xs => if keyOk xs then keysS xs else none
  | _, _ => none
/-- the value at a key -/
def dLook (kvs : List (List L2.Key × PV)) (k : List L2.Key) : Option PV := (kvs.find? fun kv => decide (kv.1 = k)).map (·.2)
/-- .. written: in its place, or at the end -/
def dPut (kvs : List (List L2.Key × PV)) (k : List L2.Key) (v : PV) : List (List L2.Key × PV) :=
  if (kvs.any fun kv => decide (kv.1 = k)) = true then kvs.map (fun kv => if kv.1 = k then (kv.1, v) else kv) else kvs ++ [(k, v)]
/-- the dict at a place -/
def dctOf (d : PV) (st : Store) : Option (Bool × List (List L2.Key × PV)) := match d with
  | .loc n => match st[n]? with
    | some (.dct t kvs) => some (t, kvs)
    | _ => none
  | _ => none
/-- .. which a method is called of -/
def recvD (d : PV) (st : Store) : Option PV := match dctOf d st with
  | some _ => some d
  | none => none
def dhasV (d k : PV) (st : Store) : Option Bool := match dctOf d st with
  | some (t, kvs) => (keyD t k).map fun q => (dLook kvs q).isSome
  | none => none
def dgetV (d k : PV) (st : Store) : Option PV := match dctOf d st with
  | some (t, kvs) => match keyD t k with
    | some q => dLook kvs q
    | none => none
  | none => none
/-- .. or another value -/
def dgt2V (d k x : PV) (st : Store) : Option PV := match dctOf d st with
  | some (t, kvs) => match keyD t k with
    | some q => some ((dLook kvs q).getD x)
    | none => none
  | none => none
def dputV (d k v : PV) (st : Store) : Option Store := match d with
  | .loc n => match st[n]? with
    | some (.dct t kvs) => match keyD t k with
      | some q => if kvs.length < sizeLine ∧ v.isFl = false then some (st.set n (.dct t (dPut kvs q v))) else none
      | none => none
    | _ => none
  | _ => none
/-- what stands at a key, or the value, which stands there then -/
def dsdfV (d k v : PV) (st : Store) : Res PV := match d with
  | .loc n => match st[n]? with
    | some (.dct t kvs) => match keyD t k with
      | some q => if kvs.length < sizeLine ∧ v.isFl = false then match dLook kvs q with
        | some w => .ok w st
        | none => .ok v (st.set n (.dct t (dPut kvs q v)))
        else .bad
      | none => .bad
    | _ => .bad
  | _ => .bad
def dlenV (d : PV) (st : Store) : Option PV := match dctOf d st with
  | some (_, kvs) => some (.int kvs.length)
  | none => none
/-- the walk is over -/
def shown (n : Nat) (t : Bool) (kvs : List (List L2.Key × PV)) (v : PV) (st : Store) : Res PV := match st[n]? with
  | some .hid => .ok v (st.set n (.dct t kvs))
  | _ => .bad
/-! ### what a walk goes over -/
inductive Half where
  | it (xs : List PV)
  | lv (n : Nat) (many : Nat)
def Half.many : Half → Nat
  | .it xs => xs.length
  | .lv _ m => m
def Half.get (s : Half) (j : Nat) (st : Store) : Option PV := match s with
  | .it xs => xs[j]?
  | .lv n m => match seqOf (.loc n) st with
    | some xs => if xs.length = m then xs[j]? else none
    | none => none
def Half.fits (s : Half) (st : Store) : Bool := match s with
  | .it _ => true
  | .lv n m => match seqOf (.loc n) st with
    | some xs => xs.length == m
    | none => false
def half (v : PV) (st : Store) : Option Half := match v with
  | .tup xs => some (.it xs)
  | .loc n => (seqOf (.loc n) st).map fun xs => .lv n xs.length
  | _ => none
inductive Src where
  | items (xs : List PV)
  | live (n : Nat) (many : Nat)
  /-- zip -/
  | zp (a b : Half)
  /-- enumerate -/
  | en (a : Half)
def Src.many : Src → Nat
  | .items xs => xs.length
  | .live _ m => m
  | .zp a b => min a.many b.many
  | .en a => a.many
/-- the j-th item; the source must be as long as it was -/
def Src.get (s : Src) (j : Nat) (st : Store) : Option PV := match s with
  | .items xs => xs[j]?
  | .live n m => match seqOf (.loc n) st with
    | some xs => if xs.length = m then xs[j]? else none
    | none => none
  | .zp a b => match a.get j st, b.get j st with
    | some x, some y => some (.tup [x, y])
    | _, _ => none
  | .en a => match a.get j st with
    | some x => some (.tup [.int (j : Nat), x])
    | none => none
def Src.fits (s : Src) (st : Store) : Bool := match s with
  | .items _ => true
  | .live n m => match seqOf (.loc n) st with
    | some xs => xs.length == m
    | none => false
  | .zp a b => a.fits st && b.fits st
  | .en a => a.fits st
def srcV (v : PV) (st : Store) : Option Src := match v with
  | .str s => some (.items (s.cps.toList.map fun c => .str ⟨#[c]⟩))
  | .tup xs => some (.items xs)
  | .fl xs => some (.items xs)
  | .rol xs => some (.items xs)
  | .loc n => (seqOf (.loc n) st).map fun xs => .live n xs.length
  | _ => none
/-- the turns of enumerate -/
def enumP (xs : List PV) : List PV := xs.mapIdx fun i x => .tup [.int (i : Nat), x]
def enumV (v : PV) (st : Store) : Option Src := match v with
  | .fl xs => some (.items (enumP xs))
  | .loc n => (seqOf (.loc n) st).map fun xs => .en (.lv n xs.length)
  | _ => none
def setEach : List Nat → List PV → En → Option En
  | [], [], env => some env
  | i :: is, x :: xs, env => setEach is xs (env.set i (some x))
  | _, _, _ => none
def MG.put (g : MG) (x : PV) (env : En) : Option En := match g with
  | .nm i => some (env.set i (some x))
  | .tp is => match x with
    | .tup xs => setEach is xs env
    | _ => none
def MG.slots : MG → List Nat
  | .nm i => [i]
  | .tp is => is
def wipe (env : En) : List Nat → En
  | [] => env
  | v :: vs => (wipe env vs).set v none

/-! ### expressions -/
section
variable (call : Nat → List PV → Store → Res PV)
/-- the comprehension's turns -/
def lcLoop (test : En → Store → Res Bool) (elt : En → Store → Res PV) (put : PV → En → Option En) (env : En) (src : Src) : Nat → Nat → List PV → Store → Res PV
  | _, 0, acc, st => if src.fits st then .ok (.fl acc) st else .bad
  | j, m + 1, acc, st => match src.get j st with
    | none => .bad
    | some x => match put x env with
      | none => .bad
      | some env' => (test env' st).bind fun b st1 =>
        if b then (elt env' st1).bind fun y st2 => if acc.length < sizeLine then lcLoop test elt put env src (j + 1) m (acc ++ [(esc y st2).1]) (esc y st2).2 else .bad
        else lcLoop test elt put env src (j + 1) m acc st1
def ME.absent : ME → Bool
  | .con .non => true
  | _ => false
/-- for a value, for an immediate use that keeps no list, for its truth -/
inductive Md where | val | use | test
def done (m : Md) (v : PV) (st : Store) : Res PV := match m with
  | .test => (opt (truth v st) st).bind fun k st1 => .ok (.bl k) st1
  | _ => .ok v st
def isBl : PV → Option Bool
  | .bl k => some k
  | _ => none
def rngV (x y : PV) (st : Store) : Res Src := match x, y with
  | .int i, .int j => if (-(2 ^ 62) ≤ i ∧ i < 2 ^ 62 ∧ -(2 ^ 62) ≤ j ∧ j < 2 ^ 62) then .ok (.items ((List.range (j - i).toNat).map fun (k : Nat) => .int (i + k))) st else .bad
  | _, _ => .bad
def varV (m : Md) (o : Option (Option PV)) (st : Store) : Res PV := match o with
  | some (some v) => match m with
    | .val => match v with
      | .fl _ => .bad
      | v => .ok v st
    | m => done m v st
  | _ => .bad
mutual
/-- the value; a list that comes is fresh, but of a name that is used -/
def ev : ME → Md → En → Store → Res PV
  | .var i, m, env, st => varV m env[i]? st
  | .con v, m, _, st => done m v st
  | .glb _ v, m, _, st => done m v st
  | .bin o a b, m, env, st => (ev a .use env st).bind fun x st1 => (ev b .use env st1).bind fun y st2 => (opt (binV o x y st2) st2).bind fun v st3 => done m v st3
  | .neg a, m, env, st => (ev a .val env st).bind fun x st1 => match x with
    | .int i => done m (.int (-i)) st1
    | _ => .bad
  | .cmp o a b, _, env, st => (ev a .use env st).bind fun x st1 => (ev b .use env st1).bind fun y st2 => (opt (cmpV o x y st2) st2).bind fun k st3 => .ok (.bl k) st3
  | .cmp2 o o' a b c, _, env, st => (ev a .use env st).bind fun x st1 => (ev b .use env st1).bind fun y st2 => (opt (cmpV o x y st2) st2).bind fun k st3 =>
      if k then (ev c .use env st3).bind fun z st4 => (opt (cmpV o' y z st4) st4).bind fun k' st5 => .ok (.bl k') st5 else .ok (.bl false) st3
  | .not a, m, env, st => match m with
    | .test => (ev a .test env st).bind fun x st1 => (opt (isBl x) st1).bind fun k st2 => .ok (.bl (!k)) st2
    | _ => (ev a .use env st).bind fun x st1 => (opt (truth x st1) st1).bind fun k st2 => .ok (.bl (!k)) st2
  | .and a b, m, env, st => (ev a m env st).bind fun x st1 => (opt (isBl x) st1).bind fun k st2 => if k then ev b m env st2 else .ok (.bl false) st2
  | .or a b, m, env, st => (ev a m env st).bind fun x st1 => (opt (isBl x) st1).bind fun k st2 => if k then .ok (.bl true) st2 else ev b m env st2
  | .ite _ _ _, .test, _, _ => .bad
  | .ite t a b, m, env, st => (ev t .test env st).bind fun x st1 => (opt (isBl x) st1).bind fun k st2 => if k then ev a m env st2 else ev b m env st2
  | .fn f as, m, env, st => (evA as env st).bind fun xs st1 => (call f xs st1).bind fun v st2 => done m v st2
  | .bi f as, m, env, st => (evCs as env st).bind fun xs st1 => (opt (biV f xs st1) st1).bind fun v st2 => done m v st2
  | .mt f o as, m, env, st => (ev o .use env st).bind fun x0 st0 => (opt (recvV x0 st0) st0).bind fun x st1 => (evCs as env st1).bind fun xs st2 => (mtV f x xs st2).bind fun v st3 => done m v st3
  | .tup as, m, env, st => (evA as env st).bind fun xs st1 => if xs.length ≤ sizeLine then done m (.tup xs) st1 else .bad
  | .lst as, m, env, st => (evA as env st).bind fun xs st1 => if xs.length ≤ sizeLine then done m (.fl xs) st1 else .bad
  | .ix a i, m, env, st => (ev a .use env st).bind fun x st1 => (ev i .val env st1).bind fun y st2 => (opt (ixV x y st2) st2).bind fun v st3 => done m v st3
  | .sl a lo hi, m, env, st => (ev a .use env st).bind fun x st1 => (ev lo .val env st1).bind fun l st2 => (ev hi .val env st2).bind fun h st3 =>
      (opt (bound lo.absent l) st3).bind fun l' st4 => (opt (bound hi.absent h) st4).bind fun h' st5 => (opt (slV x l' h' st5) st5).bind fun v st6 => done m v st6
  | .lc elt g (.rng a b) has c, m, env, st => (ev a .val env st).bind fun x st1 => (ev b .val env st1).bind fun y st2 => (rngV x y st2).bind fun s st3 =>
      (lcLoop (fun e s => if has then (ev c .test e s).bind fun x s1 => opt (isBl x) s1 else .ok true s) (ev elt .val) g.put (wipe env g.slots) s 0 s.many [] st3).bind fun v st4 => done m v st4
  | .lc elt g src has c, m, env, st => (ev src .use env st).bind fun x st1 => (opt (srcV x st1) st1).bind fun s st3 =>
      (lcLoop (fun e s => if has then (ev c .test e s).bind fun x s1 => opt (isBl x) s1 else .ok true s) (ev elt .val) g.put (wipe env g.slots) s 0 s.many [] st3).bind fun v st4 => done m v st4
  | .rng _ _, _, _, _ => .bad
  | .rev _, _, _, _ => .bad
  | .star _, _, _, _ => .bad
  | .tupS as, m, env, st => (evI as env st).bind fun xs st1 => if xs.length ≤ sizeLine then done m (.tup xs) st1 else .bad
  | .gidx _ vs a, m, env, st => (ev a .use env st).bind fun y st1 => (opt (idxV vs y) st1).bind fun v st2 => done m v st2
  | .isi t a, m, env, st => (ev a .use env st).bind fun x st1 => (opt (isiO t x st1) st1).bind fun v st2 => done m v st2
  | .isd a, m, env, st => (ev a .use env st).bind fun x st1 => match x with
    | .str z => done m (.bl (Txt.isdigit z)) st1
    | _ => .bad
  | .fld c a f, m, env, st => (ev a .use env st).bind fun x st1 => (opt (fldV c f x st1) st1).bind fun v st2 => done m v st2
  | .mth g c nm o as, m, env, st => (ev o .use env st).bind fun x0 st0 => (opt (objV c nm x0 st0) st0).bind fun x st1 => (evA as env st1).bind fun xs st2 => (call g (x :: xs) st2).bind fun v st3 => done m v st3
  | .new g c as, m, env, st => (evA as env st).bind fun xs st1 => (call g (.loc st1.length :: xs) (st1 ++ [.ins c []])).bind fun v st2 => (opt (newV v st1.length) st2).bind fun w st3 => done m w st3
  | .mxd a d, m, env, st => (ev a .use env st).bind fun x st1 => (opt (maxdV d x st1) st1).bind fun v st2 => done m v st2
  | .fmt a, m, env, st => (ev a .use env st).bind fun x st1 => (opt (fmtV x) st1).bind fun v st2 => done m v st2
  | .fstr as, m, env, st => (evCs as env st).bind fun xs st1 => (opt (glueV xs Str.empty) st1).bind fun z st2 => done m (.str z) st2
  | .dix _ kvs a, m, env, st => (ev a .val env st).bind fun x st1 => (opt (dixV kvs x) st1).bind fun v st2 => done m v st2
  | .gget _ kvs a b, m, env, st => (ev a .use env st).bind fun x st1 => (ev b .val env st1).bind fun y st2 => (opt (getV kvs x y) st2).bind fun v st3 => done m v st3
  | .dnew t, m, _, st => done m (.loc st.length) (st ++ [.dct t []])
  | .dsp k v, m, env, st => (ev k .val env st).bind fun x st1 => (ev v .val env st1).bind fun y st2 => (opt (keyD true x) st2).bind fun q st3 => if y.isFl then .bad else done m (.loc st3.length) (st3 ++ [.dct true [(q, y)]])
  | .dhas neg k d, _, env, st => (ev k .use env st).bind fun x st1 => (ev d .use env st1).bind fun y st2 => (opt (dhasV y x st2) st2).bind fun b st3 => .ok (.bl (if neg then !b else b)) st3
  | .dget d k, m, env, st => (ev d .use env st).bind fun x st1 => (ev k .val env st1).bind fun y st2 => (opt (dgetV x y st2) st2).bind fun v st3 => done m v st3
  | .dgt2 d k x, m, env, st => (ev d .use env st).bind fun a0 st0 => (opt (recvD a0 st0) st0).bind fun a st1 => (ev k .val env st1).bind fun y st2 => (ev x .val env st2).bind fun z st3 => (opt (dgt2V a y (esc z st3).1 (esc z st3).2) (esc z st3).2).bind fun v st4 => done m v st4
  | .dsdf d k x, m, env, st => (ev d .use env st).bind fun a0 st0 => (opt (recvD a0 st0) st0).bind fun a st1 => (ev k .val env st1).bind fun y st2 => (ev x .val env st2).bind fun z st3 => (dsdfV a y (esc z st3).1 (esc z st3).2).bind fun v st4 => done m v st4
  | .dlen d, m, env, st => (ev d .use env st).bind fun a st1 => (opt (dlenV a st1) st1).bind fun v st2 => done m v st2
  | .lcv elt g i, m, env, st => match env[i]? with
    | some (some (.loc n)) => match st[n]? with
      | some (.dct false kvs) => (lcLoop (fun _ s => .ok true s) (ev elt .val) g.put (wipe env g.slots) (.items (kvs.map (·.2))) 0 (Src.items (kvs.map (·.2))).many [] (st.set n .hid)).bind fun v st2 => (shown n false kvs v st2).bind fun v st3 => done m v st3
      | _ => .bad
    | _ => .bad
  | .enm _, _, _, _ => .bad
  | .zip _, _, _, _ => .bad
/-- arguments, items of a display: a list that comes is shared from then on -/
def evA : MEs → En → Store → Res (List PV)
  | .nil, _, st => .ok [] st
  | .cons a as, env, st => (ev a .val env st).bind fun x st1 => (evA as env (esc x st1).2).bind fun xs st2 => .ok ((esc x st1).1 :: xs) st2
/-- items of a display, some of them starred -/
def evI : MEs → En → Store → Res (List PV)
  | .nil, _, st => .ok [] st
  | .cons (.star a) as, env, st => (ev a .use env st).bind fun x st1 => (opt (seqOf x st1) st1).bind fun ys st2 => (evI as env st2).bind fun xs st3 => .ok (ys ++ xs) st3
  | .cons a as, env, st => (ev a .val env st).bind fun x st1 => (evI as env (esc x st1).2).bind fun xs st2 => .ok ((esc x st1).1 :: xs) st2
/-- arguments of a built-in, which keeps none of them -/
def evCs : MEs → En → Store → Res (List PV)
  | .nil, _, st => .ok [] st
  | .cons a as, env, st => (ev a .use env st).bind fun x st1 => (evCs as env st1).bind fun xs st2 => .ok (x :: xs) st2
end
/-- an expression that may raise -/
def evX : MX → En → Store → Res PV
  | .fn f as, env, st => (evA call as env st).bindN fun xs st1 => call f xs st1
  | .mth g c nm o as, env, st => (ev call o .use env st).bindN fun x0 st0 => (opt (objV c nm x0 st0) st0).bindN fun x st1 => (evA call as env st1).bindN fun xs st2 => call g (x :: xs) st2
  | .new g c as, env, st => (evA call as env st).bindN fun xs st1 => (call g (.loc st1.length :: xs) (st1 ++ [.ins c []])).bind fun v st2 => opt (newV v st1.length) st2
  | .tup as x, env, st => (evA call as env st).bindN fun xs st1 => (evX x env st1).bind fun y st2 => if xs.length + 1 ≤ sizeLine then .ok (.tup (xs ++ [(esc y st2).1])) (esc y st2).2 else .bad
  | .lst x, env, st => (evX x env st).bind fun y st1 => .ok (.fl [(esc y st1).1]) (esc y st1).2
/-- what reversed goes over -/
def revV (v : PV) : Option Src := match v with
  | .fl xs => some (.items xs.reverse)
  | .tup xs => some (.items xs.reverse)
  | _ => none
/-- o[k] = v -/
def putIx (o k v : PV) (st : Store) : Option Store := match o, k with
  | .loc n, .int k => match st[n]? with
    | some (.lst xs) => match L2.ixN xs.length k with
      | some j => if v.isFl then none else some (setAt st n (xs.set j v))
      | none => none
    | _ => none
  | _, _ => none
/-- what a for goes over -/
def evSrc : ME → En → Store → Res Src
  | .rng a b, env, st => (ev call a .val env st).bind fun x st1 => (ev call b .val env st1).bind fun y st2 => rngV x y st2
  | .rev a, env, st => (ev call a .val env st).bind fun v st1 => opt (revV v) st1
  | .enm a, env, st => (ev call a .val env st).bind fun v st1 => opt (enumV v st1) st1
  | e, env, st => (ev call e .val env st).bind fun v st1 => opt (srcV v st1) st1

/-! ### statements -/
inductive SR where
  | nx (env : En) (st : Store)
  | rt (v : PV) (st : Store)
  | bk (env : En) (st : Store)
  | ct (env : En) (st : Store)
  | xc (c : Str) (fs : List (Str × PV)) (env : En) (st : Store)
  | bad
def SR.then : SR → (En → Store → SR) → SR
  | .nx env st, f => f env st
  | r, _ => r
def Res.to {α : Type} : Res α → (α → Store → SR) → SR
  | .ok a st, f => f a st
  | _, _ => .bad
/-- .. of a call that may raise -/
def Res.toX {α : Type} : Res α → En → (α → Store → SR) → SR
  | .ok a st, _, f => f a st
  | .xc c fs st, env, _ => .xc c fs env st
  | .bad, _, _ => .bad
/-- a loop's turns -/
def forLoop (put : PV → En → Option En) (body : En → Store → SR) (src : Src) : Nat → Nat → En → Store → SR
  | _, 0, env, st => if src.fits st then .nx env st else .bad
  | j, m + 1, env, st => match src.get j st with
    | none => .bad
    | some x => match put x env with
      | none => .bad
      | some env' => match body env' st with
        | .nx e s => forLoop put body src (j + 1) m e s
        | .ct e s => forLoop put body src (j + 1) m e s
        | .bk e s => .nx e s
        | r => r
/-- at most so many turns of a while -/
def whlLoop (test : En → Store → Res PV) (body : En → Store → SR) : Nat → En → Store → SR
  | 0, _, _ => .bad
  | n + 1, env, st => (test env st).to fun x st1 => match isBl x with
    | some true => match body env st1 with
      | .nx e s => whlLoop test body n e s
      | .ct e s => whlLoop test body n e s
      | .bk e s => .nx e s
      | r => r
    | some false => .nx env st1
    | none => .bad
/-- what zip goes over -/
def zipS (as : MEs) : En → Store → Res Src := fun env st => (evA call as env st).bind fun vs st1 => match vs with
  | [x, y] => match half x st1, half y st1 with
    | some a, some b => .ok (.zp a b) st1
    | _, _ => .bad
  | _ => .bad
/-- for .. in zip(a, b) -/
def zipF (g : MG) (as : MEs) (fB : En → Store → SR) : En → Store → SR := fun env st => (zipS call as env st).to fun s st1 => forLoop g.put fB s 0 s.many env st1
/-- a name that holds a list of its own -/
def ME.held : ME → En → Option (Nat × List PV)
  | .var i, env => match env[i]? with
    | some (some (.fl xs)) => some (i, xs)
    | _ => none
  | _, _ => none
variable (turns : Nat)
mutual
def evS : MS → En → Store → SR
  | .set i e own, env, st => (ev call e .val env st).to fun x st1 => if own then .nx (env.set i (some x)) st1 else .nx (env.set i (some (esc x st1).1)) (esc x st1).2
  | .setT is e, env, st => (ev call e .val env st).to fun x st1 => match x with
    | .tup xs => match setEach is xs env with
      | some env' => .nx env' st1
      | none => .bad
    | .fl xs => match setEach is xs env with
      | some env' => .nx env' st1
      | none => .bad
    | _ => .bad
  | .par i j as, env, st => (evA call as env st).to fun xs st1 => match xs with
    | [v, w] => .nx ((env.set i (some v)).set j (some w)) st1
    | _ => .bad
  | .setIx a i e, env, st => (ev call e .val env st).to fun v st1 => (ev call a .val env st1).to fun o st2 => (ev call i .val env st2).to fun k st3 =>
      match o, k with
      | .loc n, .int k => match st3[n]? with
        | some (.lst xs) => match L2.ixN xs.length k with
          | some j => if v.isFl then .bad else .nx env (setAt st3 n (xs.set j v))
          | none => .bad
        | _ => .bad
      | _, _ => .bad
  | .swp a i b j e, env, st => (ev call e .val env st).to fun v st1 => match v with
    | .tup [x, y] => (ev call a .val env st1).to fun o st2 => (ev call i .val env st2).to fun k st3 => match putIx o k x st3 with
      | some st4 => (ev call b .val env st4).to fun o2 st5 => (ev call j .val env st5).to fun k2 st6 => match putIx o2 k2 y st6 with
        | some st7 => .nx env st7
        | none => .bad
      | none => .bad
    | _ => .bad
  | .ins a as, env, st => (ev call a .val env st).to fun o0 st0 => (opt (recvV o0 st0) st0).to fun o st1 => (evA call as env st1).to fun xs st2 => match o, xs with
    | .loc n, [.int k, v] => match st2[n]? with
      | some (.lst ys) => if ys.length < sizeLine ∧ 0 ≤ k ∧ k < 2 ^ 63 ∧ v.isFl = false then .nx env (setAt st2 n (ys.take k.toNat ++ [v] ++ ys.drop k.toNat)) else .bad
      | _ => .bad
    | _, _ => .bad
  | .setSl a lo hi e, env, st => (ev call e .val env st).to fun v st1 => (ev call a .val env st1).to fun o st2 => (ev call lo .val env st2).to fun l st3 => (ev call hi .val env st3).to fun h st4 => match v, o, l, h with
    | .fl zs, .loc n, .int i, .int j => match st4[n]? with
      | some (.lst ys) => if 0 ≤ i ∧ i ≤ j ∧ j ≤ ys.length ∧ ys.length + zs.length ≤ sizeLine then .nx env (setAt st4 n (ys.take i.toNat ++ zs ++ ys.drop j.toNat)) else .bad
      | _ => .bad
    | _, _, _, _ => .bad
  | .dput d k e, env, st => (ev call e .val env st).to fun v st1 => (ev call d .val env (esc v st1).2).to fun a st2 => (ev call k .val env st2).to fun y st3 => match dputV a y (esc v st1).1 st3 with
    | some st4 => .nx env st4
    | none => .bad
  | .aug i o e, env, st => match env[i]? with
    | some (some (.int x)) => (ev call e .val env st).to fun y st1 => match y with
      | .int z => match o with
        | .add => .nx (env.set i (some (.int (x + z)))) st1
        | .sub => .nx (env.set i (some (.int (x - z)))) st1
        | _ => .bad
      | _ => .bad
    | _ => .bad
  | .ex e, env, st => (ev call e .val env st).to fun _ st1 => .nx env st1
  | .app i e, env, st => (ev call e .val env st).to fun x st1 => match env[i]? with
    | some (some (.fl xs)) => if xs.length < sizeLine then .nx (env.set i (some (.fl (xs ++ [(esc x st1).1])))) (esc x st1).2 else .bad
    | _ => .bad
  | .ext i e, env, st => (ev call e .val env st).to fun x st1 => match env[i]?, extL x with
    | some (some (.fl xs)), some ys => if xs.length + ys.length ≤ sizeLine then .nx (env.set i (some (.fl (xs ++ ys)))) st1 else .bad
    | _, _ => .bad
  | .ret e, env, st => match e.held env with
    | some (_, xs) => .rt (.fl xs) st
    | none => (ev call e .val env st).to fun x st1 => .rt x st1
  | .ret0, _, st => .rt .non st
  | .raise c flds g as, env, st => if flds.isEmpty then .xc c [] env st else (evA call as env st).to fun xs st1 => if xs.length = flds.length then (call g xs st1).to fun _ st2 => .xc c (flds.zip xs).reverse env st2 else .bad
  | .setX i f as own, env, st => (evA call as env st).to fun xs st1 => (call f xs st1).toX env fun x st2 => if own then .nx (env.set i (some x)) st2 else .nx (env.set i (some (esc x st2).1)) (esc x st2).2
  | .retX f as, env, st => (evA call as env st).to fun xs st1 => (call f xs st1).toX env fun x st2 => .rt x st2
  | .exX f as, env, st => (evA call as env st).to fun xs st1 => (call f xs st1).toX env fun _ st2 => .nx env st2
  | .never, _, _ => .bad
  | .tabQ P q, env, st => match st[0]? with
    | some c => match c with
      | Cell.tab P2 q2 => if P2 = P ∧ q2 = q ∧ (match env[0]? with
        | some (some v) => (pyOf v).isSome
        | _ => false) = true then .nx env st else .bad
      | _ => .bad
    | none => .bad
  | .setE i x own, env, st => (evX call x env st).toX env fun v st1 => if own then .nx (env.set i (some v)) st1 else .nx (env.set i (some (esc v st1).1)) (esc v st1).2
  | .retE x, env, st => (evX call x env st).toX env fun v st1 => .rt v st1
  | .exE x, env, st => (evX call x env st).toX env fun _ st1 => .nx env st1
  | .appE i x, env, st => match env[i]? with
    | some (some (.fl xs)) => (evX call x env st).toX env fun v st1 => if xs.length < sizeLine then .nx (env.set i (some (.fl (xs ++ [(esc v st1).1])))) (esc v st1).2 else .bad
    | _ => .bad
  | .extE i x, env, st => match env[i]? with
    | some (some (.fl xs)) => (evX call x env st).toX env fun v st1 => match extL v with
      | some ys => if xs.length + ys.length ≤ sizeLine then .nx (env.set i (some (.fl (xs ++ ys)))) st1 else .bad
      | none => .bad
    | _ => .bad
  | .apsE a x, env, st => (ev call a .use env st).to fun o st1 => match o with
    | .loc n => match st1[n]? with
      | some (.lst _) => (evX call x env st1).toX env fun v st2 => match st2[n]? with
        | some (.lst xs) => if xs.length < sizeLine ∧ v.isFl = false then .nx env (setAt st2 n (xs ++ [v])) else .bad
        | _ => .bad
      | _ => .bad
    | _ => .bad
  | .setFE c a f x, env, st => (evX call x env st).toX env fun v st1 => (ev call a .use env st1).to fun o st2 => match o with
    | .loc n => match st2[n]? with
      | some (.ins c' fs) => if c' = c ∧ fs.length < 1000 ∧ v.isFl = false then .nx env (st2.set n (.ins c' (putFV f v fs))) else .bad
      | _ => .bad
    | _ => .bad
  | .setF c a f e, env, st => (ev call e .val env st).to fun v st1 => (ev call a .use env st1).to fun o st2 => match o with
    | .loc n => match st2[n]? with
      | some (.ins c' fs) => if c' = c ∧ fs.length < 1000 ∧ v.isFl = false then .nx env (st2.set n (.ins c' (putFV f v fs))) else .bad
      | _ => .bad
    | _ => .bad
  | .augF c a f o e, env, st => (ev call a .use env st).to fun x st1 => (opt (fldV c f x st1) st1).to fun v st2 => (ev call e .val env st2).to fun y st3 => match v, y, x with
    | .int i, .int j, .loc n => match st3[n]? with
      | some (.ins c' fs) => if c' = c ∧ fs.length < 1000 then match o with
        | .add => .nx env (st3.set n (.ins c' (putFV f (.int (i + j)) fs)))
        | .sub => .nx env (st3.set n (.ins c' (putFV f (.int (i - j)) fs)))
        | _ => .bad
        else .bad
      | _ => .bad
    | _, _, _ => .bad
  | .tryR b h gone, env, st => match evSs b env st with
    | .xc c fs e s => match h c fs with
      | none => .bad
      | some (some v) => .rt v s
      | some none => .nx (wipe e gone) s
    | r => r
  | .ite t a b, env, st => (ev call t .test env st).to fun x st1 => match isBl x with
    | some true => evSs a env st1
    | some false => evSs b env st1
    | none => .bad
  | .whl t b, env, st => whlLoop (ev call t .test) (evSs b) turns env st
  | .for_ g src b, env, st => (evSrc call src env st).to fun s st1 => forLoop g.put (evSs b) s 0 s.many env st1
  | .forZ g as b, env, st => zipF call g as (evSs b) env st
  | .brk, env, st => .bk env st
  | .cnt, env, st => .ct env st
  | .pass, env, st => .nx env st
def evSs : MSs → En → Store → SR
  | .nil, env, st => .nx env st
  | .cons s ss, env, st => (evS s env st).then fun env1 st1 => evSs ss env1 st1
end
end

mutual
def PV.same : PV → PV → Bool
  | .non, .non => true
  | .bl a, .bl b => a == b
  | .int a, .int b => decide (a = b)
  | .str a, .str b => decide (a = b)
  | .tup a, .tup b => PV.sameL a b
  | _, _ => false
def PV.sameL : List PV → List PV → Bool
  | [], [] => true
  | x :: xs, y :: ys => PV.same x y && PV.sameL xs ys
  | _, _ => false
end
def sameD : List (Str × PV) → List (Str × PV) → Bool
  | [], [] => true
  | (x, v) :: r, (y, w) :: q => decide (x = y) && PV.same v w && sameD r q
  | _, _ => false
/-! ### a program -/
mutual
/-- no list in it stands at a place of the store from n on -/
def PV.low (n : Nat) : PV → Bool
  | .tup xs => PV.lowL n xs
  | .fl xs => PV.lowL n xs
  | .rol xs => PV.lowL n xs
  | .loc k => decide (k < n)
  | _ => true
def PV.lowL (n : Nat) : List PV → Bool
  | [] => true
  | x :: xs => PV.low n x && PV.lowL n xs
end
def Cell.low (n : Nat) : Cell → Bool
  | .lst xs => PV.lowL n xs
  | .ins _ fs => PV.lowL n (fs.map Prod.snd)
  | .tab _ _ => true
  | .dct _ kvs => PV.lowL n (kvs.map Prod.snd)
  | .hid => false
structure Def where
  np : Nat
  nl : Nat
  body : MSs
  /-- another def that stands for this one, a level further down -/
  to : Option Nat := none
/-- behind a call: what nothing can reach any more is forgotten -/
def leave (n : Nat) (v : PV) (st : Store) : Res PV :=
  if st.length ≤ n then .ok v st
  else if PV.low n v && (st.take n).all (Cell.low n) then .ok v (st.take n) else .ok v st
/-- .. behind one that raised -/
def leaveX (n : Nat) (c : Str) (fs : List (Str × PV)) (st : Store) : Res PV :=
  if st.length ≤ n then .xc c fs st
  else if PV.lowL n (fs.map Prod.snd) && (st.take n).all (Cell.low n) then .xc c fs (st.take n) else .xc c fs st
def evCall (turns : Nat) (D : Nat → Option Def) : Nat → Nat → List PV → Store → Res PV
  | 0, _, _, _ => .bad
  | k + 1, f, args, st => match D f with
    | none => .bad
    | some d => match d.to with
      | some g => evCall turns D k g args st
      | none => if args.length = d.np ∧ (args.any PV.isFl) = false then
        match evSs (evCall turns D k) turns d.body (args.map some ++ List.replicate (d.nl - d.np) none) st with
        | .nx _ s => leave st.length .non s
        | .rt v s => leave st.length v s
        | .xc c fs _ s => leaveX st.length c fs s
        | _ => .bad
      else .bad
end U

set_option maxHeartbeats 4000000
/-! U2: how the store's data stand in the heap. -/
namespace U
open PySem PySem.Spec PyProof.Rows L2

section
variable (K : PySem.W.Frag)
/-- what is only read: the script, a written list -/
def Kl (H : Hp) (a : Addr) (vs : List V) : Prop :=
  (∃ o, H a = some (.frz o (.lst vs))) ∨
    ∃ (o : Obj) (its : Array Value) (n : Nat), K.lookup a = some o ∧ o.cls = .type "list" ∧ o.dict = none ∧ o.data = .seq its n ∧ its.size ≤ sizeLine ∧ Vals vs its.toList
/-- a tuple that may be a key is tracked -/
def KeyT (H : Hp) (a : Addr) (vs : List V) (xs : List PV) : Prop := H a = some (.tup vs) ∨ keyOk xs = false
mutual
inductive RV (μ : Nat → Addr) (L : Nat) (H : Hp) : PV → V → Prop
  | non : RV μ L H .non .non
  | bl (b : Bool) : RV μ L H (.bl b) (.bl b)
  | int (i : Int) : RV μ L H (.int i) (.int i)
  | str (s : Str) : RV μ L H (.str s) (.str s)
  | tup {xs : List PV} {a : Addr} {vs : List V} (h : SqT K H a vs) (r : RVs μ L H xs vs) (k : KeyT H a vs xs) : RV μ L H (.tup xs) (.ref a)
  | loc {n : Nat} (h : n < L) : RV μ L H (.loc n) (.ref (μ n))
  | fl {xs : List PV} {a : Addr} {vs : List V} (h : H a = some (.lst vs)) (n : ∀ n, n < L → μ n ≠ a) (r : RVs μ L H xs vs) : RV μ L H (.fl xs) (.ref a)
  | rol {xs : List PV} {a : Addr} {vs : List V} (h : Kl K H a vs) (r : RVs μ L H xs vs) : RV μ L H (.rol xs) (.ref a)
  | fnv {f c : Addr} {q : Str} (h : H c = some (LamX.CodeO c q)) : RV μ L H (.fnv f c q) (.ref f)
inductive RVs (μ : Nat → Addr) (L : Nat) (H : Hp) : List PV → List V → Prop
  | nil : RVs μ L H [] []
  | cons {x : PV} {v : V} {xs : List PV} {vs : List V} (f : x.isFl = false) (h : RV μ L H x v) (r : RVs μ L H xs vs) : RVs μ L H (x :: xs) (v :: vs)
end
/-- a dict's object -/
def dHO (t : Bool) (ks : List (List L2.Key)) (ws : List V) : HO := match t with
  | true => .dT (ks.zip ws)
  | false => .dK ((ks.zip ws).map fun p => (p.1.headD (.inl 0), p.2))
def DctAt (μ : Nat → Addr) (L : Nat) (H : Hp) (a : Addr) (t : Bool) (kvs : List (List L2.Key × PV)) : Prop :=
  ∃ ws, H a = some (dHO t (kvs.map Prod.fst) ws) ∧ RVs K μ L H (kvs.map Prod.snd) ws ∧ (t = false → ∀ kv ∈ kvs, ∃ k, kv.1 = [k])
/-- the store stands in the heap -/
structure Ok (μ : Nat → Addr) (st : Store) (H : Hp) : Prop where
  inj : ∀ n m, n < st.length → m < st.length → μ n = μ m → n = m
  cell : ∀ n xs, st[n]? = some (.lst xs) → ∃ vs, H (μ n) = some (.lst vs) ∧ RVs K μ st.length H xs vs
  ob : ∀ n c fs, st[n]? = some (.ins c fs) → ∃ (C dx : Addr) (gs : List (Str × V)), PySem.W.nsIn K mainGlobals c = some (some (.ref C)) ∧ H (μ n) = some (.ins C dx gs) ∧ gs.map Prod.fst = fs.map Prod.fst ∧ RVs K μ st.length H (fs.map Prod.snd) (gs.map Prod.snd)
  tb : ∀ n P q, st[n]? = some (.tab P q) → μ n = P ∧ LamX.TabS H P q
  dc : ∀ n t kvs, st[n]? = some (.dct t kvs) → DctAt K μ st.length H (μ n) t kvs
  hd : ∀ n, st[n]? = some .hid → ∃ o u, H (μ n) = some (.frz o u)
end
/-- from one state to a later one; what stands at S may have been changed besides the store -/
structure StX (S : Addr → Prop) (μ : Nat → Addr) (L : Nat) (H : Hp) (μ' : Nat → Addr) (L' : Nat) (H' : Hp) : Prop where
  le : L ≤ L'
  ext : ∀ n, n < L → μ' n = μ n
  keep : ∀ b o, H b = some o → (∀ n, n < L → μ n ≠ b) → ¬ S b → H' b = some o
  tup : ∀ b xs, H b = some (.tup xs) → H' b = some (.tup xs)
  frz : ∀ b o u, H b = some (.frz o u) → H' b = some (.frz o u)
  there : ∀ b, H' b = none → H b = none
  new : ∀ n, L ≤ n → n < L' → H (μ' n) = none
  cod : ∀ b p, H b = some (.ext p) → H' b = some (.ext p)
abbrev NoS : Addr → Prop := fun _ => False
abbrev Stp := StX NoS

section
variable {K : PySem.W.Frag} {μ μ1 μ2 : Nat → Addr} {L L1 L2 : Nat} {H H1 H2 : Hp} {S S1 : Addr → Prop}
theorem StX.refl : StX S μ L H μ L H := ⟨Nat.le_refl _, fun _ _ => rfl, fun _ _ h _ _ => h, fun _ _ h => h, fun _ _ _ h => h, fun _ h => h, fun n h1 h2 => absurd h2 (by omega), fun _ _ h => h⟩
theorem StX.some (s : StX S μ L H μ1 L1 H1) {b : Addr} {o : HO} (h : H b = some o) : ∃ o', H1 b = Option.some o' := by
  cases q : H1 b with
  | none => rw [s.there b q] at h; cases h
  | some o' => exact ⟨o', rfl⟩
theorem StX.trans (s : StX S μ L H μ1 L1 H1) (t : StX S1 μ1 L1 H1 μ2 L2 H2) (hs : ∀ b, S1 b → S b ∨ H b = none) : StX S μ L H μ2 L2 H2 := by
  refine ⟨Nat.le_trans s.le t.le, fun n h => (t.ext n (Nat.lt_of_lt_of_le h s.le)).trans (s.ext n h), fun b o h n hS => ?_, fun b xs h => t.tup b xs (s.tup b xs h), fun b o u h => t.frz b o u (s.frz b o u h), fun b h => s.there b (t.there b h), fun n h1 h2 => ?_, fun b p h => t.cod b p (s.cod b p h)⟩
  · refine t.keep b o (s.keep b o h n hS) (fun k hk e => ?_) fun z => ?_
    · by_cases hl : k < L
      · exact n k hl ((s.ext k hl).symm.trans e)
      · have := s.new k (by omega) hk
        rw [e, h] at this
        cases this
    · rcases hs b z with z | z
      · exact hS z
      · rw [h] at z; cases z
  · by_cases hl : n < L1
    · have := s.new n h1 hl
      rw [t.ext n hl]
      exact this
    · exact s.there _ (t.new n (by omega) h2)
theorem Stp.trans (s : Stp μ L H μ1 L1 H1) (t : Stp μ1 L1 H1 μ2 L2 H2) : Stp μ L H μ2 L2 H2 := StX.trans s t fun _ h => h.elim
theorem StX.weak (s : StX S μ L H μ1 L1 H1) (hs : ∀ b, S b → S1 b) : StX S1 μ L H μ1 L1 H1 := ⟨s.le, s.ext, fun b o h n hS => s.keep b o h n fun z => hS (hs b z), s.tup, s.frz, s.there, s.new, s.cod⟩
theorem Stp.wide (s : Stp μ L H μ1 L1 H1) : StX S μ L H μ1 L1 H1 := StX.weak s fun _ h => h.elim

theorem StX.sqT (s : StX S μ L H μ1 L1 H1) {a : Addr} {vs : List V} (h : SqT K H a vs) : SqT K H1 a vs := by
  rcases h with (h | ⟨o, h⟩) | h
  · exact .inl (.inl (s.tup _ _ h))
  · exact .inl (.inr ⟨o, s.frz _ _ _ h⟩)
  · exact .inr h
theorem StX.kl (s : StX S μ L H μ1 L1 H1) {a : Addr} {vs : List V} (h : Kl K H a vs) : Kl K H1 a vs := by
  rcases h with ⟨o, h⟩ | h
  · exact .inl ⟨o, s.frz _ _ _ h⟩
  · exact .inr h
theorem Kl.sq {a : Addr} {vs : List V} (h : Kl K H a vs) : SqL K H a vs := by
  rcases h with ⟨o, h⟩ | h
  · exact .inl (.inr ⟨o, h⟩)
  · exact .inr h

theorem StX.keyT (s : StX S μ L H μ1 L1 H1) {a : Addr} {vs : List V} {xs : List PV} (h : KeyT H a vs xs) : KeyT H1 a vs xs := h.imp (s.tup _ _) fun z => z
theorem RVs.len {xs : List PV} {vs : List V} : RVs K μ L H xs vs → xs.length = vs.length
  | .nil => rfl
  | .cons _ _ r => congrArg (· + 1) (RVs.len r)
theorem RVs.get : ∀ {xs : List PV} {vs : List V} {i : Nat} {x : PV}, RVs K μ L H xs vs → xs[i]? = some x → ∃ v, vs[i]? = some v ∧ RV K μ L H x v ∧ x.isFl = false
  | _, _, _, _, .nil, e => by simp at e
  | _, _, 0, _, .cons f h r, e => by
    simp only [List.getElem?_cons_zero, Option.some.injEq] at e
    subst e
    exact ⟨_, rfl, h, f⟩
  | _, _, i + 1, _, .cons f h r, e => by
    obtain ⟨v, h1, h2⟩ := RVs.get (i := i) r (by simpa using e)
    exact ⟨v, by simpa using h1, h2⟩
theorem RVs.app {xs ys : List PV} {vs ws : List V} : RVs K μ L H xs vs → RVs K μ L H ys ws → RVs K μ L H (xs ++ ys) (vs ++ ws)
  | .nil, s => s
  | .cons f h r, s => .cons f h (RVs.app r s)
theorem RVs.reps {xs : List PV} {vs : List V} (r : RVs K μ L H xs vs) : ∀ n : Nat, RVs K μ L H (List.replicate n xs).flatten (List.replicate n vs).flatten
  | 0 => .nil
  | n + 1 => by
    rw [List.replicate_succ, List.replicate_succ, List.flatten_cons, List.flatten_cons]
    exact RVs.app r (r.reps n)
theorem RVs.set {x : PV} {v : V} (f : x.isFl = false) (q : RV K μ L H x v) : ∀ {xs : List PV} {vs : List V} (i : Nat), RVs K μ L H xs vs → RVs K μ L H (xs.set i x) (vs.set i v)
  | _, _, _, .nil => .nil
  | _, _, 0, .cons _ _ r => .cons f q r
  | _, _, i + 1, .cons f' h r => .cons f' h (RVs.set f q i r)
theorem RVs.take : ∀ {xs : List PV} {vs : List V} (n : Nat), RVs K μ L H xs vs → RVs K μ L H (xs.take n) (vs.take n)
  | _, _, 0, _ => .nil
  | _, _, _ + 1, .nil => .nil
  | _, _, n + 1, .cons f h r => .cons f h (RVs.take n r)
theorem RVs.drop : ∀ {xs : List PV} {vs : List V} (n : Nat), RVs K μ L H xs vs → RVs K μ L H (xs.drop n) (vs.drop n)
  | _, _, 0, r => r
  | _, _, _ + 1, .nil => .nil
  | _, _, n + 1, .cons _ _ r => RVs.drop n r
theorem RVs.erase : ∀ {xs : List PV} {vs : List V} (n : Nat), RVs K μ L H xs vs → RVs K μ L H (xs.eraseIdx n) (vs.eraseIdx n)
  | _, _, _, .nil => .nil
  | _, _, 0, .cons f q r => r
  | _, _, n + 1, .cons f q r => .cons f q (RVs.erase n r)
theorem RVs.one {x : PV} {v : V} (f : x.isFl = false) (q : RV K μ L H x v) : RVs K μ L H [x] [v] := .cons f q .nil

/-- an own list stands off S -/
def Off (S : Addr → Prop) : PV → V → Prop
  | .fl _, .ref a => ¬ S a
  | _, _ => True
mutual
theorem RV.mono (s : StX S μ L H μ1 L1 H1) : ∀ {x : PV} {v : V}, Off S x v → RV K μ L H x v → RV K μ1 L1 H1 x v
  | _, _, _, .non => .non
  | _, _, _, .bl b => .bl b
  | _, _, _, .int i => .int i
  | _, _, _, .str z => .str z
  | _, _, _, .tup h r k => .tup (StX.sqT s h) (RVs.mono s r) (StX.keyT s k)
  | _, _, _, .loc (n := n) h => by
    have e := s.ext n h
    rw [← e]
    exact .loc (Nat.lt_of_lt_of_le h s.le)
  | .fl _, .ref a, o, .fl h n r => by
    refine .fl (s.keep _ _ h n o) (fun k hk e => ?_) (RVs.mono s r)
    by_cases hl : k < L
    · exact n k hl ((s.ext k hl).symm.trans e)
    · have := s.new k (by omega) hk
      rw [e, h] at this
      cases this
  | _, _, _, .rol h r => .rol (StX.kl s h) (RVs.mono s r)
  | _, _, _, .fnv h => .fnv (s.cod _ _ h)
theorem RVs.mono (s : StX S μ L H μ1 L1 H1) : ∀ {xs : List PV} {vs : List V}, RVs K μ L H xs vs → RVs K μ1 L1 H1 xs vs
  | _, _, .nil => .nil
  | _, _, .cons (x := x) f h r => .cons f (RV.mono s (by cases x <;> first | trivial | cases f) h) (RVs.mono s r)
end
theorem off_no {x : PV} {v : V} : Off NoS x v := by
  unfold Off
  split <;> simp
theorem RV.mono0 (s : Stp μ L H μ1 L1 H1) {x : PV} {v : V} (h : RV K μ L H x v) : RV K μ1 L1 H1 x v := RV.mono s off_no h

/-- what stands at a place of the store stands in the heap -/
theorem Ok.at_ {st : Store} {n : Nat} (o : Ok K μ st H) (hn : n < st.length) : ∃ u, H (μ n) = some u := by
  cases q : st[n] with
  | lst xs =>
    obtain ⟨vs, h, _⟩ := o.cell n xs (by rw [List.getElem?_eq_getElem hn, q])
    exact ⟨_, h⟩
  | ins c fs =>
    obtain ⟨C, dx, gs, _, h, _⟩ := o.ob n c fs (by rw [List.getElem?_eq_getElem hn, q])
    exact ⟨_, h⟩
  | tab P w =>
    obtain ⟨e, ps, h, _⟩ := o.tb n P w (by rw [List.getElem?_eq_getElem hn, q])
    exact ⟨_, by rw [e]; exact h⟩
  | dct t kvs =>
    obtain ⟨ws, h, _⟩ := o.dc n t kvs (by rw [List.getElem?_eq_getElem hn, q])
    exact ⟨_, h⟩
  | hid =>
    obtain ⟨o, u, h⟩ := o.hd n (by rw [List.getElem?_eq_getElem hn, q])
    exact ⟨_, h⟩
theorem dHO_ne_ext {t : Bool} {ks : List (List Key)} {ws : List V} {p : Heap → Prop} : dHO t ks ws ≠ .ext p := by cases t <;> exact fun h => nomatch h
theorem dHO_ne_tup {t : Bool} {ks : List (List Key)} {ws : List V} {p : List V} : dHO t ks ws ≠ .tup p := by cases t <;> exact fun h => nomatch h
theorem dHO_ne_frz {t : Bool} {ks : List (List Key)} {ws : List V} {o : Obj} {p : HO} : dHO t ks ws ≠ .frz o p := by cases t <;> exact fun h => nomatch h
theorem dHO_ne_ins {t : Bool} {ks : List (List Key)} {ws : List V} {a b : Addr} {p : List (Str × V)} : dHO t ks ws ≠ .ins a b p := by cases t <;> exact fun h => nomatch h
theorem dHO_ne_lst {t : Bool} {ks : List (List Key)} {ws : List V} {p : List V} : dHO t ks ws ≠ .lst p := by cases t <;> exact fun h => nomatch h
theorem dHO_ne_tbl {t : Bool} {ks : List (List Key)} {ws : List V} {p : Array Value} : dHO t ks ws ≠ .tbl p := by cases t <;> exact fun h => nomatch h
theorem tab_of {H H1 : Hp} {P : Addr} {q : Str} (t : LamX.TabS H P q) (hP : ∀ ps, H P = some (.tbl ps) → H1 P = some (.tbl ps)) (hc : ∀ c, H c = some (LamX.CodeO c q) → H1 c = some (LamX.CodeO c q)) : LamX.TabS H1 P q := by
  obtain ⟨ps, h1, h2, h3⟩ := t
  refine ⟨ps, hP ps h1, h2, fun pos cv h => ?_⟩
  obtain ⟨c, e, h4⟩ := h3 pos cv h
  exact ⟨c, e, hc c h4⟩
theorem code_ext (c : Addr) (q : Str) : ∃ p, LamX.CodeO c q = .ext p := ⟨_, rfl⟩
/-- no code object stands in the store -/
theorem Ok.noCode {st : Store} {c : Addr} {q : Str} (o : Ok K μ st H) (h : H c = some (LamX.CodeO c q)) : ∀ n, n < st.length → μ n ≠ c := fun n hn e => by
  obtain ⟨p, hp⟩ := code_ext c q
  rw [hp, ← e] at h
  cases z : st[n] with
  | lst xs =>
    obtain ⟨vs, h1, _⟩ := o.cell n xs (by rw [List.getElem?_eq_getElem hn, z])
    rw [h1] at h; cases h
  | ins c fs =>
    obtain ⟨C, dx, gs, _, h1, _⟩ := o.ob n c fs (by rw [List.getElem?_eq_getElem hn, z])
    rw [h1] at h; cases h
  | tab P w =>
    obtain ⟨e2, ps, h1, _⟩ := o.tb n P w (by rw [List.getElem?_eq_getElem hn, z])
    rw [← e2] at h1
    rw [h1] at h; cases h
  | dct t kvs =>
    obtain ⟨ws, h1, _⟩ := o.dc n t kvs (by rw [List.getElem?_eq_getElem hn, z])
    rw [h1] at h; exact dHO_ne_ext (Option.some.inj h)
  | hid =>
    obtain ⟨o, u, h1⟩ := o.hd n (by rw [List.getElem?_eq_getElem hn, z])
    rw [h1] at h; cases h
/-- a list of the store is written -/
theorem Ok.write {st : Store} {n : Nat} {xs ys : List PV} {ws : List V} (o : Ok K μ st H) (hx : st[n]? = some (.lst xs)) (r : RVs K μ st.length H ys ws) :
    Stp μ st.length H μ (setAt st n ys).length (upd H (μ n) (.lst ws)) ∧ Ok K μ (setAt st n ys) (upd H (μ n) (.lst ws)) := by
  have hl : (setAt st n ys).length = st.length := by simp [setAt]
  have hn : n < st.length := (List.getElem?_eq_some_iff.mp hx).1
  obtain ⟨vs, hv, _⟩ := o.cell n xs hx
  have s : Stp μ st.length H μ (setAt st n ys).length (upd H (μ n) (.lst ws)) := by
    rw [hl]
    refine ⟨Nat.le_refl _, fun _ _ => rfl, fun b u h k _ => ?_, fun b zs h => ?_, fun b u z h => ?_, fun b h => ?_, fun k h1 h2 => absurd h2 (by omega), fun b p h => by rw [upd_ne (fun e => by rw [e, hv] at h; cases h)]; exact h⟩
    · rw [upd_ne (fun e => k n hn e.symm)]; exact h
    · rw [upd_ne (fun e => by rw [e, hv] at h; cases h)]; exact h
    · rw [upd_ne (fun e => by rw [e, hv] at h; cases h)]; exact h
    · by_cases e : b = μ n
      · rw [e, upd_same] at h; cases h
      · rw [upd_ne e] at h; exact h
  have other : ∀ {k : Nat} {x : Cell}, (∀ zs, x ≠ .lst zs) → (setAt st n ys)[k]? = some x → k < st.length ∧ k ≠ n ∧ st[k]? = some x := fun {k x} hx hk => by
    have ne : k ≠ n := fun e => by
      subst e
      have : (setAt st k ys)[k]? = some (.lst ys) := by simp [setAt, hn]
      rw [hk] at this; cases this
      exact hx ys rfl
    have hk' : st[k]? = some x := by
      rw [← hk]
      simp [setAt, List.getElem?_set_ne (Ne.symm ne)]
    exact ⟨(List.getElem?_eq_some_iff.mp hk').1, ne, hk'⟩
  refine ⟨s, ⟨fun a b ha hb e => o.inj a b (by omega) (by omega) e, fun k zs hk => ?_, fun k c fs hk => ?_, fun k P q hk => ?_, fun k t kvs hk => ?_, fun k hk => ?_⟩⟩
  rotate_left 3
  · obtain ⟨hkl, ne, hk'⟩ := other (by intro zs z; cases z) hk
    obtain ⟨ws2, a1, a2, a3⟩ := o.dc k t kvs hk'
    exact ⟨ws2, by rw [upd_ne (fun z => ne (o.inj k n hkl hn z))]; exact a1, RVs.mono s a2, a3⟩
  · obtain ⟨hkl, ne, hk'⟩ := other (by intro zs z; cases z) hk
    obtain ⟨ob, u, a1⟩ := o.hd k hk'
    exact ⟨ob, u, by rw [upd_ne (fun z => ne (o.inj k n hkl hn z))]; exact a1⟩
  rotate_left 2
  · have ne : k ≠ n := fun e => by
      subst e
      have : (setAt st k ys)[k]? = some (.lst ys) := by simp [setAt, hn]
      rw [hk] at this; cases this
    have hk' : st[k]? = some (.tab P q) := by
      rw [← hk]
      simp [setAt, List.getElem?_set_ne (Ne.symm ne)]
    obtain ⟨e1, t⟩ := o.tb k P q hk'
    have hkl : k < st.length := (List.getElem?_eq_some_iff.mp hk').1
    refine ⟨e1, tab_of t (fun ps h => ?_) fun c h => ?_⟩
    · rw [upd_ne (fun z => ne (o.inj k n hkl hn (by rw [e1]; exact z)))]; exact h
    · rw [upd_ne (fun z => o.noCode h n hn z.symm)]; exact h
  rotate_left
  · have ne : k ≠ n := fun e => by
      subst e
      have : (setAt st k ys)[k]? = some (.lst ys) := by simp [setAt, hn]
      rw [hk] at this; cases this
    have hk' : st[k]? = some (.ins c fs) := by
      rw [← hk]
      simp [setAt, List.getElem?_set_ne (Ne.symm ne)]
    obtain ⟨C, dx, gs, a1, a2, a3, a4⟩ := o.ob k c fs hk'
    have hkl : k < st.length := (List.getElem?_eq_some_iff.mp hk').1
    refine ⟨C, dx, gs, a1, ?_, a3, RVs.mono s a4⟩
    rw [upd_ne (fun z => ne (o.inj k n hkl hn z))]
    exact a2
  by_cases e : k = n
  · subst e
    have e2 : zs = ys := by
      have hk' : some (Cell.lst ys) = some (.lst zs) := by
        rw [← hk]
        simp [setAt, hn]
      cases hk'; rfl
    subst e2
    exact ⟨ws, upd_same, RVs.mono s r⟩
  · have hk' : st[k]? = some (.lst zs) := by
      rw [← hk]
      simp [setAt, List.getElem?_set_ne (Ne.symm e)]
    obtain ⟨us, h1, h2⟩ := o.cell k zs hk'
    have hkl : k < st.length := (List.getElem?_eq_some_iff.mp hk').1
    refine ⟨us, ?_, RVs.mono s h2⟩
    rw [upd_ne (fun z => e (o.inj k n hkl hn z))]
    exact h1
/-- a new object is laid -/
theorem Stp.laid {p : Addr} {u : HO} (h : H p = none) : Stp μ L H μ L (upd H p u) := by
  refine ⟨Nat.le_refl _, fun _ _ => rfl, fun b o hb _ _ => ?_, fun b o hb => ?_, fun b o z hb => ?_, fun b hb => ?_, fun n h1 h2 => absurd h2 (by omega), fun b p hb => by rw [upd_ne (ne_of_none hb h)]; exact hb⟩
  · rw [upd_ne (ne_of_none hb h)]; exact hb
  · rw [upd_ne (ne_of_none hb h)]; exact hb
  · rw [upd_ne (ne_of_none hb h)]; exact hb
  · by_cases e : b = p
    · rw [e, upd_same] at hb; cases hb
    · rw [upd_ne e] at hb; exact hb
theorem Ok.stp {st : Store} (o : Ok K μ st H) (s : Stp μ st.length H μ st.length H1) (k : ∀ n, n < st.length → ∀ u, H (μ n) = some u → H1 (μ n) = some u) : Ok K μ st H1 :=
  ⟨o.inj, fun n xs h => by
    obtain ⟨vs, h1, h2⟩ := o.cell n xs h
    exact ⟨vs, k n (List.getElem?_eq_some_iff.mp h).1 _ h1, RVs.mono s h2⟩, fun n c fs h => by
    obtain ⟨C, dx, gs, a1, a2, a3, a4⟩ := o.ob n c fs h
    exact ⟨C, dx, gs, a1, k n (List.getElem?_eq_some_iff.mp h).1 _ a2, a3, RVs.mono s a4⟩, fun n P q h => by
    obtain ⟨e1, t⟩ := o.tb n P q h
    refine ⟨e1, tab_of t (fun ps h1 => ?_) fun c h1 => s.keep _ _ h1 (o.noCode h1) fun z => z⟩
    have := k n (List.getElem?_eq_some_iff.mp h).1 (.tbl ps) (by rw [e1]; exact h1)
    rw [e1] at this; exact this, fun n t kvs h => by
    obtain ⟨ws, a1, a2, a3⟩ := o.dc n t kvs h
    exact ⟨ws, k n (List.getElem?_eq_some_iff.mp h).1 _ a1, RVs.mono s a2, a3⟩, fun n h => by
    obtain ⟨ob, u, a1⟩ := o.hd n h
    exact ⟨ob, u, k n (List.getElem?_eq_some_iff.mp h).1 _ a1⟩⟩
theorem Ok.laid {st : Store} {p : Addr} {u : HO} (o : Ok K μ st H) (h : H p = none) : Ok K μ st (upd H p u) :=
  o.stp (Stp.laid h) fun n _ u hu => by rw [upd_ne (ne_of_none hu h)]; exact hu
theorem Ok.apart {st : Store} {p : Addr} (o : Ok K μ st H) (h : H p = none) : ∀ n, n < st.length → μ n ≠ p := fun n hn e => by
  obtain ⟨u, h1⟩ := o.at_ hn
  rw [e, h] at h1
  cases h1
mutual
/-- one place more -/
theorem RV.grow {a : Addr} : ∀ {x : PV} {v : V}, x.isFl = false → RV K μ L H x v → RV K (fun k => if k = L then a else μ k) (L + 1) H x v
  | _, _, _, .non => .non
  | _, _, _, .bl b => .bl b
  | _, _, _, .int i => .int i
  | _, _, _, .str z => .str z
  | _, _, _, .tup h r k => .tup h (RVs.grow r a) k
  | _, _, _, .loc (n := n) h => by
    have : RV K (fun k => if k = L then a else μ k) (L + 1) H (.loc n) (.ref ((fun k => if k = L then a else μ k) n)) := .loc (by omega)
    have e : (fun k => if k = L then a else μ k) n = μ n := if_neg (by omega)
    rw [e] at this
    exact this
  | _, _, f, .fl _ _ _ => by cases f
  | _, _, _, .rol h r => .rol h (RVs.grow r a)
  | _, _, _, .fnv h => .fnv h
theorem RVs.grow : ∀ {xs : List PV} {vs : List V}, RVs K μ L H xs vs → ∀ a : Addr, RVs K (fun k => if k = L then a else μ k) (L + 1) H xs vs
  | _, _, .nil, _ => .nil
  | _, _, .cons f h r, a => .cons f (RV.grow f h) (RVs.grow r a)
end
/-- fresh behind H -/
def Fr (H : Hp) : PV → V → Prop
  | .fl _, .ref a => H a = none
  | _, _ => True
theorem Fr.back {x : PV} {v : V} (s : StX S μ L H μ1 L1 H1) (f : Fr H1 x v) : Fr H x v := by
  unfold Fr at f ⊢
  split <;> simp_all
  exact s.there _ f
theorem fr_of {x : PV} {v : V} (h : x.isFl = false) : Fr H x v := by
  cases x <;> first | trivial | cases h
/-- a fresh list comes to be shared -/
theorem Ok.esc {μ0 : Nat → Addr} {L0 : Nat} {H0 : Hp} {st : Store} {x : PV} {v : V} (s : Stp μ0 L0 H0 μ st.length H) (o : Ok K μ st H) (r : RV K μ st.length H x v) (f : Fr H0 x v) :
    ∃ μ', Stp μ0 L0 H0 μ' (esc x st).2.length H ∧ Ok K μ' (esc x st).2 H ∧ RV K μ' (esc x st).2.length H (esc x st).1 v ∧ (esc x st).1.isFl = false ∧ (∀ n, n < st.length → μ' n = μ n) := by
  cases x with
  | fl xs =>
    cases r with
    | fl h n r =>
      rename_i a vs
      have f : H0 a = none := f
      have el : (U.esc (PV.fl xs) st).2.length = st.length + 1 := by simp [U.esc]
      refine ⟨fun k => if k = st.length then a else μ k, ?_, ?_, ?_, rfl, fun k hk => if_neg (by omega)⟩
      · rw [el]
        refine ⟨by have := s.le; omega, fun k hk => ?_, s.keep, s.tup, s.frz, s.there, fun k h1 h2 => ?_, s.cod⟩
        · show (if k = st.length then a else μ k) = μ0 k
          rw [if_neg (by have := s.le; omega)]
          exact s.ext k hk
        · show H0 (if k = st.length then a else μ k) = none
          by_cases e : k = st.length
          · rw [if_pos e]; exact f
          · rw [if_neg e]; exact s.new k h1 (by omega)
      · have grow : ∀ {zs : List PV} {us : List V}, RVs K μ st.length H zs us → RVs K (fun k => if k = st.length then a else μ k) (st.length + 1) H zs us := by
          have go : ∀ (m : Nat), True := fun _ => trivial
          intro zs us q
          exact RVs.grow q a
        have old : ∀ {k : Nat} {x : Cell}, (∀ zs, x ≠ .lst zs) → (st ++ [Cell.lst xs])[k]? = some x → k ≠ st.length ∧ st[k]? = some x := fun {k x} hx hk => by
          have h1 : k ≠ st.length := fun h1 => by subst h1; simp at hk; exact hx _ hk.symm
          refine ⟨h1, ?_⟩
          by_cases h2 : k < st.length
          · rw [List.getElem?_append_left h2] at hk; exact hk
          · rw [List.getElem?_eq_none (by simp; omega)] at hk; cases hk
        refine ⟨fun k m hk hm e => ?_, fun k zs hk => ?_, fun k c fs hk => ?_, fun k P q hk => ?_, fun k t kvs hk => ?_, fun k hk => ?_⟩
        rotate_left 4
        · obtain ⟨h1, hk2⟩ := old (by intro zs z; cases z) (show (st ++ [Cell.lst xs])[k]? = some (.dct t kvs) from hk)
          obtain ⟨ws, a1, a2, a3⟩ := o.dc k t kvs hk2
          rw [el]
          exact ⟨ws, by simpa [h1] using a1, grow a2, a3⟩
        · obtain ⟨h1, hk2⟩ := old (by intro zs z; cases z) (show (st ++ [Cell.lst xs])[k]? = some .hid from hk)
          obtain ⟨ob, u, a1⟩ := o.hd k hk2
          exact ⟨ob, u, by simpa [h1] using a1⟩
        rotate_left 3
        · have hk : (st ++ [Cell.lst xs])[k]? = some (.tab P q) := hk
          have h1 : k ≠ st.length := fun h1 => by subst h1; simp at hk
          have hk2 : st[k]? = some (.tab P q) := by
            by_cases h2 : k < st.length
            · rw [List.getElem?_append_left h2] at hk; exact hk
            · rw [List.getElem?_eq_none (by simp; omega)] at hk; cases hk
          obtain ⟨e1, t⟩ := o.tb k P q hk2
          exact ⟨by simpa [h1] using e1, t⟩
        rotate_left 2
        · rw [el]
          have hk : (st ++ [Cell.lst xs])[k]? = some (.ins c fs) := hk
          have h1 : k ≠ st.length := fun h1 => by subst h1; simp at hk
          have hk2 : st[k]? = some (.ins c fs) := by
            by_cases h2 : k < st.length
            · rw [List.getElem?_append_left h2] at hk; exact hk
            · rw [List.getElem?_eq_none (by simp; omega)] at hk; cases hk
          obtain ⟨C, dx, gs, a1, a2, a3, a4⟩ := o.ob k c fs hk2
          exact ⟨C, dx, gs, a1, by simpa [h1] using a2, a3, grow a4⟩
        · rw [el] at hk hm
          have e : (if k = st.length then a else μ k) = (if m = st.length then a else μ m) := e
          by_cases h1 : k = st.length
          · by_cases h2 : m = st.length
            · omega
            · rw [if_pos h1, if_neg h2] at e
              exact absurd e.symm (n m (by omega))
          · by_cases h2 : m = st.length
            · rw [if_neg h1, if_pos h2] at e
              exact absurd e (n k (by omega))
            · rw [if_neg h1, if_neg h2] at e
              exact o.inj k m (by omega) (by omega) e
        · rw [el]
          have hk : (st ++ [Cell.lst xs])[k]? = some (.lst zs) := hk
          by_cases h1 : k = st.length
          · subst h1
            have e : xs = zs := by simpa using hk
            subst e
            exact ⟨vs, by simpa using h, grow r⟩
          · have hk2 : st[k]? = some (.lst zs) := by
              by_cases h2 : k < st.length
              · rw [List.getElem?_append_left h2] at hk; exact hk
              · rw [List.getElem?_eq_none (by simp; omega)] at hk; cases hk
            obtain ⟨us, h2, h3⟩ := o.cell k zs hk2
            exact ⟨us, by simpa [h1] using h2, grow h3⟩
      · rw [el]
        have : RV K (fun k => if k = st.length then a else μ k) (st.length + 1) H (.loc st.length) (.ref ((fun k => if k = st.length then a else μ k) st.length)) := .loc (by omega)
        have e : (fun k => if k = List.length st then a else μ k) (List.length st) = a := if_pos rfl
        rw [e] at this
        exact this
  | _ => exact ⟨μ, s, o, r, rfl, fun _ _ => rfl⟩
end
end U

set_option maxHeartbeats 4000000
/-! U3: the operations, from the store's data to the heap's. -/
namespace U
open PySem PySem.Spec PyProof.Rows L2

section
variable {K : PySem.W.Frag} {μ : Nat → Addr} {st : Store} {H : Hp}
/-- what is wanted behind an operation that leaves the store -/
def Go (K : PySem.W.Frag) (μ : Nat → Addr) (st : Store) (H : Hp) (v : PV) (Q : VK) : Prop :=
  ∀ H' v', Stp μ st.length H μ st.length H' → Ok K μ st H' → RV K μ st.length H' v v' → Fr H v v' → Q v' H'
theorem Go.same {v : PV} {v' : V} {Q : VK} (g : Go K μ st H v Q) (o : Ok K μ st H) (r : RV K μ st.length H v v') (f : v.isFl = false) : Q v' H := g H v' StX.refl o r (fr_of f)
theorem Go.lst {xs : List PV} {vs : List V} {Q : VK} (g : Go K μ st H (.fl xs) Q) (o : Ok K μ st H) (r : RVs K μ st.length H xs vs) : ∀ p, H p = none → Q (.ref p) (upd H p (.lst vs)) := fun p hp =>
  g _ _ (Stp.laid hp) (o.laid hp) (.fl upd_same (o.apart hp) (RVs.mono (Stp.laid hp) r)) hp
theorem Go.tup {xs : List PV} {vs : List V} {Q : VK} (g : Go K μ st H (.tup xs) Q) (o : Ok K μ st H) (r : RVs K μ st.length H xs vs) : ∀ p, H p = none → Q (.ref p) (upd H p (.tup vs)) := fun p hp =>
  g _ _ (Stp.laid hp) (o.laid hp) (.tup (SqT.of upd_same) (RVs.mono (Stp.laid hp) r) (.inl upd_same)) trivial

theorem list_at {x : PV} {x' : V} {xs : List PV} (o : Ok K μ st H) (r : RV K μ st.length H x x') (h : listOf x st = some xs) : ∃ a vs, x' = .ref a ∧ H a = some (.lst vs) ∧ RVs K μ st.length H xs vs := by
  cases r with
  | fl h1 n r1 =>
    cases h
    exact ⟨_, _, rfl, h1, r1⟩
  | loc hn =>
    rename_i n
    unfold listOf at h
    cases q : st[n]? with
    | none => simp only [q] at h; cases h
    | some c =>
      cases c with
      | lst ys =>
        simp only [q] at h
        cases h
        obtain ⟨vs, h1, h2⟩ := o.cell n _ q
        exact ⟨_, _, rfl, h1, h2⟩
      | ins c fs => simp only [q] at h; cases h
      | tab P w => simp only [q] at h; cases h
      | dct t kvs => simp only [q] at h; cases h
      | hid => simp only [q] at h; cases h
  | _ => cases h
theorem seq_at {x : PV} {x' : V} {xs : List PV} (o : Ok K μ st H) (r : RV K μ st.length H x x') (h : seqOf x st = some xs) : ∃ a vs, x' = .ref a ∧ (SqL K H a vs ∨ SqT K H a vs) ∧ RVs K μ st.length H xs vs := by
  cases r with
  | tup h1 r1 k1 => cases h; exact ⟨_, _, rfl, .inr h1, r1⟩
  | rol h1 r1 => cases h; exact ⟨_, _, rfl, .inl h1.sq, r1⟩
  | fl h1 n r1 => cases h; exact ⟨_, _, rfl, .inl (SqL.of h1), r1⟩
  | loc hn =>
    rename_i n
    unfold seqOf at h
    cases q : st[n]? with
    | none => simp only [q] at h; cases h
    | some c =>
      cases c with
      | lst ys =>
        simp only [q] at h
        cases h
        obtain ⟨vs, h1, h2⟩ := o.cell n _ q
        exact ⟨_, _, rfl, .inl (SqL.of h1), h2⟩
      | ins c fs => simp only [q] at h; cases h
      | tab P w => simp only [q] at h; cases h
      | dct t kvs => simp only [q] at h; cases h
      | hid => simp only [q] at h; cases h
  | _ => cases h
theorem seq_lst {n : Nat} {xs : List PV} {st : Store} (h : seqOf (.loc n) st = some xs) : ∃ xs, st[n]? = some (.lst xs) := by
  unfold seqOf at h
  simp only at h
  split at h
  · rename_i ys q; exact ⟨ys, q⟩
  · cases h
theorem RVs.nil_iff {L : Nat} {xs : List PV} {vs : List V} (r : RVs K μ L H xs vs) : xs.isEmpty = vs.isEmpty := by cases r <;> rfl

variable {X : Cx} {σ : L2.St} {pins : List (Addr × Obj)}
theorem OpR.imp {f : Value → Value → Sem Value} {r r' : R2} (h : OpR X f r) (i : ∀ x y H Q, r' x y H Q → r x y H Q) : OpR X f r' := fun pins s σ H x y v u Q I rx ry q => h pins s σ H x y v u Q I rx ry (i _ _ _ _ q)
theorem CallR.imp {f : Value} {r r' : List V → Hp → VK → Prop} (h : CallR X f r) (i : ∀ xs H Q, r' xs H Q → r xs H Q) : CallR X f r' := fun pins s σ H xs us Q I rx q => h pins s σ H xs us Q I rx (i _ _ _ q)
theorem MtR.imp {id : String} {r r' : V → List V → Hp → VK → Prop} (h : MtR X id r) (i : ∀ x xs H Q, r' x xs H Q → r x xs H Q) : MtR X id r' := fun pins s σ H x xs v us Q I rx rs q => h pins s σ H x xs v us Q I rx rs (i _ _ _ _ q)
theorem IxR.imp {r r' : R2} (h : IxR X r) (i : ∀ x y H Q, r' x y H Q → r x y H Q) : IxR X r' := fun a b pins s σ H x y v u Q I rx ry q hs => h a b pins s σ H x y v u Q I rx ry (i _ _ _ _ q) hs
theorem SlR.imp {r r' : V → Option Int → Option Int → Hp → VK → Prop} (h : SlR X r) (i : ∀ x l u H Q, r' x l u H Q → r x l u H Q) : SlR X r' := fun pins s σ H x v vl vu lo hi sl Q I rx hs pl pu q => h pins s σ H x v vl vu lo hi sl Q I rx hs pl pu (i _ _ _ _ _ q)

/-- the reading of an operation on values -/
def rO (K : PySem.W.Frag) (f : PV → PV → Store → Option PV) : R2 := fun x' y' H Q => ∃ μ st x y v, Ok K μ st H ∧ RV K μ st.length H x x' ∧ RV K μ st.length H y y' ∧ f x y st = some v ∧ Go K μ st H v Q

/-- text * int -/
def rMulS : R2 := fun x y H Q => ∃ z j, x = .str z ∧ y = .int j ∧ -1000000 ≤ j ∧ j ≤ 1000000 ∧ z.length * j.toNat ≤ 1000000 ∧ Q (.str ⟨((List.replicate j.toNat z.cps.toList).flatten).toArray⟩) H
theorem fold_cps (a : Array Nat) : ∀ (n : Nat) (acc : Array Nat), (List.replicate n a).foldl (· ++ ·) acc = acc ++ ((List.replicate n a.toList).flatten).toArray
  | 0, acc => by simp
  | n + 1, acc => by
    rw [List.replicate_succ, List.foldl_cons, fold_cps a n, List.replicate_succ, List.flatten_cons]
    apply Array.toList_inj.mp
    simp
theorem op_mulS : OpR X (binaryOp .Mult) rMulS := by
  intro pins s σ H x y v u Q I rx ry h
  obtain ⟨z, j, rfl, rfl, h1, h2, hz, q⟩ := h
  obtain ⟨t, rfl⟩ := rx
  obtain ⟨t', rfl⟩ := ry
  have sl := sizeLine_eq
  refine P.mul_str ?_ (fun n1 n2 => ?_) (fun n1 n2 => ?_) ?_
  · rw [decide_eq_false (by omega), decide_eq_false (by omega)]; rfl
  · have n3 : 1 ≤ j := by omega
    intro c
    have hm : ((z.length * j.toNat : Nat) : Int) ≤ 1000000 := Int.ofNat_le.mpr hz
    have e : ((z.length * j.toNat : Nat) : Int) = (z.length : Int) * j := by
      rw [Int.natCast_mul, Int.toNat_of_nonneg (by omega)]
    rw [e] at hm
    have := (Int.le_ediv_iff_mul_le (by omega : 0 < j)).mpr (show (z.length : Int) * j ≤ 2 ^ 63 - 1 by omega)
    omega
  · show decide (z.length * j.toNat > sizeLine) = false
    exact decide_eq_false (by omega)
  · by_cases n1 : j < 1
    · rw [if_pos n1]
      refine ⟨by decide, .str _, H, I.tok _, ⟨_, rfl⟩, ?_⟩
      have e : j.toNat = 0 := by omega
      rw [e] at q
      exact q
    · rw [if_neg n1]
      by_cases n2 : (j == 1 || z.length == 0) = true
      · rw [if_pos n2]
        refine ⟨.str z, H, I, ⟨_, rfl⟩, ?_⟩
        have e : (⟨((List.replicate j.toNat z.cps.toList).flatten).toArray⟩ : Str) = z := by
          refine TL.ext_tl ?_
          show ((List.replicate j.toNat z.cps.toList).flatten) = z.cps.toList
          rcases (by simpa using n2 : j = 1 ∨ z.length = 0) with e | e
          · subst e
            simp
          · have e2 : z.cps.toList = [] := by
              have h0 := TL.len_tl z
              exact List.length_eq_zero_iff.mp (h0.symm.trans e)
            show _ = z.cps.toList
            rw [e2]
            simp
        rw [e] at q
        exact q
      · rw [if_neg n2]
        have e : ((List.replicate j.toNat z.cps).foldl (· ++ ·) #[]) = ((List.replicate j.toNat z.cps.toList).flatten).toArray := by
          rw [fold_cps]; simp
        refine ⟨?_, .str _, H, I.tok _, ⟨_, rfl⟩, ?_⟩
        · rw [e]
          show ((List.replicate j.toNat z.cps.toList).flatten).toArray.size ≤ sizeLine
          have : ((List.replicate j.toNat z.cps.toList).flatten).length = j.toNat * z.length := by
            rw [List.length_flatten, List.map_replicate, List.sum_replicate_nat]
            rfl
          rw [List.size_toArray, this, Nat.mul_comm]
          omega
        · rw [e]; exact q
def bop : BOp → Operator
  | .add => .Add | .sub => .Sub | .mul => .Mult | .fdiv => .FloorDiv | .mod => .Mod | .pow => .Pow
theorem op_bin (o : BOp) : OpR X (binaryOp (bop o)) (rO X.K (binV o)) := by
  cases o with
  | add =>
    refine OpR.imp (op_add.or (op_add_str.or (op_catA.or op_cat))) fun x y H Q ⟨μ, st, a, b, v, o, ra, rb, e, g⟩ => ?_
    unfold binV at e
    split at e
    case _ _ _ _ i j h1 => cases ra; cases rb; cases e; exact .inl ⟨i, j, rfl, rfl, g.same o (.int _) rfl⟩
    case _ _ _ _ i j h1 =>
      cases ra; cases rb
      split at e
      · rename_i hz
        cases e
        exact .inr (.inl ⟨i, j, rfl, rfl, hz, g.same o (.str _) rfl⟩)
      · cases e
    case _ xs ys h1 =>
      cases ra with
      | tup h1 r1 k1 =>
        cases rb with
        | tup h2 r2 k2 =>
          split at e
          · rename_i hz
            cases e
            rename_i a1 v1 a2 v2
            have l1 := r1.len
            have l2 := r2.len
            refine .inr (.inr (.inl ⟨_, _, _, _, rfl, rfl, h1, h2, by omega, fun z => ?_, fun z z2 => ?_, fun _ _ => g.tup o (r1.app r2)⟩))
            · subst z
              cases r1
              exact g.same o (.tup h2 r2 k2) rfl
            · subst z2
              cases r2
              rw [List.append_nil] at g
              exact g.same o (.tup h1 r1 k1) rfl
          · cases e
    case _ =>
      split at e
      · rename_i xs ys h1 h2
        split at e
        · rename_i hz
          cases e
          obtain ⟨a1, v1, rfl, q1, r1⟩ := list_at o ra h1
          obtain ⟨a2, v2, rfl, q2, r2⟩ := list_at o rb h2
          have l1 := r1.len
          have l2 := r2.len
          exact .inr (.inr (.inr ⟨a1, a2, v1, v2, rfl, rfl, q1, q2, by omega, g.lst o (r1.app r2)⟩))
        · cases e
      · cases e
    all_goals contradiction
  | sub =>
    refine OpR.imp op_sub fun x y H Q ⟨μ, st, a, b, v, o, ra, rb, e, g⟩ => ?_
    unfold binV at e
    split at e <;> first | contradiction | (cases ra; cases rb; cases e; exact ⟨_, _, rfl, rfl, g.same o (.int _) rfl⟩) | cases e
  | mul =>
    refine OpR.imp (op_mul.or (op_mulS.or (op_rep.or op_repT))) fun x y H Q ⟨μ, st, a, b, v, o, ra, rb, e, g⟩ => ?_
    unfold binV at e
    split at e <;> first | contradiction | skip
    · cases ra; cases rb
      split at e
      · rename_i hc
        cases e
        refine .inl ⟨_, _, rfl, rfl, ?_, g.same o (.int _) rfl⟩
        simpa [ckM, CMul] using hc
      · cases e
    · cases ra; cases rb
      split at e
      · rename_i hc
        cases e
        exact .inr (.inl ⟨_, _, rfl, rfl, hc.1, hc.2.1, hc.2.2, g.same o (.str _) rfl⟩)
      · cases e
    · cases rb
      split at e
      · rename_i hc
        cases e
        cases ra with
        | tup h1 r1 =>
          have l1 := r1.len
          exact .inr (.inr (.inr ⟨_, _, _, rfl, rfl, h1, (fun z => by
            rw [z] at l1
            have e0 := List.length_eq_zero_iff.mp l1
            have := hc.1
            rw [e0] at this
            cases this), hc.2.1, hc.2.2.1, by omega, g.tup o (r1.reps _)⟩))
      · cases e
    · split at e
      · rename_i j _ _ _ _ _ xs h1
        split at e
        · rename_i hc
          cases e
          obtain ⟨a1, v1, rfl, q1, r1⟩ := list_at o ra h1
          cases rb
          have l1 := r1.len
          have sl := sizeLine_eq
          have hm : v1.length * j.toNat ≤ 1000 * 1000 := Nat.mul_le_mul (by omega) (by omega)
          exact .inr (.inr (.inl ⟨a1, _, v1, rfl, rfl, q1, by omega, by omega, by omega, g.lst o (r1.reps j.toNat)⟩))
        · cases e
      · cases e
  | fdiv =>
    refine OpR.imp op_fdiv fun x y H Q ⟨μ, st, a, b, v, o, ra, rb, e, g⟩ => ?_
    unfold binV at e
    split at e <;> first | contradiction | skip
    · cases ra; cases rb
      split at e
      · rename_i hc
        cases e
        exact ⟨_, _, rfl, rfl, hc, g.same o (.int _) rfl⟩
      · cases e
  | mod =>
    refine OpR.imp op_mod fun x y H Q ⟨μ, st, a, b, v, o, ra, rb, e, g⟩ => ?_
    unfold binV at e
    split at e <;> first | contradiction | skip
    · cases ra; cases rb
      split at e
      · rename_i hc
        cases e
        exact ⟨_, _, rfl, rfl, hc, g.same o (.int _) rfl⟩
      · cases e
  | pow =>
    refine OpR.imp op_pow fun x y H Q ⟨μ, st, a, b, v, o, ra, rb, e, g⟩ => ?_
    unfold binV at e
    split at e <;> first | contradiction | skip
    · cases ra; cases rb
      split at e
      · rename_i hc
        cases e
        exact ⟨_, _, rfl, rfl, hc, g.same o (.int _) rfl⟩
      · cases e
end
end U

set_option maxHeartbeats 4000000
/-! U4: comparisons, items, slices, built-in functions and methods. -/
namespace U
open PySem PySem.Spec PyProof.Rows L2
section
variable {K : PySem.W.Frag} {μ : Nat → Addr} {L : Nat} {st : Store} {H : Hp} {X : Cx} {σ : L2.St} {pins : List (Addr × Obj)}
theorem flV_at {x : PV} {v v' : V} (r : RV K μ L H x v') (h : flV x = some v) : v' = v ∧ flatV v = true := by
  cases r <;> first | (cases h; exact ⟨rfl, rfl⟩) | cases h
theorem flL_at : ∀ {xs : List PV} {vs vs' : List V}, RVs K μ L H xs vs' → flL xs = some vs → vs' = vs ∧ vs.all flatV = true
  | _, _, _, .nil, h => by cases h; exact ⟨rfl, rfl⟩
  | _, _, _, .cons (x := x) (xs := xs) f r rs, h => by
    unfold flL at h
    cases h1 : flV x with
    | none => rw [h1] at h; cases h
    | some v =>
      cases h2 : flL xs with
      | none => rw [h1, h2] at h; cases h
      | some vs =>
        rw [h1, h2] at h
        cases h
        obtain ⟨e1, f1⟩ := flV_at r h1
        obtain ⟨e2, f2⟩ := flL_at rs h2
        subst e1; subst e2
        exact ⟨rfl, by simp [f1, f2]⟩
def cop : COp → CmpOp
  | .eq => .Eq | .ne => .NotEq | .lt => .Lt | .le => .LtE | .gt => .Gt | .ge => .GtE | .isN => .Is | .notN => .IsNot | .inn => .In | .nin => .NotIn
/-- the reading of a comparison -/
def rC (K : PySem.W.Frag) (f : PV → PV → Store → Option Bool) : R2 := fun x' y' H Q => ∃ μ st x y k, Ok K μ st H ∧ RV K μ st.length H x x' ∧ RV K μ st.length H y y' ∧ f x y st = some k ∧ Q (.bl k) H
theorem eqS_at {x y : PV} {x' y' : V} {k : Bool} (rx : RV K μ L H x x') (ry : RV K μ L H y y') (h : eqS x y = some k) : scal x' y' = true ∧ k = decide (x' = y') := by
  unfold eqS at h
  cases h1 : flV x with
  | none => rw [h1] at h; cases h
  | some v =>
    cases h2 : flV y with
    | none => rw [h1, h2] at h; cases h
    | some w =>
      rw [h1, h2] at h
      obtain ⟨e1, _⟩ := flV_at rx h1
      obtain ⟨e2, _⟩ := flV_at ry h2
      subst e1; subst e2
      simp only at h
      split at h
      · rename_i hs
        cases h
        exact ⟨hs, rfl⟩
      · cases h
theorem inV_at {x y : PV} {x' y' : V} {k : Bool} (o : Ok K μ st H) (rx : RV K μ st.length H x x') (ry : RV K μ st.length H y y') (h : U.inV x y st = some k) :
    (∃ c z, x' = .str ⟨#[c]⟩ ∧ y' = .str z ∧ k = decide (c ∈ z.cps.toList)) ∨ ∃ p xs, y' = .ref p ∧ (SqL K H p xs ∨ SqT K H p xs) ∧ flatV x' = true ∧ xs.all flatV = true ∧ k = L2.inV x' xs := by
  unfold U.inV at h
  split at h
  · cases rx; cases ry
    split at h
    · rename_i c hc
      cases h
      exact .inl ⟨c, _, congrArg V.str (TL.ext_tl hc), rfl, rfl⟩
    · cases h
  · split at h
    · rename_i ys hy
      obtain ⟨a, vs, rfl, q, r⟩ := seq_at o ry hy
      unfold memF at h
      cases h1 : flV x with
      | none => rw [h1] at h; cases h
      | some v =>
        cases h2 : flL ys with
        | none => rw [h1, h2] at h; cases h
        | some ws =>
          rw [h1, h2] at h
          cases h
          obtain ⟨e1, f1⟩ := flV_at rx h1
          obtain ⟨e2, f2⟩ := flL_at r h2
          subst e1; subst e2
          exact .inr ⟨a, _, rfl, q, f1, f2, rfl⟩
    · cases h
theorem truth_at {x : PV} {x' : V} {k : Bool} (o : Ok K μ st H) (r : RV K μ st.length H x x') (h : truth x st = some k) : TruV K x' H k := by
  have seqs : ∀ {y : PV} {y' : V}, RV K μ st.length H y y' → (seqOf y st).map (fun xs => !xs.isEmpty) = some k → TruV K y' H k := fun {y y'} r e => by
    obtain ⟨xs, h1, rfl⟩ := Option.map_eq_some_iff.mp e
    obtain ⟨a, vs, rfl, q, rs⟩ := seq_at o r h1
    rw [rs.nil_iff]
    rcases q with q | q
    · exact .inl ⟨vs, q, rfl⟩
    · exact .inr (.inl ⟨vs, q, rfl⟩)
  cases x with
  | non => cases r; cases h; rfl
  | bl b => cases r; cases h; rfl
  | int i => cases r; cases h; rfl
  | fnv f c q => cases h
  | str s =>
    cases r
    unfold truth at h
    simp only at h
    split at h
    · rename_i hz
      cases h
      exact ⟨hz, rfl⟩
    · cases h
  | tup xs => exact seqs r h
  | fl xs => exact seqs r h
  | rol xs => exact seqs r h
  | loc n => exact seqs r h

/-- items -/
theorem atI_map {L : Nat} {xs : List PV} {vs : List V} {i : Int} {x : PV} (r : RVs K μ L H xs vs) (h : atI xs i = some x) : ∃ v, atI vs i = some v ∧ RV K μ L H x v ∧ x.isFl = false := by
  unfold atI at h ⊢
  rw [← r.len]
  cases q : ixN xs.length i with
  | none => rw [q] at h; cases h
  | some j =>
    rw [q] at h
    exact r.get h
theorem op_ix : IxR X (rO X.K ixV) := by
  refine IxR.imp ix_seq fun x y H Q ⟨μ, st, a, b, v, o, ra, rb, e, g⟩ => ?_
  unfold ixV at e
  split at e
  · cases rb
    split at e
    · cases ra
      split at e
      · rename_i hz
        obtain ⟨c, hc, rfl⟩ := Option.map_eq_some_iff.mp e
        exact .inr (.inr ⟨_, _, c, rfl, rfl, hz, hc, g.same o (.str _) rfl⟩)
      · cases e
    · split at e
      · rename_i xs hx
        obtain ⟨p, vs, rfl, q, r⟩ := seq_at o ra hx
        obtain ⟨w, h1, h2, h3⟩ := atI_map r e
        rcases q with q | q
        · exact .inl ⟨p, vs, _, w, rfl, rfl, q, h1, g.same o h2 h3⟩
        · exact .inr (.inl ⟨p, vs, _, w, rfl, rfl, q, h1, g.same o h2 h3⟩)
      · cases e
  · cases e
/-- slices -/
theorem cut_at {L : Nat} {xs : List PV} {vs : List V} (r : RVs K μ L H xs vs) (lo hi : Option Int) : RVs K μ L H (cutL xs lo hi) (cutV vs lo hi) := by
  unfold cutL cutV
  rw [← r.len]
  exact (r.drop _).take _
theorem RVs.empty {L : Nat} {xs : List PV} {vs : List V} (r : RVs K μ L H xs vs) : xs = [] ↔ vs = [] := by cases r <;> simp
def rS (K : PySem.W.Frag) : V → Option Int → Option Int → Hp → VK → Prop := fun x' lo hi H Q => ∃ μ st x v, Ok K μ st H ∧ RV K μ st.length H x x' ∧ slV x lo hi st = some v ∧ Go K μ st H v Q
theorem op_sl : SlR X (rS X.K) := by
  refine SlR.imp (sl_str.or (sl_tupA.or sl_list)) fun x lo hi H Q ⟨μ, st, a, v, o, ra, e, g⟩ => ?_
  have lists : ∀ {xs : List PV} {p : Addr} {vs : List V}, (some (PV.fl (cutL xs lo hi)) = some v) → SqL X.K H p vs → RVs X.K μ st.length H xs vs → rSlL X.K (.ref p) lo hi H Q := fun e q r => by
    cases e
    exact ⟨_, _, rfl, q, g.lst o (cut_at r lo hi)⟩
  cases ra with
  | str z =>
    unfold slV at e
    simp only at e
    split at e
    · rename_i hz
      cases e
      exact .inl ⟨_, rfl, hz, g.same o (.str _) rfl⟩
    · cases e
  | @tup xs1 _ _ h1 r1 k1 =>
    cases e
    refine .inr (.inl ⟨_, _, rfl, h1, fun z => ?_, fun _ => g.tup o (cut_at r1 lo hi)⟩)
    have w : ∀ {α : Type} (l : List α), HT.sIx l.length 0 lo = 0 ∧ HT.sIx l.length l.length hi = l.length → (l.drop (HT.sIx l.length 0 lo)).take (HT.sIx l.length l.length hi - HT.sIx l.length 0 lo) = l := fun l z => by
      rw [z.1, z.2]; simp
    rw [← r1.len] at z
    have e1 : cutL xs1 lo hi = xs1 := w xs1 z
    rw [e1] at g
    exact g.same o (.tup h1 r1 k1) rfl
  | fl h1 n r1 => exact .inr (.inr (lists e (SqL.of h1) r1))
  | rol h1 r1 => exact .inr (.inr (lists e h1.sq r1))
  | @loc n hn =>
    unfold slV at e
    simp only at e
    split at e
    · rename_i xs hx
      obtain ⟨p, vs, hp, hq, r⟩ := list_at o (.loc hn) (show listOf (.loc n) st = some xs from hx)
      rw [hp]
      exact .inr (.inr (lists e (SqL.of hq) r))
    · cases e
  | _ => cases e

/-! ### built-in functions -/
abbrev RAs (K : PySem.W.Frag) (μ : Nat → Addr) (L : Nat) (H : Hp) : List PV → List V → Prop := Paired (RV K μ L H)
def bfn : BF → Value
  | .len => .builtin "len" | .int => .type "int" | .abs => .builtin "abs" | .max => .builtin "max" | .min => .builtin "min" | .str => .type "str" | .repr => .builtin "repr" | .reprD => .builtin "repr"
  | .list => .type "list" | .tuple => .type "tuple" | .sum => .builtin "sum" | .all => .builtin "all" | .any => .builtin "any"
def rB (K : PySem.W.Frag) (f : BF) : List V → Hp → VK → Prop := fun vs H Q => ∃ μ st as v, Ok K μ st H ∧ RAs K μ st.length H as vs ∧ biV f as st = some v ∧ Go K μ st H v Q
theorem ints_at : ∀ {xs : List PV} {vs : List V} {ns : List Int}, RVs K μ L H xs vs → intsL xs = some ns → vs = ns.map V.int
  | _, _, _, .nil, h => by cases h; rfl
  | _, _, _, .cons (xs := xs) f r rs, h => by
    cases r <;> try cases h
    unfold intsL at h
    obtain ⟨ms, h1, rfl⟩ := Option.map_eq_some_iff.mp h
    rw [ints_at rs h1]; rfl
theorem bools_at : ∀ {xs : List PV} {vs : List V} {ns : List Bool}, RVs K μ L H xs vs → bools xs = some ns → vs = ns.map V.bl
  | _, _, _, .nil, h => by cases h; rfl
  | _, _, _, .cons (xs := xs) f r rs, h => by
    cases r <;> try cases h
    unfold bools at h
    obtain ⟨ms, h1, rfl⟩ := Option.map_eq_some_iff.mp h
    rw [bools_at rs h1]; rfl
theorem strs_at : ∀ {xs : List PV} {vs : List V} {ns : List Str}, RVs K μ L H xs vs → strsL xs = some ns → vs = ns.map V.str
  | _, _, _, .nil, h => by cases h; rfl
  | _, _, _, .cons (xs := xs) f r rs, h => by
    cases r <;> try cases h
    unfold strsL at h
    obtain ⟨ms, h1, rfl⟩ := Option.map_eq_some_iff.mp h
    rw [strs_at rs h1]; rfl
theorem rd_at {x : PV} {x' : V} {xs : List PV} (o : Ok K μ st H) (r : RV K μ st.length H x x') (h : rdOf x st = some xs) : ∃ a vs, x' = .ref a ∧ SqL K H a vs ∧ RVs K μ st.length H xs vs := by
  cases r with
  | rol h1 r1 => cases h; exact ⟨_, _, rfl, h1.sq, r1⟩
  | fl h1 n r1 => cases h; exact ⟨_, _, rfl, SqL.of h1, r1⟩
  | @loc n hn =>
    obtain ⟨p, vs, hp, hq, r⟩ := list_at o (.loc hn) (show listOf (.loc n) st = some xs from h)
    exact ⟨p, vs, hp, SqL.of hq, r⟩
  | _ => cases h
/-- repr(a bool) -/
theorem call_reprB : CallR X (.builtin "repr") (fun xs H Q => ∃ b, xs = [.bl b] ∧ Q (.str (if b then Str.ofString "True" else Str.ofString "False")) H) := by
  intro pins s σ H xs us Q I rx h
  obtain ⟨b, rfl, q⟩ := h
  obtain ⟨u, rfl, ru⟩ := vals1 rx
  cases ru
  exact PySem.P.repr_of_bool ⟨.str _, H, I.tok _, ⟨_, rfl⟩, q⟩
theorem call_reprBS : CallR X (.builtin "repr") (fun xs H Q => (∃ b, xs = [.bl b] ∧ Q (.str (if b then Str.ofString "True" else Str.ofString "False")) H) ∨ ∃ z, xs = [.str z] ∧ (reprText z).length ≤ sizeLine ∧ Q (.str (reprText z)) H) := by
  intro pins s σ H xs us Q I rx h
  rcases h with h | ⟨z, rfl, hz, q⟩
  · exact call_reprB pins s σ H xs us Q I rx h
  · obtain ⟨u, rfl, ru⟩ := vals1 rx
    obtain ⟨t, rfl⟩ := ru
    exact PySem.P.repr_of_str ⟨.str _, H, I.tok _, ⟨_, rfl⟩, q⟩ hz
theorem call_strIS : CallR X (.type "str") (fun xs H Q => (∃ i, xs = [.int i] ∧ i.natAbs.log2 < 1920 ∧ Q (.str (toString i)) H) ∨ ∃ a, xs = [.str a] ∧ Q (.str a) H) := by
  intro pins s σ H xs us Q I r h
  rcases h with h | ⟨a, rfl, q⟩
  · exact call_str_int pins s σ H xs us Q I r h
  · obtain ⟨u, rfl, t, rfl⟩ := vals1 r
    exact PySem.P.str_of_str ⟨.str a, H, I, ⟨t, rfl⟩, q⟩
theorem log_ok {i : Int} (h : i.natAbs < 1000000) : i.natAbs.log2 < 1920 := by
  by_cases h0 : i.natAbs = 0
  · rw [h0]; decide
  · have := (Nat.log2_lt h0 (k := 20)).mpr (by omega)
    omega
theorem call_reprG {X : Cx} (hg : X.A.guards = some []) : CallR X (.builtin "repr")
    (fun xs H Q => ∃ (a : Addr) (d : PyData), xs = [.ref a] ∧ Dp X.K H (.ref a) d ∧ d.showable = true ∧ d.hasDict = false ∧ X.A.units + (d.depth + 1) < cLine ∧ d.shown.length ≤ sizeLine ∧ Q (.str d.shown) H) := by
  intro pins s σ H xs us Q I hx ⟨a, d, e1, hd, h1, h2, h3, h4, q⟩
  subst e1
  cases hx with
  | cons x1 x2 =>
  cases x2
  obtain rfl : _ = Value.ref a := x1
  obtain ⟨as, rd⟩ := Dp.reads I d (.ref a) (Value.ref a) hd rfl
  exact repr_of_reads' (as := as) rd h1 (fun z => by rw [h2] at z; cases z) hg h3 (fun _ _ z => z) (fun h' u tk hk => ⟨.str d.shown, H, I.kept hk, ⟨u, rfl⟩, q⟩) h4
mutual
theorem dp_of : ∀ {v : PV} {w : V} {d : PyData}, pyOf v = some d → RV K μ L H v w → Dp K H w d
  | .non, w, d, e, r => by
    cases r
    unfold pyOf at e; cases e
    exact .non
  | .bl b, w, d, e, r => by
    cases r
    unfold pyOf at e; cases e
    exact .bl b
  | .int i, w, d, e, r => by
    cases r
    unfold pyOf at e; cases e
    exact .int i
  | .str s, w, d, e, r => by
    cases r
    unfold pyOf at e; cases e
    exact .str s
  | .tup xs, w, d, e, r => by
    cases r with
    | tup h rs ks =>
      unfold pyOf at e
      obtain ⟨ds, e1, rfl⟩ := Option.map_eq_some_iff.mp e
      exact .tup h (dps_of e1 rs)
  | .loc _, _, _, e, _ => by unfold pyOf at e; cases e
  | .fl _, _, _, e, _ => by unfold pyOf at e; cases e
  | .rol _, _, _, e, _ => by unfold pyOf at e; cases e
theorem dps_of : ∀ {vs : List PV} {ws : List V} {ds : List PyData}, pyOfL vs = some ds → RVs K μ L H vs ws → DpAll K H ws ds
  | [], ws, ds, e, r => by
    cases r
    unfold pyOfL at e; cases e
    exact .nil
  | v :: vs, ws, ds, e, r => by
    cases r with
    | cons _ r1 r2 =>
      unfold pyOfL at e
      split at e
      · rename_i d ds' e1 e2
        cases e
        exact .cons (dp_of e1 r1) (dps_of e2 r2)
      · cases e
end
/-- < of data -/
theorem op_ltD (hu : X.A.units + 64 < cLine) : OpR X (compareOp .Lt) (fun x y H Q => ∃ d e k, Dp X.K H x d ∧ Dp X.K H y e ∧ SeqAt.shaped d = true ∧ SeqAt.shaped e = true ∧ dLt d e = some k ∧ Q (.bl k) H) := by
  intro pins s σ H x y v u Q I rx ry h
  obtain ⟨d, e, k, hd, he, sd, se, hk, q⟩ := h
  obtain ⟨as, r1⟩ := Dp.reads I d x v hd rx
  obtain ⟨bs, r2⟩ := Dp.reads I e y u he ry
  exact lt_reads d e X.A s v u as bs k r1 r2 (SeqAt.canLay_of_shaped sd) (SeqAt.canLay_of_shaped se) (SeqAt.room_of_shaped sd hu) hk _ _ _ _ ⟨.bl _, H, I, rfl, q⟩
theorem eqD_at {x y : PV} {x' y' : V} {k : Bool} (rx : RV K μ L H x x') (ry : RV K μ L H y y') (h : eqD x y = some k) : (scal x' y' = true ∧ k = decide (x' = y')) ∨ ∃ d e, Dp K H x' d ∧ Dp K H y' e ∧ SeqAt.shaped d = true ∧ SeqAt.shaped e = true ∧ k = PyData.eqv d e := by
  unfold eqD at h
  split at h
  · rename_i k' hk
    cases h
    exact .inl (eqS_at rx ry hk)
  · split at h
    · rename_i d e hd he
      split at h
      · rename_i hs
        rw [Bool.and_eq_true] at hs
        cases h
        exact .inr ⟨d, e, dp_of hd rx, dp_of he ry, hs.1, hs.2, rfl⟩
      · cases h
    · cases h
/-- in, of either kind -/
theorem inA_at {st : Store} {x y : PV} {x' y' : V} {k : Bool} (o : Ok K μ st H) (rx : RV K μ st.length H x x') (ry : RV K μ st.length H y y') (h : U.inA x y st = some k) : U.inV x y st = some k ∨
    ∃ d ds, Dp K H x' d ∧ Dp K H y' (.list ds) ∧ SeqAt.shaped d = true ∧ SeqAt.shaped (.list ds) = true ∧ k = ds.any fun z => PyData.eqv z d := by
  unfold U.inA at h
  split at h
  · rename_i q
    cases h
    exact .inl q
  · unfold U.inDV at h
    split at h
    · rename_i ys hl
      split at h
      · rename_i d ds hd hds
        split at h
        · rename_i hs
          cases h
          rw [Bool.and_eq_true] at hs
          refine .inr ⟨d, ds, dp_of hd rx, ?_, hs.1, hs.2, rfl⟩
          unfold U.listOf at hl
          split at hl
          · cases hl
            cases ry with
            | fl h1 _ h2 => exact .lst (SqL.of h1) (dps_of hds h2)
          · split at hl
            · rename_i hc
              cases hl
              obtain ⟨vs, h1, h2⟩ := o.cell _ _ hc
              cases ry with
              | loc hn => exact .lst (SqL.of h1) (dps_of hds h2)
            · cases hl
          · cases hl
        · cases h
      · cases h
    · cases h
theorem op_cmp (hu : X.A.units + 65 < cLine) (o : COp) : OpR X (compareOp (cop o)) (rC X.K (cmpV o)) := by
  cases o with
  | eq =>
    refine OpR.imp (op_eq.or (op_eqD (by omega))) fun x y H Q ⟨μ, st, a, b, k, o, ra, rb, e, g⟩ => ?_
    rcases eqD_at ra rb e with ⟨h1, rfl⟩ | ⟨d, f, h1, h2, h3, h4, rfl⟩
    · exact .inl ⟨h1, g⟩
    · exact .inr ⟨d, f, h1, h2, h3, h4, g⟩
  | ne =>
    refine OpR.imp (op_ne.or (op_neD (by omega))) fun x y H Q ⟨μ, st, a, b, k, o, ra, rb, e, g⟩ => ?_
    obtain ⟨c, hc, rfl⟩ := Option.map_eq_some_iff.mp e
    rcases eqD_at ra rb hc with ⟨h1, rfl⟩ | ⟨d, f, h1, h2, h3, h4, rfl⟩
    · exact .inl ⟨h1, g⟩
    · exact .inr ⟨d, f, h1, h2, h3, h4, g⟩
  | lt =>
    refine OpR.imp (op_lt.or (op_ltD (by omega))) fun x y H Q ⟨μ, st, a, b, k, o, ra, rb, e, g⟩ => ?_
    unfold cmpV at e
    simp only at e
    split at e
    · cases ra; cases rb; cases e; exact .inl ⟨_, _, rfl, rfl, g⟩
    · unfold ltD at e
      split at e
      · rename_i d f hd hf
        split at e
        · rename_i hs
          rw [Bool.and_eq_true] at hs
          exact .inr ⟨d, f, k, dp_of hd ra, dp_of hf rb, hs.1, hs.2, e, g⟩
        · cases e
      · cases e
  | le =>
    refine OpR.imp op_le fun x y H Q ⟨μ, st, a, b, k, o, ra, rb, e, g⟩ => ?_
    unfold cmpV at e
    simp only at e
    split at e
    · cases ra; cases rb; cases e; exact ⟨_, _, rfl, rfl, g⟩
    · cases e
  | gt =>
    refine OpR.imp op_gt fun x y H Q ⟨μ, st, a, b, k, o, ra, rb, e, g⟩ => ?_
    unfold cmpV at e
    simp only at e
    split at e
    · cases ra; cases rb; cases e; exact ⟨_, _, rfl, rfl, g⟩
    · cases e
  | ge =>
    refine OpR.imp op_ge fun x y H Q ⟨μ, st, a, b, k, o, ra, rb, e, g⟩ => ?_
    unfold cmpV at e
    simp only at e
    split at e
    · cases ra; cases rb; cases e; exact ⟨_, _, rfl, rfl, g⟩
    · cases e
  | isN =>
    refine OpR.imp op_isN fun x y H Q ⟨μ, st, a, b, k, o, ra, rb, e, g⟩ => ?_
    unfold cmpV at e
    simp only at e
    split at e
    · cases rb
      refine ⟨rfl, ?_⟩
      have : decide (x = V.non) = k := by cases ra <;> first | (cases e; rfl) | cases e
      rw [this]; exact g
    · cases e
  | notN =>
    refine OpR.imp op_notN fun x y H Q ⟨μ, st, a, b, k, o, ra, rb, e, g⟩ => ?_
    unfold cmpV at e
    simp only at e
    split at e
    · cases rb
      refine ⟨rfl, ?_⟩
      have : (!decide (x = V.non)) = k := by cases ra <;> first | (cases e; rfl) | cases e
      rw [this]; exact g
    · cases e
  | inn =>
    refine OpR.imp ((op_in_sign.or op_in_seq).or (op_inD hu)) fun x y H Q ⟨μ, st, a, b, k, o, ra, rb, e, g⟩ => ?_
    rcases inA_at o ra rb e with e | ⟨d, ds, q1, q2, q3, q4, rfl⟩
    · rcases inV_at o ra rb e with ⟨c, z, rfl, rfl, rfl⟩ | ⟨p, xs, rfl, q, f1, f2, rfl⟩
      · exact .inl (.inl ⟨c, z, rfl, rfl, g⟩)
      · exact .inl (.inr ⟨p, xs, rfl, q, f1, f2, g⟩)
    · exact .inr ⟨d, ds, q1, q2, q3, q4, g⟩
  | nin =>
    refine OpR.imp ((op_notIn_sign.or op_notIn_seq).or (op_notInD hu)) fun x y H Q ⟨μ, st, a, b, k, o, ra, rb, e, g⟩ => ?_
    obtain ⟨c, hc, rfl⟩ := Option.map_eq_some_iff.mp e
    rcases inA_at o ra rb hc with hc | ⟨d, ds, q1, q2, q3, q4, rfl⟩
    · rcases inV_at o ra rb hc with ⟨c, z, rfl, rfl, rfl⟩ | ⟨p, xs, rfl, q, f1, f2, rfl⟩
      · exact .inl (.inl ⟨c, z, rfl, rfl, g⟩)
      · exact .inl (.inr ⟨p, xs, rfl, q, f1, f2, g⟩)
    · exact .inr ⟨d, ds, q1, q2, q3, q4, g⟩

/-- truth -/
theorem fold_max : ∀ (r : List Int) (n : Int), (r.foldl max n ∈ n :: r) ∧ ∀ y ∈ n :: r, y ≤ r.foldl max n
  | [], n => ⟨List.mem_cons_self, fun y hy => by rw [List.mem_singleton.mp hy]; exact Int.le_refl _⟩
  | m :: r, n => by
    obtain ⟨h1, h2⟩ := fold_max r (max n m)
    show (r.foldl max (max n m) ∈ n :: m :: r) ∧ ∀ y ∈ n :: m :: r, y ≤ r.foldl max (max n m)
    have h3 := h2 (max n m) List.mem_cons_self
    refine ⟨?_, fun y hy => ?_⟩
    · rcases List.mem_cons.mp h1 with h | h
      · rw [h]
        by_cases z : n ≤ m
        · rw [show max n m = m by omega]; simp
        · rw [show max n m = n by omega]; simp
      · simp [h]
    · rcases List.mem_cons.mp hy with rfl | hy
      · omega
      · rcases List.mem_cons.mp hy with rfl | hy
        · omega
        · exact h2 y (List.mem_cons_of_mem _ hy)
theorem op_bi (hc : X.calm = true) (f : BF) (hG : f = .reprD → X.A.guards = some [] ∧ X.A.units + 200 < cLine) : CallR X (bfn f) (rB X.K f) := by
  cases f with
  | reprD =>
    obtain ⟨hg, hu⟩ := hG rfl
    refine CallR.imp (call_reprBS.or (SkE.call_repr_int.or (call_reprG hg))) fun xs H Q ⟨μ, st, as, v, o, ra, e, g⟩ => ?_
    unfold biV at e
    split at e <;> try contradiction
    · cases ra with
      | cons r1 r2 =>
        cases r2
        unfold shownV at e
        split at e
        · rename_i d hd
          split at e
          · rename_i hh
            cases e
            have dp := dp_of hd r1
            cases r1 with
            | tup h1 h2 =>
              obtain ⟨q1, q2, q3, q4⟩ := hh
              exact .inr (.inr ⟨_, d, rfl, dp, q1, q2, by omega, q4, g.same o (.str _) rfl⟩)
          · cases e
        · cases e
    · cases ra with
      | cons r1 r2 =>
        cases r2
        cases r1
        split at e
        · rename_i hz
          cases e
          exact .inr (.inl ⟨_, rfl, log_ok hz, g.same o (.str _) rfl⟩)
        · cases e
    · cases ra with
      | cons r1 r2 =>
        cases r2
        cases r1
        split at e
        · rename_i hz
          cases e
          exact .inl (.inr ⟨_, rfl, hz, g.same o (.str _) rfl⟩)
        · cases e
  | len =>
    refine CallR.imp (call_len_seq.or call_len_str) fun xs H Q ⟨μ, st, as, v, o, ra, e, g⟩ => ?_
    unfold biV at e
    split at e <;> try contradiction
    · cases ra with
      | cons r1 r2 =>
        cases r2; cases r1
        split at e
        · rename_i hz
          cases e
          exact .inr ⟨_, rfl, hz, g.same o (.int _) rfl⟩
        · cases e
    · cases ra with
      | cons r1 r2 =>
        cases r2
        obtain ⟨ys, h1, rfl⟩ := Option.map_eq_some_iff.mp e
        obtain ⟨p, vs, rfl, q, r⟩ := seq_at o r1 h1
        refine .inl ⟨p, vs, rfl, q, ?_⟩
        rw [← r.len]
        exact g.same o (.int _) rfl
  | int =>
    refine CallR.imp (call_int1.or call_int_str) fun xs H Q ⟨μ, st, as, v, o, ra, e, g⟩ => ?_
    unfold biV at e
    split at e <;> try contradiction
    · cases ra with
      | cons r1 r2 => cases r2; cases r1; cases e; exact .inl (.inl ⟨_, rfl, g.same o (.int _) rfl⟩)
    · cases ra with
      | cons r1 r2 => cases r2; cases r1; cases e; exact .inl (.inr ⟨_, rfl, g.same o (.int _) rfl⟩)
    · cases ra with
      | cons r1 r2 =>
        cases r2; cases r1
        split at e
        · rename_i hz
          obtain ⟨n, hn, rfl⟩ := Option.map_eq_some_iff.mp e
          exact .inr ⟨_, n, rfl, hn, hz, g.same o (.int _) rfl⟩
        · cases e
  | abs =>
    refine CallR.imp call_abs fun xs H Q ⟨μ, st, as, v, o, ra, e, g⟩ => ?_
    unfold biV at e
    split at e <;> try contradiction
    cases ra with
    | cons r1 r2 => cases r2; cases r1; cases e; exact ⟨_, rfl, g.same o (.int _) rfl⟩
  | max =>
    refine CallR.imp ((call_max2 hc).or (cr_max hc)) fun xs H Q ⟨μ, st, as, v, o, ra, e, g⟩ => ?_
    unfold biV at e
    split at e <;> try contradiction
    · cases ra with
      | cons r1 r2 =>
        cases r2 with
        | cons r2 r3 => cases r3; cases r2; cases r1; cases e; exact .inl ⟨_, _, rfl, g.same o (.int _) rfl⟩
    · cases ra with
      | cons r1 r2 =>
        cases r2
        split at e
        · rename_i xs' hx
          split at e
          · rename_i n r hn
            cases e
            obtain ⟨p, vs, rfl, q, rs⟩ := rd_at o r1 hx
            have ev := ints_at rs hn
            subst ev
            obtain ⟨f1, f2⟩ := fold_max r n
            refine .inr ⟨p, n :: r, rfl, q, by simp, fun m hm hle => ?_⟩
            have : m = r.foldl max n := Int.le_antisymm (f2 m hm) (hle _ f1)
            rw [this]
            exact g.same o (.int _) rfl
          · cases e
        · cases e
  | min =>
    refine CallR.imp (call_min2 hc) fun xs H Q ⟨μ, st, as, v, o, ra, e, g⟩ => ?_
    unfold biV at e
    split at e <;> try contradiction
    cases ra with
    | cons r1 r2 =>
      cases r2 with
      | cons r2 r3 => cases r3; cases r2; cases r1; cases e; exact ⟨_, _, rfl, g.same o (.int _) rfl⟩
  | str =>
    refine CallR.imp call_strIS fun xs H Q ⟨μ, st, as, v, o, ra, e, g⟩ => ?_
    unfold biV at e
    split at e <;> try contradiction
    · cases ra with
      | cons r1 r2 =>
        cases r2
        cases r1 with
        | int i =>
        split at e
        · rename_i hz
          cases e
          exact .inl ⟨_, rfl, log_ok hz, g.same o (.str _) rfl⟩
        · cases e
    · cases ra with
      | cons r1 r2 =>
        cases r2
        cases r1 with
        | str z =>
          cases e
          exact .inr ⟨_, rfl, g.same o (.str _) rfl⟩
  | repr =>
    refine CallR.imp call_reprBS fun xs H Q ⟨μ, st, as, v, o, ra, e, g⟩ => ?_
    unfold biV at e
    split at e <;> try contradiction
    · cases ra with
      | cons r1 r2 => cases r2; cases r1; cases e; exact .inl ⟨_, rfl, g.same o (.str _) rfl⟩
    · cases ra with
      | cons r1 r2 =>
        cases r2; cases r1
        split at e
        · rename_i hz
          cases e
          exact .inr ⟨_, rfl, hz, g.same o (.str _) rfl⟩
        · cases e
  | list =>
    refine CallR.imp call_list_of fun xs H Q ⟨μ, st, as, v, o, ra, e, g⟩ => ?_
    unfold biV at e
    split at e <;> try contradiction
    cases ra with
    | cons r1 r2 =>
      cases r2
      obtain ⟨ys, h1, rfl⟩ := Option.map_eq_some_iff.mp e
      obtain ⟨p, vs, rfl, q, r⟩ := seq_at o r1 h1
      exact ⟨p, vs, rfl, q, g.lst o r⟩
  | tuple =>
    refine CallR.imp call_tuple_of fun xs H Q ⟨μ, st, as, v, o, ra, e, g⟩ => ?_
    unfold biV at e
    split at e <;> try contradiction
    · cases ra with
      | cons r1 r2 =>
        cases r2
        cases e
        cases r1 with
        | tup h1 r1 k1 => exact ⟨_, _, rfl, .inr ⟨h1, g.same o (.tup h1 r1 k1) rfl⟩⟩
    · cases ra with
      | cons r1 r2 =>
        cases r2
        obtain ⟨ys, h1, rfl⟩ := Option.map_eq_some_iff.mp e
        have fin : rdOf _ st = some ys → ∃ p ys, [_] = [V.ref p] ∧ ((SqL X.K H p ys ∧ ∀ l, H l = none → Q (.ref l) (upd H l (.tup ys))) ∨ (SqT X.K H p ys ∧ Q (.ref p) H)) := fun h => by
          obtain ⟨p, vs, e2, q, r⟩ := rd_at o r1 h
          exact ⟨p, vs, congrArg (fun z => [z]) e2, .inl ⟨q, g.tup o r⟩⟩
        cases r1 with
        | @tup zs a vs h2 r2 k2 =>
          cases h1
          exact ⟨_, _, rfl, .inr ⟨h2, g.same o (.tup h2 r2 k2) rfl⟩⟩
        | _ => exact fin h1
  | sum =>
    refine CallR.imp (cr_sum hc) fun xs H Q ⟨μ, st, as, v, o, ra, e, g⟩ => ?_
    unfold biV at e
    split at e <;> try contradiction
    cases ra with
    | cons r1 r2 =>
      cases r2
      split at e
      · rename_i ys hy
        obtain ⟨ns, h1, rfl⟩ := Option.map_eq_some_iff.mp e
        obtain ⟨p, vs, rfl, q, r⟩ := rd_at o r1 hy
        have := ints_at r h1
        subst this
        exact ⟨p, ns, rfl, q, g.same o (.int _) rfl⟩
      · cases e
  | all =>
    refine CallR.imp (cr_all hc) fun xs H Q ⟨μ, st, as, v, o, ra, e, g⟩ => ?_
    unfold biV at e
    split at e <;> try contradiction
    cases ra with
    | cons r1 r2 =>
      cases r2
      split at e
      · rename_i ys hy
        obtain ⟨ns, h1, rfl⟩ := Option.map_eq_some_iff.mp e
        obtain ⟨p, vs, rfl, q, r⟩ := rd_at o r1 hy
        have := bools_at r h1
        subst this
        exact ⟨p, ns, rfl, q, g.same o (.bl _) rfl⟩
      · cases e
  | any =>
    refine CallR.imp (cr_any hc) fun xs H Q ⟨μ, st, as, v, o, ra, e, g⟩ => ?_
    unfold biV at e
    split at e <;> try contradiction
    cases ra with
    | cons r1 r2 =>
      cases r2
      split at e
      · rename_i ys hy
        obtain ⟨ns, h1, rfl⟩ := Option.map_eq_some_iff.mp e
        obtain ⟨p, vs, rfl, q, r⟩ := rd_at o r1 hy
        have := bools_at r h1
        subst this
        exact ⟨p, ns, rfl, q, g.same o (.bl _) rfl⟩
      · cases e

/-! ### methods -/
def mfn : MF → String
  | .append => "list.append" | .split => "str.split" | .partition => "str.partition" | .join => "str.join" | .pop => "list.pop"
def rM (K : PySem.W.Frag) (f : MF) : V → List V → Hp → VK → Prop := fun x' vs H Q => ∃ μ st x as v st', Ok K μ st H ∧ RV K μ st.length H x x' ∧ RAs K μ st.length H as vs ∧ mtV f x as st = .ok v st' ∧
  ∀ H' v', Stp μ st.length H μ st'.length H' → Ok K μ st' H' → RV K μ st'.length H' v v' → Fr H v v' → Q v' H'
theorem op_mt (f : MF) : MtR X (mfn f) (rM X.K f) := by
  cases f with
  | append =>
    refine MtR.imp (show MtR X "list.append" rAppend from mt_append) fun x xs H Q ⟨μ, st, a, as, v, st', o, ra, rs, e, g⟩ => ?_
    unfold mtV at e
    split at e <;> try contradiction
    cases rs with
    | cons r1 r2 =>
      cases r2
      split at e
      · rename_i zs hz
        split at e
        · rename_i hc
          cases e
          cases ra with
          | loc hn =>
            obtain ⟨vs, h1, h2⟩ := o.cell _ _ hz
            obtain ⟨s1, o1⟩ := o.write hz (h2.app (RVs.one hc.2 r1))
            refine ⟨_, vs, _, rfl, rfl, h1, by rw [← h2.len]; exact hc.1, g _ _ s1 o1 .non trivial⟩
        · cases e
      · cases e
  | pop =>
    refine MtR.imp (show MtR X "list.pop" rPopAt from mt_popAt) fun x xs H Q ⟨μ, st, a, as, v, st', o, ra, rs, e, g⟩ => ?_
    unfold mtV at e
    split at e <;> try contradiction
    cases rs with
    | cons r1 r2 =>
      cases r2; cases r1
      split at e
      · rename_i zs hz
        split at e
        · rename_i hb
          split at e
          · rename_i k hk
            split at e
            · rename_i y hy
              cases e
              cases ra with
              | loc hn =>
                obtain ⟨vs, h1, h2⟩ := o.cell _ _ hz
                obtain ⟨w, hw, rw_, fw⟩ := h2.get hy
                obtain ⟨s1, o1⟩ := o.write hz (h2.erase k)
                exact ⟨_, vs, _, k, w, rfl, rfl, h1, by omega, by omega, by rw [← h2.len]; exact hk, hw, g _ _ s1 o1 (RV.mono0 s1 rw_) (fr_of fw)⟩
            · cases e
          · cases e
        · cases e
      · cases e
  | split =>
    refine MtR.imp mt_split fun x xs H Q ⟨μ, st, a, as, v, st', o, ra, rs, e, g⟩ => ?_
    unfold mtV at e
    split at e <;> try contradiction
    cases rs with
    | cons r1 r2 =>
      cases r2; cases r1; cases ra
      split at e
      · cases e
      · rename_i hc
        cases e
        refine ⟨_, _, rfl, rfl, ?_, by omega, fun p hp => ?_⟩
        · rw [beq_eq_false_iff_ne]; omega
        · rename_i s1 s2
          have q : ∀ (l : List Str), RVs X.K μ st.length H (l.map PV.str) (l.map V.str) := fun l => by
            induction l with
            | nil => exact .nil
            | cons z l ih => exact .cons rfl (.str z) ih
          exact (show Go X.K μ st H _ Q from g).lst o (q _) p hp
  | partition =>
    refine MtR.imp mt_partition fun x xs H Q ⟨μ, st, a, as, v, st', o, ra, rs, e, g⟩ => ?_
    unfold mtV at e
    split at e <;> try contradiction
    cases rs with
    | cons r1 r2 =>
      cases r2; cases r1; cases ra
      split at e
      · cases e
      · rename_i hc
        cases e
        refine ⟨_, _, rfl, rfl, ?_, by omega, fun p hp => ?_⟩
        · rw [beq_eq_false_iff_ne]; omega
        · exact (show Go X.K μ st H _ Q from g).tup o (.cons rfl (.str _) (.cons rfl (.str _) (.cons rfl (.str _) .nil))) p hp
  | join =>
    refine MtR.imp mt_join fun x xs H Q ⟨μ, st, a, as, v, st', o, ra, rs, e, g⟩ => ?_
    unfold mtV at e
    split at e <;> try contradiction
    cases rs with
    | cons r1 r2 =>
      cases r2; cases ra
      split at e
      · rename_i zs hz
        split at e
        · rename_i ys hy
          split at e
          · rename_i hc
            cases e
            obtain ⟨p, vs, rfl, q, r⟩ := seq_at o r1 hz
            have := strs_at r hy
            subst this
            exact ⟨_, p, ys, rfl, rfl, q, by rw [Nat.mul_comm]; omega, g _ _ StX.refl o (.str _) trivial⟩
          · cases e
        · cases e
      · cases e
end
end U

set_option maxHeartbeats 4000000
/-! U5: expressions: the text is the program, and what the program yields the machine yields. -/
namespace U
open PySem PySem.Spec PyProof.Rows L2

/-! ### is this text that program -/
/-- classes: those of errors, with their fields; those of objects, with fields and methods -/
structure Xs where
  er : List (Str × (List Str × Nat))
  ob : List (Str × (List Str × List (Str × Nat)))
structure Ct where
  N : List Str
  sc : Scope
  fn : List (Str × Nat)
  cs : List (Str × PV)
  bl : List Str
  ds : List (Str × List (Str × PV))
  gk : Bool
  xs : Xs
def visB (sc : Scope) (x : Str) : Bool := match sc.names.lookup x with
  | some .local => true
  | some .cell => true
  | some .free => true
  | _ => false
def glB (sc : Scope) (x : Str) : Bool := match sc.names.lookup x with
  | some .globalImplicit => !(x == ("__debug__" : Str))
  | _ => false
def conB : PV → Const → Bool
  | .non, .none => true
  | .bl a, .bool b => a == b
  | .int a, .int b => decide (a = b)
  | .str a, .str b => decide (a = b)
  | _, _ => false
def bname : BF → Str
  | .len => "len" | .int => "int" | .abs => "abs" | .max => "max" | .min => "min" | .str => "str" | .repr => "repr" | .reprD => "repr"
  | .list => "list" | .tuple => "tuple" | .sum => "sum" | .all => "all" | .any => "any"
/-- may it stand where the guards are not known -/
def gOk : BF → Bool
  | .reprD => false
  | _ => true
def tname : Ty → Str
  | .int => "int" | .bool => "bool" | .str => "str" | .tuple => "tuple" | .list => "list"
def tstr : Ty → String
  | .int => "int" | .bool => "bool" | .str => "str" | .tuple => "tuple" | .list => "list"
def mname : MF → Str
  | .append => "append" | .split => "split" | .partition => "partition" | .join => "join" | .pop => "pop"
def MG.own (g : MG) (N : List Str) : List (Str × Nat) := g.slots.map fun i => (N.getD i "", i)
def locB (sc : Scope) (x : Str) : Bool := match sc.names.lookup x with
  | some .local => true
  | some .cell => true
  | _ => false
/-- a target's names; cell: may they be cells of the block itself -/
def mT1 (C : Ct) (i : Nat) (e : Expr) : Bool := match e with
  | .Name x _ => decide (C.N[i]? = some x) && decide (C.sc.names.lookup x = some .local)
  | _ => false
def mTs (C : Ct) : List Nat → List Expr → Bool
  | [], [] => true
  | i :: is, e :: es => mT1 C i e && mTs C is es
  | _, _ => false
def mG (C : Ct) (g : MG) (e : Expr) : Bool := match g, e with
  | .nm i, e => mT1 C i e
  | .tp is, .Tuple es _ _ => mTs C is es
  | _, _ => false
mutual
def mE (C : Ct) : ME → Expr → Bool
  | .var i, e => match e with
    | .Name x _ => decide (C.N[i]? = some x) && visB C.sc x && !(x == ("__debug__" : Str)) && !(x == ("__classdict__" : Str))
    | _ => false
  | .con v, e => match e with
    | .Constant c _ _ => conB v c
    | _ => false
  | .glb x v, e => match e with
    | .Name y _ => decide (y = x) && glB C.sc x && (match C.cs.lookup x with
      | some w => PV.same v w
      | none => false)
    | _ => false
  | .bin o a b, e => match e with
    | .BinOp l op r _ => decide (op = bop o) && mE C a l && mE C b r
    | _ => false
  | .neg a, e => match e with
    | .UnaryOp .USub x _ => mE C a x
    | _ => false
  | .cmp o a b, e => match e with
    | .Compare l [op] [r] _ => decide (op = cop o) && mE C a l && mE C b r
    | _ => false
  | .cmp2 o o' a b c, e => match e with
    | .Compare l [op, op'] [r, r'] _ => decide (op = cop o) && decide (op' = cop o') && mE C a l && mE C b r && mE C c r'
    | _ => false
  | .not a, e => match e with
    | .UnaryOp .Not x _ => mE C a x
    | _ => false
  | .and a b, e => match e with
    | .BoolOp .And [x, y] _ => mE C a x && mE C b y
    | .BoolOp .And (x :: y :: z :: r) p => mE C a x && mE C b (.BoolOp .And (y :: z :: r) p)
    | _ => false
  | .or a b, e => match e with
    | .BoolOp .Or [x, y] _ => mE C a x && mE C b y
    | .BoolOp .Or (x :: y :: z :: r) p => mE C a x && mE C b (.BoolOp .Or (y :: z :: r) p)
    | _ => false
  | .ite t a b, e => match e with
    | .IfExp c x y _ => mE C t c && mE C a x && mE C b y
    | _ => false
  | .fn f as, e => match e with
    | .Call (.Name x _) (y :: ys) [] _ => decide (C.fn.lookup x = some f) && glB C.sc x && mA C as (y :: ys)
    | _ => false
  | .bi f as, e => match e with
    | .Call (.Name x _) (y :: ys) [] _ => decide (x = bname f) && C.bl.contains x && glB C.sc x && (gOk f || C.gk) && mA C as (y :: ys)
    | _ => false
  | .mt f o as, e => match e with
    | .Call (.Attribute x name apos) [y] [] pos => decide (name = mname f) && mE C o x && (apos.endLine == pos.line) && !(match x with
        | .Call _ [] [] _ => true
        | _ => false) && mA C as [y]
    | _ => false
  | .tup as, e => match e with
    | .Tuple es _ _ => mA C as es
    | _ => false
  | .lst as, e => match e with
    | .List es _ => mA C as es
    | _ => false
  | .ix a i, e => match e with
    | .Subscript x y _ => mE C a x && mE C i y
    | _ => false
  | .sl a lo hi, e => match e with
    | .Subscript x (.Slice l h none _) _ => mE C a x && (match l with
        | none => lo.absent
        | some y => !lo.absent && mE C lo y) && (match h with
        | none => hi.absent
        | some y => !hi.absent && mE C hi y)
    | _ => false
  | .lc elt g (.rng a b) has c, e => match e with
    | .ListComp x [⟨tg, .Call (.Name f _) es [] _, ifs, 0⟩] scope _ => decide (f = "range") && C.bl.contains "range" && glB C.sc f &&
        (match es with
        | [y] => (match a with
          | .con (.int 0) => mE C b y
          | _ => false)
        | [z, y] => mE C a z && mE C b y
        | _ => false) && blkC C.N C.sc scope (g.own C.N) && mG { C with sc := relS scope C.sc } g tg &&
        (match has, ifs with
        | true, [t] => mE { C with sc := relS scope C.sc } c t
        | false, [] => true
        | _, _ => false) && mE { C with sc := relS scope C.sc } elt x
    | _ => false
  | .lc elt g src has c, e => match e with
    | .ListComp x [⟨tg, iter, ifs, 0⟩] scope _ => mE C src iter && blkC C.N C.sc scope (g.own C.N) && mG { C with sc := relS scope C.sc } g tg &&
        (match has, ifs with
        | true, [t] => mE { C with sc := relS scope C.sc } c t
        | false, [] => true
        | _, _ => false) && mE { C with sc := relS scope C.sc } elt x
    | _ => false
  | .rng _ _, _ => false
  | .rev _, _ => false
  | .star _, _ => false
  | .tupS as, e => match e with
    | .Tuple es _ _ => mI C as es
    | _ => false
  | .gidx x vs a, e => match e with
    | .Call (.Attribute (.Name y _) name apos) [z] [] pos => decide (name = "index") && decide (y = x) && glB C.sc x && (apos.endLine == pos.line) && mE C a z && (match C.cs.lookup x with
      | some w => PV.same (.tup (vs.map .str)) w
      | none => false)
    | _ => false
  | .fld c a f, e => match e with
    | .Attribute (.Name y p) g _ => decide (g = f) && (match C.xs.ob.lookup c with
      | some w => w.1.contains f
      | none => false) && mE C a (.Name y p)
    | _ => false
  | .mth g c m o as, e => match e with
    | .Call (.Attribute (.Name y p) m' apos) es [] pos => decide (m' = m) && !decide (m = Str.ofString "__init__") && (match C.xs.ob.lookup c with
      | some w => decide (w.2.lookup m = some g)
      | none => false) && (apos.endLine == pos.line) && decide (es.length < 28) && mE C o (.Name y p) && mA C as es
    | _ => false
  | .isd a, e => match e with
    | .Call (.Attribute x name apos) [] [] pos => decide (name = "isdigit") && (apos.endLine == pos.line) && !(match x with
        | .Call (.Name _ _) [] [] _ => true
        | _ => false) && mE C a x
    | _ => false
  | .new g c as, e => match e with
    | .Call (.Name y _) es [] _ => decide (y = c) && glB C.sc y && (match C.xs.ob.lookup c with
      | some w => decide (w.2.lookup (Str.ofString "__init__") = some g)
      | none => false) && mA C as es
    | _ => false
  | .mxd a d, e => match e with
    | .Call (.Name f _) [x] [⟨some kw, .Constant (.int i) _ _, _⟩] _ => decide (f = "max") && C.bl.contains "max" && glB C.sc f && decide (kw = Str.ofString "default") && decide (i = d) && mE C a x
    | _ => false
  | .fmt a, e => match e with
    | .FormattedValue x c none _ => decide (c = -1) && mE C a x
    | _ => false
  | .fstr as, e => match e with
    | .JoinedStr (x :: y :: r) _ => mA C as (x :: y :: r)
    | _ => false
  | .dix x kvs a, e => match e with
    | .Subscript (.Name y _) k _ => decide (y = x) && glB C.sc x && (match C.ds.lookup x with
      | some w => sameD kvs w
      | none => false) && mE C a k
    | _ => false
  | .gget x kvs a b, e => match e with
    | .Call (.Attribute (.Name y _) name apos) [k, d] [] pos => decide (y = x) && decide (name = "get") && glB C.sc x && (apos.endLine == pos.line) && (match C.ds.lookup x with
      | some w => sameD kvs w
      | none => false) && mE C a k && mE C b d
    | _ => false
  | .dnew _, e => match e with
    | .Dict [] [] _ => true
    | _ => false
  | .dsp k v, e => match e with
    | .Dict [some x] [y] _ => mE C k x && mE C v y
    | _ => false
  | .dhas neg k d, e => match e with
    | .Compare l [op] [r] _ => decide (op = if neg then .NotIn else .In) && mE C k l && mE C d r
    | _ => false
  | .dget d k, e => match e with
    | .Subscript x y _ => mE C d x && mE C k y
    | _ => false
  | .dgt2 d k z, e => match e with
    | .Call (.Attribute o name apos) [x, y] [] pos => decide (name = Str.ofString "get") && mE C d o && (apos.endLine == pos.line) && !(match o with
        | .Call _ [] [] _ => true
        | _ => false) && mE C k x && mE C z y
    | _ => false
  | .dsdf d k z, e => match e with
    | .Call (.Attribute o name apos) [x, y] [] pos => decide (name = Str.ofString "setdefault") && mE C d o && (apos.endLine == pos.line) && !(match o with
        | .Call _ [] [] _ => true
        | _ => false) && mE C k x && mE C z y
    | _ => false
  | .dlen d, e => match e with
    | .Call (.Name x _) [y] [] _ => decide (x = Str.ofString "len") && C.bl.contains x && glB C.sc x && mE C d y
    | _ => false
  | .lcv elt g i, e => match e with
    | .ListComp x [⟨tg, .Call (.Attribute (.Name y p) name apos) [] [] pos, [], 0⟩] scope _ => decide (name = Str.ofString "values") && (decide (C.N[i]? = some y) && visB C.sc y && !(y == ("__debug__" : Str)) && !(y == ("__classdict__" : Str))) && (apos.endLine == pos.line) && blkC C.N C.sc scope (g.own C.N) && mG { C with sc := relS scope C.sc } g tg && mE { C with sc := relS scope C.sc } elt x
    | _ => false
  | .enm _, _ => false
  | .zip _, _ => false
  | .isi t a, e => match e with
    | .Call (.Name f _) [x, .Name y _] [] _ => decide (f = "isinstance") && C.bl.contains "isinstance" && glB C.sc f && decide (y = tname t) && C.bl.contains y && glB C.sc y && mE C a x
    | _ => false
def mA (C : Ct) : MEs → List Expr → Bool
  | .nil, es => match es with
    | [] => true
    | _ => false
  | .cons a as, es => match es with
    | [] => false
    | e :: es => mE C a e && mA C as es
def mI (C : Ct) : MEs → List Expr → Bool
  | .nil, es => match es with
    | [] => true
    | _ => false
  | .cons (.star a) as, es => match es with
    | .Starred e _ :: es => mE C a e && mI C as es
    | _ => false
  | .cons a as, es => match es with
    | [] => false
    | e :: es => mE C a e && mI C as es
end
end U

set_option maxHeartbeats 4000000
/-! U6: readings of expressions. -/
namespace U
open PySem PySem.Spec PyProof.Rows L2

theorem bind_ok {α β : Type} {r : Res α} {f : α → Store → Res β} {b : β} {st : Store} (h : r.bind f = .ok b st) : ∃ a st1, r = .ok a st1 ∧ f a st1 = .ok b st := by
  cases r with
  | ok a st1 => exact ⟨a, st1, rfl, h⟩
  | xc _ _ _ => cases h
  | bad => cases h
theorem opt_ok {α : Type} {o : Option α} {st st1 : Store} {b : α} (h : opt o st = .ok b st1) : o = some b ∧ st = st1 := by
  cases o with
  | some a => cases h; exact ⟨rfl, rfl⟩
  | none => cases h
theorem isBl_ok {x : PV} {k : Bool} (h : isBl x = some k) : x = .bl k := by
  unfold isBl at h
  split at h
  · cases h; rfl
  · cases h
theorem done_ok {m : Md} {v w : PV} {st st1 : Store} (h : done m v st = .ok w st1) (hm : m ≠ .test) : w = v ∧ st = st1 := by
  cases m with
  | val => cases h; exact ⟨rfl, rfl⟩
  | use => cases h; exact ⟨rfl, rfl⟩
  | test => exact absurd rfl hm

section
variable {K : PySem.W.Frag} {μ μ1 μ2 : Nat → Addr} {L L1 : Nat} {H H1 H2 : Hp} {S : Addr → Prop}
theorem bind_assoc {α β γ : Type} (r : Res α) (f : α → Store → Res β) (g : β → Store → Res γ) : (r.bind f).bind g = r.bind fun a st => (f a st).bind g := by cases r <;> rfl
/-- the names' values -/
structure RE (K : PySem.W.Frag) (μ : Nat → Addr) (L : Nat) (H : Hp) (env : En) (σ : L2.St) : Prop where
  len : env.length = σ.length
  at_ : ∀ (i : Nat) (x : PV), env[i]? = some (some x) → ∃ v : V, σ[i]? = some (some v) ∧ RV K μ L H x v
theorem RE.mono {env : En} {σ : L2.St} (s : Stp μ L H μ1 L1 H1) (r : RE K μ L H env σ) : RE K μ1 L1 H1 env σ :=
  ⟨r.len, fun i x h => let ⟨v, h1, h2⟩ := r.at_ i x h; ⟨v, h1, h2.mono0 s⟩⟩
theorem RE.set {env : En} {σ : L2.St} {x : PV} {v : V} (r : RE K μ L H env σ) (q : RV K μ L H x v) (i : Nat) : RE K μ L H (env.set i (some x)) (σ.set i (some v)) := by
  refine ⟨by simp [r.len], fun j y h => ?_⟩
  by_cases e : i = j
  · subst e
    by_cases hi : i < env.length
    · rw [List.getElem?_set_self hi] at h
      cases h
      exact ⟨v, List.getElem?_set_self (by rw [← r.len]; exact hi), q⟩
    · rw [List.getElem?_eq_none (by simp; omega)] at h; cases h
  · rw [List.getElem?_set_ne e] at h ⊢
    exact r.at_ j y h
theorem RE.drop {env : En} {σ : L2.St} (r : RE K μ L H env σ) (i : Nat) : RE K μ L H (env.set i none) (σ.set i none) := by
  refine ⟨by simp [r.len], fun j y h => ?_⟩
  by_cases e : i = j
  · subst e
    by_cases hi : i < env.length
    · rw [List.getElem?_set_self hi] at h
      cases h
    · rw [List.getElem?_eq_none (by simp; omega)] at h; cases h
  · rw [List.getElem?_set_ne e] at h ⊢
    exact r.at_ j y h
theorem RE.wipe {env : En} {σ : L2.St} (r : RE K μ L H env σ) : ∀ vs : List Nat, RE K μ L H (U.wipe env vs) (L2.wipe σ vs)
  | [] => r
  | v :: vs => by
    unfold U.wipe L2.wipe
    exact (RE.wipe r vs).drop v

/-! ### readings -/
def rd (K : PySem.W.Frag) (m : En → Store → Res PV) : TE := fun σ H Q => ∃ μ env st v st', Ok K μ st H ∧ RE K μ st.length H env σ ∧ m env st = .ok v st' ∧
  ∀ μ' H' v', Stp μ st.length H μ' st'.length H' → Ok K μ' st' H' → RV K μ' st'.length H' v v' → Fr H v v' → Q v' H'
def rdU (K : PySem.W.Frag) (m : En → Store → Res PV) : TE := fun σ H Q => ∃ μ env st v st', Ok K μ st H ∧ RE K μ st.length H env σ ∧ m env st = .ok v st' ∧
  ∀ μ' H' v', Stp μ st.length H μ' st'.length H' → Ok K μ' st' H' → RV K μ' st'.length H' v v' → Q v' H'
def rdT (K : PySem.W.Frag) (m : En → Store → Res PV) : TT := fun σ H Q => ∃ μ env st k st', Ok K μ st H ∧ RE K μ st.length H env σ ∧ m env st = .ok (.bl k) st' ∧
  ∀ μ' H', Stp μ st.length H μ' st'.length H' → Ok K μ' st' H' → Q k H'
def rdA (K : PySem.W.Frag) (m : En → Store → Res (List PV)) : TA := fun σ H Q => ∃ μ env st v st', Ok K μ st H ∧ RE K μ st.length H env σ ∧ m env st = .ok v st' ∧
  ∀ μ' H' v', Stp μ st.length H μ' st'.length H' → Ok K μ' st' H' → RVs K μ' st'.length H' v v' → Q v' H'
def rdC (K : PySem.W.Frag) (m : En → Store → Res (List PV)) : TA := fun σ H Q => ∃ μ env st v st', Ok K μ st H ∧ RE K μ st.length H env σ ∧ m env st = .ok v st' ∧
  ∀ μ' H' v', Stp μ st.length H μ' st'.length H' → Ok K μ' st' H' → RAs K μ' st'.length H' v v' → Q v' H'
def rdO (K : PySem.W.Frag) (m : En → Store → Res PV) (absent : Bool) : TO := fun σ H Q => ∃ μ env st v st' b, Ok K μ st H ∧ RE K μ st.length H env σ ∧ m env st = .ok v st' ∧ bound absent v = some b ∧
  ∀ μ' H', Stp μ st.length H μ' st'.length H' → Ok K μ' st' H' → Q b H'
variable {X : Cx} {e : Expr}
theorem _root_.L2.PE.imp {t t' : TE} (h : PE X e t) (i : ∀ σ H Q, t' σ H Q → t σ H Q) : PE X e t' := ⟨fun pins s σ H Q I q => h.run pins s σ H Q I (i _ _ _ q)⟩
theorem _root_.L2.PT.imp {t t' : TT} (h : PT X e t) (i : ∀ σ H Q, t' σ H Q → t σ H Q) : PT X e t' := ⟨fun pins s σ H Q I q => h.run pins s σ H Q I (i _ _ _ q)⟩
theorem _root_.L2.PW.imp {t t' : TT} (h : PW X e t) (i : ∀ σ H Q, t' σ H Q → t σ H Q) : PW X e t' := ⟨fun wh pins s σ H Q I q => h.run wh pins s σ H Q I (i _ _ _ q)⟩
theorem _root_.L2.PA.imp {es : List Expr} {t t' : TA} (h : PA X es t) (i : ∀ σ H Q, t' σ H Q → t σ H Q) : PA X es t' := ⟨fun pos pins s σ H Q I q => h.run pos pins s σ H Q I (i _ _ _ q)⟩
theorem _root_.L2.PO.imp {o : Option Expr} {t t' : TO} (h : PO X o t) (i : ∀ σ H Q, t' σ H Q → t σ H Q) : PO X o t' := ⟨fun pins s σ H Q I q => h.run pins s σ H Q I (i _ _ _ q)⟩
theorem rd_eq {m m' : En → Store → Res PV} (e : ∀ env st, m' env st = m env st) : ∀ σ H Q, rd K m' σ H Q → rd K m σ H Q := fun σ H Q ⟨μ, env, st, v, st', o, r, h, g⟩ => ⟨μ, env, st, v, st', o, r, by rw [← e]; exact h, g⟩
theorem rdU_of {m : En → Store → Res PV} (h : PE X e (rd X.K m)) : PE X e (rdU X.K m) := h.imp fun σ H Q ⟨μ, env, st, v, st', o, r, h, g⟩ => ⟨μ, env, st, v, st', o, r, h, fun μ' H' v' s o' r' _ => g μ' H' v' s o' r'⟩

/-- an expression's three readings -/
structure SE (X : Cx) (call : Nat → List PV → Store → Res PV) (m : ME) (e : Expr) : Prop where
  val : PE X e (rd X.K (ev call m .val))
  use : PE X e (rdU X.K (ev call m .use))
  test : PT X e (rdT X.K (ev call m .test))
variable {call : Nat → List PV → Store → Res PV} {m : ME}
/-- whose test is its value's truth -/
theorem SE.plain (core : En → Store → Res PV) (h : PE X e (rd X.K core)) (eq : ∀ md env st, ev call m md env st = (core env st).bind fun v st1 => done md v st1)
    (he : ∀ whole, isTrue e X.env whole = (do let v ← whole; standAt e.pos; holding [v] (truthy v))) : SE X call m e := by
  have hv : PE X e (rd X.K (ev call m .val)) := h.imp (rd_eq fun env st => by
    rw [eq]
    cases core env st <;> rfl)
  refine ⟨hv, rdU_of (hv.imp (rd_eq fun env st => by
    rw [eq, eq]
    cases core env st <;> rfl)), ?_⟩
  refine PT.imp (pt_truth h he) fun σ H Q ⟨μ, env, st, k, st', o, r, h, g⟩ => ?_
  rw [eq] at h
  obtain ⟨v, st1, h1, h2⟩ := bind_ok h
  obtain ⟨k', st2, h3, h4⟩ := bind_ok h2
  obtain ⟨h5, rfl⟩ := opt_ok h3
  cases h4
  exact ⟨μ, env, st, v, st', o, r, h1, fun μ' H' v' s o' r' _ => ⟨k, truth_at o' r' h5, g μ' H' s o'⟩⟩
/-- which is a bool -/
theorem SE.bool (h : PE X e (rd X.K (ev call m .val))) (hu : ∀ env st, ev call m .use env st = ev call m .val env st) (t : PT X e (rdT X.K (ev call m .test))) : SE X call m e :=
  ⟨h, rdU_of (h.imp (rd_eq hu)), t⟩

/-! two operands -/
theorem pe_bin {a b : ME} {x y : Expr} {f : PV → PV → Store → Option PV} {g : Expr} (ha : SE X call a x) (hb : SE X call b y) (hr : ∀ {ta tb : TE}, PE X x ta → PE X y tb → PE X g (tOp (rO X.K f) ta tb)) :
    PE X g (rd X.K fun env st => (ev call a .use env st).bind fun x st1 => (ev call b .use env st1).bind fun y st2 => opt (f x y st2) st2) := by
  refine (hr ha.use hb.use).imp fun σ H Q ⟨μ, env, st, v, st', o, r, h, g⟩ => ?_
  obtain ⟨x1, st1, h1, h2⟩ := bind_ok h
  obtain ⟨y1, st2, h3, h4⟩ := bind_ok h2
  obtain ⟨h5, rfl⟩ := opt_ok h4
  exact ⟨μ, env, st, x1, st1, o, r, h1, fun μ1 H1 x' s1 o1 r1 => ⟨μ1, env, st1, y1, st2, o1, r.mono s1, h3, fun μ2 H2 y' s2 o2 r2 => ⟨μ2, st2, x1, y1, v, o2, r1.mono0 s2, r2, h5,
    fun H3 v' s3 o3 r3 f3 => g μ2 H3 v' (Stp.trans s1 (Stp.trans s2 s3)) o3 r3 (f3.back (Stp.trans s1 s2))⟩⟩⟩
theorem pe_binV {a b : ME} {x y : Expr} {f : PV → PV → Store → Option PV} {g : Expr} (ha : SE X call a x) (hb : SE X call b y) (hr : ∀ {ta tb : TE}, PE X x ta → PE X y tb → PE X g (tOp (rO X.K f) ta tb)) :
    PE X g (rd X.K fun env st => (ev call a .use env st).bind fun x st1 => (ev call b .val env st1).bind fun y st2 => opt (f x y st2) st2) := by
  refine (hr ha.use hb.val).imp fun σ H Q ⟨μ, env, st, v, st', o, r, h, g⟩ => ?_
  obtain ⟨x1, st1, h1, h2⟩ := bind_ok h
  obtain ⟨y1, st2, h3, h4⟩ := bind_ok h2
  obtain ⟨h5, rfl⟩ := opt_ok h4
  exact ⟨μ, env, st, x1, st1, o, r, h1, fun μ1 H1 x' s1 o1 r1 => ⟨μ1, env, st1, y1, st2, o1, r.mono s1, h3, fun μ2 H2 y' s2 o2 r2 _ => ⟨μ2, st2, x1, y1, v, o2, r1.mono0 s2, r2, h5,
    fun H3 v' s3 o3 r3 f3 => g μ2 H3 v' (Stp.trans s1 (Stp.trans s2 s3)) o3 r3 (f3.back (Stp.trans s1 s2))⟩⟩⟩
theorem se_bin {o : BOp} {a b : ME} {x y : Expr} {pos : Pos} (ha : SE X call a x) (hb : SE X call b y) : SE X call (.bin o a b) (.BinOp x (bop o) y pos) :=
  .plain _ (pe_bin ha hb fun p q => pe_op (op_bin o) p q) (fun md env st => by rw [ev]; simp only [bind_assoc]) fun _ => rfl
theorem se_ix {a b : ME} {x y : Expr} {pos : Pos} (ha : SE X call a x) (hb : SE X call b y) (hs : PlainIx y) : SE X call (.ix a b) (.Subscript x y pos) :=
  .plain _ (pe_binV ha hb fun p q => pe_ix op_ix p q hs) (fun md env st => by rw [ev]; simp only [bind_assoc]) fun _ => rfl
theorem tC_imp {core : PV} {v' : V} (h : ∀ μ L H, RV K μ L H core v') (f : core.isFl = false) : ∀ σ H Q, rd K (fun _ st => .ok core st) σ H Q → tC v' σ H Q := fun σ H Q ⟨μ, env, st, v, st', o, r, e, g⟩ => by
  cases e
  exact g μ H v' StX.refl o (h _ _ _) (fr_of f)
theorem se_con {v : PV} {c : Const} {k : Nat} {pos : Pos} (h : conB v c = true) : SE X call (.con v) (.Constant c k pos) := by
  refine .plain (fun _ st => .ok v st) ?_ (fun md env st => by rw [ev]; rfl) fun _ => rfl
  unfold conB at h
  split at h
  · exact pe_non.imp (tC_imp (fun _ _ _ => .non) rfl)
  · cases eq_of_beq h
    exact pe_bl.imp (tC_imp (fun _ _ _ => .bl _) rfl)
  · cases of_decide_eq_true h
    exact pe_int.imp (tC_imp (fun _ _ _ => .int _) rfl)
  · cases of_decide_eq_true h
    exact pe_str.imp (tC_imp (fun _ _ _ => .str _) rfl)
  · cases h
theorem se_glb {x : Str} {v : PV} {v' : V} {u : Value} {pos : Pos} (hg : Gl X x) (hm : X.mg x = some u) (hr : RelV v' u) (h : ∀ μ L H, RV X.K μ L H v v') (f : v.isFl = false) (hd : (x == ("__debug__" : Str)) = false) : SE X call (.glb x v) (.Name x pos) :=
  .plain (fun _ st => .ok v st) ((pe_glob hg hm hr hd).imp (tC_imp h f)) (fun md env st => by rw [ev]; rfl) fun _ => rfl
theorem se_var {i : Nat} {x : Str} {pos : Pos} (hN : X.N[i]? = some x) (hv : Vis X.env.scope x) (hd : (x == ("__debug__" : Str)) = false) (hcd : (x == ("__classdict__" : Str)) = false) : SE X call (.var i) (.Name x pos) := by
  have base : PE X (.Name x pos) (tVar i) := pe_var hN hv hd hcd
  refine ⟨base.imp fun σ H Q ⟨μ, env, st, v, st', o, r, h, g⟩ => ?_, base.imp fun σ H Q ⟨μ, env, st, v, st', o, r, h, g⟩ => ?_, PT.imp (pt_truth base fun _ => rfl) fun σ H Q ⟨μ, env, st, k, st', o, r, h, g⟩ => ?_⟩
  · rw [ev] at h
    unfold varV at h
    split at h
    · rename_i w hw
      obtain ⟨v', h1, h2⟩ := r.at_ i w hw
      simp only at h
      split at h
      · cases h
      · rename_i nf
        cases h
        exact ⟨v', h1, g μ H v' StX.refl o h2 (by cases h2 <;> first | trivial | exact absurd rfl (nf _))⟩
    · cases h
  · rw [ev] at h
    unfold varV at h
    split at h
    · rename_i w hw
      obtain ⟨v', h1, h2⟩ := r.at_ i w hw
      cases h
      exact ⟨v', h1, g μ H v' StX.refl o h2⟩
    · cases h
  · rw [ev] at h
    unfold varV at h
    split at h
    · rename_i w hw
      obtain ⟨v', h1, h2⟩ := r.at_ i w hw
      simp only at h
      obtain ⟨k', st2, h3, h4⟩ := bind_ok h
      obtain ⟨h5, rfl⟩ := opt_ok h3
      cases h4
      exact ⟨v', h1, k, truth_at o h2 h5, g μ H StX.refl o⟩
    · cases h
theorem se_neg {a : ME} {x : Expr} {pos : Pos} (ha : SE X call a x) : SE X call (.neg a) (.UnaryOp .USub x pos) := by
  refine .plain (fun env st => (ev call a .val env st).bind fun x st1 => match x with
    | .int i => .ok (.int (-i)) st1
    | _ => .bad) ((pe_un un_neg ha.val).imp fun σ H Q ⟨μ, env, st, v, st', o, r, h, g⟩ => ?_) (fun md env st => ?_) fun _ => rfl
  · obtain ⟨x1, st1, h1, h2⟩ := bind_ok h
    split at h2
    · cases h2
      refine ⟨μ, env, st, _, _, o, r, h1, fun μ1 H1 x' s1 o1 r1 _ => ?_⟩
      cases r1
      exact ⟨_, rfl, g μ1 H1 _ s1 o1 (.int _) trivial⟩
    · cases h2
  · rw [ev, bind_assoc]
    congr 1
    funext x1 st1
    cases x1 <;> rfl
end
end U

set_option maxHeartbeats 4000000
/-! U6m: max(xs, default=d) of a list of ints, as a hand rule; used by U7. -/
namespace U
open PySem PySem.W PyProof.Rows L2
theorem reads_ints {h : Heap} : ∀ {ns : List Int} {us : List Value}, Vals (ns.map V.int) us → ReadsAll h us (ns.map PyData.int) []
  | [], us, hv => by
    cases hv
    exact .nil
  | n :: ns, us, hv => by
    cases hv with
    | cons h1 h2 =>
      obtain ⟨t, rfl⟩ := h1
      exact ReadsAll.cons (h := h) (as := []) (bs := []) (Reads.int n t) (reads_ints h2)
theorem alike_ints (ns : List Int) : AlikeAll (ns.map PyData.int) := by
  refine ⟨fun x hx y hy => ?_, fun x hx => ?_⟩
  · obtain ⟨i, _, rfl⟩ := List.mem_map.mp hx
    obtain ⟨j, _, rfl⟩ := List.mem_map.mp hy
    rfl
  · obtain ⟨i, _, rfl⟩ := List.mem_map.mp hx
    intro h
    cases h
theorem depth_ints : ∀ ns : List Int, PyData.depthAll (ns.map PyData.int) ≤ 1
  | [] => Nat.zero_le _
  | n :: ns => by
    have := depth_ints ns
    show max (PyData.depth (.int n)) (PyData.depthAll (ns.map PyData.int)) ≤ 1
    have h1 : PyData.depth (.int n) ≤ 1 := by
      show (_ : Nat) ≤ 1
      first | exact Nat.le_refl _ | exact Nat.zero_le _
    omega
theorem call_maxD {X : Cx} (hc : X.calm = true) (hu : X.A.units + 10 < cLine) : CallRK X (.builtin "max") [Str.ofString "default"]
    (fun vs zs H Q => ∃ (a : Addr) (ns : List Int) (d : Int), vs = [.ref a] ∧ zs = [.int d] ∧ SqL X.K H a (ns.map V.int) ∧ (ns = [] → Q (.int d) H) ∧ ∀ n r, ns = n :: r → Q (.int (r.foldl max n)) H) := by
  intro pins s σ H xs zs us ws Q I hx hz ⟨a, ns, d, e1, e2, hq, h0, h1⟩
  subst e1 e2
  cases hx with
  | cons x1 x2 =>
  cases x2
  obtain rfl : _ = Value.ref a := x1
  cases hz with
  | cons z1 z2 =>
  cases z2
  obtain ⟨t, rfl⟩ := z1
  obtain ⟨its, v1, v2, v3⟩ := I.list hq
  have rd : ReadsAll s.heap its.toArray.toList (ns.map PyData.int) [] := by
    rw [List.toList_toArray]
    exact reads_ints v1
  have du := depth_ints ns
  show wpAny (model X.prog X.w) X.A (PySem.call (Value.builtin "max") [Value.ref a] [(Str.ofString "default", Value.int d t)]) (EP X pins σ Q) X.xe s
  refine max_list_default (I.ok.hd hc) ?_ rd (alike_ints ns) (by omega) (fun hn h' tk hk => ?_) (fun y ys i v h' tk bs hy hv hr hk => ?_)
  · obtain ⟨o, n, p1, p2, _, p4⟩ := v2
    exact ⟨o, p1, p2, n, p4⟩
  · have hn : ns = [] := List.map_eq_nil_iff.mp hn
    exact ⟨.int d, H, I.kept hk, ⟨t, rfl⟩, h0 hn⟩
  · cases ns with
    | nil => cases hy
    | cons n r =>
      rw [List.map_cons] at hy
      injection hy with hy1 hy2
      subst hy1 hy2
      rw [maxD_ints] at hr
      obtain ⟨t', rfl⟩ : ∃ t', v = Value.int (r.foldl max n) t' := by
        cases hr
        exact ⟨_, rfl⟩
      exact ⟨.int (r.foldl max n), H, I.kept hk, ⟨t', rfl⟩, h1 n r rfl⟩
end U

set_option maxHeartbeats 4000000
/-! U7: comparisons, tests, displays, arguments, calls. -/
namespace U
open PySem PySem.Spec PyProof.Rows L2
section
variable {K : PySem.W.Frag} {μ : Nat → Addr} {L : Nat} {H : Hp} {X : Cx} {e : Expr} {call : Nat → List PV → Store → Res PV} {m : ME}
/-- the reading of a comparison's two operands -/
theorem cmp_imp {a b : ME} {f : PV → PV → Store → Option Bool} (σ : L2.St) (H : Hp) (Q : Bool → Hp → Prop)
    (q : ∃ μ env st k st', Ok X.K μ st H ∧ RE X.K μ st.length H env σ ∧ ((ev call a .use env st).bind fun x st1 => (ev call b .use env st1).bind fun y st2 => (opt (f x y st2) st2).bind fun k st3 => Res.ok (PV.bl k) st3) = Res.ok (PV.bl k) st' ∧
      ∀ μ' H', Stp μ st.length H μ' st'.length H' → Ok X.K μ' st' H' → Q k H') :
    tOp (rC X.K f) (rdU X.K (ev call a .use)) (rdU X.K (ev call b .use)) σ H fun v H' => ∃ k, v = .bl k ∧ Q k H' := by
  obtain ⟨μ, env, st, k, st', o, r, h, g⟩ := q
  obtain ⟨x1, st1, h1, h2⟩ := bind_ok h
  obtain ⟨y1, st2, h3, h4⟩ := bind_ok h2
  obtain ⟨k1, st3, h5, h6⟩ := bind_ok h4
  obtain ⟨h7, rfl⟩ := opt_ok h5
  cases h6
  exact ⟨μ, env, st, x1, st1, o, r, h1, fun μ1 H1 x' s1 o1 r1 => ⟨μ1, env, st1, y1, _, o1, r.mono s1, h3, fun μ2 H2 y' s2 o2 r2 => ⟨μ2, _, x1, y1, _, o2, r1.mono0 s2, r2, h7, _, rfl, g μ2 H2 (Stp.trans s1 s2) o2⟩⟩⟩
/-- a value that is a bool, from the wish of a bool -/
theorem rd_bl {core : En → Store → Res PV} {t : TE} (hb : ∀ env st v st', core env st = .ok v st' → ∃ k, v = .bl k)
    (i : ∀ σ H (Q : Bool → Hp → Prop), rdT K core σ H Q → t σ H fun v H' => ∃ k, v = .bl k ∧ Q k H') (mono : ∀ σ H (Q Q' : VK), (∀ v H', Q v H' → Q' v H') → t σ H Q → t σ H Q') : ∀ σ H Q, rd K core σ H Q → t σ H Q := fun σ H Q ⟨μ, env, st, v, st', o, r, h, g⟩ => by
  obtain ⟨k, rfl⟩ := hb env st v st' h
  refine mono σ H _ _ (fun v H' ⟨k', e, q⟩ => ?_) (i σ H (fun k' H' => Q (.bl k') H') ⟨μ, env, st, k, st', o, r, h, fun μ' H' s o' => g μ' H' _ s o' (.bl k) trivial⟩)
  subst e
  exact q
theorem rdU_mono {core : En → Store → Res PV} (σ : L2.St) (H : Hp) (Q Q' : VK) (i : ∀ v H', Q v H' → Q' v H') : rdU K core σ H Q → rdU K core σ H Q' := fun ⟨μ, env, st, v, st', o, r, h, g⟩ => ⟨μ, env, st, v, st', o, r, h, fun μ' H' v' s o' r' => i _ _ (g μ' H' v' s o' r')⟩
theorem rC_mono {f : PV → PV → Store → Option Bool} (x y : V) (H : Hp) (Q Q' : VK) (i : ∀ v H', Q v H' → Q' v H') : rC K f x y H Q → rC K f x y H Q' := fun ⟨μ, st, a, b, k, o, r1, r2, h, g⟩ => ⟨μ, st, a, b, k, o, r1, r2, h, i _ _ g⟩
theorem cmp_bl {a b : ME} {f : PV → PV → Store → Option Bool} (env : En) (st : Store) (v : PV) (st' : Store) (h : ((ev call a .use env st).bind fun x st1 => (ev call b .use env st1).bind fun y st2 => (opt (f x y st2) st2).bind fun k st3 => Res.ok (PV.bl k) st3) = Res.ok v st') : ∃ k, v = PV.bl k := by
  obtain ⟨x1, st1, h1, h2⟩ := bind_ok h
  obtain ⟨y1, st2, h3, h4⟩ := bind_ok h2
  obtain ⟨k1, st3, h5, h6⟩ := bind_ok h4
  cases h6
  exact ⟨k1, rfl⟩
theorem se_cmp (hu : X.A.units + 65 < cLine) {o : COp} {a b : ME} {x y : Expr} {pos : Pos} (ha : SE X call a x) (hb : SE X call b y) (hm : behindInMarks (cop o) y = false) : SE X call (.cmp o a b) (.Compare x [cop o] [y] pos) := by
  refine .bool ?_ (fun env st => by rw [ev, ev]) ?_
  · refine (pe_cmpR (op_cmp hu o) ha.use hb.use hm).imp ?_
    refine rd_bl (fun env st v st' h => by rw [ev] at h; exact cmp_bl env st v st' h) (fun σ H Q ⟨μ, env, st, k, st', o, r, h, g⟩ => by rw [ev] at h; exact cmp_imp σ H Q ⟨μ, env, st, k, st', o, r, h, g⟩) ?_
    exact fun σ H Q Q' i q => rdU_mono σ H _ _ (fun x' H1 q1 => rdU_mono σ H1 _ _ (fun y' H2 q2 => rC_mono x' y' H2 Q Q' i q2) q1) q
  · exact (pt_cmpR (op_cmp hu o) ha.use hb.use hm).imp fun σ H Q ⟨μ, env, st, k, st', o, r, h, g⟩ => by
      rw [ev] at h
      exact cmp_imp σ H Q ⟨μ, env, st, k, st', o, r, h, g⟩

/-- a < b < c -/
theorem cmp2_imp {a b c : ME} {f f' : PV → PV → Store → Option Bool} (σ : L2.St) (H : Hp) (Q : Bool → Hp → Prop)
    (q : ∃ μ env st k st', Ok X.K μ st H ∧ RE X.K μ st.length H env σ ∧ ((ev call a .use env st).bind fun x st1 => (ev call b .use env st1).bind fun y st2 => (opt (f x y st2) st2).bind fun k st3 =>
      if k then (ev call c .use env st3).bind fun z st4 => (opt (f' y z st4) st4).bind fun k' st5 => Res.ok (PV.bl k') st5 else Res.ok (PV.bl false) st3) = Res.ok (PV.bl k) st' ∧
      ∀ μ' H', Stp μ st.length H μ' st'.length H' → Ok X.K μ' st' H' → Q k H') :
    tChain (rC X.K f) (rC X.K f') (rdU X.K (ev call a .use)) (rdU X.K (ev call b .use)) (rdU X.K (ev call c .use)) σ H fun v H' => ∃ k, v = .bl k ∧ Q k H' := by
  obtain ⟨μ, env, st, k, st', o, r, h, g⟩ := q
  obtain ⟨x1, st1, h1, h2⟩ := bind_ok h
  obtain ⟨y1, st2, h3, h4⟩ := bind_ok h2
  obtain ⟨k1, st3, h5, h6⟩ := bind_ok h4
  obtain ⟨h7, rfl⟩ := opt_ok h5
  refine ⟨μ, env, st, x1, st1, o, r, h1, fun μ1 H1 x' s1 o1 r1 => ⟨μ1, env, st1, y1, st2, o1, r.mono s1, h3, fun μ2 H2 y' s2 o2 r2 => ⟨μ2, st2, x1, y1, k1, o2, r1.mono0 s2, r2, h7, k1, rfl, ?_⟩⟩⟩
  cases k1 with
  | false =>
    cases h6
    exact iteF ⟨false, rfl, g μ2 H2 (Stp.trans s1 s2) o2⟩
  | true =>
    obtain ⟨z1, st4, h8, h9⟩ := bind_ok h6
    obtain ⟨k2, st5, h10, h11⟩ := bind_ok h9
    obtain ⟨h12, rfl⟩ := opt_ok h10
    cases h11
    exact iteT ⟨μ2, env, _, z1, _, o2, r.mono (Stp.trans s1 s2), h8, fun μ3 H3 z' s3 o3 r3 => ⟨μ3, _, y1, z1, _, o3, r2.mono0 s3, r3, h12, _, rfl, g μ3 H3 (Stp.trans s1 (Stp.trans s2 s3)) o3⟩⟩
theorem cmp2_bl {a b c : ME} {f f' : PV → PV → Store → Option Bool} (env : En) (st : Store) (v : PV) (st' : Store) (h : ((ev call a .use env st).bind fun x st1 => (ev call b .use env st1).bind fun y st2 => (opt (f x y st2) st2).bind fun k st3 =>
      if k then (ev call c .use env st3).bind fun z st4 => (opt (f' y z st4) st4).bind fun k' st5 => Res.ok (PV.bl k') st5 else Res.ok (PV.bl false) st3) = Res.ok v st') : ∃ k, v = PV.bl k := by
  obtain ⟨x1, st1, h1, h2⟩ := bind_ok h
  obtain ⟨y1, st2, h3, h4⟩ := bind_ok h2
  obtain ⟨k1, st3, h5, h6⟩ := bind_ok h4
  cases k1 with
  | false => cases h6; exact ⟨false, rfl⟩
  | true =>
    obtain ⟨z1, st4, h8, h9⟩ := bind_ok h6
    obtain ⟨k2, st5, h10, h11⟩ := bind_ok h9
    cases h11
    exact ⟨k2, rfl⟩
theorem se_cmp2 (hu : X.A.units + 65 < cLine) {o o' : COp} {a b c : ME} {x y z : Expr} {pos : Pos} (ha : SE X call a x) (hb : SE X call b y) (hc : SE X call c z) (hm : lastMarks [cop o, cop o'] [y, z] = false) :
    SE X call (.cmp2 o o' a b c) (.Compare x [cop o, cop o'] [y, z] pos) := by
  refine .bool ?_ (fun env st => by rw [ev, ev]) ?_
  · refine (pe_chain (op_cmp hu o) (op_cmp hu o') ha.use hb.use hc.use hm).imp ?_
    refine rd_bl (fun env st v st' h => by rw [ev] at h; exact cmp2_bl env st v st' h) (fun σ H Q ⟨μ, env, st, k, st', o, r, h, g⟩ => by rw [ev] at h; exact cmp2_imp σ H Q ⟨μ, env, st, k, st', o, r, h, g⟩) ?_
    refine fun σ H Q Q' i q => rdU_mono σ H _ _ (fun x' H1 q1 => rdU_mono σ H1 _ _ (fun y' H2 q2 => rC_mono x' y' H2 _ _ (fun v H3 ⟨k, e, q3⟩ => ⟨k, e, ?_⟩) q2) q1) q
    cases k with
    | false => exact iteF (i _ _ (by simpa using q3))
    | true => exact iteT (rdU_mono σ H3 _ _ (fun z' H4 q4 => rC_mono y' z' H4 _ _ i q4) (by simpa using q3))
  · exact (pt_chain (op_cmp hu o) (op_cmp hu o') ha.use hb.use hc.use hm).imp fun σ H Q ⟨μ, env, st, k, st', o, r, h, g⟩ => by
      rw [ev] at h
      exact cmp2_imp σ H Q ⟨μ, env, st, k, st', o, r, h, g⟩

/-! ### not, and, or, if -/
theorem ev_not1 {a : ME} {env : En} {st : Store} : ev call (.not a) .test env st = (ev call a .test env st).bind fun x st1 => (opt (isBl x) st1).bind fun k st2 => .ok (.bl (!k)) st2 := rfl
theorem ev_not2 {a : ME} {env : En} {st : Store} : ev call (.not a) .val env st = (ev call a .use env st).bind fun x st1 => (opt (truth x st1) st1).bind fun k st2 => .ok (.bl (!k)) st2 := rfl
theorem ev_not3 {a : ME} {env : En} {st : Store} : ev call (.not a) .use env st = (ev call a .use env st).bind fun x st1 => (opt (truth x st1) st1).bind fun k st2 => .ok (.bl (!k)) st2 := rfl
theorem se_not {a : ME} {x : Expr} {pos : Pos} (ha : SE X call a x) : SE X call (.not a) (.UnaryOp .Not x pos) := by
  refine .bool ((pe_notT ha.use).imp fun σ H Q ⟨μ, env, st, v, st', o, r, h, g⟩ => ?_) (fun env st => ev_not3.trans ev_not2.symm) ((pt_not ha.test).imp fun σ H Q ⟨μ, env, st, k, st', o, r, h, g⟩ => ?_)
  · rw [ev_not2] at h
    obtain ⟨x1, st1, h1, h2⟩ := bind_ok h
    obtain ⟨k1, st2, h3, h4⟩ := bind_ok h2
    obtain ⟨h5, rfl⟩ := opt_ok h3
    cases h4
    exact ⟨μ, env, st, x1, _, o, r, h1, fun μ1 H1 x' s1 o1 r1 => ⟨k1, truth_at o1 r1 h5, g μ1 H1 _ s1 o1 (.bl _) trivial⟩⟩
  · rw [ev_not1] at h
    obtain ⟨x1, st1, h1, h2⟩ := bind_ok h
    obtain ⟨k1, st2, h3, h4⟩ := bind_ok h2
    obtain ⟨h5, rfl⟩ := opt_ok h3
    cases isBl_ok h5
    cases h4
    exact ⟨μ, env, st, k1, _, o, r, h1, g⟩
/-- a chain of and, or: its test whatever its whole is -/
structure SB (X : Cx) (call : Nat → List PV → Store → Res PV) (m : ME) (e : Expr) : Prop where
  val : PE X e (rd X.K (ev call m .val))
  use : PE X e (rdU X.K (ev call m .use))
  test : PW X e (rdT X.K (ev call m .test))
theorem SB.se {m : ME} {e : Expr} (h : SB X call m e) : SE X call m e := ⟨h.val, h.use, h.test.pt⟩
theorem SE.one {m : ME} {x : Expr} {op : BoolOp} {pos : Pos} (h : SE X call m x) : SB X call m (.BoolOp op [x] pos) := by
  refine ⟨pe_one h.val, pe_one h.use, ?_⟩
  cases op with
  | And => exact pw_and1 h.test
  | Or => exact pw_or1 h.test
theorem sb_and {a b : ME} {x y : Expr} {ys : List Expr} {pos : Pos} (ha : SE X call a x) (hb : SB X call b (.BoolOp .And (y :: ys) pos)) : SB X call (.and a b) (.BoolOp .And (x :: y :: ys) pos) := by
  refine ⟨(pe_and ha.val hb.val).imp fun σ H Q ⟨μ, env, st, v, st', o, r, h, g⟩ => ?_, (pe_and ha.use hb.use).imp fun σ H Q ⟨μ, env, st, v, st', o, r, h, g⟩ => ?_, (pw_and ha.test hb.test).imp fun σ H Q ⟨μ, env, st, k, st', o, r, h, g⟩ => ?_⟩
  all_goals
    rw [ev] at h
    obtain ⟨x1, st1, h1, h2⟩ := bind_ok h
    obtain ⟨k1, st2, h3, h4⟩ := bind_ok h2
    obtain ⟨h5, rfl⟩ := opt_ok h3
    cases isBl_ok h5
  · refine ⟨μ, env, st, _, _, o, r, h1, fun μ1 H1 x' s1 o1 r1 _ => ?_⟩
    cases r1
    refine ⟨k1, rfl, ?_⟩
    cases k1 with
    | true => exact iteT ⟨μ1, env, _, v, st', o1, r.mono s1, h4, fun μ2 H2 v' s2 o2 r2 f2 => g μ2 H2 v' (Stp.trans s1 s2) o2 r2 (f2.back s1)⟩
    | false => cases h4; exact iteF (g μ1 H1 _ s1 o1 (.bl _) trivial)
  · refine ⟨μ, env, st, _, _, o, r, h1, fun μ1 H1 x' s1 o1 r1 => ?_⟩
    cases r1
    refine ⟨k1, rfl, ?_⟩
    cases k1 with
    | true => exact iteT ⟨μ1, env, _, v, st', o1, r.mono s1, h4, fun μ2 H2 v' s2 o2 r2 => g μ2 H2 v' (Stp.trans s1 s2) o2 r2⟩
    | false => cases h4; exact iteF (g μ1 H1 _ s1 o1 (.bl _))
  · refine ⟨μ, env, st, k1, _, o, r, h1, fun μ1 H1 s1 o1 => ?_⟩
    cases k1 with
    | true => exact iteT ⟨μ1, env, _, k, st', o1, r.mono s1, h4, fun μ2 H2 s2 o2 => g μ2 H2 (Stp.trans s1 s2) o2⟩
    | false => cases h4; exact iteF (g μ1 H1 s1 o1)
theorem sb_or {a b : ME} {x y : Expr} {ys : List Expr} {pos : Pos} (ha : SE X call a x) (hb : SB X call b (.BoolOp .Or (y :: ys) pos)) : SB X call (.or a b) (.BoolOp .Or (x :: y :: ys) pos) := by
  refine ⟨(pe_or ha.val hb.val).imp fun σ H Q ⟨μ, env, st, v, st', o, r, h, g⟩ => ?_, (pe_or ha.use hb.use).imp fun σ H Q ⟨μ, env, st, v, st', o, r, h, g⟩ => ?_, (pw_or ha.test hb.test).imp fun σ H Q ⟨μ, env, st, k, st', o, r, h, g⟩ => ?_⟩
  all_goals
    rw [ev] at h
    obtain ⟨x1, st1, h1, h2⟩ := bind_ok h
    obtain ⟨k1, st2, h3, h4⟩ := bind_ok h2
    obtain ⟨h5, rfl⟩ := opt_ok h3
    cases isBl_ok h5
  · refine ⟨μ, env, st, _, _, o, r, h1, fun μ1 H1 x' s1 o1 r1 _ => ?_⟩
    cases r1
    refine ⟨k1, rfl, ?_⟩
    cases k1 with
    | false => exact iteF ⟨μ1, env, _, v, st', o1, r.mono s1, h4, fun μ2 H2 v' s2 o2 r2 f2 => g μ2 H2 v' (Stp.trans s1 s2) o2 r2 (f2.back s1)⟩
    | true => cases h4; exact iteT (g μ1 H1 _ s1 o1 (.bl _) trivial)
  · refine ⟨μ, env, st, _, _, o, r, h1, fun μ1 H1 x' s1 o1 r1 => ?_⟩
    cases r1
    refine ⟨k1, rfl, ?_⟩
    cases k1 with
    | false => exact iteF ⟨μ1, env, _, v, st', o1, r.mono s1, h4, fun μ2 H2 v' s2 o2 r2 => g μ2 H2 v' (Stp.trans s1 s2) o2 r2⟩
    | true => cases h4; exact iteT (g μ1 H1 _ s1 o1 (.bl _))
  · refine ⟨μ, env, st, k1, _, o, r, h1, fun μ1 H1 s1 o1 => ?_⟩
    cases k1 with
    | false => exact iteF ⟨μ1, env, _, k, st', o1, r.mono s1, h4, fun μ2 H2 s2 o2 => g μ2 H2 (Stp.trans s1 s2) o2⟩
    | true => cases h4; exact iteT (g μ1 H1 s1 o1)

/-! ### arguments and displays -/
/-- an argument list's two readings -/
structure SA (X : Cx) (call : Nat → List PV → Store → Res PV) (as : MEs) (es : List Expr) : Prop where
  kept : PA X es (rdA X.K (evA call as))
  used : PA X es (rdC X.K (evCs call as))
theorem sa_nil : SA X call .nil [] := by
  refine ⟨pa_nil.imp fun σ H Q ⟨μ, env, st, v, st', o, r, h, g⟩ => ?_, pa_nil.imp fun σ H Q ⟨μ, env, st, v, st', o, r, h, g⟩ => ?_⟩
  · rw [evA] at h; cases h
    exact g μ H [] StX.refl o .nil
  · rw [evCs] at h; cases h
    exact g μ H [] StX.refl o .nil
theorem sa_cons {a : ME} {as : MEs} {x : Expr} {xs : List Expr} (ha : SE X call a x) (hs : SA X call as xs) (he : starEach (x :: xs) X.env = (false, eval x X.env) :: starEach xs X.env) : SA X call (.cons a as) (x :: xs) := by
  refine ⟨(pa_cons ha.val hs.kept he).imp fun σ H Q ⟨μ, env, st, v, st', o, r, h, g⟩ => ?_, (pa_cons ha.use hs.used he).imp fun σ H Q ⟨μ, env, st, v, st', o, r, h, g⟩ => ?_⟩
  · rw [evA] at h
    obtain ⟨x1, st1, h1, h2⟩ := bind_ok h
    obtain ⟨y1, st2, h3, h4⟩ := bind_ok h2
    cases h4
    refine ⟨μ, env, st, x1, st1, o, r, h1, fun μ1 H1 x' s1 o1 r1 f1 => ?_⟩
    obtain ⟨μe, se, oe, re, fe, _⟩ := Ok.esc s1 o1 r1 f1
    exact ⟨μe, env, _, y1, st', oe, r.mono se, h3, fun μ2 H2 ys s2 o2 r2 => g μ2 H2 _ (Stp.trans se s2) o2 (.cons fe (re.mono0 s2) r2)⟩
  · rw [evCs] at h
    obtain ⟨x1, st1, h1, h2⟩ := bind_ok h
    obtain ⟨y1, st2, h3, h4⟩ := bind_ok h2
    cases h4
    exact ⟨μ, env, st, x1, st1, o, r, h1, fun μ1 H1 x' s1 o1 r1 => ⟨μ1, env, st1, y1, st', o1, r.mono s1, h3, fun μ2 H2 ys s2 o2 r2 => g μ2 H2 _ (Stp.trans s1 s2) o2 (.cons (r1.mono0 s2) r2)⟩⟩
/-- a starred item -/
theorem pi_star {a : ME} {as : MEs} {x : Expr} {xs : List Expr} {p : Pos} (ha : SE X call a x) (hs : PA X xs (rdA X.K (evI call as))) (he : starEach (.Starred x p :: xs) X.env = (true, eval x X.env) :: starEach xs X.env) : PA X (.Starred x p :: xs) (rdA X.K (evI call (.cons (.star a) as))) := by
  refine (_root_.StX.pa_star ha.use hs he).imp fun σ H Q ⟨μ, env, st, v, st', o, r, h, g⟩ => ?_
  rw [evI] at h
  obtain ⟨x1, st1, h1, h2⟩ := bind_ok h
  obtain ⟨ys, st2, h3, h4⟩ := bind_ok h2
  obtain ⟨h5, rfl⟩ := opt_ok h3
  obtain ⟨zs, st3, h6, h7⟩ := bind_ok h4
  cases h7
  refine ⟨μ, env, st, x1, st1, o, r, h1, fun μ1 H1 x' s1 o1 r1 => ?_⟩
  obtain ⟨q, vs, rfl, hq, rv⟩ := seq_at o1 r1 h5
  exact ⟨q, vs, rfl, hq.symm, μ1, env, st1, zs, st', o1, r.mono s1, h6, fun μ2 H2 ws s2 o2 r2 => g μ2 H2 _ (Stp.trans s1 s2) o2 (RVs.app (RVs.mono s2 rv) r2)⟩
theorem pi_nil : PA X [] (rdA X.K (evI call .nil)) := pa_nil.imp fun σ H Q ⟨μ, env, st, v, st', o, r, h, g⟩ => by
  rw [evI] at h; cases h
  exact g μ H [] StX.refl o .nil
theorem pi_cons {a : ME} {as : MEs} {x : Expr} {xs : List Expr} (hn : ∀ b, a ≠ .star b) (ha : SE X call a x) (hs : PA X xs (rdA X.K (evI call as))) (he : starEach (x :: xs) X.env = (false, eval x X.env) :: starEach xs X.env) : PA X (x :: xs) (rdA X.K (evI call (.cons a as))) := by
  refine (pa_cons ha.val hs he).imp fun σ H Q ⟨μ, env, st, v, st', o, r, h, g⟩ => ?_
  rw [evI.eq_3 _ _ _ _ _ (fun b e => hn b e)] at h
  obtain ⟨x1, st1, h1, h2⟩ := bind_ok h
  obtain ⟨y1, st2, h3, h4⟩ := bind_ok h2
  cases h4
  refine ⟨μ, env, st, x1, st1, o, r, h1, fun μ1 H1 x' s1 o1 r1 f1 => ?_⟩
  obtain ⟨μe, se, oe, re, fe, _⟩ := Ok.esc s1 o1 r1 f1
  exact ⟨μe, env, _, y1, st', oe, r.mono se, h3, fun μ2 H2 ys s2 o2 r2 => g μ2 H2 _ (Stp.trans se s2) o2 (.cons fe (re.mono0 s2) r2)⟩
theorem se_tupS {as : MEs} {es : List Expr} {k : Nat} {pos : Pos} (hs : PA X es (rdA X.K (evI call as))) : SE X call (.tupS as) (.Tuple es k pos) := by
  refine .plain (fun env st => (evI call as env st).bind fun xs st1 => if xs.length ≤ sizeLine then .ok (.tup xs) st1 else .bad) ((pe_tup hs).imp fun σ H Q ⟨μ, env, st, v, st', o, r, h, g⟩ => ?_) (fun md env st => ?_) fun _ => rfl
  · obtain ⟨xs, st1, h1, h2⟩ := bind_ok h
    split at h2
    · rename_i hz
      cases h2
      refine ⟨μ, env, st, xs, st', o, r, h1, fun μ1 H1 vs s1 o1 r1 => ⟨by rw [← r1.len]; exact hz, fun p hp => ?_⟩⟩
      exact g μ1 _ _ (Stp.trans s1 (Stp.laid hp)) (o1.laid hp) (.tup (SqT.of upd_same) (RVs.mono (Stp.laid hp) r1) (.inl upd_same)) trivial
    · cases h2
  · rw [ev, bind_assoc]
    congr 1
    funext xs st1
    split <;> rfl
theorem se_tup {as : MEs} {es : List Expr} {k : Nat} {pos : Pos} (hs : SA X call as es) : SE X call (.tup as) (.Tuple es k pos) := by
  refine .plain (fun env st => (evA call as env st).bind fun xs st1 => if xs.length ≤ sizeLine then .ok (.tup xs) st1 else .bad) ((pe_tup hs.kept).imp fun σ H Q ⟨μ, env, st, v, st', o, r, h, g⟩ => ?_) (fun md env st => ?_) fun _ => rfl
  · obtain ⟨xs, st1, h1, h2⟩ := bind_ok h
    split at h2
    · rename_i hz
      cases h2
      refine ⟨μ, env, st, xs, st', o, r, h1, fun μ1 H1 vs s1 o1 r1 => ⟨by rw [← r1.len]; exact hz, fun p hp => ?_⟩⟩
      exact g μ1 _ _ (Stp.trans s1 (Stp.laid hp)) (o1.laid hp) (.tup (SqT.of upd_same) (RVs.mono (Stp.laid hp) r1) (.inl upd_same)) trivial
    · cases h2
  · rw [ev, bind_assoc]
    congr 1
    funext xs st1
    split <;> rfl
theorem se_lst {as : MEs} {es : List Expr} {pos : Pos} (hs : SA X call as es) : SE X call (.lst as) (.List es pos) := by
  refine .plain (fun env st => (evA call as env st).bind fun xs st1 => if xs.length ≤ sizeLine then .ok (.fl xs) st1 else .bad) ((pe_lst hs.kept).imp fun σ H Q ⟨μ, env, st, v, st', o, r, h, g⟩ => ?_) (fun md env st => ?_) fun _ => rfl
  · obtain ⟨xs, st1, h1, h2⟩ := bind_ok h
    split at h2
    · rename_i hz
      cases h2
      refine ⟨μ, env, st, xs, st', o, r, h1, fun μ1 H1 vs s1 o1 r1 => ⟨by rw [← r1.len]; exact hz, fun p hp => ?_⟩⟩
      exact g μ1 _ _ (Stp.trans s1 (Stp.laid hp)) (o1.laid hp) (.fl upd_same (o1.apart hp) (RVs.mono (Stp.laid hp) r1)) (s1.there _ hp)
    · cases h2
  · rw [ev, bind_assoc]
    congr 1
    funext xs st1
    split <;> rfl

/-! ### calls of built-ins -/
theorem se_bi {f : BF} {as : MEs} {es : List Expr} {g : Expr} (hs : SA X call as es) (h : ∀ {r : List V → Hp → VK → Prop} {t : TA}, CallR X (bfn f) r → PA X es t → PE X g (tCB r t)) (hc : X.calm = true) (hG : f = .reprD → X.A.guards = some [] ∧ X.A.units + 200 < cLine)
    (he : ∀ whole, isTrue g X.env whole = (do let v ← whole; standAt g.pos; holding [v] (truthy v))) : SE X call (.bi f as) g := by
  refine .plain (fun env st => (evCs call as env st).bind fun xs st1 => opt (biV f xs st1) st1) ((h (op_bi hc f hG) hs.used).imp fun σ H Q ⟨μ, env, st, v, st', o, r, h, g⟩ => ?_) (fun md env st => by rw [ev, bind_assoc]) he
  obtain ⟨xs, st1, h1, h2⟩ := bind_ok h
  obtain ⟨h3, rfl⟩ := opt_ok h2
  exact ⟨μ, env, st, xs, _, o, r, h1, fun μ1 H1 vs s1 o1 r1 => ⟨μ1, _, xs, v, o1, r1, h3, fun H2 v' s2 o2 r2 f2 => g μ1 H2 v' (Stp.trans s1 s2) o2 r2 (f2.back s1)⟩⟩
/-! ### isinstance -/
theorem ty_of {K : PySem.W.Frag} {μ : Nat → Addr} {st : Store} {H : Hp} {x : PV} {v : V} (o : Ok K μ st H) (r : RV K μ st.length H x v) (hf : ∀ n, x = .loc n → ∃ xs, st[n]? = some (.lst xs)) (hz : ∀ f c q, x ≠ .fnv f c q) : ∃ t' : Value, TyX K H v t' ∧ ∀ t : Ty, PySem.W.kitOne K t' (.type (tstr t)) = some (isiV t x) := by
  cases r with
  | fnv h => exact absurd rfl (hz _ _ _)
  | non => exact ⟨_, .base .non, fun t => by cases t <;> exact kit_ty (by simp only [tstr, isiV]; decide +kernel)⟩
  | bl b => exact ⟨_, .base (.bl b), fun t => by cases t <;> exact kit_ty (by simp only [tstr, isiV]; decide +kernel)⟩
  | int i => exact ⟨_, .base (.int i), fun t => by cases t <;> exact kit_ty (by simp only [tstr, isiV]; decide +kernel)⟩
  | str s => exact ⟨_, .base (.str s), fun t => by cases t <;> exact kit_ty (by simp only [tstr, isiV]; decide +kernel)⟩
  | @tup xs a vs h r =>
    have hk : ∀ t : Ty, PySem.W.kitOne K (.type "tuple") (.type (tstr t)) = some (isiV t (.tup xs)) := fun t => by cases t <;> exact kit_ty (by simp only [tstr, isiV]; decide +kernel)
    rcases h with (h | ⟨ob, h⟩) | ⟨ob, _, _, h, c, _⟩
    · exact ⟨_, .base (.tup h), hk⟩
    · exact ⟨_, .fTuple h, hk⟩
    · exact ⟨_, .kTuple h c, hk⟩
  | @loc n h =>
    obtain ⟨xs, e⟩ := hf n rfl
    obtain ⟨vs, h, _⟩ := o.cell n xs e
    exact ⟨_, .base (.lst h), fun t => by cases t <;> exact kit_ty (by simp only [tstr, isiV]; decide +kernel)⟩
  | fl h n r => exact ⟨_, .base (.lst h), fun t => by cases t <;> exact kit_ty (by simp only [tstr, isiV]; decide +kernel)⟩
  | @rol xs a vs h r =>
    have hk : ∀ t : Ty, PySem.W.kitOne K (.type "list") (.type (tstr t)) = some (isiV t (.rol xs)) := fun t => by cases t <;> exact kit_ty (by simp only [tstr, isiV]; decide +kernel)
    rcases h with ⟨ob, h⟩ | ⟨ob, _, _, h, c, _⟩
    · exact ⟨_, .base (.frz h), hk⟩
    · exact ⟨_, .kList h c, hk⟩
theorem se_isi {t : Ty} {a : ME} {x : Expr} {p p2 pos : Pos} (ha : SE X call a x) (hg : Gl X "isinstance") (hm : X.mg "isinstance" = none) (hg2 : Gl X (tname t)) (hm2 : X.mg (tname t) = none) (hx : starEach (x :: [.Name (tname t) p2]) X.env = (false, eval x X.env) :: starEach [.Name (tname t) p2] X.env) : SE X call (.isi t a) (.Call (.Name "isinstance" p) [x, .Name (tname t) p2] [] pos) := by
  have pt : PE X (.Name (tname t) p2) (tC (.ty (tstr t))) := by cases t <;> exact pe_bltn hg2 hm2 (by decide +kernel) rfl
  have pa : PA X [x, .Name (tname t) p2] (tCons (rdU X.K (ev call a .use)) (tCons (tC (.ty (tstr t))) tNil)) := pa_cons ha.use (pa_cons pt pa_nil rfl) hx
  refine .plain (fun env st => (ev call a .use env st).bind fun x st1 => opt (isiO t x st1) st1) ((pe_callB call_isi hg hm (by decide +kernel) pa (by decide) (by decide) hx rfl).imp fun σ H Q ⟨μ, env, st, v, st', o, r, h, g⟩ => ?_) (fun md env st => by rw [ev, bind_assoc]) fun _ => rfl
  obtain ⟨x1, st1, h1, h2⟩ := bind_ok h
  have nz : ∀ f c q, x1 ≠ .fnv f c q := fun f c q e => by
    subst e
    cases h2
  have nf : ∀ n, x1 = .loc n → ∃ xs, st1[n]? = some (.lst xs) := fun n e => by
    subst e
    unfold isiO at h2
    simp only at h2
    split at h2
    · rename_i xs q; exact ⟨xs, q⟩
    · cases h2
  have h2 : v = .bl (isiV t x1) ∧ st' = st1 := by
    cases x1 with
    | loc n =>
      obtain ⟨xs, q⟩ := nf n rfl
      unfold isiO at h2
      simp only [q] at h2
      cases h2; exact ⟨rfl, rfl⟩
    | fnv f c q => exact absurd rfl (nz f c q)
    | _ => cases h2; exact ⟨rfl, rfl⟩
  obtain ⟨rfl, rfl⟩ := h2
  refine ⟨μ, env, st, x1, _, o, r, h1, fun μ1 H1 x' s1 o1 r1 => ?_⟩
  obtain ⟨t', c1, c2⟩ := ty_of o1 r1 nf nz
  exact ⟨x', .ty (tstr t), t', _, isiV t x1, rfl, .ty _, c1, c2 t, g μ1 H1 (.bl _) s1 o1 (.bl _) trivial⟩
/-! ### max with a default -/
theorem se_mxd {a : ME} {d : Int} {x : Expr} {p p2 p3 pos : Pos} {j : Nat} (ha : SE X call a x) (hc : X.calm = true) (hu : X.A.units + 10 < cLine) (hg : Gl X "max") (hm : X.mg "max" = none) (hx : starEach [x] X.env = (false, eval x X.env) :: starEach [] X.env) : SE X call (.mxd a d) (.Call (.Name "max" p) [x] [⟨some (Str.ofString "default"), .Constant (.int d) j p2, p3⟩] pos) := by
  have pa : PA X [x] (tCons (rdU X.K (ev call a .use)) tNil) := pa_cons ha.use pa_nil hx
  have pk : PK X [⟨some (Str.ofString "default"), .Constant (.int d) j p2, p3⟩] (tCons (tC (.int d)) tNil) := pk_cons pe_int pk_nil
  have hb : backTo pos (starEach [x] X.env) = (false, eval x X.env) :: backTo pos (starEach [] X.env) := by rw [hx]; rfl
  have hb2 : (backTo pos (starEach [x] X.env)).any (·.1) = false := by rw [hx]; rfl
  refine .plain (fun env st => (ev call a .use env st).bind fun x st1 => opt (maxdV d x st1) st1) ((pe_callBK (call_maxD hc hu) hg hm (by decide +kernel) pa pk (by decide) (by decide) hb hb2 rfl rfl rfl).imp fun σ H Q ⟨μ, env, st, v, st', o, r, h, g⟩ => ?_) (fun md env st => by simp only [ev, bind_assoc]) fun _ => rfl
  obtain ⟨x1, st1, h1, h2⟩ := bind_ok h
  obtain ⟨h3, rfl⟩ := opt_ok h2
  refine ⟨μ, env, st, x1, _, o, r, h1, fun μ1 H1 x' s1 o1 r1 => ?_⟩
  unfold maxdV at h3
  split at h3
  · rename_i xs' hr
    obtain ⟨q, vs, rfl, hq, rs⟩ := rd_at o1 r1 hr
    split at h3
    · rename_i hn
      cases h3
      have e := ints_at rs hn
      subst e
      exact ⟨q, [], d, rfl, rfl, hq, fun _ => g μ1 H1 (.int d) s1 o1 (.int _) trivial, fun n r z => by cases z⟩
    · rename_i n r hn
      cases h3
      have e := ints_at rs hn
      subst e
      exact ⟨q, n :: r, d, rfl, rfl, hq, fun z => (by cases z), fun n' r' z => by
        cases z
        exact g μ1 H1 (.int _) s1 o1 (.int _) trivial⟩
    · cases h3
  · cases h3
/-! ### a dict of the module -/
/-- d.get(y, z), d a dict of the module -/
def tKGet (es : Array DictEntry) (ty tx : TE) : TE := fun σ H Q => ty σ H fun y H2 => tx σ H2 fun z H3 => ∃ (k : Str) (r : Option Value) (v : V), y = .str k ∧ findBy Value.isStrOf es k = r ∧ (match r with | some u => RelV v u | none => v = z) ∧ Q v H3
theorem pe_kget2 {d : Addr} {es : Array DictEntry} {n : Nat} {o e f : Expr} {apos cpos : Pos} {ty tx : TE} (D : KDict X.K X.w d es n) (ho : PE X o (tC (.ref d))) (he : PE X e ty) (hf : PE X f tx) (m : M2 X o "get" apos e f cpos) : PE X (.Call (.Attribute o "get" apos) [e, f] [] cpos) (tKGet es ty tx) := by
  refine ⟨fun pins s σ H Q I h => ?_⟩
  have h' : tC (.ref d) σ H fun x H1 => x = .ref d ∧ tKGet es ty tx σ H1 Q := ⟨rfl, h⟩
  refine wpAny_Call_method m.base m.few m.line PySem.F.plainAttrs_dict PySem.F.slot_dict_get PySem.F.type_dict_get (thn (ho.run pins s σ H _ I h') fun u s1 ⟨x, H1, I1, rx, ex, q1⟩ => ?_)
  subst ex
  obtain rfl : u = Value.ref d := rx
  refine ⟨kd_type D I1, fun b q => ?_, ?_⟩
  · cases q
    exact ⟨_, I1.kIn d _ D.at_, rfl⟩
  rw [m.trees]
  refine Calls.callWith_builtin rfl (Calls.evalArgs_plain (Calls.spliced_cons (thn (he.run pins s1 σ H1 _ I1 q1) fun iv s2 ⟨y, H2, I2, ry, q2⟩ =>
    Calls.spliced_cons (thn (hf.run pins s2 σ H2 _ I2 q2) fun fv s3 ⟨z, H3, I3, rz, k, r, v, ey, en, hv, q3⟩ => Calls.spliced_nil ?_))))
  subst ey
  obtain ⟨tk, rfl⟩ := ry
  refine call_meetsIn PySem.F.slot_dict_get (kd_type D I3) PySem.F.entry_dict_get (PySem.F.args_dict_get_3 _ _ _) (meets_dict_get_default (strKind X.prog X.w) d (PySem.strKind_is X.prog X.w k tk) D.low fv) ⟨_, PySem.W.mapOf_K (prog := X.prog) I3.kIn D.at_ D.lit, ?_⟩
  rw [en]
  cases r with
  | some u0 => exact ⟨v, H3, I3.tok _, hv, q3⟩
  | none => subst hv; exact ⟨v, H3, I3.tok _, rz, q3⟩
/-- a written dict's entries and what they are -/
def DRel : List DictEntry → List (Str × PV) → Prop
  | [], [] => True
  | e :: r, (x, v) :: q => (∃ t w, e.key = .str x t ∧ flV v = some w ∧ RelV w e.val) ∧ DRel r q
  | _, _ => False
theorem DRel.find : ∀ {l : List DictEntry} {kvs : List (Str × PV)}, DRel l kvs → ∀ z : Str, match kvs.lookup z with
    | some v => ∃ w u, flV v = some w ∧ findBy Value.isStrOf l.toArray z = some u ∧ RelV w u
    | none => findBy Value.isStrOf l.toArray z = none
  | [], [], _, z => rfl
  | [], _ :: _, h, _ => h.elim
  | _ :: _, [], h, _ => h.elim
  | e :: r, (x, v) :: q, ⟨⟨t, w, h1, h2, h3⟩, h4⟩, z => by
    have ih := DRel.find h4 z
    have ef : findBy Value.isStrOf (e :: r).toArray z = if x == z then some e.val else findBy Value.isStrOf r.toArray z := by
      unfold findBy
      rw [List.find?_toArray, List.find?_toArray, List.find?_cons, h1]
      show Option.map _ (match x == z with | true => some e | false => List.find? _ r) = _
      cases x == z <;> rfl
    rw [List.lookup_cons]
    cases hz : z == x with
    | true =>
      have := eq_of_beq hz
      subst this
      simp only
      exact ⟨w, _, h2, by rw [ef, if_pos (beq_self_eq_true z)], h3⟩
    | false =>
      have hx : (x == z) = false := by
        cases q : x == z with
        | false => rfl
        | true => rw [eq_of_beq q, beq_self_eq_true] at hz; cases hz
      rw [ef, hx]
      exact ih
theorem flV_rv {K : PySem.W.Frag} {v : PV} {w : V} (h : flV v = some w) (μ : Nat → Addr) (L : Nat) (H : Hp) : RV K μ L H v w := by
  cases v <;> cases h
  · exact .non
  · exact .bl _
  · exact .int _
  · exact .str _
theorem se_fmt {a : ME} {x : Expr} {pos : Pos} (ha : SE X call a x) : SE X call (.fmt a) (.FormattedValue x (-1) none pos) := by
  refine .plain (fun env st => (ev call a .use env st).bind fun x st1 => opt (fmtV x) st1) ((pe_fmt ha.use).imp fun σ H Q ⟨μ, env, st, v, st', o, r, h, g⟩ => ?_) (fun md env st => by simp only [ev, bind_assoc]) fun _ => rfl
  obtain ⟨x1, st1, h1, h2⟩ := bind_ok h
  obtain ⟨h3, rfl⟩ := opt_ok h2
  refine ⟨μ, env, st, x1, _, o, r, h1, fun μ1 H1 x' s1 o1 r1 => ?_⟩
  cases r1 with
  | str z =>
    have h3 : (if z.length ≤ sizeLine then some (PV.str z) else none) = some v := h3
    split at h3
    · rename_i hz
      cases h3
      exact .inl ⟨z, rfl, hz, g μ1 H1 _ s1 o1 (.str _) trivial⟩
    · cases h3
  | int i =>
    have h3 : (if i.natAbs < 1000000 then some (PV.str (toString i)) else none) = some v := h3
    split at h3
    · rename_i hz
      cases h3
      exact .inr ⟨i, rfl, log_ok hz, g μ1 H1 _ s1 o1 (.str _) trivial⟩
    · cases h3
  | _ => cases h3
/-- parts of an f-string -/
def SJ (X : Cx) (call : Nat → List PV → Store → Res PV) (as : MEs) (es : List Expr) : Prop := ∃ ts : List TE, PJ X es ts ∧ ∀ (acc : Str) (σ : L2.St) (H : Hp) (Q : Str → Hp → Prop) (μ : Nat → Addr) (env : En) (st : Store) (xs : List PV) (out : Str) (st' : Store),
  Ok X.K μ st H → RE X.K μ st.length H env σ → evCs call as env st = .ok xs st' → glueV xs acc = some out → (∀ μ' H', Stp μ st.length H μ' st'.length H' → Ok X.K μ' st' H' → Q out H') → tJs ts acc σ H Q
theorem sj_nil : SJ X call .nil [] := ⟨[], .nil, fun acc σ H Q μ env st xs out st' o r h g k => by
  rw [evCs] at h; cases h
  cases g
  exact k μ H StX.refl o⟩
theorem sj_cons {a : ME} {as : MEs} {x : Expr} {xs : List Expr} (ha : SE X call a x) (hs : SJ X call as xs) : SJ X call (.cons a as) (x :: xs) := by
  obtain ⟨ts, p, q⟩ := hs
  refine ⟨_ :: ts, .cons ha.use p, fun acc σ H Q μ env st vs out st' o r h g k => ?_⟩
  rw [evCs] at h
  obtain ⟨x1, st1, h1, h2⟩ := bind_ok h
  obtain ⟨y1, st2, h3, h4⟩ := bind_ok h2
  cases h4
  refine ⟨μ, env, st, x1, st1, o, r, h1, fun μ1 H1 x' s1 o1 r1 => ?_⟩
  cases r1 with
  | str z =>
    have g : (if (acc ++ z).length ≤ sizeLine then glueV y1 (acc ++ z) else none) = some out := g
    split at g
    · rename_i hz
      exact ⟨z, rfl, hz, q (acc ++ z) σ H1 Q μ1 env st1 y1 out st' o1 (r.mono s1) h3 g fun μ2 H2 s2 o2 => k μ2 H2 (Stp.trans s1 s2) o2⟩
    · cases g
  | _ => cases g
theorem se_fstr {as : MEs} {x y : Expr} {r : List Expr} {pos : Pos} (hs : SJ X call as (x :: y :: r)) : SE X call (.fstr as) (.JoinedStr (x :: y :: r) pos) := by
  obtain ⟨ts, p, q⟩ := hs
  refine .plain (fun env st => (evCs call as env st).bind fun xs st1 => (opt (glueV xs Str.empty) st1).bind fun z st2 => .ok (.str z) st2) ((pe_joined p).imp fun σ H Q ⟨μ, env, st, v, st', o, r, h, g⟩ => ?_) (fun md env st => by simp only [ev, bind_assoc]; rfl) fun _ => rfl
  obtain ⟨xs, st1, h1, h2⟩ := bind_ok h
  obtain ⟨z, st2, h3, h4⟩ := bind_ok h2
  obtain ⟨h5, rfl⟩ := opt_ok h3
  cases h4
  exact q _ σ H (fun out H1 => Q (.str out) H1) μ env st xs z _ o r h1 h5 fun μ1 H1 s1 o1 => g μ1 H1 (.str z) s1 o1 (.str z) trivial
theorem ix_kd {d : Addr} {es : Array DictEntry} {n : Nat} (D : KDict X.K X.w d es n) : IxR X (fun x y H Q => ∃ z u v, x = .ref d ∧ y = .str z ∧ findBy Value.isStrOf es z = some u ∧ RelV v u ∧ Q v H) := by
  intro value slice pins s σ H x y v u Q I rx ry h hs
  obtain ⟨z, u0, r, rfl, rfl, e, ru, q⟩ := h
  obtain rfl : v = Value.ref d := rx
  obtain ⟨t, rfl⟩ := ry
  have hm := PySem.W.mapOf_K (prog := X.prog) (w := X.w) I.kIn D.at_ D.lit
  exact tail_any hm.typeIs PySem.F.slot_dict_getitem.lookup (wpAny_getItem_of (strKind_is X.prog X.w z t) hm e ⟨r, H, I.tok _, ru, q⟩) hs
theorem se_dix {x : Str} {kvs : List (Str × PV)} {a : ME} {d : Addr} {es : Array DictEntry} {n : Nat} {o e : Expr} {pos : Pos} (D : KDict X.K X.w d es n) (R : DRel es.toList kvs) (ho : PE X o (tC (.ref d)))
    (ha : SE X call a e) (hs : PlainIx e) : SE X call (.dix x kvs a) (.Subscript o e pos) := by
  refine .plain (fun env st => (ev call a .val env st).bind fun x st1 => opt (dixV kvs x) st1) ((pe_ix (ix_kd D) ho ha.val hs).imp fun σ H Q ⟨μ, env, st, v, st', o, r, h, g⟩ => ?_) (fun md env st => by simp only [ev, bind_assoc]) fun _ => rfl
  obtain ⟨x1, st1, h1, h2⟩ := bind_ok h
  obtain ⟨h3, rfl⟩ := opt_ok h2
  refine ⟨μ, env, st, x1, _, o, r, h1, fun μ1 H1 x' s1 o1 r1 _ => ?_⟩
  cases r1 with
  | str z =>
    have h3 : kvs.lookup z = some v := h3
    have q := R.find z
    rw [h3] at q
    obtain ⟨w, u, q1, q2, q3⟩ := q
    exact ⟨z, u, w, rfl, rfl, q2, q3, g μ1 H1 w s1 o1 (flV_rv q1 _ _ _) (by cases v <;> first | exact trivial | cases q1)⟩
  | _ => cases h3
theorem flV_fr {H : Hp} {v : PV} {w : V} (h : flV v = some w) : v.isFl = false := by cases v <;> first | rfl | cases h
theorem se_gget {x : Str} {kvs : List (Str × PV)} {a b : ME} {d : Addr} {es : Array DictEntry} {n : Nat} {o e f : Expr} {apos cpos : Pos} (D : KDict X.K X.w d es n) (R : DRel es.toList kvs) (ho : PE X o (tC (.ref d)))
    (ha : SE X call a e) (hb : SE X call b f) (m : M2 X o "get" apos e f cpos) : SE X call (.gget x kvs a b) (.Call (.Attribute o "get" apos) [e, f] [] cpos) := by
  refine .plain (fun env st => (ev call a .use env st).bind fun x st1 => (ev call b .val env st1).bind fun y st2 => opt (getV kvs x y) st2) ((pe_kget2 D ho ha.use hb.val m).imp fun σ H Q ⟨μ, env, st, v, st', o, r, h, g⟩ => ?_) (fun md env st => by simp only [ev, bind_assoc]) fun _ => rfl
  obtain ⟨x1, st1, h1, h2⟩ := bind_ok h
  obtain ⟨y1, st2, h3, h4⟩ := bind_ok h2
  obtain ⟨h5, rfl⟩ := opt_ok h4
  refine ⟨μ, env, st, x1, st1, o, r, h1, fun μ1 H1 x' s1 o1 r1 => ⟨μ1, env, st1, y1, _, o1, r.mono s1, h3, fun μ2 H2 y' s2 o2 r2 f2 => ?_⟩⟩
  cases r1 with
  | str z =>
    have h5 : (if y1.isFl then none else some ((kvs.lookup z).getD y1)) = some v := h5
    split at h5
    · cases h5
    · rename_i hf
      have q := R.find z
      cases hl : kvs.lookup z with
      | none =>
        rw [hl] at q h5
        cases h5
        exact ⟨z, none, y', rfl, q, rfl, g μ2 H2 y' (Stp.trans s1 s2) o2 r2 (f2.back s1)⟩
      | some v0 =>
        rw [hl] at q h5
        cases h5
        obtain ⟨w, u, q1, q2, q3⟩ := q
        exact ⟨z, some u, w, rfl, q2, q3, g μ2 H2 w (Stp.trans s1 s2) o2 (flV_rv q1 _ _ _) (by cases v0 <;> first | exact trivial | cases q1)⟩
  | _ => cases h5
end
end U

set_option maxHeartbeats 4000000
/-! U8z: zip of two sequences, each a tuple or a list. -/
namespace U
open PySem PySem.Spec PyProof.Rows L2
/-- a sequence: a tuple, or a list -/
def Sqk (k : Bool) (K : PySem.W.Frag) (H : Hp) (a : Addr) (xs : List V) : Prop := match k with
  | true => SqT K H a xs
  | false => SqL K H a xs
/-- its iterator -/
def itk (k : Bool) (h : Heap) (it a : Addr) (i : Nat) : Prop := match k with
  | true => h.IsTupleIter it a i
  | false => h.IsListIter it a i
def atk (k : Bool) (h : Heap) (a : Addr) (its : Array Value) : Prop := match k with
  | true => h.IsTuple a its
  | false => h.IsList a its
theorem drk {prog : Program} {w : World} {A : Around} {k : Bool} (hh : A.handled = none) {it a : Addr} (ne : a ≠ it) (its : Array Value) : Draws prog w A it [it, a] its.size (fun i v => its[i]? = some v) (fun i h => itk k h it a i ∧ atk k h a its) := by
  cases k with
  | true => exact Draws.tuple hh it a ne its
  | false => exact Draws.list hh it a ne its
section
variable {X : Cx} {pins : List (Addr × Obj)} {σ : L2.St} {H : Hp} {s : Shared} {k : Bool} {a : Addr} {xs ys : List V}
theorem Sqk.its (I : L2.Inv X pins σ H s) (h : Sqk k X.K H a xs) : ∃ its : List Value, Vals xs its ∧ atk k s.heap a its.toArray := by
  cases k with
  | true => obtain ⟨its, r, p, _⟩ := I.tuple h; exact ⟨its, r, p⟩
  | false => obtain ⟨its, r, p, _⟩ := I.list h; exact ⟨its, r, p.isList⟩
theorem Sqk.inj (I : L2.Inv X pins σ H s) (h : Sqk k X.K H a xs) (h' : Sqk k X.K H a ys) : xs = ys := by
  cases k with
  | true => exact I.tuple_inj h h'
  | false => exact I.list_inj h h'
theorem atk.lt {h : Heap} {its : Array Value} (p : atk k h a its) : a < h.objs.size := by
  cases k with
  | true => obtain ⟨o, ho, _⟩ := (show h.IsTuple a its from p); exact Heap.lt_size ho
  | false => obtain ⟨o, ho, _⟩ := (show h.IsList a its from p); exact Heap.lt_size ho
theorem itk.ob {h : Heap} {it : Addr} {i : Nat} (p : itk k h it a i) : ∃ o, h.get? it = some o ∧ ∀ v, o.data ≠ .cell v := by
  cases k with
  | true => obtain ⟨o, ho, _, hd⟩ := (show h.IsTupleIter it a i from p); exact ⟨o, ho, fun v z => by rw [hd] at z; cases z⟩
  | false => obtain ⟨o, ho, _, hd⟩ := (show h.IsListIter it a i from p); exact ⟨o, ho, fun v z => by rw [hd] at z; cases z⟩
theorem itk.at_ {h h' : Heap} {it : Addr} {i : Nat} (p : itk k h it a i) (q : ∀ o, h.get? it = some o → h'.get? it = some o) : itk k h' it a i := by
  cases k with
  | true => exact (show h.IsTupleIter it a i from p).at q
  | false => exact (show h.IsListIter it a i from p).at q
/-- the iterator's object, as it is made -/
def iobj (k : Bool) (a : Addr) : Obj := match k with
  | true => { cls := .type "tuple_iterator", data := .fields #[.ref a, .int 0 0] }
  | false => { cls := .type "list_iterator", data := .fields #[.ref a, .int 0 0] }
theorem bgk (k : Bool) (a : Addr) (its : Array Value) : Begins (.ref a) (iobj k a) fun h => atk k h a its := by
  cases k with
  | true => exact begins_tuple a its
  | false => exact begins_list a its
theorem itk.new {h : Heap} {it : Addr} (p : h.get? it = some (iobj k a)) : itk k h it a 0 := by
  cases k with
  | true => exact ⟨_, p, rfl, rfl⟩
  | false => exact ⟨_, p, rfl, rfl⟩
end
/-- zip of the sequences at a and b as they stand at each turn -/
def Itzk (K : PySem.W.Frag) (k1 : Bool) (a : Addr) (k2 : Bool) (b : Addr) : It :=
  ⟨fun i H => ∃ xs ys x y, Sqk k1 K H a xs ∧ Sqk k2 K H b ys ∧ xs[i]? = some x ∧ ys[i]? = some y,
   fun i H v H' => ∃ T x y, v = .ref T ∧ H T = none ∧ H' = upd H T (.tup [x, y]) ∧ (∀ xs, Sqk k1 K H a xs → xs[i]? = some x) ∧ ∀ ys, Sqk k2 K H b ys → ys[i]? = some y,
   fun i H => ∃ xs ys, Sqk k1 K H a xs ∧ Sqk k2 K H b ys ∧ i ≤ xs.length ∧ i ≤ ys.length ∧ (i = xs.length ∨ i = ys.length)⟩
theorem turn_zipk {P : Program} {w : World} {K : PySem.W.Frag} {elts : List Expr} {kk : Nat} {tpos : Pos} {k1 k2 : Bool} {a b z TI TO i1 i2 : Addr} (S : ZipSep2 z TI TO i1 i2 [i1, a] [i2, b]) (n1 : a ≠ i1) (n2 : b ≠ i2) :
    Turn P w K (.Tuple elts kk tpos) (Itzk K k1 a k2 b) [z, TI, TO, i1, i2] z fun i h => (IsZip h z TI TO .none ∧ IsTupOf2 h TI (.ref i1) (.ref i2)) ∧ (∃ x y, IsTupOf2 h TO x y) ∧ itk k1 h i1 a i ∧ itk k2 h i2 b i where
  mem := List.mem_cons_self
  obj := fun i h ⟨⟨hz, hI⟩, ⟨x, y, hO⟩, h1, h2⟩ c hc => by
    simp only [List.mem_cons, List.not_mem_nil, or_false] at hc
    rcases hc with rfl | rfl | rfl | rfl | rfl
    · exact ⟨_, hz, fun _ q => by cases q⟩
    · exact ⟨_, hI, fun _ q => by cases q⟩
    · exact ⟨_, hO, fun _ q => by cases q⟩
    · exact h1.ob
    · exact h2.ob
  keep := fun i h h' ⟨⟨hz, hI⟩, ⟨x, y, hO⟩, h1, h2⟩ q =>
    ⟨⟨q z (by simp) _ hz, q TI (by simp) _ hI⟩, ⟨x, y, q TO (by simp) _ hO⟩, h1.at_ fun o e => q i1 (by simp) o e, h2.at_ fun o e => q i2 (by simp) o e⟩
  item := by
    intro X hP hw hK hc i pins s σ H E I hf ⟨⟨hz, hI⟩, ⟨x0, y0, hO⟩, h1, h2⟩ ⟨xs, ys, x, y, qx, qy, ex, ey⟩
    subst hP hw hK
    obtain ⟨us, ru, pu⟩ := Sqk.its I qx
    obtain ⟨vs, rv, pv⟩ := Sqk.its I qy
    obtain ⟨u, eu, ru1⟩ := ru.get ex
    obtain ⟨v, evv, rv1⟩ := rv.get ey
    have hh : X.A.in1.handled = none := I.ok.hd hc
    have zl : z < s.heap.objs.size := Heap.lt_size hz
    have lu : i < us.toArray.size := by simpa using (List.getElem?_eq_some_iff.mp eu).1
    have lv : i < vs.toArray.size := by simpa using (List.getElem?_eq_some_iff.mp evv).1
    refine wpAny_pyNext_zipD2_item S (drk hh n1 us.toArray) (drk hh n2 vs.toArray) hz hI hO ⟨h1, pu⟩ ⟨h2, pv⟩ lu lv fun u' v' h' tk eu' ev' z' O' a1 a2 T' sz kp => ?_
    obtain rfl : u' = u := by
      have : us[i]? = some u' := by simpa using eu'
      rw [eu] at this; exact (Option.some.inj this).symm
    obtain rfl : v' = v := by
      have : vs[i]? = some v' := by simpa using ev'
      rw [evv] at this; exact (Option.some.inj this).symm
    refine ⟨_, rfl, wpAny_letOwnedTupleGo_zip (s := { s with heap := h', toks := tk }) z' fun g z'' sb => ?_⟩
    have up : ∀ c o, c ≠ z → c ≠ TO → c ≠ i1 → c ≠ i2 → s.heap.get? c = some o → g.get? c = some o := fun c o q1 q2 q3 q4 e => (sb.2 c q1).trans (kp c o q1 q2 q3 q4 e)
    have gT : g.get? s.heap.objs.size = some { cls := .type "tuple", data := .seq #[u', v'] } := (sb.2 _ (Nat.ne_of_gt zl)).trans T'
    have nw : ObjOk X.prog X.w (upd H s.heap.objs.size (.tup [x, y])) g s.heap.objs.size (.tup [x, y]) := ⟨(by decide : 2 ≤ sizeLine), [u', v'], .cons ru1 (.cons rv1 .nil), ⟨_, gT, rfl, _, rfl⟩⟩
    have J := I.turnedNew (t' := tk) (ch := [z, TI, TO, i1, i2]) (fun c o q e => by
      simp only [List.mem_cons, List.not_mem_nil, or_false, not_or] at q
      exact up c o q.1 q.2.2.1 q.2.2.2.1 q.2.2.2.2 e) hf (Nat.le_refl _) nw
    refine ⟨.ref s.heap.objs.size, _, J, rfl, ⟨_, x, y, rfl, I.hok.fresh (Nat.le_refl _), rfl, fun l hl => (by rw [hl.inj I qx]; exact ex), fun l hl => (by rw [hl.inj I qy]; exact ey)⟩, ?_, fun c hcm => ?_⟩
    · refine ⟨⟨z'', up _ _ S.TIz S.TITO S.TIi1 S.TIi2 hI⟩, ⟨u', v', (sb.2 _ S.TOz).trans O'⟩, a1.1.at_ fun o e => (sb.2 _ S.zi1.symm).trans e, a2.1.at_ fun o e => (sb.2 _ S.zi2.symm).trans e⟩
    · have lt : c < s.heap.objs.size := by
        simp only [List.mem_cons, List.not_mem_nil, or_false] at hcm
        rcases hcm with rfl | rfl | rfl | rfl | rfl
        · exact zl
        · exact Heap.lt_size hI
        · exact Heap.lt_size hO
        · obtain ⟨o, e, _⟩ := h1.ob; exact Heap.lt_size e
        · obtain ⟨o, e, _⟩ := h2.ob; exact Heap.lt_size e
      rw [upd_ne (Nat.ne_of_lt lt)]
      exact (hf c hcm).1
  done := by
    intro X hP hw hK hc i pins s σ H E I hf ⟨⟨hz, hI⟩, ⟨x0, y0, hO⟩, h1, h2⟩ ⟨xs, ys, qx, qy, l1, l2, en⟩
    subst hP hw hK
    obtain ⟨us, ru, pu⟩ := Sqk.its I qx
    obtain ⟨vs, rv, pv⟩ := Sqk.its I qy
    have hh : X.A.in1.handled = none := I.ok.hd hc
    have e1 := ru.length
    have e2 := rv.length
    refine wpAny_pyNext_zipD2_end S (drk hh n1 us.toArray) (drk hh n2 vs.toArray) hz hI hO ⟨h1, pu⟩ ⟨h2, pv⟩ (by simp; omega) (by simp; omega) (by simp; omega) fun h' tk kp => ?_
    exact ⟨rfl, I.turnedL (ch := [z, TI, TO, i1, i2]) (fun c o q e => by
      simp only [List.mem_cons, List.not_mem_nil, or_false, not_or] at q
      exact kp c o q.1 q.2.2.1 q.2.2.2.1 q.2.2.2.2 e) hf⟩
  self := fun A i s Q E st h => wpAny_pyIter_zip st.1.1 h
def iZipk (K : PySem.W.Frag) (ta : TA) : TI := fun σ H R => ta σ H fun vs H1 => ∃ k1 a k2 b xs ys, vs = [.ref a, .ref b] ∧ Sqk k1 K H1 a xs ∧ Sqk k2 K H1 b ys ∧ R (Itzk K k1 a k2 b) H1
theorem pi_zipk {X : Cx} {e e2 : Expr} {ta : TA} {p pos tpos : Pos} {elts : List Expr} {kk : Nat} (hg : Gl X "zip") (hm : X.mg "zip" = none) (ha : PA X [e, e2] ta) (hs : starEach [e, e2] X.env = (false, eval e X.env) :: starEach [e2] X.env) (hp : (backTo pos (starEach [e2] X.env)).any (·.1) = false) :
    PI X (.Tuple elts kk tpos) (.Call (.Name "zip" p) [e, e2] [] pos) (iZipk X.K ta) := by
  refine ⟨fun pins s σ H R I h => Call_ (ld_blt I hg hm PyProof.Rows.boot_zip (PyProof.Rows.callWith_type1 (thn (ha.run pos pins s σ H _ I h) fun us s1 ⟨vs, H1, J, r1, q1⟩ => ?_) hs hp))⟩
  obtain ⟨k1, a, k2, b, xs, ys, rfl, qx, qy, q⟩ := q1
  cases r1 with
  | cons ra rr =>
  cases rr with
  | cons rb rr =>
  cases rr; cases ra; cases rb
  obtain ⟨us, ru, pu⟩ := Sqk.its J qx
  obtain ⟨ws, rw1, pw⟩ := Sqk.its J qy
  have la := pu.lt
  have lb := pw.lt
  refine zip_begins2 (bgk k1 a us.toArray) (bgk k2 b ws.toArray) pu pw fun h' hz hI hO g1 g2 sz kp => wpAny_pyIter_zip hz ?_
  have S := zip_sep2 (N := s1.heap.objs.size) (fp1 := [a]) (fp2 := [b]) (fun c hc => by rw [List.mem_singleton.mp hc]; exact la) (fun c hc => by rw [List.mem_singleton.mp hc]; exact lb)
  have fp : ∀ c ∈ [s1.heap.objs.size + 4, s1.heap.objs.size + 2, s1.heap.objs.size + 3, s1.heap.objs.size, s1.heap.objs.size + 1], FpOk X pins H1 c := fun c hc => by
    have le : s1.heap.objs.size ≤ c := by
      simp only [List.mem_cons, List.not_mem_nil, or_false] at hc
      omega
    exact J.fpOk le (J.hok.fresh le)
  exact ⟨_, _, _, _, H1, rfl, J.kept (t' := s1.toks) kp, turn_zipk S (Nat.ne_of_lt la) (Nat.ne_of_lt (Nat.lt_of_lt_of_le lb (Nat.le_succ _))), ⟨⟨hz, hI⟩, ⟨_, _, hO⟩, .new g1, .new g2⟩, fp, q⟩
end U

set_option maxHeartbeats 4000000
/-! U8: calls, methods, slices, what is walked. -/
namespace U
open PySem PySem.Spec PyProof.Rows L2
/-- a def's promise: what the program yields -/
def spEv (K : PySem.W.Frag) (cf : List PV → Store → Res PV) : Sp := fun vs H Q _ => ∃ μ st as v st', Ok K μ st H ∧ RVs K μ st.length H as vs ∧ cf as st = .ok v st' ∧
  ∀ μ' H' v', Stp μ st.length H μ' st'.length H' → Ok K μ' st' H' → RV K μ' st'.length H' v v' → Fr H v v' → Q v' H'
/-- an error's own fields, in the heap -/
def XD (K : PySem.W.Frag) (μ : Nat → Addr) (L : Nat) (H : Hp) (fs : List (Str × PV)) (d : Option Addr) : Prop :=
  (fs = [] ∧ d = none) ∨ ∃ (dd : Addr) (gs : List (Str × V)), fs ≠ [] ∧ d = some dd ∧ H dd = some (.xd gs) ∧ gs.map Prod.fst = fs.map Prod.fst ∧ RVs K μ L H (fs.map Prod.snd) (gs.map Prod.snd)
/-- what is wanted behind a call that may raise -/
def outX (K : PySem.W.Frag) (mg : Str → Option Value) (μ : Nat → Addr) (st : Store) (H : Hp) (Q : VK) (E : XK) : Res PV → Prop
  | .ok v st' => ∀ μ' H' v', Stp μ st.length H μ' st'.length H' → Ok K μ' st' H' → RV K μ' st'.length H' v v' → Fr H v v' → Q v' H'
  | .xc c fs st' => ∀ μ' H' C d, Stp μ st.length H μ' st'.length H' → Ok K μ' st' H' → mg c = some (.ref C) → XD K μ' st'.length H' fs d → E (.ref C) d H'
  | .bad => False
/-- the promise of a def that may raise -/
def spX (K : PySem.W.Frag) (mg : Str → Option Value) (cf : List PV → Store → Res PV) : Sp := fun vs H Q E => ∃ μ st as, Ok K μ st H ∧ RVs K μ st.length H as vs ∧ outX K mg μ st H Q E (cf as st)
theorem spX_of {K : PySem.W.Frag} {mg : Str → Option Value} {cf : List PV → Store → Res PV} {vs : List V} {H : Hp} {Q : VK} {E E' : XK} (h : spEv K cf vs H Q E') : spX K mg cf vs H Q E := by
  obtain ⟨μ, st, as, v, st', o, r, q, g⟩ := h
  refine ⟨μ, st, as, o, r, ?_⟩
  rw [q]
  exact g
theorem fn_plain {P : Program} {w : World} {K : PySem.W.Frag} {mg : Str → Option Value} {base : Heap} {k : Nat} {f : Addr} {fd : FuncData} {ps : List Str} {cf : List PV → Store → Res PV}
    (F : FnOk P w K mg base (L2.CX P w) k f fd ps (spX K mg cf)) : FnOk P w K mg base CX0 k f fd ps (spEv K cf) := by
  refine ⟨fun vs H Q E h => F.len vs H Q E0 (spX_of h), fun A outer s H args us vs Q E hr e0 hb r h => ?_⟩
  refine codeAny_mono (F.run A outer s H args us vs Q E0 hr e0 hb r (spX_of h)) fun z s' q => ?_
  cases z with
  | error e =>
    obtain ⟨_, _, _, _, _, _, _, _, _, _, _, _, z⟩ := q
    exact z.elim
  | ok fl => cases fl <;> exact q
section
variable {K : PySem.W.Frag} {μ : Nat → Addr} {L : Nat} {H : Hp} {X : Cx} {e : Expr} {call : Nat → List PV → Store → Res PV} {m : ME}
theorem ev_iteV {t a b : ME} {env : En} {st : Store} : ev call (.ite t a b) .val env st = (ev call t .test env st).bind fun x st1 => (opt (isBl x) st1).bind fun k st2 => if k then ev call a .val env st2 else ev call b .val env st2 := rfl
theorem ev_iteU {t a b : ME} {env : En} {st : Store} : ev call (.ite t a b) .use env st = (ev call t .test env st).bind fun x st1 => (opt (isBl x) st1).bind fun k st2 => if k then ev call a .use env st2 else ev call b .use env st2 := rfl
/-- an own def -/
theorem se_fn {f : Nat} {as : MEs} {es : List Expr} {g : Expr} (hs : SA X call as es) (h : ∀ {t : TA}, PA X es t → PE X g (fun σ H Q => t σ H fun vs H1 => spEv X.K (call f) vs H1 Q E0))
    (he : ∀ whole, isTrue g X.env whole = (do let v ← whole; standAt g.pos; holding [v] (truthy v))) : SE X call (.fn f as) g := by
  refine .plain (fun env st => (evA call as env st).bind fun xs st1 => call f xs st1) ((h hs.kept).imp fun σ H Q ⟨μ, env, st, v, st', o, r, h, g⟩ => ?_) (fun md env st => by rw [ev, bind_assoc]) he
  obtain ⟨xs, st1, h1, h2⟩ := bind_ok h
  exact ⟨μ, env, st, xs, _, o, r, h1, fun μ1 H1 vs s1 o1 r1 => ⟨μ1, _, xs, v, st', o1, r1, h2, fun μ2 H2 v' s2 o2 r2 f2 => g μ2 H2 v' (Stp.trans s1 s2) o2 r2 (f2.back s1)⟩⟩
theorem Ok.held {st : Store} {n : Nat} (o : Ok K μ st H) (hx : ∃ xs, st[n]? = some (.lst xs)) : ∃ vs, H (μ n) = some (.lst vs) := by
  obtain ⟨zs, hz⟩ := hx
  obtain ⟨vs, h1, _⟩ := o.cell n zs hz
  exact ⟨vs, h1⟩
/-- a method of a list or text -/
def mty : MF → String
  | .append => "list" | .split => "str" | .partition => "str" | .join => "str" | .pop => "list"
theorem mt_ty {f : MF} {x : PV} {xs : List PV} {st st1 st' : Store} {v : PV} {x' : V} (h : mtV f x xs st = .ok v st') (o : Ok K μ st1 H) (r : RV K μ st1.length H x x') (hl : ∀ n, x = .loc n → ∃ xs, st1[n]? = some (.lst xs)) : tyV K (mty f) x' H := by
  unfold mtV at h
  split at h
  · cases r with
    | loc hn =>
      obtain ⟨vs, h1⟩ := o.held (hl _ rfl)
      exact .inl ⟨rfl, vs, SqL.of h1⟩
  · cases r with
    | loc hn =>
      obtain ⟨vs, h1⟩ := o.held (hl _ rfl)
      exact .inl ⟨rfl, vs, SqL.of h1⟩
  · cases r; exact rfl
  · cases r; exact rfl
  · cases r; exact rfl
  · cases h
theorem se_mt {f : MF} {ob : ME} {as : MEs} {x : Expr} {es : List Expr} {g : Expr} (ho : SE X call ob x) (hs : SA X call as es)
    (h : ∀ {r : V → List V → Hp → VK → Prop} {to : TE} {t : TA}, MtR X (mfn f) r → PE X x to → PA X es t → PE X g (tBM X.K (mty f) r to t))
    (he : ∀ whole, isTrue g X.env whole = (do let v ← whole; standAt g.pos; holding [v] (truthy v))) : SE X call (.mt f ob as) g := by
  refine .plain (fun env st => (ev call ob .use env st).bind fun x0 st0 => (opt (recvV x0 st0) st0).bind fun x st1 => (evCs call as env st1).bind fun xs st2 => mtV f x xs st2) ((h (op_mt f) ho.use hs.used).imp fun σ H Q ⟨μ, env, st, v, st', o, r, h, g⟩ => ?_) (fun md env st => by rw [ev]; simp only [bind_assoc]) he
  obtain ⟨x0, st0, h1, h2⟩ := bind_ok h
  obtain ⟨x1, st1, h5, h7⟩ := bind_ok h2
  obtain ⟨h6, e6⟩ := opt_ok h5
  obtain ⟨e7, hl⟩ := recv_eq h6
  cases e6; cases e7
  obtain ⟨xs, st2, h3, h4⟩ := bind_ok h7
  exact ⟨μ, env, st, _, _, o, r, h1, fun μ1 H1 x' s1 o1 r1 => ⟨mt_ty h4 o1 r1 hl, μ1, env, _, xs, st2, o1, r.mono s1, h3, fun μ2 H2 vs s2 o2 r2 =>
    ⟨μ2, st2, _, xs, v, st', o2, r1.mono0 s2, r2, h4, fun H3 v' s3 o3 r3 f3 => g μ2 H3 v' (Stp.trans s1 (Stp.trans s2 s3)) o3 r3 (f3.back (Stp.trans s1 s2))⟩⟩⟩
/-- s.isdigit() -/
theorem se_isd {a : ME} {x : Expr} {apos pos : Pos} (ha : SE X call a x) (hb : attributeBase x "isdigit" X.env (eval x X.env) = eval x X.env) (hl : (apos.endLine == pos.line) = true) : SE X call (.isd a) (.Call (.Attribute x "isdigit" apos) [] [] pos) := by
  refine .plain (fun env st => (ev call a .use env st).bind fun x st1 => match x with
    | .str z => .ok (.bl (Txt.isdigit z)) st1
    | _ => .bad) ((pe_m0 PySem.F.slot_str_isdigit PySem.F.type_str_isdigit mt_isdigit ha.use hb hl).imp fun σ H Q ⟨μ, env, st, v, st', o, r, h, g⟩ => ?_) (fun md env st => ?_) fun _ => rfl
  · obtain ⟨x1, st1, h1, h2⟩ := bind_ok h
    split at h2
    · cases h2
      refine ⟨μ, env, st, _, _, o, r, h1, fun μ1 H1 x' s1 o1 r1 => ?_⟩
      cases r1
      exact ⟨⟨_, rfl⟩, _, rfl, rfl, trivial, g μ1 H1 _ s1 o1 (.bl _) trivial⟩
    · cases h2
  · rw [ev, bind_assoc]
    congr 1
    funext x1 st1
    cases x1 <;> rfl
theorem strsL_strs : ∀ vs : List Str, strsL (vs.map PV.str) = some vs
  | [] => rfl
  | s :: vs => by
    show (strsL (vs.map PV.str)).map (s :: ·) = _
    rw [strsL_strs vs]; rfl
/-- CONST.index(x) -/
theorem se_gidx {x : Str} {vs : List Str} {a : ME} {z : Expr} {v' : V} {u : Value} {p apos pos : Pos} (hg : Gl X x) (hm : X.mg x = some u) (hr : RelV v' u) (h : ∀ μ L H, RV X.K μ L H (.tup (vs.map .str)) v') (hd : (x == ("__debug__" : Str)) = false)
    (hk : ∃ p o, v' = .ref p ∧ X.K.lookup p = some o ∧ o.cls = .type "tuple" ∧ o.dict = none) (ha : SE X call a z)
    (hc : ∀ {r : V → List V → Hp → VK → Prop} {to : TE} {t : TA}, MtR X "tuple.index" r → PE X (.Name x p) to → PA X [z] t → PE X (.Call (.Attribute (.Name x p) "index" apos) [z] [] pos) (tBM X.K "tuple" r to t)) (hs : starEach [z] X.env = (false, eval z X.env) :: starEach [] X.env) :
    SE X call (.gidx x vs a) (.Call (.Attribute (.Name x p) "index" apos) [z] [] pos) := by
  refine .plain (fun env st => (ev call a .use env st).bind fun y st1 => opt (idxV vs y) st1) ((hc mt_tup_index (pe_glob hg hm hr hd) (pa_cons ha.use pa_nil hs)).imp fun σ H Q ⟨μ, env, st, v, st', o, r, e, g⟩ => ?_) (fun md env st => by rw [ev]; simp only [bind_assoc]) fun _ => rfl
  obtain ⟨y, st1, h1, h2⟩ := bind_ok e
  obtain ⟨h3, rfl⟩ := opt_ok h2
  obtain ⟨q, ob, e1, e2, e3, e4⟩ := hk
  subst e1
  refine ⟨.inr (.inl ⟨rfl, ob, e2, e3, e4⟩), μ, env, st, y, st1, o, r, h1, fun μ1 H1 y' s1 o1 r1 => ?_⟩
  unfold idxV at h3
  split at h3
  · rename_i w
    cases r1
    obtain ⟨j, hj, rfl⟩ := Option.map_eq_some_iff.mp h3
    obtain ⟨hl, j1, j2⟩ := List.findIdx?_eq_some_iff_getElem.mp hj
    cases h μ1 st1.length H1 with
    | tup h4 r4 =>
      have es := strs_at r4 (strsL_strs vs)
      subst es
      refine ⟨q, vs, w, j, rfl, rfl, h4, by rw [List.getElem?_eq_getElem hl]; exact congrArg some (of_decide_eq_true j1), fun m hm e => ?_, g μ1 H1 _ s1 o1 (.int _) trivial⟩
      have hml : m < vs.length := by omega
      rw [List.getElem?_eq_getElem hml] at e
      have := j2 m hm
      rw [Option.some.inj e] at this
      simp at this
  · cases h3
/-- a slice's bounds -/
theorem po_absent {l : ME} (ha : l.absent = true) : PO X none (rdO X.K (ev call l .val) l.absent) := by
  refine po_none.imp fun σ H Q ⟨μ, env, st, v, st', b, o, r, h, hb, g⟩ => ?_
  unfold ME.absent at ha
  split at ha
  · rw [ev] at h
    cases h
    cases hb
    exact g μ H StX.refl o
  · cases ha
theorem po_there {l : ME} {x : Expr} (ha : l.absent = false) (hl : SE X call l x) : PO X (some x) (rdO X.K (ev call l .val) l.absent) := by
  refine (po_some hl.val).imp fun σ H Q ⟨μ, env, st, v, st', b, o, r, h, hb, g⟩ => ⟨μ, env, st, v, st', o, r, h, fun μ1 H1 v' s1 o1 r1 _ => ?_⟩
  rw [ha] at hb
  unfold bound at hb
  split at hb
  · contradiction
  · cases hb
    cases r1
    exact ⟨_, rfl, g μ1 H1 s1 o1⟩
  · cases hb
theorem se_sl {a lo hi : ME} {x : Expr} {l h : Option Expr} {pos p2 : Pos} (ha : SE X call a x) (hl : PO X l (rdO X.K (ev call lo .val) lo.absent)) (hh : PO X h (rdO X.K (ev call hi .val) hi.absent)) :
    SE X call (.sl a lo hi) (.Subscript x (.Slice l h none p2) pos) := by
  refine .plain (fun env st => (ev call a .use env st).bind fun x st1 => (ev call lo .val env st1).bind fun l st2 => (ev call hi .val env st2).bind fun h st3 =>
      (opt (bound lo.absent l) st3).bind fun l' st4 => (opt (bound hi.absent h) st4).bind fun h' st5 => opt (slV x l' h' st5) st5) ((pe_slice op_sl ha.use hl hh).imp fun σ H Q ⟨μ, env, st, v, st', o, r, h, g⟩ => ?_) (fun md env st => by rw [ev]; simp only [bind_assoc]) fun _ => rfl
  obtain ⟨x1, st1, h1, h2⟩ := bind_ok h
  obtain ⟨l1, st2, h3, h4⟩ := bind_ok h2
  obtain ⟨k1, st3, h5, h6⟩ := bind_ok h4
  obtain ⟨b1, st4, h7, h8⟩ := bind_ok h6
  obtain ⟨h9, rfl⟩ := opt_ok h7
  obtain ⟨b2, st5, h10, h11⟩ := bind_ok h8
  obtain ⟨h12, rfl⟩ := opt_ok h10
  obtain ⟨h13, rfl⟩ := opt_ok h11
  exact ⟨μ, env, st, x1, st1, o, r, h1, fun μ1 H1 x' s1 o1 r1 => ⟨μ1, env, st1, l1, st2, b1, o1, r.mono s1, h3, h9, fun μ2 H2 s2 o2 => ⟨μ2, env, st2, k1, _, b2, o2, r.mono (Stp.trans s1 s2), h5, h12, fun μ3 H3 s3 o3 =>
    ⟨μ3, _, x1, v, o3, r1.mono0 (Stp.trans s2 s3), h13, fun H4 v' s4 o4 r4 f4 => g μ3 H4 v' (Stp.trans s1 (Stp.trans s2 (Stp.trans s3 s4))) o4 r4 (f4.back (Stp.trans s1 (Stp.trans s2 s3)))⟩⟩⟩⟩
theorem se_ite {t a b : ME} {c x y : Expr} {pos : Pos} (ht : SE X call t c) (ha : SE X call a x) (hb : SE X call b y) (X' : PT X (.IfExp c x y pos) (fun _ _ _ => False)) : SE X call (.ite t a b) (.IfExp c x y pos) := by
  refine ⟨(pe_ifExp ht.test ha.val hb.val).imp fun σ H Q ⟨μ, env, st, v, st', o, r, h, g⟩ => ?_, (pe_ifExp ht.test ha.use hb.use).imp fun σ H Q ⟨μ, env, st, v, st', o, r, h, g⟩ => ?_, X'.imp fun σ H Q ⟨μ, env, st, v, st', o, r, h, g⟩ => ?_⟩
  · rw [ev_iteV] at h
    obtain ⟨x1, st1, h1, h2⟩ := bind_ok h
    obtain ⟨k1, st2, h3, h4⟩ := bind_ok h2
    obtain ⟨h5, rfl⟩ := opt_ok h3
    cases isBl_ok h5
    refine ⟨μ, env, st, k1, _, o, r, h1, fun μ1 H1 s1 o1 => ?_⟩
    cases k1 with
    | true => exact iteT ⟨μ1, env, _, v, st', o1, r.mono s1, h4, fun μ2 H2 v' s2 o2 r2 f2 => g μ2 H2 v' (Stp.trans s1 s2) o2 r2 (f2.back s1)⟩
    | false => exact iteF ⟨μ1, env, _, v, st', o1, r.mono s1, h4, fun μ2 H2 v' s2 o2 r2 f2 => g μ2 H2 v' (Stp.trans s1 s2) o2 r2 (f2.back s1)⟩
  · rw [ev_iteU] at h
    obtain ⟨x1, st1, h1, h2⟩ := bind_ok h
    obtain ⟨k1, st2, h3, h4⟩ := bind_ok h2
    obtain ⟨h5, rfl⟩ := opt_ok h3
    cases isBl_ok h5
    refine ⟨μ, env, st, k1, _, o, r, h1, fun μ1 H1 s1 o1 => ?_⟩
    cases k1 with
    | true => exact iteT ⟨μ1, env, _, v, st', o1, r.mono s1, h4, fun μ2 H2 v' s2 o2 r2 => g μ2 H2 v' (Stp.trans s1 s2) o2 r2⟩
    | false => exact iteF ⟨μ1, env, _, v, st', o1, r.mono s1, h4, fun μ2 H2 v' s2 o2 r2 => g μ2 H2 v' (Stp.trans s1 s2) o2 r2⟩
  · cases h
theorem pt_never : PT X e (fun _ _ _ => False) := ⟨fun _ _ _ _ _ _ h => h.elim⟩

/-! ### what is walked -/
inductive HalfR (K : PySem.W.Frag) (μ : Nat → Addr) (L : Nat) (H : Hp) : Bool → Addr → Half → Prop
  | tup {a : Addr} {vs : List V} {xs : List PV} (h : SqT K H a vs) (r : RVs K μ L H xs vs) : HalfR K μ L H true a (.it xs)
  | live {n m : Nat} (h : n < L) : HalfR K μ L H false (μ n) (.lv n m)
theorem HalfR.mono {S : Addr → Prop} {μ1 : Nat → Addr} {L1 : Nat} {H1 : Hp} {k : Bool} {a : Addr} {x : Half} (s : StX S μ L H μ1 L1 H1) (h : HalfR K μ L H k a x) : HalfR K μ1 L1 H1 k a x := by
  cases h with
  | tup h r => exact .tup (s.sqT h) (r.mono s)
  | @live n m h =>
    have e := s.ext n h
    rw [← e]
    exact .live (Nat.lt_of_lt_of_le h s.le)
/-- as it stands now -/
theorem HalfR.now {k : Bool} {a : Addr} {x : Half} {st : Store} (h : HalfR K μ st.length H k a x) (o : Ok K μ st H) (f : x.fits st = true) : ∃ xs vs, Sqk k K H a vs ∧ RVs K μ st.length H xs vs ∧ xs.length = x.many ∧ ∀ j, x.get j st = xs[j]? := by
  cases h with
  | @tup a vs xs h r => exact ⟨xs, vs, h, r, rfl, fun _ => rfl⟩
  | @live n m h =>
    unfold Half.fits at f
    simp only at f
    split at f
    · rename_i xs hx
      obtain ⟨a, vs, e, q, r⟩ := list_at o (.loc h) (show listOf (.loc n) st = some xs from hx)
      cases e
      have h2 : xs.length = m := by simpa using f
      refine ⟨xs, vs, SqL.of q, r, h2, fun j => ?_⟩
      unfold Half.get
      simp only [hx, h2, if_true]
    · cases f
theorem Half.fit {x : Half} {st : Store} {j : Nat} {y : PV} (f : x.get j st = some y) : x.fits st = true := by
  cases x with
  | it xs => rfl
  | lv n m =>
    unfold Half.get at f
    unfold Half.fits
    simp only at f ⊢
    split at f
    · rename_i xs hx
      split at f
      · rename_i e; simpa using e
      · cases f
    · cases f
inductive SrcR (K : PySem.W.Frag) (S : Addr → Prop) (μ : Nat → Addr) (L : Nat) (H : Hp) : It → Src → Prop
  | tup {a : Addr} {vs : List V} {xs : List PV} (h : SqT K H a vs) (r : RVs K μ L H xs vs) : SrcR K S μ L H (Itt K a) (.items xs)
  | own {a : Addr} {vs : List V} {xs : List PV} (h : H a = some (.lst vs)) (n : ∀ n, n < L → μ n ≠ a) (s : ¬ S a) (r : RVs K μ L H xs vs) : SrcR K S μ L H (Itl K a) (.items xs)
  | rol {a : Addr} {vs : List V} {xs : List PV} (h : Kl K H a vs) (r : RVs K μ L H xs vs) : SrcR K S μ L H (Itl K a) (.items xs)
  | live {n m : Nat} (h : n < L) : SrcR K S μ L H (Itl K (μ n)) (.live n m)
  | revL {a : Addr} {vs : List V} {xs : List PV} (h : H a = some (.lst vs)) (n : ∀ n, n < L → μ n ≠ a) (s : ¬ S a) (r : RVs K μ L H xs vs) : SrcR K S μ L H (Itv K a vs.length) (.items xs.reverse)
  | revT {a : Addr} {vs : List V} {xs : List PV} (h : SqT K H a vs) (r : RVs K μ L H xs vs) : SrcR K S μ L H (RT.ItvT K a vs.length) (.items xs.reverse)
  | str {s : Str} : SrcR K S μ L H (Its s) (.items (s.cps.toList.map fun c => .str ⟨#[c]⟩))
  | rng {lo : Int} {n : Nat} : SrcR K S μ L H (Itr lo n) (.items ((List.range n).map fun (k : Nat) => .int (lo + k)))
  | enumL {a : Addr} {vs : List V} {xs : List PV} (h : H a = some (.lst vs)) (n : ∀ n, n < L → μ n ≠ a) (s : ¬ S a) (r : RVs K μ L H xs vs) : SrcR K S μ L H (Ite K a) (.items (enumP xs))
  | zip {k1 k2 : Bool} {a b : Addr} {x y : Half} (h1 : HalfR K μ L H k1 a x) (h2 : HalfR K μ L H k2 b y) : SrcR K S μ L H (Itzk K k1 a k2 b) (.zp x y)
  | enL {n m : Nat} (h : n < L) : SrcR K S μ L H (Ite K (μ n)) (.en (.lv n m))
  | vals {d : Addr} {o : Obj} {kvs : List (Key × V)} {xs : List PV} (h : H d = some (.frz o (.dK kvs))) (r : RVs K μ L H xs (kvs.map Prod.snd)) : SrcR K S μ L H (Itd d o kvs) (.items xs)
theorem SrcR.mono {S S1 : Addr → Prop} {μ1 : Nat → Addr} {L1 : Nat} {H1 : Hp} {J : It} {src : Src} (s : StX S μ L H μ1 L1 H1) (h : SrcR K S μ L H J src) (hs : ∀ a, S1 a → S a ∨ H a = none) : SrcR K S1 μ1 L1 H1 J src := by
  cases h with
  | tup h r => exact .tup (s.sqT h) (r.mono s)
  | @own a vs xs h n hS r =>
    refine .own (s.keep _ _ h n hS) (fun k hk e => ?_) (fun z => ?_) (r.mono s)
    · by_cases hl : k < L
      · exact n k hl ((s.ext k hl).symm.trans e)
      · have := s.new k (by omega) hk
        rw [e, h] at this
        cases this
    · rcases hs _ z with z | z
      · exact hS z
      · rw [h] at z; cases z
  | rol h r => exact .rol (s.kl h) (r.mono s)
  | revT h r => exact .revT (s.sqT h) (r.mono s)
  | @revL a vs xs h n hS r =>
    refine .revL (s.keep _ _ h n hS) (fun k hk e => ?_) (fun z => ?_) (r.mono s)
    · by_cases hl : k < L
      · exact n k hl ((s.ext k hl).symm.trans e)
      · have := s.new k (by omega) hk
        rw [e, h] at this
        cases this
    · rcases hs _ z with z | z
      · exact hS z
      · rw [h] at z; cases z
  | @live n m h =>
    have e := s.ext n h
    rw [← e]
    exact .live (Nat.lt_of_lt_of_le h s.le)
  | str => exact .str
  | rng => exact .rng
  | @enumL a vs xs h n hS r =>
    refine .enumL (s.keep _ _ h n hS) (fun k hk e => ?_) (fun z => ?_) (r.mono s)
    · by_cases hl : k < L
      · exact n k hl ((s.ext k hl).symm.trans e)
      · have := s.new k (by omega) hk
        rw [e, h] at this
        cases this
    · rcases hs _ z with z | z
      · exact hS z
      · rw [h] at z; cases z
  | vals h r => exact .vals (s.frz _ _ _ h) (r.mono s)
  | zip h1 h2 => exact .zip (h1.mono s) (h2.mono s)
  | @enL n m h =>
    have e := s.ext n h
    rw [← e]
    exact .enL (Nat.lt_of_lt_of_le h s.le)
theorem SrcR.stop {S : Addr → Prop} {J : It} {src : Src} {st : Store} (h : SrcR K S μ st.length H J src) (o : Ok K μ st H) (f : src.fits st = true) : J.stop src.many H := by
  cases h with
  | tup h r => exact ⟨_, h, Nat.le_of_eq r.len.symm⟩
  | own h n hS r => exact ⟨_, SqL.of h, Nat.le_of_eq r.len.symm⟩
  | rol h r => exact ⟨_, h.sq, Nat.le_of_eq r.len.symm⟩
  | revT h r => exact Nat.le_of_eq (by rw [← r.len]; simp [Src.many])
  | revL h n hS r => exact Nat.le_of_eq (by rw [← r.len]; simp [Src.many])
  | @live n m h =>
    unfold Src.fits at f
    simp only at f
    split at f
    · rename_i xs hx
      obtain ⟨a, vs, e, q, r⟩ := list_at o (.loc h) (show listOf (.loc n) st = some xs from hx)
      cases e
      refine ⟨vs, SqL.of q, ?_⟩
      have := r.len
      have h2 : xs.length = m := by simpa using f
      show vs.length ≤ m
      omega
    · cases f
  | str =>
    show _ ≤ _
    simp [Src.many]
  | rng =>
    show _ ≤ _
    simp [Src.many]
  | enumL h n hS r => exact ⟨_, SqL.of h, Nat.le_of_eq (by rw [← r.len]; simp [Src.many, enumP])⟩
  | @enL n m h =>
    obtain ⟨xs, vs, q1, r1, l1, _⟩ := (HalfR.live (K := K) (μ := μ) (H := H) (m := m) h).now o (show Half.fits (.lv n m) st = true from f)
    have e1 := r1.len
    exact ⟨vs, q1, by simp only [Src.many]; omega⟩
  | zip h1 h2 =>
    unfold Src.fits at f
    simp only [Bool.and_eq_true] at f
    obtain ⟨xs, vs, q1, r1, l1, _⟩ := h1.now o f.1
    obtain ⟨ys, ws, q2, r2, l2, _⟩ := h2.now o f.2
    have e1 := r1.len
    have e2 := r2.len
    refine ⟨vs, ws, q1, q2, ?_, ?_, ?_⟩ <;> (simp only [Src.many]; omega)
  | vals h r => exact ⟨h, Nat.le_of_eq (by have := r.len; rw [List.length_map] at this; rw [← this]; rfl)⟩
theorem rev_get {xs : List PV} {i : Nat} {x : PV} {st : Store} (f : (Src.items xs.reverse).get i st = some x) : i < xs.length ∧ xs[xs.length - 1 - i]? = some x := by
  have f : xs.reverse[i]? = some x := f
  have hi : i < xs.length := by
    have := (List.getElem?_eq_some_iff.mp f).1
    simpa using this
  rw [List.getElem?_reverse hi] at f
  exact ⟨hi, f⟩
theorem SrcR.go {S : Addr → Prop} {J : It} {src : Src} {st : Store} {i : Nat} {x : PV} (h : SrcR K S μ st.length H J src) (o : Ok K μ st H) (f : src.get i st = some x) :
    J.go i H ∧ ∀ x' H', J.yld i H x' H' → Stp μ st.length H μ st.length H' ∧ Ok K μ st H' ∧ RV K μ st.length H' x x' ∧ x.isFl = false := by
  have up : ∀ {x' : V} {H' : Hp}, (H' = H ∧ RV K μ st.length H x x' ∧ x.isFl = false) → Stp μ st.length H μ st.length H' ∧ Ok K μ st H' ∧ RV K μ st.length H' x x' ∧ x.isFl = false := by
    rintro x' H' ⟨rfl, q1, q2⟩
    exact ⟨StX.refl, o, q1, q2⟩
  cases h with
  | tup h r =>
    obtain ⟨v, h1, h2, h3⟩ := r.get f
    exact ⟨⟨_, v, h, h1⟩, fun x' H' ⟨e, y⟩ => up ⟨e, by rw [← Option.some.inj (h1.symm.trans (y _ h))]; exact h2, h3⟩⟩
  | own h n hS r =>
    obtain ⟨v, h1, h2, h3⟩ := r.get f
    exact ⟨⟨_, v, SqL.of h, h1⟩, fun x' H' ⟨e, y⟩ => up ⟨e, by rw [← Option.some.inj (h1.symm.trans (y _ (SqL.of h)))]; exact h2, h3⟩⟩
  | rol h r =>
    obtain ⟨v, h1, h2, h3⟩ := r.get f
    exact ⟨⟨_, v, h.sq, h1⟩, fun x' H' ⟨e, y⟩ => up ⟨e, by rw [← Option.some.inj (h1.symm.trans (y _ h.sq))]; exact h2, h3⟩⟩
  | revT h r =>
    obtain ⟨hi, e⟩ := rev_get f
    obtain ⟨v, h1, h2, h3⟩ := r.get e
    rw [r.len] at hi h1
    exact ⟨⟨hi, _, v, h, h1⟩, fun x' H' ⟨e, y⟩ => up ⟨e, by rw [← Option.some.inj (h1.symm.trans (y _ h))]; exact h2, h3⟩⟩
  | revL h n hS r =>
    obtain ⟨hi, e⟩ := rev_get f
    obtain ⟨v, h1, h2, h3⟩ := r.get e
    rw [r.len] at hi h1
    exact ⟨⟨hi, _, v, SqL.of h, h1⟩, fun x' H' ⟨e, y⟩ => up ⟨e, by rw [← Option.some.inj (h1.symm.trans (y _ (SqL.of h)))]; exact h2, h3⟩⟩
  | @live n m h =>
    unfold Src.get at f
    simp only at f
    split at f
    · rename_i xs hx
      split at f
      · obtain ⟨a, vs, e, q, r⟩ := list_at o (.loc h) (show listOf (.loc n) st = some xs from hx)
        cases e
        obtain ⟨v, h1, h2, h3⟩ := r.get f
        exact ⟨⟨_, v, SqL.of q, h1⟩, fun x' H' ⟨e, y⟩ => up ⟨e, by rw [← Option.some.inj (h1.symm.trans (y _ (SqL.of q)))]; exact h2, h3⟩⟩
      · cases f
    · cases f
  | @str s =>
    have f : (s.cps.toList.map fun c => PV.str ⟨#[c]⟩)[i]? = some x := f
    rw [List.getElem?_map] at f
    obtain ⟨c, h1, rfl⟩ := Option.map_eq_some_iff.mp f
    have h2 : s.cps[i]? = some c := by simpa using h1
    refine ⟨(Array.getElem?_eq_some_iff.mp h2).1, fun x' H' ⟨e, c', y1, y2⟩ => up ⟨e, ?_, rfl⟩⟩
    rw [h2] at y1
    cases y1
    rw [y2]
    exact .str _
  | @rng lo n =>
    have f : ((List.range n).map fun (k : Nat) => PV.int (lo + k))[i]? = some x := f
    rw [List.getElem?_map] at f
    obtain ⟨c, h1, rfl⟩ := Option.map_eq_some_iff.mp f
    obtain ⟨h2, h3⟩ := List.getElem?_eq_some_iff.mp h1
    rw [List.getElem_range] at h3
    subst h3
    exact ⟨show i < n by simpa using h2, fun x' H' ⟨e, y⟩ => up ⟨e, by rw [y]; exact .int _, rfl⟩⟩
  | @enumL a vs xs h n hS r =>
    have f : (enumP xs)[i]? = some x := f
    unfold enumP at f
    rw [List.getElem?_mapIdx] at f
    obtain ⟨y, h1, rfl⟩ := Option.map_eq_some_iff.mp f
    obtain ⟨v, h2, h3, h4⟩ := r.get h1
    refine ⟨⟨_, v, SqL.of h, h2⟩, fun x' H' ⟨T, z, e1, hT, e2, e3⟩ => ?_⟩
    subst e1 e2
    have e4 := e3 _ (SqL.of h)
    rw [h2] at e4
    cases e4
    exact ⟨Stp.laid hT, o.laid hT, .tup (SqT.of upd_same) (.cons rfl (.int _) (.cons h4 (h3.mono0 (Stp.laid hT)) .nil)) (.inl upd_same), rfl⟩
  | @enL n m h =>
    unfold Src.get at f
    simp only at f
    split at f
    · rename_i x fx
      cases f
      obtain ⟨xs, vs, q1, r1, l1, g1⟩ := (HalfR.live (K := K) (μ := μ) (H := H) (m := m) h).now o (Half.fit fx)
      rw [g1] at fx
      obtain ⟨v, a1, a2, a3⟩ := r1.get fx
      refine ⟨⟨vs, v, q1, a1⟩, fun x' H' ⟨T, v', e1, hT, e2, c1⟩ => ?_⟩
      subst e1 e2
      have d1 := c1 _ q1
      rw [a1] at d1
      cases d1
      exact ⟨Stp.laid hT, o.laid hT, .tup (SqT.of upd_same) (.cons rfl (.int _) (.cons a3 (a2.mono0 (Stp.laid hT)) .nil)) (.inl upd_same), rfl⟩
    · cases f
  | @zip k1 k2 a b p q h1 h2 =>
    unfold Src.get at f
    simp only at f
    split at f
    · rename_i x y fx fy
      cases f
      obtain ⟨xs, vs, q1, r1, l1, g1⟩ := h1.now o (Half.fit fx)
      obtain ⟨ys, ws, q2, r2, l2, g2⟩ := h2.now o (Half.fit fy)
      rw [g1] at fx
      rw [g2] at fy
      obtain ⟨v, a1, a2, a3⟩ := r1.get fx
      obtain ⟨w, b1, b2, b3⟩ := r2.get fy
      refine ⟨⟨vs, ws, v, w, q1, q2, a1, b1⟩, fun x' H' ⟨T, v', w', e1, hT, e2, c1, c2⟩ => ?_⟩
      subst e1 e2
      have d1 := c1 _ q1
      have d2 := c2 _ q2
      rw [a1] at d1
      rw [b1] at d2
      cases d1
      cases d2
      exact ⟨Stp.laid hT, o.laid hT, .tup (SqT.of upd_same) (.cons a3 (a2.mono0 (Stp.laid hT)) (.cons b3 (b2.mono0 (Stp.laid hT)) .nil)) (.inl upd_same), rfl⟩
    · cases f
  | @vals d ob kvs xs h r =>
    have f : xs[i]? = some x := f
    obtain ⟨v, h1, h2, h3⟩ := r.get f
    rw [List.getElem?_map] at h1
    obtain ⟨kv, h5, rfl⟩ := Option.map_eq_some_iff.mp h1
    refine ⟨⟨h, (List.getElem?_eq_some_iff.mp h5).1⟩, fun x' H' ⟨e, k, e2⟩ => up ⟨e, ?_, h3⟩⟩
    rw [h5] at e2
    cases e2
    exact h2
end
end U

set_option maxHeartbeats 4000000
/-! U8r: a finer room: a call takes a level of the depth and four units. -/
namespace U
open PySem PySem.Spec PyProof.Rows L2
structure Rm (k : Nat) (A : Around) : Prop where
  hd : A.handled = none
  dp : A.depth + k + 20 < recursionLimit
  un : A.units + 4 * k + 300 < cLine
theorem Rm.le {j k : Nat} {A : Around} (r : Rm k A) (h : j ≤ k) : Rm j A := ⟨r.hd, by have := r.dp; omega, by have := r.un; omega⟩
theorem Rm.down {k : Nat} {A : Around} (r : Rm (k + 1) A) (env : Env) : Rm k (A.deeper env) :=
  ⟨r.hd, by have := r.dp; show A.depth + 1 + k + 20 < _; omega, by have := r.un; show A.units + 3 + 4 * k + 300 < _; omega⟩
theorem Rm.make {k : Nat} {A : Around} (r : Rm (k + 1) A) (C : Addr) (us : List Value) (kw : List (Str × Value)) : Rm k (A.under (.builtin "type.__call__" ⟨.ref C :: us, kw⟩)) :=
  ⟨r.hd, by have := r.dp; rw [make_depth]; omega, by have := r.un; rw [make_units]; omega⟩
/-- the library's room, so far as built-ins want it -/
theorem Rm.old {k : Nat} {A : Around} (r : Rm k A) : Room 2 A := ⟨r.hd, by have := r.dp; omega, by have := r.un; omega⟩
/-- a def's promise where there is such a room -/
structure FnR (P : Program) (w : World) (K : PySem.W.Frag) (mg : Str → Option Value) (base : Heap) (CX : CXT) (k : Nat) (f : Addr) (fd : FuncData) (ps : List Str) (sp : Sp) : Prop where
  len : ∀ vs H Q E, sp vs H Q E → vs.length = ps.length
  run : ∀ {A : Around} {outer : List Env} {s : Shared} {H : Hp} {args : Args} {us : List Value} {vs : List V} {Q : VK} {E : XK}, sp vs H Q E → Vals vs us → BindsTo s fd args (ps.zip us) → Rm k A → Env0 P w K mg base A outer s H →
    codeAny (model P w) A (.call (.ref f) args) (CR CX outer P w H s Q E) s
theorem fn_plainR {P : Program} {w : World} {K : PySem.W.Frag} {mg : Str → Option Value} {base : Heap} {k : Nat} {f : Addr} {fd : FuncData} {ps : List Str} {cf : List PV → Store → Res PV}
    (F : FnR P w K mg base (L2.CX P w) k f fd ps (spX K mg cf)) : FnR P w K mg base CX0 k f fd ps (spEv K cf) := by
  refine ⟨fun vs H Q E h => F.len vs H Q E0 (spX_of h), fun h r hb hr e0 => ?_⟩
  refine codeAny_mono (F.run (spX_of (E := E0) h) r hb hr e0) fun z s' q => ?_
  cases z with
  | error e =>
    obtain ⟨_, _, _, _, _, _, _, _, _, _, _, _, z⟩ := q
    exact z.elim
  | ok fl => cases fl <;> exact q
section
variable {X : Cx} {CX : CXT} {k : Nat} {f : Addr} {fd : FuncData} {ps : List Str} {sp : Sp} {E : L2.St → XK} {x : Str} {p pos : Pos} {e : Expr} {es : List Expr} {t : TA}
/-- what a callee's end is to its caller -/
theorem run_fnR {pins : List (Addr × Obj)} {σ : L2.St} {H : Hp} {s : Shared} {Q : VK} {us : List Value} {vs : List V} (F : FnR X.prog X.w X.K X.mg X.base CX k f fd ps sp) (hr : Rm k X.A) (hb : Binds X.K fd ps []) (hx : PassesAt CX X σ (E σ))
    (I : Inv X pins σ H s) (r : Vals vs us) (h : sp vs H Q (E σ)) : wpAny (model X.prog X.w) X.A (call (.ref f) us) (EP X pins σ Q) X.xe s := by
  have b := hb s us I.kIn (by rw [List.append_nil, ← r.length]; exact F.len _ _ _ _ h)
  rw [List.append_nil] at b
  refine wpAny_call (codeAny_mono (F.run h r b hr I.env0) fun z s' hq => ?_)
  match z, hq with
  | .error e, hq => exact hx pins H s e s' I hq
  | .ok (.ret u), hq => exact I.after hq
theorem pe_callR (F : FnR X.prog X.w X.K X.mg X.base CX k f fd ps sp) (hr : Rm k X.A) (hg : Gl X x) (hm : X.mg x = some (.ref f)) (hk : PySem.W.keepIn X.K (.ref f) = true) (hb : Binds X.K fd ps []) (hx : ∀ σ, PassesAt CX X σ (E σ))
    (ha : PA X (e :: es) t) (hdb : (x == ("__debug__" : Str)) = false) (he : starEach (e :: es) X.env = (false, eval e X.env) :: starEach es X.env) (hpl : (backTo pos (starEach es X.env)).any (·.1) = false) :
    PE X (.Call (.Name x p) (e :: es) [] pos) (tCallS sp E t) := by
  refine ⟨fun pins s σ H Q I h => wpAny_Call_Name_kw (ld_glob I hg hm ?_ hdb)⟩
  exact PySem.W.callWith_K (h₀ := X.base) I.ok.mod.kin hk (thn (ha.run pos pins s σ H _ I h) fun us s1 ⟨vs, H1, I1, r, q⟩ => ⟨I1.kIn, run_fnR F hr hb (hx σ) I1 r q⟩) he hpl
theorem pass0S {X : Cx} : ∀ σ : L2.St, PassesAt CX0 X σ E0 := fun σ pins H s e s' I c => pass0 pins σ H s e s' I c
end
section
variable {X : Cx} {CX : CXT} {k : Nat} {f C : Addr} {fd : FuncData} {ps : List Str} {sp : Sp} {E : L2.St → XK} {x m : Str} {p pos apos : Pos} {e o : Expr} {es : List Expr} {ta : TE} {t : TA}
/-- o.m(e, ..), which may raise -/
def tMethS (C : Addr) (m : Str) (sp : Sp) (E : L2.St → XK) (ta : TE) (t : TA) : TE := fun σ H Q => ta σ H fun x H1 => ∃ a dx fs, x = .ref a ∧ H1 a = some (.ins C dx fs) ∧ fs.lookup m = none ∧ t σ H1 fun vs H2 => sp (x :: vs) H2 Q (E σ)
theorem pe_methR {pl : Sem Bool} (he : PE X o ta) (c : Cls X.K C) (hm : Meth X.K C m f) (F : FnR X.prog X.w X.K X.mg X.base CX k f fd ps sp) (hr : Rm k X.A) (hb : Binds X.K fd ps []) (hx : ∀ σ, PassesAt CX X σ (E σ)) (ha : PA X (e :: es) t)
    (hst : starEach (e :: es) X.env = (false, eval e X.env) :: starEach es X.env) (hpl : (backTo pos (starEach es X.env)).any (·.1) = false)
    (ht : eval (.Call (.Attribute o m apos) (e :: es) [] pos) X.env = (do
      let ov ← eval o X.env
      standAt apos.atName
      let (f, first) ← holding [ov] (getMethod ov m pl)
      callWith pos f first (backTo pos (starEach (e :: es) X.env)) (backToKw pos (keywordEach [] X.env)))) :
    PE X (.Call (.Attribute o m apos) (e :: es) [] pos) (tMethS C m sp E ta t) := by
  refine ⟨fun pins s σ H Q I h => ?_⟩
  refine PySem.W.methodCall_KW (pl := pl) (thn (he.run pins s σ H _ I h) fun u s1 ⟨x, H1, I1, rx, a, dx, fs, ex, ea, l, q⟩ => ?_) ht
  subst ex
  obtain rfl : u = Value.ref a := rx
  refine getmeth_ok I1 ea c hm l ?_
  refine PySem.W.callWith_K (first := [.ref a]) (h₀ := X.base) I.ok.mod.kin hm.kp (thn (ha.run pos pins s1 σ H1 _ I1 q) fun us s2 ⟨vs, H2, I2, r, q2⟩ => ⟨I2.kIn, ?_⟩) hst hpl
  exact run_fnR (us := .ref a :: us) (vs := .ref a :: vs) F hr hb (hx σ) I2 (.cons rfl r) q2
theorem pe_methR0 {pl : Sem Bool} (he : PE X o ta) (c : Cls X.K C) (hm : Meth X.K C m f) (F : FnR X.prog X.w X.K X.mg X.base CX k f fd ps sp) (hr : Rm k X.A) (hb : Binds X.K fd ps []) (hx : ∀ σ, PassesAt CX X σ (E σ))
    (ht : eval (.Call (.Attribute o m apos) [] [] pos) X.env = (do
      let ov ← eval o X.env
      standAt apos.atName
      let (f, first) ← holding [ov] (getMethod ov m pl)
      callWith pos f first (backTo pos (starEach [] X.env)) (backToKw pos (keywordEach [] X.env)))) :
    PE X (.Call (.Attribute o m apos) [] [] pos) (tMethS C m sp E ta tNil) := by
  refine ⟨fun pins s σ H Q I h => ?_⟩
  refine PySem.W.methodCall_KW (pl := pl) (thn (he.run pins s σ H _ I h) fun u s1 ⟨x, H1, I1, rx, a, dx, fs, ex, ea, l, q⟩ => ?_) ht
  subst ex
  obtain rfl : u = Value.ref a := rx
  refine getmeth_ok I1 ea c hm l ?_
  exact PySem.W.callWith_K0 (first := [.ref a]) I1.kIn hm.kp (run_fnR (us := [.ref a]) (vs := [.ref a]) F hr hb (hx σ) I1 (.cons rfl .nil) q)
/-- C(..), whose __init__ may raise -/
def tMakeS (C : Addr) (sp : Sp) (E : L2.St → XK) (t : TA) : TE := fun σ H Q => t σ H fun vs H1 => ∀ x dx, H1 x = none → H1 dx = none → dx ≠ x →
  sp (.ref x :: vs) (upd (upd H1 dx (.own x)) x (.ins C dx [])) (fun v H2 => v = .non ∧ Q (.ref x) H2) (E σ)
theorem run_makeR {pins : List (Addr × Obj)} {σ : L2.St} {H : Hp} {s : Shared} {Q : VK} {us : List Value} {vs : List V} (M : Mk X.K C f) (F : FnR X.prog X.w X.K X.mg X.base CX k f fd ps sp) (hr : Rm (k + 1) X.A) (hb : Binds X.K fd ps [])
    (hx : PassesAt CX X σ (E σ)) (I : Inv X pins σ H s) (r : Vals vs us)
    (h : ∀ x dx, H x = none → H dx = none → dx ≠ x → sp (.ref x :: vs) (upd (upd H dx (.own x)) x (.ins C dx [])) (fun v H2 => v = .non ∧ Q (.ref x) H2) (E σ)) :
    wpAny (model X.prog X.w) X.A (call (.ref C) us) (EP X pins σ Q) X.xe s := by
  have hq := h (s.heap.objs.size + 1) s.heap.objs.size (I.hok.fresh (Nat.le_succ _)) (I.hok.fresh (Nat.le_refl _)) (Nat.ne_of_lt (Nat.lt_succ_self _))
  have I2 := Inv.made (C := C) I
  have r2 : Vals (V.ref (s.heap.objs.size + 1) :: vs) (Value.ref (s.heap.objs.size + 1) :: us) := .cons rfl r
  have hl : (Value.ref (s.heap.objs.size + 1) :: us ++ []).length = ps.length := by
    have e := r2.length
    rw [F.len _ _ _ _ hq] at e
    rw [List.append_nil]
    exact e.symm
  have b := hb _ (Value.ref (s.heap.objs.size + 1) :: us) I2.kIn hl
  rw [List.append_nil] at b
  refine wpAny_call (make_map (f := f) I.kIn M.makes M.init (beq_iff_eq.mp M.fn) (codeAny_mono (F.run (args := ⟨Value.ref (s.heap.objs.size + 1) :: us, []⟩) hq r2 b (hr.make C us []) (I2.env0.make C us [])) fun r s' hq' => ?_))
  cases r with
  | error e => exact hx pins _ _ e s' I2 hq'
  | ok fl =>
    cases fl with
    | ret u =>
      obtain ⟨v, H', I3, rv, ev, q3⟩ := I2.after hq'
      subst ev
      exact ⟨rv, ⟨V.ref (s.heap.objs.size + 1), H', I3, rfl, q3⟩⟩
    | next => exact False.elim hq'
    | brk => exact False.elim hq'
    | cont => exact False.elim hq'
theorem pe_makeR (M : Mk X.K C f) (F : FnR X.prog X.w X.K X.mg X.base CX k f fd ps sp) (hr : Rm (k + 1) X.A) (hg : Gl X x) (hm : X.mg x = some (.ref C)) (hb : Binds X.K fd ps []) (hx : ∀ σ, PassesAt CX X σ (E σ))
    (ha : PA X (e :: es) t) (hdb : (x == ("__debug__" : Str)) = false) (he : starEach (e :: es) X.env = (false, eval e X.env) :: starEach es X.env) (hpl : (backTo pos (starEach es X.env)).any (·.1) = false) :
    PE X (.Call (.Name x p) (e :: es) [] pos) (tMakeS C sp E t) := by
  refine ⟨fun pins s σ H Q I h => ?_⟩
  refine wpAny_Call_Name_kw (ld_glob I hg hm ?_ hdb)
  refine PySem.W.callWith_K (h₀ := X.base) I.ok.mod.kin M.kp (thn (ha.run pos pins s σ H _ I h) fun us s1 ⟨vs, H1, I1, r, q⟩ => ⟨I1.kIn, ?_⟩) he hpl
  exact run_makeR M F hr hb (hx σ) I1 r q
theorem pe_makeR0 (M : Mk X.K C f) (F : FnR X.prog X.w X.K X.mg X.base CX k f fd ps sp) (hr : Rm (k + 1) X.A) (hg : Gl X x) (hm : X.mg x = some (.ref C)) (hb : Binds X.K fd ps []) (hx : ∀ σ, PassesAt CX X σ (E σ))
    (hdb : (x == ("__debug__" : Str)) = false) : PE X (.Call (.Name x p) [] [] pos) (tMakeS C sp E tNil) := by
  refine ⟨fun pins s σ H Q I h => ?_⟩
  refine wpAny_Call_Name_kw (ld_glob I hg hm ?_ hdb)
  exact PySem.W.callWith_K0 I.kIn M.kp (run_makeR (us := []) M F hr hb (hx σ) I .nil h)
end
end U

set_option maxHeartbeats 4000000
/-! U9: targets, what a comprehension walks, comprehensions. -/
namespace U
open PySem PySem.Spec PyProof.Rows L2
section
variable {K : PySem.W.Frag} {μ : Nat → Addr} {L : Nat} {H : Hp} {X : Cx} {e : Expr} {call : Nat → List PV → Store → Res PV} {m : ME}
/-! ### targets -/
def gAll : List Nat → TGs
  | [] => gNil
  | i :: is => gCons (gName i) (gAll is)
def gOf (K : PySem.W.Frag) : MG → TG
  | .nm i => gName i
  | .tp is => gTup K is.length (gAll is)
theorem wipe_set {σ : L2.St} {i : Nat} {v : V} : ∀ {is : List Nat}, i ∈ is → L2.wipe (σ.set i (some v)) is = L2.wipe σ is
  | [], h => by simp at h
  | j :: is, h => by
    unfold L2.wipe
    by_cases e : i = j
    · subst e
      by_cases hm : i ∈ is
      · rw [wipe_set hm]
      · have : ∀ (τ : L2.St) (is : List Nat), i ∉ is → L2.wipe (τ.set i (some v)) is = (L2.wipe τ is).set i (some v) := by
          intro τ is
          induction is with
          | nil => intro _; rfl
          | cons k is ih =>
            intro hk
            have h1 : i ≠ k := fun z => hk (by simp [z])
            have h2 : i ∉ is := fun z => hk (by simp [z])
            unfold L2.wipe
            rw [ih h2, List.set_comm _ _ h1]
        rw [this σ is hm, List.set_set]
    · have hm : i ∈ is := by
        rcases List.mem_cons.mp h with z | z
        · exact absurd z e
        · exact z
      rw [wipe_set hm]
theorem setEach_ok : ∀ {is : List Nat} {xs : List PV} {vs : List V} {env env' : En} {σ : L2.St} {Q : L2.St → Hp → Prop}, setEach is xs env = some env' → RE K μ L H env σ → RVs K μ L H xs vs →
    (∀ σ', RE K μ L H env' σ' → (∀ js : List Nat, (∀ i ∈ is, i ∈ js) → L2.wipe σ' js = L2.wipe σ js) → Q σ' H) → gAll is vs σ H Q
  | [], _, _, _, _, _, _, h, r, .nil, q => by
    cases h
    exact ⟨rfl, q _ r fun _ _ => rfl⟩
  | [], _, _, _, _, _, _, h, _, .cons _ _ _, _ => by cases h
  | _ :: _, _, _, _, _, _, _, h, _, .nil, _ => by cases h
  | i :: is, _, _, _, _, _, _, h, r, .cons f rx rs, q =>
    ⟨_, _, rfl, setEach_ok h (r.set rx i) rs fun σ' r' w => q σ' r' fun js hj => by
      rw [w js fun k hk => hj k (List.mem_cons_of_mem _ hk)]
      exact wipe_set (hj i List.mem_cons_self)⟩
theorem setEach_len : ∀ {is : List Nat} {xs : List PV} {env env' : En}, setEach is xs env = some env' → xs.length = is.length
  | [], [], _, _, _ => rfl
  | [], _ :: _, _, _, h => by cases h
  | _ :: _, [], _, _, h => by cases h
  | _ :: is, _ :: xs, _, _, h => by
    have := setEach_len (is := is) (xs := xs) h
    simp [this]
theorem put_ok {g : MG} {x : PV} {x' : V} {env env' : En} {σ : L2.St} {Q : L2.St → Hp → Prop} (h : g.put x env = some env') (r : RE K μ L H env σ) (rx : RV K μ L H x x')
    (q : ∀ σ', RE K μ L H env' σ' → L2.wipe σ' g.slots = L2.wipe σ g.slots → Q σ' H) : gOf K g x' σ H Q := by
  cases g with
  | nm i =>
    cases h
    exact q _ (r.set rx i) (wipe_set (by simp [MG.slots]))
  | tp is =>
    unfold MG.put at h
    simp only at h
    split at h
    · cases rx with
      | tup h1 r1 => exact ⟨_, _, rfl, h1, by rw [← r1.len]; exact setEach_len h, setEach_ok h r r1 fun σ' r' w => q σ' r' (w _ fun _ hi => hi)⟩
    · cases h

/-! ### sources -/
theorem _root_.L2.PI.imp {tg it : Expr} {w w' : TI} (h : PI X tg it w) (i : ∀ σ H R, w' σ H R → w σ H R) : PI X tg it w' := ⟨fun pins s σ H R I q => h.run pins s σ H R I (i _ _ _ q)⟩
def rdW (K : PySem.W.Frag) (m : En → Store → Res Src) : TI := fun σ H R => ∃ μ env st s st', Ok K μ st H ∧ RE K μ st.length H env σ ∧ m env st = .ok s st' ∧
  ∀ μ' H' J, Stp μ st.length H μ' st'.length H' → Ok K μ' st' H' → SrcR K NoS μ' st'.length H' J s → R J H'
theorem pi_used {tg it : Expr} (h : SE X call m it) : PI X tg it (rdW X.K fun env st => (ev call m .use env st).bind fun x st1 => opt (srcV x st1) st1) := by
  refine ⟨fun pins s σ H R I ⟨μ, env, st, src, st', o, r, h1, g⟩ => ?_⟩
  obtain ⟨v, st1, h2, h3⟩ := bind_ok h1
  obtain ⟨h4, rfl⟩ := opt_ok h3
  have ls : (∀ μ1 H1 v', Stp μ st.length H μ1 st1.length H1 → Ok X.K μ1 st1 H1 → RV X.K μ1 st1.length H1 v v' → ∃ a, v' = .ref a ∧ (∃ xs, SqL X.K H1 a xs) ∧ R (Itl X.K a) H1) →
      wpAny (model X.prog X.w) X.A (eval it X.env) (fun v s1 => wpAny (model X.prog X.w) X.A (pyIter v) (PIE X pins σ tg R) X.xe s1) X.xe s :=
    fun q => (pi_list h.use).run pins s σ H R I ⟨μ, env, st, v, st1, o, r, h2, fun μ1 H1 v' s1 o1 r1 => q μ1 H1 v' s1 o1 r1⟩
  cases v with
  | str z =>
    cases h4
    refine (pi_str h.use).run pins s σ H R I ⟨μ, env, st, _, st1, o, r, h2, fun μ1 H1 v' s1 o1 r1 => ?_⟩
    cases r1
    exact ⟨z, rfl, g μ1 H1 _ s1 o1 .str⟩
  | tup xs =>
    cases h4
    refine (pi_tup h.use).run pins s σ H R I ⟨μ, env, st, _, st1, o, r, h2, fun μ1 H1 v' s1 o1 r1 => ?_⟩
    cases r1 with
    | tup h5 r5 k5 => exact ⟨_, rfl, ⟨_, h5⟩, g μ1 H1 _ s1 o1 (.tup h5 r5)⟩
  | fl xs =>
    cases h4
    refine ls fun μ1 H1 v' s1 o1 r1 => ?_
    cases r1 with
    | fl h5 n5 r5 => exact ⟨_, rfl, ⟨_, SqL.of h5⟩, g μ1 H1 _ s1 o1 (.own h5 n5 (fun z => z) r5)⟩
  | rol xs =>
    cases h4
    refine ls fun μ1 H1 v' s1 o1 r1 => ?_
    cases r1 with
    | rol h5 r5 => exact ⟨_, rfl, ⟨_, h5.sq⟩, g μ1 H1 _ s1 o1 (.rol h5 r5)⟩
  | loc n =>
    refine ls fun μ1 H1 v' s1 o1 r1 => ?_
    cases r1 with
    | loc h5 =>
      obtain ⟨xs, hx, e⟩ := Option.map_eq_some_iff.mp h4
      obtain ⟨vs, hv⟩ := o1.held (seq_lst hx)
      subst e
      exact ⟨_, rfl, ⟨vs, SqL.of hv⟩, g μ1 H1 _ s1 o1 (.live h5)⟩
  | _ => cases h4
theorem rng_ok {x y : PV} {st st' : Store} {s : Src} (h : rngV x y st = .ok s st') : ∃ i j : Int, x = .int i ∧ y = .int j ∧ (-(2 ^ 62) ≤ i ∧ i < 2 ^ 62 ∧ -(2 ^ 62) ≤ j ∧ j < 2 ^ 62) ∧ s = .items ((List.range (j - i).toNat).map fun (k : Nat) => .int (i + k)) ∧ st = st' := by
  unfold rngV at h
  split at h
  · split at h
    · rename_i hb
      cases h
      exact ⟨_, _, rfl, rfl, hb, rfl, rfl⟩
    · cases h
  · cases h
theorem pi_rng2 {tg x y : Expr} {a b : ME} {p pos : Pos} (ha : SE X call a x) (hb : SE X call b y) (hg : Gl X "range") (hm : X.mg "range" = none) (hs : starEach [x, y] X.env = [(false, eval x X.env), (false, eval y X.env)]) (hs2 : starEach [y] X.env = [(false, eval y X.env)]) :
    PI X tg (.Call (.Name "range" p) [x, y] [] pos) (rdW X.K fun env st => (ev call a .val env st).bind fun x st1 => (ev call b .val env st1).bind fun y st2 => rngV x y st2) := by
  refine (pi_range2 hg hm (pa_cons ha.val (pa_cons hb.val pa_nil hs2) (by rw [hs, hs2])) hs hs2).imp fun σ H R ⟨μ, env, st, s, st', o, r, h, g⟩ => ?_
  obtain ⟨x1, st1, h1, h2⟩ := bind_ok h
  obtain ⟨y1, st2, h3, h4⟩ := bind_ok h2
  obtain ⟨i, j, rfl, rfl, hb, rfl, rfl⟩ := rng_ok h4
  refine ⟨μ, env, st, _, st1, o, r, h1, fun μ1 H1 x' s1 o1 r1 _ => ⟨μ1, env, st1, _, _, o1, r.mono s1, h3, fun μ2 H2 y' s2 o2 r2 _ => ?_⟩⟩
  cases r1; cases r2
  exact ⟨i, j, rfl, hb, g μ2 H2 _ (Stp.trans s1 s2) o2 .rng⟩
theorem pi_rng1 {tg y : Expr} {b : ME} {p pos : Pos} (hb : SE X call b y) (hg : Gl X "range") (hm : X.mg "range" = none) (hs : starEach [y] X.env = [(false, eval y X.env)]) :
    PI X tg (.Call (.Name "range" p) [y] [] pos) (rdW X.K fun env st => (ev call (.con (.int 0)) .val env st).bind fun x st1 => (ev call b .val env st1).bind fun y st2 => rngV x y st2) := by
  refine (pi_range1 hg hm (pa_cons hb.val pa_nil hs) hs).imp fun σ H R ⟨μ, env, st, s, st', o, r, h, g⟩ => ?_
  obtain ⟨x1, st1, h1, h2⟩ := bind_ok h
  cases (show Res.ok (PV.int 0) st = Res.ok x1 st1 from h1)
  obtain ⟨y1, st2, h3, h4⟩ := bind_ok h2
  obtain ⟨i, j, e, rfl, hb, rfl, rfl⟩ := rng_ok h4
  cases e
  refine ⟨μ, env, _, _, _, o, r, h3, fun μ2 H2 y' s2 o2 r2 _ => ?_⟩
  cases r2
  have q := g μ2 H2 _ s2 o2 (.rng (lo := 0) (n := (j - 0).toNat))
  rw [Int.sub_zero] at q
  exact ⟨j, rfl, hb.2.2.1, hb.2.2.2, q⟩

/-! ### comprehensions -/
/-- the object at D is written -/
theorem StX.wrt {D : Addr} {ys zs : List V} (h : H D = Option.some (HO.lst ys)) : StX (fun a => a = D) μ L H μ L (upd H D (HO.lst zs)) := by
  refine ⟨Nat.le_refl _, fun _ _ => rfl, fun b o hb _ ne => ?_, fun b us hb => ?_, fun b o u hb => ?_, fun b hb => ?_, fun n h1 h2 => absurd h2 (by omega), fun b p hb => by rw [upd_ne (fun e => by rw [e, h] at hb; cases hb)]; exact hb⟩
  · rw [upd_ne ne]; exact hb
  · rw [upd_ne (fun e => by rw [e, h] at hb; cases hb)]; exact hb
  · rw [upd_ne (fun e => by rw [e, h] at hb; cases hb)]; exact hb
  · by_cases e : b = D
    · rw [e, upd_same] at hb; cases hb
    · rw [upd_ne e] at hb; exact hb
theorem Ok.wrt {st : Store} {D : Addr} {ys zs : List V} (o : Ok K μ st H) (h : H D = some (.lst ys)) (n : ∀ k, k < st.length → μ k ≠ D) : Ok K μ st (upd H D (.lst zs)) :=
  ⟨o.inj, fun k xs hk => by
    obtain ⟨vs, h1, h2⟩ := o.cell k xs hk
    exact ⟨vs, by rw [upd_ne (n k (List.getElem?_eq_some_iff.mp hk).1)]; exact h1, h2.mono (StX.wrt h)⟩, fun k c fs hk => by
    obtain ⟨C, dx, gs, a1, a2, a3, a4⟩ := o.ob k c fs hk
    exact ⟨C, dx, gs, a1, by rw [upd_ne (n k (List.getElem?_eq_some_iff.mp hk).1)]; exact a2, a3, a4.mono (StX.wrt h)⟩, fun k P q hk => by
    obtain ⟨e1, t⟩ := o.tb k P q hk
    have hk' := (List.getElem?_eq_some_iff.mp hk).1
    refine ⟨e1, tab_of t (fun ps h1 => ?_) fun c h1 => ?_⟩
    · rw [upd_ne (by rw [← e1]; exact n k hk')]; exact h1
    · obtain ⟨p, hp⟩ := code_ext c q
      rw [upd_ne (fun z => by rw [hp, z, h] at h1; cases h1)]; exact h1, fun k t kvs hk => by
    obtain ⟨ws, a1, a2, a3⟩ := o.dc k t kvs hk
    exact ⟨ws, by rw [upd_ne (n k (List.getElem?_eq_some_iff.mp hk).1)]; exact a1, a2.mono (StX.wrt h), a3⟩, fun k hk => by
    obtain ⟨ob, u, a1⟩ := o.hd k hk
    exact ⟨ob, u, by rw [upd_ne (n k (List.getElem?_eq_some_iff.mp hk).1)]; exact a1⟩⟩
/-- a comprehension's turns, its source known -/
theorem SE.lcBody {σ : L2.St} {Q : VK} {tt : TT} {te : TE} {test : En → Store → Res Bool} {elt : En → Store → Res PV} {g : MG} {μ1 : Nat → Addr} {st1 : Store} {H1 : Hp} {env : En} {J : It} {src : Src} {v : PV} {st4 : Store}
    (he : ∀ σ H Q, rd K elt σ H Q → te σ H Q)
    (ht : ∀ μ env st b st' σ H (Q : Bool → Hp → Prop), Ok K μ st H → RE K μ st.length H env σ → test env st = .ok b st' → (∀ μ' H', Stp μ st.length H μ' st'.length H' → Ok K μ' st' H' → Q b H') → tt σ H Q)
    (o1 : Ok K μ1 st1 H1) (r : RE K μ1 st1.length H1 env σ) (j1 : SrcR K NoS μ1 st1.length H1 J src) (h2 : lcLoop test elt g.put (wipe env g.slots) src 0 src.many [] st1 = .ok v st4)
    (fin : ∀ μ' H' v', Stp μ1 st1.length H1 μ' st4.length H' → Ok K μ' st4 H' → RV K μ' st4.length H' v v' → Fr H1 v v' → Q v' H') :
    ∀ D, H1 D = none → ∃ W : Nat → Nat → Hp → Prop, (∃ m, W 0 m (upd H1 D (.lst []))) ∧ ∀ i m H, W i m H →
      (J.stop i H ∧ Q (.ref D) H) ∨ (J.go i H ∧ ∃ Nx : Hp → Prop, (∀ H', Nx H' → ∃ m', m' < m ∧ W (i + 1) m' H') ∧ ∀ x H', J.yld i H x H' → gOf K g x (L2.wipe σ g.slots) H' fun σ2 H2 => L2.wipe σ2 g.slots = L2.wipe σ g.slots ∧ tt σ2 H2 fun b H3 =>
        if b = true then te σ2 H3 fun y H4 => ∃ acc, H4 D = some (.lst acc) ∧ acc.length < sizeLine ∧ Nx (upd H4 D (.lst (acc ++ [y]))) else Nx H3) := by
  intro D hD
  refine ⟨fun i m Hc => ∃ μ st acc accV, Stp μ1 st1.length H1 μ st.length Hc ∧ Ok K μ st Hc ∧ Hc D = some (.lst accV) ∧ (∀ n, n < st.length → μ n ≠ D) ∧ RVs K μ st.length Hc acc accV ∧
    SrcR K (fun a => a = D) μ st.length Hc J src ∧ i + m = src.many ∧ lcLoop test elt g.put (wipe env g.slots) src i m acc st = .ok v st4,
    ⟨src.many, μ1, st1, [], [], Stp.laid hD, o1.laid hD, upd_same, o1.apart hD, .nil, j1.mono (Stp.laid hD) (fun a z => .inr (by rw [z]; exact hD)), by omega, h2⟩, ?_⟩
  rintro i m Hc ⟨μ2, st2, acc, accV, s2, o2, d2, n2, r2, j2, em, e2⟩
  cases m with
  | zero =>
    refine .inl ?_
    unfold lcLoop at e2
    split at e2
    · rename_i hf
      cases e2
      have q := j2.stop o2 hf
      have e0 : i = src.many := by omega
      subst e0
      exact ⟨q, fin μ2 Hc _ s2 o2 (.fl d2 n2 r2) hD⟩
    · cases e2
  | succ m =>
    refine .inr ?_
    unfold lcLoop at e2
    split at e2
    · cases e2
    · rename_i x hx
      split at e2
      · cases e2
      · rename_i env' hp
        obtain ⟨q1, q2⟩ := j2.go o2 hx
        obtain ⟨b, st3, e3, e4⟩ := bind_ok e2
        refine ⟨q1, _, fun H' w => ⟨m, Nat.lt_succ_self m, w⟩, fun x' H' y => ?_⟩
        obtain ⟨sy, oy, rx, fx⟩ := q2 x' H' y
        have d2 : H' D = some (.lst accV) := sy.keep D _ d2 n2 fun z => z
        have s2 := Stp.trans s2 sy
        have o2 := oy
        have r2 := r2.mono sy
        have j2 := j2.mono (Stp.wide sy) (fun _ z => .inl z)
        have rw0 : RE K μ2 st2.length H' (wipe env g.slots) (L2.wipe σ g.slots) := (r.mono s2).wipe _
        refine put_ok hp rw0 rx fun σ2 rE wE => ⟨?_, ?_⟩
        · rw [wE]
          have : ∀ (τ : L2.St) (vs : List Nat), L2.wipe (L2.wipe τ vs) vs = L2.wipe τ vs := by
            have idem : ∀ (τ : L2.St) (is vs : List Nat), (∀ i ∈ is, ∀ x : V, τ[i]? ≠ some (some x)) → L2.wipe τ is = τ := by
              intro τ is _
              induction is with
              | nil => intro _; rfl
              | cons k is ih =>
                intro hk
                unfold L2.wipe
                rw [ih fun i hi => hk i (List.mem_cons_of_mem _ hi)]
                apply List.ext_getElem?
                intro n
                by_cases e : k = n
                · subst e
                  by_cases hl : k < τ.length
                  · rw [List.getElem?_set_self hl]
                    have := hk k List.mem_cons_self
                    cases q : τ[k] with
                    | none => rw [List.getElem?_eq_getElem hl, q]
                    | some z => exact absurd (by rw [List.getElem?_eq_getElem hl, q]) (this z)
                  · rw [List.getElem?_eq_none (by simp; omega), List.getElem?_eq_none (by omega)]
                · rw [List.getElem?_set_ne e]
            intro τ vs
            exact idem _ vs vs fun i hi x hx => (L2.wipe_some hx).2 hi
          exact this σ g.slots
        · refine ht μ2 env' st2 b st3 σ2 H' _ o2 rE e3 fun μ3 H3 s3 o3 => ?_
          have d3 : H3 D = some (.lst accV) := s3.keep D _ d2 n2 fun z => z
          have n3 : ∀ n, n < st3.length → μ3 n ≠ D := fun n hn z => by
            by_cases hl : n < st2.length
            · exact n2 n hl ((s3.ext n hl).symm.trans z)
            · have := s3.new n (by omega) hn
              rw [z, d2] at this; cases this
          cases b with
          | false =>
            refine iteF ⟨μ3, st3, acc, accV, Stp.trans s2 s3, o3, d3, n3, r2.mono s3, j2.mono (Stp.wide s3) (fun _ z => .inl z), by omega, ?_⟩
            exact e4
          | true =>
            obtain ⟨y1, st5, e5, e6⟩ := bind_ok (show (elt env' st3).bind _ = _ from e4)
            split at e6
            · rename_i hz
              refine iteT (he σ2 H3 _ ⟨μ3, env', st3, y1, st5, o3, rE.mono s3, e5, fun μ5 H5 y' s5 o5 r5 f5 => ?_⟩)
              obtain ⟨μe, se, oe, re, fe, ext⟩ := Ok.esc s5 o5 r5 f5
              have d5 : H5 D = some (.lst accV) := s5.keep D _ d3 n3 fun z => z
              have ne : ∀ n, n < (esc y1 st5).2.length → μe n ≠ D := fun n hn z => by
                by_cases hl : n < st3.length
                · exact n3 n hl ((se.ext n hl).symm.trans z)
                · have := se.new n (by omega) hn
                  rw [z, d3] at this; cases this
              have ra : RVs K μe (esc y1 st5).2.length H5 acc accV := (r2.mono s3).mono se
              have wr : StX (fun a => a = D) μe (esc y1 st5).2.length H5 μe (esc y1 st5).2.length (upd H5 D (.lst (accV ++ [y']))) := StX.wrt d5
              have sw : Stp μ1 st1.length H1 μe (esc y1 st5).2.length (upd H5 D (.lst (accV ++ [y']))) := StX.trans (Stp.trans s2 (Stp.trans s3 se)) wr fun b e => .inr (by rw [e]; exact hD)
              refine ⟨accV, d5, by rw [← r2.len]; exact hz, μe, (esc y1 st5).2, acc ++ [(esc y1 st5).1], accV ++ [y'], sw, oe.wrt d5 ne, upd_same, ne, ?_, ?_, by omega, e6⟩
              · refine (RVs.mono wr ra).app (RVs.one fe (RV.mono wr ?_ re))
                cases hq : (esc y1 st5).1 <;> first | trivial | (rw [hq] at fe; cases fe)
              · exact (j2.mono (Stp.wide (Stp.trans s3 se)) (fun _ z => .inl z)).mono wr (fun _ z => .inl z)
            · cases e6
theorem SE.lcImp {σ : L2.St} {H : Hp} {Q : VK} {wi : TI} {tt : TT} {te : TE} {test : En → Store → Res Bool} {elt : En → Store → Res PV} {g : MG} {srcF : En → Store → Res Src}
    (hw : ∀ σ H R, rdW K srcF σ H R → wi σ H R) (he : ∀ σ H Q, rd K elt σ H Q → te σ H Q)
    (ht : ∀ μ env st b st' σ H (Q : Bool → Hp → Prop), Ok K μ st H → RE K μ st.length H env σ → test env st = .ok b st' → (∀ μ' H', Stp μ st.length H μ' st'.length H' → Ok K μ' st' H' → Q b H') → tt σ H Q)
    (h : rd K (fun env st => (srcF env st).bind fun s st1 => lcLoop test elt g.put (wipe env g.slots) s 0 s.many [] st1) σ H Q) : tLc wi (gOf K g) tt te g.slots σ H Q := by
  obtain ⟨μ, env, st, v, st4, o, r, h, fin⟩ := h
  obtain ⟨src, st1, h1, h2⟩ := bind_ok h
  exact hw σ H _ ⟨μ, env, st, src, st1, o, r, h1, fun μ1 H1 J s1 o1 j1 => SE.lcBody he ht o1 (r.mono s1) j1 h2 fun μ' H' v' s2 o2 r2 f2 => fin μ' H' v' (Stp.trans s1 s2) o2 r2 (f2.back s1)⟩
end
end U

set_option maxHeartbeats 4000000
/-! U9d: dicts of the store. -/
namespace U
open PySem PySem.Spec PyProof.Rows L2
section
variable {K : PySem.W.Frag} {μ μ1 : Nat → Addr} {L L1 : Nat} {H H1 : Hp}
/-! ### keys -/
theorem keyS_at {x : PV} {v : V} {k : Key} (r : RV K μ L H x v) (h : keyS x = some k) : v = kV k := by
  cases r <;> cases h <;> rfl
theorem keysS_at : ∀ {xs : List PV} {vs : List V} {ks : List Key}, RVs K μ L H xs vs → keysS xs = some ks → vs = ks.map kV
  | _, _, _, .nil, h => by cases h; rfl
  | _, _, _, .cons (x := x) (xs := xs) f r rs, h => by
    unfold keysS at h
    split at h
    · rename_i k ks h1 h2
      cases h
      rw [keyS_at r h1, keysS_at rs h2]; rfl
    · cases h
theorem key_at {t : Bool} {x : PV} {v : V} {q : List Key} (r : RV K μ L H x v) (h : keyD t x = some q) : (t = false ∧ ∃ k, q = [k] ∧ v = kV k) ∨ (t = true ∧ ∃ b, v = .ref b ∧ H b = some (.tup (q.map kV))) := by
  cases t with
  | false =>
    obtain ⟨k, h1, rfl⟩ := Option.map_eq_some_iff.mp (show (keyS x).map (fun k => [k]) = some q from h)
    exact .inl ⟨rfl, k, rfl, keyS_at r h1⟩
  | true =>
    cases r with
    | @tup xs a vs hq r k =>
      have h : (if keyOk xs then keysS xs else none) = some q := h
      split at h
      · rename_i hk
        rcases k with k | k
        · rw [keysS_at r h] at k; exact .inr ⟨rfl, _, rfl, k⟩
        · rw [k] at hk; cases hk
      · cases h
    | _ => cases h
/-! ### what stands at a key -/
theorem look_rel : ∀ {kvs : List (List Key × PV)} {ws : List V}, RVs K μ L H (kvs.map Prod.snd) ws → ∀ q, (dLook kvs q = none ∧ valV ((kvs.map Prod.fst).zip ws) q = none) ∨
    ∃ v w, dLook kvs q = some v ∧ valV ((kvs.map Prod.fst).zip ws) q = some w ∧ RV K μ L H v w ∧ v.isFl = false
  | [], _, _, q => .inl ⟨rfl, by simp [valV]⟩
  | (k, v) :: kvs, ws, rr, q => by
    cases rr with
    | @cons _ w _ ws f r rs =>
      by_cases e : k = q
      · exact .inr ⟨v, w, by simp [dLook, List.find?_cons, e], by simp [valV, List.find?_cons, e], r, f⟩
      · rcases look_rel rs q with ⟨h1, h2⟩ | ⟨v1, w1, h1, h2, h3, h4⟩
        · exact .inl ⟨by simpa [dLook, List.find?_cons, e] using h1, by simpa [valV, List.find?_cons, e] using h2⟩
        · exact .inr ⟨v1, w1, by simpa [dLook, List.find?_cons, e] using h1, by simpa [valV, List.find?_cons, e] using h2, h3, h4⟩
abbrev hk1 (p : List Key × V) : Key × V := (p.1.headD (.inl 0), p.2)
theorem valV_one (k : Key) : ∀ {l : List (List Key × V)}, (∀ p ∈ l, ∃ k, p.1 = [k]) → valV (l.map hk1) k = valV l [k]
  | [], _ => rfl
  | p :: l, h => by
    obtain ⟨j, hj⟩ := h p List.mem_cons_self
    have ih := valV_one k (l := l) fun p hp => h p (List.mem_cons_of_mem _ hp)
    by_cases e : j = k
    · rw [List.map_cons, valV_pos (show (hk1 p).1 = k by simp [hk1, hj, e]), valV_pos (show p.1 = [k] by rw [hj, e])]
    · rw [List.map_cons, valV_neg (show ¬ (hk1 p).1 = k by simp [hk1, hj, e]), valV_neg (show ¬ p.1 = [k] by rw [hj]; simpa using e), ih]
theorem any_one (k : Key) : ∀ {l : List (List Key × V)}, (∀ p ∈ l, ∃ k, p.1 = [k]) → ((l.map hk1).any fun kv => decide (kv.1 = k)) = l.any fun kv => decide (kv.1 = [k])
  | [], _ => rfl
  | p :: l, h => by
    obtain ⟨j, hj⟩ := h p List.mem_cons_self
    rw [List.map_cons, List.any_cons, List.any_cons, any_one k (l := l) fun p hp => h p (List.mem_cons_of_mem _ hp)]
    simp [hk1, hj]
theorem putK_one (k : Key) (w : V) {l : List (List Key × V)} (h : ∀ p ∈ l, ∃ k, p.1 = [k]) : putK (l.map hk1) k w = (putK l [k] w).map hk1 := by
  unfold putK
  rw [any_one k h]
  split
  · rw [List.map_map, List.map_map]
    refine List.map_congr_left fun p hp => ?_
    obtain ⟨j, hj⟩ := h p hp
    by_cases e : j = k <;> simp [hk1, hj, e]
  · simp [hk1]
theorem any_rel (q : List Key) : ∀ {kvs : List (List Key × PV)} {ws : List V}, kvs.length = ws.length → (((kvs.map Prod.fst).zip ws).any fun kv => decide (kv.1 = q)) = kvs.any fun kv => decide (kv.1 = q)
  | [], _, _ => rfl
  | _ :: _, [], h => by simp at h
  | (k, v) :: kvs, w :: ws, h => by
    rw [List.map_cons, List.zip_cons_cons, List.any_cons, List.any_cons, any_rel q (by simpa using h)]
theorem put_rel {kvs : List (List Key × PV)} {ws : List V} {q : List Key} {v : PV} {w : V} (rr : RVs K μ L H (kvs.map Prod.snd) ws) (r : RV K μ L H v w) (f : v.isFl = false) :
    ∃ ws', putK ((kvs.map Prod.fst).zip ws) q w = ((dPut kvs q v).map Prod.fst).zip ws' ∧ RVs K μ L H ((dPut kvs q v).map Prod.snd) ws' := by
  have hl : kvs.length = ws.length := by have := rr.len; simpa using this
  unfold putK dPut
  rw [any_rel q hl]
  split
  · rename_i hx
    clear hl hx
    induction kvs generalizing ws with
    | nil => exact ⟨[], by simp, .nil⟩
    | cons kv kvs ih =>
      obtain ⟨k, v0⟩ := kv
      cases rr with
      | @cons _ w0 _ ws f0 r0 rs =>
        obtain ⟨ws', h1, h2⟩ := ih rs
        by_cases e : k = q
        · refine ⟨w :: ws', ?_, ?_⟩
          · simp only [List.map_cons, List.zip_cons_cons, if_pos e, h1]
          · simp only [List.map_cons, if_pos e]
            exact .cons f r h2
        · refine ⟨w0 :: ws', ?_, ?_⟩
          · simp only [List.map_cons, List.zip_cons_cons, if_neg e, h1]
          · simp only [List.map_cons, if_neg e]
            exact .cons f0 r0 h2
  · refine ⟨ws ++ [w], ?_, ?_⟩
    · rw [List.map_append, List.zip_append (by rw [List.length_map]; exact hl)]
      simp
    · rw [List.map_append]
      exact RVs.app rr (RVs.one f r)
theorem put_one {kvs : List (List Key × PV)} {k : Key} {v : PV} (h : ∀ kv ∈ kvs, ∃ k, kv.1 = [k]) : ∀ kv ∈ dPut kvs [k] v, ∃ k, kv.1 = [k] := by
  intro kv hkv
  unfold dPut at hkv
  split at hkv
  · obtain ⟨p, hp, rfl⟩ := List.mem_map.mp hkv
    split
    · exact h p hp
    · exact h p hp
  · rcases List.mem_append.mp hkv with z | z
    · exact h kv z
    · rw [List.mem_singleton] at z
      subst z; exact ⟨k, rfl⟩
theorem dPut_len {kvs : List (List Key × PV)} {q : List Key} {v : PV} : (dPut kvs q v).length ≤ kvs.length + 1 := by
  unfold dPut; split <;> simp
theorem zip_one {kvs : List (List Key × PV)} {ws : List V} (h : ∀ kv ∈ kvs, ∃ k, kv.1 = [k]) : ∀ p ∈ (kvs.map Prod.fst).zip ws, ∃ k, p.1 = [k] := fun p hp => by
  obtain ⟨kv, h1, h2⟩ := List.mem_map.mp (List.of_mem_zip hp).1
  obtain ⟨k, hk⟩ := h kv h1
  exact ⟨k, by rw [← h2]; exact hk⟩
theorem dHO_mut {t : Bool} {ks : List (List Key)} {ws : List V} : Mut (some (dHO t ks ws)) := by cases t <;> exact True.intro
theorem dHO_isD {H : Hp} {a : Addr} {t : Bool} {ks : List (List Key)} {ws : List V} (h : H a = some (dHO t ks ws)) : IsD H a := by
  cases t with
  | true => exact .inr ⟨_, .inl h⟩
  | false => exact .inl ⟨_, .inl h⟩
variable {st : Store} {n : Nat} {t : Bool} {kvs : List (List Key × PV)}
theorem dget_at (o : Ok K μ st H) (h : st[n]? = some (.dct t kvs)) {k : PV} {k' : V} {q : List Key} (rk : RV K μ st.length H k k') (hk : keyD t k = some q) :
    (dLook kvs q = none ∧ DGet H (μ n) k' none) ∨ ∃ v v', dLook kvs q = some v ∧ DGet H (μ n) k' (some v') ∧ RV K μ st.length H v v' ∧ v.isFl = false := by
  obtain ⟨ws, a1, a2, a3⟩ := o.dc n t kvs h
  have key : ∀ r : Option V, valV ((kvs.map Prod.fst).zip ws) q = r → DGet H (μ n) k' r := fun r hr => by
    rcases key_at rk hk with ⟨rfl, k, rfl, rfl⟩ | ⟨rfl, b, rfl, hb⟩
    · exact .inl ⟨_, k, .inl a1, rfl, by rw [← hr]; exact (valV_one k (zip_one (a3 rfl))).symm⟩
    · exact .inr ⟨_, q, b, .inl a1, rfl, hb, hr.symm⟩
  rcases look_rel a2 q with ⟨h1, h2⟩ | ⟨v, w, h1, h2, h3, h4⟩
  · exact .inl ⟨h1, key _ h2⟩
  · exact .inr ⟨v, w, h1, key _ h2, h3, h4⟩
/-! ### a dict's object changes -/
/-- the dict at a place is replaced -/
theorem Stp.dput (o : Ok K μ st H) (h : st[n]? = some (.dct t kvs)) {u : HO} : Stp μ st.length H μ st.length (upd H (μ n) u) := by
  obtain ⟨ws, a1, _, _⟩ := o.dc n t kvs h
  have hn : n < st.length := (List.getElem?_eq_some_iff.mp h).1
  refine ⟨Nat.le_refl _, fun _ _ => rfl, fun b w hb k _ => ?_, fun b zs hb => ?_, fun b w z hb => ?_, fun b hb => ?_, fun k h1 h2 => absurd h2 (by omega), fun b p hb => ?_⟩
  · rw [upd_ne (fun e => k n hn e.symm)]; exact hb
  · rw [upd_ne (fun e => by rw [e, a1] at hb; exact dHO_ne_tup (Option.some.inj hb))]; exact hb
  · rw [upd_ne (fun e => by rw [e, a1] at hb; exact dHO_ne_frz (Option.some.inj hb))]; exact hb
  · by_cases e : b = μ n
    · rw [e, upd_same] at hb; cases hb
    · rw [upd_ne e] at hb; exact hb
  · rw [upd_ne (fun e => by rw [e, a1] at hb; exact dHO_ne_ext (Option.some.inj hb))]; exact hb
/-- .. and its place tells so -/
theorem Ok.dput (o : Ok K μ st H) (h : st[n]? = some (.dct t kvs)) {u : HO} {c : Cell} (hc : (∃ t' kvs', c = .dct t' kvs' ∧ DctAt K μ st.length (upd H (μ n) u) (μ n) t' kvs') ∨ (c = .hid ∧ ∃ o' u', u = .frz o' u')) : Ok K μ (st.set n c) (upd H (μ n) u) := by
  have s : Stp μ st.length H μ st.length (upd H (μ n) u) := Stp.dput o h
  have hn : n < st.length := (List.getElem?_eq_some_iff.mp h).1
  obtain ⟨ws0, a1, _, _⟩ := o.dc n t kvs h
  have hl : (st.set n c).length = st.length := by simp
  have at_n : (st.set n c)[n]? = some c := by simp [hn]
  have other : ∀ {k : Nat} {x : Cell}, k ≠ n → (st.set n c)[k]? = some x → k < st.length ∧ st[k]? = some x := fun {k x} ne hk => by
    rw [List.getElem?_set_ne (Ne.symm ne)] at hk
    exact ⟨(List.getElem?_eq_some_iff.mp hk).1, hk⟩
  have off : ∀ {k : Nat}, k < st.length → k ≠ n → μ k ≠ μ n := fun hk ne z => ne (o.inj _ n hk hn z)
  have isn : ∀ {k : Nat} {x : Cell}, (∀ t' kvs', x ≠ .dct t' kvs') → x ≠ .hid → (st.set n c)[k]? = some x → k ≠ n := fun {k x} h1 h2 hk e => by
    subst e
    rw [at_n] at hk
    rcases hc with ⟨t', kvs', e1, _⟩ | ⟨e1, _⟩
    · rw [e1] at hk; cases hk; exact h1 _ _ rfl
    · rw [e1] at hk; cases hk; exact h2 rfl
  refine ⟨fun a b ha hb e => o.inj a b (by omega) (by omega) e, fun k zs hk => ?_, fun k c2 fs hk => ?_, fun k P q hk => ?_, fun k t2 kvs2 hk => ?_, fun k hk => ?_⟩
  · have ne := isn (fun _ _ z => by cases z) (fun z => by cases z) hk
    obtain ⟨hkl, hk2⟩ := other ne hk
    obtain ⟨vs, b1, b2⟩ := o.cell k zs hk2
    rw [hl]
    exact ⟨vs, by rw [upd_ne (off hkl ne)]; exact b1, b2.mono s⟩
  · have ne := isn (fun _ _ z => by cases z) (fun z => by cases z) hk
    obtain ⟨hkl, hk2⟩ := other ne hk
    obtain ⟨C, dx, gs, b1, b2, b3, b4⟩ := o.ob k c2 fs hk2
    rw [hl]
    exact ⟨C, dx, gs, b1, by rw [upd_ne (off hkl ne)]; exact b2, b3, b4.mono s⟩
  · have ne := isn (fun _ _ z => by cases z) (fun z => by cases z) hk
    obtain ⟨hkl, hk2⟩ := other ne hk
    obtain ⟨e1, tt⟩ := o.tb k P q hk2
    refine ⟨e1, tab_of tt (fun ps h1 => ?_) fun c1 h1 => ?_⟩
    · rw [upd_ne (by rw [← e1]; exact off hkl ne)]; exact h1
    · exact s.keep _ _ h1 (o.noCode h1) fun z => z
  · by_cases ne : k = n
    · subst ne
      rw [at_n] at hk
      rcases hc with ⟨t', kvs', e1, e2⟩ | ⟨e1, _⟩
      · rw [e1] at hk; cases hk; rw [hl]; exact e2
      · rw [e1] at hk; cases hk
    · obtain ⟨hkl, hk2⟩ := other ne hk
      obtain ⟨ws, b1, b2, b3⟩ := o.dc k t2 kvs2 hk2
      rw [hl]
      exact ⟨ws, by rw [upd_ne (off hkl ne)]; exact b1, b2.mono s, b3⟩
  · by_cases ne : k = n
    · subst ne
      rw [at_n] at hk
      rcases hc with ⟨t', kvs', e1, e2⟩ | ⟨e1, o', u', rfl⟩
      · rw [e1] at hk; cases hk
      · exact ⟨o', u', upd_same⟩
    · obtain ⟨hkl, hk2⟩ := other ne hk
      obtain ⟨ob, u2, b1⟩ := o.hd k hk2
      exact ⟨ob, u2, by rw [upd_ne (off hkl ne)]; exact b1⟩
theorem dput_at (o : Ok K μ st H) (h : st[n]? = some (.dct t kvs)) {k v : PV} {k' v' : V} {q : List Key} (rk : RV K μ st.length H k k') (hk : keyD t k = some q) (rv : RV K μ st.length H v v') (hf : v.isFl = false) (hl : kvs.length < sizeLine) :
    ∃ ws' : List V, DPut H (μ n) k' v' (upd H (μ n) (dHO t ((dPut kvs q v).map Prod.fst) ws')) ∧ RVs K μ st.length H ((dPut kvs q v).map Prod.snd) ws' ∧ (t = false → ∀ kv ∈ dPut kvs q v, ∃ k, kv.1 = [k]) := by
  obtain ⟨ws, a1, a2, a3⟩ := o.dc n t kvs h
  obtain ⟨ws', p1, p2⟩ := put_rel (q := q) a2 rv hf
  have zl : ((kvs.map Prod.fst).zip ws).length < sizeLine := by
    rw [List.length_zip, List.length_map]
    omega
  refine ⟨ws', ?_, p2, fun ht => ?_⟩
  · rcases key_at rk hk with ⟨rfl, k, rfl, rfl⟩ | ⟨rfl, b, rfl, hb⟩
    · refine .inl ⟨_, k, a1, rfl, by rw [List.length_map]; exact zl, ?_⟩
      rw [putK_one k v' (zip_one (a3 rfl)), p1]
      rfl
    · refine .inr ⟨_, q, b, a1, rfl, hb, zl, ?_⟩
      rw [p1]
      rfl
  · subst ht
    rcases key_at rk hk with ⟨_, k, rfl, rfl⟩ | ⟨z, _⟩
    · exact put_one (a3 rfl)
    · cases z
theorem dput_ok (o : Ok K μ st H) (h : st[n]? = some (.dct t kvs)) {k v : PV} {k' v' : V} {q : List Key} (rk : RV K μ st.length H k k') (hk : keyD t k = some q) (rv : RV K μ st.length H v v') (hf : v.isFl = false) (hl : kvs.length < sizeLine) :
    ∃ H', DPut H (μ n) k' v' H' ∧ Stp μ st.length H μ (st.set n (.dct t (dPut kvs q v))).length H' ∧ Ok K μ (st.set n (.dct t (dPut kvs q v))) H' := by
  obtain ⟨ws', p1, p2, p3⟩ := dput_at o h rk hk rv hf hl
  have s : Stp μ st.length H μ st.length (upd H (μ n) (dHO t ((dPut kvs q v).map Prod.fst) ws')) := Stp.dput o h
  refine ⟨_, p1, by rw [List.length_set]; exact s, o.dput h (.inl ⟨t, _, rfl, ws', upd_same, p2.mono s, p3⟩)⟩
/-- a dict's object becomes a place of the store -/
theorem Ok.grow1 (o2 : Ok K μ st H) {p : Addr} (ap : ∀ n, n < st.length → μ n ≠ p) {t : Bool} {kvs : List (List Key × PV)} {ws : List V} (hp : H p = some (dHO t (kvs.map Prod.fst) ws)) (r : RVs K μ st.length H (kvs.map Prod.snd) ws) (h1 : t = false → ∀ kv ∈ kvs, ∃ k, kv.1 = [k]) :
    Ok K (fun k => if k = st.length then p else μ k) (st ++ [.dct t kvs]) H := by
  have el : (st ++ [Cell.dct t kvs]).length = st.length + 1 := by simp
  have old : ∀ {k : Nat} {x : Cell}, (∀ t' kvs', x ≠ .dct t' kvs') → (st ++ [Cell.dct t kvs])[k]? = some x → k ≠ st.length ∧ st[k]? = some x := fun {k x} hx hk => by
    have h1 : k ≠ st.length := fun h1 => by subst h1; simp at hk; exact hx _ _ hk.symm
    refine ⟨h1, ?_⟩
    by_cases h2 : k < st.length
    · rw [List.getElem?_append_left h2] at hk; exact hk
    · rw [List.getElem?_eq_none (by simp; omega)] at hk; cases hk
  refine ⟨fun k m hk hm e => ?_, fun k zs hk => ?_, fun k c fs hk => ?_, fun k P q hk => ?_, fun k t2 kvs2 hk => ?_, fun k hk => ?_⟩
  · rw [el] at hk hm
    have e : (if k = st.length then p else μ k) = (if m = st.length then p else μ m) := e
    by_cases h1 : k = st.length
    · by_cases h2 : m = st.length
      · omega
      · rw [if_pos h1, if_neg h2] at e
        exact absurd e.symm (ap m (by omega))
    · by_cases h2 : m = st.length
      · rw [if_neg h1, if_pos h2] at e
        exact absurd e (ap k (by omega))
      · rw [if_neg h1, if_neg h2] at e
        exact o2.inj k m (by omega) (by omega) e
  · obtain ⟨h1, h2⟩ := old (by intro _ _ z; cases z) hk
    obtain ⟨vs, b1, b2⟩ := o2.cell k zs h2
    rw [el]
    exact ⟨vs, by simpa [h1] using b1, RVs.grow b2 p⟩
  · obtain ⟨h1, h2⟩ := old (by intro _ _ z; cases z) hk
    obtain ⟨C, dx, gs, b1, b2, b3, b4⟩ := o2.ob k c fs h2
    rw [el]
    exact ⟨C, dx, gs, b1, by simpa [h1] using b2, b3, RVs.grow b4 p⟩
  · obtain ⟨h1, h2⟩ := old (by intro _ _ z; cases z) hk
    obtain ⟨e1, tt⟩ := o2.tb k P q h2
    exact ⟨by simpa [h1] using e1, tt⟩
  · by_cases h1 : k = st.length
    · subst h1
      have e : t = t2 ∧ kvs = kvs2 := by simpa using hk
      obtain ⟨rfl, rfl⟩ := e
      rw [el]
      exact ⟨ws, by simpa using hp, RVs.grow r p, by assumption⟩
    · have h2 : st[k]? = some (.dct t2 kvs2) := by
        by_cases h2 : k < st.length
        · rw [List.getElem?_append_left h2] at hk; exact hk
        · rw [List.getElem?_eq_none (by simp; omega)] at hk; cases hk
      obtain ⟨ws2, b1, b2, b3⟩ := o2.dc k t2 kvs2 h2
      rw [el]
      exact ⟨ws2, by simpa [h1] using b1, RVs.grow b2 p, b3⟩
  · obtain ⟨h1, h2⟩ := old (by intro _ _ z; cases z) hk
    obtain ⟨ob, u2, b1⟩ := o2.hd k h2
    exact ⟨ob, u2, by simpa [h1] using b1⟩
/-- a new dict -/
theorem dnew_ok (o : Ok K μ st H) {p : Addr} (hp : H p = none) {t : Bool} {kvs : List (List Key × PV)} {ws : List V} (r : RVs K μ st.length H (kvs.map Prod.snd) ws) (h1 : t = false → ∀ kv ∈ kvs, ∃ k, kv.1 = [k]) :
    ∃ μ', μ' st.length = p ∧ Stp μ st.length H μ' (st ++ [Cell.dct t kvs]).length (upd H p (dHO t (kvs.map Prod.fst) ws)) ∧ Ok K μ' (st ++ [.dct t kvs]) (upd H p (dHO t (kvs.map Prod.fst) ws)) := by
  have el : (st ++ [Cell.dct t kvs]).length = st.length + 1 := by simp
  have s0 : Stp μ st.length H μ st.length (upd H p (dHO t (kvs.map Prod.fst) ws)) := Stp.laid hp
  refine ⟨fun k => if k = st.length then p else μ k, if_pos rfl, ?_, (o.laid hp).grow1 (o.apart hp) upd_same (r.mono s0) h1⟩
  rw [el]
  refine ⟨by omega, fun k hk => if_neg (by omega), s0.keep, s0.tup, s0.frz, s0.there, fun k h1 h2 => ?_, s0.cod⟩
  have : k = st.length := by omega
  show H (if k = st.length then p else μ k) = none
  rw [if_pos this]; exact hp
/-! ### an object that no value names changes -/
def Quiet : HO → Prop
  | .dK _ => True
  | .dT _ => True
  | .frz _ (.dK _) => True
  | .frz _ (.dT _) => True
  | _ => False
variable {a : Addr} {u u' : HO}
theorem sqT_move (ha : H a = some u) (qu : Quiet u) {b : Addr} {vs : List V} (h : SqT K H b vs) : SqT K (upd H a u') b vs := by
  rcases h with (h | ⟨o, h⟩) | h
  · exact .inl (.inl (by rw [upd_ne (fun z => by rw [z, ha] at h; cases h; exact qu)]; exact h))
  · exact .inl (.inr ⟨o, by rw [upd_ne (fun z => by rw [z, ha] at h; cases h; exact qu)]; exact h⟩)
  · exact .inr h
theorem kl_move (ha : H a = some u) (qu : Quiet u) {b : Addr} {vs : List V} (h : Kl K H b vs) : Kl K (upd H a u') b vs := by
  rcases h with ⟨o, h⟩ | h
  · exact .inl ⟨o, by rw [upd_ne (fun z => by rw [z, ha] at h; cases h; exact qu)]; exact h⟩
  · exact .inr h
theorem code_move (ha : H a = some u) (qu : Quiet u) {c : Addr} {q : Str} (h : H c = some (LamX.CodeO c q)) : upd H a u' c = some (LamX.CodeO c q) := by
  obtain ⟨p, hp⟩ := code_ext c q
  rw [upd_ne (fun z => by rw [z, ha] at h; rw [← z, hp] at h; cases h; exact qu)]; exact h
mutual
theorem RV.move (ha : H a = some u) (qu : Quiet u) : ∀ {x : PV} {v : V}, RV K μ L H x v → RV K μ L (upd H a u') x v
  | _, _, .non => .non
  | _, _, .bl b => .bl b
  | _, _, .int i => .int i
  | _, _, .str z => .str z
  | _, _, .tup h r k => .tup (sqT_move ha qu h) (RVs.move ha qu r) (k.imp (fun h => by rw [upd_ne (fun z => by rw [z, ha] at h; cases h; exact qu)]; exact h) fun z => z)
  | _, _, .loc h => .loc h
  | _, _, .fl h n r => .fl (by rw [upd_ne (fun z => by rw [z, ha] at h; cases h; exact qu)]; exact h) n (RVs.move ha qu r)
  | _, _, .rol h r => .rol (kl_move ha qu h) (RVs.move ha qu r)
  | _, _, .fnv h => .fnv (code_move ha qu h)
theorem RVs.move (ha : H a = some u) (qu : Quiet u) : ∀ {xs : List PV} {vs : List V}, RVs K μ L H xs vs → RVs K μ L (upd H a u') xs vs
  | _, _, .nil => .nil
  | _, _, .cons f h r => .cons f (RV.move ha qu h) (RVs.move ha qu r)
end
theorem tab_move (ha : H a = some u) (qu : Quiet u) {P : Addr} {q : Str} (t : LamX.TabS H P q) : LamX.TabS (upd H a u') P q :=
  tab_of t (fun ps h1 => by rw [upd_ne (fun z => by rw [z, ha] at h1; cases h1; exact qu)]; exact h1) fun c h1 => code_move ha qu h1
/-- .. beside the store -/
theorem Ok.beside (o : Ok K μ st H) (ap : ∀ n, n < st.length → μ n ≠ a) (ha : H a = some u) (qu : Quiet u) : Ok K μ st (upd H a u') :=
  ⟨o.inj, fun n xs h => by
    obtain ⟨vs, h1, h2⟩ := o.cell n xs h
    exact ⟨vs, by rw [upd_ne (ap n (List.getElem?_eq_some_iff.mp h).1)]; exact h1, h2.move ha qu⟩, fun n c fs h => by
    obtain ⟨C, dx, gs, a1, a2, a3, a4⟩ := o.ob n c fs h
    exact ⟨C, dx, gs, a1, by rw [upd_ne (ap n (List.getElem?_eq_some_iff.mp h).1)]; exact a2, a3, a4.move ha qu⟩, fun n P q h => by
    obtain ⟨e1, t⟩ := o.tb n P q h
    exact ⟨e1, tab_move ha qu t⟩, fun n t kvs h => by
    obtain ⟨ws, a1, a2, a3⟩ := o.dc n t kvs h
    exact ⟨ws, by rw [upd_ne (ap n (List.getElem?_eq_some_iff.mp h).1)]; exact a1, a2.move ha qu, a3⟩, fun n h => by
    obtain ⟨ob, u, a1⟩ := o.hd n h
    exact ⟨ob, u, by rw [upd_ne (ap n (List.getElem?_eq_some_iff.mp h).1)]; exact a1⟩⟩
/-- a hidden dict comes back -/
theorem Ok.unhide (o : Ok K μ st H) (h : st[n]? = some .hid) (ha : H (μ n) = some u) (qu : Quiet u) {t : Bool} {kvs : List (List Key × PV)} (dd : DctAt K μ st.length (upd H (μ n) u') (μ n) t kvs) : Ok K μ (st.set n (.dct t kvs)) (upd H (μ n) u') := by
  have hn : n < st.length := (List.getElem?_eq_some_iff.mp h).1
  have hl : (st.set n (Cell.dct t kvs)).length = st.length := by simp
  have at_n : (st.set n (Cell.dct t kvs))[n]? = some (.dct t kvs) := by simp [hn]
  have other : ∀ {k : Nat} {x : Cell}, k ≠ n → (st.set n (Cell.dct t kvs))[k]? = some x → k < st.length ∧ st[k]? = some x := fun {k x} ne hk => by
    rw [List.getElem?_set_ne (Ne.symm ne)] at hk
    exact ⟨(List.getElem?_eq_some_iff.mp hk).1, hk⟩
  have off : ∀ {k : Nat}, k < st.length → k ≠ n → μ k ≠ μ n := fun hk ne z => ne (o.inj _ n hk hn z)
  have isn : ∀ {k : Nat} {x : Cell}, (∀ t' kvs', x ≠ .dct t' kvs') → (st.set n (Cell.dct t kvs))[k]? = some x → k ≠ n := fun {k x} h1 hk e => by
    subst e
    rw [at_n] at hk
    cases hk
    exact h1 _ _ rfl
  refine ⟨fun a b ha hb e => o.inj a b (by omega) (by omega) e, fun k zs hk => ?_, fun k c2 fs hk => ?_, fun k P q hk => ?_, fun k t2 kvs2 hk => ?_, fun k hk => ?_⟩
  · have ne := isn (by intro _ _ z; cases z) hk
    obtain ⟨hkl, hk2⟩ := other ne hk
    obtain ⟨vs, b1, b2⟩ := o.cell k zs hk2
    rw [hl]
    exact ⟨vs, by rw [upd_ne (off hkl ne)]; exact b1, b2.move ha qu⟩
  · have ne := isn (by intro _ _ z; cases z) hk
    obtain ⟨hkl, hk2⟩ := other ne hk
    obtain ⟨C, dx, gs, b1, b2, b3, b4⟩ := o.ob k c2 fs hk2
    rw [hl]
    exact ⟨C, dx, gs, b1, by rw [upd_ne (off hkl ne)]; exact b2, b3, b4.move ha qu⟩
  · have ne := isn (by intro _ _ z; cases z) hk
    obtain ⟨hkl, hk2⟩ := other ne hk
    obtain ⟨e1, tt⟩ := o.tb k P q hk2
    exact ⟨e1, tab_move ha qu tt⟩
  · by_cases ne : k = n
    · subst ne
      rw [at_n] at hk
      cases hk
      rw [hl]; exact dd
    · obtain ⟨hkl, hk2⟩ := other ne hk
      obtain ⟨ws, b1, b2, b3⟩ := o.dc k t2 kvs2 hk2
      rw [hl]
      exact ⟨ws, by rw [upd_ne (off hkl ne)]; exact b1, b2.move ha qu, b3⟩
  · have ne := isn (by intro _ _ z; cases z) hk
    obtain ⟨hkl, hk2⟩ := other ne hk
    obtain ⟨ob, u2, b1⟩ := o.hd k hk2
    exact ⟨ob, u2, by rw [upd_ne (off hkl ne)]; exact b1⟩
/-- what was laid or locked for a while, all in all -/
theorem stp_back {μ0 : Nat → Addr} {L0 : Nat} {H0 : Hp} {w : HO} (s : Stp μ0 L0 (upd H0 a w) μ1 L1 H1) (h0 : (H0 a = none ∧ ∀ n, n < L0 → μ0 n ≠ a) ∨ (∃ n, n < L0 ∧ μ0 n = a ∧ ∃ t ks ws, H0 a = some (dHO t ks ws))) : Stp μ0 L0 H0 μ1 L1 (upd H1 a u') := by
  have ne : ∀ {b o}, H0 b = some o → (∀ t ks ws, o ≠ dHO t ks ws) → b ≠ a := fun {b o} hb hd e => by
    subst e
    rcases h0 with ⟨h0, _⟩ | ⟨_, _, _, t, ks, ws, h0⟩
    · rw [h0] at hb; cases hb
    · rw [h0] at hb; cases hb; exact hd _ _ _ rfl
  refine ⟨s.le, s.ext, fun b o hb k hS => ?_, fun b xs hb => ?_, fun b o z hb => ?_, fun b hb => ?_, fun k h1 h2 => ?_, fun b p hb => ?_⟩
  · have nb : b ≠ a := fun e => by
      subst e
      rcases h0 with ⟨h0, _⟩ | ⟨n, hn, e, _⟩
      · rw [h0] at hb; cases hb
      · exact k n hn e
    rw [upd_ne nb]
    exact s.keep b o (by rw [upd_ne nb]; exact hb) k hS
  · have nb := ne hb fun t ks ws e => dHO_ne_tup e.symm
    rw [upd_ne nb]
    exact s.tup b xs (by rw [upd_ne nb]; exact hb)
  · have nb := ne hb fun t ks ws e => dHO_ne_frz e.symm
    rw [upd_ne nb]
    exact s.frz b o z (by rw [upd_ne nb]; exact hb)
  · have nb : b ≠ a := fun e => by rw [e, upd_same] at hb; cases hb
    rw [upd_ne nb] at hb
    have := s.there b hb
    rw [upd_ne nb] at this
    exact this
  · have := s.new k h1 h2
    by_cases e : μ1 k = a
    · rw [e, upd_same] at this; cases this
    · rw [upd_ne e] at this; exact this
  · have nb := ne hb fun t ks ws e => dHO_ne_ext e.symm
    rw [upd_ne nb]
    exact s.cod b p (by rw [upd_ne nb]; exact hb)
end
end U

set_option maxHeartbeats 4000000
/-! U9e: expressions over dicts. -/
namespace U
open PySem PySem.Spec PyProof.Rows L2
theorem dctOf_at {d : PV} {st : Store} {t : Bool} {kvs : List (List Key × PV)} (h : dctOf d st = some (t, kvs)) : ∃ n, d = .loc n ∧ st[n]? = some (.dct t kvs) := by
  unfold dctOf at h
  split at h
  · split at h
    · rename_i q
      cases h
      exact ⟨_, rfl, q⟩
    · cases h
  · cases h
theorem kVs_inj : ∀ {x y : List Key}, x.map kV = y.map kV → x = y
  | [], [], _ => rfl
  | [], _ :: _, h => by cases h
  | _ :: _, [], h => by cases h
  | a :: x, b :: y, h => by
    rw [List.map_cons, List.map_cons] at h
    injection h with h1 h2
    rw [kVs_inj h2]
    have : a = b := by cases a <;> cases b <;> first | (cases h1; rfl) | cases h1
    rw [this]
section
variable {X : Cx} {e : Expr} {call : Nat → List PV → Store → Res PV} {m : ME}
/-! ### {} -/
theorem se_dnew {t : Bool} {pos : Pos} : SE X call (.dnew t) (.Dict [] [] pos) := by
  have one : PE X (.Dict [] [] pos) (rd X.K fun _ st => Res.ok (.loc st.length) (st ++ [.dct t []])) := by
    have fin : ∀ σ H (Q : VK), rd X.K (fun _ st => Res.ok (PV.loc st.length) (st ++ [Cell.dct t []])) σ H Q → ∀ p, H p = none → Q (.ref p) (upd H p (dHO t [] [])) := fun σ H Q ⟨μ, env, st, v, st', o, r, h, g⟩ p hp => by
      cases h
      obtain ⟨μ', e1, s1, o1⟩ := dnew_ok (ws := []) (kvs := []) (t := t) o hp .nil (fun _ _ h => by cases h)
      have rl : RV X.K μ' (st ++ [Cell.dct t []]).length (upd H p (dHO t [] [])) (.loc st.length) (.ref (μ' st.length)) := .loc (by simp)
      rw [e1] at rl
      exact g μ' _ _ s1 o1 rl trivial
    cases t with
    | true => exact pe_dnewT.imp fun σ H Q q => fin σ H Q q
    | false => exact pe_dnewK.imp fun σ H Q q => fin σ H Q q
  exact .plain _ one (fun md env st => rfl) fun _ => rfl
/-! ### {k: v}, the key a tuple -/
def tDisp1 (tk tv : TE) : TE := fun σ H Q => ∀ p, H p = none → tk σ (upd H p (.dT [])) fun x H1 => tv σ H1 fun y H2 => H2 p = some (.dT []) ∧ ∃ (k : List Key) (b : Addr), x = .ref b ∧ H2 b = some (.tup (k.map kV)) ∧ Q (.ref p) (upd H2 p (.dT [(k, y)]))
theorem pe_disp1 {k v : Expr} {tk tv : TE} {pos : Pos} (hu : X.A.units + 1 < cLine) (hk : PE X k tk) (hv : PE X v tv) : PE X (.Dict [some k] [v] pos) (tDisp1 tk tv) := by
  refine ⟨fun pins s σ H Q I q => ?_⟩
  have hn := I.hok.fresh (Nat.le_refl s.heap.objs.size)
  have I1 := I.laid (a := s.heap.objs.size) (o := .dT []) (h' := s.heap.push { cls := .type "dict", data := .dict #[] }) (t' := s.toks) (fun _ _ q => Heap.get?_push_of_some _ q) (Nat.le_refl _) (dt_empty s.heap I.big)
  rw [arm_eval_Dict, zip_pairTrees [some k] [v] X.env pos rfl rfl, dictDisplay_pairs _ (fun z => by have := congrArg List.length z; rw [pairTrees_length [some k] [v] X.env pos rfl rfl] at this; cases this) (by rw [pairTrees_length [some k] [v] X.env pos rfl rfl]; exact Nat.le_of_ble_eq_true rfl)]
  refine wpAny_bind (wpAny_standAt (wpAny_bind (wpAny_subDictH (knd := tupleKind (mixKind X.prog X.w)) (Q := fun d s' => wpAny (model X.prog X.w) X.A (pure (Value.ref d)) (EP X pins σ Q) X.xe s') (show X.A.units < cLine by omega) (by rw [pairTrees_length [some k] [v] X.env pos rfl rfl]; exact Nat.le_of_ble_eq_true rfl) ?_)))
  refine pairTrees_cons_walk (thn (hk.run pins _ σ _ _ I1 (q _ hn)) fun u s1 ⟨x, H1, I2, rx, q1⟩ => thn (hv.run pins s1 σ H1 _ I2 q1) fun w2 s2 ⟨y, H2, I3, ry, e, ks, b, ex, eb, q2⟩ => pairTrees_nil_walk ?_)
  subst ex
  obtain rfl : u = Value.ref b := rx
  obtain ⟨z, hd, xs, rel, dd⟩ := dt_of I3.hok e
  cases rel
  refine ⟨[(ks, b, w2)], ⟨rfl, rfl, key_of I3.hok eb, trivial⟩, dd, fun h' tk dk hs => wpAny_pure ?_⟩
  obtain ⟨q3, es, ep, hq, h2, h3, h4, _, h5⟩ := dk
  refine ⟨.ref s.heap.objs.size, _, ?_, rfl, q2⟩
  refine d_write I3 (by rw [e]; exact True.intro) hs ⟨q3, hq⟩ ⟨by show 1 ≤ sizeLine; decide, hd, [(ks, b, w2)], .cons ⟨rfl, ?_, ry⟩ .nil, q3, es, ep, hq, h2, h3, h4, h5⟩
  rw [upd_ne (ne_of eb e (fun z => nomatch z))]
  exact eb
theorem keyT_at {K : PySem.W.Frag} {μ : Nat → Addr} {L : Nat} {H : Hp} {x : PV} {v : V} {q : List Key} (r : RV K μ L H x v) (h : keyD true x = some q) : ∃ b, v = .ref b ∧ H b = some (.tup (q.map kV)) := by
  rcases key_at r h with ⟨z, _⟩ | ⟨_, q⟩
  · cases z
  · exact q
theorem se_dsp (hu : X.A.units + 1 < cLine) {k v : ME} {x y : Expr} {pos : Pos} (hk : SE X call k x) (hv : SE X call v y) : SE X call (.dsp k v) (.Dict [some x] [y] pos) := by
  refine .plain (fun env st => (ev call k .val env st).bind fun x st1 => (ev call v .val env st1).bind fun y st2 => (opt (keyD true x) st2).bind fun q st3 => if y.isFl then .bad else .ok (.loc st3.length) (st3 ++ [.dct true [(q, y)]]))
    ((pe_disp1 hu hk.val hv.val).imp fun σ H Q ⟨μ, env, st, w, st', o, r, h, g⟩ p hp => ?_) (fun md env st => ?_) fun _ => rfl
  · obtain ⟨x1, st1, h1, h2⟩ := bind_ok h
    obtain ⟨y1, st2, h3, h4⟩ := bind_ok h2
    obtain ⟨q, st3, h50, h6⟩ := bind_ok h4
    obtain ⟨h5, rfl⟩ := opt_ok h50
    split at h6
    · cases h6
    rename_i hf
    have hf : y1.isFl = false := by simpa using hf
    cases h6
    -- the new dict stands beside the store while the pair is made
    have l0 := Stp.laid (μ := μ) (L := st.length) (u := HO.dT []) hp
    refine ⟨μ, env, st, x1, st1, o.laid hp, r.mono l0, h1, fun μ1 H1 x' s1 o1 r1 f1 => ?_⟩
    refine ⟨μ1, env, st1, y1, _, o1, (r.mono l0).mono s1, h3, fun μ2 H2 y' s2 o2 r2 f2 => ?_⟩
    have ap := o.apart hp
    have e2 : H2 p = some (.dT []) := by
      have a1 : H1 p = some (.dT []) := s1.keep p _ upd_same ap fun z => z
      refine s2.keep p _ a1 (fun n hn z => ?_) fun z => z
      by_cases hl : n < st.length
      · exact ap n hl ((s1.ext n hl).symm.trans z)
      · have := s1.new n (by omega) hn
        rw [z, upd_same] at this; cases this
    obtain ⟨b, ex, eb⟩ := keyT_at (r1.mono0 s2) h5
    refine ⟨e2, q, b, ex, eb, ?_⟩
    have ap2 : ∀ n, n < st2.length → μ2 n ≠ p := fun n hn z => by
      have sw := Stp.trans s1 s2
      by_cases hl : n < st.length
      · exact ap n hl ((sw.ext n hl).symm.trans z)
      · have := sw.new n (by omega) hn
        rw [z, upd_same] at this; cases this
    have sb : Stp μ st.length H μ2 st2.length (upd H2 p (.dT [(q, y')])) := stp_back (Stp.trans s1 s2) (.inl ⟨hp, ap⟩)
    have ob := o2.beside (u' := .dT [(q, y')]) ap2 e2 trivial
    have og := ob.grow1 (t := true) (kvs := [(q, y1)]) (ws := [y']) ap2 upd_same (.cons hf (r2.move e2 trivial) .nil) (fun z => by cases z)
    have el : (st2 ++ [Cell.dct true [(q, y1)]]).length = st2.length + 1 := by simp
    have rl : RV X.K (fun k => if k = st2.length then p else μ2 k) (st2 ++ [Cell.dct true [(q, y1)]]).length (upd H2 p (.dT [(q, y')])) (.loc st2.length) (.ref ((fun k => if k = st2.length then p else μ2 k) st2.length)) := .loc (by simp)
    simp only [if_true] at rl
    refine g _ _ _ ?_ og rl trivial
    rw [el]
    refine ⟨by have := sb.le; omega, fun k hk => by
      show (if k = st2.length then p else μ2 k) = μ k
      rw [if_neg (by have := sb.le; omega)]; exact sb.ext k hk, sb.keep, sb.tup, sb.frz, sb.there, fun k h1 h2 => ?_, sb.cod⟩
    show H (if k = st2.length then p else μ2 k) = none
    by_cases e : k = st2.length
    · rw [if_pos e]; exact hp
    · rw [if_neg e]; exact sb.new k h1 (by omega)
  · simp only [ev, bind_assoc]
    congr 1
    funext x1 s1
    congr 1
    funext y1 s2
    congr 1
    funext q s3
    split <;> rfl
/-! ### k in d -/
theorem dhas_imp {d k : ME} {neg : Bool} (σ : L2.St) (H : Hp) (Q : Bool → Hp → Prop)
    (q : ∃ μ env st b st', Ok X.K μ st H ∧ RE X.K μ st.length H env σ ∧ ((ev call k .use env st).bind fun x st1 => (ev call d .use env st1).bind fun y st2 => (opt (dhasV y x st2) st2).bind fun b st3 => Res.ok (PV.bl (if neg then !b else b)) st3) = Res.ok (PV.bl b) st' ∧
      ∀ μ' H', Stp μ st.length H μ' st'.length H' → Ok X.K μ' st' H' → Q b H') :
    rdU X.K (ev call k .use) σ H fun y H1 => rdU X.K (ev call d .use) σ H1 fun x H2 => ∃ a o, x = .ref a ∧ DGet H2 a y o ∧ ∃ c, (V.bl (if neg then !o.isSome else o.isSome)) = .bl c ∧ Q c H2 := by
  obtain ⟨μ, env, st, b, st', o, r, h, g⟩ := q
  obtain ⟨x1, st1, h1, h2⟩ := bind_ok h
  obtain ⟨y1, st2, h3, h4⟩ := bind_ok h2
  obtain ⟨k1, st3, h50, h6⟩ := bind_ok h4
  obtain ⟨h5, rfl⟩ := opt_ok h50
  cases h6
  refine ⟨μ, env, st, x1, st1, o, r, h1, fun μ1 H1 x' s1 o1 r1 => ⟨μ1, env, st1, y1, _, o1, r.mono s1, h3, fun μ2 H2 y' s2 o2 r2 => ?_⟩⟩
  unfold dhasV at h5
  split at h5
  · rename_i t kvs hd
    obtain ⟨n, rfl, hn⟩ := dctOf_at hd
    obtain ⟨q, hq, rfl⟩ := Option.map_eq_some_iff.mp h5
    cases r2
    rcases dget_at o2 hn (r1.mono0 s2) hq with ⟨e, q1⟩ | ⟨v, v', e, q1, q2, q3⟩
    · refine ⟨_, _, rfl, q1, _, rfl, ?_⟩
      rw [e] at g
      exact g μ2 H2 (Stp.trans s1 s2) o2
    · refine ⟨_, _, rfl, q1, _, rfl, ?_⟩
      rw [e] at g
      exact g μ2 H2 (Stp.trans s1 s2) o2
  · cases h5
theorem dhas_bl {d k : ME} {neg : Bool} (env : En) (st : Store) (v : PV) (st' : Store) (h : ((ev call k .use env st).bind fun x st1 => (ev call d .use env st1).bind fun y st2 => (opt (dhasV y x st2) st2).bind fun b st3 => Res.ok (PV.bl (if neg then !b else b)) st3) = Res.ok v st') : ∃ b, v = PV.bl b := by
  obtain ⟨x1, st1, h1, h2⟩ := bind_ok h
  obtain ⟨y1, st2, h3, h4⟩ := bind_ok h2
  obtain ⟨k1, st3, h5, h6⟩ := bind_ok h4
  cases h6
  exact ⟨_, rfl⟩
theorem se_dhas (hu : X.A.units + 1 < cLine) {neg : Bool} {d k : ME} {x y : Expr} {op : CmpOp} {pos : Pos} (ho : op = if neg then .NotIn else .In) (hk : SE X call k x) (hd : SE X call d y) (hm : behindInMarks op y = false) : SE X call (.dhas neg k d) (.Compare x [op] [y] pos) := by
  have pc : PC X op x y fun σ H Q => rdU X.K (ev call k .use) σ H fun y H1 => rdU X.K (ev call d .use) σ H1 fun x H2 => ∃ a o, x = .ref a ∧ DGet H2 a y o ∧ Q (.bl (if neg then !o.isSome else o.isSome)) H2 := by
    subst ho
    cases neg with
    | true => exact pc_dnotin hu hk.use hd.use
    | false => exact pc_din hu hk.use hd.use
  refine .bool ?_ (fun env st => by rw [ev, ev]) ?_
  · refine (pe_cmp pc hm).imp fun σ H Q ⟨μ, env, st, v, st', o, r, h, g⟩ => ?_
    rw [ev] at h
    obtain ⟨b, rfl⟩ := dhas_bl env st v st' h
    have q := dhas_imp (neg := neg) σ H (fun b H' => Q (.bl b) H') ⟨μ, env, st, b, st', o, r, h, fun μ' H' s o' => g μ' H' _ s o' (.bl b) trivial⟩
    exact rdU_mono σ H _ _ (fun x' H1 q1 => rdU_mono σ H1 _ _ (fun y' H2 ⟨a, o, e1, e2, c, e3, e4⟩ => ⟨a, o, e1, e2, by rw [e3]; exact e4⟩) q1) q
  · refine (pt_cmp pc hm).imp fun σ H Q ⟨μ, env, st, k, st', o, r, h, g⟩ => ?_
    rw [ev] at h
    exact dhas_imp σ H Q ⟨μ, env, st, k, st', o, r, h, g⟩
/-! ### d[k], d.get(k, x), d.setdefault(k, x), len(d) -/
theorem se_dget (hu : X.A.units + 1 < cLine) {d k : ME} {x y : Expr} {pos : Pos} (hd : SE X call d x) (hk : SE X call k y) (hs : NoSl y) : SE X call (.dget d k) (.Subscript x y pos) := by
  refine .plain (fun env st => (ev call d .use env st).bind fun x st1 => (ev call k .val env st1).bind fun y st2 => opt (dgetV x y st2) st2) ((pe_dget hu hd.use hk.val hs).imp fun σ H Q ⟨μ, env, st, v, st', o, r, h, g⟩ => ?_) (fun md env st => by simp only [ev, bind_assoc]) fun _ => rfl
  obtain ⟨x1, st1, h1, h2⟩ := bind_ok h
  obtain ⟨y1, st2, h3, h4⟩ := bind_ok h2
  obtain ⟨h5, rfl⟩ := opt_ok h4
  refine ⟨μ, env, st, x1, st1, o, r, h1, fun μ1 H1 x' s1 o1 r1 => ⟨μ1, env, st1, y1, _, o1, r.mono s1, h3, fun μ2 H2 y' s2 o2 r2 f2 => ?_⟩⟩
  unfold dgetV at h5
  split at h5
  · rename_i t kvs hdd
    split at h5
    · rename_i q hq
      obtain ⟨n, rfl, hn⟩ := dctOf_at hdd
      have r1 := r1.mono0 s2
      cases r1
      rcases dget_at o2 hn r2 hq with ⟨e, q1⟩ | ⟨w, w', e, q1, q2, q3⟩
      · rw [e] at h5; cases h5
      · rw [e] at h5; cases h5
        exact ⟨_, w', rfl, q1, g μ2 H2 w' (Stp.trans s1 s2) o2 q2 (fr_of q3)⟩
    · cases h5
  · cases h5
theorem recvD_at {K : PySem.W.Frag} {μ : Nat → Addr} {st : Store} {H : Hp} {x y : PV} {v : V} (o : Ok K μ st H) (h : recvD x st = some y) (r : RV K μ st.length H x v) : y = x ∧ ∃ n, x = .loc n ∧ n < st.length ∧ v = .ref (μ n) ∧ IsD H (μ n) := by
  unfold recvD at h
  split at h
  · rename_i p q
    cases h
    obtain ⟨n, e, hn⟩ := dctOf_at q
    subst e
    cases r with
    | loc hl =>
      obtain ⟨ws, a1, _⟩ := o.dc n _ _ hn
      exact ⟨rfl, n, rfl, hl, rfl, dHO_isD a1⟩
  · cases h
theorem se_dgt2 (hu : X.A.units + 1 < cLine) {d k z : ME} {x y w : Expr} {apos cpos : Pos} (hd : SE X call d x) (hk : SE X call k y) (hz : SE X call z w) (m : M2 X x "get" apos y w cpos) : SE X call (.dgt2 d k z) (.Call (.Attribute x "get" apos) [y, w] [] cpos) := by
  refine .plain (fun env st => (ev call d .use env st).bind fun a0 st0 => (opt (recvD a0 st0) st0).bind fun a st1 => (ev call k .val env st1).bind fun y st2 => (ev call z .val env st2).bind fun z st3 => opt (dgt2V a y (esc z st3).1 (esc z st3).2) (esc z st3).2)
    ((pe_dget2 hu hd.use hk.val hz.val m).imp fun σ H Q ⟨μ, env, st, v, st', o, r, h, g⟩ => ?_) (fun md env st => by simp only [ev, bind_assoc]) fun _ => rfl
  obtain ⟨x0, st0, h1, h2⟩ := bind_ok h
  obtain ⟨x1, st1, hx0, h2⟩ := bind_ok h2
  obtain ⟨hx, rfl⟩ := opt_ok hx0
  obtain ⟨y1, st2, h3, h4⟩ := bind_ok h2
  obtain ⟨z1, st3, h5, h60⟩ := bind_ok h4
  obtain ⟨h6, rfl⟩ := opt_ok h60
  refine ⟨μ, env, st, x0, _, o, r, h1, fun μ1 H1 x' s1 o1 r1 => ?_⟩
  obtain ⟨rfl, n, rfl, hl, rfl, isd⟩ := recvD_at o1 hx r1
  refine ⟨_, rfl, isd, μ1, env, _, y1, st2, o1, r.mono s1, h3, fun μ2 H2 y' s2 o2 r2 f2 => ⟨μ2, env, st2, z1, st3, o2, (r.mono s1).mono s2, h5, fun μ3 H3 z' s3 o3 r3 f3 => ?_⟩⟩
  obtain ⟨μe, se, oe, re, fe, _⟩ := Ok.esc s3 o3 r3 f3
  have sw := Stp.trans s2 se
  have en : μe n = μ1 n := sw.ext n hl
  rw [← en]
  unfold dgt2V at h6
  split at h6
  · rename_i t kvs hdd
    split at h6
    · rename_i q hq
      cases h6
      obtain ⟨n2, e1, hn⟩ := dctOf_at hdd
      cases e1
      rcases dget_at oe hn (r2.mono0 se) hq with ⟨e, q1⟩ | ⟨w, w', e, q1, q2, q3⟩
      · refine ⟨_, q1, ?_⟩
        rw [e] at g
        exact g μe H3 z' (Stp.trans s1 sw) oe re (fr_of fe)
      · refine ⟨_, q1, ?_⟩
        rw [e] at g
        exact g μe H3 w' (Stp.trans s1 sw) oe q2 (fr_of q3)
    · cases h6
  · cases h6
/-- d.setdefault(y, z), d of either kind -/
def tSdf (td ty tx : TE) : TE := fun σ H Q => td σ H fun x H1 => ∃ a, x = .ref a ∧ IsD H1 a ∧ ty σ H1 fun y H2 => tx σ H2 fun z H3 =>
  (∃ (kvs : List (Key × V)) (k : Key), H3 a = some (.dK kvs) ∧ y = kV k ∧ kvs.length < sizeLine ∧ (∀ v, valV kvs k = some v → Q v H3) ∧ (valV kvs k = none → Q z (upd H3 a (.dK (putK kvs k z))))) ∨
  (∃ (kvs : List (List Key × V)) (k : List Key) (b : Addr), H3 a = some (.dT kvs) ∧ y = .ref b ∧ H3 b = some (.tup (k.map kV)) ∧ kvs.length < sizeLine ∧ (∀ v, valV kvs k = some v → Q v H3) ∧ (valV kvs k = none → Q z (upd H3 a (.dT (putK kvs k z)))))
theorem d_sdfT {pins : List (Addr × Obj)} {σ : L2.St} {H : Hp} {s : Shared} {a b : Addr} {r : Value} {d : V} {k : List Key} {A : Around} {E : Value → Shared → Prop} {kvs : List (List Key × V)} {Q : Value → Shared → Prop} (hu : A.units + 1 < cLine) (I : L2.Inv X pins σ H s) (e : H a = some (.dT kvs)) (eb : H b = some (.tup (k.map kV)))
    (rd : RelV d r) (hl : kvs.length < sizeLine) (h1 : ∀ v, valV kvs k = some v → ∀ (w' : Value) (s' : Shared), L2.Inv X pins σ H s' → RelV v w' → Q w' s')
    (h2 : valV kvs k = none → ∀ s' : Shared, L2.Inv X pins σ (upd H a (.dT (putK kvs k d))) s' → Q r s') : wpAny (model X.prog X.w) A (PySem.call (.builtin "dict.setdefault") [.ref a, .ref b, r]) Q E s := by
  obtain ⟨z, hd, xs, rel, dd⟩ := dt_of I.hok e
  have hz : xs.length ≤ sizeLine := by rw [← Paired.length rel]; exact z
  have hl2 : (putK kvs k d).length ≤ sizeLine := by have := length_putK kvs k d; omega
  have q := rel.val k
  refine call_setdefault_heap (hsz := hz) (knd := tupleKind (mixKind X.prog X.w)) (tupleKind_room_in1 hu) (key_of I.hok eb) hd dd (fun p hp => ?_) fun hn h' dd' hs => ?_
  · rw [hp] at q
    cases q0 : valV kvs k with
    | none => rw [q0] at q; exact (show False from q).elim
    | some v0 =>
      rw [q0] at q
      exact h1 v0 q0 _ _ (I.tok _) q
  · rw [hn] at q
    cases q0 : valV kvs k with
    | some v0 => rw [q0] at q; exact (show False from q).elim
    | none =>
      refine h2 q0 _ ?_
      obtain ⟨ob, es, ep, hq, g2, g3, g4, _, g5⟩ := dd'
      refine d_write I (by rw [e]; exact True.intro) hs ⟨ob, hq⟩ ⟨hl2, hd, _, (rel.put k eb rd).keeps fun c ys ec => ?_, ob, es, ep, hq, g2, g3, g4, g5⟩
      rw [upd_ne (ne_of ec e (fun z => nomatch z))]
      exact ec
theorem pe_sdf {o e f : Expr} {td ty tx : TE} {apos cpos : Pos} (hu : X.A.units + 1 < cLine) (ho : PE X o td) (he : PE X e ty) (hf : PE X f tx) (m : M2 X o "setdefault" apos e f cpos) : PE X (.Call (.Attribute o "setdefault" apos) [e, f] [] cpos) (tSdf td ty tx) := by
  refine ⟨fun pins s σ H Q I h => ?_⟩
  refine wpAny_Call_method m.base m.few m.line PySem.F.plainAttrs_dict PySem.F.slot_dict_setdefault PySem.F.type_dict_setdefault (thn (ho.run pins s σ H _ I h) fun u s1 ⟨x, H1, I1, rx, a, ex, d, q1⟩ => ?_)
  subst ex
  obtain rfl : u = Value.ref a := rx
  obtain ⟨t1, t2, _⟩ := isD_at I1 d
  refine ⟨t1, t2, ?_⟩
  rw [m.trees]
  refine Calls.callWith_builtin rfl (Calls.evalArgs_plain (Calls.spliced_cons (thn (he.run pins s1 σ H1 _ I1 q1) fun iv s2 ⟨y, H2, I2, ry, q2⟩ =>
    Calls.spliced_cons (thn (hf.run pins s2 σ H2 _ I2 q2) fun fv s3 ⟨z, H3, I3, rz, q3⟩ => Calls.spliced_nil ?_))))
  rcases q3 with ⟨kvs, k, ea, ey, hl, q3, q4⟩ | ⟨kvs, k, b, ea, ey, eb, hl, q3, q4⟩
  · subst ey
    exact d_setd I3 ea ry rz hl (fun v hv w' s4 I4 rw' => ⟨v, _, I4, rw', q3 v hv⟩) fun hn w' s4 I4 rw' => ⟨z, _, I4, rw', q4 hn⟩
  · subst ey
    obtain rfl : iv = Value.ref b := ry
    exact d_sdfT hu I3 ea eb rz hl (fun v hv w' s4 I4 rw' => ⟨v, _, I4, rw', q3 v hv⟩) fun hn s4 I4 => ⟨z, _, I4, rz, q4 hn⟩
theorem se_dsdf (hu : X.A.units + 1 < cLine) {d k z : ME} {x y w : Expr} {apos cpos : Pos} (hd : SE X call d x) (hk : SE X call k y) (hz : SE X call z w) (m : M2 X x "setdefault" apos y w cpos) : SE X call (.dsdf d k z) (.Call (.Attribute x "setdefault" apos) [y, w] [] cpos) := by
  refine .plain (fun env st => (ev call d .use env st).bind fun a0 st0 => (opt (recvD a0 st0) st0).bind fun a st1 => (ev call k .val env st1).bind fun y st2 => (ev call z .val env st2).bind fun z st3 => dsdfV a y (esc z st3).1 (esc z st3).2)
    ((pe_sdf hu hd.use hk.val hz.val m).imp fun σ H Q ⟨μ, env, st, v, st', o, r, h, g⟩ => ?_) (fun md env st => by simp only [ev, bind_assoc]) fun _ => rfl
  obtain ⟨x0, st0, h1, h2⟩ := bind_ok h
  obtain ⟨x1, st1, hx0, h2⟩ := bind_ok h2
  obtain ⟨hx, rfl⟩ := opt_ok hx0
  obtain ⟨y1, st2, h3, h4⟩ := bind_ok h2
  obtain ⟨z1, st3, h5, h6⟩ := bind_ok h4
  refine ⟨μ, env, st, x0, _, o, r, h1, fun μ1 H1 x' s1 o1 r1 => ?_⟩
  obtain ⟨rfl, n, rfl, hl, rfl, isd⟩ := recvD_at o1 hx r1
  refine ⟨_, rfl, isd, μ1, env, _, y1, st2, o1, r.mono s1, h3, fun μ2 H2 y' s2 o2 r2 f2 => ⟨μ2, env, st2, z1, st3, o2, (r.mono s1).mono s2, h5, fun μ3 H3 z' s3 o3 r3 f3 => ?_⟩⟩
  obtain ⟨μe, se, oe, re, fe, _⟩ := Ok.esc s3 o3 r3 f3
  have sw := Stp.trans s2 se
  have en : μe n = μ1 n := sw.ext n hl
  rw [← en]
  unfold dsdfV at h6
  simp only at h6
  split at h6
  · rename_i t kvs hn
    split at h6
    · rename_i q hq
      split at h6
      · rename_i hc
        obtain ⟨ws, a1, a2, a3⟩ := oe.dc n t kvs hn
        have r2 := r2.mono0 se
        have zl : ((kvs.map Prod.fst).zip ws).length < sizeLine := by
          have := a2.len
          rw [List.length_map] at this
          rw [List.length_zip, List.length_map]
          omega
        obtain ⟨ws', p1, p2, p3⟩ := dput_at oe hn r2 hq re fe hc.1
        -- both kinds
        have both : (∀ w, valV ((kvs.map Prod.fst).zip ws) q = some w → Q w H3) ∧ (valV ((kvs.map Prod.fst).zip ws) q = none → ∀ H4, DPut H3 (μe n) y' z' H4 → Q z' H4) := by
          rcases look_rel a2 q with ⟨e1, e2⟩ | ⟨v1, w1, e1, e2, e3, e4⟩
          · refine ⟨fun w hw => (by rw [e2] at hw; cases hw), fun _ H4 hp => ?_⟩
            rw [e1] at h6
            cases h6
            obtain ⟨H5, q1, q2, q3⟩ := dput_ok oe hn r2 hq re fe hc.1
            have same : H4 = H5 := by
              rcases hp with ⟨l1, k1, b1, b2, _, b3⟩ | ⟨l1, k1, c1, b1, b2, b4, _, b3⟩ <;> rcases q1 with ⟨l2, k2, d1, d2, _, d3⟩ | ⟨l2, k2, c2, d1, d2, d4, _, d3⟩
              · rw [b1] at d1
                cases d1
                rw [b2] at d2
                have : k1 = k2 := by
                  cases k1 <;> cases k2 <;> first | (cases d2; rfl) | cases d2
                rw [b3, d3, this]
              · rw [b1] at d1; cases d1
              · rw [b1] at d1; cases d1
              · rw [b1] at d1
                cases d1
                rw [b2] at d2
                cases d2
                rw [b4] at d4
                have : k1 = k2 := by
                  exact kVs_inj (by simpa using d4)
                rw [b3, d3, this]
            rw [same]
            exact g μe H5 z' (Stp.trans (Stp.trans s1 sw) q2) q3 (re.mono0 q2) (fr_of fe)
          · refine ⟨fun w hw => ?_, fun z => (by rw [e2] at z; cases z)⟩
            rw [e2] at hw
            cases hw
            rw [e1] at h6
            cases h6
            exact g μe H3 w1 (Stp.trans s1 sw) oe e3 (fr_of e4)
        rcases key_at r2 hq with ⟨rfl, k, rfl, rfl⟩ | ⟨rfl, b, rfl, hb⟩
        · refine .inl ⟨_, k, a1, rfl, by rw [List.length_map]; exact zl, fun w hw => both.1 w ?_, fun hw => both.2 ?_ _ (.inl ⟨_, k, a1, rfl, by rw [List.length_map]; exact zl, rfl⟩)⟩
          · rw [← valV_one k (zip_one (a3 rfl))]; exact hw
          · rw [← valV_one k (zip_one (a3 rfl))]; exact hw
        · exact .inr ⟨_, q, b, a1, rfl, hb, zl, both.1, fun hw => both.2 hw _ (.inr ⟨_, q, b, a1, rfl, hb, zl, rfl⟩)⟩
      · cases h6
    · cases h6
  · cases h6
theorem call_lenDT {X : Cx} : CallR X (.builtin "len") (fun xs H Q => (∃ a kvs, xs = [V.ref a] ∧ H a = some (.dK kvs) ∧ Q (.int kvs.length) H) ∨ rLenT xs H Q) := by
  intro pins s σ H xs us Q I r h
  rcases h with h | h
  · exact call_lenD pins s σ H xs us Q I r h
  · exact call_len_dT pins s σ H xs us Q I r h
theorem se_dlen {d : ME} {x : Expr} {p pos : Pos} (hd : SE X call d x) (hg : Gl X "len") (hm : X.mg "len" = none) (hx : starEach [x] X.env = (false, eval x X.env) :: starEach [] X.env) : SE X call (.dlen d) (.Call (.Name "len" p) [x] [] pos) := by
  have pa : PA X [x] (tCons (rdU X.K (ev call d .use)) tNil) := pa_cons hd.use pa_nil hx
  refine .plain (fun env st => (ev call d .use env st).bind fun a st1 => opt (dlenV a st1) st1) ((pe_callB call_lenDT hg hm (by decide +kernel) pa (by decide) (by decide) hx rfl).imp fun σ H Q ⟨μ, env, st, v, st', o, r, h, g⟩ => ?_) (fun md env st => by simp only [ev, bind_assoc]) fun _ => rfl
  obtain ⟨x1, st1, h1, h2⟩ := bind_ok h
  obtain ⟨h3, rfl⟩ := opt_ok h2
  refine ⟨μ, env, st, x1, _, o, r, h1, fun μ1 H1 x' s1 o1 r1 => ?_⟩
  unfold dlenV at h3
  split at h3
  · rename_i t kvs hdd
    cases h3
    obtain ⟨n, rfl, hn⟩ := dctOf_at hdd
    cases r1 with
    | loc hl =>
    obtain ⟨ws, a1, a2, _⟩ := o1.dc n t kvs hn
    have l2 := a2.len
    rw [List.length_map] at l2
    have zl : ((kvs.map Prod.fst).zip ws).length = kvs.length := by
      rw [List.length_zip, List.length_map]; omega
    cases t with
    | true => exact .inr ⟨_, _, rfl, a1, by rw [zl]; exact g μ1 H1 _ s1 o1 (.int _) trivial⟩
    | false => exact .inl ⟨_, _, rfl, a1, by rw [List.length_map, zl]; exact g μ1 H1 _ s1 o1 (.int _) trivial⟩
  · cases h3
/-! ### [.. for .. in d.values()] -/
def lcvC (call : Nat → List PV → Store → Res PV) (elt : ME) (g : MG) (i : Nat) : En → Store → Res PV := fun env st => match env[i]? with
  | some (some (.loc n)) => match st[n]? with
    | some (.dct false kvs) => (lcLoop (fun _ s => .ok true s) (ev call elt .val) g.put (wipe env g.slots) (.items (kvs.map (·.2))) 0 (Src.items (kvs.map (·.2))).many [] (st.set n .hid)).bind fun v st2 => shown n false kvs v st2
    | _ => .bad
  | _ => .bad
theorem lcv_eq {elt : ME} {g : MG} {i : Nat} {md : Md} {env : En} {st : Store} : ev call (.lcv elt g i) md env st = (lcvC call elt g i env st).bind fun v st1 => done md v st1 := by
  rw [ev]
  unfold lcvC
  rcases hx : env[i]? with _ | x
  · rfl
  · rcases x with _ | x
    · rfl
    · cases x <;> try rfl
      rename_i n
      simp only
      rcases hy : st[n]? with _ | y
      · rfl
      · cases y <;> try rfl
        rename_i t kvs
        cases t <;> try rfl
        simp only [bind_assoc]
theorem se_lcv {elt : ME} {g : MG} {i : Nat} {e : Expr}
    (hp : PE X e (tLc (iVals (rdU X.K (ev call (.var i) .use))) (gOf X.K g) tYes (rd X.K (ev call elt .val)) g.slots))
    (he : ∀ whole, isTrue e X.env whole = (do let v ← whole; standAt e.pos; holding [v] (truthy v))) : SE X call (.lcv elt g i) e := by
  refine .plain (lcvC call elt g i) ((pe_lock hp).imp fun σ H Q ⟨μ, env, st, v, st', o, r, h, fin⟩ => ?_) (fun md env st => lcv_eq) he
  unfold lcvC at h
  split at h
  rotate_left
  · cases h
  rename_i n hi
  split at h
  rotate_left
  · cases h
  rename_i kvs hn
  obtain ⟨v1, st2, h1, h2⟩ := bind_ok h
  unfold shown at h2
  split at h2
  rotate_left
  · cases h2
  rename_i hh
  cases h2
  obtain ⟨ws, a1, a2, a3⟩ := o.dc n _ _ hn
  have hl : n < st.length := (List.getElem?_eq_some_iff.mp hn).1
  have sl : (st.set n Cell.hid).length = st.length := by simp
  have a1' : H (μ n) = some (.dK (((kvs.map Prod.fst).zip ws).map hk1)) := a1
  refine ⟨μ n, _, a1', True.intro, fun od => ?_⟩
  generalize hK : (((kvs.map Prod.fst).zip ws).map hk1) = K2 at *
  have k2 : K2.map Prod.snd = ws := by
    have l2 := a2.len
    rw [List.length_map] at l2
    rw [← hK, List.map_map]
    exact List.map_snd_zip (by rw [List.length_map]; omega)
  have s1 : Stp μ st.length H μ st.length (upd H (μ n) (.frz od (.dK K2))) := Stp.dput o hn
  have o1 : Ok X.K μ (st.set n .hid) (upd H (μ n) (.frz od (.dK K2))) := o.dput hn (.inr ⟨rfl, _, _, rfl⟩)
  refine ⟨μ, env, st.set n .hid, .loc n, st.set n .hid, o1, by rw [sl]; exact r.mono s1, ?_, fun μ1 H1 x' s2 o2 r2 => ?_⟩
  · rw [ev, hi]; rfl
  · have en : μ1 n = μ n := s2.ext n (by rw [sl]; exact hl)
    have s2o := s2
    rw [sl] at s2
    have f1 : H1 (μ n) = some (.frz od (.dK K2)) := s2.frz _ _ _ upd_same
    cases r2 with
    | loc _ =>
    rw [en]
    refine ⟨μ n, od, K2, rfl, f1, ?_⟩
    refine SE.lcBody (Q := fun v H' => H' (μ n) = some (.frz od (.dK K2)) ∧ Q v (upd H' (μ n) (.dK K2))) (tt := tYes) (te := rd X.K (ev call elt .val)) (fun _ _ _ q => q) (fun μ env st b st' σ H Q o r h q => (by cases h; exact q μ H StX.refl o)) o2 (by rw [sl]; exact (r.mono s1).mono s2) (.vals f1 (by rw [k2, sl]; exact (a2.mono s1).mono s2)) h1 fun μ4 H4 v' s4 o4 r4 f4 => ?_
    have f5 : H4 (μ n) = some (.frz od (.dK K2)) := s4.frz _ _ _ f1
    rw [sl] at s4
    have e4 : μ4 n = μ n := (s4.ext n (Nat.lt_of_lt_of_le hl s2.le)).trans en
    have sA : Stp μ st.length H μ4 st2.length (upd H4 (μ n) (.dK K2)) := stp_back (Stp.trans s2 s4) (.inr ⟨n, hl, rfl, false, _, ws, a1⟩)
    have sl2 : (st2.set n (Cell.dct false kvs)).length = st2.length := by simp
    refine ⟨f5, fin μ4 _ v' (by rw [sl2]; exact sA) ?_ (by rw [sl2]; exact r4.move f5 trivial) (f4.back (Stp.trans s1 s2))⟩
    have q := o4.unhide (u := .frz od (.dK K2)) (u' := .dK K2) hh (by rw [e4]; exact f5) trivial (t := false) (kvs := kvs) ⟨ws, by rw [upd_same, ← hK]; rfl, by rw [e4]; exact a2.mono sA, a3⟩
    rw [e4] at q
    exact q
end
end U

set_option maxHeartbeats 8000000
/-! U10: every expression of the language. -/
namespace U
open PySem PySem.Spec PyProof.Rows L2
structure Wd where
  P : Program
  w : World
  K : PySem.W.Frag
  mg : Str → Option Value
  base : Heap
/-- a body of the text stands here -/
structure Gd (W : Wd) (C : Ct) (k : Nat) (X : Cx) : Prop where
  P : X.prog = W.P
  w : X.w = W.w
  K : X.K = W.K
  mg : X.mg = W.mg
  base : X.base = W.base
  N : X.N = C.N
  sc : X.env.scope = C.sc
  nd : X.N.Nodup
  calm : X.calm = true
  room : Room 0 X.A
  rm : (C.fn.isEmpty && C.xs.ob.isEmpty) = true ∨ Rm k X.A
  gu : C.gk = true → X.A.guards = some []
/-- the promise of an error's __init__ that sets these fields by its parameters -/
def spI (K : PySem.W.Frag) (C : Addr) (flds : List Str) (cf : List PV → Store → Res PV) : Sp := fun vs H Q _ => ∃ (e : Addr) (ws : List V) (μ : Nat → Addr) (st : Store) (as : List PV) (v : PV) (st' : Store), vs = .ref e :: ws ∧ H e = some (exo e C none) ∧ as.length = flds.length ∧ Ok K μ st H ∧ RVs K μ st.length H as ws ∧ cf as st = .ok v st' ∧
  ∀ μ' H' dx, Stp μ st.length H μ' st'.length H' → Ok K μ' st' H' → H' e = some (exo e C none) → H' dx = none → dx ≠ e → Q .non (upd (upd H' dx (exd dx (flds.zip ws).reverse)) e (exo e C (some dx)))
/-- an own class of errors, of that name and with these fields; its __init__'s number -/
def XcOk (W : Wd) (k : Nat) (call : Nat → List PV → Store → Res PV) (x : Str) (w : List Str × Nat) : Prop :=
  (w.1 = [] ∧ ∃ (C : Addr) (B newId initId : String) (bmB : List Value), ExcBaseFacts B newId initId bmB ∧ PySem.W.excIn W.K C bmB newId = true ∧ W.mg x = some (.ref C) ∧ PySem.W.keepIn W.K (.ref C) = true ∧
    PySem.W.subIn W.K (.ref C) (.type "BaseException") = some true ∧ PySem.W.typeIn W.K (.ref C) = some (.type "type")) ∨
  (w.1 ≠ [] ∧ ∃ C : Addr, OexC W.K C ∧ W.mg x = some (.ref C) ∧ ((∀ as st, call w.2 as st = .bad) ∨ ∃ fI fd ps cf, (∀ as st, call w.2 as st = cf as st) ∧ PySem.W.findIn W.K (.ref C) "__init__" = some (some (.ref fI)) ∧ PySem.W.typeIn W.K (.ref fI) = some (.type "function") ∧
    Binds W.K fd ps [] ∧ FnOk W.P W.w W.K W.mg W.base CX0 1 fI fd ps (spI W.K C w.1 cf)))
/-- an own class of objects: its fields, its methods and their numbers -/
def ObOk (W : Wd) (k : Nat) (call : Nat → List PV → Store → Res PV) (c : Str) (w : List Str × List (Str × Nat)) : Prop := ∃ C : Addr, PySem.W.nsIn W.K mainGlobals c = some (some (.ref C)) ∧ W.mg c = some (.ref C) ∧ Cls W.K C ∧ (∀ f, w.1.contains f = true → NoAttr W.K C f) ∧
  (∀ m g, w.2.lookup m = some g → m ≠ Str.ofString "__init__" → ∃ a fd ps, Meth W.K C m a ∧ Binds W.K fd ps [] ∧ FnR W.P W.w W.K W.mg W.base (L2.CX W.P W.w) k a fd ps (spX W.K W.mg (call g))) ∧
  ∀ g, w.2.lookup (Str.ofString "__init__") = some g → (∀ as st, call g as st = .bad) ∨ ∃ j a fd ps cf, k = j + 1 ∧ (∀ as st, call g as st = cf as st) ∧ Mk W.K C a ∧ Binds W.K fd ps [] ∧ FnR W.P W.w W.K W.mg W.base (L2.CX W.P W.w) j a fd ps (spX W.K W.mg cf)
/-- what the names of the module are -/
structure Fx (W : Wd) (C : Ct) (k : Nat) (call : Nat → List PV → Store → Res PV) : Prop where
  fn : ∀ x f, C.fn.lookup x = some f → ∃ a fd ps, W.mg x = some (.ref a) ∧ PySem.W.keepIn W.K (.ref a) = true ∧ Binds W.K fd ps [] ∧ FnR W.P W.w W.K W.mg W.base CX0 k a fd ps (spEv W.K (call f))
  fnX : ∀ x f, C.fn.lookup x = some f → ∃ a fd ps, W.mg x = some (.ref a) ∧ PySem.W.keepIn W.K (.ref a) = true ∧ Binds W.K fd ps [] ∧ FnR W.P W.w W.K W.mg W.base (L2.CX W.P W.w) k a fd ps (spX W.K W.mg (call f))
  xs : ∀ x w, C.xs.er.lookup x = some w → XcOk W k call x w
  os : ∀ c w, C.xs.ob.lookup c = some w → ObOk W k call c w
  cs : ∀ x v, C.cs.lookup x = some v → v.isFl = false ∧ ∃ u v', W.mg x = some u ∧ RelV v' u ∧ (∀ μ L H, RV W.K μ L H v v') ∧ ∀ xs, v = .tup xs → ∃ p o, v' = .ref p ∧ W.K.lookup p = some o ∧ o.cls = .type "tuple" ∧ o.dict = none
  bl : ∀ x, C.bl.contains x = true → W.mg x = none
  ds : ∀ x kvs, C.ds.lookup x = some kvs → ∃ d es n, W.mg x = some (.ref d) ∧ KDict W.K W.w d es n ∧ DRel es.toList kvs
mutual
theorem same_ok : ∀ {v w : PV}, PV.same v w = true → v = w
  | .non, .non, _ => rfl
  | .bl a, .bl b, h => by rw [eq_of_beq (show (a == b) = true from h)]
  | .int a, .int b, h => by rw [of_decide_eq_true (show decide (a = b) = true from h)]
  | .str a, .str b, h => by rw [of_decide_eq_true (show decide (a = b) = true from h)]
  | .tup a, .tup b, h => by rw [sames_ok (show PV.sameL a b = true from h)]
  | .non, .bl _, h | .non, .int _, h | .non, .str _, h | .non, .tup _, h | .non, .loc _, h | .non, .fl _, h | .non, .rol _, h => by cases h
  | .bl _, .non, h | .bl _, .int _, h | .bl _, .str _, h | .bl _, .tup _, h | .bl _, .loc _, h | .bl _, .fl _, h | .bl _, .rol _, h => by cases h
  | .int _, .non, h | .int _, .bl _, h | .int _, .str _, h | .int _, .tup _, h | .int _, .loc _, h | .int _, .fl _, h | .int _, .rol _, h => by cases h
  | .str _, .non, h | .str _, .bl _, h | .str _, .int _, h | .str _, .tup _, h | .str _, .loc _, h | .str _, .fl _, h | .str _, .rol _, h => by cases h
  | .tup _, .non, h | .tup _, .bl _, h | .tup _, .int _, h | .tup _, .str _, h | .tup _, .loc _, h | .tup _, .fl _, h | .tup _, .rol _, h => by cases h
  | .loc _, _, h | .fl _, _, h | .rol _, _, h => by cases h
theorem sames_ok : ∀ {v w : List PV}, PV.sameL v w = true → v = w
  | [], [], _ => rfl
  | [], _ :: _, h => by cases h
  | _ :: _, [], h => by cases h
  | x :: xs, y :: ys, h => by
    have h : (PV.same x y && PV.sameL xs ys) = true := h
    rw [Bool.and_eq_true] at h
    rw [same_ok h.1, sames_ok h.2]
end
theorem Gd.rmF {W : Wd} {C : Ct} {k : Nat} {X : Cx} (G : Gd W C k X) {x : Str} {f : Nat} (h : C.fn.lookup x = some f) : Rm k X.A := by
  rcases G.rm with e | r
  · rw [Bool.and_eq_true, List.isEmpty_iff] at e
    rw [e.1] at h; cases h
  · exact r
theorem Gd.rmO {W : Wd} {C : Ct} {k : Nat} {X : Cx} (G : Gd W C k X) {x : Str} {w : List Str × List (Str × Nat)} (h : C.xs.ob.lookup x = some w) : Rm k X.A := by
  rcases G.rm with e | r
  · rw [Bool.and_eq_true, List.isEmpty_iff, List.isEmpty_iff] at e
    rw [e.2] at h; cases h
  · exact r
section
variable {W : Wd} {k : Nat} {call : Nat → List PV → Store → Res PV}
theorem vis_of {sc : Scope} {x : Str} (h : visB sc x = true) : Vis sc x := by
  unfold visB at h
  unfold Vis
  split at h <;> first | (rename_i q; rw [q]; simp) | cases h
theorem gl_of {X : Cx} {x : Str} (h : glB X.env.scope x = true) : Gl X x ∧ (x == ("__debug__" : Str)) = false := by
  unfold glB at h
  split at h
  · rename_i q
    exact ⟨q, by simpa using h⟩
  · cases h
/-- no star, no set, no slice -/
def plainE : Expr → Bool
  | .Starred .. => false
  | .Set .. => false
  | .Slice .. => false
  | .NamedExpr .. => false
  | _ => true
theorem sameD_ok : ∀ {l m : List (Str × PV)}, sameD l m = true → l = m
  | [], [], _ => rfl
  | [], _ :: _, h => by cases h
  | _ :: _, [], h => by cases h
  | (x, v) :: r, (y, w) :: q, h => by
    have h : (decide (x = y) && PV.same v w && sameD r q) = true := h
    simp only [Bool.and_eq_true, decide_eq_true_eq] at h
    rw [h.1.1, same_ok h.1.2, sameD_ok h.2]
theorem plain_ok {C : Ct} {m : ME} {e : Expr} (h : mE C m e = true) : plainE e = true := by
  cases e <;> first | rfl | (exfalso; cases m with
    | lc elt g src has c => cases src <;> cases h
    | _ => cases h)
theorem star_ok {e : Expr} (h : plainE e = true) (es : List Expr) (env : Env) : starEach (e :: es) env = (false, eval e env) :: starEach es env := by
  cases e <;> first | rfl | cases h
theorem ix_ok {e : Expr} (h : plainE e = true) : PlainIx e := by
  intro o i
  cases e <;> first | rfl | cases h
theorem nosl_ok {e : Expr} (h : plainE e = true) : NoSl e := by
  intro o i
  cases e <;> first | rfl | cases h
theorem mark_ok {e : Expr} (h : plainE e = true) (op : CmpOp) : behindInMarks op e = false := by
  cases e <;> first | rfl | cases h
theorem marks_ok {e e' : Expr} (h : plainE e = true) (h' : plainE e' = true) (op op' : CmpOp) : lastMarks [op, op'] [e, e'] = false := by
  have := mark_ok h' op'
  cases e' <;> first | rfl | (exact this) | cases h'
theorem set_ok {e : Expr} (h : plainE e = true) (env : Env) : ∀ x, foldedSetIterable e env x = pure x := by
  intro x
  cases e <;> first | rfl | cases h
theorem any_ok {C : Ct} {pos : Pos} {env : Env} : ∀ {as : MEs} {es : List Expr}, mA C as es = true → (backTo pos (starEach es env)).any (·.1) = false
  | .nil, [], _ => rfl
  | .nil, _ :: _, h => by cases h
  | .cons _ _, [], h => by cases h
  | .cons a as, e :: es, h => by
    have h : (mE C a e && mA C as es) = true := h
    rw [Bool.and_eq_true] at h
    rw [star_ok (plain_ok h.1)]
    show (false || (backTo pos (starEach es env)).any (·.1)) = false
    rw [any_ok h.2]
    rfl
theorem base_ok {x : Expr} {name : Str} {env : Env} {whole : Sem Value} (h : (match x with
    | .Call _ [] [] _ => true
    | _ => false) = false) : attributeBase x name env whole = whole := by
  cases x <;> try rfl
  rename_i f as ks p
  cases as with
  | nil =>
    cases ks with
    | nil => cases h
    | cons _ _ => cases f <;> rfl
  | cons _ _ => cases f <;> rfl
theorem base_ok2 {x : Expr} {name : Str} {env : Env} {whole : Sem Value} (h : (match x with
    | .Call (.Name _ _) [] [] _ => true
    | _ => false) = false) : attributeBase x name env whole = whole := by
  cases x <;> try rfl
  rename_i f as ks p
  cases as with
  | nil =>
    cases ks with
    | nil =>
      cases f <;> first | rfl | cases h
    | cons _ _ => cases f <;> rfl
  | cons _ _ => cases f <;> rfl
end
end U

set_option maxHeartbeats 4000000
/-! U10o: objects of the program's own classes, in the store. -/
namespace U
open PySem PySem.Spec PyProof.Rows L2
section
variable {K : PySem.W.Frag} {μ : Nat → Addr} {L : Nat} {H : Hp}
theorem fields_at {f : Str} {v : PV} : ∀ {fs : List (Str × PV)} {gs : List (Str × V)}, gs.map Prod.fst = fs.map Prod.fst → RVs K μ L H (fs.map Prod.snd) (gs.map Prod.snd) → fs.lookup f = some v → ∃ v', gs.lookup f = some v' ∧ RV K μ L H v v' ∧ v.isFl = false
  | [], _, _, _, h => by cases h
  | (g, w) :: fs, [], e, _, _ => by cases e
  | (g, w) :: fs, (g', w') :: gs, e, r, h => by
    simp only [List.map_cons, List.cons.injEq] at e
    obtain ⟨rfl, e⟩ := e
    cases r with
    | cons nf r1 r2 =>
      rw [List.lookup_cons] at h ⊢
      cases q : f == g' with
      | true => rw [q] at h; cases h; exact ⟨w', rfl, r1, nf⟩
      | false => rw [q] at h; exact fields_at e r2 h
theorem fields_put {f : Str} {v : PV} {v' : V} (rv : RV K μ L H v v') (nf : v.isFl = false) : ∀ {fs : List (Str × PV)} {gs : List (Str × V)}, gs.map Prod.fst = fs.map Prod.fst → RVs K μ L H (fs.map Prod.snd) (gs.map Prod.snd) →
    (putF f v' gs).map Prod.fst = (putFV f v fs).map Prod.fst ∧ RVs K μ L H ((putFV f v fs).map Prod.snd) ((putF f v' gs).map Prod.snd)
  | [], [], _, _ => ⟨rfl, .cons nf rv .nil⟩
  | [], _ :: _, e, _ => by cases e
  | _ :: _, [], e, _ => by cases e
  | (g, w) :: fs, (g', w') :: gs, e, r => by
    simp only [List.map_cons, List.cons.injEq] at e
    obtain ⟨rfl, e⟩ := e
    cases r with
    | cons n1 r1 r2 =>
      unfold putF putFV
      by_cases q : g' = f
      · rw [if_pos q, if_pos q]
        exact ⟨by simp only [List.map_cons, e], .cons nf rv r2⟩
      · rw [if_neg q, if_neg q]
        obtain ⟨e1, e2⟩ := fields_put rv nf e r2
        exact ⟨by simp only [List.map_cons, e1], .cons n1 r1 e2⟩
/-- an object of the store is written -/
theorem Ok.writeO {st : Store} {n : Nat} {c : Str} {fs fs' : List (Str × PV)} {C dx : Addr} {gs gs' : List (Str × V)} (o : Ok K μ st H) (hx : st[n]? = some (.ins c fs)) (hC : PySem.W.nsIn K mainGlobals c = some (some (.ref C))) (hv : H (μ n) = some (.ins C dx gs))
    (e : gs'.map Prod.fst = fs'.map Prod.fst) (r : RVs K μ st.length H (fs'.map Prod.snd) (gs'.map Prod.snd)) :
    Stp μ st.length H μ (st.set n (.ins c fs')).length (upd H (μ n) (.ins C dx gs')) ∧ Ok K μ (st.set n (.ins c fs')) (upd H (μ n) (.ins C dx gs')) := by
  have hn : n < st.length := (List.getElem?_eq_some_iff.mp hx).1
  have hl : (st.set n (Cell.ins c fs')).length = st.length := by simp
  have s : Stp μ st.length H μ (st.set n (Cell.ins c fs')).length (upd H (μ n) (.ins C dx gs')) := by
    rw [hl]
    refine ⟨Nat.le_refl _, fun _ _ => rfl, fun b u h k _ => ?_, fun b zs h => ?_, fun b u z h => ?_, fun b h => ?_, fun k h1 h2 => absurd h2 (by omega), fun b p h => by rw [upd_ne (fun e => by rw [e, hv] at h; cases h)]; exact h⟩
    · rw [upd_ne (fun e => k n hn e.symm)]; exact h
    · rw [upd_ne (fun e => by rw [e, hv] at h; cases h)]; exact h
    · rw [upd_ne (fun e => by rw [e, hv] at h; cases h)]; exact h
    · by_cases e : b = μ n
      · rw [e, upd_same] at h; cases h
      · rw [upd_ne e] at h; exact h
  have other : ∀ {k : Nat} {x : Cell}, k ≠ n → (st.set n (Cell.ins c fs'))[k]? = some x → st[k]? = some x := fun {k x} ne hk => by
    rw [List.getElem?_set_ne (Ne.symm ne)] at hk; exact hk
  refine ⟨s, ⟨fun a b ha hb e => o.inj a b (by omega) (by omega) e, fun k zs hk => ?_, fun k c2 f2 hk => ?_, fun k P q hk => ?_, fun k t2 kvs2 hk => ?_, fun k hk => ?_⟩⟩
  rotate_left 3
  · have ne : k ≠ n := fun e => by
      subst e
      rw [List.getElem?_set_self hn] at hk; cases hk
    have hk' := other ne hk
    obtain ⟨ws, a1, a2, a3⟩ := o.dc k t2 kvs2 hk'
    have hkl : k < st.length := (List.getElem?_eq_some_iff.mp hk').1
    exact ⟨ws, by rw [upd_ne (fun z => ne (o.inj k n hkl hn z))]; exact a1, RVs.mono s a2, a3⟩
  · have ne : k ≠ n := fun e => by
      subst e
      rw [List.getElem?_set_self hn] at hk; cases hk
    have hk' := other ne hk
    obtain ⟨ob, u2, a1⟩ := o.hd k hk'
    have hkl : k < st.length := (List.getElem?_eq_some_iff.mp hk').1
    exact ⟨ob, u2, by rw [upd_ne (fun z => ne (o.inj k n hkl hn z))]; exact a1⟩
  rotate_left 2
  · have ne : k ≠ n := fun e => by
      subst e
      rw [List.getElem?_set_self hn] at hk; cases hk
    have hk' := other ne hk
    obtain ⟨e1, t⟩ := o.tb k P q hk'
    have hkl : k < st.length := (List.getElem?_eq_some_iff.mp hk').1
    refine ⟨e1, tab_of t (fun ps h => ?_) fun c h => ?_⟩
    · rw [upd_ne (fun z => ne (o.inj k n hkl hn (by rw [e1]; exact z)))]; exact h
    · rw [upd_ne (fun z => o.noCode h n hn z.symm)]; exact h
  · have ne : k ≠ n := fun e => by
      subst e
      rw [List.getElem?_set_self hn] at hk; cases hk
    have hk' := other ne hk
    obtain ⟨us, h1, h2⟩ := o.cell k zs hk'
    have hkl : k < st.length := (List.getElem?_eq_some_iff.mp hk').1
    refine ⟨us, ?_, RVs.mono s h2⟩
    rw [upd_ne (fun z => ne (o.inj k n hkl hn z))]
    exact h1
  · by_cases ne : k = n
    · subst ne
      rw [List.getElem?_set_self hn] at hk
      cases hk
      exact ⟨C, dx, gs', hC, upd_same, e, RVs.mono s r⟩
    · have hk' := other ne hk
      obtain ⟨C2, d2, g2, a1, a2, a3, a4⟩ := o.ob k c2 f2 hk'
      have hkl : k < st.length := (List.getElem?_eq_some_iff.mp hk').1
      refine ⟨C2, d2, g2, a1, ?_, a3, RVs.mono s a4⟩
      rw [upd_ne (fun z => ne (o.inj k n hkl hn z))]
      exact a2
end
variable {X : Cx} {call : Nat → List PV → Store → Res PV}
/-- e.f -/
theorem se_fld {c f : Str} {C : Addr} {a : ME} {x : Expr} {pos : Pos} (ha : SE X call a x) (hC : PySem.W.nsIn X.K mainGlobals c = some (some (.ref C))) (cl : Cls X.K C) (na : NoAttr X.K C f) (hb : attributeBase x f X.env (eval x X.env) = eval x X.env) : SE X call (.fld c a f) (.Attribute x f pos) := by
  refine .plain (fun env st => (ev call a .use env st).bind fun x st1 => opt (fldV c f x st1) st1) ((pe_fld ha.use hb).imp fun σ H Q ⟨μ, env, st, v, st', o, r, h, g⟩ => ?_) (fun md env st => by rw [ev, bind_assoc]) fun _ => rfl
  obtain ⟨x1, st1, h1, h2⟩ := bind_ok h
  obtain ⟨h3, e⟩ := opt_ok h2
  cases e
  refine ⟨μ, env, st, x1, _, o, r, h1, fun μ1 H1 x' s1 o1 r1 => ?_⟩
  unfold fldV at h3
  split at h3
  · split at h3
    · rename_i n c' fs q
      split at h3
      · rename_i ec
        subst ec
        cases r1
        obtain ⟨C', dx, gs, a1, a2, a3, a4⟩ := o1.ob _ _ _ q
        rw [hC] at a1
        cases a1
        obtain ⟨v', l, rv, nf⟩ := fields_at a3 a4 h3
        exact ⟨_, C, dx, gs, v', rfl, a2, cl, na, l, g μ1 H1 v' s1 o1 rv (fr_of nf)⟩
      · cases h3
    · cases h3
  · cases h3
theorem meth_tree {o : Expr} {m : Str} {apos pos : Pos} {args : List Expr} {env : Env} (few : methodCallForm (args.length + ([] : List Keyword).length) (backTo pos (starEach args env)) (backToKw pos (keywordEach [] env)) = true) (hl : (apos.endLine == pos.line) = true) (hb : attributeBase o m env (eval o env) = eval o env) :
    eval (.Call (.Attribute o m apos) args [] pos) env = (do
      let ov ← eval o env
      standAt apos.atName
      let (f, first) ← holding [ov] (getMethod ov m (do return (← importBound o env).getD true))
      callWith pos f first (backTo pos (starEach args env)) (backToKw pos (keywordEach [] env))) := by
  rw [arm_eval_Call, hb]
  congr 1
  funext ov
  congr 1
  funext _
  unfold methodCall
  rw [few]
  unfold calleeOf methodCallPos
  rw [if_pos rfl]
  congr 1
  funext ff
  obtain ⟨f, first⟩ := ff
  rw [hl]
  rfl
theorem no_field {m : Str} : ∀ {fs : List (Str × PV)} {gs : List (Str × V)}, gs.map Prod.fst = fs.map Prod.fst → fs.lookup m = none → gs.lookup m = none
  | [], [], _, _ => rfl
  | [], _ :: _, e, _ => by cases e
  | _ :: _, [], _, _ => rfl
  | (g, w) :: fs, (g', w') :: gs, e, h => by
    simp only [List.map_cons, List.cons.injEq] at e
    obtain ⟨rfl, e⟩ := e
    rw [List.lookup_cons] at h ⊢
    cases q : m == g' with
    | true => rw [q] at h; cases h
    | false => rw [q] at h; exact no_field e h
/-- o.m(..) -/
theorem se_mth {g : Nat} {c m : Str} {C : Addr} {ob : ME} {as : MEs} {x : Expr} {es : List Expr} {y : Expr} (ho : SE X call ob x) (hs : SA X call as es) (hC : PySem.W.nsIn X.K mainGlobals c = some (some (.ref C)))
    (h : PE X y (tMethS C m (spEv X.K (call g)) (fun _ => E0) (rdU X.K (ev call ob .use)) (rdA X.K (evA call as)))) (he : ∀ whole, isTrue y X.env whole = (do let v ← whole; standAt y.pos; holding [v] (truthy v))) : SE X call (.mth g c m ob as) y := by
  refine .plain (fun env st => (ev call ob .use env st).bind fun x0 st0 => (opt (objV c m x0 st0) st0).bind fun x st1 => (evA call as env st1).bind fun xs st2 => call g (x :: xs) st2) (h.imp fun σ H Q ⟨μ, env, st, v, st', o, r, e, g⟩ => ?_) (fun md env st => by rw [ev]; simp only [bind_assoc]) he
  obtain ⟨x0, st0, h1, h2⟩ := bind_ok e
  obtain ⟨x1, st1, h5, h7⟩ := bind_ok h2
  obtain ⟨h6, e6⟩ := opt_ok h5
  obtain ⟨xs, st2, h3, h4⟩ := bind_ok h7
  unfold objV at h6
  split at h6
  · rename_i n
    split at h6
    · rename_i c' fs q
      split at h6
      · rename_i hh
        obtain ⟨rfl, ln⟩ := hh
        cases h6; cases e6
        refine ⟨μ, env, st, _, _, o, r, h1, fun μ1 H1 x' s1 o1 r1 => ?_⟩
        obtain ⟨C', dx, gs, a1, a2, a3, a4⟩ := o1.ob _ _ _ q
        rw [hC] at a1
        cases a1
        have hn : n < st0.length := (List.getElem?_eq_some_iff.mp q).1
        cases r1 with
        | loc _ =>
          refine ⟨_, dx, gs, rfl, a2, no_field a3 ln, μ1, env, _, xs, st2, o1, r.mono s1, h3, fun μ2 H2 vs s2 o2 r2 => ?_⟩
          have rl : RV X.K μ2 st2.length H2 (.loc n) (.ref (μ1 n)) := RV.mono0 s2 (.loc hn)
          exact ⟨μ2, st2, .loc n :: xs, v, st', o2, .cons rfl rl r2, h4, fun μ3 H3 v' s3 o3 r3 f3 => g μ3 H3 v' (Stp.trans s1 (Stp.trans s2 s3)) o3 r3 (f3.back (Stp.trans s1 s2))⟩
      · cases h6
    · cases h6
  · cases h6
/-- a new object -/
theorem Ok.made {K : PySem.W.Frag} {μ : Nat → Addr} {st : Store} {H : Hp} {c : Str} {C x dx : Addr} (o : Ok K μ st H) (hC : PySem.W.nsIn K mainGlobals c = some (some (.ref C))) (hx : H x = none) (hd : H dx = none) (ne : dx ≠ x) :
    Stp μ st.length H (fun k => if k = st.length then x else μ k) (st.length + 1) (upd (upd H dx (.own x)) x (.ins C dx [])) ∧ Ok K (fun k => if k = st.length then x else μ k) (st ++ [.ins c []]) (upd (upd H dx (.own x)) x (.ins C dx [])) := by
  have hx2 : upd H dx (.own x) x = none := by rw [upd_ne (Ne.symm ne)]; exact hx
  have keep : ∀ b u, H b = some u → upd (upd H dx (.own x)) x (.ins C dx []) b = some u := fun b u h => by
    rw [upd_ne (ne_of_none h hx), upd_ne (ne_of_none h hd)]; exact h
  have s0 : Stp μ st.length H μ st.length (upd (upd H dx (.own x)) x (.ins C dx [])) := Stp.trans (Stp.laid hd) (Stp.laid hx2)
  have s : Stp μ st.length H (fun k => if k = st.length then x else μ k) (st.length + 1) (upd (upd H dx (.own x)) x (.ins C dx [])) := by
    refine ⟨by omega, fun k hk => if_neg (by omega), s0.keep, s0.tup, s0.frz, s0.there, fun k h1 h2 => ?_, s0.cod⟩
    show H (if k = st.length then x else μ k) = none
    rw [if_pos (by omega)]; exact hx
  refine ⟨s, ⟨fun k m hk hm e => ?_, fun k zs hk => ?_, fun k c2 f2 hk => ?_, fun k P q hk => ?_, fun k t2 kvs2 hk => ?_, fun k hk => ?_⟩⟩
  rotate_left 4
  · rw [List.length_append, List.length_singleton]
    have h1 : k ≠ st.length := fun h1 => by subst h1; simp at hk
    have hk2 : st[k]? = some (.dct t2 kvs2) := by
      by_cases h2 : k < st.length
      · rw [List.getElem?_append_left h2] at hk; exact hk
      · rw [List.getElem?_eq_none (by simp; omega)] at hk; cases hk
    obtain ⟨ws, a1, a2, a3⟩ := o.dc k t2 kvs2 hk2
    exact ⟨ws, by simp only [if_neg h1]; exact keep _ _ a1, RVs.mono s a2, a3⟩
  · have h1 : k ≠ st.length := fun h1 => by subst h1; simp at hk
    have hk2 : st[k]? = some .hid := by
      by_cases h2 : k < st.length
      · rw [List.getElem?_append_left h2] at hk; exact hk
      · rw [List.getElem?_eq_none (by simp; omega)] at hk; cases hk
    obtain ⟨ob, u2, a1⟩ := o.hd k hk2
    exact ⟨ob, u2, by simp only [if_neg h1]; exact keep _ _ a1⟩
  rotate_left 3
  · have h1 : k ≠ st.length := fun h1 => by subst h1; simp at hk
    have hk2 : st[k]? = some (.tab P q) := by
      by_cases h2 : k < st.length
      · rw [List.getElem?_append_left h2] at hk; exact hk
      · rw [List.getElem?_eq_none (by simp; omega)] at hk; cases hk
    obtain ⟨e1, t⟩ := o.tb k P q hk2
    exact ⟨by simp only [if_neg h1]; exact e1, tab_of t (fun ps h => keep _ _ h) fun c h => keep _ _ h⟩
  · rw [List.length_append, List.length_singleton] at hk hm
    have e : (if k = st.length then x else μ k) = (if m = st.length then x else μ m) := e
    by_cases h1 : k = st.length
    · by_cases h2 : m = st.length
      · omega
      · rw [if_pos h1, if_neg h2] at e
        exact absurd e.symm (o.apart hx m (by omega))
    · by_cases h2 : m = st.length
      · rw [if_neg h1, if_pos h2] at e
        exact absurd e (o.apart hx k (by omega))
      · rw [if_neg h1, if_neg h2] at e
        exact o.inj k m (by omega) (by omega) e
  · rw [List.length_append, List.length_singleton]
    have h1 : k ≠ st.length := fun h1 => by subst h1; simp at hk
    have hk2 : st[k]? = some (.lst zs) := by
      by_cases h2 : k < st.length
      · rw [List.getElem?_append_left h2] at hk; exact hk
      · rw [List.getElem?_eq_none (by simp; omega)] at hk; cases hk
    obtain ⟨us, h2, h3⟩ := o.cell k zs hk2
    exact ⟨us, by simp only [if_neg h1]; exact keep _ _ h2, RVs.mono s h3⟩
  · rw [List.length_append, List.length_singleton]
    by_cases h1 : k = st.length
    · subst h1
      have e : Cell.ins c [] = Cell.ins c2 f2 := by simpa using hk
      cases e
      exact ⟨C, dx, [], hC, by simp only [if_pos]; exact upd_same, rfl, .nil⟩
    · have hk2 : st[k]? = some (.ins c2 f2) := by
        by_cases h2 : k < st.length
        · rw [List.getElem?_append_left h2] at hk; exact hk
        · rw [List.getElem?_eq_none (by simp; omega)] at hk; cases hk
      obtain ⟨C2, d2, g2, a1, a2, a3, a4⟩ := o.ob k c2 f2 hk2
      exact ⟨C2, d2, g2, a1, by simp only [if_neg h1]; exact keep _ _ a2, a3, RVs.mono s a4⟩
/-- C(..) -/
theorem se_new {g : Nat} {c : Str} {C : Addr} {as : MEs} {es : List Expr} {y : Expr} (hs : SA X call as es) (hC : PySem.W.nsIn X.K mainGlobals c = some (some (.ref C)))
    (h : PE X y (tMakeS C (spEv X.K (call g)) (fun _ => E0) (rdA X.K (evA call as)))) (he : ∀ whole, isTrue y X.env whole = (do let v ← whole; standAt y.pos; holding [v] (truthy v))) : SE X call (.new g c as) y := by
  refine .plain (fun env st => (evA call as env st).bind fun xs st1 => (call g (.loc st1.length :: xs) (st1 ++ [.ins c []])).bind fun v st2 => opt (newV v st1.length) st2) (h.imp fun σ H Q ⟨μ, env, st, v, st', o, r, e, gg⟩ => ?_) (fun md env st => by rw [ev]; simp only [bind_assoc]) he
  obtain ⟨xs, st1, h1, h2⟩ := bind_ok e
  obtain ⟨w, st2, h3, h4⟩ := bind_ok h2
  obtain ⟨h5, e5⟩ := opt_ok h4
  unfold newV at h5
  split at h5
  · cases h5; cases e5
    refine ⟨μ, env, st, xs, st1, o, r, h1, fun μ1 H1 vs s1 o1 r1 => fun x dx hx hd ne => ?_⟩
    obtain ⟨m1, m2⟩ := o1.made hC hx hd ne
    have el : (st1 ++ [Cell.ins c []]).length = st1.length + 1 := by simp
    have rl : RV X.K (fun k => if k = st1.length then x else μ1 k) (st1.length + 1) (upd (upd H1 dx (.own x)) x (.ins C dx [])) (.loc st1.length) (.ref x) := by
      have : RV X.K (fun k => if k = st1.length then x else μ1 k) (st1.length + 1) (upd (upd H1 dx (.own x)) x (.ins C dx [])) (.loc st1.length) (.ref ((fun k => if k = st1.length then x else μ1 k) st1.length)) := .loc (by omega)
      simpa using this
    refine ⟨_, st1 ++ [.ins c []], .loc st1.length :: xs, .non, _, m2, by rw [el]; exact .cons rfl rl (RVs.mono m1 r1), h3, fun μ2 H2 v' s2 o2 r2 f2 => ?_⟩
    cases r2
    rw [el] at s2
    refine ⟨rfl, gg μ2 H2 _ (Stp.trans s1 (Stp.trans m1 s2)) o2 (RV.mono0 s2 rl) trivial⟩
  · cases h5
/-- .. of a class whose objects can't be made so deep -/
theorem se_newBad {g : Nat} {c : Str} {as : MEs} {y : Expr} (hb : ∀ as st, call g as st = .bad) (he : ∀ whole, isTrue y X.env whole = (do let v ← whole; standAt y.pos; holding [v] (truthy v))) : SE X call (.new g c as) y := by
  refine .plain (fun env st => (evA call as env st).bind fun xs st1 => (call g (.loc st1.length :: xs) (st1 ++ [.ins c []])).bind fun v st2 => opt (newV v st1.length) st2) ⟨fun pins s σ H Q I q => ?_⟩ (fun md env st => by rw [ev]; simp only [bind_assoc]) he
  obtain ⟨μ, env, st, v, st', o, r, e, gg⟩ := q
  obtain ⟨xs, st1, h1, h2⟩ := bind_ok e
  obtain ⟨w, st2, h3, h4⟩ := bind_ok h2
  rw [hb] at h3
  cases h3
end U

set_option maxHeartbeats 8000000
/-! U11: every expression of the language, the theorem. -/
namespace U
open PySem PySem.Spec PyProof.Rows L2
section
variable {W : Wd} {k : Nat} {call : Nat → List PV → Store → Res PV}
theorem Gd.blk {C : Ct} {X : Cx} (G : Gd W C k X) (s : Shared) (H : Hp) (scope : Scope) (c : Addr) (cl : List (Str × Addr)) (fp : List Addr) : Gd W { C with sc := relS scope C.sc } k (X.blk s H scope (compEnvC scope cl c X.env) fp) :=
  ⟨G.P, G.w, G.K, G.mg, G.base, G.N, by show relS scope X.env.scope = _; rw [G.sc], G.nd, G.calm, G.room, G.rm, G.gu⟩
theorem pg1 {C : Ct} {X : Cx} (G : Gd W C k X) {i : Nat} {e : Expr} (h : mT1 C i e = true) : PG X e (gName i) := by
  cases e <;> try (exact absurd h Bool.false_ne_true)
  rename_i x pos
  have h : (decide (C.N[i]? = some x) && decide (C.sc.names.lookup x = some .local)) = true := h
  simp only [Bool.and_eq_true, decide_eq_true_eq] at h
  exact pg_name G.nd (by rw [G.N]; exact h.1) (.inl (by rw [G.sc]; exact h.2)) (.inr (by rw [G.sc]; exact h.2))
theorem assign_ok {e : Expr} {C : Ct} {i : Nat} (h : mT1 C i e = true) (es : List Expr) (env : Env) : assignEach (e :: es) env = (false, assign e env) :: assignEach es env := by
  cases e <;> first | rfl | exact absurd h Bool.false_ne_true
theorem pgs {C : Ct} {X : Cx} (G : Gd W C k X) : ∀ {is : List Nat} {es : List Expr}, mTs C is es = true → PGs X es (gAll is) ∧ (assignEach es X.env).length = is.length ∧ (assignEach es X.env).findIdx? (·.1) = none
  | [], [], _ => ⟨pgs_nil, rfl, rfl⟩
  | [], _ :: _, h => by cases h
  | _ :: _, [], h => by cases h
  | i :: is, e :: es, h => by
    have h : (mT1 C i e && mTs C is es) = true := h
    rw [Bool.and_eq_true] at h
    obtain ⟨p1, p2, p3⟩ := pgs G h.2
    have e1 := assign_ok h.1 es X.env
    refine ⟨pgs_cons (pg1 G h.1) p1 (by rw [e1]; rfl), by rw [e1]; simp [p2], by rw [e1]; simp [List.findIdx?_cons, p3]⟩
theorem pgG {C : Ct} {X : Cx} (G : Gd W C k X) {g : MG} {e : Expr} (h : mG C g e = true) : PG X e (gOf X.K g) := by
  cases g with
  | nm i => exact pg1 G h
  | tp is =>
    cases e <;> try (exact absurd h Bool.false_ne_true)
    obtain ⟨p1, p2, p3⟩ := pgs G (show mTs C is _ = true from h)
    exact pg_tup G.calm p1 p2 p3
theorem own_slots (g : MG) (N : List Str) : (g.own N).map (·.2) = g.slots := by
  unfold MG.own
  rw [List.map_map]
  have : ((fun x : Str × Nat => x.2) ∘ fun i => (N.getD i "", i)) = fun i => i := rfl
  rw [this, List.map_id']
/-- a comprehension's tests -/
def tTest' (K : PySem.W.Frag) (call : Nat → List PV → Store → Res PV) (has : Bool) (c : ME) : TT := if has then rdT K (ev call c .test) else tYes
def tsOk (C : Ct) (has : Bool) (c : ME) (ifs : List Expr) : Bool := match has, ifs with
  | true, [t] => mE C c t
  | false, [] => true
  | _, _ => false
theorem lc_plain {X : Cx} {g : MG} {has : Bool} {c elt : ME} {srcF : En → Store → Res Src} {wi : TI} {e : Expr} {m : ME}
    (hw : ∀ σ H R, rdW X.K srcF σ H R → wi σ H R)
    (hp : PE X e (tLc wi (gOf X.K g) (tTest' X.K call has c) (rd X.K (ev call elt .val)) g.slots))
    (eq : ∀ md env st, ev call m md env st = ((srcF env st).bind fun s st1 => lcLoop (fun e s => if has then (ev call c .test e s).bind fun x s1 => opt (isBl x) s1 else .ok true s) (ev call elt .val) g.put (wipe env g.slots) s 0 s.many [] st1).bind fun v st1 => done md v st1)
    (he : ∀ whole, isTrue e X.env whole = (do let v ← whole; standAt e.pos; holding [v] (truthy v))) : SE X call m e := by
  refine .plain _ (hp.imp fun σ H Q q => SE.lcImp hw (fun _ _ _ q => q) ?_ q) eq he
  intro μ env st b st' σ H Q o r h q
  unfold tTest'
  cases has with
  | true =>
    obtain ⟨x, s1, h1, h2⟩ := bind_ok h
    obtain ⟨h3, rfl⟩ := opt_ok h2
    cases isBl_ok h3
    exact ⟨μ, env, st, b, _, o, r, h1, q⟩
  | false =>
    cases h
    exact q μ H StX.refl o
theorem pw_of_pt {X : Cx} {op : BoolOp} {vs : List Expr} {p : Pos} {t : TT} (h : PT X (.BoolOp op vs p) t) : PW X (.BoolOp op vs p) t := ⟨fun wh pins s σ H Q I hw => h.run pins s σ H Q I hw⟩
theorem SE.sb {X : Cx} {m : ME} {op : BoolOp} {vs : List Expr} {p : Pos} (h : SE X call m (.BoolOp op vs p)) : SB X call m (.BoolOp op vs p) := ⟨h.val, h.use, pw_of_pt h.test⟩
theorem mE_lc {C : Ct} {elt src c : ME} {g : MG} {has : Bool} {e : Expr} (hn : ∀ a b, src ≠ .rng a b) : mE C (.lc elt g src has c) e = (match e with
    | .ListComp x [⟨tg, iter, ifs, 0⟩] scope _ => mE C src iter && blkC C.N C.sc scope (g.own C.N) && mG { C with sc := relS scope C.sc } g tg &&
        tsOk { C with sc := relS scope C.sc } has c ifs && mE { C with sc := relS scope C.sc } elt x
    | _ => false) := by
  cases src <;> first | (exact absurd rfl (hn _ _)) | rfl
theorem ev_lc {elt src c : ME} {g : MG} {has : Bool} {md : Md} {env : En} {st : Store} (hn : ∀ a b, src ≠ .rng a b) : ev call (.lc elt g src has c) md env st =
    (((ev call src .use env st).bind fun x st1 => opt (srcV x st1) st1).bind fun s st3 =>
      lcLoop (fun e s => if has then (ev call c .test e s).bind fun x s1 => opt (isBl x) s1 else .ok true s) (ev call elt .val) g.put (wipe env g.slots) s 0 s.many [] st3).bind fun v st4 => done md v st4 := by
  rw [bind_assoc, bind_assoc]
  cases src <;> first | (exact absurd rfl (hn _ _)) | rfl
theorem ev_lcR {elt a b c : ME} {g : MG} {has : Bool} {md : Md} {env : En} {st : Store} : ev call (.lc elt g (.rng a b) has c) md env st =
    (((ev call a .val env st).bind fun x st1 => (ev call b .val env st1).bind fun y st2 => rngV x y st2).bind fun s st3 =>
      lcLoop (fun e s => if has then (ev call c .test e s).bind fun x s1 => opt (isBl x) s1 else .ok true s) (ev call elt .val) g.put (wipe env g.slots) s 0 s.many [] st3).bind fun v st4 => done md v st4 := by
  simp only [bind_assoc]
  rfl
theorem ts_ok {C : Ct} {X : Cx} {has : Bool} {c : ME} {ifs : List Expr} (h : tsOk C has c ifs = true) (hc : ∀ t, mE C c t = true → SE X call c t) : PTs X ifs (tTest' X.K call has c) := by
  unfold tsOk at h
  split at h
  · exact pts_one (hc _ h).test
  · exact pts_nil
  · cases h
/-- a comprehension, from its parts -/
theorem lc_mk {C : Ct} {X : Cx} (G : Gd W C k X) {elt c m : ME} {g : MG} {has : Bool} {x tg iter : Expr} {ifs : List Expr} {scope : Scope} {pos : Pos} {srcF : En → Store → Res Src}
    (hi : PI X tg iter (rdW X.K srcF)) (hp : ∀ x, foldedSetIterable iter X.env x = pure x) (h2 : blkC C.N C.sc scope (g.own C.N) = true) (h3 : mG { C with sc := relS scope C.sc } g tg = true)
    (h4 : tsOk { C with sc := relS scope C.sc } has c ifs = true) (hc : ∀ {X : Cx}, Gd W { C with sc := relS scope C.sc } k X → ∀ t, mE { C with sc := relS scope C.sc } c t = true → SE X call c t)
    (he : ∀ {X : Cx}, Gd W { C with sc := relS scope C.sc } k X → SE X call elt x)
    (eq : ∀ md env st, ev call m md env st = ((srcF env st).bind fun s st1 => lcLoop (fun e s => if has then (ev call c .test e s).bind fun x s1 => opt (isBl x) s1 else .ok true s) (ev call elt .val) g.put (wipe env g.slots) s 0 s.many [] st1).bind fun v st1 => done md v st1) :
    SE X call m (.ListComp x [⟨tg, iter, ifs, 0⟩] scope pos) := by
  have ok : BlkOk X.N X.env.scope scope (g.own C.N) := by rw [G.N, G.sc]; exact blkOk_by h2
  have p := pe_lc (pos := pos) (own := g.own C.N) (g := gOf X.K g) (tt := tTest' X.K call has c) (te := rd X.K (ev call elt .val)) G.calm G.nd hi ok
    (fun s H a cl fp => pgG (G.blk s H scope a cl fp) h3) (fun s H a cl fp => ts_ok h4 (hc (G.blk s H scope a cl fp))) (fun s H a cl fp => (he (G.blk s H scope a cl fp)).val) hp
  rw [own_slots] at p
  exact lc_plain (fun _ _ _ q => q) p eq fun _ => rfl
theorem lc_rng {C : Ct} {X : Cx} (G : Gd W C k X) (F : Fx W C k call) {elt a b c : ME} {g : MG} {has : Bool} {e : Expr} (h : mE C (.lc elt g (.rng a b) has c) e = true)
    (ia : ∀ {e : Expr}, mE C a e = true → SE X call a e) (ib : ∀ {e : Expr}, mE C b e = true → SE X call b e)
    (ic : ∀ {C' : Ct} {X : Cx} (G : Gd W C' k X) (F : Fx W C' k call) {e : Expr}, mE C' c e = true → SE X call c e)
    (ie : ∀ {C' : Ct} {X : Cx} (G : Gd W C' k X) (F : Fx W C' k call) {e : Expr}, mE C' elt e = true → SE X call elt e) : SE X call (.lc elt g (.rng a b) has c) e := by
  unfold mE at h
  split at h
  · rename_i x tg f p es pos ifs scope pos2
    simp only [Bool.and_eq_true, decide_eq_true_eq] at h
    obtain ⟨⟨⟨⟨⟨⟨⟨rfl, h1⟩, h2⟩, h3⟩, h4⟩, h5⟩, h6⟩, h7⟩ := h
    obtain ⟨g1, g2⟩ := gl_of (X := X) (by rw [G.sc]; exact h2)
    have hm : X.mg "range" = none := by rw [G.mg]; exact F.bl _ h1
    refine lc_mk G (srcF := fun env st => (ev call a .val env st).bind fun x st1 => (ev call b .val env st1).bind fun y st2 => rngV x y st2) ?_ (fun _ => rfl) h4 h5 h6
      (fun G' t ht => ic G' ⟨F.fn, F.fnX, F.xs, F.os, F.cs, F.bl, F.ds⟩ ht) (fun G' => ie G' ⟨F.fn, F.fnX, F.xs, F.os, F.cs, F.bl, F.ds⟩ h7) fun _ _ _ => ev_lcR
    split at h3
    · rename_i y
      split at h3
      · exact pi_rng1 (ib h3) g1 hm (star_ok (plain_ok h3) _ _)
      · cases h3
    · rename_i z y
      rw [Bool.and_eq_true] at h3
      have e2 : starEach [y] X.env = [(false, eval y X.env)] := star_ok (plain_ok h3.2) _ _
      exact pi_rng2 (ia h3.1) (ib h3.2) g1 hm (by rw [star_ok (plain_ok h3.1), e2]) e2
    · cases h3
  · cases h
mutual
theorem sE : ∀ (m : ME) {C : Ct} {X : Cx} (G : Gd W C k X) (F : Fx W C k call) {e : Expr}, mE C m e = true → SE X call m e
  | .var i, C, X, G, F, e, h => by
    cases e <;> try (exact absurd h Bool.false_ne_true)
    rename_i x pos
    have h : (decide (C.N[i]? = some x) && visB C.sc x && !(x == ("__debug__" : Str)) && !(x == ("__classdict__" : Str))) = true := h
    simp only [Bool.and_eq_true, decide_eq_true_eq, Bool.not_eq_true'] at h
    exact se_var (by rw [G.N]; exact h.1.1.1) (vis_of (by rw [G.sc]; exact h.1.1.2)) h.1.2 h.2
  | .con v, C, X, G, F, e, h => by
    cases e <;> try (exact absurd h Bool.false_ne_true)
    exact se_con h
  | .glb x v, C, X, G, F, e, h => by
    cases e <;> try (exact absurd h Bool.false_ne_true)
    rename_i y pos
    rw [mE] at h
    simp only [Bool.and_eq_true, decide_eq_true_eq] at h
    obtain ⟨⟨rfl, h2⟩, h3⟩ := h
    obtain ⟨g1, g2⟩ := gl_of (X := X) (by rw [G.sc]; exact h2)
    split at h3
    · rename_i w hw
      cases same_ok h3
      obtain ⟨f, u, v', c1, c2, c3, _⟩ := F.cs _ _ hw
      exact se_glb g1 (by rw [G.mg]; exact c1) c2 (by rw [G.K]; exact c3) f g2
    · cases h3
  | .bin o a b, C, X, G, F, e, h => by
    cases e <;> try (exact absurd h Bool.false_ne_true)
    rw [mE] at h
    simp only [Bool.and_eq_true, decide_eq_true_eq] at h
    obtain ⟨⟨rfl, h2⟩, h3⟩ := h
    exact se_bin (sE a G F h2) (sE b G F h3)
  | .neg a, C, X, G, F, e, h => by
    cases e <;> try (exact absurd h Bool.false_ne_true)
    rename_i op x pos
    cases op <;> try (exact absurd h Bool.false_ne_true)
    exact se_neg (sE a G F h)
  | .cmp o a b, C, X, G, F, e, h => by
    unfold mE at h
    split at h
    · simp only [Bool.and_eq_true, decide_eq_true_eq] at h
      obtain ⟨⟨rfl, h2⟩, h3⟩ := h
      exact se_cmp (by have := G.room.un; omega) (sE a G F h2) (sE b G F h3) (mark_ok (plain_ok h3) _)
    · cases h
  | .cmp2 o o' a b c, C, X, G, F, e, h => by
    unfold mE at h
    split at h
    · simp only [Bool.and_eq_true, decide_eq_true_eq] at h
      obtain ⟨⟨⟨⟨rfl, rfl⟩, h2⟩, h3⟩, h4⟩ := h
      exact se_cmp2 (by have := G.room.un; omega) (sE a G F h2) (sE b G F h3) (sE c G F h4) (marks_ok (plain_ok h3) (plain_ok h4) _ _)
    · cases h
  | .not a, C, X, G, F, e, h => by
    cases e <;> try (exact absurd h Bool.false_ne_true)
    rename_i op x pos
    cases op <;> try (exact absurd h Bool.false_ne_true)
    exact se_not (sE a G F h)
  | .and a b, C, X, G, F, e, h => by
    unfold mE at h
    split at h
    · rw [Bool.and_eq_true] at h
      exact (sb_and (sE a G F h.1) (sE b G F h.2).one).se
    · rw [Bool.and_eq_true] at h
      exact (sb_and (sE a G F h.1) (sE b G F h.2).sb).se
    · cases h
  | .or a b, C, X, G, F, e, h => by
    unfold mE at h
    split at h
    · rw [Bool.and_eq_true] at h
      exact (sb_or (sE a G F h.1) (sE b G F h.2).one).se
    · rw [Bool.and_eq_true] at h
      exact (sb_or (sE a G F h.1) (sE b G F h.2).sb).se
    · cases h
  | .ite t a b, C, X, G, F, e, h => by
    unfold mE at h
    split at h
    · simp only [Bool.and_eq_true] at h
      exact se_ite (sE t G F h.1.1) (sE a G F h.1.2) (sE b G F h.2) pt_never
    · cases h
  | .fn f as, C, X, G, F, e, h => by
    unfold mE at h
    split at h
    · rename_i x p y ys pos
      simp only [Bool.and_eq_true, decide_eq_true_eq] at h
      obtain ⟨⟨h1, h2⟩, h3⟩ := h
      obtain ⟨g1, g2⟩ := gl_of (X := X) (by rw [G.sc]; exact h2)
      obtain ⟨a, fd, ps, f1, f2, f3, f4⟩ := F.fn _ _ h1
      have f4' : FnR X.prog X.w X.K X.mg X.base CX0 k a fd ps (spEv X.K (call f)) := by rw [G.P, G.w, G.K, G.mg, G.base]; exact f4
      have hh : plainE y = true ∧ (backTo pos (starEach ys X.env)).any (·.1) = false := by
        cases as with
        | nil => cases h3
        | cons a as =>
          rw [mA, Bool.and_eq_true] at h3
          exact ⟨plain_ok h3.1, any_ok h3.2⟩
      refine se_fn (sA as G F h3) (fun {t} pa => ?_) fun _ => rfl
      exact pe_callR f4' (G.rmF h1) g1 (by rw [G.mg]; exact f1) (by rw [G.K]; exact f2) (by rw [G.K]; exact f3) pass0S pa g2 (star_ok hh.1 _ _) hh.2
    · cases h
  | .bi f as, C, X, G, F, e, h => by
    unfold mE at h
    split at h
    · rename_i x p y ys pos
      simp only [Bool.and_eq_true, decide_eq_true_eq, Bool.or_eq_true] at h
      obtain ⟨⟨⟨⟨rfl, h1⟩, h2⟩, h4⟩, h3⟩ := h
      have hG : f = .reprD → X.A.guards = some [] ∧ X.A.units + 200 < cLine := fun e => by
        subst e
        have h4 : C.gk = true := h4.elim (fun z => by cases z) id
        exact ⟨G.gu h4, by have := G.room.un; omega⟩
      obtain ⟨g1, g2⟩ := gl_of (X := X) (by rw [G.sc]; exact h2)
      have hm : X.mg (bname f) = none := by rw [G.mg]; exact F.bl _ h1
      have hh : plainE y = true ∧ (backTo pos (starEach ys X.env)).any (·.1) = false := by
        cases as with
        | nil => cases h3
        | cons a as =>
          rw [mA, Bool.and_eq_true] at h3
          exact ⟨plain_ok h3.1, any_ok h3.2⟩
      refine se_bi (sA as G F h3) (fun {r t} hr pa => ?_) G.calm hG fun _ => rfl
      cases f <;> first
        | exact pe_callB hr g1 hm (by decide +kernel) pa (by decide) g2 (star_ok hh.1 _ _) hh.2
        | exact pe_callTy hr g1 hm (by decide +kernel) pa (by decide) g2 (star_ok hh.1 _ _) hh.2
    · cases h
  | .mt f o as, C, X, G, F, e, h => by
    unfold mE at h
    split at h
    · rename_i x name apos y pos
      simp only [Bool.and_eq_true, decide_eq_true_eq, Bool.not_eq_true'] at h
      obtain ⟨⟨⟨⟨rfl, h1⟩, h2⟩, h3⟩, h4⟩ := h
      have hy : plainE y = true := by
        cases as with
        | nil => cases h4
        | cons a as =>
          rw [mA, Bool.and_eq_true] at h4
          exact plain_ok h4.1
      have st := star_ok hy [] X.env
      refine se_mt (sE o G F h1) (sA as G F h4) (fun {r to t} hr po pa => ?_) fun _ => rfl
      have few : ((backTo pos (starEach [y] X.env)).all (fun x => !x.1) && (backToKw pos (keywordEach [] X.env)).all (fun x => x.1.isSome)
        && decide (([y] : List Expr).length + ([] : List Keyword).length + (if ([] : List Keyword).isEmpty then 0 else 1) < 30)) = true := by rw [st]; rfl
      cases f with
      | append => exact pe_bm PySem.F.plainAttrs_list PySem.F.slot_list_append PySem.F.type_list_append hr po pa (base_ok h3) few h2 st rfl
      | split => exact pe_bm PySem.F.plainAttrs_str PySem.F.slot_str_split PySem.F.type_str_split hr po pa (base_ok h3) few h2 st rfl
      | partition => exact pe_bm PySem.F.plainAttrs_str PySem.F.slot_str_partition PySem.F.type_str_partition hr po pa (base_ok h3) few h2 st rfl
      | pop => exact pe_bm PySem.F.plainAttrs_list PySem.F.slot_list_pop PySem.F.type_list_pop hr po pa (base_ok h3) few h2 st rfl
      | join => exact pe_bm PySem.F.plainAttrs_str PySem.F.slot_str_join PySem.F.type_str_join hr po pa (base_ok h3) few h2 st rfl
    · cases h
  | .tup as, C, X, G, F, e, h => by
    cases e <;> try (exact absurd h Bool.false_ne_true)
    exact se_tup (sA as G F h)
  | .lst as, C, X, G, F, e, h => by
    cases e <;> try (exact absurd h Bool.false_ne_true)
    exact se_lst (sA as G F h)
  | .ix a i, C, X, G, F, e, h => by
    cases e <;> try (exact absurd h Bool.false_ne_true)
    rw [mE, Bool.and_eq_true] at h
    exact se_ix (sE a G F h.1) (sE i G F h.2) (ix_ok (plain_ok h.2))
  | .sl a lo hi, C, X, G, F, e, h => by
    unfold mE at h
    split at h
    · rename_i x l u p2 pos
      simp only [Bool.and_eq_true] at h
      refine se_sl (sE a G F h.1.1) ?_ ?_
      · have hl := h.1.2
        cases l with
        | none => exact po_absent hl
        | some y =>
          simp only [Bool.and_eq_true, Bool.not_eq_true'] at hl
          exact po_there hl.1 (sE lo G F hl.2)
      · have hl := h.2
        cases u with
        | none => exact po_absent hl
        | some y =>
          simp only [Bool.and_eq_true, Bool.not_eq_true'] at hl
          exact po_there hl.1 (sE hi G F hl.2)
    · cases h
  | .rng _ _, C, X, G, F, e, h => by cases h
  | .rev _, C, X, G, F, e, h => by cases h
  | .star _, C, X, G, F, e, h => by cases h
  | .tupS as, C, X, G, F, e, h => by
    cases e <;> try (exact absurd h Bool.false_ne_true)
    exact se_tupS (sI as G F h)
  | .gidx x vs a, C, X, G, F, e, h => by
    unfold mE at h
    split at h
    · rename_i y p name apos z pos
      simp only [Bool.and_eq_true, decide_eq_true_eq] at h
      obtain ⟨⟨⟨⟨⟨rfl, rfl⟩, h2⟩, h3⟩, h4⟩, h5⟩ := h
      obtain ⟨g1, g2⟩ := gl_of (X := X) (by rw [G.sc]; exact h2)
      split at h5
      · rename_i w hw
        cases same_ok h5
        obtain ⟨f, u, v', c1, c2, c3, c4⟩ := F.cs _ _ hw
        have st := star_ok (plain_ok h4) [] X.env
        have few : ((backTo pos (starEach [z] X.env)).all (fun x => !x.1) && (backToKw pos (keywordEach [] X.env)).all (fun x => x.1.isSome)
          && decide (([z] : List Expr).length + ([] : List Keyword).length + (if ([] : List Keyword).isEmpty then 0 else 1) < 30)) = true := by rw [st]; rfl
        exact se_gidx g1 (by rw [G.mg]; exact c1) c2 (by rw [G.K]; exact c3) g2 (by rw [G.K]; exact c4 _ rfl) (sE a G F h4) (fun {r to t} hr po pa => pe_bm PySem.F.plainAttrs_tuple PySem.F.slot_tuple_index PySem.F.type_tuple_index hr po pa rfl few h3 st rfl) st
      · cases h5
    · cases h
  | .fmt a, C, X, G, F, e, h => by
    unfold mE at h
    split at h
    · simp only [Bool.and_eq_true, decide_eq_true_eq] at h
      obtain ⟨rfl, h2⟩ := h
      exact se_fmt (sE a G F h2)
    · cases h
  | .fstr as, C, X, G, F, e, h => by
    unfold mE at h
    split at h
    · exact se_fstr (sJ as G F h)
    · cases h
  | .dix x kvs a, C, X, G, F, e, h => by
    unfold mE at h
    split at h
    · rename_i y p k pos
      simp only [Bool.and_eq_true, decide_eq_true_eq] at h
      obtain ⟨⟨⟨rfl, h1⟩, h3⟩, h4⟩ := h
      obtain ⟨g1, g2⟩ := gl_of (X := X) (by rw [G.sc]; exact h1)
      split at h3
      · rename_i w hw
        cases sameD_ok h3
        obtain ⟨dd, es, n, c1, c2, c3⟩ := F.ds _ _ hw
        have D : KDict X.K X.w dd es n := by rw [G.K, G.w]; exact c2
        exact se_dix D c3 (pe_glob (v := .ref dd) g1 (by rw [G.mg]; exact c1) rfl g2) (sE a G F h4) (ix_ok (plain_ok h4))
      · cases h3
    · cases h
  | .gget x kvs a b, C, X, G, F, e, h => by
    unfold mE at h
    split at h
    · rename_i y p name apos k d pos
      simp only [Bool.and_eq_true, decide_eq_true_eq] at h
      obtain ⟨⟨⟨⟨⟨⟨rfl, rfl⟩, h1⟩, h2⟩, h3⟩, h4⟩, h5⟩ := h
      obtain ⟨g1, g2⟩ := gl_of (X := X) (by rw [G.sc]; exact h1)
      split at h3
      · rename_i w hw
        cases sameD_ok h3
        obtain ⟨dd, es, n, c1, c2, c3⟩ := F.ds _ _ hw
        have s1 := star_ok (plain_ok h4) [d] X.env
        have s2 : starEach [d] X.env = [(false, eval d X.env)] := star_ok (plain_ok h5) [] X.env
        rw [s2] at s1
        have D : KDict X.K X.w dd es n := by rw [G.K, G.w]; exact c2
        refine se_gget D c3 (pe_glob (v := .ref dd) g1 (by rw [G.mg]; exact c1) rfl g2) (sE a G F h4) (sE b G F h5) ⟨rfl, ?_, h2, ?_⟩
        · rw [s1]; rfl
        · rw [s1]; rfl
      · cases h3
    · cases h
  | .dnew t, C, X, G, F, e, h => by
    unfold mE at h
    split at h
    · exact se_dnew
    · cases h
  | .dsp k v, C, X, G, F, e, h => by
    unfold mE at h
    split at h
    · rw [Bool.and_eq_true] at h
      exact se_dsp (by have := G.room.un; omega) (sE k G F h.1) (sE v G F h.2)
    · cases h
  | .dhas neg k d, C, X, G, F, e, h => by
    unfold mE at h
    split at h
    · simp only [Bool.and_eq_true, decide_eq_true_eq] at h
      obtain ⟨⟨h1, h2⟩, h3⟩ := h
      exact se_dhas (by have := G.room.un; omega) h1 (sE k G F h2) (sE d G F h3) (mark_ok (plain_ok h3) _)
    · cases h
  | .dget d k, C, X, G, F, e, h => by
    unfold mE at h
    split at h
    · rw [Bool.and_eq_true] at h
      exact se_dget (by have := G.room.un; omega) (sE d G F h.1) (sE k G F h.2) (nosl_ok (plain_ok h.2))
    · cases h
  | .dgt2 d k z, C, X, G, F, e, h => by
    unfold mE at h
    split at h
    · rename_i o name apos x y pos
      simp only [Bool.and_eq_true, decide_eq_true_eq, Bool.not_eq_true'] at h
      obtain ⟨⟨⟨⟨⟨rfl, h1⟩, h2⟩, h3⟩, h4⟩, h5⟩ := h
      have s1 := star_ok (plain_ok h4) [y] X.env
      have s2 : starEach [y] X.env = [(false, eval y X.env)] := star_ok (plain_ok h5) [] X.env
      rw [s2] at s1
      refine se_dgt2 (by have := G.room.un; omega) (sE d G F h1) (sE k G F h4) (sE z G F h5) ⟨base_ok h3, ?_, h2, ?_⟩
      · rw [s1]; rfl
      · rw [s1]; rfl
    · cases h
  | .dsdf d k z, C, X, G, F, e, h => by
    unfold mE at h
    split at h
    · rename_i o name apos x y pos
      simp only [Bool.and_eq_true, decide_eq_true_eq, Bool.not_eq_true'] at h
      obtain ⟨⟨⟨⟨⟨rfl, h1⟩, h2⟩, h3⟩, h4⟩, h5⟩ := h
      have s1 := star_ok (plain_ok h4) [y] X.env
      have s2 : starEach [y] X.env = [(false, eval y X.env)] := star_ok (plain_ok h5) [] X.env
      rw [s2] at s1
      refine se_dsdf (by have := G.room.un; omega) (sE d G F h1) (sE k G F h4) (sE z G F h5) ⟨base_ok h3, ?_, h2, ?_⟩
      · rw [s1]; rfl
      · rw [s1]; rfl
    · cases h
  | .dlen d, C, X, G, F, e, h => by
    unfold mE at h
    split at h
    · rename_i x p y pos
      simp only [Bool.and_eq_true, decide_eq_true_eq] at h
      obtain ⟨⟨⟨rfl, h1⟩, h2⟩, h3⟩ := h
      obtain ⟨g1, g2⟩ := gl_of (X := X) (by rw [G.sc]; exact h2)
      exact se_dlen (sE d G F h3) g1 (by rw [G.mg]; exact F.bl _ h1) (star_ok (plain_ok h3) _ _)
    · cases h
  | .lcv elt g i, C, X, G, F, e, h => by
    unfold mE at h
    split at h
    · rename_i x tg y p name apos pos scope pos2
      simp only [Bool.and_eq_true, decide_eq_true_eq, Bool.not_eq_true'] at h
      obtain ⟨⟨⟨⟨⟨rfl, h1⟩, h2⟩, h3⟩, h4⟩, h5⟩ := h
      have hv : SE X call (.var i) (.Name y p) := se_var (by rw [G.N]; exact h1.1.1.1) (vis_of (by rw [G.sc]; exact h1.1.1.2)) h1.1.2 h1.2
      have ok : BlkOk X.N X.env.scope scope (g.own C.N) := by rw [G.N, G.sc]; exact blkOk_by h3
      have q := pe_lc (pos := pos2) (own := g.own C.N) (g := gOf X.K g) (tt := tYes) (te := rd X.K (ev call elt .val)) G.calm G.nd (pi_values (tg := tg) hv.use rfl h2) ok
        (fun s H a cl fp => pgG (G.blk s H scope a cl fp) h4) (fun s H a cl fp => pts_nil) (fun s H a cl fp => (sE elt (G.blk s H scope a cl fp) ⟨F.fn, F.fnX, F.xs, F.os, F.cs, F.bl, F.ds⟩ h5).val) (fun _ => rfl)
      rw [own_slots] at q
      exact se_lcv q fun _ => rfl
    · cases h
  | .enm _, C, X, G, F, e, h => by cases h
  | .zip _, C, X, G, F, e, h => by cases h
  | .fld c a f, C, X, G, F, e, h => by
    unfold mE at h
    split at h
    · rename_i y p g pos
      simp only [Bool.and_eq_true, decide_eq_true_eq] at h
      obtain ⟨⟨rfl, h1⟩, h2⟩ := h
      split at h1
      · rename_i w q
        obtain ⟨C', a1, a2, a3, a4, a5⟩ := F.os _ _ q
        exact se_fld (sE a G F h2) (by rw [G.K]; exact a1) (by rw [G.K]; exact a3) (by rw [G.K]; exact a4 _ h1) rfl
      · cases h1
    · cases h
  | .mth g c m o as, C, X, G, F, e, h => by
    unfold mE at h
    split at h
    · rename_i y p m' apos es pos
      simp only [Bool.and_eq_true, decide_eq_true_eq, Bool.not_eq_true', decide_eq_false_iff_not] at h
      obtain ⟨⟨⟨⟨⟨⟨rfl, h1⟩, h2⟩, h5⟩, h6⟩, h3⟩, h4⟩ := h
      split at h2
      · rename_i w q
        obtain ⟨C', a1, a2, a3, a4, a5, _⟩ := F.os _ _ q
        obtain ⟨a, fd, ps, b2, b3, b4⟩ := a5 _ _ (of_decide_eq_true h2) h1
        have b4' : FnR X.prog X.w X.K X.mg X.base CX0 k a fd ps (spEv X.K (call g)) := by rw [G.P, G.w, G.K, G.mg, G.base]; exact fn_plainR b4
        have cl : Cls X.K C' := by rw [G.K]; exact a3
        have mt : Meth X.K C' m' a := by rw [G.K]; exact b2
        have bb : Binds X.K fd ps [] := by rw [G.K]; exact b3
        have few : methodCallForm (es.length + ([] : List Keyword).length) (backTo pos (starEach es X.env)) (backToKw pos (keywordEach [] X.env)) = true := by
          have al : (backTo pos (starEach es X.env)).all (fun x => !x.1) = true := by
            rw [List.all_eq_true]
            intro x hx
            have := List.any_eq_false.mp (any_ok (env := X.env) (pos := pos) h4) x hx
            simpa using this
          unfold methodCallForm
          rw [al]
          show (true && true && decide (es.length + 0 + 0 < 30)) = true
          rw [decide_eq_true (by omega)]; rfl
        refine se_mth (sE o G F h3) (sA as G F h4) (by rw [G.K]; exact a1) ?_ fun _ => rfl
        cases es with
        | nil =>
          cases as with
          | cons _ _ => cases h4
          | nil =>
            refine (pe_methR0 (sE o G F h3).use cl mt b4' (G.rmO q) bb pass0S (meth_tree few h5 rfl)).imp fun σ H Q ⟨μ, env, st, v, st', ok, r, e, g⟩ => ?_
            refine ⟨μ, env, st, v, st', ok, r, e, fun μ1 H1 x' s1 o1 r1 => ?_⟩
            obtain ⟨a', dx, fs, e1, e2, e3, ⟨μ2, env2, st2, v2, st2', o2, r2, h7, g2⟩⟩ := g μ1 H1 x' s1 o1 r1
            rw [evA] at h7
            cases h7
            exact ⟨a', dx, fs, e1, e2, e3, g2 μ2 H1 [] StX.refl o2 .nil⟩
        | cons z zs =>
          have hh : plainE z = true ∧ (backTo pos (starEach zs X.env)).any (·.1) = false := by
            cases as with
            | nil => cases h4
            | cons a as =>
              rw [mA, Bool.and_eq_true] at h4
              exact ⟨plain_ok h4.1, any_ok h4.2⟩
          exact pe_methR (sE o G F h3).use cl mt b4' (G.rmO q) bb pass0S (sA as G F h4).kept (star_ok hh.1 _ _) hh.2 (meth_tree few h5 rfl)
      · cases h2
    · cases h
  | .new g c as, C, X, G, F, e, h => by
    unfold mE at h
    split at h
    · rename_i y p es pos
      simp only [Bool.and_eq_true, decide_eq_true_eq] at h
      obtain ⟨⟨⟨rfl, h1⟩, h2⟩, h4⟩ := h
      split at h2
      · rename_i w q
        obtain ⟨C', a1, a2, a3, a4, _, a5⟩ := F.os _ _ q
        obtain ⟨g1, g2⟩ := gl_of (X := X) (by rw [G.sc]; exact h1)
        rcases a5 _ (of_decide_eq_true h2) with bad | ⟨j, a, fd, ps, cf, hk, b1, b2, b3, b4⟩
        · exact se_newBad bad fun _ => rfl
        · have e1 : call g = cf := by funext as st; exact b1 as st
          have b4' : FnR X.prog X.w X.K X.mg X.base CX0 j a fd ps (spEv X.K (call g)) := by rw [G.P, G.w, G.K, G.mg, G.base, e1]; exact fn_plainR b4
          have bb : Binds X.K fd ps [] := by rw [G.K]; exact b3
          have mk : Mk X.K C' a := by rw [G.K]; exact b2
          have hm : X.mg y = some (.ref C') := by rw [G.mg]; exact a2
          refine se_new (sA as G F h4) (by rw [G.K]; exact a1) ?_ fun _ => rfl
          cases es with
          | nil =>
            cases as with
            | cons _ _ => cases h4
            | nil =>
              refine (pe_makeR0 mk b4' (hk ▸ G.rmO q) g1 hm bb pass0S g2).imp fun σ H Q ⟨μ, env, st, v, st', ok, r, e, g⟩ => ?_
              rw [evA] at e
              cases e
              exact g μ H [] StX.refl ok .nil
          | cons z zs =>
            have hh : plainE z = true ∧ (backTo pos (starEach zs X.env)).any (·.1) = false := by
              cases as with
              | nil => cases h4
              | cons a as =>
                rw [mA, Bool.and_eq_true] at h4
                exact ⟨plain_ok h4.1, any_ok h4.2⟩
            exact pe_makeR mk b4' (hk ▸ G.rmO q) g1 hm bb pass0S (sA as G F h4).kept g2 (star_ok hh.1 _ _) hh.2
      · cases h2
    · cases h
  | .isd a, C, X, G, F, e, h => by
    unfold mE at h
    split at h
    · simp only [Bool.and_eq_true, decide_eq_true_eq, Bool.not_eq_true'] at h
      obtain ⟨⟨⟨rfl, h1⟩, h2⟩, h3⟩ := h
      exact se_isd (sE a G F h3) (base_ok2 h2) h1
    · cases h
  | .mxd a d, C, X, G, F, e, h => by
    unfold mE at h
    split at h
    · rename_i f p x kw i j p2 p3 pos
      simp only [Bool.and_eq_true, decide_eq_true_eq] at h
      obtain ⟨⟨⟨⟨⟨rfl, h1⟩, h2⟩, rfl⟩, rfl⟩, h5⟩ := h
      exact se_mxd (sE a G F h5) G.calm (by have := G.room.un; omega) (gl_of (X := X) (by rw [G.sc]; exact h2)).1 (by rw [G.mg]; exact F.bl _ h1) (star_ok (plain_ok h5) _ _)
    · cases h
  | .isi t a, C, X, G, F, e, h => by
    unfold mE at h
    split at h
    · rename_i f p x y p2 pos
      simp only [Bool.and_eq_true, decide_eq_true_eq] at h
      obtain ⟨⟨⟨⟨⟨⟨rfl, h1⟩, h2⟩, rfl⟩, h3⟩, h4⟩, h5⟩ := h
      exact se_isi (sE a G F h5) (gl_of (X := X) (by rw [G.sc]; exact h2)).1 (by rw [G.mg]; exact F.bl _ h1) (gl_of (X := X) (by rw [G.sc]; exact h4)).1 (by rw [G.mg]; exact F.bl _ h3) (star_ok (plain_ok h5) _ _)
    · cases h
  | .lc elt g src has c, C, X, G, F, e, h => by
    by_cases hn : ∀ a b, src ≠ .rng a b
    · rw [mE_lc hn] at h
      split at h
      · rename_i x tg iter ifs scope pos
        simp only [Bool.and_eq_true] at h
        obtain ⟨⟨⟨⟨h1, h2⟩, h3⟩, h4⟩, h5⟩ := h
        exact lc_mk G (pi_used (sE src G F h1)) (set_ok (plain_ok h1) _) h2 h3 h4
          (fun G' t ht => sE c G' ⟨F.fn, F.fnX, F.xs, F.os, F.cs, F.bl, F.ds⟩ ht) (fun G' => sE elt G' ⟨F.fn, F.fnX, F.xs, F.os, F.cs, F.bl, F.ds⟩ h5) fun _ _ _ => ev_lc hn
      · cases h
    · cases src with
      | rng a b => exact lc_rng G F h (fun h => sE a G F h) (fun h => sE b G F h) (fun G F _ h => sE c G F h) (fun G F _ h => sE elt G F h)
      | _ => exact absurd (fun a b z => by cases z) hn
termination_by m => sizeOf m
theorem sJ : ∀ (as : MEs) {C : Ct} {X : Cx} (G : Gd W C k X) (F : Fx W C k call) {es : List Expr}, mA C as es = true → SJ X call as es
  | .nil, C, X, G, F, es, h => by
    cases es with
    | nil => exact sj_nil
    | cons _ _ => cases h
  | .cons a as, C, X, G, F, es, h => by
    cases es with
    | nil => cases h
    | cons e es =>
      rw [mA, Bool.and_eq_true] at h
      exact sj_cons (sE a G F h.1) (sJ as G F h.2)
termination_by as => sizeOf as
theorem sA : ∀ (as : MEs) {C : Ct} {X : Cx} (G : Gd W C k X) (F : Fx W C k call) {es : List Expr}, mA C as es = true → SA X call as es
  | .nil, C, X, G, F, es, h => by
    cases es with
    | nil => exact sa_nil
    | cons _ _ => cases h
  | .cons a as, C, X, G, F, es, h => by
    cases es with
    | nil => cases h
    | cons e es =>
      rw [mA, Bool.and_eq_true] at h
      exact sa_cons (sE a G F h.1) (sA as G F h.2) (star_ok (plain_ok h.1) _ _)
termination_by as => sizeOf as
theorem sI : ∀ (as : MEs) {C : Ct} {X : Cx} (G : Gd W C k X) (F : Fx W C k call) {es : List Expr}, mI C as es = true → PA X es (rdA X.K (evI call as))
  | .nil, C, X, G, F, es, h => by
    cases es with
    | nil => exact pi_nil
    | cons _ _ => cases h
  | .cons a as, C, X, G, F, es, h => by
    by_cases hs : ∃ b, a = .star b
    · obtain ⟨b, rfl⟩ := hs
      unfold mI at h
      split at h
      · rw [Bool.and_eq_true] at h
        exact pi_star (sE b G F h.1) (sI as G F h.2) rfl
      · cases h
    · have hn : ∀ b, a ≠ .star b := fun b e => hs ⟨b, e⟩
      cases es with
      | nil => cases a <;> first | (cases h; done) | (exact (hn _ rfl).elim)
      | cons e es =>
        have h : (mE C a e && mI C as es) = true := by
          cases a <;> first | (exact (hn _ rfl).elim; done) | (unfold mI at h; exact h)
        simp only [Bool.and_eq_true] at h
        exact pi_cons hn (sE a G F h.1) (sI as G F h.2) (star_ok (plain_ok h.1) _ _)
termination_by as => sizeOf as
end
end
end U

set_option maxHeartbeats 8000000
/-! U12: statements. -/
namespace U
open PySem PySem.Spec PyProof.Rows L2
/-! ### is this text that program -/
def notLc : Expr → Bool
  | .ListComp .. => false
  | .SetComp .. => false
  | .DictComp .. => false
  | _ => true
def notTup : Expr → Bool
  | .Tuple .. => false
  | _ => true
def mV1 (C : Ct) (i : Nat) (e : Expr) : Bool := match e with
  | .Name x _ => decide (C.N[i]? = some x) && locB C.sc x
  | _ => false
def mVs (C : Ct) : List Nat → List Expr → Bool
  | [], [] => true
  | i :: is, e :: es => mV1 C i e && mVs C is es
  | _, _ => false
def mV (C : Ct) (g : MG) (e : Expr) : Bool := match g, e with
  | .nm i, e => mV1 C i e
  | .tp is, .Tuple es _ _ => mVs C is es
  | _, _ => false
/-- x = [..] on one line, x a local -/
def lcOk (C : Ct) (x : Str) (px : Pos) (v : Expr) : Bool := match v with
  | .ListComp _ _ scope p => decide (C.sc.kind = .function) && decide (C.sc.names.lookup x = some .local) && (px.line == p.line) && !(scope.names.any fun (n, k) => n == x && (k == .local || k == .cell))
  | _ => false
def isLcv : ME → Bool
  | .lcv _ _ _ => true
  | _ => false
/-- what a for walks -/
def mSrc (C : Ct) : ME → Expr → Bool
  | .rng a b, e => match e with
    | .Call (.Name f _) es [] _ => decide (f = "range") && C.bl.contains "range" && glB C.sc f && (match es with
        | [y] => (match a with
          | .con (.int 0) => mE C b y
          | _ => false)
        | [z, y] => mE C a z && mE C b y
        | _ => false)
    | _ => false
  | .rev a, e => match e with
    | .Call (.Name f _) [y] [] _ => decide (f = "reversed") && C.bl.contains "reversed" && glB C.sc f && mE C a y
    | _ => false
  | .enm a, e => match e with
    | .Call (.Name f _) [y] [] _ => decide (f = "enumerate") && C.bl.contains "enumerate" && glB C.sc f && mE C a y
    | _ => false
  | m, e => mE C m e
def isEnm : ME → Bool
  | .enm _ => true
  | _ => false
def isTupE : Expr → Bool
  | .Tuple _ _ _ => true
  | _ => false
/-- one text -/
def isMsg (z : Expr) (zs : List Expr) : Bool := match z, zs with
  | .Constant (.str _) _ _, [] => true
  | _, _ => false
/-- .. an expression that may raise -/
def mX (C : Ct) : MX → Expr → Bool
  | .fn f as, e => mE C (.fn f as) e
  | .mth g c m o as, e => mE C (.mth g c m o as) e
  | .new g c as, e => mE C (.new g c as) e
  | .tup as x, e => match e with
    | .Tuple es _ _ => match es.reverse with
      | y :: r => mA C as r.reverse && mX C x y
      | [] => false
    | _ => false
  | .lst x, e => match e with
    | .List [y] _ => mX C x y
    | _ => false
mutual
def mS (C : Ct) : MS → Stmt → Bool
  | .set i e own, s => match s with
    | .Assign [.Name x px] v pos => decide (C.N[i]? = some x) && locB C.sc x && mE C e v && (notLc v || (lcOk C x px v && !isLcv e))
    | _ => false
  | .setT is e, s => match s with
    | .Assign [.Tuple es k p] v pos => mVs C is es && mE C e v && notLc v && notTup v
    | _ => false
  | .par i j as, s => match s with
    | .Assign [.Tuple [.Name x px, .Name y py] kt pt] (.Tuple [a, b] k2 pt2) pos => decide (C.N[i]? = some x) && decide (C.N[j]? = some y) && !(i == j) && !(x == y) && decide (C.sc.names.lookup x = some .local) && decide (C.sc.names.lookup y = some .local) &&
        (py.line == px.line) && !(foldedForSure 8 a && foldedForSure 8 b) && !(constantsAlone 8 a && constantsAlone 8 b) && mA C as [a, b]
    | _ => false
  | .setIx a i e, s => match s with
    | .Assign [.Subscript o x p] v pos => mE C a o && mE C i x && mE C e v && notLc v
    | _ => false
  | .dput d k e, s => match s with
    | .Assign [.Subscript o x p] v pos => mE C d o && mE C k x && mE C e v && notLc v
    | _ => false
  | .swp a i b j e, s => match s with
    | .Assign [.Tuple [.Subscript o x p1, .Subscript o2 x2 p2] kt pt] v pos => mE C a o && mE C i x && mE C b o2 && mE C j x2 && mE C e v && notLc v
    | _ => false
  | .ins a as, s => match s with
    | .Expr (.Call (.Attribute o name apos) [x, y] [] cpos) pos => decide (name = "insert") && (apos.endLine == cpos.line) && mE C a o && !(match o with
        | .Call _ [] [] _ => true
        | _ => false) && mA C as [x, y]
    | _ => false
  | .setSl a lo hi e, s => match s with
    | .Assign [.Subscript o (.Slice (some l) (some u) none p2) p1] (.List es p3) pos => mE C a o && mE C lo l && mE C hi u && mE C e (.List es p3)
    | _ => false
  | .aug i o e, s => match s with
    | .AugAssign (.Name x p) op v pos => decide (op = bop o) && decide (C.N[i]? = some x) && locB C.sc x && mE C e v
    | _ => false
  | .ex e, s => match s with
    | .Expr v pos => mE C e v && notLc v
    | _ => false
  | .ext i e, s => match s with
    | .Expr (.Call (.Attribute (.Name x p) name apos) [y] [] cpos) pos => decide (name = "extend") && (apos.endLine == cpos.line) && mE C (.var i) (.Name x p) && mE C e y
    | _ => false
  | .app i e, s => match s with
    | .Expr (.Call (.Attribute (.Name x p) name apos) [y] [] cpos) pos => decide (name = "append") && (apos.endLine == cpos.line) && mE C (.var i) (.Name x p) && mE C e y
    | _ => false
  | .ret e, s => match s with
    | .Return (some v) pos => mE C e v
    | _ => false
  | .ret0, s => match s with
    | .Return none pos => true
    | _ => false
  | .raise c flds g as, s => match s with
    | .Raise (some (.Call (.Name x p) (z :: zs) [] cpos)) none pos => decide (x = c) && glB C.sc x && decide (C.xs.er.lookup c = some (flds, g)) && (if flds.isEmpty then isMsg z zs else decide (flds.length ≤ 1000) && mA C as (z :: zs))
    | _ => false
  | .setX i f as own, s => match s with
    | .Assign [.Name x px] (.Call (.Name y py) (z :: zs) [] cp) pos => decide (C.N[i]? = some x) && locB C.sc x && decide (C.fn.lookup y = some f) && glB C.sc y && mA C as (z :: zs)
    | _ => false
  | .retX f as, s => match s with
    | .Return (some (.Call (.Name y py) (z :: zs) [] cp)) pos => decide (C.fn.lookup y = some f) && glB C.sc y && mA C as (z :: zs)
    | _ => false
  | .exX f as, s => match s with
    | .Expr (.Call (.Name y py) (z :: zs) [] cp) pos => decide (C.fn.lookup y = some f) && glB C.sc y && mA C as (z :: zs)
    | _ => false
  | .never, _ => true
  | .setE i x own, s => match s with
    | .Assign [.Name y py] v pos => decide (C.N[i]? = some y) && locB C.sc y && mX C x v
    | _ => false
  | .retE x, s => match s with
    | .Return (some v) pos => mX C x v
    | _ => false
  | .exE x, s => match s with
    | .Expr v pos => mX C x v
    | _ => false
  | .appE i x, s => match s with
    | .Expr (.Call (.Attribute (.Name z p) name apos) [y] [] cpos) pos => decide (name = "append") && (apos.endLine == cpos.line) && mE C (.var i) (.Name z p) && mX C x y
    | _ => false
  | .extE i x, s => match s with
    | .Expr (.Call (.Attribute (.Name z p) name apos) [y] [] cpos) pos => decide (name = "extend") && (apos.endLine == cpos.line) && mE C (.var i) (.Name z p) && mX C x y
    | _ => false
  | .apsE a x, s => match s with
    | .Expr (.Call (.Attribute (.Name z p) name apos) [y] [] cpos) pos => decide (name = "append") && (apos.endLine == cpos.line) && mE C a (.Name z p) && mX C x y
    | _ => false
  | .setFE c a f x, s => match s with
    | .Assign [.Attribute (.Name y p) g p'] v pos => decide (g = f) && (match C.xs.ob.lookup c with
      | some w => w.1.contains f
      | none => false) && mE C a (.Name y p) && mX C x v
    | _ => false
  | .setF c a f e, s => match s with
    | .Assign [.Attribute (.Name y p) g p'] v pos => decide (g = f) && (match C.xs.ob.lookup c with
      | some w => w.1.contains f
      | none => false) && mE C a (.Name y p) && mE C e v && notLc v
    | _ => false
  | .augF c a f o e, s => match s with
    | .AugAssign (.Attribute (.Name y p) g p') op v pos => decide (g = f) && (match o, op with
      | .add, .Add => true
      | .sub, .Sub => true
      | _, _ => false) && (match C.xs.ob.lookup c with
      | some w => w.1.contains f
      | none => false) && mE C a (.Name y p) && mE C e v
    | _ => false
  | .tryR _ _ _, _ => false
  | .tabQ _ _, _ => false
  | .ite t a b, s => match s with
    | .If c x y pos => mE C t c && mSs C a x && mSs C b y
    | _ => false
  | .whl t b, s => match s with
    | .While c x [] pos => mE C t c && mSs C b x
    | _ => false
  | .for_ g src b, s => match s with
    | .For tg iter x [] pos => mV C g tg && mSrc C src iter && plainE iter && mSs C b x && (!isEnm src || isTupE tg)
    | _ => false
  | .forZ g as b, s => match s with
    | .For (.Tuple elts kk tpos) (.Call (.Name f _) [y, z] [] _) x [] pos => decide (f = "zip") && C.bl.contains "zip" && glB C.sc f && mV C g (.Tuple elts kk tpos) && mA C as [y, z] && mSs C b x
    | _ => false
  | .brk, s => match s with
    | .Break _ => true
    | _ => false
  | .cnt, s => match s with
    | .Continue _ => true
    | _ => false
  | .pass, s => match s with
    | .Pass _ => true
    | _ => false
def mSs (C : Ct) : MSs → List Stmt → Bool
  | .nil, l => match l with
    | [] => true
    | _ => false
  | .cons s ss, l => match l with
    | [] => false
    | x :: xs => mS C s x && mSs C ss xs
end

/-! ### readings -/
section
variable {K : PySem.W.Frag} {μ : Nat → Addr} {L : Nat} {H : Hp} {X : Cx} {call : Nat → List PV → Store → Res PV}
/-- the lists of its own -/
def Own (env : En) (σ : L2.St) : Addr → Prop := fun a => ∃ (i : Nat) (xs : List PV), env[i]? = some (some (.fl xs)) ∧ σ[i]? = some (some (.ref a))
structure S1 (K : PySem.W.Frag) (μ : Nat → Addr) (L : Nat) (H : Hp) (env : En) (σ : L2.St) : Prop where
  re : RE K μ L H env σ
  de : ∀ (i j : Nat) (xs ys : List PV) (a : Addr), i ≠ j → env[i]? = some (some (.fl xs)) → env[j]? = some (some (.fl ys)) → σ[i]? = some (some (.ref a)) → σ[j]? = some (some (.ref a)) → False
theorem Own.there {env : En} {σ : L2.St} {a : Addr} (r : RE K μ L H env σ) (h : Own env σ a) : ∃ vs, H a = some (.lst vs) := by
  obtain ⟨i, xs, h1, h2⟩ := h
  obtain ⟨v, h3, h4⟩ := r.at_ i _ h1
  rw [h2] at h3
  cases h3
  cases h4 with
  | fl h5 _ _ => exact ⟨_, h5⟩
theorem S1.mono {μ1 : Nat → Addr} {L1 : Nat} {H1 : Hp} {env : En} {σ : L2.St} (s : Stp μ L H μ1 L1 H1) (r : S1 K μ L H env σ) : S1 K μ1 L1 H1 env σ := ⟨r.re.mono s, r.de⟩
/-- what is wished of an error; where its class stands -/
structure XW where
  mg : Str → Option Value
  W : WX
def post (K : PySem.W.Frag) (wx : XW) (S : Addr → Prop) (μ : Nat → Addr) (st : Store) (H : Hp) (r : SR) (D : Ends) : Prop := match r with
  | .nx e s => ∀ μ' H' σ', StX S μ st.length H μ' s.length H' → Ok K μ' s H' → S1 K μ' s.length H' e σ' → (∀ a, Own e σ' a → S a ∨ H a = none) → D.nx σ' H'
  | .bk e s => ∀ μ' H' σ', StX S μ st.length H μ' s.length H' → Ok K μ' s H' → S1 K μ' s.length H' e σ' → (∀ a, Own e σ' a → S a ∨ H a = none) → D.bk σ' H'
  | .ct e s => ∀ μ' H' σ', StX S μ st.length H μ' s.length H' → Ok K μ' s H' → S1 K μ' s.length H' e σ' → (∀ a, Own e σ' a → S a ∨ H a = none) → D.ct σ' H'
  | .rt v s => ∀ μ' H' v', StX S μ st.length H μ' s.length H' → Ok K μ' s H' → RV K μ' s.length H' v v' → (∀ a, v.isFl = true → v' = .ref a → S a ∨ H a = none) → D.rt v' H'
  | .xc c fs e s => ∀ μ' H' σ' C d, StX S μ st.length H μ' s.length H' → Ok K μ' s H' → S1 K μ' s.length H' e σ' → (∀ a, Own e σ' a → S a ∨ H a = none) → wx.mg c = some (.ref C) → XD K μ' s.length H' fs d → wx.W (.ref C) d σ' H'
  | .bad => False
def rdS (K : PySem.W.Frag) (wx : XW) (m : En → Store → SR) : TS := fun D σ H => ∃ μ env st, Ok K μ st H ∧ S1 K μ st.length H env σ ∧ post K wx (Own env σ) μ st H (m env st) D
theorem post.shift {S S' : Addr → Prop} {μ1 : Nat → Addr} {st st1 : Store} {H1 : Hp} {wx : XW} {r : SR} {D : Ends} (s : StX S μ st.length H μ1 st1.length H1) (hs : ∀ a, S' a → S a ∨ H a = none) (p : post K wx S μ st H r D) : post K wx S' μ1 st1 H1 r D := by
  have own : ∀ a, S' a ∨ H1 a = none → S a ∨ H a = none := fun a z => z.elim (hs a) fun z => .inr (s.there a z)
  cases r with
  | nx e t => exact fun μ' H' σ' t o q w => p μ' H' σ' (s.trans t hs) o q fun a z => own a (w a z)
  | bk e t => exact fun μ' H' σ' t o q w => p μ' H' σ' (s.trans t hs) o q fun a z => own a (w a z)
  | ct e t => exact fun μ' H' σ' t o q w => p μ' H' σ' (s.trans t hs) o q fun a z => own a (w a z)
  | rt v t => exact fun μ' H' v' t o q w => p μ' H' v' (s.trans t hs) o q fun a z1 z2 => own a (w a z1 z2)
  | xc c fs e t => exact fun μ' H' σ' C d t o q w hm x => p μ' H' σ' C d (s.trans t hs) o q (fun a z => own a (w a z)) hm x
  | bad => exact p
theorem to_ok {α : Type} {r : Res α} {f : α → Store → SR} {wx : XW} {S : Addr → Prop} {st : Store} {D : Ends} (h : post K wx S μ st H (r.to f) D) : ∃ a st1, r = .ok a st1 ∧ post K wx S μ st H (f a st1) D := by
  cases r with
  | ok a st1 => exact ⟨a, st1, rfl, h⟩
  | xc _ _ _ => exact h.elim
  | bad => exact h.elim
theorem post.mono {S : Addr → Prop} {st : Store} {wx : XW} {r : SR} {D D' : Ends} (p : post K wx S μ st H r D) (hn : ∀ σ H, D.nx σ H → D'.nx σ H) (hr : ∀ v H, D.rt v H → D'.rt v H) (hb : ∀ σ H, D.bk σ H → D'.bk σ H) (hc : ∀ σ H, D.ct σ H → D'.ct σ H) : post K wx S μ st H r D' := by
  cases r with
  | nx e t => exact fun μ' H' σ' t o q w => hn _ _ (p μ' H' σ' t o q w)
  | bk e t => exact fun μ' H' σ' t o q w => hb _ _ (p μ' H' σ' t o q w)
  | ct e t => exact fun μ' H' σ' t o q w => hc _ _ (p μ' H' σ' t o q w)
  | rt v t => exact fun μ' H' v' t o q w => hr _ _ (p μ' H' v' t o q w)
  | xc c fs e t => exact p
  | bad => exact p
theorem _root_.L2.PS.imp {st : Stmt} {t t' : TS} (h : PS X st t) (i : ∀ D σ H, t' D σ H → t D σ H) : PS X st t' := ⟨fun pins s σ H D I q => h.run pins s σ H D I (i _ _ _ q)⟩
theorem _root_.L2.PSs.imp {st : List Stmt} {t t' : TS} (h : PSs X st t) (i : ∀ D σ H, t' D σ H → t D σ H) : PSs X st t' := ⟨fun pins s σ H D I q => h.run pins s σ H D I (i _ _ _ q)⟩

/-- a name gets a value that is shared or no list -/
theorem S1.set {env : En} {σ : L2.St} {x : PV} {v : V} (r : S1 K μ L H env σ) (q : RV K μ L H x v) (f : x.isFl = false) (i : Nat) : S1 K μ L H (env.set i (some x)) (σ.set i (some v)) ∧ ∀ a, Own (env.set i (some x)) (σ.set i (some v)) a → Own env σ a := by
  have key : ∀ (j : Nat) (xs : List PV) (a : Addr), (env.set i (some x))[j]? = some (some (.fl xs)) → (σ.set i (some v))[j]? = some (some (.ref a)) → env[j]? = some (some (.fl xs)) ∧ σ[j]? = some (some (.ref a)) := fun j xs a h1 h2 => by
    by_cases e : i = j
    · subst e
      by_cases hi : i < env.length
      · rw [List.getElem?_set_self hi] at h1
        cases h1; cases f
      · rw [List.getElem?_eq_none (by simp; omega)] at h1; cases h1
    · rw [List.getElem?_set_ne e] at h1 h2
      exact ⟨h1, h2⟩
  exact ⟨⟨r.re.set q i, fun j k xs ys a ne h1 h2 h3 h4 => let ⟨a1, a2⟩ := key j xs a h1 h3; let ⟨b1, b2⟩ := key k ys a h2 h4; r.de j k xs ys a ne a1 b1 a2 b2⟩, fun a ⟨j, xs, h1, h2⟩ => let ⟨a1, a2⟩ := key j xs a h1 h2; ⟨j, xs, a1, a2⟩⟩
/-- .. or a list that stands off its own lists -/
theorem S1.setFl {env : En} {σ : L2.St} {x : PV} {v : V} (r : S1 K μ L H env σ) (q : RV K μ L H x v) (f : ∀ a, x.isFl = true → v = .ref a → ¬ Own env σ a) (i : Nat) :
    S1 K μ L H (env.set i (some x)) (σ.set i (some v)) ∧ ∀ a, Own (env.set i (some x)) (σ.set i (some v)) a → Own env σ a ∨ (x.isFl = true ∧ v = .ref a) := by
  have key : ∀ (j : Nat) (xs : List PV) (a : Addr), (env.set i (some x))[j]? = some (some (.fl xs)) → (σ.set i (some v))[j]? = some (some (.ref a)) → (j ≠ i ∧ env[j]? = some (some (.fl xs)) ∧ σ[j]? = some (some (.ref a))) ∨ (j = i ∧ x.isFl = true ∧ v = .ref a) := fun j xs a h1 h2 => by
    by_cases e : i = j
    · subst e
      by_cases hi : i < env.length
      · rw [List.getElem?_set_self hi] at h1
        rw [List.getElem?_set_self (by rw [← r.re.len]; exact hi)] at h2
        cases h1; cases h2
        exact .inr ⟨rfl, rfl, rfl⟩
      · rw [List.getElem?_eq_none (by simp; omega)] at h1; cases h1
    · rw [List.getElem?_set_ne e] at h1 h2
      exact .inl ⟨fun z => e z.symm, h1, h2⟩
  refine ⟨⟨r.re.set q i, fun j k xs ys a ne h1 h2 h3 h4 => ?_⟩, fun a ⟨j, xs, h1, h2⟩ => ?_⟩
  · rcases key j xs a h1 h3 with ⟨_, a1, a2⟩ | ⟨rfl, f1, e1⟩
    · rcases key k ys a h2 h4 with ⟨_, b1, b2⟩ | ⟨rfl, f2, e2⟩
      · exact r.de j k xs ys a ne a1 b1 a2 b2
      · exact f a f2 e2 ⟨j, xs, a1, a2⟩
    · rcases key k ys a h2 h4 with ⟨_, b1, b2⟩ | ⟨e3, _, _⟩
      · exact f a f1 e1 ⟨k, ys, b1, b2⟩
      · exact ne e3.symm
  · rcases key j xs a h1 h2 with ⟨_, a1, a2⟩ | ⟨_, f1, e1⟩
    · exact .inl ⟨j, xs, a1, a2⟩
    · exact .inr ⟨f1, e1⟩
theorem S1.setEach {Q : L2.St → Hp → Prop} : ∀ {is : List Nat} {xs : List PV} {vs : List V} {env env' : En} {σ : L2.St}, U.setEach is xs env = some env' → S1 K μ L H env σ → RVs K μ L H xs vs →
    (∀ σ', S1 K μ L H env' σ' → (∀ a, Own env' σ' a → Own env σ a) → Q σ' H) → gAll is vs σ H Q
  | [], _, _, _, _, _, h, r, .nil, q => by
    cases h
    exact ⟨rfl, q _ r fun _ z => z⟩
  | [], _, _, _, _, _, h, _, .cons _ _ _, _ => by cases h
  | _ :: _, _, _, _, _, _, h, _, .nil, _ => by cases h
  | i :: is, _, _, _, _, _, h, r, .cons f rx rs, q =>
    ⟨_, _, rfl, S1.setEach h (r.set rx f i).1 rs fun σ' r' w => q σ' r' fun a z => (r.set rx f i).2 a (w a z)⟩
theorem S1.put {g : MG} {x : PV} {x' : V} {env env' : En} {σ : L2.St} {Q : L2.St → Hp → Prop} (h : g.put x env = some env') (r : S1 K μ L H env σ) (f : x.isFl = false) (rx : RV K μ L H x x')
    (q : ∀ σ', S1 K μ L H env' σ' → (∀ a, Own env' σ' a → Own env σ a) → Q σ' H) : gOf K g x' σ H Q := by
  cases g with
  | nm i =>
    cases h
    exact q _ (r.set rx f i).1 (r.set rx f i).2
  | tp is =>
    unfold MG.put at h
    simp only at h
    split at h
    · cases rx with
      | tup h1 r1 => exact ⟨_, _, rfl, h1, by rw [← r1.len]; exact setEach_len h, S1.setEach h r r1 q⟩
    · cases h
end
end U

namespace U
open PySem PySem.Spec PyProof PyProof.Rows L2
/-! ### a, b, .. = a list -/
section
variable {prog : Program} {w : World} {A : Around} {E : Value → Shared → Prop}
/-- so many items of a list from a place on -/
theorem draw_list {it l : Addr} {items : Array Value} (ne : l ≠ it) : ∀ (k at_ : Nat) (s : Shared) (Q : List Value → Shared → Prop), at_ + k = items.size → s.heap.IsListIter it l at_ → s.heap.IsList l items →
    (∀ h', h'.IsListIter it l items.size → h'.IsList l items → Heap.ExtBut it s.heap h' → Q (items.toList.drop at_) { s with heap := h' }) → wpAny (model prog w) A (draw (.ref it) k) Q E s := by
  intro k
  induction k with
  | zero =>
    intro at_ s Q e hi hl q
    have e : at_ = items.size := by omega
    subst e
    have q := q s.heap hi hl (fun b o hb e => e)
    have z : items.toList.drop items.size = [] := List.drop_eq_nil_of_le (by simp)
    rw [z] at q
    unfold draw
    exact wpAny_pure q
  | succ k ih =>
    intro at_ s Q e hi hl q
    have lt : at_ < items.size := by omega
    unfold draw
    refine wpAny_bind (wpAny_pyNext_list_item hi hl (x := items[at_]) (by simp [lt]) fun h1 i1 b1 => wpAny_bind (wpAny_holding (ih (at_ + 1) _ _ (by omega) i1 (hl.extBut b1.extBut ne) fun h2 i2 l2 b2 => wpAny_pure ?_)))
    have z : items.toList.drop at_ = items[at_] :: items.toList.drop (at_ + 1) := by
      rw [List.drop_eq_getElem_cons (by simpa using lt)]; simp
    have := q h2 i2 l2 (fun b o hb e => b2 b o hb (b1.extBut b o hb e))
    rw [z] at this
    exact this
/-- what stands in a list, to be handed out -/
theorem items_list {l : Addr} {items : Array Value} {s : Shared} {Q : List Value → Shared → Prop} (hh : A.handled = none) (hl : s.heap.IsList l items)
    (q : ∀ h', (∀ b o, s.heap.get? b = some o → h'.get? b = some o) → Q items.toList { s with heap := h' }) : wpAny (model prog w) A (unpackItems (.ref l) items.size none) Q E s := by
  have ne : l ≠ s.heap.objs.size := by
    obtain ⟨o, e, _⟩ := hl
    exact Nat.ne_of_lt (Heap.lt_size e)
  unfold unpackItems notIterableAtAll
  refine wpAny_bind (wpAny_bind (wpAny_specialOf hl.typeIs slot_list_iter.lookup (wpAny_pure ?_)))
  rw [if_neg (by simp)]
  refine wpAny_bind (wpAny_holding (wpAny_pyIter_list hl ?_))
  refine wpAny_bind (wpAny_holding (draw_list ne items.size 0 _ _ (by omega) ⟨_, Heap.get?_push_size _ rfl, rfl, rfl⟩ (hl.push _) fun h1 i1 l1 b1 => ?_))
  rw [List.drop_zero, if_neg (by simp)]
  refine wpAny_bind (wpAny_holding (wpAny_pyNext_list_end hh i1 l1 (by simp) fun h2 b2 => ?_))
  rw [if_neg (by simp)]
  refine wpAny_pure (q h2 fun b o e => ?_)
  have nb := Nat.ne_of_lt (Heap.lt_size e)
  exact b2 b o nb (b1 b o nb (Heap.get?_push_of_some _ e))
end
/-- (a, b, ..) = a list of that length -/
def gLst (K : PySem.W.Frag) (n : Nat) (t : TGs) : TG := fun v σ H Q => ∃ a xs, v = .ref a ∧ SqL K H a xs ∧ xs.length = n ∧ t xs σ H Q
theorem pg_lst {X : Cx} {pos : Pos} {es : List Expr} {k : Nat} {t : TGs} {n : Nat} (hc : X.calm = true) (h : PGs X es t)
    (hn : (assignEach es X.env).length = n) (hst : (assignEach es X.env).findIdx? (·.1) = none) : PG X (.Tuple es k pos) (gLst X.K n t) := by
  refine ⟨fun pins s σ H v u Q I r hw => ?_⟩
  obtain ⟨a, xs, rfl, hq, hl, hw⟩ := hw
  cases r
  obtain ⟨its, rv, p, hz⟩ := I.list hq
  have lz : its.toArray.size = n := by simp [← hl, rv.length]
  rw [PyProof.Rows.assign_Tuple]
  refine wpAny_bind (wpAny_standAt ?_)
  unfold unpack
  rw [hn, hst, ← lz]
  refine wpAny_bind (wpAny_holding (items_list (I.ok.hd hc) p.isList fun h' kp => ?_))
  exact h.run pins _ σ H xs _ Q (I.kept (t' := s.toks) kp) (by simpa using rv) hw
/-- (a, b, ..) = a tuple or a list of that length -/
def gSeq (K : PySem.W.Frag) (n : Nat) (t : TGs) : TG := fun v σ H Q => gTup K n t v σ H Q ∨ gLst K n t v σ H Q
theorem pg_seq {X : Cx} {pos : Pos} {es : List Expr} {k : Nat} {t : TGs} {n : Nat} (hc : X.calm = true) (h : PGs X es t)
    (hn : (assignEach es X.env).length = n) (hst : (assignEach es X.env).findIdx? (·.1) = none) : PG X (.Tuple es k pos) (gSeq X.K n t) :=
  ⟨fun pins s σ H v u Q I r hw => hw.elim ((pg_tup hc h hn hst).run pins s σ H v u Q I r) ((pg_lst hc h hn hst).run pins s σ H v u Q I r)⟩
end U

set_option maxHeartbeats 8000000
/-! U13: statements, one by one. -/
namespace U
open PySem PySem.Spec PyProof.Rows L2
theorem dups2 {x y : Str} (h : (x == y) = false) : ([x, y] : List Str).eraseDups.length = 2 := by
  have h' : (y == x) = false := by
    cases q : y == x with
    | false => rfl
    | true => rw [eq_of_beq q, beq_self_eq_true] at h; cases h
  simp [List.eraseDups_cons, h']
theorem sw_par {x y : Str} {px py pt pt2 : Pos} {kt k2 : Nat} {a b : Expr} {env : Env} (hk : env.blockKind = .function) (hx : env.kindOf x = some .local) (hy : env.kindOf y = some .local) (hl : (py.line == px.line) = true) (ne : (x == y) = false)
    (sa : plainE a = true) (sb : plainE b = true) (hf : (foldedForSure 8 a && foldedForSure 8 b) = false) (hc : (constantsAlone 8 a && constantsAlone 8 b) = false) :
    swappedStores [.Tuple [.Name x px, .Name y py] kt pt] (.Tuple [a, b] k2 pt2) env = pure (some [x, y]) := by
  have hl' := eq_of_beq hl
  have d := dups2 ne
  have f2 : [a, b].all (foldedForSure 8) = false := by simpa using hf
  have c2 : [a, b].all (constantsAlone 8) = false := by simpa using hc
  unfold swappedStores
  simp only [hk, f2, c2, hl', Expr.pos, List.length_cons, List.length_nil, List.head?_cons, Option.map_some, Option.getD_some, List.filterMap_cons, List.filterMap_nil, hx, hy, beq_self_eq_true, Bool.and_self, if_true, d]
  rw [if_neg (by decide), if_neg, if_neg (by decide), if_neg Bool.false_ne_true, if_neg Bool.false_ne_true]
  cases a <;> first | (cases sa; done) | (cases b <;> first | exact Bool.false_ne_true | (cases sb; done))
section
variable {K : PySem.W.Frag} {X : Cx} {call : Nat → List PV → Store → Res PV} {m : ME} {wx : XW}
/-- e, dropped -/
theorem ps_ex {e : ME} {x : Expr} {pos : Pos} {turns : Nat} (he : SE X call e x) (hs : swapsWith x none pos.line X.env = pure false) : PS X (.Expr x pos) (rdS X.K wx (evS call turns (.ex e))) := by
  refine (ps_expr he.val hs).imp fun D σ H ⟨μ, env, st, o, r, p⟩ => ?_
  rw [evS] at p
  obtain ⟨x1, st1, h1, p⟩ := to_ok p
  exact ⟨μ, env, st, x1, st1, o, r.re, h1, fun μ1 H1 x' s1 o1 r1 f1 => p μ1 H1 σ s1.wide o1 (r.mono s1) fun a z => .inl z⟩
/-- x = e -/
theorem set_imp {e : ME} {i : Nat} {own : Bool} {turns : Nat} : ∀ D σ H, rdS K wx (evS call turns (.set i e own)) D σ H → tAsg (rd K (ev call e .val)) (gName i) D σ H := fun D σ H ⟨μ, env, st, o, r, p⟩ => by
  rw [evS] at p
  obtain ⟨x1, st1, h1, p⟩ := to_ok p
  refine ⟨μ, env, st, x1, st1, o, r.re, h1, fun μ1 H1 x' s1 o1 r1 f1 => ?_⟩
  show D.nx (σ.set i (some x')) H1
  cases own with
  | true =>
    have off : ∀ a, x1.isFl = true → x' = .ref a → H a = none := fun a z e => by
      cases x1 <;> first | cases z | skip
      subst e
      exact f1
    obtain ⟨q1, q2⟩ := (r.mono s1).setFl r1 (fun a z e w => by
      obtain ⟨vs, hv⟩ := w.there r.re
      rw [off a z e] at hv; cases hv) i
    exact p μ1 H1 _ s1.wide o1 q1 fun a z => (q2 a z).elim .inl fun w => .inr (off a w.1 w.2)
  | false =>
    obtain ⟨μe, se, oe, re, fe, _⟩ := Ok.esc s1 o1 r1 f1
    obtain ⟨q1, q2⟩ := (r.mono se).set re fe i
    exact p μe H1 _ se.wide oe q1 fun a z => .inl (q2 a z)
/-- return e -/
theorem ps_retE {e : ME} {x : Expr} {pos : Pos} {turns : Nat} (he : SE X call e x) (hv : ∀ j, e = .var j → PE X x (tVar j)) : PS X (.Return (some x) pos) (rdS X.K wx (evS call turns (.ret e))) := by
  have val : PS X (.Return (some x) pos) (tRet (rd X.K (ev call e .val))) := ps_ret he.val
  refine ⟨fun pins s σ H D I ⟨μ, env, st, o, r, p⟩ => ?_⟩
  rw [evS] at p
  split at p
  · rename_i i xs hh
    unfold ME.held at hh
    split at hh
    · rename_i j
      split at hh
      · rename_i hy
        cases hh
        obtain ⟨v, h1, h2⟩ := r.re.at_ _ _ hy
        refine (ps_ret (pos := pos) (hv _ rfl)).run pins s σ H D I ⟨v, h1, p μ H v StX.refl o h2 fun a _ e => .inl ⟨_, _, hy, ?_⟩⟩
        rw [← e]; exact h1
      · cases hh
    · cases hh
  · obtain ⟨x1, st1, h1, p⟩ := to_ok p
    refine val.run pins s σ H D I ⟨μ, env, st, x1, st1, o, r.re, h1, fun μ1 H1 v' s1 o1 r1 f1 => ?_⟩
    refine p μ1 H1 v' s1.wide o1 r1 fun a z e => .inr ?_
    cases x1 <;> first | cases z | skip
    subst e
    exact f1
theorem ps_ret0 {pos : Pos} {turns : Nat} : PS X (.Return none pos) (rdS X.K wx (evS call turns .ret0)) := by
  refine ps_retN.imp fun D σ H ⟨μ, env, st, o, r, p⟩ => ?_
  rw [evS] at p
  exact p μ H .non StX.refl o .non fun a z => by cases z
theorem ps_brk {pos : Pos} {turns : Nat} : PS X (.Break pos) (rdS X.K wx (evS call turns .brk)) := by
  refine ps_break.imp fun D σ H ⟨μ, env, st, o, r, p⟩ => ?_
  rw [evS] at p
  exact p μ H σ StX.refl o r fun a z => .inl z
theorem ps_cnt {pos : Pos} {turns : Nat} : PS X (.Continue pos) (rdS X.K wx (evS call turns .cnt)) := by
  refine ps_continue.imp fun D σ H ⟨μ, env, st, o, r, p⟩ => ?_
  rw [evS] at p
  exact p μ H σ StX.refl o r fun a z => .inl z
theorem ps_pas {pos : Pos} {turns : Nat} : PS X (.Pass pos) (rdS X.K wx (evS call turns .pass)) := by
  refine ps_pass.imp fun D σ H ⟨μ, env, st, o, r, p⟩ => ?_
  rw [evS] at p
  exact p μ H σ StX.refl o r fun a z => .inl z
/-- x = f(..), which may raise -/
theorem setX_imp {f i : Nat} {as : MEs} {own : Bool} {turns : Nat} : ∀ D σ H, rdS K wx (evS call turns (.setX i f as own)) D σ H → tAsg (tCallS (spX K wx.mg (call f)) (WE wx.W) (rdA K (evA call as))) (gName i) D σ H := fun D σ H ⟨μ, env, st, o, r, p⟩ => by
  rw [evS] at p
  obtain ⟨xs, st1, h1, p⟩ := to_ok p
  refine ⟨μ, env, st, xs, st1, o, r.re, h1, fun μ1 H1 vs s1 o1 r1 => ⟨μ1, st1, xs, o1, r1, ?_⟩⟩
  cases q : call f xs st1 with
  | ok x1 st2 =>
    rw [q] at p
    intro μ2 H2 x' s2 o2 r2 f2
    show D.nx (σ.set i (some x')) H2
    have s12 := Stp.trans s1 s2
    have f2 : Fr H x1 x' := f2.back s1
    cases own with
    | true =>
      have off : ∀ a, x1.isFl = true → x' = .ref a → H a = none := fun a z e => by
        cases x1 <;> first | cases z | skip
        subst e
        exact f2
      obtain ⟨q1, q2⟩ := (r.mono s12).setFl r2 (fun a z e w => by
        obtain ⟨vs, hv⟩ := w.there r.re
        rw [off a z e] at hv; cases hv) i
      exact p μ2 H2 _ s12.wide o2 q1 fun a z => (q2 a z).elim .inl fun w => .inr (off a w.1 w.2)
    | false =>
      obtain ⟨μe, se, oe, re, fe, _⟩ := Ok.esc s12 o2 r2 f2
      obtain ⟨q1, q2⟩ := (r.mono se).set re fe i
      exact p μe H2 _ se.wide oe q1 fun a z => .inl (q2 a z)
  | xc c fs st2 =>
    rw [q] at p
    intro μ2 H2 C d s2 o2 hm x
    have s12 := Stp.trans s1 s2
    exact p μ2 H2 σ C d s12.wide o2 (r.mono s12) (fun a z => .inl z) hm x
  | bad => rw [q] at p; exact p.elim
theorem retX_imp {f : Nat} {as : MEs} {turns : Nat} : ∀ D σ H, rdS K wx (evS call turns (.retX f as)) D σ H → tRet (tCallS (spX K wx.mg (call f)) (WE wx.W) (rdA K (evA call as))) D σ H := fun D σ H ⟨μ, env, st, o, r, p⟩ => by
  rw [evS] at p
  obtain ⟨xs, st1, h1, p⟩ := to_ok p
  refine ⟨μ, env, st, xs, st1, o, r.re, h1, fun μ1 H1 vs s1 o1 r1 => ⟨μ1, st1, xs, o1, r1, ?_⟩⟩
  cases q : call f xs st1 with
  | ok x1 st2 =>
    rw [q] at p
    intro μ2 H2 x' s2 o2 r2 f2
    have s12 := Stp.trans s1 s2
    have f2 : Fr H x1 x' := f2.back s1
    refine p μ2 H2 x' s12.wide o2 r2 fun a z e => .inr ?_
    cases x1 <;> first | cases z | skip
    subst e
    exact f2
  | xc c fs st2 =>
    rw [q] at p
    intro μ2 H2 C d s2 o2 hm x
    have s12 := Stp.trans s1 s2
    exact p μ2 H2 σ C d s12.wide o2 (r.mono s12) (fun a z => .inl z) hm x
  | bad => rw [q] at p; exact p.elim
theorem exX_imp {f : Nat} {as : MEs} {turns : Nat} : ∀ D σ H, rdS K wx (evS call turns (.exX f as)) D σ H → tCallS (spX K wx.mg (call f)) (WE wx.W) (rdA K (evA call as)) σ H (fun _ H1 => D.nx σ H1) := fun D σ H ⟨μ, env, st, o, r, p⟩ => by
  rw [evS] at p
  obtain ⟨xs, st1, h1, p⟩ := to_ok p
  refine ⟨μ, env, st, xs, st1, o, r.re, h1, fun μ1 H1 vs s1 o1 r1 => ⟨μ1, st1, xs, o1, r1, ?_⟩⟩
  cases q : call f xs st1 with
  | ok x1 st2 =>
    rw [q] at p
    intro μ2 H2 x' s2 o2 r2 f2
    have s12 := Stp.trans s1 s2
    exact p μ2 H2 σ s12.wide o2 (r.mono s12) fun a z => .inl z
  | xc c fs st2 =>
    rw [q] at p
    intro μ2 H2 C d s2 o2 hm x
    have s12 := Stp.trans s1 s2
    exact p μ2 H2 σ C d s12.wide o2 (r.mono s12) (fun a z => .inl z) hm x
  | bad => rw [q] at p; exact p.elim
/-- if -/
theorem ps_ite {t : ME} {a b : MSs} {c : Expr} {x y : List Stmt} {pos : Pos} {turns : Nat} (ht : SE X call t c) (ha : PSs X x (rdS X.K wx (evSs call turns a))) (hb : PSs X y (rdS X.K wx (evSs call turns b))) : PS X (.If c x y pos) (rdS X.K wx (evS call turns (.ite t a b))) := by
  refine (ps_if ht.test ha hb).imp fun D σ H ⟨μ, env, st, o, r, p⟩ => ?_
  rw [evS] at p
  obtain ⟨x1, st1, h1, p⟩ := to_ok p
  split at p
  · rename_i hk
    cases isBl_ok hk
    exact ⟨μ, env, st, true, st1, o, r.re, h1, fun μ1 H1 s1 o1 => iteT ⟨μ1, env, st1, o1, r.mono s1, p.shift s1.wide fun a z => .inl z⟩⟩
  · rename_i hk
    cases isBl_ok hk
    exact ⟨μ, env, st, false, st1, o, r.re, h1, fun μ1 H1 s1 o1 => iteF ⟨μ1, env, st1, o1, r.mono s1, p.shift s1.wide fun a z => .inl z⟩⟩
  · exact p.elim
/-- a block -/
theorem pss_n {turns : Nat} : PSs X [] (rdS X.K wx (evSs call turns .nil)) := by
  refine pss_nil.imp fun D σ H ⟨μ, env, st, o, r, p⟩ => ?_
  rw [evSs] at p
  exact p μ H σ StX.refl o r fun a z => .inl z
theorem pss_c {s : MS} {ss : MSs} {x : Stmt} {xs : List Stmt} {turns : Nat} (h1 : PS X x (rdS X.K wx (evS call turns s))) (h2 : PSs X xs (rdS X.K wx (evSs call turns ss))) : PSs X (x :: xs) (rdS X.K wx (evSs call turns (.cons s ss))) := by
  refine (pss_cons h1 h2).imp fun D σ H ⟨μ, env, st, o, r, p⟩ => ⟨μ, env, st, o, r, ?_⟩
  rw [evSs] at p
  cases q : evS call turns s env st with
  | nx e1 s1 =>
    rw [q] at p
    exact fun μ' H' σ' t o' r' w => ⟨μ', e1, s1, o', r', post.shift (r := evSs call turns ss e1 s1) t w p⟩
  | rt v s1 => rw [q] at p; exact p
  | bk e1 s1 => rw [q] at p; exact p
  | ct e1 s1 => rw [q] at p; exact p
  | xc c fs e1 s1 => rw [q] at p; exact p
  | bad => rw [q] at p; exact p
/-- while -/
theorem whl_step {test : En → Store → Res PV} {body : En → Store → SR} {n : Nat} {env : En} {st : Store} : whlLoop test body (n + 1) env st = (test env st).to fun x st1 => match isBl x with
    | some true => match body env st1 with
      | .nx e s => whlLoop test body n e s
      | .ct e s => whlLoop test body n e s
      | .bk e s => .nx e s
      | r => r
    | some false => .nx env st1
    | none => .bad := rfl
theorem ps_whl {t : ME} {b : MSs} {c : Expr} {x : List Stmt} {pos : Pos} {turns : Nat} (hp : PassesOwn (model X.prog X.w) X.A X.env X.xe) (ht : SE X call t c) (hb : PSs X x (rdS X.K wx (evSs call turns b))) : PS X (.While c x [] pos) (rdS X.K wx (evS call turns (.whl t b))) := by
  refine (ps_while hp ht.test hb).imp fun D σ H ⟨μ, env, st, o, r, p⟩ => ?_
  rw [evS] at p
  refine ⟨fun m σ H => ∃ μ env st, Ok X.K μ st H ∧ S1 X.K μ st.length H env σ ∧ post X.K wx (Own env σ) μ st H (whlLoop (ev call t .test) (evSs call turns b) m env st) D, ⟨turns, μ, env, st, o, r, p⟩, ?_⟩
  rintro m σ H ⟨μ, env, st, o, r, p⟩
  cases m with
  | zero => exact p.elim
  | succ m =>
    rw [whl_step] at p
    obtain ⟨x1, st1, h1, p⟩ := to_ok p
    split at p
    · rename_i hk
      cases isBl_ok hk
      refine ⟨μ, env, st, true, st1, o, r.re, h1, fun μ1 H1 s1 o1 => iteT ⟨fun σ' H' => ∃ μ env st, Ok X.K μ st H' ∧ S1 X.K μ st.length H' env σ' ∧ post X.K wx (Own env σ') μ st H' (whlLoop (ev call t .test) (evSs call turns b) m env st) D,
        fun σ' H' w => ⟨m, Nat.lt_succ_self m, w⟩, μ1, env, st1, o1, r.mono s1, ?_⟩⟩
      have p := p.shift (S' := Own env σ) s1.wide fun a z => .inl z
      cases q : evSs call turns b env st1 with
      | nx e s => rw [q] at p; exact fun μ' H' σ' t o' r' w => ⟨μ', e, s, o', r', post.shift t w p⟩
      | ct e s => rw [q] at p; exact fun μ' H' σ' t o' r' w => ⟨μ', e, s, o', r', post.shift t w p⟩
      | bk e s => rw [q] at p; exact p
      | rt v s => rw [q] at p; exact p
      | xc c fs e s => rw [q] at p; exact p
      | bad => rw [q] at p; exact p
    · rename_i hk
      cases isBl_ok hk
      exact ⟨μ, env, st, false, st1, o, r.re, h1, fun μ1 H1 s1 o1 => iteF (p μ1 H1 σ s1.wide o1 (r.mono s1) fun a z => .inl z)⟩
    · exact p.elim

/-! ### for -/
def rdF (K : PySem.W.Frag) (m : En → Store → Res Src) : TI := fun σ H R => ∃ μ env st s st', Ok K μ st H ∧ S1 K μ st.length H env σ ∧ m env st = .ok s st' ∧
  ∀ μ' H' J, Stp μ st.length H μ' st'.length H' → Ok K μ' st' H' → SrcR K (Own env σ) μ' st'.length H' J s → R J H'
theorem pf_val {tg it : Expr} (h : SE X call m it) : PI X tg it (rdF X.K fun env st => (ev call m .val env st).bind fun x st1 => opt (srcV x st1) st1) := by
  refine ⟨fun pins s σ H R I ⟨μ, env, st, src, st', o, r, h1, g⟩ => ?_⟩
  obtain ⟨v, st1, h2, h3⟩ := bind_ok h1
  obtain ⟨h4, rfl⟩ := opt_ok h3
  have ls : (∀ μ1 H1 v', Stp μ st.length H μ1 st1.length H1 → Ok X.K μ1 st1 H1 → RV X.K μ1 st1.length H1 v v' → Fr H v v' → ∃ a, v' = .ref a ∧ (∃ xs, SqL X.K H1 a xs) ∧ R (Itl X.K a) H1) →
      wpAny (model X.prog X.w) X.A (eval it X.env) (fun v s1 => wpAny (model X.prog X.w) X.A (pyIter v) (PIE X pins σ tg R) X.xe s1) X.xe s :=
    fun q => (pi_list h.val).run pins s σ H R I ⟨μ, env, st, v, st1, o, r.re, h2, fun μ1 H1 v' s1 o1 r1 f1 => q μ1 H1 v' s1 o1 r1 f1⟩
  cases v with
  | str z =>
    cases h4
    refine (pi_str h.val).run pins s σ H R I ⟨μ, env, st, _, st1, o, r.re, h2, fun μ1 H1 v' s1 o1 r1 _ => ?_⟩
    cases r1
    exact ⟨z, rfl, g μ1 H1 _ s1 o1 .str⟩
  | tup xs =>
    cases h4
    refine (pi_tup h.val).run pins s σ H R I ⟨μ, env, st, _, st1, o, r.re, h2, fun μ1 H1 v' s1 o1 r1 _ => ?_⟩
    cases r1 with
    | tup h5 r5 k5 => exact ⟨_, rfl, ⟨_, h5⟩, g μ1 H1 _ s1 o1 (.tup h5 r5)⟩
  | fl xs =>
    cases h4
    refine ls fun μ1 H1 v' s1 o1 r1 f1 => ?_
    cases r1 with
    | fl h5 n5 r5 => exact ⟨_, rfl, ⟨_, SqL.of h5⟩, g μ1 H1 _ s1 o1 (.own h5 n5 (fun z => by
        obtain ⟨vs, hv⟩ := z.there r.re
        rw [show H _ = none from f1] at hv; cases hv) r5)⟩
  | rol xs =>
    cases h4
    refine ls fun μ1 H1 v' s1 o1 r1 _ => ?_
    cases r1 with
    | rol h5 r5 => exact ⟨_, rfl, ⟨_, h5.sq⟩, g μ1 H1 _ s1 o1 (.rol h5 r5)⟩
  | loc n =>
    refine ls fun μ1 H1 v' s1 o1 r1 _ => ?_
    cases r1 with
    | loc h5 =>
      obtain ⟨xs, hx, e⟩ := Option.map_eq_some_iff.mp h4
      obtain ⟨vs, hv⟩ := o1.held (seq_lst hx)
      subst e
      exact ⟨_, rfl, ⟨vs, SqL.of hv⟩, g μ1 H1 _ s1 o1 (.live h5)⟩
  | _ => cases h4
theorem pf_rev {tg y : Expr} {a : ME} {p pos : Pos} (ha : SE X call a y) (hg : Gl X "reversed") (hm : X.mg "reversed" = none) (hs : starEach [y] X.env = (false, eval y X.env) :: starEach [] X.env) :
    PI X tg (.Call (.Name "reversed" p) [y] [] pos) (rdF X.K (evSrc call (.rev a))) := by
  refine (RT.pi_revA hg hm ha.val hs).imp fun σ H R ⟨μ, env, st, src, st', o, r, h1, g⟩ => ?_
  have h1 : ((ev call a .val env st).bind fun v st1 => opt (revV v) st1) = .ok src st' := h1
  obtain ⟨v, st1, h2, h3⟩ := bind_ok h1
  obtain ⟨h4, rfl⟩ := opt_ok h3
  refine ⟨μ, env, st, v, st1, o, r.re, h2, fun μ1 H1 v' s1 o1 r1 f1 => ?_⟩
  cases v with
  | tup xs =>
    cases h4
    cases r1 with
    | tup h5 r5 k5 => exact ⟨_, _, rfl, .inr ⟨h5, g μ1 H1 _ s1 o1 (.revT h5 r5)⟩⟩
  | fl xs =>
    cases h4
    cases r1 with
    | fl h5 n5 r5 => exact ⟨_, _, rfl, .inl ⟨SqL.of h5, g μ1 H1 _ s1 o1 (.revL h5 n5 (fun z => by
        obtain ⟨vs, hv⟩ := z.there r.re
        rw [show H _ = none from f1] at hv; cases hv) r5)⟩⟩
  | _ => cases h4
theorem pf_enm {elts : List Expr} {kk : Nat} {tpos : Pos} {y : Expr} {a : ME} {p pos : Pos} (ha : SE X call a y) (hg : Gl X "enumerate") (hm : X.mg "enumerate" = none) (hs : starEach [y] X.env = [(false, eval y X.env)]) :
    PI X (.Tuple elts kk tpos) (.Call (.Name "enumerate" p) [y] [] pos) (rdF X.K (evSrc call (.enm a))) := by
  refine (pi_enum hg hm (pa_cons ha.val pa_nil hs) hs).imp fun σ H R ⟨μ, env, st, src, st', o, r, h1, g⟩ => ?_
  have h1 : ((ev call a .val env st).bind fun v st1 => opt (enumV v st1) st1) = .ok src st' := h1
  obtain ⟨v, st1, h2, h3⟩ := bind_ok h1
  obtain ⟨h4, rfl⟩ := opt_ok h3
  refine ⟨μ, env, st, v, st1, o, r.re, h2, fun μ1 H1 v' s1 o1 r1 f1 => ?_⟩
  cases v with
  | fl xs =>
    cases h4
    cases r1 with
    | fl h5 n5 r5 => exact ⟨_, _, rfl, SqL.of h5, g μ1 H1 _ s1 o1 (.enumL h5 n5 (fun z => by
        obtain ⟨vs, hv⟩ := z.there r.re
        rw [show H _ = none from f1] at hv; cases hv) r5)⟩
  | loc n =>
    obtain ⟨xs, hx, rfl⟩ := Option.map_eq_some_iff.mp (show (seqOf (.loc n) _).map _ = some src from h4)
    cases r1 with
    | loc hl =>
    obtain ⟨vs, hv⟩ := o1.held (seq_lst hx)
    exact ⟨_, vs, rfl, SqL.of hv, g μ1 H1 _ s1 o1 (.enL hl)⟩
  | _ => cases h4
theorem pf_rng2 {tg x y : Expr} {a b : ME} {p pos : Pos} (ha : SE X call a x) (hb : SE X call b y) (hg : Gl X "range") (hm : X.mg "range" = none) (hs : starEach [x, y] X.env = [(false, eval x X.env), (false, eval y X.env)]) (hs2 : starEach [y] X.env = [(false, eval y X.env)]) :
    PI X tg (.Call (.Name "range" p) [x, y] [] pos) (rdF X.K fun env st => (ev call a .val env st).bind fun x st1 => (ev call b .val env st1).bind fun y st2 => rngV x y st2) := by
  refine (pi_range2 hg hm (pa_cons ha.val (pa_cons hb.val pa_nil hs2) (by rw [hs, hs2])) hs hs2).imp fun σ H R ⟨μ, env, st, s, st', o, r, h, g⟩ => ?_
  obtain ⟨x1, st1, h1, h2⟩ := bind_ok h
  obtain ⟨y1, st2, h3, h4⟩ := bind_ok h2
  obtain ⟨i, j, rfl, rfl, hb, rfl, rfl⟩ := rng_ok h4
  refine ⟨μ, env, st, _, st1, o, r.re, h1, fun μ1 H1 x' s1 o1 r1 _ => ⟨μ1, env, st1, _, _, o1, r.re.mono s1, h3, fun μ2 H2 y' s2 o2 r2 _ => ?_⟩⟩
  cases r1; cases r2
  exact ⟨i, j, rfl, hb, g μ2 H2 _ (Stp.trans s1 s2) o2 .rng⟩
theorem pf_rng1 {tg y : Expr} {b : ME} {p pos : Pos} (hb : SE X call b y) (hg : Gl X "range") (hm : X.mg "range" = none) (hs : starEach [y] X.env = [(false, eval y X.env)]) :
    PI X tg (.Call (.Name "range" p) [y] [] pos) (rdF X.K fun env st => (ev call (.con (.int 0)) .val env st).bind fun x st1 => (ev call b .val env st1).bind fun y st2 => rngV x y st2) := by
  refine (pi_range1 hg hm (pa_cons hb.val pa_nil hs) hs).imp fun σ H R ⟨μ, env, st, s, st', o, r, h, g⟩ => ?_
  obtain ⟨x1, st1, h1, h2⟩ := bind_ok h
  cases (show Res.ok (PV.int 0) st = Res.ok x1 st1 from h1)
  obtain ⟨y1, st2, h3, h4⟩ := bind_ok h2
  obtain ⟨i, j, e, rfl, hb, rfl, rfl⟩ := rng_ok h4
  cases e
  refine ⟨μ, env, _, _, _, o, r.re, h3, fun μ2 H2 y' s2 o2 r2 _ => ?_⟩
  cases r2
  have q := g μ2 H2 _ s2 o2 (.rng (lo := 0) (n := (j - 0).toNat))
  rw [Int.sub_zero] at q
  exact ⟨j, rfl, hb.2.2.1, hb.2.2.2, q⟩
theorem for_step {put : PV → En → Option En} {body : En → Store → SR} {src : Src} {j n : Nat} {env : En} {st : Store} : forLoop put body src j (n + 1) env st = match src.get j st with
    | none => .bad
    | some x => match put x env with
      | none => .bad
      | some env' => match body env' st with
        | .nx e s => forLoop put body src (j + 1) n e s
        | .ct e s => forLoop put body src (j + 1) n e s
        | .bk e s => .nx e s
        | r => r := rfl
theorem ps_forS {g : MG} {srcF : En → Store → Res Src} {fB : En → Store → SR} {tg iter : Expr} {x : List Stmt} {pos : Pos} (hp : PassesOwn (model X.prog X.w) X.A X.env X.xe) (hc : X.calm = true) (hi : PI X tg iter (rdF X.K srcF)) (hg : PG X tg (gOf X.K g))
    (hb : PSs X x (rdS X.K wx fB)) (hs : ∀ x, foldedSetIterable iter X.env x = pure x) : PS X (.For tg iter x [] pos) (rdS X.K wx fun env st => (srcF env st).to fun s st1 => forLoop g.put fB s 0 s.many env st1) := by
  refine (ps_for hp hc hi hg hb hs).imp fun D σ H ⟨μ, env, st, o, r, p⟩ => ?_
  obtain ⟨src1, st1, h1, p⟩ := to_ok p
  refine ⟨μ, env, st, src1, st1, o, r, h1, fun μ1 H1 J s1 o1 j1 => ?_⟩
  have p := p.shift (S' := Own env σ) s1.wide fun a z => .inl z
  refine ⟨fun i m σ H => ∃ μ env st, Ok X.K μ st H ∧ S1 X.K μ st.length H env σ ∧ SrcR X.K (Own env σ) μ st.length H J src1 ∧ i + m = src1.many ∧ post X.K wx (Own env σ) μ st H (forLoop g.put fB src1 i m env st) D,
    ⟨src1.many, μ1, env, st1, o1, r.mono s1, j1, by omega, p⟩, ?_⟩
  rintro i m σ H ⟨μ, env, st, o, r, j, em, p⟩
  cases m with
  | zero =>
    refine .inl ?_
    unfold forLoop at p
    split at p
    · rename_i hf
      have q := j.stop o hf
      have e0 : i = src1.many := by omega
      subst e0
      exact ⟨q, p μ H σ StX.refl o r fun a z => .inl z⟩
    · exact p.elim
  | succ m =>
    refine .inr ?_
    rw [for_step] at p
    split at p
    · exact p.elim
    · rename_i x hx
      split at p
      · exact p.elim
      · rename_i env' hput
        obtain ⟨q1, q2⟩ := j.go o hx
        refine ⟨q1, fun σ' H' => ∃ μ env st, Ok X.K μ st H' ∧ S1 X.K μ st.length H' env σ' ∧ SrcR X.K (Own env σ') μ st.length H' J src1 ∧ (i + 1) + m = src1.many ∧ post X.K wx (Own env σ') μ st H' (forLoop g.put fB src1 (i + 1) m env st) D,
          fun σ' H' w => ⟨m, Nat.lt_succ_self m, w⟩, fun x' H' y => ?_⟩
        obtain ⟨sy, oy, rx, fx⟩ := q2 x' H' y
        refine S1.put hput (r.mono sy) fx rx fun σ2 r2 w2 => ⟨μ, env', st, oy, r2, ?_⟩
        have p := p.shift (S' := Own env' σ2) sy.wide fun a z => .inl (w2 a z)
        have j2 := j.mono (S1 := Own env' σ2) sy.wide fun a z => .inl (w2 a z)
        cases q : fB env' st with
        | nx e s => rw [q] at p; exact fun μ' H' σ' t o' r' w => ⟨μ', e, s, o', r', j2.mono t w, by omega, post.shift t w p⟩
        | ct e s => rw [q] at p; exact fun μ' H' σ' t o' r' w => ⟨μ', e, s, o', r', j2.mono t w, by omega, post.shift t w p⟩
        | bk e s => rw [q] at p; exact p
        | rt v s => rw [q] at p; exact p
        | xc c fs e s => rw [q] at p; exact p
        | bad => rw [q] at p; exact p
theorem ps_forE {g : MG} {src : ME} {b : MSs} {tg iter : Expr} {x : List Stmt} {pos : Pos} {turns : Nat} (hp : PassesOwn (model X.prog X.w) X.A X.env X.xe) (hc : X.calm = true) (hi : PI X tg iter (rdF X.K (evSrc call src))) (hg : PG X tg (gOf X.K g))
    (hb : PSs X x (rdS X.K wx (evSs call turns b))) (hs : ∀ x, foldedSetIterable iter X.env x = pure x) : PS X (.For tg iter x [] pos) (rdS X.K wx (evS call turns (.for_ g src b))) := by
  exact (ps_forS hp hc hi hg hb hs).imp fun D σ H ⟨μ, env, st, o, r, p⟩ => ⟨μ, env, st, o, r, by rw [evS] at p; exact p⟩
/-- a, b = x, y -/
theorem ps_parS {i j : Nat} {as : MEs} {x y : Str} {a b : Expr} {px py pt pt2 pos : Pos} {kt k2 : Nat} {turns : Nat} (hc : X.calm = true) (hN : X.N.Nodup) (hi : X.N[i]? = some x) (hj : X.N[j]? = some y) (hij : i ≠ j)
    (hx : X.env.scope.names.lookup x = some .local) (hy : X.env.scope.names.lookup y = some .local) (ha : SA X call as [a, b])
    (hw : swappedStores [.Tuple [.Name x px, .Name y py] kt pt] (.Tuple [a, b] k2 pt2) X.env = pure (some [x, y])) :
    PS X (.Assign [.Tuple [.Name x px, .Name y py] kt pt] (.Tuple [a, b] k2 pt2) pos) (rdS X.K wx (evS call turns (.par i j as))) := by
  refine (ps_par hc hN hi hj hij hx hy ha.kept hw rfl).imp fun D σ H ⟨μ, env, st, o, r, p⟩ => ?_
  rw [evS] at p
  obtain ⟨xs, st1, h2, p⟩ := to_ok p
  refine ⟨μ, env, st, xs, st1, o, r.re, h2, fun μ1 H1 vs s1 o1 r1 => ?_⟩
  split at p
  · cases r1 with
    | cons f1 q1 t1 =>
      cases t1 with
      | cons f2 q2 t2 =>
        cases t2
        obtain ⟨z1, z2⟩ := (r.mono s1).set q1 f1 i
        obtain ⟨z3, z4⟩ := z1.set q2 f2 j
        exact ⟨_, _, rfl, p μ1 H1 _ s1.wide o1 z3 fun a w => .inl (z2 a (z4 a w))⟩
  · exact p.elim
/-- a, b = e -/
theorem ps_tup {is : List Nat} {e : ME} {x tg : Expr} {pos : Pos} {turns : Nat} (he : SE X call e x) (hg : PG X tg (gSeq X.K is.length (gAll is))) (hs : swapsWithSole [tg] x pos.line X.env = pure false) (hw : swappedStores [tg] x X.env = pure none)
    (h1 : (assignEach [tg] X.env).map (·.2) = [assign tg X.env]) : PS X (.Assign [tg] x pos) (rdS X.K wx (evS call turns (.setT is e))) := by
  refine (ps_asg he.val hg hs hw h1).imp fun D σ H ⟨μ, env, st, o, r, p⟩ => ?_
  rw [evS] at p
  obtain ⟨x1, st1, h2, p⟩ := to_ok p
  refine ⟨μ, env, st, x1, st1, o, r.re, h2, fun μ1 H1 x' s1 o1 r1 f1 => ?_⟩
  split at p
  · split at p
    · rename_i env' hset
      cases r1 with
      | tup h3 r3 =>
        exact .inl ⟨_, _, rfl, h3, by rw [← r3.len]; exact setEach_len hset, S1.setEach hset (r.mono s1) r3 fun σ' r' w => p μ1 H1 σ' s1.wide o1 r' fun a z => .inl (w a z)⟩
    · exact p.elim
  · split at p
    · rename_i env' hset
      cases r1 with
      | fl h3 n3 r3 =>
        exact .inr ⟨_, _, rfl, .inl (.inl h3), by rw [← r3.len]; exact setEach_len hset, S1.setEach hset (r.mono s1) r3 fun σ' r' w => p μ1 H1 σ' s1.wide o1 r' fun a z => .inl (w a z)⟩
    · exact p.elim
  · exact p.elim
/-- a[i] = e -/
theorem ps_ix {a i e : ME} {y z x : Expr} {p1 pos : Pos} {turns : Nat} (ha : SE X call a y) (hi : SE X call i z) (he : SE X call e x) (hs : swapsWithSole [.Subscript y z p1] x pos.line X.env = pure false) (hw : swappedStores [.Subscript y z p1] x X.env = pure none)
    (hsub : ∀ v, assign (.Subscript y z p1) X.env v = (do
      let ov ← holding [v] (eval y X.env)
      let iv ← holding [v, ov] (eval z X.env)
      standAt p1
      holding [v, ov, iv] (setItem ov iv v)
      release [v, ov, iv] [])) : PS X (.Assign [.Subscript y z p1] x pos) (rdS X.K wx (evS call turns (.setIx a i e))) := by
  refine (ps_asg he.val (pg_sub ha.val hi.val set_list hsub) hs hw rfl).imp fun D σ H ⟨μ, env, st, o, r, p⟩ => ?_
  rw [evS] at p
  obtain ⟨v1, st1, h1, p⟩ := to_ok p
  obtain ⟨o1, st2, h2, p⟩ := to_ok p
  obtain ⟨k1, st3, h3, p⟩ := to_ok p
  refine ⟨μ, env, st, v1, st1, o, r.re, h1, fun μ1 H1 v' s1 ok1 r1 f1 => ⟨μ1, env, st1, o1, st2, ok1, r.re.mono s1, h2, fun μ2 H2 o' s2 ok2 r2 f2 => ⟨μ2, env, st2, k1, st3, ok2, r.re.mono (Stp.trans s1 s2), h3, fun μ3 H3 k' s3 ok3 r3 f3 => ?_⟩⟩⟩
  split at p
  · rename_i n k
    cases r3
    have r2 := r2.mono0 s3
    cases r2 with
    | loc hn =>
      split at p
      · rename_i xs hx
        split at p
        · rename_i j hj
          split at p
          · exact p.elim
          · rename_i nf
            obtain ⟨vs, q1, q2⟩ := ok3.cell _ _ hx
            have r1 := r1.mono0 (Stp.trans s2 s3)
            have nf : v1.isFl = false := by simpa using nf
            obtain ⟨w1, w2⟩ := ok3.write hx (q2.set nf r1 j)
            refine ⟨_, vs, _, j, rfl, rfl, q1, by rw [← q2.len]; exact hj, ?_⟩
            have all := Stp.trans s1 (Stp.trans s2 (Stp.trans s3 w1))
            exact p μ3 _ σ all.wide w2 (r.mono all) fun a z => .inl z
        · exact p.elim
      · exact p.elim
  · exact p.elim
theorem putIx_at {o1 k1 v1 : PV} {o' k' v' : V} {st st' : Store} (h : putIx o1 k1 v1 st = some st') (o : Ok K μ st H) (ro : RV K μ st.length H o1 o') (rk : RV K μ st.length H k1 k') (rv : RV K μ st.length H v1 v') :
    ∃ p vs k j H', o' = .ref p ∧ k' = .int k ∧ H p = some (.lst vs) ∧ L2.ixN vs.length k = some j ∧ H' = upd H p (.lst (vs.set j v')) ∧ Stp μ st.length H μ st'.length H' ∧ Ok K μ st' H' := by
  unfold putIx at h
  split at h
  · rename_i n k
    cases rk
    cases ro with
    | loc hn =>
      split at h
      · rename_i xs hx
        split at h
        · rename_i j hj
          split at h
          · cases h
          · rename_i nf
            cases h
            obtain ⟨vs, q1, q2⟩ := o.cell _ _ hx
            have nf : v1.isFl = false := by simpa using nf
            obtain ⟨w1, w2⟩ := o.write hx (q2.set nf rv j)
            exact ⟨_, vs, _, j, _, rfl, rfl, q1, by rw [← q2.len]; exact hj, rfl, w1, w2⟩
        · cases h
      · cases h
  · cases h
/-- a[i], b[j] = e -/
theorem ps_swp {a i b j e : ME} {o x o2 x2 v : Expr} {p1 p2 pt pos : Pos} {kt : Nat} {turns : Nat} (hc : X.calm = true) (ha : SE X call a o) (hi : SE X call i x) (hb : SE X call b o2) (hj : SE X call j x2) (he : SE X call e v)
    (hs : swapsWithSole [.Tuple [.Subscript o x p1, .Subscript o2 x2 p2] kt pt] v pos.line X.env = pure false) (hw : swappedStores [.Tuple [.Subscript o x p1, .Subscript o2 x2 p2] kt pt] v X.env = pure none)
    (hsub1 : ∀ v, assign (.Subscript o x p1) X.env v = (do
      let ov ← holding [v] (eval o X.env)
      let iv ← holding [v, ov] (eval x X.env)
      standAt p1
      holding [v, ov, iv] (setItem ov iv v)
      release [v, ov, iv] []))
    (hsub2 : ∀ v, assign (.Subscript o2 x2 p2) X.env v = (do
      let ov ← holding [v] (eval o2 X.env)
      let iv ← holding [v, ov] (eval x2 X.env)
      standAt p2
      holding [v, ov, iv] (setItem ov iv v)
      release [v, ov, iv] [])) : PS X (.Assign [.Tuple [.Subscript o x p1, .Subscript o2 x2 p2] kt pt] v pos) (rdS X.K wx (evS call turns (.swp a i b j e))) := by
  refine (ps_asg he.val (pg_tup (n := 2) hc (pgs_cons (pg_sub ha.val hi.val set_list hsub1) (pgs_cons (pg_sub hb.val hj.val set_list hsub2) pgs_nil rfl) rfl) rfl rfl) hs hw rfl).imp fun D σ H ⟨μ, env, st, ok, r, p⟩ => ?_
  rw [evS] at p
  obtain ⟨v1, st1, h1, p⟩ := to_ok p
  refine ⟨μ, env, st, v1, st1, ok, r.re, h1, fun μ1 H1 v' s1 ok1 r1 f1 => ?_⟩
  split at p
  · rename_i y1 y2
    obtain ⟨o1, st2, h2, p⟩ := to_ok p
    obtain ⟨k1, st3, h3, p⟩ := to_ok p
    split at p
    · rename_i st4 h4
      obtain ⟨o3, st5, h5, p⟩ := to_ok p
      obtain ⟨k3, st6, h6, p⟩ := to_ok p
      split at p
      · rename_i st7 h7
        cases r1 with
        | tup q1 q2 =>
          cases q2 with
          | @cons _ z1 _ _ f1 ra q3 =>
            cases q3 with
            | @cons _ z2 _ _ f2 rb q4 =>
              cases q4
              refine ⟨_, _, rfl, q1, rfl, z1, [z2], rfl, μ1, env, st1, o1, st2, ok1, r.re.mono s1, h2, fun μ2 H2 o' s2 ok2 r2 _ => ⟨μ2, env, st2, k1, st3, ok2, r.re.mono (Stp.trans s1 s2), h3, fun μ3 H3 k' s3 ok3 r3 _ => ?_⟩⟩
              have ra3 := ra.mono0 (Stp.trans s2 s3)
              have ro3 := r2.mono0 s3
              obtain ⟨pa, vs, k, j', H4, rfl, rfl, w1, w2, rfl, w3, w4⟩ := putIx_at h4 ok3 ro3 r3 ra3
              refine ⟨pa, vs, k, j', rfl, rfl, w1, w2, z2, [], rfl, μ3, env, st4, o3, st5, w4, r.re.mono (Stp.trans s1 (Stp.trans s2 (Stp.trans s3 w3))), h5, fun μ5 H5 o5 s5 ok5 r5 _ => ⟨μ5, env, st5, k3, st6, ok5, r.re.mono (Stp.trans s1 (Stp.trans s2 (Stp.trans s3 (Stp.trans w3 s5)))), h6, fun μ6 H6 k6 s6 ok6 r6 _ => ?_⟩⟩
              have rb6 := rb.mono0 (Stp.trans s2 (Stp.trans s3 (Stp.trans w3 (Stp.trans s5 s6))))
              have ro6 := r5.mono0 s6
              obtain ⟨pb, vs2, k2, j2, H7, rfl, rfl, u1, u2, rfl, u3, u4⟩ := putIx_at h7 ok6 ro6 r6 rb6
              have all := Stp.trans s1 (Stp.trans s2 (Stp.trans s3 (Stp.trans w3 (Stp.trans s5 (Stp.trans s6 u3)))))
              exact ⟨pb, vs2, k2, j2, rfl, rfl, u1, u2, rfl, p μ6 _ σ all.wide u4 (r.mono all) fun a z => .inl z⟩
      · exact p.elim
    · exact p.elim
  · exact p.elim
/-- a.insert(i, e) -/
theorem ps_ins {a : ME} {as : MEs} {o x y : Expr} {apos cpos pos : Pos} {turns : Nat} (ha : SE X call a o) (hs : SA X call as [x, y])
    (hc : ∀ {r : V → List V → Hp → VK → Prop} {to : TE} {t : TA}, MtR X "list.insert" r → PE X o to → PA X [x, y] t → PE X (.Call (.Attribute o "insert" apos) [x, y] [] cpos) (tBM X.K "list" r to t))
    (hw : swapsWith (.Call (.Attribute o "insert" apos) [x, y] [] cpos) none pos.line X.env = pure false) : PS X (.Expr (.Call (.Attribute o "insert" apos) [x, y] [] cpos) pos) (rdS X.K wx (evS call turns (.ins a as))) := by
  refine (ps_expr (hc mt_insert ha.val hs.kept) hw).imp fun D σ H ⟨μ, env, st, ok, r, p⟩ => ?_
  rw [evS] at p
  obtain ⟨o0, st0, h1, p⟩ := to_ok p
  obtain ⟨o1, st1, h0, p⟩ := to_ok p
  obtain ⟨h00, e6⟩ := opt_ok h0
  obtain ⟨e7, hl⟩ := recv_eq h00
  cases e6; cases e7
  obtain ⟨xs, st2, h2, p⟩ := to_ok p
  split at p
  · rename_i n k v _ _
    split at p
    · rename_i ys hys
      split at p
      · rename_i hb
        obtain ⟨b1, b2, b3, b4⟩ := hb
        refine ⟨μ, env, st, _, _, ok, r.re, h1, fun μ1 H1 o' s1 ok1 r1 f1 => ?_⟩
        cases r1 with
        | loc hn =>
          obtain ⟨zs, hz⟩ := ok1.held (hl _ rfl)
          refine ⟨.inl ⟨rfl, zs, SqL.of hz⟩, μ1, env, _, _, st2, ok1, r.re.mono s1, h2, fun μ2 H2 vs s2 ok2 r2 => ?_⟩
          cases r2 with
          | @cons _ w1 _ _ g1 q1 r2 =>
            cases q1
            cases r2 with
            | @cons _ w2 _ _ g2 q2 r3 =>
              cases r3
              obtain ⟨ws, e1, e2⟩ := ok2.cell _ _ hys
              have en := s2.ext n hn
              have hn2 : n < st2.length := (List.getElem?_eq_some_iff.mp hys).1
              obtain ⟨s3, o3⟩ := ok2.write hys (RVs.app (RVs.app (e2.take k.toNat) (RVs.one b4 q2)) (e2.drop k.toNat))
              refine ⟨μ2 n, ws, k, w2, by rw [en], rfl, e1, by rw [← e2.len]; exact b1, b2, b3, ?_⟩
              have all := Stp.trans s1 (Stp.trans s2 s3)
              exact p μ2 _ σ all.wide o3 (r.mono all) fun a z => .inl z
      · exact p.elim
    · exact p.elim
  · exact p.elim
/-- a target with a slice -/
def gSl (to tl tu : TE) : TG := fun v σ H Q => to σ H fun ov H1 => tl σ H1 fun x H2 => ∃ i, x = .int i ∧ tu σ H2 fun y H3 => ∃ j, y = .int j ∧ ∃ a b xs ys, ov = .ref a ∧ v = .ref b ∧ H3 a = some (.lst xs) ∧ H3 b = some (.lst ys) ∧ a ≠ b ∧ 0 ≤ i ∧ i ≤ j ∧ j ≤ xs.length ∧ xs.length + ys.length ≤ sizeLine ∧
  Q σ (upd H3 a (.lst (xs.take i.toNat ++ ys ++ xs.drop j.toNat)))
theorem pg_slice {o l u : Expr} {to tl tu : TE} {p1 p2 : Pos} (ho : PE X o to) (hl : PE X l tl) (hu : PE X u tu)
    (ha : ∀ v, assign (.Subscript o (.Slice (some l) (some u) none p2) p1) X.env v = (do
      let ov ← holding [v] (eval o X.env)
      let iv ← holding [v, ov] (eval (.Slice (some l) (some u) none p2) X.env)
      standAt p1
      holding [v, ov, iv] (setItem ov iv v)
      release [iv, v, ov] [])) : PG X (.Subscript o (.Slice (some l) (some u) none p2) p1) (gSl to tl tu) := by
  refine ⟨fun pins s σ H v w Q I r h => ?_⟩
  rw [ha]
  refine wpAny_bind (wpAny_holding (thn (ho.run pins s σ H _ I h) fun ov s1 ⟨x, H1, I1, r1, q1⟩ => ?_))
  refine wpAny_bind (wpAny_holding ?_)
  refine wpAny_Slice (thn (hl.run pins s1 σ H1 _ I1 q1) fun vl s2 ⟨y, H2, I2, r2, q2⟩ => ?_)
  obtain ⟨i, rfl, q2⟩ := q2
  refine thn (hu.run pins s2 σ H2 _ I2 q2) fun vu s3 ⟨z, H3, I3, r3, q3⟩ => ?_
  obtain ⟨j, rfl, a, b, xs, ys, rfl, rfl, e1, e2, ne, b1, b2, b3, b4, q4⟩ := q3
  refine wpAny_pure ?_
  have I4 : Inv X pins σ H3 { s3 with heap := s3.heap.push { cls := .type "slice", data := .fields #[vl, vu, .none] } } := I3.kept (t' := s3.toks) fun b ob q => Heap.get?_push_of_some _ q
  obtain rfl : ov = Value.ref a := r1
  obtain rfl : w = Value.ref b := r
  refine wpAny_bind (wpAny_standAt (wpAny_bind (wpAny_holding ?_)))
  refine set_slice I4 e1 e2 ne (Heap.IsSliceOf.new ..) r2 r3 b1 b2 b3 b4 fun s' I5 => ?_
  exact wpAny_release ⟨σ, _, I5, q4⟩
/-- a[l:u] = [..] -/
theorem ps_setSl {a lo hi e : ME} {o l u x : Expr} {p1 p2 pos : Pos} {turns : Nat} (ha : SE X call a o) (hl : SE X call lo l) (hu : SE X call hi u) (he : SE X call e x) (hs : swapsWithSole [.Subscript o (.Slice (some l) (some u) none p2) p1] x pos.line X.env = pure false) (hw : swappedStores [.Subscript o (.Slice (some l) (some u) none p2) p1] x X.env = pure none)
    (hsub : ∀ v, assign (.Subscript o (.Slice (some l) (some u) none p2) p1) X.env v = (do
      let ov ← holding [v] (eval o X.env)
      let iv ← holding [v, ov] (eval (.Slice (some l) (some u) none p2) X.env)
      standAt p1
      holding [v, ov, iv] (setItem ov iv v)
      release [iv, v, ov] [])) : PS X (.Assign [.Subscript o (.Slice (some l) (some u) none p2) p1] x pos) (rdS X.K wx (evS call turns (.setSl a lo hi e))) := by
  refine (ps_asg he.val (pg_slice ha.val hl.val hu.val hsub) hs hw rfl).imp fun D σ H ⟨μ, env, st, ok, r, p⟩ => ?_
  rw [evS] at p
  obtain ⟨v1, st1, h1, p⟩ := to_ok p
  obtain ⟨o1, st2, h2, p⟩ := to_ok p
  obtain ⟨l1, st3, h3, p⟩ := to_ok p
  obtain ⟨u1, st4, h4, p⟩ := to_ok p
  refine ⟨μ, env, st, v1, st1, ok, r.re, h1, fun μ1 H1 v' s1 ok1 r1 f1 => ⟨μ1, env, st1, o1, st2, ok1, r.re.mono s1, h2, fun μ2 H2 o' s2 ok2 r2 f2 => ⟨μ2, env, st2, l1, st3, ok2, r.re.mono (Stp.trans s1 s2), h3, fun μ3 H3 l' s3 ok3 r3 f3 => ?_⟩⟩⟩
  split at p
  · rename_i zs n i j _ _ _
    cases r3
    refine ⟨i, rfl, μ3, env, st3, _, st4, ok3, r.re.mono (Stp.trans s1 (Stp.trans s2 s3)), h4, fun μ4 H4 u' s4 ok4 r4 f4 => ?_⟩
    cases r4
    split at p
    · rename_i ys hys
      split at p
      · rename_i hb
        obtain ⟨b1, b2, b3, b4⟩ := hb
        have q1 := r1.mono0 (Stp.trans s2 (Stp.trans s3 s4))
        have q2 := r2.mono0 (Stp.trans s3 s4)
        cases q2 with
        | loc hn =>
          cases q1 with
          | fl h5 n5 r5 =>
            obtain ⟨ws, e1, e2⟩ := ok4.cell _ _ hys
            have hn4 : n < st4.length := (List.getElem?_eq_some_iff.mp hys).1
            obtain ⟨w1, w2⟩ := ok4.write hys (RVs.app (RVs.app (e2.take i.toNat) r5) (e2.drop j.toNat))
            refine ⟨j, rfl, μ4 n, _, ws, _, rfl, rfl, e1, h5, n5 n hn4, b1, b2, by rw [← e2.len]; exact b3, by rw [← e2.len, ← r5.len]; exact b4, ?_⟩
            have all := Stp.trans s1 (Stp.trans s2 (Stp.trans s3 (Stp.trans s4 w1)))
            exact p μ4 _ σ all.wide w2 (r.mono all) fun a z => .inl z
      · exact p.elim
    · exact p.elim
  · exact p.elim
/-- x += e -/
theorem ps_augE {i : Nat} {op : BOp} {e : ME} {x : Expr} {y : Str} {py pos : Pos} {turns : Nat} (he : SE X call e x) (hN : X.N.Nodup) (hi : X.N[i]? = some y) (hx : L2.Loc X.env.scope y) (hf : X.fn y = true ∨ X.env.scope.names.lookup y = some .local) :
    PS X (.AugAssign (.Name y py) (bop op) x pos) (rdS X.K wx (evS call turns (.aug i op e))) := by
  refine ⟨fun pins s σ H D I ⟨μ, env, st, o, r, p⟩ => ?_⟩
  rw [evS] at p
  split at p
  · rename_i n hn
    obtain ⟨v, h1, h2⟩ := r.re.at_ _ _ hn
    cases h2
    obtain ⟨y1, st1, h3, p⟩ := to_ok p
    split at p
    · rename_i z
      split at p
      · refine (ps_aug hN hi hx he.val ip_add hf).run pins s σ H D I ⟨_, h1, μ, env, st, _, st1, o, r.re, h3, fun μ1 H1 x' s1 o1 r1 f1 => ?_⟩
        cases r1
        refine ⟨n, z, rfl, rfl, ?_⟩
        obtain ⟨q1, q2⟩ := (r.mono s1).set (.int (n + z)) rfl i
        exact p μ1 H1 _ s1.wide o1 q1 fun a w => .inl (q2 a w)
      · refine (ps_aug hN hi hx he.val ip_sub hf).run pins s σ H D I ⟨_, h1, μ, env, st, _, st1, o, r.re, h3, fun μ1 H1 x' s1 o1 r1 f1 => ?_⟩
        cases r1
        refine ⟨n, z, rfl, rfl, ?_⟩
        obtain ⟨q1, q2⟩ := (r.mono s1).set (.int (n - z)) rfl i
        exact p μ1 H1 _ s1.wide o1 q1 fun a w => .inl (q2 a w)
      · exact p.elim
    · exact p.elim
  · exact p.elim
/-- xs.append(e), xs a list of its own -/
theorem ps_app {i : Nat} {e : ME} {x y : Expr} {apos cpos pos : Pos} {turns : Nat} (he : SE X call e x) (hv : PE X y (tVar i)) (hy : attributeBase y "append" X.env (eval y X.env) = eval y X.env) (hl : (apos.endLine == cpos.line) = true) (hx : plainE x = true) :
    PS X (.Expr (.Call (.Attribute y "append" apos) [x] [] cpos) pos) (rdS X.K wx (evS call turns (.app i e))) := by
  have st := star_ok hx [] X.env
  have few : ((backTo cpos (starEach [x] X.env)).all (fun x => !x.1) && (backToKw cpos (keywordEach [] X.env)).all (fun x => x.1.isSome)
        && decide (([x] : List Expr).length + ([] : List Keyword).length + (if ([] : List Keyword).isEmpty then 0 else 1) < 30)) = true := by rw [st]; rfl
  refine (ps_expr (pe_bm PySem.F.plainAttrs_list PySem.F.slot_list_append PySem.F.type_list_append mt_append hv (pa_cons he.val pa_nil st) hy few hl st rfl)).imp fun D σ H ⟨μ, env, st, o, r, p⟩ => ?_
  rw [evS] at p
  obtain ⟨y1, st1, h1, p⟩ := to_ok p
  split at p
  · rename_i xs hxs
    split at p
    · rename_i hz
      obtain ⟨v, h2, h3⟩ := r.re.at_ _ _ hxs
      cases h3 with
      | @fl _ a vs h4 n4 r4 =>
        refine ⟨_, h2, .inl ⟨rfl, vs, SqL.of h4⟩, μ, env, st, y1, st1, o, r.re, h1, fun μ1 H1 y' s1 o1 r1 f1 => ?_⟩
        obtain ⟨μe, se, oe, re, fe, _⟩ := Ok.esc s1 o1 r1 f1
        have own : Own env σ a := ⟨i, xs, hxs, h2⟩
        have h5 : H1 a = some (.lst vs) := se.keep a _ h4 n4 fun z => z
        have r5 := r.mono se
        have n5 : ∀ n, n < (esc y1 st1).2.length → μe n ≠ a := fun n hn z => by
          by_cases hl : n < st.length
          · exact n4 n hl ((se.ext n hl).symm.trans z)
          · have := se.new n (by omega) hn
            rw [z, h4] at this; cases this
        have wr : StX (fun b => b = a) μe (esc y1 st1).2.length H1 μe (esc y1 st1).2.length (upd H1 a (.lst (vs ++ [y']))) := StX.wrt h5
        have all : StX (Own env σ) μ st.length H μe (esc y1 st1).2.length (upd H1 a (.lst (vs ++ [y']))) := StX.trans se.wide wr fun b e => .inl (by rw [e]; exact own)
        have off : ∀ (w : V), Off (fun b => b = a) (esc y1 st1).1 w := fun w => by
          cases hq : (esc y1 st1).1 <;> first | trivial | (rw [hq] at fe; cases fe)
        refine ⟨a, vs, y', rfl, rfl, h5, by rw [← r4.len]; exact hz, ?_⟩
        refine p μe _ σ all (oe.wrt h5 n5) ⟨⟨by simp [r.re.len], fun j q hq => ?_⟩, fun j k zs ws b ne g1 g2 g3 g4 => ?_⟩ fun b ⟨j, zs, g1, g2⟩ => .inl ?_
        · by_cases e : i = j
          · subst e
            by_cases hi : i < env.length
            · rw [List.getElem?_set_self hi] at hq
              cases hq
              exact ⟨_, h2, .fl upd_same n5 ((RVs.mono wr (RVs.mono se r4)).app (RVs.one fe (RV.mono wr (off _) re)))⟩
            · rw [List.getElem?_eq_none (by simp; omega)] at hq; cases hq
          · rw [List.getElem?_set_ne e] at hq
            obtain ⟨w, g1, g2⟩ := r5.re.at_ j q hq
            refine ⟨w, g1, RV.mono wr ?_ g2⟩
            cases g2 with
            | fl _ _ _ => exact fun z => r.de i j _ _ _ e hxs hq h2 (by rw [← z]; exact g1)
            | _ => trivial
        · have back : ∀ (j : Nat) (zs : List PV), (env.set i (some (.fl (xs ++ [(esc y1 st1).1]))))[j]? = some (some (.fl zs)) → ∃ zs', env[j]? = some (some (.fl zs')) := fun j zs h => by
            by_cases e : i = j
            · subst e; exact ⟨_, hxs⟩
            · rw [List.getElem?_set_ne e] at h; exact ⟨_, h⟩
          obtain ⟨_, b1⟩ := back j zs g1
          obtain ⟨_, b2⟩ := back k ws g2
          exact r.de j k _ _ b ne b1 b2 g3 g4
        · by_cases e : i = j
          · subst e; exact ⟨i, xs, hxs, g2⟩
          · rw [List.getElem?_set_ne e] at g1; exact ⟨j, zs, g1, g2⟩
    · exact p.elim
  · exact p.elim
/-- xs.extend(e), xs a list of its own, e a list that nothing else holds -/
theorem ps_ext {i : Nat} {e : ME} {x y : Expr} {apos cpos pos : Pos} {turns : Nat} (he : SE X call e x) (hv : PE X y (tVar i)) (hy : attributeBase y "extend" X.env (eval y X.env) = eval y X.env) (hl : (apos.endLine == cpos.line) = true) (hx : plainE x = true) :
    PS X (.Expr (.Call (.Attribute y "extend" apos) [x] [] cpos) pos) (rdS X.K wx (evS call turns (.ext i e))) := by
  have st := star_ok hx [] X.env
  have few : ((backTo cpos (starEach [x] X.env)).all (fun x => !x.1) && (backToKw cpos (keywordEach [] X.env)).all (fun x => x.1.isSome)
        && decide (([x] : List Expr).length + ([] : List Keyword).length + (if ([] : List Keyword).isEmpty then 0 else 1) < 30)) = true := by rw [st]; rfl
  refine (ps_expr (pe_bm PySem.F.plainAttrs_list PySem.F.slot_list_extend PySem.F.type_list_extend mt_extend2 hv (pa_cons he.val pa_nil st) hy few hl st rfl)).imp fun D σ H ⟨μ, env, st, o, r, p⟩ => ?_
  rw [evS] at p
  obtain ⟨y1, st1, h1, p⟩ := to_ok p
  split at p
  · rename_i xs ys hxs hy
    split at p
    · rename_i hz
      obtain ⟨v, h2, h3⟩ := r.re.at_ _ _ hxs
      cases h3 with
      | @fl _ a vs h4 n4 r4 =>
        refine ⟨_, h2, .inl ⟨rfl, vs, SqL.of h4⟩, μ, env, st, _, st1, o, r.re, h1, fun μ1 H1 y' s1 o1 r1 f1 => ?_⟩
        obtain ⟨b, ws, rfl, h6, r6⟩ : ∃ b ws, y' = V.ref b ∧ (H1 b = some (.lst ws) ∨ SqT X.K H1 b ws) ∧ RVs X.K μ1 st1.length H1 ys ws := by
          unfold extL at hy
          split at hy
          · cases hy
            cases r1 with
            | @fl _ b ws h6 n6 r6 => exact ⟨b, ws, rfl, .inl h6, r6⟩
          · cases hy
            cases r1 with
            | @tup _ b ws h6 r6 => exact ⟨b, ws, rfl, .inr h6, r6⟩
          · cases hy
        have own : Own env σ a := ⟨i, xs, hxs, h2⟩
        have h5 : H1 a = some (.lst vs) := s1.keep a _ h4 n4 fun z => z
        have r5 := r.mono s1
        have n5 : ∀ n, n < st1.length → μ1 n ≠ a := fun n hn z => by
          by_cases hl : n < st.length
          · exact n4 n hl ((s1.ext n hl).symm.trans z)
          · have := s1.new n (by omega) hn
            rw [z, h4] at this; cases this
        have wr : StX (fun b => b = a) μ1 st1.length H1 μ1 st1.length (upd H1 a (.lst (vs ++ ws))) := StX.wrt h5
        have all : StX (Own env σ) μ st.length H μ1 st1.length (upd H1 a (.lst (vs ++ ws))) := StX.trans s1.wide wr fun b e => .inl (by rw [e]; exact own)
        refine ⟨a, b, vs, ws, rfl, rfl, h5, h6, by rw [← r4.len, ← r6.len]; exact hz, ?_⟩
        refine p μ1 _ σ all (o1.wrt h5 n5) ⟨⟨by simp [r.re.len], fun j q hq => ?_⟩, fun j k zs ws b ne g1 g2 g3 g4 => ?_⟩ fun b ⟨j, zs, g1, g2⟩ => .inl ?_
        · by_cases e : i = j
          · subst e
            by_cases hi : i < env.length
            · rw [List.getElem?_set_self hi] at hq
              cases hq
              exact ⟨_, h2, .fl upd_same n5 ((RVs.mono wr (RVs.mono s1 r4)).app (RVs.mono wr r6))⟩
            · rw [List.getElem?_eq_none (by simp; omega)] at hq; cases hq
          · rw [List.getElem?_set_ne e] at hq
            obtain ⟨w, g1, g2⟩ := r5.re.at_ j q hq
            refine ⟨w, g1, RV.mono wr ?_ g2⟩
            cases g2 with
            | fl _ _ _ => exact fun z => r.de i j _ _ _ e hxs hq h2 (by rw [← z]; exact g1)
            | _ => trivial
        · have back : ∀ (j : Nat) (zs : List PV), (env.set i (some (.fl (xs ++ ys))))[j]? = some (some (.fl zs)) → ∃ zs', env[j]? = some (some (.fl zs')) := fun j zs h => by
            by_cases e : i = j
            · subst e; exact ⟨_, hxs⟩
            · rw [List.getElem?_set_ne e] at h; exact ⟨_, h⟩
          obtain ⟨_, b1⟩ := back j zs g1
          obtain ⟨_, b2⟩ := back k ws g2
          exact r.de j k _ _ b ne b1 b2 g3 g4
        · by_cases e : i = j
          · subst e; exact ⟨i, xs, hxs, g2⟩
          · rw [List.getElem?_set_ne e] at g1; exact ⟨j, zs, g1, g2⟩
    · exact p.elim
  · exact p.elim
end
end U

set_option maxHeartbeats 4000000
/-! U13o: objects of the program's own classes, in the store. -/
namespace U
open PySem PySem.Spec PyProof.Rows L2
variable {X : Cx} {call : Nat → List PV → Store → Res PV}
/-- e.f = v -/
theorem ps_setF {wx : XW} {c f : Str} {C : Addr} {a e : ME} {x y : Expr} {pos pos' : Pos} {turns : Nat} (ha : SE X call a x) (he : SE X call e y) (hC : PySem.W.nsIn X.K mainGlobals c = some (some (.ref C))) (cl : Cls X.K C) (na : NoAttr X.K C f)
    (hs : swapsWith y (some (.Attribute x f pos')) pos.line X.env = pure false) : PS X (.Assign [.Attribute x f pos'] y pos) (rdS X.K wx (evS call turns (.setF c a f e))) := by
  refine (ps_fld ha.use he.val hs).imp fun D σ H ⟨μ, env, st, o, r, p⟩ => ?_
  rw [evS] at p
  obtain ⟨v, st1, h1, p1⟩ := to_ok p
  obtain ⟨x1, st2, h2, p2⟩ := to_ok p1
  refine ⟨μ, env, st, v, st1, o, r.re, h1, fun μ1 H1 v' s1 o1 rv fv => ⟨μ1, env, st1, x1, st2, o1, r.re.mono s1, h2, fun μ2 H2 x' s2 o2 rx => ?_⟩⟩
  split at p2
  · rename_i n
    split at p2
    · rename_i c' fs q
      split at p2
      · rename_i hh
        obtain ⟨rfl, hl, nf⟩ := hh
        cases rx with
        | loc hnn =>
          obtain ⟨C', dx, gs, a1, a2, a3, a4⟩ := o2.ob _ _ _ q
          rw [hC] at a1
          cases a1
          have lg : gs.length = fs.length := by
            have := congrArg List.length a3
            simpa using this
          obtain ⟨e1, e2⟩ := fields_put (f := f) (rv.mono0 s2) nf a3 a4
          obtain ⟨w1, w2⟩ := o2.writeO q hC a2 e1 e2
          refine ⟨_, C, dx, gs, rfl, a2, cl, na, by omega, ?_⟩
          have all := Stp.trans s1 (Stp.trans s2 w1)
          exact p2 μ2 _ σ all.wide w2 (r.mono all) fun a z => .inl z
      · exact p2.elim
    · exact p2.elim
  · exact p2.elim
/-- e.f op= v -/
theorem ps_augF {wx : XW} {c f : Str} {C : Addr} {a e : ME} {x y : Expr} {pos pos' : Pos} {turns : Nat} {o : BOp} {op : Operator} {rd : V → V → Hp → VK → Prop} (ha : SE X call a x) (he : SE X call e y) (hC : PySem.W.nsIn X.K mainGlobals c = some (some (.ref C))) (cl : Cls X.K C) (na : NoAttr X.K C f)
    (hop : InOp X op rd) (ho : (o = .add ∧ ∀ i j H (Q : VK), Q (.int (i + j)) H → rd (.int i) (.int j) H Q) ∨ (o = .sub ∧ ∀ i j H (Q : VK), Q (.int (i - j)) H → rd (.int i) (.int j) H Q)) : PS X (.AugAssign (.Attribute x f pos') op y pos) (rdS X.K wx (evS call turns (.augF c a f o e))) := by
  refine (ps_fldaug ha.use he.val hop).imp fun D σ H ⟨μ, env, st, ok, r, p⟩ => ?_
  rw [evS] at p
  obtain ⟨x1, st1, h1, p1⟩ := to_ok p
  obtain ⟨v1, st1b, h1b, p2⟩ := to_ok p1
  obtain ⟨h1c, rfl⟩ := opt_ok h1b
  obtain ⟨y1, st2, h2, p3⟩ := to_ok p2
  refine ⟨μ, env, st, x1, st1, ok, r.re, h1, fun μ1 H1 x' s1 o1 rx => ?_⟩
  unfold fldV at h1c
  split at h1c
  · rename_i n
    split at h1c
    · rename_i c' fs q
      split at h1c
      · rename_i ec
        subst ec
        have hn : n < st1.length := (List.getElem?_eq_some_iff.mp q).1
        cases rx with
        | loc hnn =>
          obtain ⟨C', dx, gs, a1, a2, a3, a4⟩ := o1.ob _ _ _ q
          rw [hC] at a1
          cases a1
          obtain ⟨v', l, rv, nf⟩ := fields_at a3 a4 h1c
          refine ⟨_, C, dx, gs, v', rfl, a2, cl, na, l, μ1, env, st1, y1, st2, o1, r.re.mono s1, h2, fun μ2 H2 y' s2 o2 ry fy => ?_⟩
          split at p3
          · rename_i i j m e2
            cases e2
            cases rv
            cases ry
            split at p3
            · rename_i c2 fs2 q2
              split at p3
              · rename_i hh
                obtain ⟨rfl, hl⟩ := hh
                obtain ⟨C2, dx2, gs2, b1, b2, b3, b4⟩ := o2.ob _ _ _ q2
                rw [hC] at b1
                cases b1
                have lg : gs2.length = fs2.length := by
                  have := congrArg List.length b3
                  simpa using this
                have em : μ2 n = μ1 n := s2.ext n hn
                have fin : ∀ z : Int, post X.K wx (Own env σ) μ st H (.nx env (st2.set n (.ins c2 (putFV f (.int z) fs2)))) D → D.nx σ (upd H2 (μ1 n) (.ins C dx2 (putF f (.int z) gs2))) := fun z pz => by
                  obtain ⟨e1, e2⟩ := fields_put (f := f) (v := .int z) (v' := .int z) (.int z) rfl b3 b4
                  obtain ⟨w1, w2⟩ := o2.writeO q2 hC b2 e1 e2
                  have all := Stp.trans s1 (Stp.trans s2 w1)
                  rw [← em]
                  exact pz μ2 _ σ all.wide w2 (r.mono all) fun a z => .inl z
                rcases ho with ⟨rfl, ho⟩ | ⟨rfl, ho⟩
                · exact ho _ _ _ _ ⟨dx2, gs2, by rw [← em]; exact b2, by omega, fin _ p3⟩
                · exact ho _ _ _ _ ⟨dx2, gs2, by rw [← em]; exact b2, by omega, fin _ p3⟩
              · exact p3.elim
            · exact p3.elim
          · exact p3.elim
      · cases h1c
    · cases h1c
  · cases h1c
end U

set_option maxHeartbeats 8000000
/-! U13e: an own error that sets fields is raised. -/
namespace U
open PySem PySem.Spec PyProof.Rows L2
section
variable {K : PySem.W.Frag} {μ : Nat → Addr} {L : Nat} {H H1 : Hp} {a C e : Addr} {d : Option Addr}
theorem exo_lst {e C : Addr} {d : Option Addr} {xs : List V} : exo e C d ≠ .lst xs := fun z => by
  have z' : HO.ext _ = HO.lst xs := z
  cases z'
theorem exo_ins {e C c dx : Addr} {d : Option Addr} {xs : List (Str × V)} : exo e C d ≠ .ins c dx xs := fun z => by
  have z' : HO.ext _ = HO.ins c dx xs := z
  cases z'
theorem sqT_gone (k : ∀ b o, H b = some o → b ≠ a → H1 b = some o) (ha : H a = some (exo e C d)) {b : Addr} {vs : List V} (h : SqT K H b vs) : SqT K H1 b vs := by
  rcases h with (h | ⟨o, h⟩) | h
  · exact .inl (.inl (k _ _ h fun z => exo_tup (Option.some.inj (ha.symm.trans (by rw [← z]; exact h)))))
  · exact .inl (.inr ⟨o, k _ _ h fun z => exo_frz (Option.some.inj (ha.symm.trans (by rw [← z]; exact h)))⟩)
  · exact .inr h
theorem kl_gone (k : ∀ b o, H b = some o → b ≠ a → H1 b = some o) (ha : H a = some (exo e C d)) {b : Addr} {vs : List V} (h : Kl K H b vs) : Kl K H1 b vs := by
  rcases h with ⟨o, h⟩ | h
  · exact .inl ⟨o, k _ _ h fun z => exo_frz (Option.some.inj (ha.symm.trans (by rw [← z]; exact h)))⟩
  · exact .inr h
theorem exo_code {e C c : Addr} {d : Option Addr} {q : Str} : exo e C d ≠ LamX.CodeO c q := fun z => by
  have hp := HO.ext.inj z
  have g : ∀ a, a < e + c + 1 → ({ objs := Array.replicate (e + c + 1) ({ cls := .ref C, dict := d, data := .fields #[.ref 0, .none, .none, .none, .bool false, .none] } : Obj) } : Heap).get? a = some { cls := .ref C, dict := d, data := .fields #[.ref 0, .none, .none, .none, .bool false, .none] } := fun a ha => by
    simp [Heap.get?, ha]
  have t := congrFun hp { objs := Array.replicate (e + c + 1) ({ cls := .ref C, dict := d, data := .fields #[.ref 0, .none, .none, .none, .bool false, .none] } : Obj) }
  have t2 := cast t ⟨0, g e (Nat.lt_succ_of_le (Nat.le_add_right e c))⟩
  obtain ⟨oc, vs, tk, h1, h2, h3⟩ := t2
  rw [g c (Nat.lt_succ_of_le (Nat.le_add_left c e))] at h1
  cases h1
  cases h2
  simp at h3
mutual
theorem RV.gone (k : ∀ b o, H b = some o → b ≠ a → H1 b = some o) (ha : H a = some (exo e C d)) : ∀ {x : PV} {v : V}, RV K μ L H x v → RV K μ L H1 x v
  | _, _, .non => .non
  | _, _, .bl b => .bl b
  | _, _, .int i => .int i
  | _, _, .str z => .str z
  | _, _, .tup h r q => .tup (sqT_gone k ha h) (RVs.gone k ha r) (q.imp (fun h => k _ _ h fun z => exo_tup (Option.some.inj (ha.symm.trans (by rw [← z]; exact h)))) fun z => z)
  | _, _, .loc h => .loc h
  | _, _, .fl h n r => .fl (k _ _ h fun z => exo_lst (Option.some.inj (ha.symm.trans (by rw [← z]; exact h)))) n (RVs.gone k ha r)
  | _, _, .rol h r => .rol (kl_gone k ha h) (RVs.gone k ha r)
  | _, _, .fnv h => .fnv (k _ _ h fun z => exo_code (Option.some.inj (ha.symm.trans (by rw [← z]; exact h))))
theorem RVs.gone (k : ∀ b o, H b = some o → b ≠ a → H1 b = some o) (ha : H a = some (exo e C d)) : ∀ {x : List PV} {v : List V}, RVs K μ L H x v → RVs K μ L H1 x v
  | _, _, .nil => .nil
  | _, _, .cons f h r => .cons f (RV.gone k ha h) (RVs.gone k ha r)
end
/-- the error is let go, its fields' dict stands -/
theorem err_gone {μ1 μ' : Nat → Addr} {L1 : Nat} {st2 : Store} {H' : Hp} {dx : Addr} {z : HO} {gs : List (Str × V)} {X0 X1 : HO} (ha : H1 a = none) (s : Stp μ1 L1 (upd H1 a X0) μ' st2.length H') (o : Ok K μ' st2 H') (he : H' a = some (exo e C d)) (hd : H' dx = none) (hda : dx ≠ a) :
    Stp μ1 L1 H1 μ' st2.length (upd (del (upd (upd H' dx z) a X1) a) dx (.xd gs)) ∧ Ok K μ' st2 (upd (del (upd (upd H' dx z) a X1) a) dx (.xd gs)) := by
  generalize hf : upd (del (upd (upd H' dx z) a X1) a) dx (.xd gs) = Hf
  have k : ∀ b o, H' b = some o → b ≠ a → Hf b = some o := fun b o h n => by
    have nd : b ≠ dx := fun z => by rw [z, hd] at h; cases h
    rw [← hf, upd_ne nd, del_ne n, upd_ne n, upd_ne nd]; exact h
  have up : ∀ b o, H1 b = some o → upd H1 a X0 b = some o ∧ b ≠ a := fun b o h => by
    have n : b ≠ a := fun z => by rw [z, ha] at h; cases h
    exact ⟨by rw [upd_ne n]; exact h, n⟩
  refine ⟨⟨s.le, s.ext, fun b o h n _ => ?_, fun b xs h => ?_, fun b o u h => ?_, fun b h => ?_, fun n h1 h2 => ?_, fun b p h => ?_⟩, ?_⟩
  · obtain ⟨h1, h2⟩ := up b o h
    exact k _ _ (s.keep b o h1 n fun z => z) h2
  · obtain ⟨h1, h2⟩ := up b _ h
    exact k _ _ (s.tup b xs h1) h2
  · obtain ⟨h1, h2⟩ := up b _ h
    exact k _ _ (s.frz b o u h1) h2
  · by_cases h1 : b = a
    · rw [h1]; exact ha
    · have h2 : H' b = none := by
        cases q : H' b with
        | none => rfl
        | some o => rw [k b o q h1] at h; cases h
      have := s.there b h2
      rw [upd_ne h1] at this
      exact this
  · have := s.new n h1 h2
    by_cases h3 : μ' n = a
    · rw [h3]; exact ha
    · rw [upd_ne h3] at this; exact this
  · obtain ⟨h1, h2⟩ := up b _ h
    exact k _ _ (s.cod b p h1) h2
  · refine ⟨o.inj, fun n xs h => ?_, fun n c fs h => ?_, fun n P q h => ?_, fun n t2 kvs2 h => ?_, fun n h => ?_⟩
    rotate_left 3
    · obtain ⟨ws, a1, a2, a3⟩ := o.dc n t2 kvs2 h
      exact ⟨ws, k _ _ a1 fun z => dHO_ne_ext (Option.some.inj (a1.symm.trans (by rw [z]; exact he))), RVs.gone k he a2, a3⟩
    · obtain ⟨ob, u2, a1⟩ := o.hd n h
      exact ⟨ob, u2, k _ _ a1 fun z => exo_frz (Option.some.inj (he.symm.trans (by rw [← z]; exact a1)))⟩
    rotate_left 2
    · obtain ⟨e1, t⟩ := o.tb n P q h
      exact ⟨e1, tab_of t (fun ps h1 => k _ _ h1 fun z => exo_tbl (Option.some.inj (he.symm.trans (by rw [← z]; exact h1)))) fun c h1 => k _ _ h1 fun z => exo_code (Option.some.inj (he.symm.trans (by rw [← z]; exact h1)))⟩
    · obtain ⟨vs, h1, h2⟩ := o.cell n xs h
      exact ⟨vs, k _ _ h1 fun z => exo_lst (Option.some.inj (he.symm.trans (by rw [← z]; exact h1))), RVs.gone k he h2⟩
    · obtain ⟨c', dx', gs', a1, a2, a3, a4⟩ := o.ob n c fs h
      exact ⟨c', dx', gs', a1, k _ _ a2 fun z => exo_ins (Option.some.inj (he.symm.trans (by rw [← z]; exact a2))), a3, RVs.gone k he a4⟩
theorem RVs.snoc {xs : List PV} {vs : List V} {x : PV} {v : V} (r : RVs K μ L H xs vs) (f : x.isFl = false) (q : RV K μ L H x v) : RVs K μ L H (xs ++ [x]) (vs ++ [v]) := r.app (.one f q)
theorem RVs.rev : ∀ {xs : List PV} {vs : List V}, RVs K μ L H xs vs → RVs K μ L H xs.reverse vs.reverse
  | _, _, .nil => .nil
  | _, _, .cons f h r => by
    rw [List.reverse_cons, List.reverse_cons]
    exact (RVs.rev r).snoc f h
theorem zip_fst {α β : Type} : ∀ {xs : List α} {ys : List β}, ys.length = xs.length → (xs.zip ys).map Prod.fst = xs
  | [], [], _ => rfl
  | _ :: _, [], h => by cases h
  | [], _ :: _, h => by cases h
  | x :: xs, y :: ys, h => by rw [List.zip_cons_cons, List.map_cons, zip_fst (by simpa using h)]
theorem zip_snd {α β : Type} : ∀ {xs : List α} {ys : List β}, ys.length = xs.length → (xs.zip ys).map Prod.snd = ys
  | [], [], _ => rfl
  | _ :: _, [], h => by cases h
  | [], _ :: _, h => by cases h
  | x :: xs, y :: ys, h => by rw [List.zip_cons_cons, List.map_cons, zip_snd (by simpa using h)]
theorem raise_imp {call : Nat → List PV → Store → Res PV} {turns : Nat} {wx : XW} {Ca : Addr} {x : Str} {flds : List Str} {g : Nat} {as : MEs} {cf : List PV → Store → Res PV} {D : Ends} {σ : L2.St} (hne : flds ≠ []) (hl : flds.length ≤ 1000) (mgx : wx.mg x = some (.ref Ca)) (ec : ∀ as st, call g as st = cf as st)
    (h : rdS K wx (evS call turns (.raise x flds g as)) D σ H) : tMkO Ca (spI K Ca flds cf) [] (rdA K (evA call as)) σ H (fun cls d H' => wx.W cls d σ H') := by
  obtain ⟨μ, env, st, o, r, p⟩ := h
  rw [evS, if_neg (by simpa using hne)] at p
  obtain ⟨xs, st1, q1, p⟩ := to_ok p
  split at p
  · rename_i hn
    obtain ⟨v, st2, q2, p⟩ := to_ok p
    refine ⟨μ, env, st, xs, st1, o, r.re, q1, fun μ1 H1 vs s1 o1 r1 => ⟨by rw [← r1.len, hn]; exact hl, fun a ha => ?_⟩⟩
    rw [List.append_nil]
    refine ⟨a, vs, μ1, st1, xs, v, st2, rfl, upd_same, hn, o1.laid ha, RVs.mono (Stp.laid ha) r1, by rw [← ec]; exact q2, fun μ' H' dx s2 o2 he hd hda => ⟨rfl, dx, _, upd_same, by rw [upd_ne hda, upd_same], ?_, ?_⟩⟩
    · have := s2.there dx hd
      rw [upd_ne hda] at this
      exact this
    · obtain ⟨s3, o3⟩ := err_gone (z := exd dx (flds.zip vs).reverse) (gs := (flds.zip vs).reverse) ha s2 o2 he hd hda
      have lv : vs.length = flds.length := by rw [← r1.len]; exact hn
      have s4 : Stp μ st.length H μ' st2.length _ := Stp.trans s1 s3
      refine p μ' _ σ Ca (some dx) s4.wide o3 (r.mono s4) (fun a z => .inl z) mgx (.inr ⟨dx, (flds.zip vs).reverse, ?_, rfl, upd_same, ?_, ?_⟩)
      · intro z
        have := congrArg List.length z
        rw [List.length_reverse, List.length_zip, hn, Nat.min_self] at this
        exact hne (List.length_eq_zero_iff.mp this)
      · rw [List.map_reverse, List.map_reverse, zip_fst lv, zip_fst hn]
      · rw [List.map_reverse, List.map_reverse, zip_snd lv, zip_snd hn]
        exact (RVs.mono s3 r1).rev
  · exact p.elim
end
end U

set_option maxHeartbeats 8000000
/-! U13x: expressions that may raise. -/
namespace U
open PySem PySem.Spec PyProof.Rows L2
section
variable {K : PySem.W.Frag} {X : Cx} {call : Nat → List PV → Store → Res PV} {wx : XW}
theorem bindN_ok {α β : Type} {r : Res α} {f : α → Store → Res β} (h : r.bindN f ≠ .bad) : ∃ a st, r = .ok a st ∧ r.bindN f = f a st := by
  cases r with
  | ok a st => exact ⟨a, st, rfl, rfl⟩
  | xc _ _ _ => exact absurd rfl h
  | bad => exact absurd rfl h
theorem outX.nb {mg : Str → Option Value} {μ : Nat → Addr} {st : Store} {H : Hp} {Q : VK} {E : XK} {r : Res PV} (h : outX K mg μ st H Q E r) : r ≠ .bad := fun z => by
  subst z; exact h
theorem outX.shift {mg : Str → Option Value} {μ μ1 : Nat → Addr} {st st1 : Store} {H H1 : Hp} {Q : VK} {E : XK} {r : Res PV} (s : Stp μ st.length H μ1 st1.length H1) (h : outX K mg μ st H Q E r) : outX K mg μ1 st1 H1 Q E r := by
  cases r with
  | ok v st' => exact fun μ' H' v' s2 o2 r2 f2 => h μ' H' v' (Stp.trans s s2) o2 r2 (f2.back s)
  | xc c fs st' => exact fun μ' H' C d s2 o2 hm x => h μ' H' C d (Stp.trans s s2) o2 hm x
  | bad => exact h
/-- the reading of an expression that may raise -/
def rdX (K : PySem.W.Frag) (wx : XW) (m : En → Store → Res PV) : TE := fun σ H Q => ∃ μ env st, Ok K μ st H ∧ S1 K μ st.length H env σ ∧ outX K wx.mg μ st H Q (WE wx.W σ) (m env st)
theorem toX_rd {μ : Nat → Addr} {env : En} {st : Store} {H : Hp} {σ : L2.St} {Q : VK} {D : Ends} {res : Res PV} {k : PV → Store → SR} (r : S1 K μ st.length H env σ) (p : post K wx (Own env σ) μ st H (res.toX env k) D)
    (h : ∀ v st1, res = .ok v st1 → post K wx (Own env σ) μ st H (k v st1) D → ∀ μ' H' v', Stp μ st.length H μ' st1.length H' → Ok K μ' st1 H' → RV K μ' st1.length H' v v' → Fr H v v' → Q v' H') : outX K wx.mg μ st H Q (WE wx.W σ) res := by
  cases res with
  | ok v st1 => exact h v st1 rfl p
  | xc c fs st1 => exact fun μ' H' C d s o hm x => p μ' H' σ C d s.wide o (r.mono s) (fun a z => .inl z) hm x
  | bad => exact p.elim
/-- a row whose last item may raise -/
def evAX (call : Nat → List PV → Store → Res PV) (as : MEs) (x : MX) (env : En) (st : Store) : Res (List PV) := (evA call as env st).bindN fun xs st1 => (evX call x env st1).bind fun y st2 => .ok (xs ++ [(esc y st2).1]) (esc y st2).2
def outXs (K : PySem.W.Frag) (mg : Str → Option Value) (μ : Nat → Addr) (st : Store) (H : Hp) (Q : List V → Hp → Prop) (E : XK) : Res (List PV) → Prop
  | .ok v st' => ∀ μ' H' v', Stp μ st.length H μ' st'.length H' → Ok K μ' st' H' → RVs K μ' st'.length H' v v' → Q v' H'
  | .xc c fs st' => ∀ μ' H' C d, Stp μ st.length H μ' st'.length H' → Ok K μ' st' H' → mg c = some (.ref C) → XD K μ' st'.length H' fs d → E (.ref C) d H'
  | .bad => False
def rdAX (K : PySem.W.Frag) (wx : XW) (m : En → Store → Res (List PV)) : TA := fun σ H Q => ∃ μ env st, Ok K μ st H ∧ S1 K μ st.length H env σ ∧ outXs K wx.mg μ st H Q (WE wx.W σ) (m env st)
theorem pax_one {x : MX} {e : Expr} (he : PE X e (rdX X.K wx (evX call x))) (hp : plainE e = true) : PA X [e] (rdAX X.K wx (evAX call .nil x)) := by
  refine (pa_cons he pa_nil (star_ok hp _ _)).imp fun σ H Q ⟨μ, env, st, o, r, h⟩ => ⟨μ, env, st, o, r, ?_⟩
  unfold evAX at h
  rw [evA] at h
  simp only [Res.bindN] at h
  cases q : evX call x env st with
  | ok y st2 =>
    rw [q] at h
    intro μ1 H1 v' s1 o1 r1 f1
    obtain ⟨μe, se, oe, re, fe, _⟩ := Ok.esc s1 o1 r1 f1
    exact h μe H1 _ se oe (.cons fe re .nil)
  | xc c fs st2 => rw [q] at h; exact h
  | bad => rw [q] at h; exact h
theorem pax_cons {a : ME} {as : MEs} {x : MX} {y : Expr} {es : List Expr} (ha : SE X call a y) (hp : plainE y = true) (hs : PA X es (rdAX X.K wx (evAX call as x))) : PA X (y :: es) (rdAX X.K wx (evAX call (.cons a as) x)) := by
  refine (pa_cons ha.val hs (star_ok hp _ _)).imp fun σ H Q ⟨μ, env, st, o, r, h⟩ => ?_
  unfold evAX at h
  rw [evA] at h
  cases h1 : ev call a .val env st with
  | ok x1 st1 =>
    rw [h1] at h
    refine ⟨μ, env, st, x1, st1, o, r.re, h1, fun μ1 H1 x' s1 o1 r1 f1 => ?_⟩
    obtain ⟨μe, se, oe, re, fe, _⟩ := Ok.esc s1 o1 r1 f1
    refine ⟨μe, env, _, oe, r.mono se, ?_⟩
    unfold evAX
    simp only [Res.bind] at h
    cases h2 : evA call as env (esc x1 st1).2 with
    | ok xs st2 =>
      rw [h2] at h
      simp only [Res.bindN] at h ⊢
      cases h3 : evX call x env st2 with
      | ok y3 st3 =>
        rw [h3] at h
        exact fun μ2 H2 ys s2 o2 r2 => h μ2 H2 _ (Stp.trans se s2) o2 (.cons fe (re.mono0 s2) r2)
      | xc c fs st3 =>
        rw [h3] at h
        exact fun μ2 H2 C d s2 o2 hm x => h μ2 H2 C d (Stp.trans se s2) o2 hm x
      | bad => rw [h3] at h; exact h
    | xc _ _ _ => rw [h2] at h; exact h.elim
    | bad => rw [h2] at h; exact h.elim
  | xc _ _ _ => rw [h1] at h; exact h.elim
  | bad => rw [h1] at h; exact h.elim
theorem pe_tupX {as : MEs} {x : MX} {es : List Expr} {k : Nat} {pos : Pos} (hs : PA X es (rdAX X.K wx (evAX call as x))) : PE X (.Tuple es k pos) (rdX X.K wx (evX call (.tup as x))) := by
  refine (pe_tup hs).imp fun σ H Q ⟨μ, env, st, o, r, h⟩ => ⟨μ, env, st, o, r, ?_⟩
  rw [evX] at h
  unfold evAX
  cases h2 : evA call as env st with
  | ok xs st2 =>
    rw [h2] at h
    simp only [Res.bindN] at h ⊢
    cases h3 : evX call x env st2 with
    | ok y3 st3 =>
      rw [h3] at h
      simp only [Res.bind] at h ⊢
      split at h
      · rename_i hz
        intro μ2 H2 ys s2 o2 r2
        refine ⟨by rw [← r2.len, List.length_append]; exact hz, fun p hp => ?_⟩
        exact h μ2 _ _ (Stp.trans s2 (Stp.laid hp)) (o2.laid hp) (.tup (SqT.of upd_same) (RVs.mono (Stp.laid hp) r2) (.inl upd_same)) trivial
      · exact h.elim
    | xc c fs st3 => rw [h3] at h; exact h
    | bad => rw [h3] at h; exact h
  | xc _ _ _ => rw [h2] at h; exact h.elim
  | bad => rw [h2] at h; exact h.elim
theorem pe_lstX {x : MX} {e : Expr} {pos : Pos} (he : PE X e (rdX X.K wx (evX call x))) (hp : plainE e = true) : PE X (.List [e] pos) (rdX X.K wx (evX call (.lst x))) := by
  refine (pe_lst (pax_one he hp)).imp fun σ H Q ⟨μ, env, st, o, r, h⟩ => ⟨μ, env, st, o, r, ?_⟩
  rw [evX] at h
  unfold evAX
  rw [evA]
  simp only [Res.bindN]
  cases h3 : evX call x env st with
  | ok y3 st3 =>
    rw [h3] at h
    simp only [Res.bind] at h ⊢
    intro μ2 H2 ys s2 o2 r2
    exact ⟨by rw [← r2.len, sizeLine_eq]; simp, fun p hp => h μ2 _ _ (Stp.trans s2 (Stp.laid hp)) (o2.laid hp) (.fl upd_same (o2.apart hp) (RVs.mono (Stp.laid hp) r2)) (s2.there _ hp)⟩
  | xc c fs st3 => rw [h3] at h; exact h
  | bad => rw [h3] at h; exact h
theorem setE_imp {x : MX} {i : Nat} {own : Bool} {turns : Nat} : ∀ D σ H, rdS K wx (evS call turns (.setE i x own)) D σ H → tAsg (rdX K wx (evX call x)) (gName i) D σ H := fun D σ H ⟨μ, env, st, o, r, p⟩ => by
  rw [evS] at p
  refine ⟨μ, env, st, o, r, toX_rd r p fun x1 st1 h1 p μ1 H1 x' s1 o1 r1 f1 => ?_⟩
  show D.nx (σ.set i (some x')) H1
  cases own with
  | true =>
    have off : ∀ a, x1.isFl = true → x' = .ref a → H a = none := fun a z e => by
      cases x1 <;> first | cases z | skip
      subst e
      exact f1
    obtain ⟨q1, q2⟩ := (r.mono s1).setFl r1 (fun a z e w => by
      obtain ⟨vs, hv⟩ := w.there r.re
      rw [off a z e] at hv; cases hv) i
    exact p μ1 H1 _ s1.wide o1 q1 fun a z => (q2 a z).elim .inl fun w => .inr (off a w.1 w.2)
  | false =>
    obtain ⟨μe, se, oe, re, fe, _⟩ := Ok.esc s1 o1 r1 f1
    obtain ⟨q1, q2⟩ := (r.mono se).set re fe i
    exact p μe H1 _ se.wide oe q1 fun a z => .inl (q2 a z)
theorem retE_imp {x : MX} {turns : Nat} : ∀ D σ H, rdS K wx (evS call turns (.retE x)) D σ H → tRet (rdX K wx (evX call x)) D σ H := fun D σ H ⟨μ, env, st, o, r, p⟩ => by
  rw [evS] at p
  refine ⟨μ, env, st, o, r, toX_rd r p fun x1 st1 h1 p μ1 H1 x' s1 o1 r1 f1 => ?_⟩
  refine p μ1 H1 x' s1.wide o1 r1 fun a z e => .inr ?_
  cases x1 <;> first | cases z | skip
  subst e
  exact f1
theorem exE_imp {x : MX} {turns : Nat} : ∀ D σ H, rdS K wx (evS call turns (.exE x)) D σ H → rdX K wx (evX call x) σ H (fun _ H1 => D.nx σ H1) := fun D σ H ⟨μ, env, st, o, r, p⟩ => by
  rw [evS] at p
  exact ⟨μ, env, st, o, r, toX_rd r p fun x1 st1 h1 p μ1 H1 x' s1 o1 r1 f1 => p μ1 H1 σ s1.wide o1 (r.mono s1) fun a z => .inl z⟩
/-- x.f = v, v may raise -/
theorem ps_setFX {c f : Str} {C : Addr} {a : ME} {m : MX} {x y : Expr} {pos pos' : Pos} {turns : Nat} (ha : SE X call a x) (he : PE X y (rdX X.K wx (evX call m))) (hC : PySem.W.nsIn X.K mainGlobals c = some (some (.ref C))) (cl : Cls X.K C) (na : NoAttr X.K C f)
    (hs : swapsWith y (some (.Attribute x f pos')) pos.line X.env = pure false) : PS X (.Assign [.Attribute x f pos'] y pos) (rdS X.K wx (evS call turns (.setFE c a f m))) := by
  refine (ps_fld ha.use he hs).imp fun D σ H ⟨μ, env, st, o, r, p⟩ => ?_
  rw [evS] at p
  refine ⟨μ, env, st, o, r, toX_rd r p fun v st1 h1 p1 μ1 H1 v' s1 o1 rv fv => ?_⟩
  obtain ⟨x1, st2, h2, p2⟩ : ∃ x1 st2, ev call a .use env st1 = .ok x1 st2 ∧ _ := to_ok p1
  refine ⟨μ1, env, st1, x1, st2, o1, r.re.mono s1, h2, fun μ2 H2 x' s2 o2 rx => ?_⟩
  split at p2
  · rename_i n
    split at p2
    · rename_i c' fs q
      split at p2
      · rename_i hh
        obtain ⟨rfl, hl, nf⟩ := hh
        cases rx with
        | loc hnn =>
          obtain ⟨C', dx, gs, a1, a2, a3, a4⟩ := o2.ob _ _ _ q
          rw [hC] at a1
          cases a1
          have lg : gs.length = fs.length := by
            have := congrArg List.length a3
            simpa using this
          obtain ⟨e1, e2⟩ := fields_put (f := f) (rv.mono0 s2) nf a3 a4
          obtain ⟨w1, w2⟩ := o2.writeO q hC a2 e1 e2
          refine ⟨_, C, dx, gs, rfl, a2, cl, na, by omega, ?_⟩
          have all := Stp.trans s1 (Stp.trans s2 w1)
          exact p2 μ2 _ σ all.wide w2 (r.mono all) fun a z => .inl z
      · exact p2.elim
    · exact p2.elim
  · exact p2.elim
/-- o.append(x), o a shared list, x may raise -/
theorem ps_apsX {a : ME} {m : MX} {x y : Expr} {apos cpos pos : Pos} {turns : Nat} (he : PE X x (rdX X.K wx (evX call m))) (ha : SE X call a y) (hy : attributeBase y "append" X.env (eval y X.env) = eval y X.env) (hl : (apos.endLine == cpos.line) = true) (hx : plainE x = true) :
    PS X (.Expr (.Call (.Attribute y "append" apos) [x] [] cpos) pos) (rdS X.K wx (evS call turns (.apsE a m))) := by
  have st := star_ok hx [] X.env
  have few : ((backTo cpos (starEach [x] X.env)).all (fun x => !x.1) && (backToKw cpos (keywordEach [] X.env)).all (fun x => x.1.isSome)
        && decide (([x] : List Expr).length + ([] : List Keyword).length + (if ([] : List Keyword).isEmpty then 0 else 1) < 30)) = true := by rw [st]; rfl
  refine (ps_expr (pe_bm PySem.F.plainAttrs_list PySem.F.slot_list_append PySem.F.type_list_append mt_append ha.use (pa_cons he pa_nil st) hy few hl st rfl)).imp fun D σ H ⟨μ, env, st, o, r, p⟩ => ?_
  rw [evS] at p
  obtain ⟨o1, st1, h1, p⟩ := to_ok p
  refine ⟨μ, env, st, o1, st1, o, r.re, h1, fun μ1 H1 x' s1 ok1 rx => ?_⟩
  split at p
  · rename_i n
    split at p
    · rename_i zs q
      cases rx with
      | loc hn =>
        obtain ⟨vs, hv, rv⟩ := ok1.cell _ _ q
        have p' := p.shift s1.wide (S' := Own env σ) fun a z => .inl z
        refine ⟨.inl ⟨rfl, vs, SqL.of hv⟩, μ1, env, st1, ok1, r.mono s1, toX_rd (r.mono s1) p' fun y1 st2 h2 p2 μ2 H2 y' s2 ok2 r2 f2 => ?_⟩
        split at p2
        · rename_i xs q2
          split at p2
          · rename_i hz
            obtain ⟨ws, hw, rw'⟩ := ok2.cell _ _ q2
            have em : μ2 n = μ1 n := s2.ext n hn
            obtain ⟨w1, w2⟩ := ok2.write (ys := xs ++ [y1]) (ws := ws ++ [y']) q2 (rw'.app (.one hz.2 r2))
            refine ⟨_, ws, y', rfl, rfl, by rw [← em]; exact hw, by rw [← rw'.len]; exact hz.1, ?_⟩
            rw [← em]
            have all := Stp.trans s2 w1
            exact p2 μ2 _ σ all.wide w2 ((r.mono s1).mono all) fun a z => .inl z
          · exact p2.elim
        · exact p2.elim
    · exact p.elim
  · exact p.elim
theorem ps_appX {i : Nat} {m : MX} {x y : Expr} {apos cpos pos : Pos} {turns : Nat} (he : PE X x (rdX X.K wx (evX call m))) (hv : PE X y (tVar i)) (hy : attributeBase y "append" X.env (eval y X.env) = eval y X.env) (hl : (apos.endLine == cpos.line) = true) (hx : plainE x = true) :
    PS X (.Expr (.Call (.Attribute y "append" apos) [x] [] cpos) pos) (rdS X.K wx (evS call turns (.appE i m))) := by
  have st := star_ok hx [] X.env
  have few : ((backTo cpos (starEach [x] X.env)).all (fun x => !x.1) && (backToKw cpos (keywordEach [] X.env)).all (fun x => x.1.isSome)
        && decide (([x] : List Expr).length + ([] : List Keyword).length + (if ([] : List Keyword).isEmpty then 0 else 1) < 30)) = true := by rw [st]; rfl
  refine (ps_expr (pe_bm PySem.F.plainAttrs_list PySem.F.slot_list_append PySem.F.type_list_append mt_append hv (pa_cons he pa_nil st) hy few hl st rfl)).imp fun D σ H ⟨μ, env, st, o, r, p⟩ => ?_
  rw [evS] at p
  split at p
  · rename_i xs hxs
    obtain ⟨v, h2, h3⟩ := r.re.at_ _ _ hxs
    cases h3 with
    | @fl _ a vs h4 n4 r4 =>
      refine ⟨_, h2, .inl ⟨rfl, vs, SqL.of h4⟩, μ, env, st, o, r, toX_rd r p fun y1 st1 h1 p μ1 H1 y' s1 o1 r1 f1 => ?_⟩
      split at p
      · rename_i hz
        obtain ⟨μe, se, oe, re, fe, _⟩ := Ok.esc s1 o1 r1 f1
        have own : Own env σ a := ⟨i, xs, hxs, h2⟩
        have h5 : H1 a = some (.lst vs) := se.keep a _ h4 n4 fun z => z
        have r5 := r.mono se
        have n5 : ∀ n, n < (esc y1 st1).2.length → μe n ≠ a := fun n hn z => by
          by_cases hl : n < st.length
          · exact n4 n hl ((se.ext n hl).symm.trans z)
          · have := se.new n (by omega) hn
            rw [z, h4] at this; cases this
        have wr : StX (fun b => b = a) μe (esc y1 st1).2.length H1 μe (esc y1 st1).2.length (upd H1 a (.lst (vs ++ [y']))) := StX.wrt h5
        have all : StX (Own env σ) μ st.length H μe (esc y1 st1).2.length (upd H1 a (.lst (vs ++ [y']))) := StX.trans se.wide wr fun b e => .inl (by rw [e]; exact own)
        have off : ∀ (w : V), Off (fun b => b = a) (esc y1 st1).1 w := fun w => by
          cases hq : (esc y1 st1).1 <;> first | trivial | (rw [hq] at fe; cases fe)
        refine ⟨a, vs, y', rfl, rfl, h5, by rw [← r4.len]; exact hz, ?_⟩
        refine p μe _ σ all (oe.wrt h5 n5) ⟨⟨by simp [r.re.len], fun j q hq => ?_⟩, fun j k zs ws b ne g1 g2 g3 g4 => ?_⟩ fun b ⟨j, zs, g1, g2⟩ => .inl ?_
        · by_cases e : i = j
          · subst e
            by_cases hi : i < env.length
            · rw [List.getElem?_set_self hi] at hq
              cases hq
              exact ⟨_, h2, .fl upd_same n5 ((RVs.mono wr (RVs.mono se r4)).app (RVs.one fe (RV.mono wr (off _) re)))⟩
            · rw [List.getElem?_eq_none (by simp; omega)] at hq; cases hq
          · rw [List.getElem?_set_ne e] at hq
            obtain ⟨w, g1, g2⟩ := r5.re.at_ j q hq
            refine ⟨w, g1, RV.mono wr ?_ g2⟩
            cases g2 with
            | fl _ _ _ => exact fun z => r.de i j _ _ _ e hxs hq h2 (by rw [← z]; exact g1)
            | _ => trivial
        · have back : ∀ (j : Nat) (zs : List PV), (env.set i (some (.fl (xs ++ [(esc y1 st1).1]))))[j]? = some (some (.fl zs)) → ∃ zs', env[j]? = some (some (.fl zs')) := fun j zs h => by
            by_cases e : i = j
            · subst e; exact ⟨_, hxs⟩
            · rw [List.getElem?_set_ne e] at h; exact ⟨_, h⟩
          obtain ⟨_, b1⟩ := back j zs g1
          obtain ⟨_, b2⟩ := back k ws g2
          exact r.de j k _ _ b ne b1 b2 g3 g4
        · by_cases e : i = j
          · subst e; exact ⟨i, xs, hxs, g2⟩
          · rw [List.getElem?_set_ne e] at g1; exact ⟨j, zs, g1, g2⟩
      · exact p.elim
  · exact p.elim
/-- .. extend -/
theorem ps_extX {i : Nat} {m : MX} {x y : Expr} {apos cpos pos : Pos} {turns : Nat} (he : PE X x (rdX X.K wx (evX call m))) (hv : PE X y (tVar i)) (hy : attributeBase y "extend" X.env (eval y X.env) = eval y X.env) (hl : (apos.endLine == cpos.line) = true) (hx : plainE x = true) :
    PS X (.Expr (.Call (.Attribute y "extend" apos) [x] [] cpos) pos) (rdS X.K wx (evS call turns (.extE i m))) := by
  have st := star_ok hx [] X.env
  have few : ((backTo cpos (starEach [x] X.env)).all (fun x => !x.1) && (backToKw cpos (keywordEach [] X.env)).all (fun x => x.1.isSome)
        && decide (([x] : List Expr).length + ([] : List Keyword).length + (if ([] : List Keyword).isEmpty then 0 else 1) < 30)) = true := by rw [st]; rfl
  refine (ps_expr (pe_bm PySem.F.plainAttrs_list PySem.F.slot_list_extend PySem.F.type_list_extend mt_extend2 hv (pa_cons he pa_nil st) hy few hl st rfl)).imp fun D σ H ⟨μ, env, st, o, r, p⟩ => ?_
  rw [evS] at p
  split at p
  · rename_i xs hxs
    obtain ⟨v, h2, h3⟩ := r.re.at_ _ _ hxs
    cases h3 with
    | @fl _ a vs h4 n4 r4 =>
      refine ⟨_, h2, .inl ⟨rfl, vs, SqL.of h4⟩, μ, env, st, o, r, toX_rd r p fun y1 st1 h1 p μ1 H1 y' s1 o1 r1 f1 => ?_⟩
      split at p
      · rename_i ys hy
        split at p
        rotate_left
        · exact p.elim
        rename_i hz
        obtain ⟨b, ws, rfl, h6, r6⟩ : ∃ b ws, y' = V.ref b ∧ (H1 b = some (.lst ws) ∨ SqT X.K H1 b ws) ∧ RVs X.K μ1 st1.length H1 ys ws := by
          unfold extL at hy
          split at hy
          · cases hy
            cases r1 with
            | @fl _ b ws h6 n6 r6 => exact ⟨b, ws, rfl, .inl h6, r6⟩
          · cases hy
            cases r1 with
            | @tup _ b ws h6 r6 => exact ⟨b, ws, rfl, .inr h6, r6⟩
          · cases hy
        have own : Own env σ a := ⟨i, xs, hxs, h2⟩
        have h5 : H1 a = some (.lst vs) := s1.keep a _ h4 n4 fun z => z
        have r5 := r.mono s1
        have n5 : ∀ n, n < st1.length → μ1 n ≠ a := fun n hn z => by
          by_cases hl : n < st.length
          · exact n4 n hl ((s1.ext n hl).symm.trans z)
          · have := s1.new n (by omega) hn
            rw [z, h4] at this; cases this
        have wr : StX (fun b => b = a) μ1 st1.length H1 μ1 st1.length (upd H1 a (.lst (vs ++ ws))) := StX.wrt h5
        have all : StX (Own env σ) μ st.length H μ1 st1.length (upd H1 a (.lst (vs ++ ws))) := StX.trans s1.wide wr fun b e => .inl (by rw [e]; exact own)
        refine ⟨a, b, vs, ws, rfl, rfl, h5, h6, by rw [← r4.len, ← r6.len]; exact hz, ?_⟩
        refine p μ1 _ σ all (o1.wrt h5 n5) ⟨⟨by simp [r.re.len], fun j q hq => ?_⟩, fun j k zs ws b ne g1 g2 g3 g4 => ?_⟩ fun b ⟨j, zs, g1, g2⟩ => .inl ?_
        · by_cases e : i = j
          · subst e
            by_cases hi : i < env.length
            · rw [List.getElem?_set_self hi] at hq
              cases hq
              exact ⟨_, h2, .fl upd_same n5 ((RVs.mono wr (RVs.mono s1 r4)).app (RVs.mono wr r6))⟩
            · rw [List.getElem?_eq_none (by simp; omega)] at hq; cases hq
          · rw [List.getElem?_set_ne e] at hq
            obtain ⟨w, g1, g2⟩ := r5.re.at_ j q hq
            refine ⟨w, g1, RV.mono wr ?_ g2⟩
            cases g2 with
            | fl _ _ _ => exact fun z => r.de i j _ _ _ e hxs hq h2 (by rw [← z]; exact g1)
            | _ => trivial
        · have back : ∀ (j : Nat) (zs : List PV), (env.set i (some (.fl (xs ++ ys))))[j]? = some (some (.fl zs)) → ∃ zs', env[j]? = some (some (.fl zs')) := fun j zs h => by
            by_cases e : i = j
            · subst e; exact ⟨_, hxs⟩
            · rw [List.getElem?_set_ne e] at h; exact ⟨_, h⟩
          obtain ⟨_, b1⟩ := back j zs g1
          obtain ⟨_, b2⟩ := back k ws g2
          exact r.de j k _ _ b ne b1 b2 g3 g4
        · by_cases e : i = j
          · subst e; exact ⟨i, xs, hxs, g2⟩
          · rw [List.getElem?_set_ne e] at g1; exact ⟨j, zs, g1, g2⟩
      · exact p.elim
  · exact p.elim
end
end U

set_option maxHeartbeats 4000000
/-! U13z: for .. in zip of two sequences. -/
namespace U
open PySem PySem.Spec PyProof.Rows L2
section
variable {K : PySem.W.Frag} {X : Cx} {call : Nat → List PV → Store → Res PV} {wx : XW}
theorem half_at {μ : Nat → Addr} {st : Store} {H : Hp} {x : PV} {v : V} {a : Half} (o : Ok K μ st H) (r : RV K μ st.length H x v) (h : half x st = some a) : ∃ k p vs, v = .ref p ∧ HalfR K μ st.length H k p a ∧ Sqk k K H p vs := by
  unfold half at h
  split at h
  · cases h
    cases r with
    | @tup xs p vs h1 r1 k1 => exact ⟨true, p, vs, rfl, .tup h1 r1, h1⟩
  · rename_i n
    obtain ⟨xs, hx, rfl⟩ := Option.map_eq_some_iff.mp h
    cases r with
    | loc hl =>
    obtain ⟨vs, hv⟩ := o.held (seq_lst hx)
    exact ⟨false, _, vs, rfl, .live hl, SqL.of hv⟩
  · cases h
theorem pf_zip {as : MEs} {e e2 : Expr} {elts : List Expr} {kk : Nat} {tpos p zpos : Pos} (hz : Gl X "zip") (hm : X.mg "zip" = none) (ha : SA X call as [e, e2]) (hs : starEach [e, e2] X.env = (false, eval e X.env) :: starEach [e2] X.env)
    (hpl : (backTo zpos (starEach [e2] X.env)).any (·.1) = false) : PI X (.Tuple elts kk tpos) (.Call (.Name "zip" p) [e, e2] [] zpos) (rdF X.K (zipS call as)) := by
  refine (pi_zipk hz hm ha.kept hs hpl).imp fun σ H R ⟨μ, env, st, src, st', o, r, h1, g⟩ => ?_
  unfold zipS at h1
  obtain ⟨vs, st1, h2, h3⟩ := bind_ok h1
  refine ⟨μ, env, st, vs, st1, o, r.re, h2, fun μ1 H1 ws s1 o1 r1 => ?_⟩
  split at h3
  · rename_i x y
    split at h3
    · rename_i a b ea eb
      cases h3
      cases r1 with
      | cons _ ra r1 =>
      cases r1 with
      | cons _ rb r1 =>
      cases r1
      obtain ⟨k1, p1, us, rfl, q1, q2⟩ := half_at o1 ra ea
      obtain ⟨k2, p2, ws, rfl, q3, q4⟩ := half_at o1 rb eb
      exact ⟨k1, p1, k2, p2, us, ws, rfl, q2, q4, g μ1 H1 _ s1 o1 (.zip q1 q3)⟩
    · cases h3
  · cases h3
theorem ps_forZ {g : MG} {as : MEs} {fB : En → Store → SR} {e e2 : Expr} {elts : List Expr} {kk : Nat} {tpos p zpos pos : Pos} {body : List Stmt} (hp : PassesOwn (model X.prog X.w) X.A X.env X.xe) (hc : X.calm = true) (hz : Gl X "zip") (hm : X.mg "zip" = none)
    (ha : SA X call as [e, e2]) (hg : PG X (.Tuple elts kk tpos) (gOf X.K g)) (hb : PSs X body (rdS X.K wx fB)) (hs : starEach [e, e2] X.env = (false, eval e X.env) :: starEach [e2] X.env) (hpl : (backTo zpos (starEach [e2] X.env)).any (·.1) = false) :
    PS X (.For (.Tuple elts kk tpos) (.Call (.Name "zip" p) [e, e2] [] zpos) body [] pos) (rdS X.K wx (zipF call g as fB)) := ps_forS hp hc (pf_zip hz hm ha hs hpl) hg hb fun _ => rfl
end
end U

set_option maxHeartbeats 4000000
/-! U13d: d[k] = e. -/
namespace U
open PySem PySem.Spec PyProof.Rows L2
section
variable {X : Cx} {call : Nat → List PV → Store → Res PV} {wx : XW}
theorem ps_dputS (hu : X.A.units + 1 < cLine) {d k e : ME} {x y z : Expr} {p1 pos : Pos} {turns : Nat} (hd : SE X call d x) (hk : SE X call k y) (he : SE X call e z) (hs : swapsWith z (some (.Subscript x y p1)) pos.line X.env = pure false) :
    PS X (.Assign [.Subscript x y p1] z pos) (rdS X.K wx (evS call turns (.dput d k e))) := by
  refine (ps_dput hu hd.val hk.val he.val hs).imp fun D σ H ⟨μ, env, st, o, r, p⟩ => ?_
  rw [evS] at p
  obtain ⟨v1, st1, h1, p⟩ := to_ok p
  obtain ⟨a1, st2, h2, p⟩ := to_ok p
  obtain ⟨k1, st3, h3, p⟩ := to_ok p
  refine ⟨μ, env, st, v1, st1, o, r.re, h1, fun μ1 H1 v' s1 ok1 r1 f1 => ?_⟩
  obtain ⟨μe, se, oe, re, fe, _⟩ := Ok.esc s1 ok1 r1 f1
  refine ⟨μe, env, _, a1, st2, oe, r.re.mono se, h2, fun μ2 H2 a' s2 ok2 r2 f2 => ⟨μ2, env, st2, k1, st3, ok2, r.re.mono (Stp.trans se s2), h3, fun μ3 H3 k' s3 ok3 r3 f3 => ?_⟩⟩
  split at p
  rotate_left
  · exact p.elim
  rename_i st4 hp
  unfold dputV at hp
  split at hp
  rotate_left
  · cases hp
  rename_i n
  split at hp
  rotate_left
  · cases hp
  rename_i t kvs hn
  split at hp
  rotate_left
  · cases hp
  rename_i q hq
  split at hp
  rotate_left
  · cases hp
  rename_i hc
  cases hp
  have r2 := r2.mono0 s3
  cases r2 with
  | loc hl =>
  obtain ⟨H4, q1, q2, q3⟩ := dput_ok ok3 hn r3 hq (re.mono0 (Stp.trans s2 s3)) fe hc.1
  refine ⟨_, H4, rfl, q1, ?_⟩
  have all := Stp.trans se (Stp.trans s2 (Stp.trans s3 q2))
  exact p μ3 _ σ all.wide q3 (r.mono all) fun a z => .inl z
end
end U

set_option maxHeartbeats 8000000
/-! U14: every statement; a def; a program. -/
namespace U
open PySem PySem.Spec PyProof.Rows L2
section
variable {W : Wd} {k : Nat} {call : Nat → List PV → Store → Res PV} {turns : Nat} {wx : XW}
/-- a body whose every name may be stored, and which lets nothing out -/
structure Gs (W : Wd) (C : Ct) (k : Nat) (X : Cx) (wx : XW) : Prop extends Gd W C k X where
  kind : X.env.scope.kind = .function
  fnT : ∀ x, X.fn x = true
  pass : PassesOwn (model X.prog X.w) X.A X.env X.xe
  tk : Takes X wx.W
  mgx : wx.mg = W.mg
  rs : Room 2 X.A
theorem loc_of {sc : Scope} {x : Str} (h : locB sc x = true) : L2.Loc sc x := by
  unfold locB at h
  unfold L2.Loc
  split at h <;> first | (rename_i q; rw [q]; simp) | cases h
theorem pv1 {C : Ct} {X : Cx} (G : Gs W C k X wx) {i : Nat} {e : Expr} (h : mV1 C i e = true) : PG X e (gName i) := by
  cases e <;> try (exact absurd h Bool.false_ne_true)
  rename_i x pos
  have h : (decide (C.N[i]? = some x) && locB C.sc x) = true := h
  simp only [Bool.and_eq_true, decide_eq_true_eq] at h
  exact pg_name G.nd (by rw [G.N]; exact h.1) (loc_of (by rw [G.sc]; exact h.2)) (.inl (G.fnT x))
theorem assignV_ok {e : Expr} {C : Ct} {i : Nat} (h : mV1 C i e = true) (es : List Expr) (env : Env) : assignEach (e :: es) env = (false, assign e env) :: assignEach es env := by
  cases e <;> first | rfl | exact absurd h Bool.false_ne_true
theorem pvs {C : Ct} {X : Cx} (G : Gs W C k X wx) : ∀ {is : List Nat} {es : List Expr}, mVs C is es = true → PGs X es (gAll is) ∧ (assignEach es X.env).length = is.length ∧ (assignEach es X.env).findIdx? (·.1) = none
  | [], [], _ => ⟨pgs_nil, rfl, rfl⟩
  | [], _ :: _, h => by cases h
  | _ :: _, [], h => by cases h
  | i :: is, e :: es, h => by
    have h : (mV1 C i e && mVs C is es) = true := h
    rw [Bool.and_eq_true] at h
    obtain ⟨p1, p2, p3⟩ := pvs G h.2
    have e1 := assignV_ok h.1 es X.env
    refine ⟨pgs_cons (pv1 G h.1) p1 (by rw [e1]; rfl), by rw [e1]; simp [p2], by rw [e1]; simp [List.findIdx?_cons, p3]⟩
theorem pvT {C : Ct} {X : Cx} (G : Gs W C k X wx) {is : List Nat} {es : List Expr} {n : Nat} {p : Pos} (h : mVs C is es = true) : PG X (.Tuple es n p) (gTup X.K is.length (gAll is)) := by
  obtain ⟨p1, p2, p3⟩ := pvs G h
  exact pg_tup G.calm p1 p2 p3
theorem pvS {C : Ct} {X : Cx} (G : Gs W C k X wx) {is : List Nat} {es : List Expr} {n : Nat} {p : Pos} (h : mVs C is es = true) : PG X (.Tuple es n p) (gSeq X.K is.length (gAll is)) := by
  obtain ⟨p1, p2, p3⟩ := pvs G h
  exact pg_seq G.calm p1 p2 p3
theorem pvG {C : Ct} {X : Cx} (G : Gs W C k X wx) {g : MG} {e : Expr} (h : mV C g e = true) : PG X e (gOf X.K g) := by
  cases g with
  | nm i => exact pv1 G h
  | tp is =>
    cases e <;> try (exact absurd h Bool.false_ne_true)
    exact pvT G (show mVs C is _ = true from h)
theorem sw_ok {v : Expr} (h : notLc v = true) (t : Option Expr) (l : Nat) (env : Env) : swapsWith v t l env = pure false := by
  cases v <;> first | rfl | cases h
theorem sws_ok {v tg : Expr} (h : notLc v = true) (l : Nat) (env : Env) : swapsWithSole [tg] v l env = pure false := sw_ok h _ _ _
theorem st_ok {v : Expr} {es : List Expr} {n : Nat} {p : Pos} (h : notTup v = true) (env : Env) : swappedStores [.Tuple es n p] v env = pure none := by
  cases v <;> first | rfl | cases h
theorem st_sub {v y z : Expr} {p : Pos} (env : Env) : swappedStores [.Subscript y z p] v env = pure none := by
  cases v <;> rfl
theorem st_sub2 {v o x o2 x2 : Expr} {p1 p2 pt : Pos} {kt : Nat} (env : Env) : swappedStores [.Tuple [.Subscript o x p1, .Subscript o2 x2 p2] kt pt] v env = pure none := by
  cases v <;> first | rfl | skip
  unfold swappedStores
  simp
theorem sub_ok {y z : Expr} {p : Pos} {env : Env} (h : plainE z = true) (v : Value) : assign (.Subscript y z p) env v = (do
      let ov ← holding [v] (eval y env)
      let iv ← holding [v, ov] (eval z env)
      standAt p
      holding [v, ov, iv] (setItem ov iv v)
      release [v, ov, iv] []) := by
  cases z <;> first | rfl | cases h
theorem src_okE {C : Ct} {X : Cx} (G : Gs W C k X wx) (F : Fx W C k call) {src : ME} {tg it : Expr} (h : mSrc C src it = true) (ht : isEnm src = true → isTupE tg = true) : PI X tg it (rdF X.K (evSrc call src)) := by
  have gen : mE C src it = true → (∀ env st, evSrc call src env st = (ev call src .val env st).bind fun v st1 => opt (srcV v st1) st1) → PI X tg it (rdF X.K (evSrc call src)) := fun h e => by
    have e2 : evSrc call src = fun env st => (ev call src .val env st).bind fun v st1 => opt (srcV v st1) st1 := by
      funext env st
      exact e env st
    rw [e2]
    exact pf_val (sE src G.toGd F h)
  cases src with
  | rng a b =>
    unfold mSrc at h
    simp only at h
    split at h
    · rename_i f p es pos
      simp only [Bool.and_eq_true, decide_eq_true_eq] at h
      obtain ⟨⟨⟨rfl, h1⟩, h2⟩, h3⟩ := h
      obtain ⟨g1, g2⟩ := gl_of (X := X) (by rw [G.sc]; exact h2)
      have hm : X.mg "range" = none := by rw [G.mg]; exact F.bl _ h1
      split at h3
      · split at h3
        · exact pf_rng1 (sE b G.toGd F h3) g1 hm (star_ok (plain_ok h3) _ _)
        · cases h3
      · rename_i z y
        rw [Bool.and_eq_true] at h3
        have e2 : starEach [y] X.env = [(false, eval y X.env)] := star_ok (plain_ok h3.2) _ _
        exact pf_rng2 (sE a G.toGd F h3.1) (sE b G.toGd F h3.2) g1 hm (by rw [star_ok (plain_ok h3.1), e2]) e2
      · cases h3
    · cases h
  | rev a =>
    unfold mSrc at h
    simp only at h
    split at h
    · rename_i f p y pos
      simp only [Bool.and_eq_true, decide_eq_true_eq] at h
      obtain ⟨⟨⟨rfl, h1⟩, h2⟩, h3⟩ := h
      obtain ⟨g1, g2⟩ := gl_of (X := X) (by rw [G.sc]; exact h2)
      exact pf_rev (sE a G.toGd F h3) g1 (by rw [G.mg]; exact F.bl _ h1) (star_ok (plain_ok h3) _ _)
    · cases h
  | enm a =>
    have ht := ht rfl
    unfold isTupE at ht
    split at ht
    rotate_left
    · cases ht
    unfold mSrc at h
    simp only at h
    split at h
    · rename_i f p y pos
      simp only [Bool.and_eq_true, decide_eq_true_eq] at h
      obtain ⟨⟨⟨rfl, h1⟩, h2⟩, h3⟩ := h
      obtain ⟨g1, g2⟩ := gl_of (X := X) (by rw [G.sc]; exact h2)
      exact pf_enm (sE a G.toGd F h3) g1 (by rw [G.mg]; exact F.bl _ h1) (star_ok (plain_ok h3) _ _)
    · cases h
  | _ => exact gen h fun _ _ => rfl
theorem src_ok {C : Ct} {X : Cx} (G : Gs W C k X wx) (F : Fx W C k call) {src : ME} {tg it : Expr} (h : mSrc C src it = true) (hn : isEnm src = false := by rfl) : PI X tg it (rdF X.K (evSrc call src)) :=
  src_okE G F h fun z => by rw [hn] at z; cases z
theorem var_ok {C : Ct} {X : Cx} (G : Gd W C k X) {i : Nat} {e : Expr} (h : mE C (.var i) e = true) : PE X e (tVar i) := by
  cases e <;> try (exact absurd h Bool.false_ne_true)
  rename_i x pos
  have h : (decide (C.N[i]? = some x) && visB C.sc x && !(x == ("__debug__" : Str)) && !(x == ("__classdict__" : Str))) = true := h
  simp only [Bool.and_eq_true, decide_eq_true_eq, Bool.not_eq_true'] at h
  exact pe_var (by rw [G.N]; exact h.1.1.1) (vis_of (by rw [G.sc]; exact h.1.1.2)) h.1.2 h.2
/-- x = [..], from its parts -/
theorem lcSet_mk {C : Ct} {X : Cx} (G : Gs W C k X wx) {elt c m : ME} {g : MG} {has : Bool} {x tg iter : Expr} {ifs : List Expr} {scope : Scope} {pos : Pos} {srcF : En → Store → Res Src}
    (hi : PI X tg iter (rdW X.K srcF)) (hp : ∀ x, foldedSetIterable iter X.env x = pure x) (h2 : blkC C.N C.sc scope (g.own C.N) = true) (h3 : mG { C with sc := relS scope C.sc } g tg = true)
    (h4 : tsOk { C with sc := relS scope C.sc } has c ifs = true) (hc : ∀ {X : Cx}, Gd W { C with sc := relS scope C.sc } k X → ∀ t, mE { C with sc := relS scope C.sc } c t = true → SE X call c t)
    (he : ∀ {X : Cx}, Gd W { C with sc := relS scope C.sc } k X → SE X call elt x)
    (eq : ∀ md env st, ev call m md env st = ((srcF env st).bind fun s st1 => lcLoop (fun e s => if has then (ev call c .test e s).bind fun x s1 => opt (isBl x) s1 else .ok true s) (ev call elt .val) g.put (wipe env g.slots) s 0 s.many [] st1).bind fun v st1 => done md v st1)
    {i : Nat} {y : Str} {py spos : Pos} (hN : X.N[i]? = some y) (hy : X.env.scope.names.lookup y = some .local) (hl : (py.line == pos.line) = true) (ha : (scope.names.any fun (n, k) => n == y && (k == .local || k == .cell)) = false) :
    PS X (.Assign [.Name y py] (.ListComp x [⟨tg, iter, ifs, 0⟩] scope pos) spos) (tAsg (rd X.K (ev call m .val)) (gName i)) := by
  have ok : BlkOk X.N X.env.scope scope (g.own C.N) := by rw [G.N, G.sc]; exact blkOk_by h2
  have p := ps_setLc (pos := pos) (spos := spos) (own := g.own C.N) (g := gOf X.K g) (tt := tTest' X.K call has c) (te := rd X.K (ev call elt .val)) G.calm G.nd hN hy (sw_true G.kind hy hl ha) hi ok
    (fun s H a cl fp => pgG (G.toGd.blk s H scope a cl fp) h3) (fun s H a cl fp => ts_ok h4 (hc (G.toGd.blk s H scope a cl fp))) (fun s H a cl fp => (he (G.toGd.blk s H scope a cl fp)).val) hp
  rw [own_slots] at p
  refine p.imp fun D σ H q => ?_
  refine SE.lcImp (test := fun e s => if has then (ev call c .test e s).bind fun x s1 => opt (isBl x) s1 else .ok true s) (elt := ev call elt .val) (srcF := srcF) (fun _ _ _ q => q) (fun _ _ _ q => q) ?_ (rd_eq (fun env st => ?_) σ H _ q)
  · intro μ env st b st' σ H Q o r h q
    unfold tTest'
    cases has with
    | true =>
      obtain ⟨x, s1, h1, h2⟩ := bind_ok h
      obtain ⟨h3, rfl⟩ := opt_ok h2
      cases isBl_ok h3
      exact ⟨μ, env, st, b, _, o, r, h1, q⟩
    | false =>
      cases h
      exact q μ H StX.refl o
  · rw [eq]
    cases (srcF env st).bind fun s st1 => lcLoop (fun e s => if has then (ev call c .test e s).bind fun x s1 => opt (isBl x) s1 else .ok true s) (ev call elt .val) g.put (wipe env g.slots) s 0 s.many [] st1 <;> rfl
theorem lc_only {C : Ct} {e : ME} {x : Expr} {gs : List Comprehension} {scope : Scope} {pos : Pos} (h : mE C e (.ListComp x gs scope pos) = true) (hn : isLcv e = false) : ∃ elt g src has c, e = .lc elt g src has c := by
  cases e <;> first | exact ⟨_, _, _, _, _, rfl⟩ | (cases hn; done) | (cases h; done)
theorem set_lc {C : Ct} {X : Cx} (G : Gs W C k X wx) (F : Fx W C k call) {e : ME} {i : Nat} {y : Str} {py spos : Pos} {v : Expr} (h : mE C e v = true) (hN : X.N[i]? = some y) (hl : lcOk C y py v = true) (hn0 : isLcv e = false) :
    PS X (.Assign [.Name y py] v spos) (tAsg (rd X.K (ev call e .val)) (gName i)) := by
  unfold lcOk at hl
  split at hl
  · rename_i x gs scope pos
    simp only [Bool.and_eq_true, decide_eq_true_eq, Bool.not_eq_true'] at hl
    obtain ⟨⟨⟨l1, l2⟩, l3⟩, l4⟩ := hl
    have hy : X.env.scope.names.lookup y = some .local := by rw [G.sc]; exact l2
    obtain ⟨elt, g, src, has, c, rfl⟩ := lc_only h hn0
    by_cases hn : ∀ a b, src ≠ .rng a b
    · rw [mE_lc hn] at h
      split at h
      · rename_i q
        cases q
        simp only [Bool.and_eq_true] at h
        obtain ⟨⟨⟨⟨h1, h2⟩, h3⟩, h4⟩, h5⟩ := h
        exact lcSet_mk G (pi_used (sE src G.toGd F h1)) (set_ok (plain_ok h1) _) h2 h3 h4
          (fun G' t ht => sE c G' ⟨F.fn, F.fnX, F.xs, F.os, F.cs, F.bl, F.ds⟩ ht) (fun G' => sE elt G' ⟨F.fn, F.fnX, F.xs, F.os, F.cs, F.bl, F.ds⟩ h5) (fun _ _ _ => ev_lc hn) hN hy l3 l4
      · cases h
    · cases src with
      | rng a b =>
        unfold mE at h
        split at h
        · rename_i q
          cases q
          simp only [Bool.and_eq_true, decide_eq_true_eq] at h
          obtain ⟨⟨⟨⟨⟨⟨⟨rfl, h1⟩, h2⟩, h3⟩, h4⟩, h5⟩, h6⟩, h7⟩ := h
          obtain ⟨g1, g2⟩ := gl_of (X := X) (by rw [G.sc]; exact h2)
          have hm : X.mg "range" = none := by rw [G.mg]; exact F.bl _ h1
          refine lcSet_mk G (srcF := fun env st => (ev call a .val env st).bind fun x st1 => (ev call b .val env st1).bind fun y st2 => rngV x y st2) ?_ (fun _ => rfl) h4 h5 h6
            (fun G' t ht => sE c G' ⟨F.fn, F.fnX, F.xs, F.os, F.cs, F.bl, F.ds⟩ ht) (fun G' => sE elt G' ⟨F.fn, F.fnX, F.xs, F.os, F.cs, F.bl, F.ds⟩ h7) (fun _ _ _ => ev_lcR) hN hy l3 l4
          split at h3
          · split at h3
            · exact pi_rng1 (sE b G.toGd F h3) g1 hm (star_ok (plain_ok h3) _ _)
            · cases h3
          · rename_i z y
            rw [Bool.and_eq_true] at h3
            have e2 : starEach [y] X.env = [(false, eval y X.env)] := star_ok (plain_ok h3.2) _ _
            exact pi_rng2 (sE a G.toGd F h3.1) (sE b G.toGd F h3.2) g1 hm (by rw [star_ok (plain_ok h3.1), e2]) e2
          · cases h3
        · cases h
      | _ => exact absurd (fun a b z => by cases z) hn
  · cases hl
/-- f(..), which may raise -/
theorem pe_fnX {C : Ct} {X : Cx} (G : Gs W C k X wx) (F : Fx W C k call) {f : Nat} {as : MEs} {y : Str} {z : Expr} {zs : List Expr} {py cp : Pos} (h1 : C.fn.lookup y = some f) (h2 : glB C.sc y = true) (h3 : mA C as (z :: zs) = true) :
    PE X (.Call (.Name y py) (z :: zs) [] cp) (tCallS (spX X.K wx.mg (call f)) (WE wx.W) (rdA X.K (evA call as))) := by
  obtain ⟨a, fd, ps, f1, f2, f3, f4⟩ := F.fnX y f h1
  obtain ⟨g1, g2⟩ := gl_of (X := X) (by rw [G.sc]; exact h2)
  have f4' : FnR X.prog X.w X.K X.mg X.base (L2.CX X.prog X.w) k a fd ps (spX X.K wx.mg (call f)) := by rw [G.mgx, G.P, G.w, G.K, G.mg, G.base]; exact f4
  have hh : plainE z = true ∧ (backTo cp (starEach zs X.env)).any (·.1) = false := by
    cases as with
    | nil => cases h3
    | cons u us =>
      rw [mA, Bool.and_eq_true] at h3
      exact ⟨plain_ok h3.1, any_ok h3.2⟩
  refine pe_callR f4' (G.rmF h1) g1 (by rw [G.mg]; exact f1) (by rw [G.K]; exact f2) (by rw [G.K]; exact f3) (fun σ => passAt G.tk σ) (sA as G.toGd F h3).kept g2 (star_ok hh.1 _ _) hh.2
theorem bindN_out {α : Type} {μ : Nat → Addr} {st : Store} {H : Hp} {K : PySem.W.Frag} {mg : Str → Option Value} {Q : VK} {E : XK} {r : Res α} {f : α → Store → Res PV} (h : outX K mg μ st H Q E (r.bindN f)) : ∃ a st1, r = .ok a st1 ∧ outX K mg μ st H Q E (f a st1) := by
  obtain ⟨a, st1, e1, e2⟩ := bindN_ok h.nb
  rw [e2] at h
  exact ⟨a, st1, e1, h⟩
theorem fn_imp {K : PySem.W.Frag} {f : Nat} {as : MEs} : ∀ σ H Q, rdX K wx (evX call (.fn f as)) σ H Q → tCallS (spX K wx.mg (call f)) (WE wx.W) (rdA K (evA call as)) σ H Q := fun σ H Q ⟨μ, env, st, o, r, p⟩ => by
  rw [evX] at p
  obtain ⟨xs, st1, h1, p⟩ := bindN_out p
  exact ⟨μ, env, st, xs, st1, o, r.re, h1, fun μ1 H1 vs s1 o1 r1 => ⟨μ1, st1, xs, o1, r1, p.shift s1⟩⟩
theorem mth_imp {K : PySem.W.Frag} {g : Nat} {c m : Str} {C : Addr} {ob : ME} {as : MEs} (hC : PySem.W.nsIn K mainGlobals c = some (some (.ref C))) : ∀ σ H Q, rdX K wx (evX call (.mth g c m ob as)) σ H Q → tMethS C m (spX K wx.mg (call g)) (WE wx.W) (rdU K (ev call ob .use)) (rdA K (evA call as)) σ H Q := fun σ H Q ⟨μ, env, st, o, r, p⟩ => by
  rw [evX] at p
  obtain ⟨x0, st0, h1, p⟩ := bindN_out p
  obtain ⟨x1, st1, h5, p2⟩ := bindN_out p
  obtain ⟨xs, st2, h3, p3⟩ := bindN_out p2
  clear p p2
  obtain ⟨h6, e6⟩ := opt_ok h5
  unfold objV at h6
  split at h6
  · rename_i n
    split at h6
    · rename_i c' fs q
      split at h6
      · rename_i hh
        obtain ⟨rfl, ln⟩ := hh
        cases h6; cases e6
        refine ⟨μ, env, st, _, _, o, r.re, h1, fun μ1 H1 x' s1 o1 r1 => ?_⟩
        obtain ⟨C', dx, gs, a1, a2, a3, a4⟩ := o1.ob _ _ _ q
        rw [hC] at a1
        cases a1
        have hn : n < st0.length := (List.getElem?_eq_some_iff.mp q).1
        cases r1 with
        | loc _ =>
          refine ⟨_, dx, gs, rfl, a2, no_field a3 ln, μ1, env, _, xs, st2, o1, r.re.mono s1, h3, fun μ2 H2 vs s2 o2 r2 => ?_⟩
          have rl : RV K μ2 st2.length H2 (.loc n) (.ref (μ1 n)) := RV.mono0 s2 (.loc hn)
          exact ⟨μ2, st2, .loc n :: xs, o2, .cons rfl rl r2, p3.shift (Stp.trans s1 s2)⟩
      · cases h6
    · cases h6
  · cases h6
theorem new_imp {K : PySem.W.Frag} {g : Nat} {c : Str} {C : Addr} {as : MEs} (hC : PySem.W.nsIn K mainGlobals c = some (some (.ref C))) : ∀ σ H Q, rdX K wx (evX call (.new g c as)) σ H Q → tMakeS C (spX K wx.mg (call g)) (WE wx.W) (rdA K (evA call as)) σ H Q := fun σ H Q ⟨μ, env, st, o, r, p⟩ => by
  rw [evX] at p
  obtain ⟨xs, st1, h1, p⟩ := bindN_out p
  refine ⟨μ, env, st, xs, st1, o, r.re, h1, fun μ1 H1 vs s1 o1 r1 => fun x dx hx hd ne => ?_⟩
  obtain ⟨m1, m2⟩ := o1.made hC hx hd ne
  have el : (st1 ++ [Cell.ins c []]).length = st1.length + 1 := by simp
  have rl : RV K (fun k => if k = st1.length then x else μ1 k) (st1.length + 1) (upd (upd H1 dx (.own x)) x (.ins C dx [])) (.loc st1.length) (.ref x) := by
    have : RV K (fun k => if k = st1.length then x else μ1 k) (st1.length + 1) (upd (upd H1 dx (.own x)) x (.ins C dx [])) (.loc st1.length) (.ref ((fun k => if k = st1.length then x else μ1 k) st1.length)) := .loc (by omega)
    simpa using this
  refine ⟨_, st1 ++ [.ins c []], .loc st1.length :: xs, m2, by rw [el]; exact .cons rfl rl (RVs.mono m1 r1), ?_⟩
  cases q : call g (.loc st1.length :: xs) (st1 ++ [.ins c []]) with
  | ok v st2 =>
    rw [q] at p
    have nb := p.nb
    intro μ2 H2 v' s2 o2 r2 f2
    rw [el] at s2
    cases v with
    | non =>
      cases r2
      exact ⟨rfl, p μ2 H2 _ (Stp.trans s1 (Stp.trans m1 s2)) o2 (RV.mono0 s2 rl) trivial⟩
    | _ => exact absurd rfl nb
  | xc c' fs st2 =>
    rw [q] at p
    intro μ2 H2 C2 d s2 o2 hm x
    rw [el] at s2
    exact p μ2 H2 C2 d (Stp.trans s1 (Stp.trans m1 s2)) o2 hm x
  | bad => rw [q] at p; exact p.elim
theorem plX {C : Ct} {x : MX} {e : Expr} (h : mX C x e = true) : plainE e = true := by
  cases x with
  | fn f as => rw [mX] at h; exact plain_ok h
  | mth g c m o as => rw [mX] at h; exact plain_ok h
  | new g c as => rw [mX] at h; exact plain_ok h
  | tup as x => cases e <;> first | rfl | (unfold mX at h; cases h)
  | lst x => cases e <;> first | rfl | (unfold mX at h; cases h)
theorem lcX {C : Ct} {x : MX} {e : Expr} (h : mX C x e = true) : notLc e = true := by
  cases x with
  | tup as x => cases e <;> first | rfl | (unfold mX at h; cases h)
  | lst x => cases e <;> first | rfl | (unfold mX at h; cases h)
  | _ => rw [mX] at h; cases e <;> first | rfl | (cases h; done)
theorem paX {C : Ct} {X : Cx} (G : Gs W C k X wx) (F : Fx W C k call) {x : MX} {y : Expr} (hx : PE X y (rdX X.K wx (evX call x))) (hp : plainE y = true) : ∀ (as : MEs) {es : List Expr}, mA C as es = true → PA X (es ++ [y]) (rdAX X.K wx (evAX call as x))
  | .nil, es, h => by
    cases es with
    | nil => exact pax_one hx hp
    | cons _ _ => cases h
  | .cons a as, es, h => by
    cases es with
    | nil => cases h
    | cons e es =>
      rw [mA, Bool.and_eq_true] at h
      exact pax_cons (sE a G.toGd F h.1) (plain_ok h.1) (paX G F hx hp as h.2)
theorem sX {C : Ct} {X : Cx} (G : Gs W C k X wx) (F : Fx W C k call) : ∀ (x : MX) {e : Expr}, mX C x e = true → PE X e (rdX X.K wx (evX call x))
  | .fn f as, e, h => by
    rw [mX] at h
    unfold mE at h
    split at h
    · rename_i x p y ys pos
      simp only [Bool.and_eq_true, decide_eq_true_eq] at h
      exact (pe_fnX G F h.1.1 h.1.2 h.2).imp fn_imp
    · cases h
  | .mth g c m o as, e, h => by
    rw [mX] at h
    unfold mE at h
    split at h
    · rename_i y p m' apos es pos
      simp only [Bool.and_eq_true, decide_eq_true_eq, Bool.not_eq_true', decide_eq_false_iff_not] at h
      obtain ⟨⟨⟨⟨⟨⟨rfl, h1⟩, h2⟩, h5⟩, h6⟩, h3⟩, h4⟩ := h
      split at h2
      · rename_i w q
        obtain ⟨C', a1, a2, a3, a4, a5, _⟩ := F.os _ _ q
        obtain ⟨a, fd, ps, b2, b3, b4⟩ := a5 _ _ (of_decide_eq_true h2) h1
        have b4' : FnR X.prog X.w X.K X.mg X.base (L2.CX X.prog X.w) k a fd ps (spX X.K wx.mg (call g)) := by rw [G.mgx, G.P, G.w, G.K, G.mg, G.base]; exact b4
        have cl : Cls X.K C' := by rw [G.K]; exact a3
        have mt : Meth X.K C' m' a := by rw [G.K]; exact b2
        have bb : Binds X.K fd ps [] := by rw [G.K]; exact b3
        have few : methodCallForm (es.length + ([] : List Keyword).length) (backTo pos (starEach es X.env)) (backToKw pos (keywordEach [] X.env)) = true := by
          have al : (backTo pos (starEach es X.env)).all (fun x => !x.1) = true := by
            rw [List.all_eq_true]
            intro x hx
            have := List.any_eq_false.mp (any_ok (env := X.env) (pos := pos) h4) x hx
            simpa using this
          unfold methodCallForm
          rw [al]
          show (true && true && decide (es.length + 0 + 0 < 30)) = true
          rw [decide_eq_true (by omega)]; rfl
        have hC : PySem.W.nsIn X.K mainGlobals c = some (some (.ref C')) := by rw [G.K]; exact a1
        cases es with
        | nil =>
          cases as with
          | cons _ _ => cases h4
          | nil =>
            refine (pe_methR0 (sE o G.toGd F h3).use cl mt b4' (G.rmO q) bb (fun σ => passAt G.tk σ) (meth_tree few h5 rfl)).imp fun σ H Q q => ?_
            obtain ⟨μ, env, st, v, st', ok, r, e, g⟩ := mth_imp hC σ H Q q
            refine ⟨μ, env, st, v, st', ok, r, e, fun μ1 H1 x' s1 o1 r1 => ?_⟩
            obtain ⟨a', dx, fs, e1, e2, e3, ⟨μ2, env2, st2, v2, st2', o2, r2, h7, g2⟩⟩ := g μ1 H1 x' s1 o1 r1
            rw [evA] at h7
            cases h7
            exact ⟨a', dx, fs, e1, e2, e3, g2 μ2 H1 [] StX.refl o2 .nil⟩
        | cons z zs =>
          have hh : plainE z = true ∧ (backTo pos (starEach zs X.env)).any (·.1) = false := by
            cases as with
            | nil => cases h4
            | cons a as =>
              rw [mA, Bool.and_eq_true] at h4
              exact ⟨plain_ok h4.1, any_ok h4.2⟩
          exact (pe_methR (sE o G.toGd F h3).use cl mt b4' (G.rmO q) bb (fun σ => passAt G.tk σ) (sA as G.toGd F h4).kept (star_ok hh.1 _ _) hh.2 (meth_tree few h5 rfl)).imp (mth_imp hC)
      · cases h2
    · cases h
  | .new g c as, e, h => by
    rw [mX] at h
    unfold mE at h
    split at h
    · rename_i y p es pos
      simp only [Bool.and_eq_true, decide_eq_true_eq] at h
      obtain ⟨⟨⟨rfl, h1⟩, h2⟩, h4⟩ := h
      split at h2
      · rename_i w q
        obtain ⟨C', a1, a2, a3, a4, _, a5⟩ := F.os _ _ q
        obtain ⟨g1, g2⟩ := gl_of (X := X) (by rw [G.sc]; exact h1)
        have hC : PySem.W.nsIn X.K mainGlobals y = some (some (.ref C')) := by rw [G.K]; exact a1
        rcases a5 _ (of_decide_eq_true h2) with bad | ⟨j, a, fd, ps, cf, hk, b1, b2, b3, b4⟩
        · refine ⟨fun pins s σ H Q I ⟨μ, env, st, o, r, p⟩ => ?_⟩
          rw [evX] at p
          obtain ⟨xs, st1, h1, p⟩ := bindN_out p
          rw [bad] at p
          exact p.elim
        · have e1 : call g = cf := by funext as st; exact b1 as st
          have b4' : FnR X.prog X.w X.K X.mg X.base (L2.CX X.prog X.w) j a fd ps (spX X.K wx.mg (call g)) := by rw [G.mgx, G.P, G.w, G.K, G.mg, G.base, e1]; exact b4
          have bb : Binds X.K fd ps [] := by rw [G.K]; exact b3
          have mk : Mk X.K C' a := by rw [G.K]; exact b2
          have hm : X.mg y = some (.ref C') := by rw [G.mg]; exact a2
          cases es with
          | nil =>
            cases as with
            | cons _ _ => cases h4
            | nil =>
              refine (pe_makeR0 mk b4' (hk ▸ G.rmO q) g1 hm bb (fun σ => passAt G.tk σ) g2).imp fun σ H Q q => ?_
              obtain ⟨μ, env, st, v, st', ok, r, e, g⟩ := new_imp hC σ H Q q
              rw [evA] at e
              cases e
              exact g μ H [] StX.refl ok .nil
          | cons z zs =>
            have hh : plainE z = true ∧ (backTo pos (starEach zs X.env)).any (·.1) = false := by
              cases as with
              | nil => cases h4
              | cons a as =>
                rw [mA, Bool.and_eq_true] at h4
                exact ⟨plain_ok h4.1, any_ok h4.2⟩
            exact (pe_makeR mk b4' (hk ▸ G.rmO q) g1 hm bb (fun σ => passAt G.tk σ) (sA as G.toGd F h4).kept g2 (star_ok hh.1 _ _) hh.2).imp (new_imp hC)
      · cases h2
    · cases h
  | .tup as x, e, h => by
    unfold mX at h
    split at h
    · rename_i es n p
      split at h
      · rename_i y r q
        rw [Bool.and_eq_true] at h
        have e : es = r.reverse ++ [y] := by
          have := congrArg List.reverse q
          rw [List.reverse_reverse, List.reverse_cons] at this
          exact this
        subst e
        exact pe_tupX (paX G F (sX G F x h.2) (plX h.2) as h.1)
      · cases h
    · cases h
  | .lst x, e, h => by
    unfold mX at h
    split at h
    · exact pe_lstX (sX G F x h) (plX h)
    · cases h
mutual
theorem sS : ∀ (m : MS) {C : Ct} {X : Cx} (G : Gs W C k X wx) (F : Fx W C k call) {s : Stmt}, mS C m s = true → PS X s (rdS X.K wx (evS call turns m))
  | .set i e own, C, X, G, F, s, h => by
    unfold mS at h
    split at h
    · rename_i x px v pos
      simp only [Bool.and_eq_true, decide_eq_true_eq, Bool.or_eq_true] at h
      obtain ⟨⟨⟨h1, h2⟩, h3⟩, h4⟩ := h
      have se := sE e G.toGd F h3
      rcases h4 with h4 | h4
      · exact (ps_set G.nd (by rw [G.N]; exact h1) (loc_of (by rw [G.sc]; exact h2)) se.val (sw_ok h4 _ _ _) (.inl (G.fnT x))).imp set_imp
      · exact (set_lc G F h3 (by rw [G.N]; exact h1) h4.1 (by simpa using h4.2)).imp set_imp
    · cases h
  | .setT is e, C, X, G, F, s, h => by
    unfold mS at h
    split at h
    · simp only [Bool.and_eq_true] at h
      obtain ⟨⟨⟨h1, h2⟩, h3⟩, h4⟩ := h
      exact ps_tup (sE e G.toGd F h2) (pvS G h1) (sws_ok h3 _ _) (st_ok h4 _) rfl
    · cases h
  | .par i j as, C, X, G, F, s, h => by
    unfold mS at h
    split at h
    · rename_i x px y py kt pt a b k2 pt2 pos
      simp only [Bool.and_eq_true, decide_eq_true_eq, Bool.not_eq_true'] at h
      obtain ⟨⟨⟨⟨⟨⟨⟨⟨⟨h1, h2⟩, h3⟩, h4⟩, h5⟩, h6⟩, h7⟩, h8⟩, h9⟩, h10⟩ := h
      have hp : plainE a = true ∧ plainE b = true := by
        cases as with
        | nil => cases h10
        | cons u us =>
          rw [mA, Bool.and_eq_true] at h10
          cases us with
          | nil => cases h10.2
          | cons u2 us =>
            have h11 := h10.2
            rw [mA, Bool.and_eq_true] at h11
            exact ⟨plain_ok h10.1, plain_ok h11.1⟩
      exact ps_parS G.calm G.nd (by rw [G.N]; exact h1) (by rw [G.N]; exact h2) (fun e => by rw [e, beq_self_eq_true] at h3; cases h3) (by rw [G.sc]; exact h5) (by rw [G.sc]; exact h6) (sA as G.toGd F h10)
        (sw_par (by unfold Env.blockKind; rw [G.kind]; rfl) (show X.env.scope.names.lookup x = _ by rw [G.sc]; exact h5) (show X.env.scope.names.lookup y = _ by rw [G.sc]; exact h6) h7 h4 hp.1 hp.2 h8 h9)
    · cases h
  | .setIx a i e, C, X, G, F, s, h => by
    unfold mS at h
    split at h
    · simp only [Bool.and_eq_true] at h
      obtain ⟨⟨⟨h1, h2⟩, h3⟩, h4⟩ := h
      exact ps_ix (sE a G.toGd F h1) (sE i G.toGd F h2) (sE e G.toGd F h3) (sws_ok h4 _ _) (st_sub _) (sub_ok (plain_ok h2))
    · cases h
  | .dput d k e, C, X, G, F, s, h => by
    unfold mS at h
    split at h
    · simp only [Bool.and_eq_true] at h
      obtain ⟨⟨⟨h1, h2⟩, h3⟩, h4⟩ := h
      exact ps_dputS (by have := G.room.un; omega) (sE d G.toGd F h1) (sE k G.toGd F h2) (sE e G.toGd F h3) (sw_ok h4 _ _ _)
    · cases h
  | .swp a i b j e, C, X, G, F, s, h => by
    unfold mS at h
    split at h
    · simp only [Bool.and_eq_true] at h
      obtain ⟨⟨⟨⟨⟨h1, h2⟩, h3⟩, h4⟩, h5⟩, h6⟩ := h
      exact ps_swp G.calm (sE a G.toGd F h1) (sE i G.toGd F h2) (sE b G.toGd F h3) (sE j G.toGd F h4) (sE e G.toGd F h5) (sws_ok h6 _ _) (st_sub2 _) (sub_ok (plain_ok h2)) (sub_ok (plain_ok h4))
    · cases h
  | .ins a as, C, X, G, F, s, h => by
    unfold mS at h
    split at h
    · rename_i o name apos x y cpos pos
      simp only [Bool.and_eq_true, decide_eq_true_eq, Bool.not_eq_true'] at h
      obtain ⟨⟨⟨⟨rfl, h2⟩, h1⟩, h3⟩, h4⟩ := h
      have hx : plainE x = true ∧ plainE y = true := by
        cases as with
        | nil => cases h4
        | cons a as =>
          rw [mA, Bool.and_eq_true] at h4
          cases as with
          | nil => cases h4.2
          | cons b as =>
            have h5 := h4.2
            rw [mA, Bool.and_eq_true] at h5
            exact ⟨plain_ok h4.1, plain_ok h5.1⟩
      have st1 := star_ok hx.1 [y] X.env
      have st2 := star_ok hx.2 [] X.env
      have few : ((backTo cpos (starEach [x, y] X.env)).all (fun x => !x.1) && (backToKw cpos (keywordEach [] X.env)).all (fun x => x.1.isSome)
        && decide (([x, y] : List Expr).length + ([] : List Keyword).length + (if ([] : List Keyword).isEmpty then 0 else 1) < 30)) = true := by rw [st1, st2]; rfl
      exact ps_ins (sE a G.toGd F h1) (sA as G.toGd F h4) (fun {r to t} hr po pa => pe_bm PySem.F.plainAttrs_list PySem.F.slot_list_insert PySem.F.type_list_insert hr po pa (base_ok h3) few h2 st1 (by rw [st2]; rfl)) rfl
    · cases h
  | .setSl a lo hi e, C, X, G, F, s, h => by
    unfold mS at h
    split at h
    · simp only [Bool.and_eq_true] at h
      obtain ⟨⟨⟨h1, h2⟩, h3⟩, h4⟩ := h
      exact ps_setSl (sE a G.toGd F h1) (sE lo G.toGd F h2) (sE hi G.toGd F h3) (sE e G.toGd F h4) rfl rfl fun _ => rfl
    · cases h
  | .aug i o e, C, X, G, F, s, h => by
    unfold mS at h
    split at h
    · rename_i x p op v pos
      simp only [Bool.and_eq_true, decide_eq_true_eq] at h
      obtain ⟨⟨⟨rfl, h1⟩, h2⟩, h3⟩ := h
      exact ps_augE (sE e G.toGd F h3) G.nd (by rw [G.N]; exact h1) (loc_of (by rw [G.sc]; exact h2)) (.inl (G.fnT x))
    · cases h
  | .ex e, C, X, G, F, s, h => by
    unfold mS at h
    split at h
    · rw [Bool.and_eq_true] at h
      exact ps_ex (sE e G.toGd F h.1) (sw_ok h.2 _ _ _)
    · cases h
  | .ext i e, C, X, G, F, s, h => by
    unfold mS at h
    split at h
    · rename_i x p name apos y cpos pos
      simp only [Bool.and_eq_true, decide_eq_true_eq] at h
      obtain ⟨⟨⟨rfl, h1⟩, h2⟩, h3⟩ := h
      exact ps_ext (sE e G.toGd F h3) (var_ok G.toGd h2) rfl h1 (plain_ok h3)
    · cases h
  | .app i e, C, X, G, F, s, h => by
    unfold mS at h
    split at h
    · rename_i x p name apos y cpos pos
      simp only [Bool.and_eq_true, decide_eq_true_eq] at h
      obtain ⟨⟨⟨rfl, h1⟩, h2⟩, h3⟩ := h
      exact ps_app (sE e G.toGd F h3) (var_ok G.toGd h2) rfl h1 (plain_ok h3)
    · cases h
  | .ret e, C, X, G, F, s, h => by
    unfold mS at h
    split at h
    · exact ps_retE (sE e G.toGd F h) fun j z => by
        subst z
        exact var_ok G.toGd h
    · cases h
  | .ret0, C, X, G, F, s, h => by
    unfold mS at h
    split at h
    · exact ps_ret0
    · cases h
  | .raise c flds g as, C, X, G, F, s, h => by
    unfold mS at h
    split at h
    · rename_i x p z zs cpos pos
      simp only [Bool.and_eq_true, decide_eq_true_eq] at h
      obtain ⟨⟨⟨rfl, h2⟩, h3⟩, h4⟩ := h
      obtain ⟨g1, g2⟩ := gl_of (X := X) (by rw [G.sc]; exact h2)
      rcases F.xs _ _ h3 with ⟨e0, Ca, B, n1, n2, bm, e1, e2, e3, e4, e5, e6⟩ | ⟨e0, Ca, T, m, hc⟩
      · have e0 : flds = [] := e0
        subst e0
        have h4 : isMsg z zs = true := by
          rw [show ([] : List Str).isEmpty = true from rfl, if_pos (rfl : true = true)] at h4
          exact h4
        unfold isMsg at h4
        split at h4
        · refine (ps_raise G.calm G.tk (pmk_own e1 (by rw [G.K]; exact e2) (by rw [G.mg]; exact e3) (by rw [G.K]; exact e4) (raises_own (by rw [G.K]; exact e5) (by rw [G.K]; exact e6)) g1 g2)).imp fun D σ H ⟨μ, env, st, o, r, p⟩ => ?_
          rw [evS, show ([] : List Str).isEmpty = true from rfl, if_pos (rfl : true = true)] at p
          exact p μ H σ Ca none StX.refl o r (fun a z => .inl z) (by rw [G.mgx]; exact e3) (.inl ⟨rfl, rfl⟩)
        · cases h4
      · have e0 : flds ≠ [] := e0
        rw [if_neg (by simpa using e0), Bool.and_eq_true, decide_eq_true_eq] at h4
        obtain ⟨hl, h4⟩ := h4
        rcases hc with hb | ⟨fI, fd, ps, cf, ec, f1, f2, f3, f4⟩
        · refine ⟨fun pins s σ H D I ⟨μ, env, st, o, r, p⟩ => ?_⟩
          rw [evS, if_neg (by simpa using e0)] at p
          obtain ⟨xs, st1, q1, p⟩ := to_ok p
          split at p
          · rw [hb] at p; exact p.elim
          · exact p.elim
        · have hh : plainE z = true ∧ (backTo cpos (starEach zs X.env)).any (·.1) = false := by
            cases as with
            | nil => cases h4
            | cons u us =>
              rw [mA, Bool.and_eq_true] at h4
              exact ⟨plain_ok h4.1, any_ok h4.2⟩
          have F1 : FnOk X.prog X.w X.K X.mg X.base CX0 1 fI fd ps (spI X.K Ca flds cf) := by rw [G.P, G.w, G.K, G.mg, G.base]; exact f4
          refine (ps_raise G.calm G.tk (pmk_oex (T := by rw [G.K]; exact T) (by rw [G.K]; exact f1) (by rw [G.K]; exact f2) F1 G.rs (by rw [G.K]; exact f3) .nil pass0 g1 (by rw [G.mg]; exact m) (sA as G.toGd F h4).kept g2 (star_ok hh.1 _ _) hh.2)).imp fun D σ H q => ?_
          exact raise_imp (x := x) (g := g) e0 hl (by rw [G.mgx]; exact m) ec q
    · cases h
  | .setX i f as own, C, X, G, F, s, h => by
    unfold mS at h
    split at h
    · rename_i x px y py z zs cp pos
      simp only [Bool.and_eq_true, decide_eq_true_eq] at h
      obtain ⟨⟨⟨⟨h1, h2⟩, h3⟩, h4⟩, h5⟩ := h
      exact (ps_set G.nd (by rw [G.N]; exact h1) (loc_of (by rw [G.sc]; exact h2)) (pe_fnX G F h3 h4 h5) rfl (.inl (G.fnT x))).imp setX_imp
    · cases h
  | .retX f as, C, X, G, F, s, h => by
    unfold mS at h
    split at h
    · simp only [Bool.and_eq_true, decide_eq_true_eq] at h
      exact (ps_ret (pe_fnX G F h.1.1 h.1.2 h.2)).imp retX_imp
    · cases h
  | .exX f as, C, X, G, F, s, h => by
    unfold mS at h
    split at h
    · simp only [Bool.and_eq_true, decide_eq_true_eq] at h
      exact (ps_expr (pe_fnX G F h.1.1 h.1.2 h.2) rfl).imp exX_imp
    · cases h
  | .setF c a f e, C, X, G, F, s, h => by
    unfold mS at h
    split at h
    · rename_i y p g p' v pos
      simp only [Bool.and_eq_true, decide_eq_true_eq] at h
      obtain ⟨⟨⟨⟨rfl, h1⟩, h2⟩, h3⟩, h4⟩ := h
      split at h1
      · rename_i w q
        obtain ⟨C', a1, a2, a3, a4, _⟩ := F.os _ _ q
        exact ps_setF (sE a G.toGd F h2) (sE e G.toGd F h3) (by rw [G.K]; exact a1) (by rw [G.K]; exact a3) (by rw [G.K]; exact a4 _ h1) (sw_ok h4 _ _ _)
      · cases h1
    · cases h
  | .augF c a f o e, C, X, G, F, s, h => by
    unfold mS at h
    split at h
    · rename_i y p g p' op v pos
      simp only [Bool.and_eq_true, decide_eq_true_eq] at h
      obtain ⟨⟨⟨⟨rfl, h0⟩, h1⟩, h2⟩, h3⟩ := h
      split at h1
      · rename_i w q
        obtain ⟨C', a1, a2, a3, a4, _⟩ := F.os _ _ q
        split at h0
        · exact ps_augF (sE a G.toGd F h2) (sE e G.toGd F h3) (by rw [G.K]; exact a1) (by rw [G.K]; exact a3) (by rw [G.K]; exact a4 _ h1) in_add (.inl ⟨rfl, fun i j H Q q => ⟨i, j, rfl, rfl, q⟩⟩)
        · exact ps_augF (sE a G.toGd F h2) (sE e G.toGd F h3) (by rw [G.K]; exact a1) (by rw [G.K]; exact a3) (by rw [G.K]; exact a4 _ h1) in_sub (.inr ⟨rfl, fun i j H Q q => ⟨i, j, rfl, rfl, q⟩⟩)
        · cases h0
      · cases h1
    · cases h
  | .setE i x own, C, X, G, F, s, h => by
    unfold mS at h
    split at h
    · rename_i y py v pos
      simp only [Bool.and_eq_true, decide_eq_true_eq] at h
      obtain ⟨⟨h1, h2⟩, h3⟩ := h
      exact (ps_set G.nd (by rw [G.N]; exact h1) (loc_of (by rw [G.sc]; exact h2)) (sX G F x h3) (sw_ok (lcX h3) _ _ _) (.inl (G.fnT y))).imp setE_imp
    · cases h
  | .retE x, C, X, G, F, s, h => by
    unfold mS at h
    split at h
    · exact (ps_ret (sX G F x h)).imp retE_imp
    · cases h
  | .exE x, C, X, G, F, s, h => by
    unfold mS at h
    split at h
    · exact (ps_expr (sX G F x h) (sw_ok (lcX h) _ _ _)).imp exE_imp
    · cases h
  | .appE i x, C, X, G, F, s, h => by
    unfold mS at h
    split at h
    · rename_i z p name apos y cpos pos
      simp only [Bool.and_eq_true, decide_eq_true_eq] at h
      obtain ⟨⟨⟨rfl, h1⟩, h2⟩, h3⟩ := h
      exact ps_appX (sX G F x h3) (var_ok G.toGd h2) rfl h1 (plX h3)
    · cases h
  | .extE i x, C, X, G, F, s, h => by
    unfold mS at h
    split at h
    · rename_i z p name apos y cpos pos
      simp only [Bool.and_eq_true, decide_eq_true_eq] at h
      obtain ⟨⟨⟨rfl, h1⟩, h2⟩, h3⟩ := h
      exact ps_extX (sX G F x h3) (var_ok G.toGd h2) rfl h1 (plX h3)
    · cases h
  | .apsE a x, C, X, G, F, s, h => by
    unfold mS at h
    split at h
    · rename_i z p name apos y cpos pos
      simp only [Bool.and_eq_true, decide_eq_true_eq] at h
      obtain ⟨⟨⟨rfl, h1⟩, h2⟩, h3⟩ := h
      exact ps_apsX (sX G F x h3) (sE a G.toGd F h2) rfl h1 (plX h3)
    · cases h
  | .setFE c a f x, C, X, G, F, s, h => by
    unfold mS at h
    split at h
    · rename_i y p g p' v pos
      simp only [Bool.and_eq_true, decide_eq_true_eq] at h
      obtain ⟨⟨⟨rfl, h1⟩, h2⟩, h3⟩ := h
      split at h1
      · rename_i w q
        obtain ⟨C', a1, a2, a3, a4, _⟩ := F.os _ _ q
        exact ps_setFX (sE a G.toGd F h2) (sX G F x h3) (by rw [G.K]; exact a1) (by rw [G.K]; exact a3) (by rw [G.K]; exact a4 _ h1) (sw_ok (lcX h3) _ _ _)
      · cases h1
    · cases h
  | .never, C, X, G, F, s, h => ps_never.imp fun D σ H ⟨μ, env, st, o, r, p⟩ => by
    rw [evS] at p
    exact p.elim
  | .tryR b hh gone, C, X, G, F, s, h => by
    unfold mS at h
    cases h
  | .tabQ P q, C, X, G, F, s, h => by
    unfold mS at h
    cases h
  | .ite t a b, C, X, G, F, s, h => by
    unfold mS at h
    split at h
    · simp only [Bool.and_eq_true] at h
      exact ps_ite (sE t G.toGd F h.1.1) (sSs a G F h.1.2) (sSs b G F h.2)
    · cases h
  | .whl t b, C, X, G, F, s, h => by
    unfold mS at h
    split at h
    · rw [Bool.and_eq_true] at h
      exact ps_whl G.pass (sE t G.toGd F h.1) (sSs b G F h.2)
    · cases h
  | .for_ g src b, C, X, G, F, s, h => by
    unfold mS at h
    split at h
    · simp only [Bool.and_eq_true] at h
      exact ps_forE G.pass G.calm (src_okE G F h.1.1.1.2 fun z => by have := h.2; rw [z] at this; exact this) (pvG G h.1.1.1.1) (sSs b G F h.1.2) (set_ok h.1.1.2 _)
    · cases h
  | .forZ g as b, C, X, G, F, s, h => by
    unfold mS at h
    split at h
    · simp only [Bool.and_eq_true, decide_eq_true_eq] at h
      obtain ⟨⟨⟨⟨⟨rfl, h2⟩, h3⟩, h4⟩, h5⟩, h6⟩ := h
      have e : ∀ (as : MEs) (y z : Expr), mA C as [y, z] = true → plainE y = true ∧ ∀ pos, (backTo pos (starEach [z] X.env)).any (·.1) = false := fun as y z h => by
        cases as with
        | nil => cases h
        | cons a as =>
          have h : (mE C a y && mA C as [z]) = true := h
          rw [Bool.and_eq_true] at h
          exact ⟨plain_ok h.1, fun pos => any_ok h.2⟩
      obtain ⟨e1, e2⟩ := e _ _ _ h5
      exact (ps_forZ G.pass G.calm (gl_of (by rw [G.sc]; exact h3)).1 (by rw [G.mg]; exact F.bl _ h2) (sA as G.toGd F h5) (pvG G h4) (sSs b G F h6) (star_ok e1 _ X.env) (e2 _)).imp fun D σ H ⟨μ, env, st, o, r, p⟩ => ⟨μ, env, st, o, r, by rw [evS] at p; exact p⟩
    · cases h
  | .brk, C, X, G, F, s, h => by
    unfold mS at h
    split at h
    · exact ps_brk
    · cases h
  | .cnt, C, X, G, F, s, h => by
    unfold mS at h
    split at h
    · exact ps_cnt
    · cases h
  | .pass, C, X, G, F, s, h => by
    unfold mS at h
    split at h
    · exact ps_pas
    · cases h
theorem sSs : ∀ (ms : MSs) {C : Ct} {X : Cx} (G : Gs W C k X wx) (F : Fx W C k call) {s : List Stmt}, mSs C ms s = true → PSs X s (rdS X.K wx (evSs call turns ms))
  | .nil, C, X, G, F, s, h => by
    cases s with
    | nil => exact pss_n
    | cons _ _ => cases h
  | .cons m ms, C, X, G, F, s, h => by
    cases s with
    | nil => cases h
    | cons x xs =>
      rw [mSs, Bool.and_eq_true] at h
      exact pss_c (sS m G F h.1) (sSs ms G F h.2)
end
end
end U

set_option maxHeartbeats 1000000
/-! U15: a def, a program, a law. -/
namespace U
open PySem PySem.Spec PyProof.Rows L2
section
variable {K : PySem.W.Frag} {μ : Nat → Addr} {L : Nat} {H : Hp}
mutual
theorem RV.low {n : Nat} (hn : n ≤ L) : ∀ {x : PV} {v : V}, PV.low n x = true → RV K μ L H x v → RV K μ n H x v
  | _, _, _, .non => .non
  | _, _, _, .bl b => .bl b
  | _, _, _, .int i => .int i
  | _, _, _, .str z => .str z
  | .tup xs, .ref a, l, .tup h r k => .tup h (RVs.low hn (show PV.lowL n xs = true from l) r) k
  | .loc m, _, l, .loc h => .loc (of_decide_eq_true (show decide (m < n) = true from l))
  | .fl xs, .ref a, l, .fl h k r => .fl h (fun m hm => k m (Nat.lt_of_lt_of_le hm hn)) (RVs.low hn (show PV.lowL n xs = true from l) r)
  | .rol xs, .ref a, l, .rol h r => .rol h (RVs.low hn (show PV.lowL n xs = true from l) r)
  | _, _, _, .fnv h => .fnv h
theorem RVs.low {n : Nat} (hn : n ≤ L) : ∀ {xs : List PV} {vs : List V}, PV.lowL n xs = true → RVs K μ L H xs vs → RVs K μ n H xs vs
  | _, _, _, .nil => .nil
  | x :: xs, v :: vs, l, .cons f h r => by
    have l : (PV.low n x && PV.lowL n xs) = true := l
    rw [Bool.and_eq_true] at l
    exact .cons f (RV.low hn l.1 h) (RVs.low hn l.2 r)
end
theorem leave_ok {μ0 : Nat → Addr} {H0 : Hp} {st s st' : Store} {v w : PV} {v' : V} (h : leave st.length v s = .ok w st') (t : Stp μ0 st.length H0 μ s.length H) (o : Ok K μ s H) (r : RV K μ s.length H v v') :
    w = v ∧ Stp μ0 st.length H0 μ st'.length H ∧ Ok K μ st' H ∧ RV K μ st'.length H v v' := by
  unfold leave at h
  split at h
  · cases h; exact ⟨rfl, t, o, r⟩
  · rename_i hn
    split at h
    · rename_i hc
      cases h
      rw [Bool.and_eq_true] at hc
      have el : (s.take st.length).length = st.length := by rw [List.length_take]; omega
      have hle : st.length ≤ s.length := by omega
      refine ⟨rfl, ?_, ⟨fun a b ha hb e => o.inj a b (by omega) (by omega) e, fun n xs hx => ?_, fun n c fs hx => ?_, fun n P q hx => ?_, fun n t2 kvs2 hx => ?_, fun n hx => ?_⟩, ?_⟩
      rotate_left 4
      · rw [el]
        have hm : Cell.dct t2 kvs2 ∈ s.take st.length := List.mem_of_getElem? hx
        have lo : PV.lowL st.length (kvs2.map Prod.snd) = true := (List.all_eq_true.mp hc.2) _ hm
        have hx2 : s[n]? = some (.dct t2 kvs2) := by
          rw [List.getElem?_take] at hx
          split at hx
          · exact hx
          · cases hx
        obtain ⟨ws, a1, a2, a3⟩ := o.dc n t2 kvs2 hx2
        exact ⟨ws, a1, RVs.low hle lo a2, a3⟩
      · have hx2 : s[n]? = some .hid := by
          rw [List.getElem?_take] at hx
          split at hx
          · exact hx
          · cases hx
        exact o.hd n hx2
      rotate_left 4
      · obtain ⟨e1, t1⟩ := o.tb n P q (by
          rw [List.getElem?_take] at hx
          split at hx
          · exact hx
          · cases hx)
        exact ⟨e1, t1⟩
      rotate_left
      rotate_left
      rotate_left
      · rw [el]
        have hm : Cell.ins c fs ∈ s.take st.length := List.mem_of_getElem? hx
        have lo : PV.lowL st.length (fs.map Prod.snd) = true := (List.all_eq_true.mp hc.2) _ hm
        have hx2 : s[n]? = some (.ins c fs) := by
          rw [List.getElem?_take] at hx
          split at hx
          · exact hx
          · cases hx
        obtain ⟨C, dx, gs, a1, a2, a3, a4⟩ := o.ob n c fs hx2
        exact ⟨C, dx, gs, a1, a2, a3, RVs.low hle lo a4⟩
      · rw [el]; exact RV.low hle hc.1 r
      · rw [el]
        exact ⟨Nat.le_refl _, t.ext, t.keep, t.tup, t.frz, t.there, fun n h1 h2 => absurd h2 (by omega), t.cod⟩
      · rw [el]
        have hm : Cell.lst xs ∈ s.take st.length := List.mem_of_getElem? hx
        have lo : PV.lowL st.length xs = true := (List.all_eq_true.mp hc.2) _ hm
        have hx2 : s[n]? = some (.lst xs) := by
          rw [List.getElem?_take] at hx
          split at hx
          · exact hx
          · cases hx
        obtain ⟨vs, h1, h2⟩ := o.cell n xs hx2
        exact ⟨vs, h1, RVs.low hle lo h2⟩
    · cases h; exact ⟨rfl, t, o, r⟩
theorem leaveX_ok {μ0 : Nat → Addr} {H0 : Hp} {st s : Store} {c : Str} {fs : List (Str × PV)} (t : Stp μ0 st.length H0 μ s.length H) (o : Ok K μ s H) :
    ∃ st', leaveX st.length c fs s = .xc c fs st' ∧ Stp μ0 st.length H0 μ st'.length H ∧ Ok K μ st' H ∧ ∀ d, XD K μ s.length H fs d → XD K μ st'.length H fs d := by
  unfold leaveX
  split
  · exact ⟨s, rfl, t, o, fun d x => x⟩
  · rename_i hn
    split
    · rename_i hc
      rw [Bool.and_eq_true] at hc
      have el : (s.take st.length).length = st.length := by rw [List.length_take]; omega
      have hle : st.length ≤ s.length := by omega
      refine ⟨_, rfl, ?_, ⟨fun a b ha hb e => o.inj a b (by omega) (by omega) e, fun n xs hx => ?_, fun n c fs hx => ?_, fun n P q hx => ?_, fun n t2 kvs2 hx => ?_, fun n hx => ?_⟩, fun d x => ?_⟩
      rotate_left 4
      · rw [el]
        have hm : Cell.dct t2 kvs2 ∈ s.take st.length := List.mem_of_getElem? hx
        have lo : PV.lowL st.length (kvs2.map Prod.snd) = true := (List.all_eq_true.mp hc.2) _ hm
        have hx2 : s[n]? = some (.dct t2 kvs2) := by
          rw [List.getElem?_take] at hx
          split at hx
          · exact hx
          · cases hx
        obtain ⟨ws, a1, a2, a3⟩ := o.dc n t2 kvs2 hx2
        exact ⟨ws, a1, RVs.low hle lo a2, a3⟩
      · have hx2 : s[n]? = some .hid := by
          rw [List.getElem?_take] at hx
          split at hx
          · exact hx
          · cases hx
        exact o.hd n hx2
      rotate_left 4
      · obtain ⟨e1, t1⟩ := o.tb n P q (by
          rw [List.getElem?_take] at hx
          split at hx
          · exact hx
          · cases hx)
        exact ⟨e1, t1⟩
      rotate_left
      rotate_left
      rotate_left
      · rw [el]
        have hm : Cell.ins c fs ∈ s.take st.length := List.mem_of_getElem? hx
        have lo : PV.lowL st.length (fs.map Prod.snd) = true := (List.all_eq_true.mp hc.2) _ hm
        have hx2 : s[n]? = some (.ins c fs) := by
          rw [List.getElem?_take] at hx
          split at hx
          · exact hx
          · cases hx
        obtain ⟨C, dx, gs, a1, a2, a3, a4⟩ := o.ob n c fs hx2
        exact ⟨C, dx, gs, a1, a2, a3, RVs.low hle lo a4⟩
      rotate_left
      · rw [el]
        exact ⟨Nat.le_refl _, t.ext, t.keep, t.tup, t.frz, t.there, fun n h1 h2 => absurd h2 (by omega), t.cod⟩
      · rw [el]
        have hm : Cell.lst xs ∈ s.take st.length := List.mem_of_getElem? hx
        have lo : PV.lowL st.length xs = true := (List.all_eq_true.mp hc.2) _ hm
        have hx2 : s[n]? = some (.lst xs) := by
          rw [List.getElem?_take] at hx
          split at hx
          · exact hx
          · cases hx
        obtain ⟨vs, h1, h2⟩ := o.cell n xs hx2
        exact ⟨vs, h1, RVs.low hle lo h2⟩
      · rw [el]
        rcases x with x | ⟨dd, gs, h1, h2, h3, h4, h5⟩
        · exact .inl x
        · exact .inr ⟨dd, gs, h1, h2, h3, h4, RVs.low hle hc.1 h5⟩
    · exact ⟨s, rfl, t, o, fun d x => x⟩
theorem start_ok {as : List PV} {vs : List V} {N : List Str} {nl : Nat} (r : RVs K μ L H as vs) (f : as.any PV.isFl = false) (hN : N.length = nl) : S1 K μ L H (as.map some ++ List.replicate (nl - as.length) none) (L2.start N vs) ∧
    ∀ a, ¬ Own (as.map some ++ List.replicate (nl - as.length) none) (L2.start N vs) a := by
  have get : ∀ (i : Nat) (x : PV), (as.map some ++ List.replicate (nl - as.length) (none : Option PV))[i]? = some (some x) → as[i]? = some x := fun i x h => by
    by_cases hi : i < as.length
    · rw [List.getElem?_append_left (by simpa using hi), List.getElem?_map] at h
      cases e : as[i]? with
      | none => rw [e] at h; cases h
      | some a => rw [e] at h; cases h; rfl
    · rw [List.getElem?_append_right (by simpa using hi), List.getElem?_replicate] at h
      split at h <;> cases h
  have nofl : ∀ (i : Nat) (xs : List PV), as[i]? ≠ some (.fl xs) := fun i xs h => by
    have := List.any_eq_false.mp f _ (List.mem_of_getElem? h)
    exact this rfl
  refine ⟨⟨⟨?_, fun i x h => ?_⟩, fun i j xs ys a _ h1 _ _ _ => nofl i xs (get i _ h1)⟩, fun a ⟨i, xs, h1, _⟩ => nofl i xs (get i _ h1)⟩
  · unfold L2.start
    have := r.len
    simp
    omega
  · obtain ⟨v, h1, h2, _⟩ := r.get (get i x h)
    refine ⟨v, ?_, h2⟩
    unfold L2.start
    have hi : i < vs.length := (List.getElem?_eq_some_iff.mp h1).1
    rw [List.getElem?_append_left (by simpa using hi), List.getElem?_map, h1]
    rfl
end
section
variable {W : Wd} {k : Nat} {turns : Nat} {D : Nat → Option Def}
theorem call_len {f : Nat} {d : Def} {as : List PV} {st st' : Store} {v : PV} {j : Nat} (hd : D f = some d) (ht : d.to = none) (h : evCall turns D j f as st = .ok v st') : as.length = d.np := by
  cases j with
  | zero => cases h
  | succ j =>
    rw [evCall, hd] at h
    simp only [ht] at h
    split at h
    · rename_i q; exact q.1
    · cases h
/-- a def of the text: its name, its number, where it stands -/
structure Ent where
  x : Str
  f : Nat
  a : Addr
  fd : FuncData
  st : Stmt
  N : List Str
  ps : List Str
  d : Def
  /-- its name with that of its class ahead of it -/
  q : Str := x
  /-- a def of a class -/
  m : Bool := false
/-- the defs of the module, with their numbers -/
def pairs : List Ent → List (Str × Nat)
  | [] => []
  | e :: es => if e.m then pairs es else (e.x, e.f) :: pairs es
structure EntOk (W : Wd) (D : Nat → Option Def) (fn : List (Str × Nat)) (cs : List (Str × PV)) (bl : List Str) (ds : List (Str × List (Str × PV))) (xs : Xs) (e : Ent) : Prop where
  mg : e.m = false → W.mg e.x = some (.ref e.a)
  fun_ : Fun W.K e.x e.q e.st e.a e.fd
  binds : Binds W.K e.fd e.ps []
  sc : FnScope e.N e.ps (defScope e.st)
  d : D e.f = some e.d
  np : e.ps.length = e.d.np
  nl : e.N.length = e.d.nl
  to : e.d.to = none
  text : mSs ⟨e.N, defScope e.st, fn, cs, bl, ds, false, xs⟩ e.d.body (defBody e.st) = true
/-- a def's promise, from its body -/
theorem fn_okR {P : Program} {w : World} {K : PySem.W.Frag} {mg : Str → Option Value} {base : Heap} {x qual : Str} {st : Stmt} {f : Addr} {fd : FuncData} {N ps : List Str} {k : Nat} {sp : Sp} (F : Fun K x qual st f fd) (S : FnScope N ps (defScope st)) (len : ∀ vs H Q E, sp vs H Q E → vs.length = ps.length)
    (body : ∀ (cdv : Value) (A : Around) (outer : List Env) (s : Shared) (H : Hp) (vs : List V) (Q : VK) (E : XK), Rm k (A.deeper (envOfC qual (defScope st) s.heap.objs.size f cdv)) → sp vs H Q E →
      ∃ t, PSs (cxOf (L2.CX P w) P w K mg base N qual (defScope st) f cdv A outer s H E) (defBody st) t ∧ t { nx := fun _ H' => Q .non H', rt := Q, bk := fun _ _ => False, ct := fun _ _ => False } (L2.start N vs) H) : FnR P w K mg base (L2.CX P w) (k + 1) f fd ps sp := by
  refine ⟨len, fun {A outer s H args us vs Q E} hsp hv hb hr E0 => ?_⟩
  obtain ⟨⟨oc, od, kV, doc, pm, an, cdv, ct, osl, hfd, hlk, hc⟩, kp⟩ := F
  subst hfd
  have kin : K.In s.heap := fun a o h => (E0.bs a o (E0.mod.kin a o h)).1
  have nl : s.heap.NoLimit := E0.mod.nolimit.keeps fun b o e => (E0.bs b o e).1
  obtain ⟨t, b1, b2⟩ := body cdv A outer s H vs Q E (hr.down _) hsp
  refine Att.call_fn kin nl hlk hc (by have := hr.dp; omega) hb ?_ (fun s1 hin => ?_) S.co S.gen S.kind
  · rw [List.all_eq_true]
    intro y hy
    have hm : y.1 ∈ ps := (List.of_mem_zip hy).1
    rcases S.par y.1 hm with h | h <;> simp [h]
  · have I := inv_start (CX := L2.CX P w) (E := E) (cd := cdv) (qual := qual) (f := f) (us := us) S hr.hd E0 (len _ _ _ _ hsp) hv hin
    refine PySem.wpAny_mono (b1.run [] s1 (L2.start N vs) H _ I b2) (fun fl s' h => ?_) (fun _ _ h => h)
    cases fl with
    | next =>
      obtain ⟨σ', H', I', q⟩ := h
      exact ⟨.non, H', I'.os, I'.bare, I'.base, I'.hok, rfl, q⟩
    | brk => obtain ⟨_, _, _, q⟩ := h; exact q.elim
    | cont => obtain ⟨_, _, _, q⟩ := h; exact q.elim
    | ret u =>
      obtain ⟨v, σ', H', I', rv, q⟩ := h
      exact ⟨v, H', I'.os, I'.bare, I'.base, I'.hok, rv, q⟩
/-- every def's promise, so many levels deep -/
abbrev AllOk (W : Wd) (D : Nat → Option Def) (es : List Ent) (turns k : Nat) : Prop := ∀ e ∈ es, FnR W.P W.w W.K W.mg W.base (L2.CX W.P W.w) k e.a e.fd e.ps (spX W.K W.mg (evCall turns D k e.f))
/-- a def whose promise is shown by hand -/
structure EntF (W : Wd) (D : Nat → Option Def) (es : List Ent) (turns : Nat) (e : Ent) : Prop where
  mg : W.mg e.x = some (.ref e.a)
  kp : PySem.W.keepIn W.K (.ref e.a) = true
  binds : Binds W.K e.fd e.ps []
  ok : ∀ k, (∀ j, j ≤ k → AllOk W D es turns j) → FnR W.P W.w W.K W.mg W.base (L2.CX W.P W.w) (k + 1) e.a e.fd e.ps (spX W.K W.mg (evCall turns D (k + 1) e.f))
/-- a program of the text -/
structure ProgOk (W : Wd) (D : Nat → Option Def) (es : List Ent) (cs : List (Str × PV)) (bl : List Str) (ds : List (Str × List (Str × PV))) (xs : Xs) (turns : Nat) : Prop where
  df : ∀ e ∈ es, EntOk W D (pairs es) cs bl ds xs e ∨ EntF W D es turns e
  os : ∀ k, AllOk W D es turns k → (∀ j, k = j + 1 → AllOk W D es turns j) → ∀ c w, xs.ob.lookup c = some w → ObOk W k (evCall turns D k) c w
  xs : ∀ k, AllOk W D es turns k → (∀ j, k = j + 1 → AllOk W D es turns j) → ∀ x w, xs.er.lookup x = some w → XcOk W k (evCall turns D k) x w
  cs : ∀ x v, cs.lookup x = some v → v.isFl = false ∧ ∃ u v', W.mg x = some u ∧ RelV v' u ∧ (∀ μ L H, RV W.K μ L H v v') ∧ ∀ xs, v = .tup xs → ∃ p o, v' = .ref p ∧ W.K.lookup p = some o ∧ o.cls = .type "tuple" ∧ o.dict = none
  bl : ∀ x, bl.contains x = true → W.mg x = none
  ds : ∀ x kvs, ds.lookup x = some kvs → ∃ d es n, W.mg x = some (.ref d) ∧ KDict W.K W.w d es n ∧ DRel es.toList kvs
theorem ent_of : ∀ {es : List Ent} {x : Str} {f : Nat}, (pairs es).lookup x = some f → ∃ e, e ∈ es ∧ e.x = x ∧ e.f = f ∧ e.m = false
  | [], _, _, h => by cases h
  | e :: es, x, f, h => by
    unfold pairs at h
    split at h
    · obtain ⟨e', h1, h2⟩ := ent_of h
      exact ⟨e', List.mem_cons_of_mem _ h1, h2⟩
    · rename_i hm
      have h : (match x == e.x with
        | true => some e.f
        | false => (pairs es).lookup x) = some f := h
      split at h
      · rename_i q
        cases h
        exact ⟨e, List.mem_cons_self, (eq_of_beq q).symm, rfl, by simpa using hm⟩
      · obtain ⟨e', h1, h2⟩ := ent_of h
        exact ⟨e', List.mem_cons_of_mem _ h1, h2⟩
theorem ProgOk.at_ {es : List Ent} {cs : List (Str × PV)} {bl : List Str} {ds : List (Str × List (Str × PV))} {xs : Xs} (P : ProgOk W D es cs bl ds xs turns) {e : Ent} (he : e ∈ es) (hm : e.m = false) : W.mg e.x = some (.ref e.a) ∧ PySem.W.keepIn W.K (.ref e.a) = true ∧ Binds W.K e.fd e.ps [] := by
  rcases P.df e he with h | h
  · exact ⟨h.mg hm, h.fun_.kp, h.binds⟩
  · exact ⟨h.mg, h.kp, h.binds⟩
/-- what a text's names are, where all defs keep their promises -/
theorem ProgOk.fx {es : List Ent} {cs : List (Str × PV)} {bl : List Str} {ds : List (Str × List (Str × PV))} {xs : Xs} (P : ProgOk W D es cs bl ds xs turns) (ih : AllOk W D es turns k) (ih' : ∀ j, k = j + 1 → AllOk W D es turns j) {N : List Str} {sc : Scope} {gk : Bool} :
    Fx W ⟨N, sc, pairs es, cs, bl, ds, gk, xs⟩ k (evCall turns D k) := by
  refine ⟨fun x f hx => ?_, fun x f hx => ?_, P.xs k ih ih', P.os k ih ih', P.cs, P.bl, P.ds⟩
  · obtain ⟨e', h1, rfl, rfl, h2⟩ := ent_of hx
    obtain ⟨q1, q2, q3⟩ := P.at_ h1 h2
    exact ⟨e'.a, e'.fd, e'.ps, q1, q2, q3, fn_plainR (ih e' h1)⟩
  · obtain ⟨e', h1, rfl, rfl, h2⟩ := ent_of hx
    obtain ⟨q1, q2, q3⟩ := P.at_ h1 h2
    exact ⟨e'.a, e'.fd, e'.ps, q1, q2, q3, ih e' h1⟩
/-- behind a def's body: what its program yields -/
theorem body_post {S : Addr → Prop} {wx : XW} {d : Def} {f : Nat} {as : List PV} {st0 : Store} {μ : Nat → Addr} {H : Hp} {Q : VK} {E : XK} (hd : D f = some d) (ht : d.to = none) (hS : ∀ a, ¬ S a) (hm : wx.mg = W.mg) (hW : wx.W = fun cls d _ H => E cls d H)
    (g : outX W.K W.mg μ st0 H Q E (evCall turns D (k + 1) f as st0)) :
    (as.length = d.np ∧ (as.any PV.isFl) = false) ∧ post W.K wx S μ st0 H (evSs (evCall turns D k) turns d.body (as.map some ++ List.replicate (d.nl - d.np) none) st0) { nx := fun _ H' => Q .non H', rt := Q, bk := fun _ _ => False, ct := fun _ _ => False } := by
  rw [evCall, hd] at g
  simp only [ht] at g
  split at g
  · rename_i qq
    refine ⟨qq, ?_⟩
    split at g
    · rename_i env' s' hs
      rw [hs]
      refine fun μ' H' σ' t o' r' w => ?_
      have t : Stp μ st0.length H μ' s'.length H' := t.weak fun b z => (hS b z).elim
      cases q : leave st0.length .non s' with
      | ok w' s2 =>
        rw [q] at g
        obtain ⟨rfl, q1, q2, q3⟩ := leave_ok q t o' .non
        exact g μ' H' .non q1 q2 q3 trivial
      | xc _ _ _ => unfold leave at q; split at q <;> first | cases q | (split at q <;> cases q)
      | bad => rw [q] at g; exact g.elim
    · rename_i w' s' hs
      rw [hs]
      refine fun μ' H' v' t o' r' w => ?_
      have t : Stp μ st0.length H μ' s'.length H' := t.weak fun b z => (hS b z).elim
      cases q : leave st0.length w' s' with
      | ok w2 s2 =>
        rw [q] at g
        obtain ⟨rfl, q1, q2, q3⟩ := leave_ok q t o' r'
        refine g μ' H' v' q1 q2 q3 ?_
        cases q3 with
        | fl _ _ _ => exact (w _ rfl rfl).elim (fun z => (hS _ z).elim) fun z => z
        | _ => trivial
      | xc _ _ _ => unfold leave at q; split at q <;> first | cases q | (split at q <;> cases q)
      | bad => rw [q] at g; exact g.elim
    · rename_i c fs env' s' hs
      rw [hs]
      refine fun μ' H' σ' C dd t o' r' w hc x => ?_
      have t : Stp μ st0.length H μ' s'.length H' := t.weak fun b z => (hS b z).elim
      obtain ⟨s2, q, q1, q2, q3⟩ := leaveX_ok (c := c) (fs := fs) t o'
      rw [q] at g
      rw [hW]
      exact g μ' H' C dd q1 q2 (by rw [← hm]; exact hc) (q3 dd x)
    · exact g.elim
  · exact g.elim
theorem def_ok {es : List Ent} {cs : List (Str × PV)} {bl : List Str} {ds : List (Str × List (Str × PV))} {xs : Xs} (P : ProgOk W D es cs bl ds xs turns) (all : ∀ j, j ≤ k → AllOk W D es turns j)
    (e : Ent) (he : e ∈ es) : FnR W.P W.w W.K W.mg W.base (L2.CX W.P W.w) (k + 1) e.a e.fd e.ps (spX W.K W.mg (evCall turns D (k + 1) e.f)) := by
  have ih := all k (Nat.le_refl k)
  have ih' : ∀ j, k = j + 1 → AllOk W D es turns j := fun j e => all j (by omega)
  rcases P.df e he with E0 | E0
  · refine fn_okR E0.fun_ E0.sc (fun vs H Q E h => ?_) fun cdv A outer s H vs Q E hr h => ?_
    · obtain ⟨μ, st, as, _, r, q⟩ := h
      obtain ⟨⟨q1, _⟩, _⟩ := body_post (S := fun _ => False) (wx := ⟨W.mg, fun cls d _ H => E cls d H⟩) E0.d E0.to (fun _ z => z) rfl rfl q
      rw [← r.len, E0.np]
      exact q1
    · obtain ⟨μ, st0, as, o, r, q⟩ := h
      let wx : XW := ⟨W.mg, fun cls d _ H => E cls d H⟩
      obtain ⟨⟨l1, l2⟩, _⟩ := body_post (S := fun _ => False) (wx := wx) E0.d E0.to (fun _ z => z) rfl rfl q
      obtain ⟨s1, own⟩ := start_ok (N := e.N) r l2 E0.nl
      obtain ⟨_, p⟩ := body_post (S := Own (as.map some ++ List.replicate (e.d.nl - as.length) none) (L2.start e.N vs)) (wx := wx) E0.d E0.to own rfl rfl q
      have G : Gs W ⟨e.N, defScope e.st, pairs es, cs, bl, ds, false, xs⟩ k (cxOf (L2.CX W.P W.w) W.P W.w W.K W.mg W.base e.N e.q (defScope e.st) e.a cdv A outer s H E) wx :=
        ⟨⟨rfl, rfl, rfl, rfl, rfl, rfl, rfl, E0.sc.nd, rfl, hr.old.mono (by omega), .inr hr, fun z => by cases z⟩, E0.sc.kind, fun _ => rfl, passes_of rfl, takes_of rfl rfl rfl rfl, rfl, hr.old⟩
      refine ⟨_, sSs (turns := turns) e.d.body G (P.fx ih ih') E0.text, μ, _, st0, o, s1, ?_⟩
      rw [← l1] at p
      exact p
  · exact E0.ok k all
theorem prog_ok {es : List Ent} {cs : List (Str × PV)} {bl : List Str} {ds : List (Str × List (Str × PV))} {xs : Xs} (P : ProgOk W D es cs bl ds xs turns) (k : Nat) : AllOk W D es turns k := by
  induction k using Nat.strongRecOn with
  | ind k ih =>
    cases k with
    | zero =>
      intro e he
      refine ⟨fun vs H Q E h => ?_, fun {A outer s H args us vs Q E} h _ _ _ _ => ?_⟩
      · obtain ⟨μ, st, as, _, r, q⟩ := h
        exact q.elim
      · obtain ⟨μ, st, as, _, r, q⟩ := h
        exact q.elim
    | succ k => exact fun e he => def_ok P (fun j hj => ih j (by omega)) e he
end
/-- a def behind the top -/
theorem fun_at {K : PySem.W.Frag} {x : Str} {st : Stmt} {f : Addr} {oc : Value} {od an : Option Addr} {osl : Array (Option Value)} {kV doc pm cdv ct : Value} (l : K.lookup f = some ⟨oc, od, .func (PySem.W.fnOf x x (defArgs st) (defBody st) (defScope st) .none kV doc pm an cdv ct), osl⟩)
    (c : PySem.W.codeIn K cdv x = true) (k : PySem.W.keepIn K (.ref f) = true) : Fun K x x st f (PySem.W.fnOf x x (defArgs st) (defBody st) (defScope st) .none kV doc pm an cdv ct) := fun_mk l c k
theorem fun_at' {K : PySem.W.Frag} {x q : Str} {st : Stmt} {f : Addr} {oc : Value} {od an : Option Addr} {osl : Array (Option Value)} {kV doc pm cdv ct : Value} (l : K.lookup f = some ⟨oc, od, .func (PySem.W.fnOf x q (defArgs st) (defBody st) (defScope st) .none kV doc pm an cdv ct), osl⟩)
    (c : PySem.W.codeIn K cdv q = true) (k : PySem.W.keepIn K (.ref f) = true) : Fun K x q st f (PySem.W.fnOf x q (defArgs st) (defBody st) (defScope st) .none kV doc pm an cdv ct) := fun_mk l c k
/-- a written tuple of texts -/
theorem tup_rv {K : PySem.W.Frag} {a : Addr} {od : Option Addr} {its : Array Value} {n : Nat} {sl : Array (Option Value)} {xs : List Str} (l : K.lookup a = some ⟨.type "tuple", od, .seq its n, sl⟩) (hz : its.size ≤ sizeLine) (v : Vals (xs.map V.str) its.toList) (hk : keyOk (xs.map .str) = false := by first | rfl | decide +kernel) :
    ∀ μ L H, RV K μ L H (.tup (xs.map .str)) (.ref a) := fun μ L H => by
  have go : ∀ xs : List Str, RVs K μ L H (xs.map PV.str) (xs.map V.str) := fun xs => by
    induction xs with
    | nil => exact .nil
    | cons z xs ih => exact .cons rfl (.str z) ih
  exact .tup (.inr ⟨_, its, n, l, rfl, rfl, hz, v⟩) (go xs) (.inr hk)
/-- the law's promise, from what its program yields -/
theorem law_sp {K : PySem.W.Frag} {cf : List PV → Store → Res PV} {H : Hp} {a : Addr} {ns : List Int} (h : ∃ st', cf [.rol (ns.map .int)] [] = .ok (.bl true) st') (ho : Only H) (hs : SqL K H a (ns.map V.int)) : spEv K cf [.ref a] H (fun v _ => v = .bl true) fun _ _ _ => False := by
  obtain ⟨st', e⟩ := h
  refine ⟨fun _ => 0, [], _, _, st', ⟨fun n m hn => absurd hn (by simp), fun n xs hx => by simp at hx, fun n c fs hx => by simp at hx, fun n P q hx => by simp at hx, fun n t kvs hx => by simp at hx, fun n hx => by simp at hx⟩, .cons rfl (.rol ?_ (go ns)) .nil, e, fun μ' H' v' _ _ r _ => by cases r; rfl⟩
  rcases hs with (z | ⟨o, z⟩) | z
  · rcases ho a with w | ⟨o, xs, w⟩ <;> (rw [w] at z; cases z)
  · exact .inl ⟨o, z⟩
  · exact .inr z
where go {K : PySem.W.Frag} {μ : Nat → Addr} {L : Nat} {H : Hp} : ∀ ns : List Int, RVs K μ L H (ns.map PV.int) (ns.map V.int)
  | [] => .nil
  | n :: ns => .cons rfl (.int n) (go ns)
end U

set_option maxHeartbeats 8000000
/-! U16: reasoning over the language. -/
namespace U
open PySem L2
@[simp] theorem bind_ok_ {α β : Type} (a : α) (st : Store) (f : α → Store → Res β) : (Res.ok a st).bind f = f a st := rfl
@[simp] theorem opt_some_ {α : Type} (a : α) (st : Store) : opt (some a) st = .ok a st := rfl
@[simp] theorem to_ok_ {α : Type} (a : α) (st : Store) (f : α → Store → SR) : (Res.ok a st).to f = f a st := rfl
@[simp] theorem then_nx_ (e : En) (st : Store) (f : En → Store → SR) : (SR.nx e st).then f = f e st := rfl
@[simp] theorem then_rt_ (v : PV) (st : Store) (f : En → Store → SR) : (SR.rt v st).then f = .rt v st := rfl
@[simp] theorem then_bk_ (e : En) (st : Store) (f : En → Store → SR) : (SR.bk e st).then f = .bk e st := rfl
@[simp] theorem then_ct_ (e : En) (st : Store) (f : En → Store → SR) : (SR.ct e st).then f = .ct e st := rfl
@[simp] theorem isBl_bl_ (b : Bool) : isBl (.bl b) = some b := rfl
@[simp] theorem done_val_ (v : PV) (st : Store) : done .val v st = .ok v st := rfl
@[simp] theorem done_use_ (v : PV) (st : Store) : done .use v st = .ok v st := rfl
@[simp] theorem done_tbl_ (b : Bool) (st : Store) : done .test (.bl b) st = .ok (.bl b) st := rfl
@[simp] theorem isFl_non : PV.isFl .non = false := rfl
@[simp] theorem isFl_bl (b : Bool) : PV.isFl (.bl b) = false := rfl
@[simp] theorem isFl_int (i : Int) : PV.isFl (.int i) = false := rfl
@[simp] theorem isFl_str (s : Str) : PV.isFl (.str s) = false := rfl
@[simp] theorem isFl_tup (s : List PV) : PV.isFl (.tup s) = false := rfl
@[simp] theorem isFl_loc (n : Nat) : PV.isFl (.loc n) = false := rfl
@[simp] theorem isFl_rol (n : List PV) : PV.isFl (.rol n) = false := rfl
@[simp] theorem esc_non (st : Store) : esc .non st = (.non, st) := rfl
@[simp] theorem esc_bl (b : Bool) (st : Store) : esc (.bl b) st = (.bl b, st) := rfl
@[simp] theorem esc_int (i : Int) (st : Store) : esc (.int i) st = (.int i, st) := rfl
@[simp] theorem esc_str (s : Str) (st : Store) : esc (.str s) st = (.str s, st) := rfl
@[simp] theorem esc_tup (s : List PV) (st : Store) : esc (.tup s) st = (.tup s, st) := rfl
@[simp] theorem esc_loc (n : Nat) (st : Store) : esc (.loc n) st = (.loc n, st) := rfl
@[simp] theorem esc_rol (n : List PV) (st : Store) : esc (.rol n) st = (.rol n, st) := rfl
@[simp] theorem esc_fl (n : List PV) (st : Store) : esc (.fl n) st = (.loc st.length, st ++ [.lst n]) := rfl
/-! values at names -/
@[simp] theorem varV_non (st : Store) : varV .val (some (some .non)) st = .ok .non st := rfl
@[simp] theorem varV_bl (b : Bool) (st : Store) : varV .val (some (some (.bl b))) st = .ok (.bl b) st := rfl
@[simp] theorem varV_int (i : Int) (st : Store) : varV .val (some (some (.int i))) st = .ok (.int i) st := rfl
@[simp] theorem varV_str (s : Str) (st : Store) : varV .val (some (some (.str s))) st = .ok (.str s) st := rfl
@[simp] theorem varV_tup (xs : List PV) (st : Store) : varV .val (some (some (.tup xs))) st = .ok (.tup xs) st := rfl
@[simp] theorem varV_loc (n : Nat) (st : Store) : varV .val (some (some (.loc n))) st = .ok (.loc n) st := rfl
@[simp] theorem varV_rol (xs : List PV) (st : Store) : varV .val (some (some (.rol xs))) st = .ok (.rol xs) st := rfl
@[simp] theorem varV_use (v : PV) (st : Store) : varV .use (some (some v)) st = .ok v st := rfl
@[simp] theorem varV_test (v : PV) (st : Store) : varV .test (some (some v)) st = done .test v st := rfl
@[simp] theorem extL_fl (xs : List PV) : extL (.fl xs) = some xs := rfl
@[simp] theorem extL_tup (xs : List PV) : extL (.tup xs) = some xs := rfl
/-! operations -/
@[simp] theorem bin_add_int (i j : Int) (st : Store) : binV .add (.int i) (.int j) st = some (.int (i + j)) := rfl
@[simp] theorem bin_sub_int (i j : Int) (st : Store) : binV .sub (.int i) (.int j) st = some (.int (i - j)) := rfl
theorem bin_mul_int {i j : Int} {st : Store} (h : ckM i j = true) : binV .mul (.int i) (.int j) st = some (.int (i * j)) := if_pos h
theorem bin_mod_int {i j : Int} {st : Store} (h : 0 < j) : binV .mod (.int i) (.int j) st = some (.int (i % j)) := if_pos h
theorem bin_fdiv_int {i j : Int} {st : Store} (h : 0 < j ∧ j < 1073741824) : binV .fdiv (.int i) (.int j) st = some (.int (i / j)) := if_pos h
theorem bin_pow_int {i j : Int} {st : Store} (h : 0 ≤ j ∧ j ≤ 1000000 ∧ i.natAbs < 2 ^ 64) : binV .pow (.int i) (.int j) st = some (.int (i ^ j.toNat)) := if_pos h
theorem bin_add_str {x y : Str} {st : Store} (h : x.length + y.length ≤ sizeLine) : binV .add (.str x) (.str y) st = some (.str (x ++ y)) := if_pos h
theorem bin_add_tup {x y : List PV} {st : Store} (h : x.length + y.length ≤ sizeLine) : binV .add (.tup x) (.tup y) st = some (.tup (x ++ y)) := if_pos h
theorem bin_mul_str {x : Str} {j : Int} {st : Store} (h : -1000000 ≤ j ∧ j ≤ 1000000 ∧ x.length * j.toNat ≤ 1000000) : binV .mul (.str x) (.int j) st = some (.str (⟨((List.replicate j.toNat x.cps.toList).flatten).toArray⟩)) := if_pos h
@[simp] theorem cmp_eq_int (i j : Int) (st : Store) : cmpV .eq (.int i) (.int j) st = some (decide (i = j)) := by
  show some (decide (V.int i = V.int j)) = _
  simp
@[simp] theorem cmp_ne_int (i j : Int) (st : Store) : cmpV .ne (.int i) (.int j) st = some (!decide (i = j)) := by
  show some (!decide (V.int i = V.int j)) = _
  simp
@[simp] theorem cmp_eq_str (i j : Str) (st : Store) : cmpV .eq (.str i) (.str j) st = some (decide (i = j)) := by
  show some (decide (V.str i = V.str j)) = _
  simp
@[simp] theorem cmp_ne_str (i j : Str) (st : Store) : cmpV .ne (.str i) (.str j) st = some (!decide (i = j)) := by
  show some (!decide (V.str i = V.str j)) = _
  simp
@[simp] theorem cmp_lt_int (i j : Int) (st : Store) : cmpV .lt (.int i) (.int j) st = some (decide (i < j)) := rfl
@[simp] theorem cmp_le_int (i j : Int) (st : Store) : cmpV .le (.int i) (.int j) st = some (decide (i ≤ j)) := rfl
@[simp] theorem cmp_gt_int (i j : Int) (st : Store) : cmpV .gt (.int i) (.int j) st = some (decide (j < i)) := rfl
@[simp] theorem cmp_ge_int (i j : Int) (st : Store) : cmpV .ge (.int i) (.int j) st = some (decide (j ≤ i)) := rfl
@[simp] theorem seq_tup (xs : List PV) (st : Store) : seqOf (.tup xs) st = some xs := rfl
@[simp] theorem seq_fl (xs : List PV) (st : Store) : seqOf (.fl xs) st = some xs := rfl
@[simp] theorem seq_rol (xs : List PV) (st : Store) : seqOf (.rol xs) st = some xs := rfl
theorem seq_loc {n : Nat} {xs : List PV} {st : Store} (h : st[n]? = some (.lst xs)) : seqOf (.loc n) st = some xs := by
  unfold seqOf
  simp only [h]
theorem ix_loc {n : Nat} {xs : List PV} {st : Store} {k : Int} (h : st[n]? = some (.lst xs)) : ixV (.loc n) (.int k) st = atI xs k := by
  unfold ixV
  simp only [seq_loc h]
@[simp] theorem ix_tup_ (xs : List PV) (k : Int) (st : Store) : ixV (.tup xs) (.int k) st = atI xs k := rfl
@[simp] theorem ix_fl_ (xs : List PV) (k : Int) (st : Store) : ixV (.fl xs) (.int k) st = atI xs k := rfl
@[simp] theorem ix_rol_ (xs : List PV) (k : Int) (st : Store) : ixV (.rol xs) (.int k) st = atI xs k := rfl
theorem ix_str_ {z : Str} {k : Int} {st : Store} (h : z.length ≤ sizeLine) : ixV (.str z) (.int k) st = (atI z.cps.toList k).map fun c => .str ⟨#[c]⟩ := if_pos h
@[simp] theorem atI_0 {α : Type} (x : α) (xs : List α) : atI (x :: xs) 0 = some x := atI_nat (j := 0) rfl
@[simp] theorem atI_1 {α : Type} (x y : α) (xs : List α) : atI (x :: y :: xs) 1 = some y := atI_nat (j := 1) rfl
@[simp] theorem atI_2 {α : Type} (x y z : α) (xs : List α) : atI (x :: y :: z :: xs) 2 = some z := atI_nat (j := 2) rfl
@[simp] theorem atI_3 {α : Type} (x y z w : α) (xs : List α) : atI (x :: y :: z :: w :: xs) 3 = some w := atI_nat (j := 3) rfl
@[simp] theorem truth_bl_ (b : Bool) (st : Store) : truth (.bl b) st = some b := rfl
@[simp] theorem bi_int_int (i : Int) (st : Store) : biV .int [.int i] st = some (.int i) := rfl
@[simp] theorem bi_int_bl (k : Bool) (st : Store) : biV .int [.bl k] st = some (.int (if k then 1 else 0)) := rfl
@[simp] theorem bi_abs (i : Int) (st : Store) : biV .abs [.int i] st = some (.int (if i < 0 then -i else i)) := rfl
@[simp] theorem bi_max (i j : Int) (st : Store) : biV .max [.int i, .int j] st = some (.int (if j > i then j else i)) := rfl
@[simp] theorem bi_min (i j : Int) (st : Store) : biV .min [.int i, .int j] st = some (.int (if j < i then j else i)) := rfl
theorem bi_len_str {z : Str} {st : Store} (h : z.length ≤ sizeLine) : biV .len [.str z] st = some (.int z.length) := if_pos h
theorem bi_len_loc {n : Nat} {xs : List PV} {st : Store} (h : st[n]? = some (.lst xs)) : biV .len [.loc n] st = some (.int xs.length) := by
  show (seqOf (.loc n) st).map _ = _
  rw [seq_loc h]; rfl
@[simp] theorem bi_len_fl (xs : List PV) (st : Store) : biV .len [.fl xs] st = some (.int xs.length) := rfl
@[simp] theorem bi_len_tup (xs : List PV) (st : Store) : biV .len [.tup xs] st = some (.int xs.length) := rfl
@[simp] theorem bi_list_rol (xs : List PV) (st : Store) : biV .list [.rol xs] st = some (.fl xs) := rfl
@[simp] theorem bi_repr (b : Bool) (st : Store) : biV .repr [.bl b] st = some (.str (if b then Str.ofString "True" else Str.ofString "False")) := rfl
theorem bi_str {i : Int} {st : Store} (h : i.natAbs < 1000000) : biV .str [.int i] st = some (.str (toString i)) := if_pos h
@[simp] theorem low_int (n : Nat) (i : Int) : PV.low n (.int i) = true := rfl
@[simp] theorem low_bl (n : Nat) (i : Bool) : PV.low n (.bl i) = true := rfl
@[simp] theorem low_str (n : Nat) (i : Str) : PV.low n (.str i) = true := rfl
theorem leave_id (v : PV) (st : Store) : leave st.length v st = .ok v st := if_pos (Nat.le_refl _)
theorem leave_set (v : PV) (st : Store) (n : Nat) (c : Cell) : leave st.length v (st.set n c) = .ok v (st.set n c) := if_pos (by simp)
theorem leave_setAt (v : PV) (st : Store) (n : Nat) (c : List PV) : leave st.length v (setAt st n c) = .ok v (setAt st n c) := if_pos (by simp [setAt])
/-- a call that leaves the store as long as it was -/
theorem leave_same {n : Nat} {v : PV} {st : Store} (h : st.length ≤ n) : leave n v st = .ok v st := if_pos h

/-- the turns of a comprehension over items -/
theorem lcLoop_inv {test : En → Store → Res Bool} {elt : En → Store → Res PV} {put : PV → En → Option En} {env : En} {xs : List PV} (I : Nat → List PV → Store → Prop)
    (step : ∀ j x acc st, xs[j]? = some x → I j acc st → ∃ env' b st1, put x env = some env' ∧ test env' st = .ok b st1 ∧
      if b = true then ∃ y st2, elt env' st1 = .ok y st2 ∧ acc.length < sizeLine ∧ I (j + 1) (acc ++ [(esc y st2).1]) (esc y st2).2 else I (j + 1) acc st1) :
    ∀ m j acc st, j + m = xs.length → I j acc st → ∃ acc' st', lcLoop test elt put env (.items xs) j m acc st = .ok (.fl acc') st' ∧ I xs.length acc' st'
  | 0, j, acc, st, e, i => by
    have e : j = xs.length := by omega
    subst e
    exact ⟨acc, st, rfl, i⟩
  | m + 1, j, acc, st, e, i => by
    have hj : j < xs.length := by omega
    obtain ⟨env', b, st1, h1, h2, h3⟩ := step j xs[j] acc st (by simp [hj]) i
    have hg : (Src.items xs).get j st = some xs[j] := by simp [Src.get, hj]
    unfold lcLoop
    rw [hg]
    simp only [h1, h2, bind_ok_]
    cases b with
    | false =>
      simp only [Bool.false_eq_true, if_false] at h3 ⊢
      exact lcLoop_inv I step m (j + 1) acc st1 (by omega) h3
    | true =>
      simp only [if_true] at h3 ⊢
      obtain ⟨y, st2, h4, h5, h6⟩ := h3
      simp only [h4, bind_ok_, if_pos h5]
      exact lcLoop_inv I step m (j + 1) _ _ (by omega) h6
/-- .. that leave the store -/
theorem lcLoop_pure {test : En → Store → Res Bool} {elt : En → Store → Res PV} {put : PV → En → Option En} {env : En} {xs : List PV} {st : Store} (b : PV → Bool) (f : PV → PV) (hz : xs.length < sizeLine)
    (step : ∀ x, x ∈ xs → ∃ env', put x env = some env' ∧ test env' st = .ok (b x) st ∧ (b x = true → elt env' st = .ok (f x) st ∧ (f x).isFl = false)) :
    lcLoop test elt put env (.items xs) 0 xs.length [] st = .ok (.fl ((xs.filter b).map f)) st := by
  obtain ⟨acc, st', h1, h2, h3⟩ := lcLoop_inv (env := env) (put := put) (test := test) (elt := elt) (xs := xs) (fun j acc st' => st' = st ∧ acc = ((xs.take j).filter b).map f) (fun j x acc st1 hx ⟨e1, e2⟩ => by
    subst e1
    obtain ⟨env', q1, q2, q3⟩ := step x (List.mem_of_getElem? hx)
    have ht : xs.take (j + 1) = xs.take j ++ [x] := by rw [List.take_add_one, hx]; rfl
    refine ⟨env', b x, st1, q1, q2, ?_⟩
    cases hb : b x with
    | false =>
      simp only [Bool.false_eq_true, if_false]
      exact ⟨by trivial, by rw [ht, List.filter_append, e2]; simp [hb]⟩
    | true =>
      obtain ⟨q4, q5⟩ := q3 hb
      simp only [if_true]
      refine ⟨f x, st1, q4, ?_, ?_⟩
      · rw [e2, List.length_map]
        have := List.length_filter_le b (xs.take j)
        have := List.length_take_le j xs
        have : (xs.take j).length ≤ xs.length := by rw [List.length_take]; omega
        omega
      · have es : esc (f x) st1 = (f x, st1) := by cases hf : f x <;> first | rfl | (rw [hf] at q5; cases q5)
        rw [es]
        exact ⟨by trivial, by rw [ht, List.filter_append, e2]; simp [hb]⟩) xs.length 0 [] st (by omega) ⟨rfl, by simp⟩
  rw [h1, h2, h3, List.take_length]
/-- what a turn comes to -/
def SR.go (r : SR) (P : En → Store → Prop) : Prop := match r with
  | .nx e s => P e s
  | .ct e s => P e s
  | _ => False
@[simp] theorem go_nx (e : En) (s : Store) (P : En → Store → Prop) : (SR.nx e s).go P = P e s := rfl
@[simp] theorem go_ct (e : En) (s : Store) (P : En → Store → Prop) : (SR.ct e s).go P = P e s := rfl
def SR.goR (r : SR) (P : En → Store → Prop) (R : PV → Store → Prop) : Prop := match r with
  | .nx e s => P e s
  | .ct e s => P e s
  | .rt v s => R v s
  | _ => False
@[simp] theorem goR_nx (e : En) (s : Store) (P : En → Store → Prop) (R : PV → Store → Prop) : (SR.nx e s).goR P R = P e s := rfl
@[simp] theorem goR_ct (e : En) (s : Store) (P : En → Store → Prop) (R : PV → Store → Prop) : (SR.ct e s).goR P R = P e s := rfl
@[simp] theorem goR_rt (v : PV) (s : Store) (P : En → Store → Prop) (R : PV → Store → Prop) : (SR.rt v s).goR P R = R v s := rfl
/-- the turns of a for over items, none of which leaves -/
theorem forLoop_inv {put : PV → En → Option En} {body : En → Store → SR} {xs : List PV} (I : Nat → En → Store → Prop)
    (step : ∀ j x env st, xs[j]? = some x → I j env st → ∃ env', put x env = some env' ∧ (body env' st).go fun e s => I (j + 1) e s) :
    ∀ m j env st, j + m = xs.length → I j env st → ∃ e s, forLoop put body (.items xs) j m env st = .nx e s ∧ I xs.length e s
  | 0, j, env, st, e, i => by
    have e : j = xs.length := by omega
    subst e
    exact ⟨env, st, rfl, i⟩
  | m + 1, j, env, st, e, i => by
    have hj : j < xs.length := by omega
    obtain ⟨env', h1, h2⟩ := step j xs[j] env st (by simp [hj]) i
    have hg : (Src.items xs).get j st = some xs[j] := by simp [Src.get, hj]
    unfold forLoop
    rw [hg]
    simp only [h1]
    cases q : body env' st with
    | nx e' s' => rw [q] at h2; exact forLoop_inv I step m (j + 1) e' s' (by omega) h2
    | ct e' s' => rw [q] at h2; exact forLoop_inv I step m (j + 1) e' s' (by omega) h2
    | _ => rw [q] at h2; exact h2.elim
/-- .. some of which may hand back a value of R -/
theorem forLoop_ret {put : PV → En → Option En} {body : En → Store → SR} {xs : List PV} (I : Nat → En → Store → Prop) (R : PV → Store → Prop)
    (step : ∀ j x env st, xs[j]? = some x → I j env st → ∃ env', put x env = some env' ∧ (body env' st).goR (fun e s => I (j + 1) e s) R) :
    ∀ m j env st, j + m = xs.length → I j env st → (∃ e s, forLoop put body (.items xs) j m env st = .nx e s ∧ I xs.length e s) ∨ ∃ v s, forLoop put body (.items xs) j m env st = .rt v s ∧ R v s
  | 0, j, env, st, e, i => by
    have e : j = xs.length := by omega
    subst e
    exact .inl ⟨env, st, rfl, i⟩
  | m + 1, j, env, st, e, i => by
    have hj : j < xs.length := by omega
    obtain ⟨env', h1, h2⟩ := step j xs[j] env st (by simp [hj]) i
    have hg : (Src.items xs).get j st = some xs[j] := by simp [Src.get, hj]
    unfold forLoop
    rw [hg]
    simp only [h1]
    cases q : body env' st with
    | nx e' s' => rw [q] at h2; exact forLoop_ret I R step m (j + 1) e' s' (by omega) h2
    | ct e' s' => rw [q] at h2; exact forLoop_ret I R step m (j + 1) e' s' (by omega) h2
    | rt v s => rw [q] at h2; exact .inr ⟨v, s, rfl, h2⟩
    | _ => rw [q] at h2; exact h2.elim
theorem atI_nn {α : Type} {xs : List α} {i : Int} {x : α} (h0 : 0 ≤ i) (h : xs[i.toNat]? = some x) : atI xs i = some x := by
  have := atI_nat h
  rwa [Int.toNat_of_nonneg h0] at this
end U
namespace U
open PySem L2
theorem cmp_inn_of {a b : PV} {st : Store} {k : Bool} (h : U.inV a b st = some k) : cmpV .inn a b st = some k := by
  show U.inA a b st = some k
  unfold U.inA
  rw [h]
theorem cmp_nin_of {a b : PV} {st : Store} {k : Bool} (h : U.inV a b st = some k) : cmpV .nin a b st = some (!k) := by
  show (U.inA a b st).map (!·) = some (!k)
  unfold U.inA
  rw [h]; rfl
end U

set_option maxHeartbeats 4000000
/-! W3: a def's call where the context is given (its guards can be known), from its body. -/
namespace U
open PySem PySem.W PyProof.Rows L2
theorem codeG {P : Program} {w : World} {K : PySem.W.Frag} {mg : Str → Option Value} {base : Heap} {x qual : Str} {st : Stmt} {f : Addr} {fd : FuncData} {N ps : List Str} {k : Nat} {A : Around} {outer : List Env} {s : Shared} {H : Hp} {args : Args} {us : List Value} {vs : List V} {Q : VK} {E : XK}
    (F : Fun K x qual st f fd) (S : FnScope N ps (defScope st)) (hr : Rm (k + 1) A) (E0 : Env0 P w K mg base A outer s H) (nl : s.heap.NoLimit) (hb : BindsTo s fd args (ps.zip us)) (hv : Vals vs us) (hl : vs.length = ps.length)
    (body : ∀ cdv, Rm k (A.deeper (envOfC qual (defScope st) s.heap.objs.size f cdv)) → ∃ t, PSs (cxOf CX0 P w K mg base N qual (defScope st) f cdv A outer s H E).nox (defBody st) t ∧ t { nx := fun x H' => Q V.non H', rt := Q, bk := fun _ _ => False, ct := fun _ _ => False } (L2.start N vs) H) :
    codeAny (model P w) A (Code.call (Value.ref f) args) (CR CX0 outer P w H s Q E) s := by
  obtain ⟨⟨oc, od, kV, doc, pm, an, cdv, ct, osl, hfd, hlk, hc⟩, kp⟩ := F
  subst hfd
  have kin : K.In s.heap := fun a o h => (E0.bs a o (E0.mod.kin a o h)).1
  have rm : Rm k (A.deeper (envOfC qual (defScope st) s.heap.objs.size f cdv)) := by
    exact hr.down _
  obtain ⟨t, b1, b2⟩ := body cdv rm
  refine Att.call_fn kin nl hlk hc (by have := hr.dp; omega) hb ?_ (fun s1 hin => ?_) S.co S.gen S.kind
  · rw [List.all_eq_true]
    intro y hy
    have hm : y.1 ∈ ps := (List.of_mem_zip hy).1
    rcases S.par y.1 hm with h | h <;> simp [h]
  · have I := inv_start (CX := CX0) (E := E) (cd := cdv) (qual := qual) (f := f) (us := us) S hr.hd E0 hl hv hin
    have I2 : L2.Inv (cxOf CX0 P w K mg base N qual (defScope st) f cdv A outer s H E).nox [] (L2.start N vs) H s1 :=
      ⟨⟨I.ok.mod, I.ok.kind, I.ok.glob, I.ok.blt, I.ok.above, I.ok.inj, I.ok.has, I.ok.cab, I.ok.hd, I.ok.frames, I.ok.stk, I.ok.exf, I.ok.bs, I.ok.bsz, I.ok.noex, I.ok.exfs, I.ok.funs, I.ok.frf⟩, I.os, I.bare, I.base, I.loc, I.cell, I.free, I.freeC, I.pin, I.hok, I.len⟩
    refine PySem.wpAny_mono (b1.run [] s1 (L2.start N vs) H _ I2 b2) (fun fl s' h => ?_) (fun _ _ h => h.elim)
    cases fl with
    | next =>
      obtain ⟨σ', H', I', q⟩ := h
      exact ⟨.non, H', I'.os, I'.bare, I'.base, I'.hok, rfl, q⟩
    | brk => obtain ⟨_, _, _, q⟩ := h; exact q.elim
    | cont => obtain ⟨_, _, _, q⟩ := h; exact q.elim
    | ret u =>
      obtain ⟨v, σ', H', I', rv, q⟩ := h
      exact ⟨v, H', I'.os, I'.bare, I'.base, I'.hok, rv, q⟩
end U

set_option maxHeartbeats 4000000
/-! W4: the law's call at the top, from codeG's kind of fact. -/
namespace U
open PySem PySem.W PyProof.Rows L2
/-- a heap with one object gone -/
def gone (h : Heap) (a : Addr) : Heap := { h with objs := h.objs.modify a fun o => { o with data := .freed } }
theorem gone_at {h : Heap} {a : Addr} : (gone h a).get? a = none := by
  unfold gone Heap.get?
  simp only [Array.getElem?_modify, if_true]
  cases h.objs[a]? <;> rfl
theorem gone_ne {h : Heap} {a b : Addr} (e : b ≠ a) : (gone h a).get? b = h.get? b := by
  unfold gone Heap.get?
  simp only [Array.getElem?_modify, if_neg (Ne.symm e)]
theorem gone_size {h : Heap} {a : Addr} : (gone h a).objs.size = h.objs.size := by
  unfold gone
  simp
theorem gone_keep {h : Heap} {a b : Addr} {o : Obj} (e : (gone h a).get? b = some o) : b ≠ a ∧ h.get? b = some o := by
  by_cases z : b = a
  · subst z; rw [gone_at] at e; cases e
  · rw [gone_ne z] at e; exact ⟨z, e⟩
theorem gone_ns {h : Heap} {a b : Addr} {m : Str → Option Value} {o : Obj} (hn : h.Ns b m) (ha : h.get? a = some o) (hd : ∀ es ep, o.data ≠ Data.dict es ep) : (gone h a).Ns b m := by
  obtain ⟨o', es, ep, p1, p2, p3, p4⟩ := hn
  have z : b ≠ a := fun e => by
    subst e
    rw [ha] at p1
    have := Option.some.inj p1
    subst this
    exact hd _ _ p2
  exact ⟨o', es, ep, by rw [gone_ne z]; exact p1, p2, p3, p4⟩
theorem vals_len : ∀ {xs : List V} {us : List Value}, Vals xs us → xs.length = us.length
  | [], us, h => by cases h; rfl
  | x :: xs, us, h => by
    cases h with
    | cons h1 h2 => simp [vals_len h2]
theorem law_callG {P : Program} {w : World} {K : PySem.W.Frag} {mg mb : Str → Option Value} {fa a : Addr} {s₁ : Shared} {vs : List Value} {ns : List Int}
    (kin : K.In s₁.heap) (hg : s₁.heap.Ns mainGlobals mg) (hb : s₁.heap.Ns builtinsNs mb) (hbo : ∀ x : Str, x ≠ Str.ofString "__name__" → mb x = bootBuiltins x) (nl : s₁.heap.NoLimit) (gens : s₁.gens = #[])
    (ha : s₁.heap.get? a = some { cls := Value.type "list", data := Data.seq vs.toArray }) (hi : IntsAre vs ns) (hz : ns.length ≤ sizeLine)
    (run : ∀ (base : Heap) (H : Hp), Env0 P w K mg base callerA [] s₁ H → Only H → SqL K H a (ns.map V.int) → codeAny (model P w) callerA (Code.call (Value.ref fa) { pos := [Value.ref a] }) (CR CX0 [] P w H s₁ (fun v _ => v = V.bl true) (fun _ _ _ => False)) s₁) :
    codeAny (model P w) callerA (Code.call (Value.ref fa) { pos := [Value.ref a] }) (fun r s' => r = Except.ok (Flow.ret (Value.bool true)) ∧ OldK s₁.heap s'.heap ∧ s'.os = s₁.os ∧ AllBare s'.gens) s₁ := by
  have hv := vals_of_ints hi
  have bare : AllBare s₁.gens := fun y hy => by rw [gens] at hy; simp at hy
  have nd : ∀ es ep, ({ cls := Value.type "list", data := Data.seq vs.toArray } : Obj).data ≠ Data.dict es ep := fun es ep e => by cases e
  -- what follows from the call
  have fin : ∀ (base : Heap) (H : Hp), Env0 P w K mg base callerA [] s₁ H → (∀ b, H b = none ∨ ∃ o u, H b = some (HO.frz o u)) → ∀ r s', CR CX0 [] P w H s₁ (fun v _ => v = V.bl true) (fun _ _ _ => False) r s' → r = Except.ok (Flow.ret (Value.bool true)) ∧ OldK s₁.heap s'.heap ∧ s'.os = s₁.os ∧ AllBare s'.gens := by
    intro base H E0 hH r s' h
    cases r with
    | error e => exact h.elim
    | ok fl =>
      cases fl with
      | ret u =>
        obtain ⟨v, H', h1, h2, h3, h4, h5, h6⟩ := h
        subst h6
        have h5 : u = Value.bool true := h5
        have old : ∀ b o, s₁.heap.get? b = some o → s'.heap.get? b = some o := fun b o hb => by
          rcases hH b with z | ⟨o', u', z⟩
          · exact h3.keep b o hb z (by simp [frs]) (by simp)
          · have z' := h3.frzs b o' u' z
            have q1 := E0.hok b _ z
            have q2 := h4 b _ z'
            rw [ObjOk.eq_def] at q1 q2
            simp only at q1 q2
            rw [q1.1] at hb
            rw [q2.1]; exact hb
        exact ⟨by rw [h5], ⟨fun b o hb => .inl (old b o hb), fun b o hb => ⟨o, old b o hb⟩⟩, h1, h2⟩
      | _ => exact h.elim
  by_cases hk : K.lookup a = none
  · -- the list stands outside: it is frozen
    let H : Hp := fun b => if b = a then some (HO.frz { cls := Value.type "list", data := Data.seq vs.toArray } (HO.lst (ns.map V.int))) else none
    have Ha : H a = some (HO.frz { cls := Value.type "list", data := Data.seq vs.toArray } (HO.lst (ns.map V.int))) := if_pos rfl
    have E0 : Env0 P w K mg (gone s₁.heap a) callerA [] s₁ H := by
      refine ⟨rfl, ⟨fun b o hb => ?_, gone_ns hg ha nd, ⟨mb, gone_ns hb ha nd, hbo⟩, ?_⟩, fun b o hb => ?_, by rw [gone_size]; exact Nat.le_refl _, ?_, fun b hb => by simp [frs] at hb, fun b o hb => ?_, bare⟩
      · have z : b ≠ a := fun e => by subst e; rw [hk] at hb; cases hb
        rw [gone_ne z]; exact kin b o hb
      · obtain ⟨mc, n1, n2⟩ := nl
        exact ⟨mc, gone_ns n1 ha nd, n2⟩
      · obtain ⟨z, q⟩ := gone_keep hb
        exact ⟨q, if_neg z⟩
      · trivial
      · by_cases e : b = a
        · subst e
          rw [Ha] at hb
          have := Option.some.inj hb
          subst this
          rw [ObjOk.eq_def]
          refine ⟨ha, ?_⟩
          rw [ObjOk.eq_def]
          exact ⟨by rw [List.length_map]; exact hz, vs, 0, hv, ha⟩
        · rw [show H b = none from if_neg e] at hb; cases hb
    have only : Only H := fun b => by
      by_cases e : b = a
      · subst e; exact .inr ⟨_, _, Ha⟩
      · exact .inl (if_neg e)
    refine codeAny_mono (run _ H E0 only (.inl (.inr ⟨_, Ha⟩))) (fin _ H E0 fun b => ?_)
    rcases only b with z | ⟨o, x, z⟩
    · exact .inl z
    · exact .inr ⟨o, _, z⟩
  · -- the list is one of the module's
    obtain ⟨o, ho⟩ := Option.ne_none_iff_exists'.mp hk
    have eo := kin a o ho
    rw [ha] at eo
    have eo := Option.some.inj eo
    have E0 : Env0 P w K mg s₁.heap callerA [] s₁ (fun _ => none) :=
      ⟨rfl, ⟨kin, hg, ⟨mb, hb, hbo⟩, nl⟩, fun b o hb => ⟨hb, rfl⟩, Nat.le_refl _, trivial, (fun b hb => rfl), (fun b o hb => by cases hb), bare⟩
    refine codeAny_mono (run _ _ E0 (fun b => .inl rfl) (.inr ⟨o, vs.toArray, 0, ho, by rw [← eo], by rw [← eo], by rw [← eo], ?_, by simpa using hv⟩)) (fin _ _ E0 fun b => .inl rfl)
    have := vals_len hv
    simp at this ⊢
    omega
end U

set_option maxHeartbeats 4000000
/-! W5: a law's statement from its def's call at the top, where the guards are known. -/
namespace U
open PySem PySem.W PyProof.Rows L2
theorem walk_ofG {l : OpenLaw} {n : Nat} {q : Program} {loose : List Str} {XP : (Str → Option Value) → Heap → Prop} {YP : World → Heap → Prop} {d : DefRec} {K : Params → PySem.W.Frag}
    (hm : l.most = some n) (hn : n ≤ sizeLine) (hd : d.params.defaults = []) (kin : ∀ (w : World) (h : Heap), YP w h → (K w.params).In h)
    (run : ∀ (w : World) (mg : Str → Option Value) (fa : Addr) (base : Heap) (H : Hp) (s : Shared) (a : Addr) (ns : List Int), (K w.params).In s.heap → s.heap.Ns mainGlobals mg → s.heap.NoLimit → mg d.name = some (Value.ref fa) → ns.length ≤ n → Env0 l.prog w (K w.params) mg base callerA [] s H → Only H → SqL (K w.params) H a (ns.map V.int) →
      codeAny (model l.prog w) callerA (Code.call (Value.ref fa) { pos := [Value.ref a] }) (CR CX0 [] l.prog w H s (fun v _ => v = V.bl true) (fun _ _ _ => False)) s) :
    WalkO q loose XP YP l.row.toRowW d [] fun f vs => PySem.call f vs := by
  refine Att.attach_call hm hd fun w s₀ s₁ mg mb fa o pm cd doc a vs ns G Y h1 h2 h3 h4 h5 h6 h7 h8 => ?_
  have T := G.T
  refine law_callG (kin w _ Y) T.g T.b T.builtins T.nolimit h8 h5 h6 (by omega) fun base H E0 ho hs => ?_
  exact run w mg fa base H s₁ a ns (kin w _ Y) T.g T.nolimit h4 h7 E0 ho hs
end U

set_option maxHeartbeats 4000000
/-! U17: the law's own def, called at the top, where the guards are known. -/
namespace U
open PySem PySem.W PyProof.Rows L2
section
variable {W : Wd} {k : Nat} {turns : Nat} {D : Nat → Option Def}
/-- the law's def: its text may ask for known guards -/
structure EntG (W : Wd) (D : Nat → Option Def) (fn : List (Str × Nat)) (cs : List (Str × PV)) (bl : List Str) (ds : List (Str × List (Str × PV))) (xs : Xs) (e : Ent) : Prop where
  mg : W.mg e.x = some (.ref e.a)
  fun_ : Fun W.K e.x e.x e.st e.a e.fd
  sc : FnScope e.N e.ps (defScope e.st)
  d : D e.f = some e.d
  np : e.ps.length = e.d.np
  nl : e.N.length = e.d.nl
  to : e.d.to = none
  text : mSs ⟨e.N, defScope e.st, fn, cs, bl, ds, true, xs⟩ e.d.body (defBody e.st) = true
theorem takes_none {X : Cx} : Takes X (fun _ _ _ _ => False) := fun _ _ ⟨_, _, _, _, _, _, _, _, _, _, _, _, _, _, _, _, w⟩ => w.elim
theorem law_body {es : List Ent} {cs : List (Str × PV)} {bl : List Str} {ds : List (Str × List (Str × PV))} {xs : Xs} (P : ProgOk W D es cs bl ds xs turns) (ih : AllOk W D es turns k) (ih' : ∀ j, k = j + 1 → AllOk W D es turns j)
    (e : Ent) (E0 : EntG W D (pairs es) cs bl ds xs e) {cdv : Value} {A : Around} {outer : List Env} {s : Shared} {H : Hp} {vs : List V} {Q : VK} {E : XK} (hgu : A.guards = some []) (hr : Rm k (A.deeper (envOfC e.x (defScope e.st) s.heap.objs.size e.a cdv))) (h : spEv W.K (evCall turns D (k + 1) e.f) vs H Q E) :
    ∃ t, PSs (cxOf CX0 W.P W.w W.K W.mg W.base e.N e.x (defScope e.st) e.a cdv A outer s H E).nox (defBody e.st) t ∧ t { nx := fun x H' => Q V.non H', rt := Q, bk := fun _ _ => False, ct := fun _ _ => False } (L2.start e.N vs) H := by
  let wx : XW := ⟨W.mg, fun _ _ _ _ => False⟩
  obtain ⟨μ, st0, as, v, st', o, r, q, g⟩ := h
  have q : outX W.K W.mg μ st0 H Q (fun _ _ _ => False) (evCall turns D (k + 1) e.f as st0) := by rw [q]; exact g
  obtain ⟨⟨l1, l2⟩, _⟩ := body_post (S := fun _ => False) (wx := wx) E0.d E0.to (fun _ z => z) rfl rfl q
  obtain ⟨s1, own⟩ := start_ok (N := e.N) r l2 E0.nl
  obtain ⟨_, p⟩ := body_post (S := Own (as.map some ++ List.replicate (e.d.nl - as.length) none) (L2.start e.N vs)) (wx := wx) E0.d E0.to own rfl rfl q
  have G : Gs W ⟨e.N, defScope e.st, pairs es, cs, bl, ds, true, xs⟩ k (cxOf CX0 W.P W.w W.K W.mg W.base e.N e.x (defScope e.st) e.a cdv A outer s H E).nox wx :=
    ⟨⟨rfl, rfl, rfl, rfl, rfl, rfl, rfl, E0.sc.nd, rfl, hr.old.mono (by omega), .inr hr, fun _ => hgu⟩, E0.sc.kind, fun _ => rfl, PassesOwn.never, takes_none, rfl, hr.old⟩
  refine ⟨_, sSs (turns := turns) e.d.body G (P.fx ih ih') E0.text, μ, _, st0, o, s1, ?_⟩
  rw [← l1] at p
  exact p

theorem law_top {es : List Ent} {cs : List (Str × PV)} {bl : List Str} {ds : List (Str × List (Str × PV))} {xs : Xs} (P : ProgOk W D es cs bl ds xs turns) (e : Ent) (E0 : EntG W D (pairs es) cs bl ds xs e) {x : Str} (hx : e.ps = [x]) (hb : ∀ (s : Shared) (u : Value), BindsTo s e.fd { pos := [u] } [(x, u)])
    (hr : Rm (k + 1) callerA) {s : Shared} {H : Hp} {a : Addr} {ns : List Int} (nl : s.heap.NoLimit) (Ev : Env0 W.P W.w W.K W.mg W.base callerA [] s H) (hm : ∃ st', evCall turns D (k + 1) e.f [.rol (ns.map .int)] [] = .ok (.bl true) st') (ho : Only H) (hs : SqL W.K H a (ns.map V.int)) :
    codeAny (model W.P W.w) callerA (Code.call (Value.ref e.a) { pos := [Value.ref a] }) (CR CX0 [] W.P W.w H s (fun v _ => v = V.bl true) (fun _ _ _ => False)) s := by
  refine codeG (us := [Value.ref a]) (vs := [V.ref a]) E0.fun_ E0.sc hr Ev nl ?_ (.cons rfl .nil) (by rw [hx]; rfl) fun cdv rm => law_body P (prog_ok P k) (fun j _ => prog_ok P j) e E0 rfl rm (law_sp hm ho hs)
  rw [hx]
  exact hb s (Value.ref a)

end
end U

set_option maxHeartbeats 4000000
/-! U18: try with several clauses, each with a name; a def that catches. -/
namespace U
open PySem PySem.W PyProof.Rows L2
/-- one clause: its class, its name's slot, its suite's reading -/
structure Clause where
  c : Value
  i : Nat
  ts : Addr → Value → Option Addr → TS
  /-- it gives the error no name -/
  bare : Bool := false
/-- what stands behind a suite: its name is gone -/
def Clause.ends (q : Clause) (D : Ends) : Ends := { nx := fun τ G => D.nx (τ.set q.i none) G, rt := D.rt, bk := fun τ G => D.bk (τ.set q.i none) G, ct := fun τ G => D.ct (τ.set q.i none) G }
/-- the wish of a try's body: the first clause that fits takes it, else it goes on -/
def wClauses (K : PySem.W.Frag) (W0 : WX) (D : Ends) : List Clause → WX
  | [] => W0
  | q :: qs => fun cls d τ G => ∃ b : Bool, exmOne K cls q.c = some b ∧
      match b with
      | true => ∀ a : Addr, G a = none → if q.bare = true then q.ts a cls d D τ G else q.ts a cls d (q.ends D) (τ.set q.i (some (V.ref a))) G
      | false => wClauses K W0 D qs cls d τ G
inductive Clauses (X : Cx) : List ExceptHandler → List Clause → Prop
  | nil : Clauses X [] []
  | bare {x : Str} {q : Clause} {b0 : Stmt} {bs : List Stmt} {p p' : Pos} {hs : List ExceptHandler} {qs : List Clause} (names : Names X x q.c) (nb : q.bare = true)
      (suite : ∀ (a : Addr) (oe : Obj) (cls : Value) (d : Option Addr) (l : List (Addr × Obj)), Zc cls d oe → (∃ vs, oe.data = .fields vs) → PSs (X.suite a ((a, oe) :: l)) (b0 :: bs) (q.ts a cls d))
      (more : Clauses X hs qs) : Clauses X (.ExceptHandler (some (.Name x p)) none (b0 :: bs) p' :: hs) (q :: qs)
  | cons {x n : Str} {q : Clause} {b0 : Stmt} {bs : List Stmt} {p p' : Pos} {hs : List ExceptHandler} {qs : List Clause} (names : Names X x q.c) (nb : q.bare = false := by rfl) (slot : X.N[q.i]? = some n) (loc : X.env.kindOf n = some .local)
      (suite : ∀ (a : Addr) (oe : Obj) (cls : Value) (d : Option Addr) (l : List (Addr × Obj)), Zc cls d oe → (∃ vs, oe.data = .fields vs) → PSs (X.suite a ((a, oe) :: l)) (b0 :: bs) (q.ts a cls d))
      (more : Clauses X hs qs) : Clauses X (.ExceptHandler (some (.Name x p)) (some n) (b0 :: bs) p' :: hs) (q :: qs)
section
variable {X : Cx} {pins : List (Addr × Obj)} {τ : L2.St} {G : Hp} {B : Heap} {sI s : Shared} {a : Addr} {cls : Value} {d : Option Addr}
/-- an error is caught: it lies on the ground B -/
structure Caught (X : Cx) (pins : List (Addr × Obj)) (τ : L2.St) (G : Hp) (B : Heap) (sI s : Shared) (a : Addr) (cls : Value) (d : Option Addr) : Prop where
  inv : Inv X pins τ G sI
  ground : ∀ b o, sI.heap.get? b = some o → b ∉ frs X.stack → B.get? b = some o
  slots : sI.heap.UpToSlots s.heap
  fly : HandSPX.FlyingZ B (X.env :: X.outer) a (Zc cls d) s.heap
  new : G a = none
  os : s.os = sI.os
  gens : AllBare s.gens
theorem Caught.here (c : Caught X pins τ G B sI s a cls d) : Inv X pins τ G s := c.inv.landed c.ground c.fly.1 c.slots c.os c.gens
theorem Caught.far (c : Caught X pins τ G B sI s a cls d) : a ∉ frs (X.env :: X.outer) := fun hm => by
  obtain ⟨oe, vs, h1, _, h2⟩ := c.fly.there
  obtain ⟨_, o', h3, h4⟩ := c.fly.2.2.1.mem hm
  rw [h1] at h3
  cases h3
  exact h4 vs h2
theorem Caught.suite (c : Caught X pins τ G B sI s a cls d) (hf : X.env.frame = some X.env.locals) :
    ∃ oe vs, s.heap.get? a = some oe ∧ Zc cls d oe ∧ oe.data = .fields vs ∧ Inv (X.suite a ((a, oe) :: (X.pn ++ pins))) [] τ G s := by
  obtain ⟨oe, vs, h1, h2, h3⟩ := c.fly.there
  have off := c.far
  refine ⟨oe, vs, h1, h2, h3, c.here.suite h1 h3 c.new (fun z => off ?_) fun z => off ?_⟩
  · rw [z]
    exact List.mem_filterMap.mpr ⟨X.env, .head _, hf⟩
  · obtain ⟨e, e1, e2⟩ := List.mem_filterMap.mp z
    exact List.mem_filterMap.mpr ⟨e, .tail _ e1, e2⟩
/-- its flight is told again -/
theorem Caught.step {h : Heap} (c : Caught X pins τ G B sI s a cls d) (f : HandSPX.FlyingZ B (X.env :: X.outer) a (Zc cls d) h) (u : s.heap.UpToSlots h) : Caught X pins τ G B sI { s with heap := h } a cls d :=
  ⟨c.inv, c.ground, c.slots.trans u, f, c.new, c.os, c.gens⟩
variable {q : Clause} {n x : Str} {b0 : Stmt} {bs : List Stmt} {p p' : Pos} {D : Ends}
/-- a clause's suite, run -/
theorem Caught.run (c : Caught X pins τ G B sI s a cls d) (hf : X.env.frame = some X.env.locals) (nd : X.N.Nodup) (slot : X.N[q.i]? = some n) (loc : X.env.kindOf n = some .local)
    (suite : ∀ (a : Addr) (oe : Obj) (cls : Value) (d : Option Addr) (l : List (Addr × Obj)), Zc cls d oe → (∃ vs, oe.data = .fields vs) → PSs (X.suite a ((a, oe) :: l)) (b0 :: bs) (q.ts a cls d))
    (w : q.ts a cls d (q.ends D) (τ.set q.i (some (V.ref a))) G) :
    codeAny (model X.prog X.w) (X.A.mark (some (.ref a))) (.handlers (.ref a) [.ExceptHandler none (some n) (b0 :: bs) p'] X.env) (fun r s2 => match r with
      | .ok f => wpAny (model X.prog X.w) X.A (do bindName X.env n .none; unbindBehindTheSuite X.env n p') (fun _ s3 => SP X pins D f s3) X.xe s2
      | .error y => cameBackBy (model X.prog X.w) X.A X.env X.xe y s2) s := by
  refine codeAny_handlers_suite_as (HandSPX.lands_againZ c.fly fun h1 f1 u1 => ?_)
  have c1 := c.step f1 u1
  obtain ⟨oe, vs, e1, e2, e3, I1⟩ := c1.suite hf
  have gone : ∀ {τ2 : L2.St} {G2 : Hp} {s2 : Shared} {Q : Shared → Prop}, Inv (X.suite a ((a, oe) :: (X.pn ++ pins))) [] τ2 G2 s2 → (∀ s3, Inv X pins (τ2.set q.i none) G2 s3 → Q s3) →
      wpAny (model X.prog X.w) X.A (do bindName X.env n .none; unbindBehindTheSuite X.env n p') (fun _ s3 => Q s3) X.xe s2 := fun I2 k => gone_ok (I2.unsuite c.inv.ok) nd slot loc k
  refine store_ok (X := X.suite a ((a, oe) :: (X.pn ++ pins))) (v := V.ref a) I1 nd slot (.inl loc) rfl (fun s2 I2 => ?_) (.inr loc)
  refine wpAny_mono ((suite a oe cls d (X.pn ++ pins) e2 ⟨vs, e3⟩).run [] s2 _ G (q.ends D) I2 w) (fun f s3 sp => ?_) fun _ _ z => z.elim
  cases f with
  | ret u =>
    obtain ⟨v3, τ3, G3, I3, r3, w3⟩ := sp
    exact gone I3 fun s4 I4 => ⟨v3, _, G3, I4, r3, w3⟩
  | next =>
    obtain ⟨τ3, G3, I3, w3⟩ := sp
    exact gone I3 fun s4 I4 => ⟨_, G3, I4, w3⟩
  | brk =>
    obtain ⟨τ3, G3, I3, w3⟩ := sp
    exact gone I3 fun s4 I4 => ⟨_, G3, I4, w3⟩
  | cont =>
    obtain ⟨τ3, G3, I3, w3⟩ := sp
    exact gone I3 fun s4 I4 => ⟨_, G3, I4, w3⟩
/-- .. of a clause that gives no name -/
theorem Caught.bareRun (c : Caught X pins τ G B sI s a cls d) (hf : X.env.frame = some X.env.locals)
    (suite : ∀ (a : Addr) (oe : Obj) (cls : Value) (d : Option Addr) (l : List (Addr × Obj)), Zc cls d oe → (∃ vs, oe.data = .fields vs) → PSs (X.suite a ((a, oe) :: l)) (b0 :: bs) (q.ts a cls d))
    (w : q.ts a cls d D τ G) :
    codeAny (model X.prog X.w) (X.A.mark (some (.ref a))) (.handlers (.ref a) [.ExceptHandler none none (b0 :: bs) p'] X.env) (fun r s2 => match r with
      | .ok f => SP X pins D f s2
      | .error y => cameBackBy (model X.prog X.w) X.A X.env X.xe y s2) s := by
  refine codeAny_handlers_suite (HandSPX.lands_againZ c.fly fun h1 f1 u1 => ?_)
  have c1 := c.step f1 u1
  obtain ⟨oe, vs, e1, e2, e3, I1⟩ := c1.suite hf
  refine wpAny_mono ((suite a oe cls d (X.pn ++ pins) e2 ⟨vs, e3⟩).run [] _ τ G D I1 w) (fun f s3 sp => ?_) fun _ _ z => z.elim
  cases f with
  | ret u =>
    obtain ⟨v3, τ3, G3, I3, r3, w3⟩ := sp
    exact ⟨v3, _, G3, I3.unsuite c.inv.ok, r3, w3⟩
  | next =>
    obtain ⟨τ3, G3, I3, w3⟩ := sp
    exact ⟨_, G3, I3.unsuite c.inv.ok, w3⟩
  | brk =>
    obtain ⟨τ3, G3, I3, w3⟩ := sp
    exact ⟨_, G3, I3.unsuite c.inv.ok, w3⟩
  | cont =>
    obtain ⟨τ3, G3, I3, w3⟩ := sp
    exact ⟨_, G3, I3.unsuite c.inv.ok, w3⟩
/-- no clause is left: it flies on -/
theorem Caught.on {W0 : WX} (c : Caught X pins τ G B sI s a cls d) (hs : X.stack = X.env :: X.outer) (hf : X.env.frame = some X.env.locals) (tk : Takes X W0) (w : W0 cls d τ G) :
    wpAny (model X.prog X.w) X.A (handleBy (.ref a) X.env []) (SP X pins D) X.xe s := by
  obtain ⟨oe, vs, T, oT, ts, k1, _, k2, k3, _⟩ := c.fly.2.2.2
  have far : ¬ ((Value.ref T == Value.none) = true) := by simp
  have go : wpAny (model X.prog X.w) X.A (setFlight (.ref a) X.env.frame) (fun _ s1 => wpAny (model X.prog X.w) X.A (throw (.ref a) : Sem Flow) (SP X pins D) X.xe s1) X.xe s := by
    rw [hf]
    refine HandSPX.setFlight_upZ c.fly fun h1 f1 u1 => wpAny_throw (tk _ _ ⟨a, B, sI, pins, τ, G, cls, d, rfl, c.inv, c.ground, c.slots.trans u1, ?_, c.new, c.os, c.gens, w⟩)
    rw [hs]
    exact .inr (.inr f1)
  refine wpAny_handleBy_nil ?_
  unfold PySem.passOn
  refine wpAny_bind (wpAny_field k1 k2 k3 ?_)
  rw [if_neg far]
  first
    | exact wpAny_bind go
    | exact wpAny_bind (wpAny_pure (wpAny_bind go))
/-- the clauses, one after the other -/
theorem Caught.clauses {W0 : WX} (c : Caught X pins τ G B sI s a cls d) (hs : X.stack = X.env :: X.outer) (hf : X.env.frame = some X.env.locals) (nd : X.N.Nodup) (tk : Takes X W0) : ∀ {hds : List ExceptHandler} {qs : List Clause}, Clauses X hds qs → wClauses X.K W0 D qs cls d τ G →
    wpAny (model X.prog X.w) X.A (handleBy (.ref a) X.env hds) (SP X pins D) X.xe s
  | _, _, .nil, w => c.on hs hf tk w
  | _, _, .bare (x := x) (q := q) (b0 := b0) (bs := bs) (p := p) (p' := p') names nb suite more, w => by
    obtain ⟨b, e, w⟩ := w
    obtain ⟨oe, vs, e1, e2, e3, I1⟩ := c.suite hf
    have ty : Looks (model X.prog X.w) s.heap (typeOf (.ref a)) cls := fun _ _ _ _ k z => wpAny_typeOf_ref (k _ _ e1) (by rw [e2.1]; exact z)
    have fits := exm_one (M := model X.prog X.w) c.here.kIn ty e
    have look : ∀ {Q : Value → Shared → Prop} {E : Value → Shared → Prop}, Q q.c s → wpAny (model X.prog X.w) (X.A.mark (some (.ref a))) (eval (.Name x p) X.env) Q E s := fun z => by
      obtain ⟨g1, g2, g3⟩ := names
      rcases g3 with g3 | ⟨g3, g4, g5⟩
      · exact ld_glob (X := X.suite a ((a, oe) :: (X.pn ++ pins))) I1 g1 g3 z g2
      · exact ld_blt (X := X.suite a ((a, oe) :: (X.pn ++ pins))) I1 g1 g3 g4 z g5 g2
    refine wpAny_handleBy_cons (codeAny_handlers_test (look (fits.here ?_))) (fun z => by cases z)
    cases b with
    | true =>
      have w := w a c.new
      rw [if_pos nb] at w
      exact c.bareRun hf suite w
    | false => exact c.clauses hs hf nd tk more w
  | _, _, .cons (x := x) (n := n) (q := q) (b0 := b0) (bs := bs) (p := p) (p' := p') names nb slot loc suite more, w => by
    obtain ⟨b, e, w⟩ := w
    obtain ⟨oe, vs, e1, e2, e3, I1⟩ := c.suite hf
    have ty : Looks (model X.prog X.w) s.heap (typeOf (.ref a)) cls := fun _ _ _ _ k z => wpAny_typeOf_ref (k _ _ e1) (by rw [e2.1]; exact z)
    have fits := exm_one (M := model X.prog X.w) c.here.kIn ty e
    have look : ∀ {Q : Value → Shared → Prop} {E : Value → Shared → Prop}, Q q.c s → wpAny (model X.prog X.w) (X.A.mark (some (.ref a))) (eval (.Name x p) X.env) Q E s := fun z => by
      obtain ⟨g1, g2, g3⟩ := names
      rcases g3 with g3 | ⟨g3, g4, g5⟩
      · exact ld_glob (X := X.suite a ((a, oe) :: (X.pn ++ pins))) I1 g1 g3 z g2
      · exact ld_blt (X := X.suite a ((a, oe) :: (X.pn ++ pins))) I1 g1 g3 g4 z g5 g2
    refine wpAny_handleBy_cons (codeAny_handlers_test (look (fits.here ?_))) (fun z => by cases z)
    cases b with
    | true =>
      have w := w a c.new
      rw [if_neg (by rw [nb]; simp)] at w
      exact c.run hf nd slot loc suite w
    | false => exact c.clauses hs hf nd tk more w
end
section
variable {X : Cx} {body : List Stmt} {h0 : ExceptHandler} {hds : List ExceptHandler} {qs : List Clause} {pos : Pos} {tb : WX → TS} {W0 : WX}
/-- try .. except A as n: .. except B as m: .. -/
theorem ps_tryN (hs : X.stack = X.env :: X.outer) (hf : X.env.frame = some X.env.locals) (nd : X.N.Nodup) (tk : Takes X W0) (hq : Clauses X (h0 :: hds) qs)
    (hb : ∀ (W : WX) (l : List (Addr × Obj)) (xe : Value → Shared → Prop), Takes (X.tr l xe) W → PassesOwn (model X.prog X.w) X.A X.env xe → PSs (X.tr l xe) body (tb W)) :
    PS X (.Try body (h0 :: hds) [] [] pos) (fun D τ G => tb (wClauses X.K W0 D qs) D τ G) := by
  refine ⟨fun pins s τ G D I w => ?_⟩
  have fr : X.A.frames = some (X.env :: X.outer) := by rw [I.ok.frames, hs]
  let xe : Value → Shared → Prop := fun e s1 => wpAny (model X.prog X.w) X.A (noteFrame e X.env) (fun _ s2 => wpAny (model X.prog X.w) X.A (setFlight e none) (fun _ s3 => wpAny (model X.prog X.w) X.A (handleBy e X.env (h0 :: hds)) (SP X pins D) X.xe s3) X.xe s2) X.xe s1
  have took : Takes (X.tr (X.pn ++ pins) xe) (wClauses X.K W0 D qs) := fun u s1 air => by
    obtain ⟨a, B, sI, pins', τ1, G1, cls, d, rfl, J, nb, up, sky, na, os, ag, w1⟩ := air
    have sky1 : Sky B (X.env :: X.outer) a (Zc cls d) X.env.locals s1.heap := by rw [← hs]; exact sky
    show wpAny (model X.prog X.w) X.A (noteFrame (.ref a) X.env) _ _ s1
    refine Sky.land Zc.steady fr hf sky1 fun h2 f2 u2 => ?_
    exact Caught.clauses (s := { s1 with heap := h2 }) ⟨J.ofTry I.ok, nb, up.trans u2, f2, na, os, ag⟩ hs hf nd tk hq w1
  refine wpAny_Try_except (wpAny_mono ((hb _ _ xe took PassesOwn.looking).run [] s τ G D (I.toTry xe) w) (fun f s1 sp => ?_) fun e s1 z => z)
  cases f with
  | ret u =>
    obtain ⟨v1, τ1, G1, I1, r1, w1⟩ := sp
    exact ⟨v1, τ1, G1, I1.ofTry I.ok, r1, w1⟩
  | next =>
    obtain ⟨τ1, G1, I1, w1⟩ := sp
    exact wpAny_execs_nil ⟨τ1, G1, I1.ofTry I.ok, w1⟩
  | brk =>
    obtain ⟨τ1, G1, I1, w1⟩ := sp
    exact ⟨τ1, G1, I1.ofTry I.ok, w1⟩
  | cont =>
    obtain ⟨τ1, G1, I1, w1⟩ := sp
    exact ⟨τ1, G1, I1.ofTry I.ok, w1⟩
end
end U

set_option maxHeartbeats 4000000
/-! U19: what stands in the suite of a clause: isinstance of the error, its kind told. -/
namespace U
open PySem PySem.W PyProof.Rows L2
/-- str of a bool -/
theorem call_strB {X : Cx} : CallR X (.type "str") (fun xs H Q => ∃ b : Bool, xs = [.bl b] ∧ Q (.str (if b = true then Str.ofString "True" else Str.ofString "False")) H) := by
  intro pins s σ H xs us Q I r h
  obtain ⟨b, rfl, q⟩ := h
  cases r with
  | cons ru rn =>
    cases rn
    cases ru
    exact PySem.P.str_of_bool ⟨.str _, H, I.tok _, ⟨_, by cases b <;> rfl⟩, q⟩
theorem refs_eq : ∀ {cs : List Addr} {us : List Value}, Vals (cs.map V.ref) us → us = cs.map Value.ref
  | [], _, .nil => rfl
  | c :: cs, u :: us, .cons h r => by
    obtain rfl : u = Value.ref c := h
    rw [refs_eq r]; rfl
section
variable {X : Cx} {a D : Addr} {oe : Obj} {l : List (Addr × Obj)}
/-- isinstance(e, (A, B, ..)), e the error that is caught -/
theorem call_isT (C : ExcC X.K D) (hz : Zc (.ref D) none oe) (hf : ∃ vs, oe.data = .fields vs) : CallR (X.suite a ((a, oe) :: l)) (.builtin "isinstance")
    (fun xs H Q => ∃ (tp : Addr) (cs : List Addr) (b : Bool), xs = [.ref a, .ref tp] ∧ H tp = some (.tup (cs.map V.ref)) ∧ kitAny X.K (.ref D) (cs.map Value.ref) = some b ∧ Q (.bl b) H) := by
  intro pins s σ H xs us Q I r h
  obtain ⟨tp, cs, b, rfl, ht, e, q⟩ := h
  cases r with
  | cons rx rr =>
  cases rr with
  | cons rt rn =>
  cases rn
  cases rx
  cases rt
  obtain ⟨got, _⟩ := I.pin (a, oe) (List.mem_append.mpr (.inl List.mem_cons_self))
  obtain ⟨vs, hv⟩ := hf
  have J : InstAt s.heap a oe D none := by
    obtain ⟨oc, od, dt, sl⟩ := oe
    obtain ⟨h1, h2⟩ := hz
    dsimp only at h1 h2 hv
    subst h1 h2 hv
    exact ⟨got, rfl, rfl, trivial⟩
  obtain ⟨_, its, rv, ⟨oc, od, dt, sl⟩, o1, o2, n, o3⟩ := I.hok tp _ ht
  dsimp only at o2 o3
  subst o2 o3
  have ei := refs_eq rv
  subst ei
  exact kia_tup (handS_kitx_exc C.hg C.hk C.hs C.hd C.ha C.hn C.ht C.hm) I.kIn J o1 e (fun z => nomatch z) fun tk => ⟨.bl b, H, I.kept (t' := tk) fun _ _ z => z, rfl, q⟩
end
/-! ### own classes by their names -/
inductive Nms (X : Cx) : List Expr → List Addr → Prop
  | nil : Nms X [] []
  | cons {x : Str} {p : Pos} {c : Addr} {es : List Expr} {cs : List Addr} (h : Gl X x) (m : X.mg x = some (.ref c)) (d : (x == ("__debug__" : Str)) = false) (r : Nms X es cs) : Nms X (.Name x p :: es) (c :: cs)
theorem pa_names {X : Cx} : ∀ {es : List Expr} {cs : List Addr}, Nms X es cs → PA X es (fun σ H Q => Q (cs.map V.ref) H)
  | _, _, .nil => pa_nil
  | _, _, .cons h m d r => (pa_cons (pe_glob h m (v := V.ref _) rfl d) (pa_names r) (star_ok rfl _ _)).imp fun σ H Q q => q
theorem Nms.suite {X : Cx} {a : Addr} {l : List (Addr × Obj)} : ∀ {es : List Expr} {cs : List Addr}, Nms X es cs → Nms (X.suite a l) es cs
  | _, _, .nil => .nil
  | _, _, .cons h m d r => .cons h m d r.suite
section
variable {X : Cx} {a D : Addr} {oe : Obj} {l : List (Addr × Obj)} {xe : Str} {ie : Nat} {p1 p2 p3 p4 : Pos} {k1 : Nat}
/-- the error's name, read -/
def tErr (a : Addr) (ie : Nat) (r : L2.St → Hp → VK → Prop) : TE := fun σ H Q => σ[ie]? = some (some (.ref a)) ∧ r σ H Q
theorem pe_isT (C : ExcC X.K D) (hz : Zc (.ref D) none oe) (hf : ∃ vs, oe.data = .fields vs) (hN : X.N[ie]? = some xe) (hv : Vis X.env.scope xe) (hd : (xe == ("__debug__" : Str)) = false) (hc : (xe == ("__classdict__" : Str)) = false)
    (gi : Gl X "isinstance") (mi : X.mg "isinstance" = none) {es : List Expr} {cs : List Addr} (hns : Nms X es cs) (hl : cs.length ≤ 1000) {b : Bool} (e : kitAny X.K (.ref D) (cs.map Value.ref) = some b) :
    PE (X.suite a ((a, oe) :: l)) (.Call (.Name "isinstance" p1) [.Name xe p2, .Tuple es k1 p3] [] p4)
      (tErr a ie fun σ H Q => ∀ tp, H tp = none → Q (.bl b) (upd H tp (.tup (cs.map V.ref)))) := by
  have pv : PE (X.suite a ((a, oe) :: l)) (.Name xe p2) (tVar ie) := pe_var hN hv hd hc
  have pt : PE (X.suite a ((a, oe) :: l)) (.Tuple es k1 p3) (tTup fun σ H Q => Q (cs.map V.ref) H) := pe_tup (pa_names hns.suite)
  refine (pe_callB (call_isT (l := l) C hz hf) gi mi (by decide +kernel) (pa_cons pv (pa_cons pt pa_nil))).imp fun σ H Q ⟨h1, h2⟩ => ?_
  refine ⟨_, h1, ?_, fun tp ht => ?_⟩
  · rw [List.length_map, sizeLine_eq]; omega
  · exact ⟨tp, cs, b, rfl, upd_same, e, h2 tp ht⟩
theorem pe_isC (C : ExcC X.K D) (hz : Zc (.ref D) none oe) (hf : ∃ vs, oe.data = .fields vs) (hN : X.N[ie]? = some xe) (hv : Vis X.env.scope xe) (hd : (xe == ("__debug__" : Str)) = false) (hc : (xe == ("__classdict__" : Str)) = false)
    (gi : Gl X "isinstance") (mi : X.mg "isinstance" = none) {g : Expr} {c : V} {cv : Value} (pc : PE (X.suite a ((a, oe) :: l)) g (tC c)) (hcv : ∀ u, RelV c u → u = cv) (pl : plainE g = true) {b : Bool} (e : kitOne X.K (.ref D) cv = some b) :
    PE (X.suite a ((a, oe) :: l)) (.Call (.Name "isinstance" p1) [.Name xe p2, g] [] p4) (tErr a ie fun σ H Q => Q (.bl b) H) := by
  have pv : PE (X.suite a ((a, oe) :: l)) (.Name xe p2) (tVar ie) := pe_var hN hv hd hc
  have st : ∀ E : Env, starEach [g] E = [(false, eval g E)] := fun E => star_ok pl [] E
  refine (pe_callB (call_isE (pn := l) C hz hf) gi mi (by decide +kernel) (pa_cons pv (pa_cons pc pa_nil (st _))) (by decide) rfl rfl (by rw [st]; rfl)).imp fun σ H Q ⟨h1, h2⟩ => ?_
  exact ⟨_, h1, c, cv, b, rfl, hcv, e, h2⟩
end
end U

set_option maxHeartbeats 4000000
/-! X1: an own error whose __init__ says super().__init__(..) and sets its fields by its parameters. -/
namespace U
open PySem PySem.Spec PyProof.Rows L2 NdefX
theorem upd_upd {H : Hp} {a : Addr} {x y : HO} : upd (upd H a x) a y = upd H a y := by
  funext b
  by_cases h : b = a
  · rw [h, upd_same, upd_same]
  · rw [upd_ne h, upd_ne h, upd_ne h]
theorem upd_comm {H : Hp} {a b : Addr} {x y : HO} (h : a ≠ b) : upd (upd H a x) b y = upd (upd H b y) a x := by
  funext c
  by_cases h1 : c = a
  · subst h1; rw [upd_ne h, upd_same, upd_same]
  · by_cases h2 : c = b
    · subst h2; rw [upd_same, upd_ne h1, upd_same]
    · rw [upd_ne h2, upd_ne h1, upd_ne h1, upd_ne h2]
theorem upd_id {H : Hp} {a : Addr} {x : HO} (h : H a = some x) : upd H a x = H := by
  funext b
  by_cases e : b = a
  · rw [e, upd_same, h]
  · rw [upd_ne e]
section
variable {X : Cx} {pins : List (Addr × Obj)} {σ : L2.St} {H : Hp} {s : Shared} {A : Around} {u a C : Addr} {us : List Value} {Q : Value → Shared → Prop} {E : Value → Shared → Prop}
/-- the built-in __init__ bound to the object, called -/
theorem call_mw (T : OexC X.K C) (I : L2.Inv X pins σ H s) (e : H a = some (exo a C none)) (hu : s.heap.get? u = some (PySem.W.kxs_mw "ValueError.__init__" a)) (hl : us.length ≤ sizeLine) (h : ∀ s', L2.Inv X pins σ H s' → Q .none s') :
    wpAny (model X.prog X.w) A (call (.ref u) us) Q E s := by
  obtain ⟨nm, q, N, bs, bm, sn, sub, ab, col, dd, k0, k1, k2, k3, k5, hC, hbm⟩ := T.cls
  obtain ⟨t1, ho⟩ := exo_at I.hok e
  obtain ⟨hp, g, d, t, os⟩ := s
  refine wpAny_call (codeAny_of_tree ?_)
  show wpAny _ A.in1 (callAny (.ref u) ⟨us, []⟩) _ _ _
  simp only [callAny]
  refine wpAny_bind (wpAny_load hu ?_)
  simp only [PySem.W.kxs_mw, show (Value.type "method-wrapper" == Value.type "method" || Value.type "method-wrapper" == Value.type "builtin_function_or_method" || Value.type "method-wrapper" == Value.type "method-wrapper") = true by decide, if_true]
  refine PySem.W.KFB.if_so (by decide) ?_
  refine wpAny_bind (PySem.W.check_bound_init PySem.F.excBase_ValueError.toExcCallFacts (I.kIn _ _ hC) ho rfl ?_)
  refine wpAny_bind (wpAny_pure (wpAny_pure ?_))
  refine ⟨plainId_quiet PySem.F.excBase_ValueError.init.plain _, codeAny_builtin PySem.F.excBase_ValueError.initEntry ?_⟩
  refine PySem.W.exc_init_tree (cls := .ref C) (t0 := t1) (dv := none) (c2 := .none) (c3 := .none) (b4 := .bool false) ho hl fun h' k hx _ => ?_
  have J := I.write (t' := t) (x := a) (e := a) (o := exo a C none) (by rw [e]; exact True.intro) (.inl rfl) k ⟨_, hx⟩ (exo_ok hx)
  rw [upd_id e] at J
  exact h _ J
theorem tree1 {o e : Expr} {m : Str} {apos pos : Pos} {env : Env} (hl : (apos.endLine == pos.line) = true) (hst : starEach [e] env = (false, eval e env) :: starEach [] env) :
    eval (.Call (.Attribute o m apos) [e] [] pos) env = (do
      let ov ← attributeBase o m env (eval o env)
      standAt apos.atName
      let (f, first) ← holding [ov] (getMethod ov m (do return (← importBound o env).getD true))
      callWith pos f first (backTo pos (starEach [e] env)) []) := by
  rw [arm_eval_Call]
  congr 1
  funext ov
  congr 1
  funext _
  unfold methodCall
  have few : methodCallForm (([e] : List Expr).length + ([] : List Keyword).length) (backTo pos (starEach [e] env)) (backToKw pos (keywordEach [] env)) = true := by
    rw [hst]; rfl
  rw [few]
  unfold calleeOf methodCallPos
  rw [if_pos rfl]
  congr 1
  funext ff
  obtain ⟨f, first⟩ := ff
  rw [hl]
  rfl
/-- what stands behind super().__init__ -/
structure SupC (X : Cx) (fI cc C : Addr) (i : Nat) : Prop where
  hks : X.env.kindOf "super" = some .globalImplicit
  hkc : X.env.kindOf "__class__" = some .free
  hkl : X.env.kindOf "self" = some .local
  hfu : X.env.func = some fI
  code : ∃ (cda : Addr) (ccl : Value) (cdd : Option Addr) (vs : Array Value) (ccs : Array (Option Value)) (file : Str) (tf : Tok), X.env.code = .ref cda ∧ X.K.lookup cda = some ⟨ccl, cdd, .fields vs, ccs⟩ ∧ vs[2]? = some (.str file tf) ∧ ((X.prog.main.file : Str) == file) = true
  fn : ∃ (oc : Value) (od : Option Addr) (fd : FuncData) (osl : Array (Option Value)) (ar : Arg), X.K.lookup fI = some ⟨oc, od, .func fd, osl⟩ ∧ (fd.params.posonlyargs ++ fd.params.args).head? = some ar ∧ ar.arg = "self"
  cell : X.env.cells.lookup ("__class__" : Str) = some cc ∧ ∃ (cl : Value) (cld : Option Addr) (csl : Array (Option Value)), X.K.lookup cc = some ⟨cl, cld, .cell (some (.ref C)), csl⟩
  top : (X.prog.main.scope.names.lookup ("super" : Str)).isSome = false
  mg : X.mg "super" = none
  opq : PySem.W.nsIn X.K PySem.cStatics "thirdparty.any" = some none
  cls : OexC X.K C
  sub : PySem.W.mroIn X.K C (.ref C) = some true
  subV : PySem.W.subIn X.K (.ref C) (.type "ValueError") = some true
  sup : PySem.W.ks_superIn X.K C C "__init__" = some (some (.builtin "ValueError.__init__"))
  slot : X.N[i]? = some "self"
theorem super_ok {fI cc : Addr} {i : Nat} (S : SupC X fI cc C i) {body : List Stmt} {e : Expr} {te : TE} {R : Flow → Shared → Prop} {p0 p1 ap pos pos' : Pos} (hi : interactive X.env = false) (hw : swapsWith (.Call (.Attribute (.Call (.Name "super" p0) [] [] p1) "__init__" ap) [e] [] pos) none pos'.line X.env = pure false) (hli : (ap.endLine == pos.line) = true) (he : PE X e te) (hst : starEach [e] X.env = (false, eval e X.env) :: starEach [] X.env) (I : L2.Inv X [] σ H s) (hσ : σ[i]? = some (some (.ref a))) (ha : H a = some (exo a C none))
    (h : te σ H fun v H' => [v].length ≤ 1 ∧ H' a = some (exo a C none) ∧ ∀ s', L2.Inv X [] σ H' s' → R .next s') :
    PySem.wpAt (model X.prog X.w) X.A (.func body X.env) (exec (.Expr (.Call (.Attribute (.Call (.Name "super" p0) [] [] p1) "__init__" ap) [e] [] pos) pos') X.env) R X.xe s := by
  obtain ⟨cda, ccl, cdd, vs, ccs, file, tf, c1, c2, c3, c4⟩ := S.code
  obtain ⟨oc, od, fd, osl, ar, f1, f2, f3⟩ := S.fn
  obtain ⟨l1, cl, cld, csl, l2⟩ := S.cell
  obtain ⟨nm, q, N, bs, bm, sn, sub, ab, col, dd, k0, k1, k2, k3, k5, hC, hbm⟩ := S.cls.cls
  obtain ⟨t1, ho⟩ := exo_at I.hok ha
  obtain ⟨hh, g, d, t, os⟩ := s
  refine ks_wpAt_Expr_any (ks_wpAt_MethodCall (ks_wpAt_super_base (env := X.env) S.hks S.hkc (by decide) S.hfu (I.kIn _ _ f1) rfl f2 c1 (I.kIn _ _ c2) rfl c3 c4 S.top ?_) (tree1 hli hst)) hi hw
  obtain ⟨mb, m1, m2⟩ := I.mod.blt
  refine PySem.W.ks_loadName_global I.ok.kind S.hks (Calls.loadGlobal_builtin (by rw [I.ok.glob]; exact I.mod.glob.keeps I.bk) S.mg (by rw [I.ok.blt]; exact m1.keeps I.bk) ((m2 "super" (by decide)).trans (by first | rfl | decide +kernel)) ⟨rfl, ?_⟩)
  refine wpAny_loadName_free I.ok.kind S.hkc l1 ⟨_, I.kIn _ _ l2, rfl⟩ ?_
  rw [f3]
  obtain ⟨m, hn, hl⟩ := I.loc
  obtain ⟨u, r, l⟩ := hl i "self" (.ref a) S.slot hσ (.inl S.hkl)
  obtain rfl : u = Value.ref a := r
  have hm : m "self" = some (.ref a) := by
    rcases l with ⟨_, z⟩ | ⟨z, _⟩
    · exact z
    · rw [S.hkl] at z; rcases z with z | z <;> cases z
  refine wpAny_loadName_local I.ok.kind S.hkl hn hm ?_
  refine ks_wpAny_isType_cls (I.kIn _ _ hC) rfl ⟨rfl, ?_⟩
  refine ks_wpAny_call_super (I.kIn _ _ hC) rfl ho rfl (fun c e => by cases e) (PySem.W.looks_mroIn I.kIn S.sub) (fun h' e' k => ?_)
  have I1 : L2.Inv X [] σ H ⟨h', g, d, t, os⟩ := I.kept k
  obtain ⟨cd, hcd, hal⟩ : ∃ cd, PySem.W.clsIn X.K C = some cd ∧ PySem.W.alongIn X.K "__init__" ((cd.mro.dropWhile (· != .ref C)).drop 1) = some (some (.builtin "ValueError.__init__")) := by
    have z := S.sup
    unfold PySem.W.ks_superIn at z
    cases hc : PySem.W.clsIn X.K C with
    | none => rw [hc] at z; cases z
    | some cd => rw [hc] at z; exact ⟨cd, rfl, z⟩
  have J : PySem.W.InstAt h' a _ C none := ⟨k _ _ ho, rfl, rfl, trivial⟩
  refine PySem.W.kxs_getMethod PySem.W.kxs_ValueError (so := hh.objs.size) (D := C) (x := a) (C := C) e' (PySem.W.looks_opaque I1.kIn S.opq) (l₀ := cd.mro) (fun A Q E s k q => wpAny_bind ((PySem.W.looks_clsIn I1.kIn hcd) A _ E s k (wpAny_pure q))) rfl I1.kIn hal (J.type.andThen (PySem.W.looks_subIn I1.kIn S.subV)) (PySem.W.ks_ne I1.kIn J hcd) (by decide) ?_
  have I2 : L2.Inv X [(h'.objs.size, PySem.W.kxs_mw "ValueError.__init__" a)] σ H ⟨h'.push (PySem.W.kxs_mw "ValueError.__init__" a), g, d, t + 1, os⟩ := by
    have I2 : L2.Inv X [] σ H ⟨h'.push (PySem.W.kxs_mw "ValueError.__init__" a), g, d, t + 1, os⟩ := I1.kept (t' := t + 1) fun b u e => Heap.get?_push_of_some _ e
    refine I2.pins_of fun p hp => ?_
    · obtain rfl : p = _ := List.mem_singleton.mp hp
      exact ⟨Heap.get?_push_at rfl rfl, I1.hok.fresh (Nat.le_refl _), fun z => absurd I1.lt (by rw [← z]; exact Nat.lt_irrefl _), I1.nofs (Nat.le_refl _), fun v z => by cases z⟩
  show wpAny _ _ (callWith pos (.ref h'.objs.size) [] (backTo pos (starEach [e] X.env)) []) _ _ _
  rw [hst]
  refine PySem.W.kxs_callWith (i := "ValueError.__init__") (x := a) rfl (Calls.evalArgs_plain ?_)
  have pa : PA X [e] _ := pa_cons he pa_nil hst
  have pr := pa.run pos _ _ σ H (fun vs H' => vs.length ≤ 1 ∧ H' a = some (exo a C none) ∧ ∀ s', L2.Inv X [] σ H' s' → R .next s') I2 ?_
  · rw [hst] at pr
    refine thn pr fun us s1 ⟨ws, H1, I3, r3, q1, q2, q3⟩ => ?_
    refine ⟨(I3.pin _ (List.mem_append_right _ List.mem_cons_self)).1, ?_⟩
    refine call_mw S.cls I3 q2 (I3.pin _ (List.mem_append_right _ List.mem_cons_self)).1 ?_ fun s' I4 => q3 s' (I4.pins_of fun p hp => by cases hp)
    show us.length ≤ _
    rw [← Paired.length r3, sizeLine_eq]; omega
  · exact h
end
end U

set_option maxHeartbeats 4000000
/-! X2: its __init__ keeps its promise. -/
namespace U
open PySem PySem.Spec PyProof.Rows L2 NdefX
section
variable {X : Cx} {pins : List (Addr × Obj)} {σ : L2.St} {H : Hp} {s : Shared} {a C : Addr} {n : Nat}
/-- self.f = x, .., the parameters one after the other -/
def mSets (N : List Str) (sc : Scope) : Nat → List Str → List Stmt → Bool
  | _, [], l => l.isEmpty
  | i, f :: fs, l => match l with
    | .Assign [.Attribute (.Name y _) g _] (.Name x _) _ :: r => decide (y = "self") && decide (g = f) && decide (N[i]? = some x) && visB sc x && !(x == ("__debug__" : Str)) && !(x == ("__classdict__" : Str)) && mSets N sc (i + 1) fs r
    | _ => false
theorem sets_ok (T : OexC X.K C) (hself : X.N[n]? = some "self") (vself : Vis X.env.scope "self") : ∀ (fs : List Str) (i : Nat) (l : List Stmt), mSets X.N X.env.scope i fs l = true → (∀ f ∈ fs, PySem.W.findIn X.K (.ref C) f = some none) →
    ∃ t, PSs X l t ∧ ∀ (D : Ends) (σ : L2.St) (H : Hp) (ws : List V) (gs : List (Str × V)) (dx : Addr), σ[n]? = some (some (.ref a)) → (∀ j w, ws[j]? = some w → σ[i + j]? = some (some w)) → ws.length = fs.length → dx ≠ a → H a = some (exo a C (some dx)) → H dx = some (exd dx gs) → gs.length + fs.length ≤ 900 →
      D.nx σ (upd H dx (exd dx ((fs.zip ws).reverse ++ gs))) → t D σ H
  | [], i, l, h, hf => by
    have : l = [] := by
      unfold mSets at h
      exact List.isEmpty_iff.mp h
    subst this
    refine ⟨_, pss_nil, fun D σ H ws gs dx _ _ hl _ _ hd _ q => ?_⟩
    rw [List.zip_nil_left, List.reverse_nil, List.nil_append, upd_id hd] at q
    exact q
  | f :: fs, i, l, h, hf => by
    unfold mSets at h
    split at h
    · rename_i y p1 g p2 x p3 p4 r
      simp only [Bool.and_eq_true, decide_eq_true_eq, Bool.not_eq_true'] at h
      obtain ⟨⟨⟨⟨⟨⟨rfl, rfl⟩, h3⟩, h4⟩, h5⟩, h6⟩, h7⟩ := h
      obtain ⟨t, ht, q⟩ := sets_ok T hself vself fs (i + 1) r h7 fun f hm => hf f (List.mem_cons_of_mem _ hm)
      have P := ps_ost (f := g) (p' := p2) (pos := p4) (pe_var (pos := p1) hself vself (by decide) (by decide)) (pe_var (pos := p3) h3 (vis_of h4) h5 h6)
      refine ⟨_, pss_cons P ht, fun D σ H ws gs dx e1 e2 hl hda ha hd hn z => ?_⟩
      cases ws with
      | nil => cases hl
      | cons w ws =>
        refine ⟨w, e2 0 w rfl, .ref a, e1, a, C, rfl, T, hf _ List.mem_cons_self, .inr ⟨dx, gs, ha, hd, by simp at hn; omega, ?_⟩⟩
        refine q D σ _ ws ((g, w) :: gs) dx e1 (fun j v hj => ?_) (by simpa using hl) hda (by rw [upd_ne (Ne.symm hda)]; exact ha) upd_same (by simp at hn ⊢; omega) ?_
        · rw [show i + 1 + j = i + (j + 1) by omega]
          exact e2 (j + 1) v hj
        · rw [upd_upd]
          simpa using z
    · cases h
theorem sets0_ok (T : OexC X.K C) (hself : X.N[n]? = some "self") (vself : Vis X.env.scope "self") (fs : List Str) (i : Nat) (l : List Stmt) (h : mSets X.N X.env.scope i fs l = true) (hf : ∀ f ∈ fs, PySem.W.findIn X.K (.ref C) f = some none) (hne : fs ≠ []) :
    ∃ t, PSs X l t ∧ ∀ (D : Ends) (σ : L2.St) (H : Hp) (ws : List V), σ[n]? = some (some (.ref a)) → (∀ j w, ws[j]? = some w → σ[i + j]? = some (some w)) → ws.length = fs.length → H a = some (exo a C none) → fs.length ≤ 900 →
      (∀ dx, H dx = none → dx ≠ a → D.nx σ (upd (upd H dx (exd dx (fs.zip ws).reverse)) a (exo a C (some dx)))) → t D σ H := by
  cases fs with
  | nil => exact absurd rfl hne
  | cons f fs =>
    unfold mSets at h
    split at h
    · rename_i y p1 g p2 x p3 p4 r
      simp only [Bool.and_eq_true, decide_eq_true_eq, Bool.not_eq_true'] at h
      obtain ⟨⟨⟨⟨⟨⟨rfl, rfl⟩, h3⟩, h4⟩, h5⟩, h6⟩, h7⟩ := h
      obtain ⟨t, ht, q⟩ := sets_ok (a := a) T hself vself fs (i + 1) r h7 fun f hm => hf f (List.mem_cons_of_mem _ hm)
      have P := ps_ost (f := g) (p' := p2) (pos := p4) (pe_var (pos := p1) hself vself (by decide) (by decide)) (pe_var (pos := p3) h3 (vis_of h4) h5 h6)
      refine ⟨_, pss_cons P ht, fun D σ H ws e1 e2 hl ha hn z => ?_⟩
      cases ws with
      | nil => cases hl
      | cons w ws =>
        refine ⟨w, e2 0 w rfl, .ref a, e1, a, C, rfl, T, hf _ List.mem_cons_self, .inl ⟨ha, fun dx hd hda => ?_⟩⟩
        refine q D σ _ ws [(g, w)] dx e1 (fun j v hj => ?_) (by simpa using hl) hda upd_same (by rw [upd_ne hda, upd_same]) (by simp at hn ⊢; omega) ?_
        · rw [show i + 1 + j = i + (j + 1) by omega]
          exact e2 (j + 1) v hj
        · rw [upd_comm (Ne.symm hda), upd_upd]
          simpa using z dx hd hda
    · cases h
/-- the names in another order -/
theorem Inv.ren {N' : List Str} {σ' : L2.St} (I : L2.Inv X pins σ H s) (hl : σ'.length = N'.length) (w : ∀ (i : Nat) (x : Str) (v : V), N'[i]? = some x → σ'[i]? = some (some v) → ∃ j : Nat, X.N[j]? = some x ∧ σ[j]? = some (some v)) : L2.Inv { X with N := N' } pins σ' H s :=
  ⟨⟨I.ok.mod, I.ok.kind, I.ok.glob, I.ok.blt, I.ok.above, I.ok.inj, I.ok.has, I.ok.cab, I.ok.hd, I.ok.frames, I.ok.stk, I.ok.exf, I.ok.bs, I.ok.bsz, I.ok.noex, I.ok.exfs, I.ok.funs, I.ok.frf⟩, I.os, I.bare, I.base,
    let ⟨m, hn, hl⟩ := I.loc
    ⟨m, hn, fun i x v h1 h2 h3 => let ⟨j, h4, h5⟩ := w i x v h1 h2; hl j x v h4 h5 h3⟩, I.cell, I.free, I.freeC, I.pin, I.hok, hl⟩
end
section
variable {K : PySem.W.Frag} {μ : Nat → Addr} {L : Nat} {H : Hp}
theorem S1.swap {env : En} {σ σ' : L2.St} (h : S1 K μ L H env σ) (hl : σ'.length = σ.length) (w : ∀ (i : Nat) (v : V), σ[i]? = some (some v) → σ'[i]? = some (some v)) : S1 K μ L H env σ' ∧ ∀ a, Own env σ' a → Own env σ a := by
  have key : ∀ (i : Nat) (xs : List PV) (a : Addr), env[i]? = some (some (.fl xs)) → σ'[i]? = some (some (.ref a)) → σ[i]? = some (some (.ref a)) := fun i xs a h1 h2 => by
    obtain ⟨v, h3, _⟩ := h.re.at_ i _ h1
    have := w i v h3
    rw [h2] at this
    cases this
    exact h3
  refine ⟨⟨⟨by rw [hl]; exact h.re.len, fun i x hx => ?_⟩, fun i j xs ys a ne h1 h2 h3 h4 => h.de i j xs ys a ne h1 h2 (key i xs a h1 h3) (key j ys a h2 h4)⟩, fun a ⟨i, xs, h1, h2⟩ => ⟨i, xs, h1, key i xs a h1 h2⟩⟩
  obtain ⟨v, h1, h2⟩ := h.re.at_ i x hx
  exact ⟨v, w i v h1, h2⟩
end
end U

set_option maxHeartbeats 4000000
/-! X3: an error's __init__ keeps its promise. -/
namespace U
open PySem PySem.Spec PyProof.Rows L2 NdefX
abbrev sSelf : Str := "self"
abbrev sCls : Str := "__class__"
/-- the text of such an __init__ -/
def initB (N : List Str) (sc : Scope) (msg : ME) (flds : List Str) (body : List Stmt) : Bool := match body with
  | .Expr (.Call (.Attribute (.Call (.Name x _) [] [] _) m ap) [e] [] pos) _ :: r => decide (x = "super") && decide (m = "__init__") && (ap.endLine == pos.line) && mE ⟨N, sc, [], [], [], [], false, ⟨[], []⟩⟩ msg e && mSets N sc 0 flds r
  | _ => false
/-- what the written part says of such a class -/
structure SupK (W : Wd) (C fI : Addr) (q : Str) (ps : List Str) (args : Arguments) (body : List Stmt) (sc : Scope) (fd : FuncData) (flds : List Str) : Prop where
  ex : ∃ (cc cda : Addr) (oc kV doc pm ct : Value) (od : Option Addr) (osl : Array (Option Value)), fd = PySem.W.fnX "__init__" q args body sc [("__class__", cc)] .none kV doc pm none (.ref cda) ct ∧ W.K.lookup fI = some ⟨oc, od, .func fd, osl⟩ ∧ PySem.W.codeIn W.K (.ref cda) q = true ∧
    (∃ (ccl : Value) (cdd : Option Addr) (vs : Array Value) (ccs : Array (Option Value)) (file : Str) (tf : Tok), W.K.lookup cda = some ⟨ccl, cdd, .fields vs, ccs⟩ ∧ vs[2]? = some (.str file tf) ∧ ((W.P.main.file : Str) == file) = true) ∧
    ∃ (cl : Value) (cld : Option Addr) (csl : Array (Option Value)), W.K.lookup cc = some ⟨cl, cld, .cell (some (.ref C)), csl⟩
  ar : ∃ ar : Arg, (args.posonlyargs ++ args.args).head? = some ar ∧ ar.arg = "self"
  top : (W.P.main.scope.names.lookup ("super" : Str)).isSome = false
  mg : W.mg "super" = none
  opq : PySem.W.nsIn W.K PySem.cStatics "thirdparty.any" = some none
  cls : OexC W.K C
  sub : PySem.W.mroIn W.K C (.ref C) = some true
  subV : PySem.W.subIn W.K (.ref C) (.type "ValueError") = some true
  sup : PySem.W.ks_superIn W.K C C "__init__" = some (some (.builtin "ValueError.__init__"))
  nof : ∀ f ∈ flds, PySem.W.findIn W.K (.ref C) f = some none
  hks : sc.names.lookup ("super" : Str) = some .globalImplicit
  hkc : sc.names.lookup ("__class__" : Str) = some .free
  hkl : sc.names.lookup ("self" : Str) = some .local
  scp : NScope (sSelf :: ps ++ [sCls]) (sSelf :: ps) [sCls] sc
theorem fn_init {W : Wd} {turns : Nat} {D : Nat → Option Def} {k f : Nat} {C fI : Addr} {q : Str} {ps flds : List Str} {args : Arguments} {body : List Stmt} {sc : Scope} {fd : FuncData} {msg : ME} (S : SupK W C fI q ps args body sc fd flds)
    (hd : D f = some { np := ps.length, nl := ps.length + 2, body := .cons (.ex msg) .nil }) (hb : initB (ps ++ [sSelf, sCls]) sc msg flds body = true) (hl : flds.length = ps.length) (hne : flds ≠ []) (hn : flds.length ≤ 900) :
    FnOk W.P W.w W.K W.mg W.base CX0 1 fI fd (sSelf :: ps) (spI W.K C flds (evCall turns D (k + 1) f)) := by
  obtain ⟨cc, cda, oc, kV, doc, pm, ct, od, osl, rfl, hlk, hcd, hcode, hcell⟩ := S.ex
  refine ⟨fun vs H Q E h => ?_, fun A outer s H args' us vs Q E hr e0 hbd rv hsp => ?_⟩
  · obtain ⟨e, ws, μ, st, as, v, st', rfl, _, h1, _, h2, _⟩ := h
    rw [List.length_cons, List.length_cons, ← h2.len, h1, hl]
  · obtain ⟨e, ws, μ, st, as, v, st', rfl, he, h1, o, h2, hev, hq⟩ := hsp
    have lw : ws.length = ps.length := by rw [← h2.len, h1, hl]
    have KX : W.K.In s.heap := e0.mod.kin.keeps fun b o e => (e0.bs b o e).1
    have lim : s.heap.NoLimit := e0.mod.nolimit.keeps fun b o e => (e0.bs b o e).1
    have ndP := S.scp.nd
    let F : NF := ⟨"__init__", q, args, body, sc, [("__class__", cc)], cda⟩
    let fd0 := PySem.W.fnX "__init__" q args body sc [("__class__", cc)] .none kV doc pm none (.ref cda) ct
    refine ks_codeAny_call_defAt (fd := fd0) (body := body) (binds := (sSelf :: ps).zip us) hr.depth (KX _ _ hlk) rfl lim (PySem.W.codeRec_of KX hcd) rfl hbd S.scp.nocell (by rintro ⟨x, u⟩ hx; exact S.scp.par x (List.of_mem_zip hx).1) (fun h1' hns kp => ?_) S.scp.co S.scp.gen S.scp.kind
    let X : Cx := ncx CX0 W.P W.w W.K W.mg W.base (sSelf :: ps ++ [sCls]) F fI A outer s H E
    obtain ⟨cl, cld, csl, hcl⟩ := hcell
    have cells : CellsAt F.cl [sCls] [some (V.ref C)] s.heap H := by
      have lk : ∀ y c, F.cl.lookup y = some c → y = "__class__" ∧ c = cc := fun y c h => by
        have hm := PySem.mem_of_lookup (show ([("__class__", cc)] : List (Str × Addr)).lookup y = some c from h)
        simpa using hm
      have hH : H cc = none := (e0.bs _ _ (e0.mod.kin _ _ hcl)).2
      refine ⟨rfl, fun y c h => ?_, fun x y c h1 h2 => ?_, fun i y hy => ?_⟩
      · obtain ⟨rfl, rfl⟩ := lk y c h
        exact ⟨hH, _, ⟨_, KX _ _ hcl, rfl⟩⟩
      · rw [(lk x c h1).1, (lk y c h2).1]
      · cases i with
        | zero =>
          obtain rfl : sCls = y := by simpa using hy
          refine ⟨cc, rfl, fun v hv => ?_⟩
          obtain rfl : V.ref C = v := by simpa using hv
          exact ⟨.ref C, rfl, ⟨_, KX _ _ hcl, rfl⟩⟩
        | succ i => simp at hy
    have I : L2.Inv X [] (startF (sSelf :: ps ++ [sCls]) (V.ref e :: ws) [some (V.ref C)]) H { s with heap := h1', toks := s.toks + ((sSelf :: ps).zip us).length } := inv_startN (F := F) S.scp hr.hd e0 (by simp [lw]) rv cells hns kp
    let σ' : L2.St := ws.map some ++ [some (V.ref e), some (V.ref C)]
    have I' : L2.Inv { X with N := ps ++ [sSelf, sCls] } [] σ' H { s with heap := h1', toks := s.toks + ((sSelf :: ps).zip us).length } := by
      refine Inv.ren I (by simp [σ', lw]) fun i x v hx hv => ?_
      have hX : X.N = sSelf :: (ps ++ [sCls]) := rfl
      have hS : startF (sSelf :: ps ++ [sCls]) (V.ref e :: ws) [some (V.ref C)] = some (V.ref e) :: (ws.map some ++ [some (V.ref C)]) := by
        unfold startF
        simp [lw]
      rw [hS]
      rw [hX]
      by_cases h1 : i < ps.length
      · refine ⟨i + 1, ?_, ?_⟩
        · rw [List.getElem?_append_left h1] at hx
          rw [List.getElem?_cons_succ, List.getElem?_append_left h1]; exact hx
        · rw [List.getElem?_append_left (by simpa [lw] using h1)] at hv
          rw [List.getElem?_cons_succ, List.getElem?_append_left (by simpa [lw] using h1)]; exact hv
      · rw [List.getElem?_append_right (by omega)] at hx
        rw [List.getElem?_append_right (by simp [lw]; omega)] at hv
        simp only [List.length_map, lw] at hv
        cases hi : i - ps.length with
        | zero =>
          rw [hi] at hx hv
          refine ⟨0, ?_, ?_⟩
          · simpa using hx
          · simpa using hv
        | succ j =>
          cases j with
          | zero =>
            rw [hi] at hx hv
            refine ⟨ps.length + 1, ?_, ?_⟩
            · rw [List.getElem?_cons_succ, List.getElem?_append_right (Nat.le_refl _)]
              simpa using hx
            · rw [List.getElem?_cons_succ, List.getElem?_append_right (by simp [lw])]
              simpa [lw] using hv
          | succ j => rw [hi] at hx; simp at hx
    let X' : Cx := { X with N := ps ++ [sSelf, sCls] }
    obtain ⟨ar, ar1, ar2⟩ := S.ar
    have SC : SupC X' fI cc C ps.length := {
      hks := S.hks, hkc := S.hkc, hkl := S.hkl, hfu := rfl
      code := by
        obtain ⟨ccl, cdd, vs, ccs, file, tf, c1, c2, c3⟩ := hcode
        exact ⟨cda, ccl, cdd, vs, ccs, file, tf, rfl, c1, c2, c3⟩
      fn := ⟨oc, od, _, osl, ar, hlk, ar1, ar2⟩
      cell := ⟨rfl, cl, cld, csl, hcl⟩
      top := S.top, mg := S.mg, opq := S.opq, cls := S.cls, sub := S.sub, subV := S.subV, sup := S.sup
      slot := by
        show (ps ++ [sSelf, sCls])[ps.length]? = _
        rw [List.getElem?_append_right (Nat.le_refl _)]; simp }
    -- the text
    unfold initB at hb
    split at hb
    · rename_i x p0 p1 m ap e1 pos pos' r
      simp only [Bool.and_eq_true, decide_eq_true_eq] at hb
      obtain ⟨⟨⟨⟨rfl, rfl⟩, b3⟩, b4⟩, b5⟩ := hb
      let Cc : Ct := ⟨ps ++ [sSelf, sCls], sc, [], [], [], [], false, ⟨[], []⟩⟩
      have nd' : (ps ++ [sSelf, sCls]).Nodup := by
        have z := S.scp.nd
        rw [List.cons_append, List.nodup_cons] at z
        obtain ⟨z1, z2⟩ := z
        have z3 := List.nodup_append.mp z2
        refine List.nodup_append.mpr ⟨z3.1, by decide +kernel, fun a ha b hb => ?_⟩
        simp only [List.mem_cons, List.not_mem_nil, or_false] at hb
        rcases hb with rfl | rfl
        · exact fun h => z1 (by rw [← h]; exact List.mem_append_left _ ha)
        · exact z3.2.2 a ha _ List.mem_cons_self
      have G : Gd W Cc k X' := ⟨rfl, rfl, rfl, rfl, rfl, rfl, rfl, nd', rfl, hr.deeper _, .inl rfl, fun z => by cases z⟩
      have Fe : Fx W Cc k (evCall turns D k) := ⟨fun _ _ h => (by cases h), fun _ _ h => (by cases h), fun _ _ h => (by cases h), fun _ _ h => (by cases h), fun _ _ h => (by cases h), fun _ h => (by cases h), fun _ _ h => (by cases h)⟩
      have se := sE msg G Fe b4
      obtain ⟨t, ht, hsets⟩ := sets0_ok (X := X') (a := e) (n := ps.length) S.cls SC.slot (.inl S.hkl) flds 0 r b5 S.nof hne
      refine ks_wpAt_execs_cons (super_ok (X := X') SC (a := e) (by show (sc.kind == _ && _) = false; rw [S.scp.kind]; rfl) rfl b3 se.val (star_ok (plain_ok b4) _ _) I' (by simp [σ', lw]) he ?_)
      -- what the message yields
      let wx : XW := ⟨W.mg, fun _ _ _ _ => False⟩
      let Q' : VK := fun _ H' => ∃ μ', Stp μ st.length H μ' st'.length H' ∧ Ok W.K μ' st' H'
      have g : outX W.K W.mg μ st H Q' (fun _ _ _ => False) (evCall turns D (k + 1) f as st) := by
        rw [hev]
        exact fun μ' H' v' s o r f => ⟨μ', s, o⟩
      obtain ⟨⟨l1, l2⟩, _⟩ := body_post (W := W) (S := fun _ => False) (wx := wx) hd rfl (fun _ z => z) rfl rfl g
      obtain ⟨s1, own⟩ := start_ok (N := ps ++ [sSelf, sCls]) (nl := ps.length + 2) h2 l2 (by simp)
      obtain ⟨s2, own2⟩ := s1.swap (σ' := σ') (by simp [σ', L2.start, lw]) fun i v hv => by
        unfold L2.start at hv
        by_cases hi : i < ws.length
        · rw [List.getElem?_append_left (by simpa using hi)] at hv
          show (ws.map some ++ _)[i]? = _
          rw [List.getElem?_append_left (by simpa using hi)]; exact hv
        · rw [List.getElem?_append_right (by simpa using hi), List.getElem?_replicate] at hv
          split at hv <;> cases hv
      obtain ⟨_, p⟩ := body_post (W := W) (S := fun _ => False) (wx := wx) hd rfl (fun _ z => z) rfl rfl g
      have el : as.length = ps.length := by rw [h1, hl]
      have p : post W.K wx (fun _ => False) μ st H ((evS (evCall turns D k) turns (.ex msg) (as.map some ++ List.replicate (ps.length + 2 - as.length) none) st).then fun env1 st1 => .nx env1 st1) { nx := fun _ H' => Q' .non H', rt := Q', bk := fun _ _ => False, ct := fun _ _ => False } := by rw [el]; exact p
      rw [evS] at p
      generalize as.map some ++ List.replicate (ps.length + 2 - as.length) (none : Option PV) = env0 at *
      cases ee : ev (evCall turns D k) msg .val env0 st with
      | bad => rw [ee] at p; exact p.elim
      | xc _ _ _ => rw [ee] at p; exact p.elim
      | ok z st1 =>
        rw [ee] at p
        refine ⟨μ, env0, st, z, st1, o, s2.re, ee, fun μ1 H1 v1 t1 o1 r1 _ => ⟨Nat.le_refl _, ?_, fun s' J => ?_⟩⟩
        · refine t1.keep _ _ he (fun n hn z => ?_) fun z => z
          obtain ⟨u, hu⟩ := o.at_ hn
          cases hc : st[n] with
          | lst xs =>
            obtain ⟨vs, h, _⟩ := o.cell n xs (by rw [List.getElem?_eq_getElem hn, hc])
            rw [z, he] at h
            exact exo_lst (Option.some.inj h)
          | ins c fs =>
            obtain ⟨c', dx, gs, _, h, _⟩ := o.ob n c fs (by rw [List.getElem?_eq_getElem hn, hc])
            rw [z, he] at h
            exact exo_ins (Option.some.inj h)
          | tab P w =>
            obtain ⟨e1, ps1, h, _⟩ := o.tb n P w (by rw [List.getElem?_eq_getElem hn, hc])
            rw [← e1, z, he] at h
            exact exo_tbl (Option.some.inj h)
          | dct t2 kvs2 =>
            obtain ⟨ws2, h, _⟩ := o.dc n t2 kvs2 (by rw [List.getElem?_eq_getElem hn, hc])
            rw [z, he] at h
            exact dHO_ne_ext (Option.some.inj h).symm
          | hid =>
            obtain ⟨ob2, u2, h⟩ := o.hd n (by rw [List.getElem?_eq_getElem hn, hc])
            rw [z, he] at h
            exact exo_frz (Option.some.inj h)
        · obtain ⟨μ', q1, q2⟩ := p μ1 H1 σ' t1.wide o1 (s2.mono t1) fun a z => absurd (own2 a z) (own a)
          have he1 : H1 e = some (exo e C none) := by
            refine t1.keep _ _ he (fun n hn z => ?_) fun z => z
            obtain ⟨u, hu⟩ := o.at_ hn
            cases hc : st[n] with
            | lst xs =>
              obtain ⟨vs, h, _⟩ := o.cell n xs (by rw [List.getElem?_eq_getElem hn, hc])
              rw [z, he] at h
              exact exo_lst (Option.some.inj h)
            | ins c fs =>
              obtain ⟨c', dx, gs, _, h, _⟩ := o.ob n c fs (by rw [List.getElem?_eq_getElem hn, hc])
              rw [z, he] at h
              exact exo_ins (Option.some.inj h)
            | tab P w =>
              obtain ⟨e1, ps1, h, _⟩ := o.tb n P w (by rw [List.getElem?_eq_getElem hn, hc])
              rw [← e1, z, he] at h
              exact exo_tbl (Option.some.inj h)
            | dct t2 kvs2 =>
              obtain ⟨ws2, h, _⟩ := o.dc n t2 kvs2 (by rw [List.getElem?_eq_getElem hn, hc])
              rw [z, he] at h
              exact dHO_ne_ext (Option.some.inj h).symm
            | hid =>
              obtain ⟨ob2, u2, h⟩ := o.hd n (by rw [List.getElem?_eq_getElem hn, hc])
              rw [z, he] at h
              exact exo_frz (Option.some.inj h)
          have wish : t { nx := fun _ H2 => Q .non H2, rt := fun _ _ => False, bk := fun _ _ => False, ct := fun _ _ => False } σ' H1 := by
            refine hsets _ σ' H1 ws (by simp [σ', lw]) (fun j w hj => ?_) (by rw [lw, hl]) he1 hn fun dx hdx hde => hq μ' H1 dx q1 q2 he1 hdx hde
            have hj' : j < ws.length := (List.getElem?_eq_some_iff.mp hj).1
            show (ws.map some ++ _)[0 + j]? = _
            rw [Nat.zero_add, List.getElem?_append_left (by simpa using hj'), List.getElem?_map, hj]; rfl
          refine PySem.wpAt_of_wpAny (wpAny_mono (ht.run [] s' σ' H1 _ J wish) (fun fl s2 hs => ?_) fun _ _ z => z)
          cases fl with
          | next =>
            obtain ⟨σ2, H2, J2, q⟩ := hs
            exact ⟨.non, H2, J2.os, J2.bare, J2.base, J2.hok, rfl, q⟩
          | ret u =>
            obtain ⟨v, σ2, H2, J2, rv, q⟩ := hs
            exact q.elim
          | brk => obtain ⟨_, _, _, q⟩ := hs; exact q.elim
          | cont => obtain ⟨_, _, _, q⟩ := hs; exact q.elim
    · cases hb
end U

set_option maxHeartbeats 4000000
/-! X4: an error with fields in the suite of a clause; a class of errors from the written part. -/
namespace U
open PySem PySem.W PyProof.Rows L2
section
variable {X : Cx} {a D dd : Addr} {oe : Obj} {l : List (Addr × Obj)}
theorem inst_D {pins : List (Addr × Obj)} {σ : L2.St} {H : Hp} {s : Shared} {gs : List (Str × V)} (hz : Zc (.ref D) (some dd) oe) (hf : ∃ vs, oe.data = .fields vs) (I : L2.Inv (X.suite a ((a, oe) :: l)) pins σ H s) (hd : H dd = some (.xd gs)) :
    ∃ od, InstAt s.heap a oe D (some od) := by
  obtain ⟨hget, _⟩ := I.pin (a, oe) (List.mem_append.mpr (.inl List.mem_cons_self))
  obtain ⟨vs, hv⟩ := hf
  have hx : ObjOk X.prog X.w H s.heap dd (.xd gs) := I.hok dd _ hd
  obtain ⟨mA, hns, hr⟩ := hx
  obtain ⟨od, ho, hl⟩ := lookIn_ns hns
  exact ⟨od, hget, hz.1, by unfold PySem.W.notCls; rw [hv] <;> rfl, by rw [hz.2]; exact ho⟩
theorem kit_D {K : Frag} (C : ExcC K D) {od : Option Obj} : KitX K (.ref a) (.ref D) (fun h => InstAt h a oe D od) :=
  kitx_exc (by obtain ⟨cd, hc, _⟩ := any_some C.hd; rw [hc]; rfl) C.hg C.hk C.hs C.ha C.hn C.ht C.hm
/-- isinstance(e, A) -/
theorem call_isD (C : ExcC X.K D) (hz : Zc (.ref D) (some dd) oe) (hf : ∃ vs, oe.data = .fields vs) : CallR (X.suite a ((a, oe) :: l)) (.builtin "isinstance")
    (fun xs H Q => ∃ (c : V) (cv : Value) (b : Bool) (gs : List (Str × V)), xs = [.ref a, c] ∧ (∀ u, RelV c u → u = cv) ∧ kitOne X.K (.ref D) cv = some b ∧ H dd = some (.xd gs) ∧ Q (.bl b) H) := by
  intro pins s σ H xs us Q I r h
  obtain ⟨c, cv, b, gs, rfl, hcv, e, hd, q⟩ := h
  cases r with
  | cons rx rr =>
    cases rr with
    | cons rt rr =>
      cases rr
      cases rx
      have ec := hcv _ rt
      subst ec
      obtain ⟨od, J⟩ := inst_D hz hf I hd
      exact kia_one (kit_D C) I.kIn J e (fun z => nomatch z) fun tk => ⟨.bl b, H, I.kept (t' := tk) fun _ _ z => z, rfl, q⟩
/-- isinstance(e, (A, B, ..)) -/
theorem call_isTD (C : ExcC X.K D) (hz : Zc (.ref D) (some dd) oe) (hf : ∃ vs, oe.data = .fields vs) : CallR (X.suite a ((a, oe) :: l)) (.builtin "isinstance")
    (fun xs H Q => ∃ (tp : Addr) (cs : List Addr) (b : Bool) (gs : List (Str × V)), xs = [.ref a, .ref tp] ∧ H tp = some (.tup (cs.map V.ref)) ∧ kitAny X.K (.ref D) (cs.map Value.ref) = some b ∧ H dd = some (.xd gs) ∧ Q (.bl b) H) := by
  intro pins s σ H xs us Q I r h
  obtain ⟨tp, cs, b, gs, rfl, ht, e, hd, q⟩ := h
  cases r with
  | cons rx rr =>
  cases rr with
  | cons rt rn =>
  cases rn
  cases rx
  cases rt
  obtain ⟨od, J⟩ := inst_D hz hf I hd
  obtain ⟨_, its, rv, ⟨oc, od, dt, sl⟩, o1, o2, n, o3⟩ := I.hok tp _ ht
  dsimp only at o2 o3
  subst o2 o3
  have ei := refs_eq rv
  subst ei
  exact kia_tup (kit_D C) I.kIn J o1 e (fun z => nomatch z) fun tk => ⟨.bl b, H, I.kept (t' := tk) fun _ _ z => z, rfl, q⟩
variable {xe : Str} {ie : Nat} {p1 p2 p3 p4 : Pos} {k1 : Nat}
theorem pe_isTD (C : ExcC X.K D) (hz : Zc (.ref D) (some dd) oe) (hf : ∃ vs, oe.data = .fields vs) (hN : X.N[ie]? = some xe) (hv : Vis X.env.scope xe) (hd : (xe == ("__debug__" : Str)) = false) (hc : (xe == ("__classdict__" : Str)) = false)
    (gi : Gl X "isinstance") (mi : X.mg "isinstance" = none) {es : List Expr} {cs : List Addr} (hns : Nms X es cs) (hl : cs.length ≤ 1000) {b : Bool} (e : kitAny X.K (.ref D) (cs.map Value.ref) = some b) :
    PE (X.suite a ((a, oe) :: l)) (.Call (.Name "isinstance" p1) [.Name xe p2, .Tuple es k1 p3] [] p4)
      (tErr a ie fun σ H Q => ∃ gs, H dd = some (.xd gs) ∧ ∀ tp, H tp = none → Q (.bl b) (upd H tp (.tup (cs.map V.ref)))) := by
  have pv : PE (X.suite a ((a, oe) :: l)) (.Name xe p2) (tVar ie) := pe_var hN hv hd hc
  have pt : PE (X.suite a ((a, oe) :: l)) (.Tuple es k1 p3) (tTup fun σ H Q => Q (cs.map V.ref) H) := pe_tup (pa_names hns.suite)
  refine (pe_callB (call_isTD (l := l) C hz hf) gi mi (by decide +kernel) (pa_cons pv (pa_cons pt pa_nil))).imp fun σ H Q ⟨h1, gs, h2, h3⟩ => ?_
  refine ⟨_, h1, ?_, fun tp ht => ?_⟩
  · rw [List.length_map, sizeLine_eq]; omega
  · exact ⟨tp, cs, b, gs, rfl, upd_same, e, by rw [upd_ne (fun z => by rw [z, ht] at h2; cases h2)]; exact h2, h3 tp ht⟩
theorem pe_isCD (C : ExcC X.K D) (hz : Zc (.ref D) (some dd) oe) (hf : ∃ vs, oe.data = .fields vs) (hN : X.N[ie]? = some xe) (hv : Vis X.env.scope xe) (hd : (xe == ("__debug__" : Str)) = false) (hc : (xe == ("__classdict__" : Str)) = false)
    (gi : Gl X "isinstance") (mi : X.mg "isinstance" = none) {g : Expr} {c : V} {cv : Value} (pc : PE (X.suite a ((a, oe) :: l)) g (tC c)) (hcv : ∀ u, RelV c u → u = cv) (pl : plainE g = true) {b : Bool} (e : kitOne X.K (.ref D) cv = some b) :
    PE (X.suite a ((a, oe) :: l)) (.Call (.Name "isinstance" p1) [.Name xe p2, g] [] p4) (tErr a ie fun σ H Q => ∃ gs, H dd = some (.xd gs) ∧ Q (.bl b) H) := by
  have pv : PE (X.suite a ((a, oe) :: l)) (.Name xe p2) (tVar ie) := pe_var hN hv hd hc
  have st : ∀ E : Env, starEach [g] E = [(false, eval g E)] := fun E => star_ok pl [] E
  refine (pe_callB (call_isD (l := l) C hz hf) gi mi (by decide +kernel) (pa_cons pv (pa_cons pc pa_nil (st _))) (by decide) rfl rfl (by rw [st]; rfl)).imp fun σ H Q ⟨h1, gs, h2, h3⟩ => ?_
  exact ⟨_, h1, c, cv, b, gs, rfl, hcv, e, h2, h3⟩
end
/-- a class of errors over ValueError, from the written part -/
theorem ve_tail : ∀ l : List Value, excTail [.type "ValueError", .type "Exception", .type "BaseException", .type "object"] l = true → PySem.HandSPX.refsVE l = true := by
  intro l
  induction l with
  | nil => intro e; exact e
  | cons a r ih =>
    intro e
    rcases excTail_cases (a :: r) e with ⟨c, r', q, h⟩ | q
    · obtain ⟨rfl, rfl⟩ := List.cons.inj q
      exact ih h
    · rw [q]; decide
theorem oex_of {K : Frag} {C : Addr} (q : excInitIn K C [.type "ValueError", .type "Exception", .type "BaseException", .type "object"] "ValueError.__new__" = true) (hh : hasDictIn K C = true) (sa : findIn K (.ref C) "__setattr__" = some (some (.builtin "object.__setattr__")))
    (ex : subIn K (.ref C) (.type "BaseException") = some true) (ty : typeIn K (.ref C) = some (.type "type")) (kp : keepIn K (.ref C) = true) : OexC K C := by
  refine ⟨?_, sa, ex, ty, kp⟩
  unfold excInitIn at q
  split at q
  · rename_i dd cd sl ho
    split at q
    · rename_i C' bm k0 k1 k2 k3 n k5 hm hs
      simp only [Bool.and_eq_true, beq_iff_eq, Bool.not_eq_true'] at q
      obtain ⟨⟨⟨rfl, rfl⟩, hdel⟩, ht⟩ := q
      obtain ⟨cd', hc, hdc⟩ := any_some hh
      have e : clsIn K C' = some cd := by unfold clsIn; rw [ho]
      rw [e] at hc
      cases hc
      obtain ⟨nm, bs, mro, ns, qn, hd, sn, sub, ab, col, del⟩ := cd
      dsimp only at hm hdel hdc
      subst hm hdel hdc
      have hsl : sl = #[k0, k1, k2, k3, some (.builtin "ValueError.__new__"), k5] := by
        obtain ⟨l⟩ := sl
        simp only at hs
        rw [hs]
      subst hsl
      exact ⟨nm, qn, ns, bs, bm, sn, sub, ab, col, dd, k0, k1, k2, k3, k5, ho, ve_tail _ ht⟩
    · cases q
  · cases q
end U

set_option maxHeartbeats 8000000
namespace K31
abbrev DEEP : Nat := 60
abbrev TURNS : Nat := 200
/-! the program's own text, by the generator -/
open PySem PySem.Spec PyProof.Rows L2 U
def topS (i : Nat) : Stmt := PySem.Challenge.pw_flowform_k31_classes_of_nodes.main.body.getD i (.Pass ⟨0, 0, 0, 0⟩)
def e212_0 : ME :=
  (.bi .tuple (.cons (.var 4) .nil))
def b212_1 : MSs :=
  (.cons (.ex (.mt .append (.dsdf (.var 1) (.var 3) (.lst .nil)) (.cons (.var 2) .nil)))
  .nil)
/-- classes -/
abbrev s212 : Stmt := topS 1
def n212 : List Str := ["graph", "found", "node", "number", "nodes"]
def p212 : List Str := ["graph"]
def d212 : Def := { np := 1, nl := 5, body :=
  (.cons (.set 1 (.dnew false) false)
  (.cons (.for_ (.tp [2, 3]) (.enm (.fn 213 (.cons (.var 0) .nil))) b212_1)
  (.cons (.ret (.bi .tuple (.cons (.lcv e212_0 (.nm 4) 1) .nil)))
  .nil))) }
def w213_0 : ME :=
  (.cmp .gt (.bi .max (.cons (.var 1) .nil)) (.var 2))
def e213_1 : ME :=
  (.ix (.var 1) (.var 6))
def b213_2 : MSs :=
  (.cons (.ex (.mt .append (.var 3) (.cons (.tupS (.cons (.var 5) (.cons (.star (.lc e213_1 (.nm 6) (.sl (.var 4) (.con (.int 2)) (.con .non)) false (.con (.bl true)))) .nil))) .nil)))
  .nil)
def b213_3 : MSs :=
  (.cons (.set 2 (.bi .max (.cons (.var 1) .nil)) true)
  (.cons (.set 3 (.lst .nil) false)
  (.cons (.forZ (.tp [4, 5]) (.cons (.var 0) (.cons (.var 1) .nil)) b213_2)
  (.cons (.set 1 (.fn 214 (.cons (.var 3) .nil)) false)
  .nil))))
def e213_4 : ME :=
  (.sl (.var 4) (.con .non) (.con (.int 2)))
/-- _class_numbers -/
abbrev s213 : Stmt := topS 2
def n213 : List Str := ["graph", "numbers", "greatest", "keys", "node", "number", "other"]
def p213 : List Str := ["graph"]
def d213 : Def := { np := 1, nl := 7, body :=
  (.cons (.set 1 (.fn 214 (.cons (.lc e213_4 (.nm 4) (.var 0) false (.con (.bl true))) .nil)) false)
  (.cons (.set 2 (.neg (.con (.int 1))) true)
  (.cons (.whl w213_0 b213_3)
  (.cons (.ret (.var 1))
  .nil)))) }
def e214_0 : ME :=
  (.dsdf (.var 1) (.var 2) (.dlen (.var 1)))
/-- _numbers_of_keys -/
abbrev s214 : Stmt := topS 3
def n214 : List Str := ["keys", "numbers", "key"]
def p214 : List Str := ["keys"]
def d214 : Def := { np := 1, nl := 3, body :=
  (.cons (.set 1 (.dnew true) false)
  (.cons (.ret (.lc e214_0 (.nm 2) (.var 0) false (.con (.bl true))))
  .nil)) }
def b4_0 : MSs :=
  (.cons (.set 1 (.bin .mod (.bi .int (.cons (.bin .add (.bin .mul (.var 1) (.con (.int 31))) (.bi .abs (.cons (.bi .int (.cons (.var 2) .nil)) .nil))) .nil)) (.con (.int 2147483647))) false)
  .nil)
/-- _law_tape -/
abbrev s4 : Stmt := topS 5
def n4 : List Str := ["script", "total", "cell"]
def p4 : List Str := ["script"]
def d4 : Def := { np := 1, nl := 3, body :=
  (.cons (.set 1 (.con (.int 7)) false)
  (.cons (.for_ (.nm 2) (.var 0) b4_0)
  (.cons (.ret (.lst (.cons (.bi .list (.cons (.var 0) .nil)) (.cons (.con (.int 0)) (.cons (.con (.int 0)) (.cons (.var 1) .nil))))))
  .nil))) }
/-- _law_draw -/
abbrev s5 : Stmt := topS 6
def n5 : List Str := ["tape", "many", "place", "number"]
def p5 : List Str := ["tape", "many"]
def d5 : Def := { np := 2, nl := 4, body :=
  (.cons (.ite (.cmp .eq (.ix (.var 0) (.con (.int 2))) (.con (.int 0))) (.cons (.set 2 (.ix (.var 0) (.con (.int 1))) false)
  (.cons (.set 3 (.con (.int 0)) false)
  (.cons (.ite (.cmp .lt (.var 2) (.bi .len (.cons (.ix (.var 0) (.con (.int 0))) .nil))) (.cons (.set 3 (.bi .abs (.cons (.bi .int (.cons (.ix (.ix (.var 0) (.con (.int 0))) (.var 2)) .nil)) .nil)) false)
  .nil) (.cons (.setIx (.var 0) (.con (.int 3)) (.bin .mod (.bi .int (.cons (.bin .add (.bin .add (.bin .mul (.ix (.var 0) (.con (.int 3))) (.con (.int 48271))) (.var 2)) (.con (.int 1))) .nil)) (.con (.int 2147483647))))
  (.cons (.set 3 (.ix (.var 0) (.con (.int 3))) false)
  .nil)))
  (.cons (.setIx (.var 0) (.con (.int 1)) (.bin .add (.var 2) (.con (.int 1))))
  (.cons (.ite (.cmp .lt (.var 3) (.bin .pow (.con (.int 10)) (.con (.int 18)))) (.cons (.set 3 (.bin .mod (.bi .int (.cons (.bin .add (.bin .add (.bin .mul (.var 3) (.con (.int 48271))) (.bin .mul (.var 2) (.con (.int 69621)))) (.con (.int 5))) .nil)) (.con (.int 2147483647))) false)
  (.cons (.set 3 (.bin .mod (.bi .int (.cons (.bin .mul (.var 3) (.con (.int 69621))) .nil)) (.con (.int 2147483629))) false)
  (.cons (.ret (.bin .mod (.bi .int (.cons (.var 3) .nil)) (.bi .max (.cons (.var 1) (.cons (.con (.int 1)) .nil)))))
  .nil))) .nil)
  (.cons (.setIx (.var 0) (.con (.int 2)) (.var 3))
  .nil)))))) .nil)
  (.cons (.set 3 (.ix (.var 0) (.con (.int 2))) false)
  (.cons (.setIx (.var 0) (.con (.int 2)) (.bin .fdiv (.var 3) (.bi .max (.cons (.var 1) (.cons (.con (.int 2)) .nil)))))
  (.cons (.ret (.bin .mod (.bi .int (.cons (.var 3) .nil)) (.bi .max (.cons (.var 1) (.cons (.con (.int 1)) .nil)))))
  .nil)))) }
def b6_0 : MSs :=
  (.cons (.set 8 (.bin .add (.var 8) (.ix (.var 2) (.fn 5 (.cons (.var 0) (.cons (.con (.int 63)) .nil))))) false)
  .nil)
def b6_1 : MSs :=
  (.cons (.set 8 (.bin .add (.bin .add (.sl (.var 4) (.con .non) (.var 5)) (.ix (.var 2) (.fn 5 (.cons (.var 0) (.cons (.con (.int 52)) .nil))))) (.sl (.var 4) (.var 5) (.con .non))) false)
  (.cons (.for_ (.nm 9) (.rng (.con (.int 0)) (.ix (.lst (.cons (.con (.int 0)) (.cons (.con (.int 0)) (.cons (.con (.int 0)) (.cons (.con (.int 1)) (.cons (.con (.int 2)) (.cons (.con (.int 6)) .nil))))))) (.fn 5 (.cons (.var 0) (.cons (.con (.int 6)) .nil))))) b6_0)
  (.cons (.set 10 (.fn 5 (.cons (.var 0) (.cons (.con (.int 16)) .nil))) true)
  (.cons (.ite (.cmp .eq (.var 10) (.con (.int 0))) (.cons (.set 8 (.bin .add (.var 8) (.bin .mul (.con (.str "x")) (.bin .sub (.con (.int 30)) (.bi .len (.cons (.var 8) .nil))))) false)
  .nil) .nil)
  (.cons (.ite (.cmp .eq (.var 10) (.con (.int 1))) (.cons (.set 8 (.bin .add (.ix (.var 3) (.fn 5 (.cons (.var 0) (.cons (.con (.int 12)) .nil)))) (.sl (.var 8) (.con .non) (.con (.int 1)))) false)
  .nil) .nil)
  (.cons (.ite (.cmp .eq (.var 10) (.con (.int 2))) (.cons (.set 8 (.sl (.ix (.var 3) (.fn 5 (.cons (.var 0) (.cons (.con (.int 12)) .nil)))) (.con .non) (.neg (.con (.int 1)))) false)
  .nil) .nil)
  (.cons (.ite (.or (.cmp .inn (.var 8) (.var 3)) (.cmp .inn (.var 8) (.var 6))) (.cons (.set 8 (.bin .add (.con (.str "one_of_two_equal_names_")) (.bi .str (.cons (.var 7) .nil))) false)
  .nil) .nil)
  (.cons (.app 6 (.var 8))
  .nil))))))))
/-- _law_names -/
abbrev s6 : Stmt := topS 7
def n6 : List Str := ["tape", "many", "signs", "words", "stem", "place", "names", "k", "name", "j", "choice"]
def p6 : List Str := ["tape", "many"]
def d6 : Def := { np := 2, nl := 11, body :=
  (.cons (.set 2 (.con (.str "abcdefghijklmnopqrstuvwxyzABCDEFGHIJKLMNOPQRSTUVWXYZ0123456789_")) true)
  (.cons (.set 3 (.lst (.cons (.con (.str "let")) (.cons (.con (.str "if")) (.cons (.con (.str "else")) (.cons (.con (.str "while")) (.cons (.con (.str "for")) (.cons (.con (.str "break")) (.cons (.con (.str "continue")) (.cons (.con (.str "return")) (.cons (.con (.str "try")) (.cons (.con (.str "finally")) (.cons (.con (.str "true")) (.cons (.con (.str "false")) .nil))))))))))))) true)
  (.cons (.set 4 (.ix (.lst (.cons (.con (.str "")) (.cons (.con (.str "")) (.cons (.con (.str "sharedStem")) (.cons (.con (.str "while_x")) .nil))))) (.fn 5 (.cons (.var 0) (.cons (.con (.int 4)) .nil)))) true)
  (.cons (.set 5 (.fn 5 (.cons (.var 0) (.cons (.bin .add (.bi .len (.cons (.var 4) .nil)) (.con (.int 1))) .nil))) false)
  (.cons (.set 6 (.lst .nil) true)
  (.cons (.for_ (.nm 7) (.rng (.con (.int 0)) (.var 1)) b6_1)
  (.cons (.ret (.var 6))
  .nil))))))) }
def b209_0 : MSs :=
  (.cons (.app 3 (.mt .pop (.var 2) (.cons (.fn 5 (.cons (.var 0) (.cons (.bi .len (.cons (.var 2) .nil)) .nil))) .nil)))
  .nil)
/-- _law_outcomes -/
abbrev s209 : Stmt := topS 8
def n209 : List Str := ["tape", "name", "menu", "found", "k"]
def p209 : List Str := ["tape"]
def d209 : Def := { np := 1, nl := 5, body :=
  (.cons (.set 1 (.ix (.fn 6 (.cons (.var 0) (.cons (.con (.int 1)) .nil))) (.con (.int 0))) true)
  (.cons (.set 2 (.lst (.cons (.con (.str "end")) (.cons (.con (.str "return")) (.cons (.bin .add (.con (.str "return ")) (.bi .str (.cons (.fn 5 (.cons (.var 0) (.cons (.con (.int 100)) .nil))) .nil))) (.cons (.con (.str "hang")) (.cons (.bin .add (.con (.str "break ")) (.var 1)) (.cons (.bin .add (.con (.str "continue ")) (.var 1)) (.cons (.con (.str "return 0")) .nil)))))))) false)
  (.cons (.set 3 (.lst .nil) true)
  (.cons (.for_ (.nm 4) (.rng (.con (.int 0)) (.bin .add (.con (.int 1)) (.fn 5 (.cons (.var 0) (.cons (.con (.int 4)) .nil))))) b209_0)
  (.cons (.ret (.var 3))
  .nil))))) }
def b210_0 : MSs :=
  (.cons (.ite (.cmp .eq (.fn 5 (.cons (.var 0) (.cons (.ix (.lst (.cons (.con (.int 12)) (.cons (.con (.int 3)) .nil))) (.bi .int (.cons (.cmp .gt (.var 5) (.con (.int 0))) .nil))) .nil))) (.con (.int 0))) (.cons (.app 4 (.tup (.cons (.con (.str "outcome")) (.cons (.ix (.var 3) (.fn 5 (.cons (.var 0) (.cons (.bi .len (.cons (.var 3) .nil)) .nil)))) .nil))))
  .nil) (.cons (.app 4 (.tup (.cons (.con (.str "call")) (.cons (.ix (.var 2) (.fn 5 (.cons (.var 0) (.cons (.bi .len (.cons (.var 2) .nil)) .nil)))) (.cons (.fn 5 (.cons (.var 0) (.cons (.var 1) .nil))) (.cons (.fn 5 (.cons (.var 0) (.cons (.var 1) .nil))) .nil))))))
  .nil))
  .nil)
/-- _law_nodes -/
abbrev s210 : Stmt := topS 9
def n210 : List Str := ["tape", "many", "names", "outcomes", "rows", "k"]
def p210 : List Str := ["tape", "many", "names", "outcomes"]
def d210 : Def := { np := 4, nl := 6, body :=
  (.cons (.set 4 (.lst .nil) true)
  (.cons (.for_ (.nm 5) (.rng (.con (.int 0)) (.var 1)) b210_0)
  (.cons (.ret (.bi .tuple (.cons (.var 4) .nil)))
  .nil))) }
def c215_0 : ME :=
  (.cmp .eq (.ix (.var 5) (.var 11)) (.ix (.var 8) (.con (.int 3))))
def e215_1 : ME :=
  (.var 11)
def c215_2 : ME :=
  (.cmp .eq (.ix (.var 5) (.var 11)) (.ix (.var 8) (.con (.int 2))))
def e215_3 : ME :=
  (.var 11)
def b215_4 : MSs :=
  (.cons (.set 8 (.ix (.var 1) (.var 6)) false)
  (.cons (.ite (.cmp .eq (.ix (.var 8) (.con (.int 0))) (.con (.str "call"))) (.cons (.set 9 (.lc e215_3 (.nm 11) (.rng (.con (.int 0)) (.bi .len (.cons (.var 5) .nil))) true c215_2) true)
  (.cons (.set 10 (.lc e215_1 (.nm 11) (.rng (.con (.int 0)) (.bi .len (.cons (.var 5) .nil))) true c215_0) true)
  (.cons (.set 8 (.tup (.cons (.con (.str "call")) (.cons (.ix (.var 8) (.con (.int 1))) (.cons (.ix (.var 9) (.fn 5 (.cons (.var 0) (.cons (.bi .len (.cons (.var 9) .nil)) .nil)))) (.cons (.ix (.var 10) (.fn 5 (.cons (.var 0) (.cons (.bi .len (.cons (.var 10) .nil)) .nil)))) .nil))))) false)
  .nil))) .nil)
  (.cons (.app 7 (.var 8))
  .nil)))
def b215_5 : MSs :=
  (.cons (.ex (.mt .append (.var 5) (.cons (.ix (.var 3) (.mt .pop (.var 4) (.cons (.fn 5 (.cons (.var 0) (.cons (.bi .len (.cons (.var 4) .nil)) .nil))) .nil))) .nil)))
  .nil)
def e215_6 : ME :=
  (.var 6)
def e215_7 : ME :=
  (.var 6)
def e215_8 : ME :=
  (.fn 5 (.cons (.var 0) (.cons (.bi .len (.cons (.var 1) .nil)) .nil)))
/-- _law_blown -/
abbrev s215 : Stmt := topS 10
def n215 : List Str := ["tape", "graph", "more", "bases", "left", "placed", "k", "rows", "node", "yes", "no", "j"]
def p215 : List Str := ["tape", "graph", "more"]
def d215 : Def := { np := 3, nl := 12, body :=
  (.cons (.set 3 (.bin .add (.lc e215_7 (.nm 6) (.rng (.con (.int 0)) (.bi .len (.cons (.var 1) .nil))) false (.con (.bl true))) (.lc e215_8 (.nm 6) (.rng (.con (.int 0)) (.var 2)) false (.con (.bl true)))) true)
  (.cons (.set 4 (.lc e215_6 (.nm 6) (.rng (.con (.int 1)) (.bi .len (.cons (.var 3) .nil))) false (.con (.bl true))) false)
  (.cons (.set 5 (.lst (.cons (.con (.int 0)) .nil)) false)
  (.cons (.for_ (.nm 6) (.rng (.con (.int 0)) (.bin .sub (.bi .len (.cons (.var 3) .nil)) (.con (.int 1)))) b215_5)
  (.cons (.set 7 (.lst .nil) true)
  (.cons (.for_ (.nm 6) (.var 5) b215_4)
  (.cons (.ret (.bi .tuple (.cons (.var 7) .nil)))
  .nil))))))) }
/-- _law_bent -/
abbrev s216 : Stmt := topS 11
def n216 : List Str := ["tape", "graph", "names", "outcomes", "k", "node", "choice", "at"]
def p216 : List Str := ["tape", "graph", "names", "outcomes"]
def d216 : Def := { np := 4, nl := 8, body :=
  (.cons (.set 4 (.fn 5 (.cons (.var 0) (.cons (.bi .len (.cons (.var 1) .nil)) .nil))) false)
  (.cons (.set 5 (.ix (.var 1) (.var 4)) false)
  (.cons (.set 6 (.fn 5 (.cons (.var 0) (.cons (.con (.int 6)) .nil))) true)
  (.cons (.ite (.and (.cmp .lt (.var 6) (.con (.int 4))) (.cmp .eq (.ix (.var 5) (.con (.int 0))) (.con (.str "call")))) (.cons (.set 7 (.bin .add (.con (.int 2)) (.fn 5 (.cons (.var 0) (.cons (.con (.int 2)) .nil)))) false)
  (.cons (.set 5 (.bin .add (.bin .add (.sl (.var 5) (.con .non) (.var 7)) (.tup (.cons (.fn 5 (.cons (.var 0) (.cons (.bi .len (.cons (.var 1) .nil)) .nil))) .nil))) (.sl (.var 5) (.bin .add (.var 7) (.con (.int 1))) (.con .non))) false)
  .nil)) (.cons (.ite (.and (.cmp .eq (.ix (.var 5) (.con (.int 0))) (.con (.str "call"))) (.cmp .eq (.var 6) (.con (.int 4)))) (.cons (.set 5 (.bin .add (.tup (.cons (.con (.str "call")) (.cons (.ix (.var 2) (.fn 5 (.cons (.var 0) (.cons (.bi .len (.cons (.var 2) .nil)) .nil)))) .nil))) (.sl (.var 5) (.con (.int 2)) (.con .non))) false)
  .nil) (.cons (.set 5 (.tup (.cons (.con (.str "outcome")) (.cons (.ix (.var 3) (.fn 5 (.cons (.var 0) (.cons (.bi .len (.cons (.var 3) .nil)) .nil)))) .nil))) false)
  .nil))
  .nil))
  (.cons (.ret (.bin .add (.bin .add (.sl (.var 1) (.con .non) (.var 4)) (.tup (.cons (.var 5) .nil))) (.sl (.var 1) (.bin .add (.var 4) (.con (.int 1))) (.con .non))))
  .nil))))) }
def b217_0 : MSs :=
  (.cons (.set 11 (.tup (.cons (.ix (.var 8) (.bin .sub (.con (.int 3)) (.bi .int (.cons (.var 10) .nil)))) (.cons (.ix (.var 9) (.bin .sub (.con (.int 3)) (.bi .int (.cons (.var 10) .nil)))) .nil))) false)
  (.cons (.ite (.dhas true (.var 11) (.var 6)) (.cons (.dput (.var 6) (.var 11) (.con (.bl true)))
  (.cons (.app 4 (.var 11))
  (.cons (.app 5 (.bin .add (.ix (.var 5) (.var 7)) (.lst (.cons (.var 10) .nil))))
  .nil))) .nil)
  .nil))
def b217_1 : MSs :=
  (.cons (.ite (.cmp .eq (.var 7) (.bi .len (.cons (.var 4) .nil))) (.cons (.ret (.con .non))
  .nil) .nil)
  (.cons (.set 8 (.ix (.var 0) (.ix (.ix (.var 4) (.var 7)) (.con (.int 0)))) true)
  (.cons (.set 9 (.ix (.var 1) (.ix (.ix (.var 4) (.var 7)) (.con (.int 1)))) true)
  (.cons (.ite (.cmp .ne (.sl (.var 8) (.con .non) (.con (.int 2))) (.sl (.var 9) (.con .non) (.con (.int 2)))) (.cons (.ret (.ix (.var 5) (.var 7)))
  .nil) .nil)
  (.cons (.ite (.cmp .eq (.ix (.var 8) (.con (.int 0))) (.con (.str "call"))) (.cons (.for_ (.nm 10) (.lst (.cons (.con (.bl true)) (.cons (.con (.bl false)) .nil))) b217_0)
  .nil) .nil)
  .nil)))))
/-- _law_parting -/
abbrev s217 : Stmt := topS 12
def n217 : List Str := ["first", "second", "one", "other", "pairs", "ways", "seen", "k", "here", "there", "answer", "pair"]
def p217 : List Str := ["first", "second", "one", "other"]
def d217 : Def := { np := 4, nl := 12, body :=
  (.cons (.set 4 (.lst (.cons (.tup (.cons (.var 2) (.cons (.var 3) .nil))) .nil)) true)
  (.cons (.set 5 (.lst (.cons (.lst .nil) .nil)) true)
  (.cons (.set 6 (.dsp (.tup (.cons (.var 2) (.cons (.var 3) .nil))) (.con (.bl true))) false)
  (.cons (.for_ (.nm 7) (.rng (.con (.int 0)) (.con (.int 10001))) b217_1)
  (.cons (.ret (.con .non))
  .nil))))) }
def e0_0 : ME :=
  (.bi .tuple (.cons (.var 11) .nil))
def c0_1 : ME :=
  (.cmp .isN (.fn 217 (.cons (.var 6) (.cons (.var 6) (.cons (.ix (.var 11) (.con (.int 0))) (.cons (.var 9) .nil))))) (.con .non))
def e0_2 : ME :=
  (.var 11)
def b0_3 : MSs :=
  (.cons (.set 10 (.lc e0_2 (.nm 11) (.var 8) true c0_1) true)
  (.cons (.ite (.var 10) (.cons (.set 11 (.ix (.var 10) (.con (.int 0))) false)
  (.cons (.ex (.mt .append (.var 11) (.cons (.var 9) .nil)))
  .nil)) (.cons (.app 8 (.lst (.cons (.var 9) .nil)))
  .nil))
  .nil))
def e0_4 : ME :=
  (.var 9)
def e0_5 : ME :=
  (.tup (.cons (.var 9) .nil))
def e0_6 : ME :=
  (.tup (.cons (.con (.str "call")) (.cons (.ix (.var 2) (.con (.int 0))) (.cons (.bin .add (.var 9) (.con (.int 1))) (.cons (.bin .add (.var 9) (.con (.int 1))) .nil)))))
/-- law -/
abbrev s0 : Stmt := topS 13
def n0 : List Str := ["script", "tape", "names", "outcomes", "many", "back", "graph", "due", "rows", "k", "alike", "row"]
def p0 : List Str := ["script"]
def d0 : Def := { np := 1, nl := 12, body :=
  (.cons (.set 1 (.fn 4 (.cons (.var 0) .nil)) false)
  (.cons (.set 2 (.fn 6 (.cons (.var 1) (.cons (.bin .add (.con (.int 1)) (.fn 5 (.cons (.var 1) (.cons (.con (.int 2)) .nil)))) .nil))) false)
  (.cons (.set 3 (.fn 209 (.cons (.var 1) .nil)) false)
  (.cons (.ite (.cmp .eq (.fn 5 (.cons (.var 1) (.cons (.con (.int 8)) .nil))) (.con (.int 0))) (.cons (.set 4 (.bin .add (.con (.int 1)) (.fn 5 (.cons (.var 1) (.cons (.con (.int 60)) .nil)))) false)
  (.cons (.ite (.cmp .eq (.fn 5 (.cons (.var 1) (.cons (.con (.int 3)) .nil))) (.con (.int 0))) (.cons (.set 4 (.con (.int 119)) false)
  .nil) .nil)
  (.cons (.set 5 (.fn 5 (.cons (.var 1) (.cons (.ix (.lst (.cons (.bin .add (.var 4) (.con (.int 1))) (.cons (.var 4) .nil))) (.bi .int (.cons (.cmp .eq (.var 4) (.con (.int 119))) .nil))) .nil))) false)
  (.cons (.set 6 (.bin .add (.bi .tuple (.cons (.lc e0_6 (.nm 9) (.rng (.con (.int 0)) (.var 4)) false (.con (.bl true))) .nil)) (.tup (.cons (.tup (.cons (.con (.str "outcome")) (.cons (.ix (.var 3) (.con (.int 0))) .nil))) .nil))) false)
  (.cons (.set 7 (.bi .tuple (.cons (.lc e0_5 (.nm 9) (.rng (.con (.int 0)) (.bin .add (.var 4) (.con (.int 1)))) false (.con (.bl true))) .nil)) true)
  (.cons (.ite (.cmp .lt (.var 5) (.var 4)) (.cons (.set 6 (.bin .add (.sl (.var 6) (.con .non) (.bin .sub (.var 4) (.con (.int 1)))) (.tup (.cons (.tup (.cons (.con (.str "call")) (.cons (.ix (.var 2) (.con (.int 0))) (.cons (.var 5) (.cons (.var 5) .nil))))) (.cons (.tup (.cons (.con (.str "outcome")) (.cons (.ix (.var 3) (.con (.int 0))) .nil))) .nil)))) false)
  (.cons (.set 7 (.tup (.cons (.bi .tuple (.cons (.lc e0_4 (.nm 9) (.rng (.con (.int 0)) (.var 4)) false (.con (.bl true))) .nil)) (.cons (.tup (.cons (.var 4) .nil)) .nil))) true)
  .nil)) .nil)
  (.cons (.ret (.cmp .eq (.bi .reprD (.cons (.fn 212 (.cons (.var 6) .nil)) .nil)) (.bi .reprD (.cons (.var 7) .nil))))
  .nil))))))) .nil)
  (.cons (.ite (.cmp .eq (.fn 5 (.cons (.var 1) (.cons (.con (.int 2)) .nil))) (.con (.int 0))) (.cons (.set 6 (.fn 210 (.cons (.var 1) (.cons (.bin .add (.con (.int 1)) (.fn 5 (.cons (.var 1) (.cons (.con (.int 8)) .nil)))) (.cons (.var 2) (.cons (.var 3) .nil))))) false)
  .nil) (.cons (.set 6 (.fn 210 (.cons (.var 1) (.cons (.bin .add (.con (.int 1)) (.fn 5 (.cons (.var 1) (.cons (.con (.int 5)) .nil)))) (.cons (.var 2) (.cons (.var 3) .nil))))) false)
  (.cons (.set 6 (.fn 215 (.cons (.var 1) (.cons (.var 6) (.cons (.fn 5 (.cons (.var 1) (.cons (.con (.int 9)) .nil))) .nil)))) false)
  (.cons (.ite (.cmp .eq (.fn 5 (.cons (.var 1) (.cons (.con (.int 2)) .nil))) (.con (.int 0))) (.cons (.set 6 (.fn 216 (.cons (.var 1) (.cons (.var 6) (.cons (.var 2) (.cons (.var 3) .nil))))) false)
  .nil) .nil)
  .nil))))
  (.cons (.set 8 (.lst .nil) true)
  (.cons (.for_ (.nm 9) (.rng (.con (.int 0)) (.bi .len (.cons (.var 6) .nil))) b0_3)
  (.cons (.ret (.cmp .eq (.bi .reprD (.cons (.fn 212 (.cons (.var 6) .nil)) .nil)) (.bi .reprD (.cons (.bi .tuple (.cons (.lc e0_0 (.nm 11) (.var 8) false (.con (.bl true))) .nil)) .nil))))
  .nil)))))))) }
def D : Nat → Option Def
  | 212 => some d212
  | 213 => some d213
  | 214 => some d214
  | 4 => some d4
  | 5 => some d5
  | 6 => some d6
  | 209 => some d209
  | 210 => some d210
  | 215 => some d215
  | 216 => some d216
  | 217 => some d217
  | 0 => some d0
  | _ => none
def cs : List (Str × PV) := []
def ds : List (Str × List (Str × PV)) := []
def xs : Xs := { er := [], ob := [] }
def bl : List Str := ["abs", "enumerate", "int", "len", "list", "max", "range", "repr", "str", "tuple", "zip"]
def fnm : List (Str × Nat) := [(("classes" : Str), 212), (("_class_numbers" : Str), 213), (("_numbers_of_keys" : Str), 214), (("_law_tape" : Str), 4), (("_law_draw" : Str), 5), (("_law_names" : Str), 6), (("_law_outcomes" : Str), 209), (("_law_nodes" : Str), 210), (("_law_blown" : Str), 215), (("_law_bent" : Str), 216), (("_law_parting" : Str), 217)]
theorem sc212 : FnScope n212 p212 (defScope s212) := ⟨rfl, rfl, rfl, by decide +kernel, rfl, by decide +kernel, by decide +kernel⟩
theorem t212 : mSs ⟨n212, defScope s212, fnm, cs, bl, ds, false, xs⟩ d212.body (defBody s212) = true := by decide +kernel
theorem sc213 : FnScope n213 p213 (defScope s213) := ⟨rfl, rfl, rfl, by decide +kernel, rfl, by decide +kernel, by decide +kernel⟩
theorem t213 : mSs ⟨n213, defScope s213, fnm, cs, bl, ds, false, xs⟩ d213.body (defBody s213) = true := by decide +kernel
theorem sc214 : FnScope n214 p214 (defScope s214) := ⟨rfl, rfl, rfl, by decide +kernel, rfl, by decide +kernel, by decide +kernel⟩
theorem t214 : mSs ⟨n214, defScope s214, fnm, cs, bl, ds, false, xs⟩ d214.body (defBody s214) = true := by decide +kernel
theorem sc4 : FnScope n4 p4 (defScope s4) := ⟨rfl, rfl, rfl, by decide +kernel, rfl, by decide +kernel, by decide +kernel⟩
theorem t4 : mSs ⟨n4, defScope s4, fnm, cs, bl, ds, false, xs⟩ d4.body (defBody s4) = true := by decide +kernel
theorem sc5 : FnScope n5 p5 (defScope s5) := ⟨rfl, rfl, rfl, by decide +kernel, rfl, by decide +kernel, by decide +kernel⟩
theorem t5 : mSs ⟨n5, defScope s5, fnm, cs, bl, ds, false, xs⟩ d5.body (defBody s5) = true := by decide +kernel
theorem sc6 : FnScope n6 p6 (defScope s6) := ⟨rfl, rfl, rfl, by decide +kernel, rfl, by decide +kernel, by decide +kernel⟩
theorem t6 : mSs ⟨n6, defScope s6, fnm, cs, bl, ds, false, xs⟩ d6.body (defBody s6) = true := by decide +kernel
theorem sc209 : FnScope n209 p209 (defScope s209) := ⟨rfl, rfl, rfl, by decide +kernel, rfl, by decide +kernel, by decide +kernel⟩
theorem t209 : mSs ⟨n209, defScope s209, fnm, cs, bl, ds, false, xs⟩ d209.body (defBody s209) = true := by decide +kernel
theorem sc210 : FnScope n210 p210 (defScope s210) := ⟨rfl, rfl, rfl, by decide +kernel, rfl, by decide +kernel, by decide +kernel⟩
theorem t210 : mSs ⟨n210, defScope s210, fnm, cs, bl, ds, false, xs⟩ d210.body (defBody s210) = true := by decide +kernel
theorem sc215 : FnScope n215 p215 (defScope s215) := ⟨rfl, rfl, rfl, by decide +kernel, rfl, by decide +kernel, by decide +kernel⟩
theorem t215 : mSs ⟨n215, defScope s215, fnm, cs, bl, ds, false, xs⟩ d215.body (defBody s215) = true := by decide +kernel
theorem sc216 : FnScope n216 p216 (defScope s216) := ⟨rfl, rfl, rfl, by decide +kernel, rfl, by decide +kernel, by decide +kernel⟩
theorem t216 : mSs ⟨n216, defScope s216, fnm, cs, bl, ds, false, xs⟩ d216.body (defBody s216) = true := by decide +kernel
theorem sc217 : FnScope n217 p217 (defScope s217) := ⟨rfl, rfl, rfl, by decide +kernel, rfl, by decide +kernel, by decide +kernel⟩
theorem t217 : mSs ⟨n217, defScope s217, fnm, cs, bl, ds, false, xs⟩ d217.body (defBody s217) = true := by decide +kernel
theorem sc0 : FnScope n0 p0 (defScope s0) := ⟨rfl, rfl, rfl, by decide +kernel, rfl, by decide +kernel, by decide +kernel⟩
theorem t0 : mSs ⟨n0, defScope s0, fnm, cs, bl, ds, true, xs⟩ d0.body (defBody s0) = true := by decide +kernel

end K31

set_option maxHeartbeats 4000000
namespace K31
open PySem L2 U
/-! ### numbers by the first time that a key comes -/
abbrev Ky := List L2.Key
instance (priority := 2000) : BEq Ky := instBEqOfDecidableEq
instance (priority := 2000) : LawfulBEq Ky := inferInstance
def fin : List Ky → List Ky → List Ky
  | [], s => s
  | k :: ks, s => if k ∈ s then fin ks s else fin ks (s ++ [k])
def nbs : List Ky → List Ky → List Nat
  | [], _ => []
  | k :: ks, s => if k ∈ s then s.idxOf k :: nbs ks s else s.length :: nbs ks (s ++ [k])
theorem idx_app {k : Ky} : ∀ {s t : List Ky}, k ∈ s → (s ++ t).idxOf k = s.idxOf k := fun h => by rw [List.idxOf_append, if_pos h]
theorem idx_new {k : Ky} {s : List Ky} (h : k ∉ s) (t : List Ky) : ((s ++ [k]) ++ t).idxOf k = s.length := by
  rw [idx_app (by simp), List.idxOf_append, if_neg h]
  simp
theorem fin_ext : ∀ (ks s : List Ky), ∃ t, fin ks s = s ++ t
  | [], s => ⟨[], by simp [fin]⟩
  | k :: ks, s => by
    unfold fin
    split
    · exact fin_ext ks s
    · obtain ⟨t, h⟩ := fin_ext ks (s ++ [k])
      exact ⟨k :: t, by rw [h]; simp⟩
theorem fin_mem : ∀ (ks s : List Ky) (x : Ky), x ∈ fin ks s ↔ x ∈ s ∨ x ∈ ks
  | [], s, x => by simp [fin]
  | k :: ks, s, x => by
    unfold fin
    split
    · rename_i h
      rw [fin_mem ks s x]
      constructor
      · rintro (h1 | h1)
        · exact .inl h1
        · exact .inr (List.mem_cons_of_mem _ h1)
      · rintro (h1 | h1)
        · exact .inl h1
        · rcases List.mem_cons.mp h1 with rfl | h1
          · exact .inl h
          · exact .inr h1
    · rw [fin_mem ks (s ++ [k]) x]
      simp [or_assoc]
theorem fin_nodup : ∀ (ks s : List Ky), s.Nodup → (fin ks s).Nodup
  | [], s, h => h
  | k :: ks, s, h => by
    unfold fin
    split
    · exact fin_nodup ks s h
    · rename_i n
      refine fin_nodup ks _ ?_
      rw [List.nodup_append]
      refine ⟨h, by simp, fun a ha b hb e => ?_⟩
      rw [List.mem_singleton] at hb
      subst hb; subst e; exact n ha
theorem nbs_map : ∀ (ks s : List Ky), nbs ks s = ks.map fun k => (fin ks s).idxOf k
  | [], s => rfl
  | k :: ks, s => by
    unfold nbs
    rw [show fin (k :: ks) s = if k ∈ s then fin ks s else fin ks (s ++ [k]) from rfl]
    split
    · rename_i h
      rw [nbs_map ks s, List.map_cons]
      obtain ⟨t, ht⟩ := fin_ext ks s
      congr 1
      rw [ht, idx_app h]
    · rename_i h
      rw [nbs_map ks (s ++ [k]), List.map_cons]
      obtain ⟨t, ht⟩ := fin_ext ks (s ++ [k])
      congr 1
      rw [ht, idx_new h]
theorem nbs_len (ks s : List Ky) : (nbs ks s).length = ks.length := by rw [nbs_map]; simp
theorem idx_at : ∀ {l : List Ky} {a : Ky}, a ∈ l → l[l.idxOf a]? = some a
  | [], _, h => by cases h
  | b :: l, a, h => by
    rw [List.idxOf_cons]
    by_cases e : b = a
    · subst e; simp
    · have e2 : (b == a) = false := by simpa using e
      rw [e2]
      have : a ∈ l := by
        rcases List.mem_cons.mp h with z | z
        · exact absurd z.symm e
        · exact z
      simpa using idx_at this
theorem idx_inj {l : List Ky} {a b : Ky} (ha : a ∈ l) (h : l.idxOf a = l.idxOf b) : a = b := by
  have h1 : l.idxOf a < l.length := List.idxOf_lt_length_iff.mpr ha
  have h2 : l[l.idxOf a]? = some a := idx_at ha
  have h3 : l.idxOf b < l.length := by omega
  have h4 : l[l.idxOf b]? = some b := idx_at (List.idxOf_lt_length_iff.mp h3)
  rw [h, h4] at h2
  exact (Option.some.inj h2).symm
theorem nbs_at {ks : List Ky} {i : Nat} {k : Ky} (h : ks[i]? = some k) : (nbs ks [])[i]? = some ((fin ks []).idxOf k) := by rw [nbs_map, List.getElem?_map, h]; rfl
/-- the same number: the same key -/
theorem nbs_iff {ks : List Ky} {i j : Nat} {a b : Ky} (h1 : ks[i]? = some a) (h2 : ks[j]? = some b) : (nbs ks [])[i]? = (nbs ks [])[j]? ↔ a = b := by
  rw [nbs_at h1, nbs_at h2]
  constructor
  · intro h
    exact idx_inj ((fin_mem ks [] a).mpr (.inr (List.mem_of_getElem? h1))) (Option.some.inj h)
  · rintro rfl; rfl
theorem nbs_lt {ks : List Ky} {n : Nat} (h : n ∈ nbs ks []) : n < (fin ks []).length := by
  rw [nbs_map] at h
  obtain ⟨k, hk, rfl⟩ := List.mem_map.mp h
  exact List.idxOf_lt_length_iff.mpr ((fin_mem ks [] k).mpr (.inr hk))
theorem nodup_inj {l : List Ky} (h : l.Nodup) {i j : Nat} (hi : i < l.length) (hj : j < l.length) (e : l[i] = l[j]) : i = j := by
  have p := List.pairwise_iff_getElem.mp h
  rcases Nat.lt_trichotomy i j with q | q | q
  · exact absurd e (p i j hi hj q)
  · exact q
  · exact absurd e.symm (p j i hj hi q)
theorem idx_get {l : List Ky} (h : l.Nodup) {i : Nat} {x : Ky} (hx : l[i]? = some x) : l.idxOf x = i := by
  have hi : i < l.length := (List.getElem?_eq_some_iff.mp hx).1
  have hm : x ∈ l := List.mem_of_getElem? hx
  have h1 : l.idxOf x < l.length := List.idxOf_lt_length_iff.mpr hm
  have h2 : l[l.idxOf x]? = some x := idx_at hm
  have h3 := (List.getElem?_eq_some_iff.mp hx).2
  have h4 := (List.getElem?_eq_some_iff.mp h2).2
  exact nodup_inj h h1 hi (h4.trans h3.symm)
theorem nbs_top {ks : List Ky} (h : ks ≠ []) : (fin ks []).length - 1 ∈ nbs ks [] ∧ 1 ≤ (fin ks []).length := by
  have hl : 1 ≤ (fin ks []).length := by
    cases ks with
    | nil => exact absurd rfl h
    | cons k ks =>
      have : k ∈ fin (k :: ks) [] := (fin_mem _ _ _).mpr (.inr List.mem_cons_self)
      cases q : fin (k :: ks) [] with
      | nil => rw [q] at this; cases this
      | cons _ _ => simp
  refine ⟨?_, hl⟩
  have hi : (fin ks []).length - 1 < (fin ks []).length := by omega
  have hx := List.getElem?_eq_getElem hi
  have hm := (fin_mem ks [] _).mp (List.mem_of_getElem? hx)
  rcases hm with hm | hm
  · cases hm
  · rw [nbs_map]
    exact List.mem_map.mpr ⟨_, hm, idx_get (fin_nodup ks [] List.nodup_nil) hx⟩
/-! ### a finer numbering with no more numbers is the same one -/
theorem fin_grow : ∀ (ps : List (Ky × Ky)) (s s' : List Ky), (∀ p ∈ ps, p.2 ∈ s' → p.1 ∈ s) → (∀ p ∈ ps, ∀ q ∈ ps, p.2 = q.2 → p.1 = q.1) →
    (fin (ps.map Prod.fst) s).length + s'.length ≤ (fin (ps.map Prod.snd) s').length + s.length
  | [], s, s', _, _ => by simp [fin]; omega
  | (a, b) :: ps, s, s', h, f => by
    have f2 : ∀ p ∈ ps, ∀ q ∈ ps, p.2 = q.2 → p.1 = q.1 := fun p hp q hq => f p (List.mem_cons_of_mem _ hp) q (List.mem_cons_of_mem _ hq)
    have fb : ∀ p ∈ ps, p.2 = b → p.1 = a := fun p hp e => f p (List.mem_cons_of_mem _ hp) (a, b) List.mem_cons_self e
    have h2 : ∀ p ∈ ps, p.2 ∈ s' → p.1 ∈ s := fun p hp => h p (List.mem_cons_of_mem _ hp)
    rw [List.map_cons, List.map_cons]
    unfold fin
    dsimp only
    by_cases ha : a ∈ s
    · rw [if_pos ha]
      by_cases hb : b ∈ s'
      · rw [if_pos hb]
        exact fin_grow ps s s' h2 f2
      · rw [if_neg hb]
        have := fin_grow ps s (s' ++ [b]) (fun p hp hm => by
          rcases List.mem_append.mp hm with hm | hm
          · exact h2 p hp hm
          · rw [fb p hp (List.mem_singleton.mp hm)]; exact ha) f2
        rw [List.length_append, List.length_singleton] at this
        omega
    · have hb : b ∉ s' := fun hb => ha (h (a, b) List.mem_cons_self hb)
      rw [if_neg ha, if_neg hb]
      have := fin_grow ps (s ++ [a]) (s' ++ [b]) (fun p hp hm => by
        rcases List.mem_append.mp hm with hm | hm
        · exact List.mem_append_left _ (h2 p hp hm)
        · rw [fb p hp (List.mem_singleton.mp hm)]; simp) f2
      rw [List.length_append, List.length_append, List.length_singleton, List.length_singleton] at this
      omega
theorem nbs_same : ∀ (ps : List (Ky × Ky)) (s s' : List Ky), s.length = s'.length → s.Nodup → s'.Nodup → (∀ p ∈ ps, ∀ i : Nat, s'[i]? = some p.2 → s[i]? = some p.1) → (∀ p ∈ ps, ∀ q ∈ ps, p.2 = q.2 → p.1 = q.1) →
    (fin (ps.map Prod.snd) s').length ≤ (fin (ps.map Prod.fst) s).length → nbs (ps.map Prod.snd) s' = nbs (ps.map Prod.fst) s
  | [], _, _, _, _, _, _, _, _ => rfl
  | (a, b) :: ps, s, s', hl, n, n', h, f, le => by
    have f2 : ∀ p ∈ ps, ∀ q ∈ ps, p.2 = q.2 → p.1 = q.1 := fun p hp q hq => f p (List.mem_cons_of_mem _ hp) q (List.mem_cons_of_mem _ hq)
    have fb : ∀ p ∈ ps, p.2 = b → p.1 = a := fun p hp e => f p (List.mem_cons_of_mem _ hp) (a, b) List.mem_cons_self e
    have h2 : ∀ p ∈ ps, ∀ i : Nat, s'[i]? = some p.2 → s[i]? = some p.1 := fun p hp => h p (List.mem_cons_of_mem _ hp)
    have mem : ∀ p ∈ (a, b) :: ps, p.2 ∈ s' → p.1 ∈ s := fun p hp hm => by
      obtain ⟨i, hi⟩ := List.mem_iff_getElem?.mp hm
      exact List.mem_of_getElem? (h p hp i hi)
    rw [List.map_cons, List.map_cons] at le ⊢
    unfold nbs
    unfold fin at le
    dsimp only at le ⊢
    by_cases ha : a ∈ s
    · by_cases hb : b ∈ s'
      · rw [if_pos ha, if_pos hb] at le ⊢
        obtain ⟨i, hi⟩ := List.mem_iff_getElem?.mp hb
        rw [idx_get n' hi, idx_get n (h (a, b) List.mem_cons_self i hi), nbs_same ps s s' hl n n' h2 f2 le]
      · rw [if_pos ha, if_neg hb] at le
        have := fin_grow ps s (s' ++ [b]) (fun p hp hm => by
          rcases List.mem_append.mp hm with hm | hm
          · exact mem p (List.mem_cons_of_mem _ hp) hm
          · rw [fb p hp (List.mem_singleton.mp hm)]; exact ha) f2
        rw [List.length_append, List.length_singleton] at this
        omega
    · have hb : b ∉ s' := fun hb => ha (mem (a, b) List.mem_cons_self hb)
      rw [if_neg ha, if_neg hb] at le ⊢
      have nod : ∀ {x : Ky} {l : List Ky}, l.Nodup → x ∉ l → (l ++ [x]).Nodup := fun {x l} hn hx => by
        rw [List.nodup_append]
        refine ⟨hn, by simp, fun c hc d hd e => ?_⟩
        rw [List.mem_singleton] at hd
        subst hd; subst e; exact hx hc
      rw [hl, nbs_same ps (s ++ [a]) (s' ++ [b]) (by simp [hl]) (nod n ha) (nod n' hb) (fun p hp i hi => ?_) f2 le]
      by_cases e : i < s'.length
      · rw [List.getElem?_append_left e] at hi
        rw [List.getElem?_append_left (by omega)]
        exact h2 p hp i hi
      · rw [List.getElem?_append_right (by omega)] at hi
        have hi0 : i - s'.length = 0 := by
          have := (List.getElem?_eq_some_iff.mp hi).1
          simp at this; omega
        rw [hi0] at hi
        have hi : b = p.2 := by simpa using hi
        rw [List.getElem?_append_right (by omega), show i - s.length = 0 by omega, fb p hp hi.symm]
        rfl
/-! ### graphs: labels and followers -/
structure AG where
  lab : List Ky
  sc : List (List Nat)
structure AG.Ok (G : AG) : Prop where
  len : G.sc.length = G.lab.length
  lt : ∀ l ∈ G.sc, ∀ x ∈ l, x < G.lab.length
  same : ∀ (i j : Nat) (l m : List Nat), G.lab[i]? = G.lab[j]? → G.sc[i]? = some l → G.sc[j]? = some m → l.length = m.length
/-- alike: what they lead to is alike -/
def Bis (G : AG) (i j : Nat) : Prop := ∃ R : Nat → Nat → Prop, R i j ∧ ∀ a b, R a b → G.lab[a]? = G.lab[b]? ∧ ∀ (l m : List Nat) (t x y : Nat), G.sc[a]? = some l → G.sc[b]? = some m → l[t]? = some x → m[t]? = some y → R x y
/-- the next keys -/
def keyN (nums : List Nat) (l : List Nat) (n : Nat) : Ky := .inl (n : Int) :: l.map fun o => .inl ((nums.getD o 0 : Nat) : Int)
def stepK (G : AG) (nums : List Nat) : List Ky := List.zipWith (keyN nums) G.sc nums
def itN (G : AG) : Nat → List Nat
  | 0 => nbs G.lab []
  | t + 1 => nbs (stepK G (itN G t)) []
variable {G : AG}
theorem step_len (o : G.Ok) {nums : List Nat} (h : nums.length = G.lab.length) : (stepK G nums).length = G.lab.length := by
  unfold stepK
  rw [List.length_zipWith, o.len, h]; omega
theorem it_len (o : G.Ok) : ∀ t, (itN G t).length = G.lab.length
  | 0 => nbs_len _ _
  | t + 1 => by
    rw [itN, nbs_len]
    exact step_len o (it_len o t)
theorem step_at {nums : List Nat} {i : Nat} {l : List Nat} {n : Nat} (h1 : G.sc[i]? = some l) (h2 : nums[i]? = some n) : (stepK G nums)[i]? = some (keyN nums l n) := by
  unfold stepK
  rw [List.getElem?_zipWith, h1, h2]
theorem key_inj {nums : List Nat} {l m : List Nat} {a b : Nat} (h : keyN nums l a = keyN nums m b) : a = b ∧ ∀ t x y : Nat, l[t]? = some x → m[t]? = some y → nums.getD x 0 = nums.getD y 0 := by
  unfold keyN at h
  injection h with h1 h2
  injection h1 with h1
  refine ⟨by omega, fun t x y hx hy => ?_⟩
  have := congrArg (fun l => l[t]?) h2
  simp only [List.getElem?_map, hx, hy, Option.map_some] at this
  have := Option.some.inj this
  injection this with this
  omega
theorem getD_of {l : List Nat} {x n : Nat} (h : l[x]? = some n) : l.getD x 0 = n := by rw [List.getD_eq_getElem?_getD, h]; rfl
theorem at_lt {l : List Nat} {i : Nat} (h : i < l.length) : ∃ n, l[i]? = some n := ⟨l[i], List.getElem?_eq_getElem h⟩
/-- alike nodes bear the same number at each time -/
theorem bis_num (o : G.Ok) : ∀ (t i j : Nat), i < G.lab.length → j < G.lab.length → Bis G i j → (itN G t)[i]? = (itN G t)[j]?
  | 0, i, j, hi, hj, ⟨R, r, h⟩ => by
    have e := (h i j r).1
    have h1 := List.getElem?_eq_getElem hi
    have h2 := List.getElem?_eq_getElem hj
    rw [h1, h2] at e
    exact (nbs_iff h1 h2).mpr (Option.some.inj e)
  | t + 1, i, j, hi, hj, ⟨R, r, h⟩ => by
    have ih := bis_num o t
    have li := it_len o t
    obtain ⟨a, ha⟩ := at_lt (l := itN G t) (i := i) (by omega)
    obtain ⟨b, hb⟩ := at_lt (l := itN G t) (i := j) (by omega)
    obtain ⟨l, hl⟩ : ∃ l, G.sc[i]? = some l := ⟨_, List.getElem?_eq_getElem (by rw [o.len]; exact hi)⟩
    obtain ⟨m, hm⟩ : ∃ l, G.sc[j]? = some l := ⟨_, List.getElem?_eq_getElem (by rw [o.len]; exact hj)⟩
    have e0 := ih i j hi hj ⟨R, r, h⟩
    rw [ha, hb] at e0
    cases e0
    refine (nbs_iff (step_at hl ha) (step_at hm hb)).mpr ?_
    unfold keyN
    congr 1
    have hlen := o.same i j l m (h i j r).1 hl hm
    apply List.ext_getElem?
    intro q
    rw [List.getElem?_map, List.getElem?_map]
    cases hx : l[q]? with
    | none =>
      have : m[q]? = none := by
        rw [List.getElem?_eq_none_iff] at hx ⊢
        omega
      rw [this]
    | some x =>
      have hq : q < m.length := by
        have := (List.getElem?_eq_some_iff.mp hx).1
        omega
      have hy := List.getElem?_eq_getElem hq
      rw [hy]
      simp only [Option.map_some]
      have rx := (h i j r).2 l m q x _ hl hm hx hy
      have lx := o.lt l (List.mem_of_getElem? hl) x (List.mem_of_getElem? hx)
      have ly := o.lt m (List.mem_of_getElem? hm) _ (List.mem_of_getElem? hy)
      have e := ih x _ lx ly ⟨R, rx, h⟩
      obtain ⟨u, hu⟩ := at_lt (l := itN G t) (i := x) (by omega)
      obtain ⟨v, hv⟩ := at_lt (l := itN G t) (i := m[q]) (by omega)
      rw [hu, hv] at e
      cases e
      rw [getD_of hu, getD_of hv]
/-- the same number: the same label -/
theorem num_lab (o : G.Ok) : ∀ (t i j : Nat), i < G.lab.length → j < G.lab.length → (itN G t)[i]? = (itN G t)[j]? → G.lab[i]? = G.lab[j]?
  | 0, i, j, hi, hj, e => by
    have h1 := List.getElem?_eq_getElem hi
    have h2 := List.getElem?_eq_getElem hj
    rw [h1, h2, (nbs_iff h1 h2).mp e]
  | t + 1, i, j, hi, hj, e => by
    have li := it_len o t
    obtain ⟨a, ha⟩ := at_lt (l := itN G t) (i := i) (by omega)
    obtain ⟨b, hb⟩ := at_lt (l := itN G t) (i := j) (by omega)
    obtain ⟨l, hl⟩ : ∃ l, G.sc[i]? = some l := ⟨_, List.getElem?_eq_getElem (by rw [o.len]; exact hi)⟩
    obtain ⟨m, hm⟩ : ∃ l, G.sc[j]? = some l := ⟨_, List.getElem?_eq_getElem (by rw [o.len]; exact hj)⟩
    have k := (key_inj ((nbs_iff (step_at hl ha) (step_at hm hb)).mp e)).1
    subst k
    exact num_lab o t i j hi hj (ha.trans hb.symm)
/-- keys one behind the other -/
def keysAt (G : AG) : Nat → List Ky
  | 0 => G.lab
  | t + 1 => stepK G (itN G t)
theorem it_keys (t : Nat) : itN G t = nbs (keysAt G t) [] := by cases t <;> rfl
theorem keys_len (o : G.Ok) (t : Nat) : (keysAt G t).length = G.lab.length := by
  cases t with
  | zero => rfl
  | succ t => exact step_len o (it_len o t)
def cnt (G : AG) (t : Nat) : Nat := (fin (keysAt G t) []).length
/-- no more numbers than before: nothing changes any more -/
theorem it_same (o : G.Ok) (t : Nat) (h : cnt G (t + 1) ≤ cnt G t) : itN G (t + 1) = itN G t := by
  have l1 := keys_len o t
  have l2 := keys_len o (t + 1)
  let ps := (keysAt G t).zip (keysAt G (t + 1))
  have e1 : ps.map Prod.fst = keysAt G t := List.map_fst_zip (by omega)
  have e2 : ps.map Prod.snd = keysAt G (t + 1) := List.map_snd_zip (by omega)
  have q := nbs_same ps [] [] rfl List.nodup_nil List.nodup_nil (fun p _ i hi => by simp at hi) (fun p hp q hq e => by
    obtain ⟨i, hi⟩ := List.mem_iff_getElem?.mp hp
    obtain ⟨j, hj⟩ := List.mem_iff_getElem?.mp hq
    rw [List.getElem?_zip_eq_some] at hi hj
    have li := it_len o t
    have hi2 := (List.getElem?_eq_some_iff.mp hi.1).1
    have hj2 := (List.getElem?_eq_some_iff.mp hj.1).1
    obtain ⟨a, ha⟩ := at_lt (l := itN G t) (i := i) (by omega)
    obtain ⟨b, hb⟩ := at_lt (l := itN G t) (i := j) (by omega)
    obtain ⟨l, hl⟩ : ∃ l, G.sc[i]? = some l := ⟨_, List.getElem?_eq_getElem (by rw [o.len]; omega)⟩
    obtain ⟨m, hm⟩ : ∃ l, G.sc[j]? = some l := ⟨_, List.getElem?_eq_getElem (by rw [o.len]; omega)⟩
    have k1 := (step_at hl ha).symm.trans hi.2
    have k2 := (step_at hm hb).symm.trans hj.2
    have k := (key_inj ((Option.some.inj k1).trans (e.trans (Option.some.inj k2).symm))).1
    subst k
    rw [it_keys t] at ha hb
    exact (nbs_iff hi.1 hj.1).mp (ha.trans hb.symm)) (by rw [e1, e2]; exact h)
  rw [e1, e2] at q
  rw [it_keys t, it_keys (t + 1)]
  exact q
/-- then the same number: alike -/
theorem num_bis (o : G.Ok) {t : Nat} (h : itN G (t + 1) = itN G t) {i j : Nat} (hi : i < G.lab.length) (hj : j < G.lab.length) (e : (itN G t)[i]? = (itN G t)[j]?) : Bis G i j := by
  refine ⟨fun a b => a < G.lab.length ∧ b < G.lab.length ∧ (itN G t)[a]? = (itN G t)[b]?, ⟨hi, hj, e⟩, fun a b ⟨ha, hb, e⟩ => ⟨num_lab o t a b ha hb e, fun l m q x y hl hm hx hy => ?_⟩⟩
  have li := it_len o t
  have lx := o.lt l (List.mem_of_getElem? hl) x (List.mem_of_getElem? hx)
  have ly := o.lt m (List.mem_of_getElem? hm) y (List.mem_of_getElem? hy)
  obtain ⟨u, hu⟩ := at_lt (l := itN G t) (i := a) (by omega)
  obtain ⟨v, hv⟩ := at_lt (l := itN G t) (i := b) (by omega)
  rw [← h] at e
  have k := (key_inj ((nbs_iff (step_at hl hu) (step_at hm hv)).mp e)).2 q x y hx hy
  obtain ⟨c, hc⟩ := at_lt (l := itN G t) (i := x) (by omega)
  obtain ⟨d, hd⟩ := at_lt (l := itN G t) (i := y) (by omega)
  rw [getD_of hc, getD_of hd] at k
  subst k
  exact ⟨lx, ly, hc.trans hd.symm⟩
theorem Bis.symm {i j : Nat} (h : Bis G i j) : Bis G j i := by
  obtain ⟨R, r, h⟩ := h
  exact ⟨fun a b => R b a, r, fun a b q => ⟨(h b a q).1.symm, fun l m t x y hl hm hx hy => (h b a q).2 m l t y x hm hl hy hx⟩⟩
end K31

set_option maxHeartbeats 4000000
namespace K31
section

open PySem L2 U
/-- the tape's four items -/
abbrev tp (c : Nat) (p q z : Int) : List PV := [.loc c, .int p, .int q, .int z]
theorem draw_ok {k : Nat} {st : Store} {t c : Nat} {ns : List Int} {p q z m : Int} (ht : st[t]? = some (.lst (tp c p q z))) (hc : st[c]? = some (.lst (ns.map .int))) (hp : 0 ≤ p) (hq : 0 ≤ q) (hz : 0 ≤ z) (hm : m < 1000000) :
    ∃ r p' q' z', evCall TURNS D (k + 1) 5 [.loc t, .int m] st = .ok (.int r) (setAt st t (tp c p' q' z')) ∧ 0 ≤ r ∧ r < max m 1 ∧ 0 ≤ p' ∧ 0 ≤ q' ∧ 0 ≤ z' := by
  have hct : c ≠ t := by
    rintro rfl
    rw [ht] at hc
    have hc : Cell.lst _ = Cell.lst _ := Option.some.inj hc
    injection hc with hc
    cases ns with
    | nil => cases hc
    | cons n ns => injection hc with h1 _; cases h1
  have htl : t < st.length := (List.getElem?_eq_some_iff.mp ht).1
  have hs : ∀ (s : Store) (x : List PV), s.length = st.length → (setAt s t x)[t]? = some (.lst x) := fun s x e => by simp [setAt, htl, e]
  have hs2 : ∀ (s : Store) (x : List PV), s[c]? = some (.lst (ns.map .int)) → (setAt s t x)[c]? = some (.lst (ns.map .int)) := fun s x e => by unfold setAt; rw [List.getElem?_set_ne (Ne.symm hct)]; exact e
  have hs1 : ∀ (x : List PV), (setAt st t x)[t]? = some (.lst x) := fun x => hs st x rfl
  have hss : ∀ (x y : List PV), (setAt (setAt st t x) t y) = setAt st t y := fun x y => by simp [setAt]
  have e2 : ixN 4 2 = some 2 := rfl
  have e1 : ixN 4 1 = some 1 := rfl
  have e3 : ixN 4 3 = some 3 := rfl
  generalize hM1 : (if m < 1 then 1 else m) = M1
  generalize hM2 : (if m < 2 then 2 else m) = M2
  have m1 : 0 < M1 ∧ M1 = max m 1 := by rw [← hM1]; split <;> omega
  have m2 : 0 < M2 ∧ M2 < 1073741824 := by rw [← hM2]; split <;> omega
  have fdiv : ∀ (i : Int) (s : Store), binV .fdiv (.int i) (.int M2) s = some (.int (i / M2)) := fun i s => bin_fdiv_int m2
  have fmod : ∀ (i : Int) (s : Store), binV .mod (.int i) (.int M1) s = some (.int (i % M1)) := fun i s => bin_mod_int m1.1
  have fin : ∀ (v : PV) (x : List PV), leave st.length v (setAt st t x) = .ok v (setAt st t x) := fun v x => leave_setAt v st t x
  by_cases h0 : q = 0
  · subst h0
    clear htl
    -- what stands behind the first if, for the number that was drawn
    have mulA : ∀ (i : Int) (s : Store), binV .mul (.int i) (.int 48271) s = some (.int (i * 48271)) := fun i s => bin_mul_int (by simp [ckM])
    have mulB : ∀ (i : Int) (s : Store), binV .mul (.int i) (.int 69621) s = some (.int (i * 69621)) := fun i s => bin_mul_int (by simp [ckM])
    have modA : ∀ (i : Int) (s : Store), binV .mod (.int i) (.int 2147483647) s = some (.int (i % 2147483647)) := fun i s => bin_mod_int (by decide)
    have modB : ∀ (i : Int) (s : Store), binV .mod (.int i) (.int 2147483629) s = some (.int (i % 2147483629)) := fun i s => bin_mod_int (by decide)
    have powA : ∀ (s : Store), binV .pow (.int 10) (.int 18) s = some (.int (10 ^ 18)) := fun s => bin_pow_int (by decide)
    have lenA : ∀ s : Store, s[c]? = some (.lst (ns.map .int)) → biV .len [.loc c] s = some (.int ns.length) := fun s h => by rw [bi_len_loc h]; simp
    by_cases hl : p < ns.length
    · obtain ⟨n, hn⟩ : ∃ n, ns[p.toNat]? = some n := ⟨ns[p.toNat]'(by omega), by simp⟩
      have hn2 : atI (ns.map PV.int) p = some (.int n) := atI_nn hp (by rw [List.getElem?_map, hn]; rfl)
      generalize ha : (if n < 0 then -n else n) = a
      have a0 : 0 ≤ a := by rw [← ha]; split <;> omega
      by_cases hb : a < 1000000000000000000
      · simp only [evCall, D, d5]
        simp [evSs, evS, ev, evA, evCs, ix_loc ht, cmp_eq_int, hs1, ht, hM1, hM2, fdiv, fmod, ME.held, e1, e2, e3, hss, mulA, mulB, modA, modB, powA, lenA _ hc, hl, ix_loc hc, hb, hn2, ha]
        exact ⟨_, _, _, _, fin _ _, Int.emod_nonneg _ (by omega), by rw [← m1.2]; exact Int.emod_lt_of_pos _ m1.1, by omega, by omega, hz⟩
      · simp only [evCall, D, d5]
        simp [evSs, evS, ev, evA, evCs, ix_loc ht, cmp_eq_int, hs1, ht, hM1, hM2, fdiv, fmod, ME.held, e1, e2, e3, hss, mulA, mulB, modA, modB, powA, lenA _ hc, hl, ix_loc hc, hb, hn2, ha, ix_loc (hs1 _)]
        exact ⟨_, _, _, _, fin _ _, Int.emod_nonneg _ (by omega), by rw [← m1.2]; exact Int.emod_lt_of_pos _ m1.1, by omega, Int.ediv_nonneg a0 (by omega), hz⟩
    · have hb : (z * 48271 + p + 1) % 2147483647 < 1000000000000000000 := Int.lt_trans (Int.emod_lt_of_pos _ (by decide)) (by decide)
      simp only [evCall, D, d5]
      simp [evSs, evS, ev, evA, evCs, ix_loc ht, cmp_eq_int, hs1, ht, hM1, hM2, fdiv, fmod, ME.held, e1, e2, e3, hss, mulA, mulB, modA, modB, powA, lenA _ hc, hl, ix_loc hc, hb, ix_loc (hs1 _)]
      exact ⟨_, _, _, _, fin _ _, Int.emod_nonneg _ (by omega), by rw [← m1.2]; exact Int.emod_lt_of_pos _ m1.1, by omega, by omega, Int.emod_nonneg _ (by omega)⟩
  · simp only [evCall, D, d5]
    clear htl
    simp [evSs, evS, ev, evA, evCs, ix_loc ht, cmp_eq_int, h0, hs1, ht, hM1, hM2, fdiv, fmod, ME.held, e2, hss]
    exact ⟨_, _, _, _, fin _ _, Int.emod_nonneg _ (by omega), by rw [← m1.2]; exact Int.emod_lt_of_pos _ m1.1, hp, Int.ediv_nonneg hq (by omega), hz⟩

end
section

open PySem L2 U
/-- the store with the script's numbers and the tape -/
def TS (ns : List Int) (R : Store) (p q z : Int) : Store := .lst (ns.map .int) :: .lst (tp 0 p q z) :: R
def T (ns : List Int) (R : Store) (st : Store) : Prop := ∃ p q z, 0 ≤ p ∧ 0 ≤ q ∧ 0 ≤ z ∧ st = TS ns R p q z
theorem T.len {ns : List Int} {R : Store} {st : Store} (h : T ns R st) : st.length = R.length + 2 := by
  obtain ⟨p, q, z, _, _, _, rfl⟩ := h
  rfl
theorem drawT {k : Nat} {ns : List Int} {R : Store} {st : Store} {m : Int} (h : T ns R st) (hm : 1 ≤ m ∧ m < 1000000) : ∃ r st', evCall TURNS D (k + 1) 5 [.loc 1, .int m] st = .ok (.int r) st' ∧ T ns R st' ∧ 0 ≤ r ∧ r < m := by
  obtain ⟨p, q, z, hp, hq, hz, rfl⟩ := h
  obtain ⟨r, p', q', z', h1, h2, h3, h4, h5, h6⟩ := draw_ok (k := k) (st := TS ns R p q z) (t := 1) (c := 0) (ns := ns) rfl rfl hp hq hz hm.2
  exact ⟨r, _, h1, ⟨p', q', z', h4, h5, h6, rfl⟩, h2, by omega⟩
theorem leaveT {ns : List Int} {R : Store} {st : Store} {v : PV} (h : T ns R st) : leave (R.length + 2) v st = .ok v st := leave_same (by rw [h.len]; exact Nat.le_refl _)
theorem pick {α : Type} {xs : List α} {i : Int} (h0 : 0 ≤ i) (h1 : i < xs.length) : ∃ x, x ∈ xs ∧ atI xs i = some x :=
  ⟨xs[i.toNat]'(by omega), List.getElem_mem _, atI_nn h0 (by simp)⟩
theorem ixS {s : Str} {i : Int} {st : Store} (h0 : 0 ≤ i) (h1 : i < s.length) (hz : s.length ≤ 1000000) : ∃ c, c ∈ s.cps.toList ∧ ixV (.str s) (.int i) st = some (.str ⟨#[c]⟩) := by
  have e := TL.len_tl s
  have hz2 : s.length ≤ sizeLine := by rw [sizeLine_eq]; omega
  obtain ⟨c, hc, h⟩ := pick (xs := s.cps.toList) h0 (by show i < ((TL.tl s).length : Int); omega)
  exact ⟨c, hc, by rw [ix_str_ hz2, h]; rfl⟩
/-- the tape -/
theorem tape_ok {k : Nat} {ns : List Int} : ∃ z, 0 ≤ z ∧ evCall TURNS D (k + 1) 4 [.rol (ns.map .int)] [] = .ok (.fl (tp 0 0 0 z)) [.lst (ns.map .int)] := by
  obtain ⟨e, s, h1, t, x, ht, rfl, rfl⟩ := forLoop_inv (put := MG.put (.nm 2)) (body := evSs (evCall TURNS D k) TURNS b4_0) (xs := ns.map .int)
    (fun j env st => ∃ t x, 0 ≤ t ∧ env = [some (.rol (ns.map .int)), some (.int t), x] ∧ st = []) (fun j x env st hx ⟨t, y, ht, e1, e2⟩ => by
      subst e1 e2
      rw [List.getElem?_map] at hx
      obtain ⟨n, hn, rfl⟩ := Option.map_eq_some_iff.mp hx
      have mulA : ∀ (i : Int) (s : Store), binV .mul (.int i) (.int 31) s = some (.int (i * 31)) := fun i s => bin_mul_int (by simp [ckM])
      have modA : ∀ (i : Int) (s : Store), binV .mod (.int i) (.int 2147483647) s = some (.int (i % 2147483647)) := fun i s => bin_mod_int (by decide)
      refine ⟨_, rfl, ?_⟩
      simp [b4_0, evSs, evS, ev, evCs, mulA, modA]
      exact Int.emod_nonneg _ (by decide)) ns.length 0 [some (.rol (ns.map .int)), some (.int 7), none] [] (by simp) ⟨7, none, by decide, rfl, rfl⟩
  refine ⟨t, ht, ?_⟩
  simp only [evCall, D, d4]
  simp [evSs, evS, ev, evA, evCs, evSrc, srcV, Src.many, h1, ME.held, leave, PV.low, PV.lowL, Cell.low, sizeLine_eq]
theorem len_app (x y : Str) : (x ++ y).length = x.length + y.length := by
  have h1 := TL.len_tl (x ++ y)
  rw [TL.tl_append, List.length_append] at h1
  have h2 := TL.len_tl x
  have h3 := TL.len_tl y
  omega
theorem add_ok {x y : Str} {st : Store} (hx : x.length ≤ 100000) (hy : y.length ≤ 100000) : binV .add (.str x) (.str y) st = some (.str (x ++ y)) := bin_add_str (by rw [sizeLine_eq]; omega)
theorem sl_str_ok {x : Str} {lo hi : Option Int} {st : Store} (hx : x.length ≤ 1000000) : slV (.str x) lo hi st = some (.str (cutS x lo hi)) := if_pos (by rw [sizeLine_eq]; omega)
theorem cut_len {x : Str} {lo hi : Option Int} {n : Nat} (h : x.length ≤ n) : (cutS x lo hi).length ≤ n := Nat.le_trans (cutS_length x lo hi) h
theorem one_len (c : Nat) : (⟨#[c]⟩ : Str).length = 1 := rfl
theorem len_ok {x : Str} {st : Store} (hx : x.length ≤ 1000000) : biV .len [.str x] st = some (.int x.length) := bi_len_str (by rw [sizeLine_eq]; omega)
theorem bound_non : bound true .non = some none := rfl
theorem bound_int (i : Int) : bound false (.int i) = some (some i) := rfl
/-- the signs of words, the letters -/
def isW (c : Nat) : Bool := decide (c ∈ (("abcdefghijklmnopqrstuvwxyzABCDEFGHIJKLMNOPQRSTUVWXYZ_0123456789" : Str)).cps.toList)
def isL (c : Nat) : Bool := decide (c ∈ (("abcdefghijklmnopqrstuvwxyzABCDEFGHIJKLMNOPQRSTUVWXYZ" : Str)).cps.toList)
/-- a text of at most n signs, all of them signs of words -/
def B (n : Nat) (x : Str) : Prop := x.length ≤ n ∧ ∀ c ∈ x.cps.toList, isW c = true
def bB (n : Nat) (x : Str) : Bool := decide (x.length ≤ n) && x.cps.toList.all fun c => isW c
theorem B.of {n : Nat} {x : Str} (h : bB n x = true) : B n x := by
  unfold bB at h
  rw [Bool.and_eq_true, List.all_eq_true] at h
  exact ⟨of_decide_eq_true h.1, fun c hc => h.2 c hc⟩
/-- it begins with a letter -/
def HL (x : Str) : Prop := ∃ c r, x.cps.toList = c :: r ∧ isL c = true
def bHL (x : Str) : Bool := match x.cps.toList with
  | c :: _ => isL c
  | [] => false
theorem HL.of {x : Str} (h : bHL x = true) : HL x := by
  unfold bHL at h
  split at h
  · rename_i c r e
    exact ⟨c, r, e, h⟩
  · cases h
theorem HL.app {x y : Str} (h : HL x) : HL (x ++ y) := by
  obtain ⟨c, r, e, hl⟩ := h
  refine ⟨c, r ++ y.cps.toList, ?_, hl⟩
  show TL.tl (x ++ y) = _
  rw [TL.tl_append]
  show x.cps.toList ++ y.cps.toList = _
  rw [e]; rfl
/-- it is empty, or begins with a letter -/
def HE (x : Str) : Prop := x.cps.toList = [] ∨ HL x
theorem HE.cut {x : Str} (h : HE x) (n : Int) : HE (cutS x none (some n)) := by
  have e : (cutS x none (some n)).cps.toList = x.cps.toList.take (HT.sIx x.length x.length (some n)) := by
    show ((x.cps.toList.drop 0).take (HT.sIx x.length x.length (some n) - 0)) = _
    simp
  rcases h with h | ⟨c, r, h, hl⟩
  · left; rw [e, h]; simp
  · cases q : HT.sIx x.length x.length (some n) with
    | zero => left; rw [e, q]; simp
    | succ m => right; exact ⟨c, r.take m, by rw [e, q, h]; rfl, hl⟩
theorem HE.one {x : Str} {c : Nat} (h : HE x) (hc : isL c = true) : HL (x ++ ⟨#[c]⟩) := by
  rcases h with h | h
  · refine ⟨c, [], ?_, hc⟩
    show TL.tl (x ++ ⟨#[c]⟩) = _
    rw [TL.tl_append]
    show x.cps.toList ++ [c] = _
    rw [h]; rfl
  · exact h.app
theorem cut1 (x : Str) : (cutS x none (some 1)).length ≤ 1 := by
  have e : (cutS x none (some 1)).cps.toList = x.cps.toList.take (HT.sIx x.length x.length (some ((1 : Nat) : Int))) := by
    show ((x.cps.toList.drop 0).take (HT.sIx x.length x.length (some ((1 : Nat) : Int)) - 0)) = _
    simp
  rw [TL.len_tl]
  show (cutS x none (some 1)).cps.toList.length ≤ 1
  rw [e, HT.sIx_nat, List.length_take]
  omega
def WL : List PV := [.str "let", .str "if", .str "else", .str "while", .str "for", .str "break", .str "continue", .str "return", .str "try", .str "finally", .str "true", .str "false"]
/-- it is no reserved word -/
def NR (x : Str) : Prop := memF (.str x) WL = some false
/-- a name -/
def GN (x : Str) : Prop := B 30 x ∧ HL x ∧ NR x
def bGN (x : Str) : Bool := bB 30 x && bHL x && (match memF (.str x) WL with
  | some false => true
  | _ => false)
theorem GN.of {x : Str} (h : bGN x = true) : GN x := by
  unfold bGN at h
  simp only [Bool.and_eq_true] at h
  refine ⟨.of h.1.1, .of h.1.2, ?_⟩
  have h3 := h.2
  unfold NR
  split at h3
  · assumption
  · cases h3
theorem one_ok : ∀ j : Nat, j < 4 → GN (("one_of_two_equal_names_" : Str) ++ Str.ofString (toString (j : Int)))
  | 0, _ => .of (by decide +kernel)
  | 1, _ => .of (by decide +kernel)
  | 2, _ => .of (by decide +kernel)
  | 3, _ => .of (by decide +kernel)
  | j + 4, h => absurd h (by omega)
theorem B.mono {n m : Nat} {x : Str} (h : B n x) (k : n ≤ m) : B m x := ⟨Nat.le_trans h.1 k, h.2⟩
theorem B.app {n m : Nat} {x y : Str} (h : B n x) (k : B m y) : B (n + m) (x ++ y) := by
  refine ⟨by rw [len_app]; have := h.1; have := k.1; omega, fun c hc => ?_⟩
  have hc : c ∈ TL.tl (x ++ y) := hc
  rw [TL.tl_append, List.mem_append] at hc
  exact hc.elim (h.2 c) (k.2 c)
theorem B.cut {n : Nat} {x : Str} (h : B n x) (lo hi : Option Int) : B n (cutS x lo hi) :=
  ⟨cut_len h.1, fun c hc => h.2 c (List.mem_of_mem_drop (List.mem_of_mem_take hc))⟩
theorem B.one {c : Nat} (h : isW c = true) : B 1 ⟨#[c]⟩ := ⟨Nat.le_refl _, fun d hd => by
  have : d = c := by simpa using hd
  rw [this]; exact h⟩
theorem num_all : (List.range 100).all (fun k => bB 5 (Str.ofString (toString (k : Int)))) = true := by decide +kernel
theorem num_B {i : Int} (h0 : 0 ≤ i) (h : i < 100) : B 5 (Str.ofString (toString i)) := by
  have := (List.all_eq_true.mp num_all) i.toNat (List.mem_range.mpr (by omega))
  rw [Int.toNat_of_nonneg h0] at this
  exact B.of this
/-- one of some texts -/
theorem pickS {xs : List PV} {i : Int} {P : Str → Prop} (h0 : 0 ≤ i) (h1 : i < xs.length) (h : ∀ x ∈ xs, ∃ s : Str, x = .str s ∧ P s) : ∃ s : Str, atI xs i = some (.str s) ∧ P s := by
  obtain ⟨x, hx, e⟩ := pick h0 h1
  obtain ⟨s, rfl, hs⟩ := h x hx
  exact ⟨s, e, hs⟩
/-- what a call comes to -/
def gets {α : Type} (r : Res α) (P : α → Store → Prop) : Prop := match r with
  | .ok a st => P a st
  | .xc _ _ _ => False
  | .bad => False
@[simp] theorem gets_ok {α : Type} (a : α) (st : Store) (P : α → Store → Prop) : gets (.ok a st) P = P a st := rfl
theorem of_gets {α : Type} {r : Res α} {P : α → Store → Prop} (h : gets r P) : ∃ a st, r = .ok a st ∧ P a st := by
  cases r with
  | ok a st => exact ⟨a, st, rfl, h⟩
  | xc _ _ _ => exact h.elim
  | bad => exact h.elim
theorem strsL_map {α : Type} (f : α → Str) : ∀ l : List α, strsL (l.map fun x => .str (f x)) = some (l.map f)
  | [] => rfl
  | x :: r => by
    show (strsL (r.map fun x => .str (f x))).map (f x :: ·) = _
    rw [strsL_map f r]; rfl
theorem num_len {i : Int} (h0 : 0 ≤ i) (h : i < 10000) : (toString i : Str).length ≤ 5 ∧ i.natAbs < 1000000 := by
  have e := PySem.int_text_length_le10 (a := i) (k := 4) (by decide) (by omega)
  refine ⟨?_, by omega⟩
  show (Str.ofString (toString i)).length ≤ 5
  rw [show (Str.ofString (toString i)).length = (toString i : String).length by rw [TL.len_tl, TL.tl_ofString, List.length_map]; rfl]
  exact e

end
section

open PySem L2 U
theorem loopA {k : Nat} {ns : List Int} {R : Store} {st : Store} {sg name : Str} {r : Int} {a1 a3 a4 a5 a6 a7 a9 a10 : Option PV} (hg : ∀ (i : Int) (st : Store), 0 ≤ i → i < 63 → ∃ c, ixV (.str sg) (.int i) st = some (.str ⟨#[c]⟩) ∧ isW c = true)
    (t : T ns R st) (hn : B 21 name) (hh : HL name) (h0 : 0 ≤ r) (h1 : r ≤ 6) :
    ∃ nm x9 st', forLoop (MG.put (.nm 9)) (evSs (evCall TURNS D (k + 1)) TURNS b6_0) (.items ((List.range r.toNat).map fun (k : Nat) => .int k)) 0 r.toNat [some (.loc 1), a1, some (.str sg), a3, a4, a5, a6, a7, some (.str name), a9, a10] st
      = .nx [some (.loc 1), a1, some (.str sg), a3, a4, a5, a6, a7, some (.str nm), x9, a10] st' ∧ B 27 nm ∧ HL nm ∧ T ns R st' := by
  obtain ⟨e, s, q1, nm, x9, q2, q2h, q3, q4⟩ := forLoop_inv (put := MG.put (.nm 9)) (body := evSs (evCall TURNS D (k + 1)) TURNS b6_0) (xs := (List.range r.toNat).map fun (k : Nat) => .int k)
    (fun j env st => ∃ nm x9, B (21 + j) nm ∧ HL nm ∧ T ns R st ∧ env = [some (.loc 1), a1, some (.str sg), a3, a4, a5, a6, a7, some (.str nm), x9, a10]) (fun j x env st hx ⟨nm, x9, e1, e1h, e2, e3⟩ => by
      subst e3
      have hj : j < r.toNat := by
        have := (List.getElem?_eq_some_iff.mp hx).1
        simpa using this
      obtain ⟨q, st1, g1, g2, g3, g4⟩ := drawT (k := k) (m := 63) e2 (by decide)
      obtain ⟨c, hc, hc2⟩ := hg q st1 g3 g4
      have le1 := e1.1
      have a := add_ok (x := nm) (y := ⟨#[c]⟩) (st := st1) (by omega) (by rw [one_len]; omega)
      refine ⟨_, rfl, ?_⟩
      simp [b6_0, evSs, evS, ev, evA, evCs, g1, hc, a]
      refine ⟨nm ++ ⟨#[c]⟩, e1.app (.one hc2), e1h.app, g2, ?_⟩
      simp) r.toNat 0 _ st (by simp) ⟨name, a9, hn, hh, t, rfl⟩
  refine ⟨nm, x9, s, by rw [q1, q4], q2.mono ?_, q2h, q3⟩
  have : ((List.range r.toNat).map fun (k : Nat) => PV.int k).length = r.toNat := by simp
  omega
def SG : Str := "abcdefghijklmnopqrstuvwxyzABCDEFGHIJKLMNOPQRSTUVWXYZ0123456789_"
theorem SG_B : B 63 SG := .of (by decide +kernel)
theorem SG_ok (i : Int) (st : Store) (h0 : 0 ≤ i) (h1 : i < 63) : ∃ c, ixV (.str SG) (.int i) st = some (.str ⟨#[c]⟩) ∧ isW c = true := by
  obtain ⟨c, hm, h⟩ := ixS (s := SG) (st := st) h0 (by rw [show Str.length SG = 63 by decide +kernel]; omega) (by decide +kernel)
  exact ⟨c, h, SG_B.2 c hm⟩
theorem SG_all : (List.range 52).all (fun i => match SG.cps.toList[i]? with | some c => isL c | none => false) = true := by decide +kernel
theorem SG_ok52 (i : Int) (st : Store) (h0 : 0 ≤ i) (h1 : i < 52) : ∃ c, ixV (.str SG) (.int i) st = some (.str ⟨#[c]⟩) ∧ isW c = true ∧ isL c = true := by
  obtain ⟨c, hc, hw⟩ := SG_ok i st h0 (by omega)
  refine ⟨c, hc, hw, ?_⟩
  have h := (List.all_eq_true.mp SG_all) i.toNat (List.mem_range.mpr (by omega))
  rw [ix_str_ (by rw [sizeLine_eq, show Str.length SG = 63 by decide +kernel]; omega), show i = ((i.toNat : Nat) : Int) by omega] at hc
  cases q : SG.cps.toList[i.toNat]? with
  | none => rw [q] at h; cases h
  | some d =>
    rw [q] at h
    rw [atI_nn (i := ((i.toNat : Nat) : Int)) (by omega) (by rw [Int.toNat_natCast]; exact q)] at hc
    have e : (⟨#[d]⟩ : Str) = ⟨#[c]⟩ := by simpa using hc
    have e2 : d = c := by
      have := congrArg (fun x : Str => x.cps.toList) e
      simpa using this
    rw [← e2]; exact h
theorem WL_ok {i : Int} (l1 : 0 ≤ i) (u1 : i < 12) : ∃ s : Str, atI WL i = some (.str s) ∧ B 8 s ∧ HL s ∧ HL (cutS s none (some (-1))) := pickS (xs := WL) (P := fun s => B 8 s ∧ HL s ∧ HL (cutS s none (some (-1)))) l1 (by simpa [WL] using u1) (by
    intro x hx
    simp only [WL, List.mem_cons, List.not_mem_nil, or_false] at hx
    rcases hx with rfl | rfl | rfl | rfl | rfl | rfl | rfl | rfl | rfl | rfl | rfl | rfl <;> exact ⟨_, rfl, .of (by decide +kernel), .of (by decide +kernel), .of (by decide +kernel)⟩)
theorem inW (x : Str) : ∃ b, memF (.str x) WL = some b ∧ ∀ st, cmpV .inn (.str x) (.fl WL) st = some b := by
  have h : ∃ b, memF (.str x) WL = some b := ⟨_, rfl⟩
  obtain ⟨b, h⟩ := h
  refine ⟨b, h, fun st => ?_⟩
  refine cmp_inn_of ?_
  unfold U.inV
  simp only [seq_fl, h]
theorem inXs (x : Str) (xs : List Str) (st : Store) : ∃ b, cmpV .inn (.str x) (.fl (xs.map .str)) st = some b := by
  have e : ∀ l : List Str, flL (l.map .str) = some (l.map V.str) := fun l => by
    induction l with
    | nil => rfl
    | cons z l ih =>
      show (match flV (.str z), flL (l.map .str) with | some v, some vs => some (v :: vs) | _, _ => none) = _
      rw [ih]; rfl
  have h : memF (.str x) (xs.map .str) = some (L2.inV (.str x) (xs.map V.str)) := by
    show (match flV (.str x), flL (xs.map .str) with | some x, some vs => some (L2.inV x vs) | _, _ => none) = _
    rw [e]; rfl
  refine ⟨L2.inV (.str x) (xs.map V.str), ?_⟩
  refine cmp_inn_of ?_
  unfold U.inV
  simp only [seq_fl, h]
/-- what follows the stem in a turn -/
theorem turnA {k : Nat} {ns : List Int} {R : Store} {st : Store} {stem : Str} {place : Int} {a8 a9 a10 : Option PV} {xs : List Str} {j : Nat} {mn : Int} (hj : j < 4) (hxs : xs.length < 100) (t : T ns R st) (hs0 : B 10 stem) (hse : HE stem) (h0 : 0 ≤ place) :
    ∃ x a9' a10' st', evSs (evCall TURNS D (k + 1)) TURNS b6_1 [some (.loc 1), some (.int mn), some (.str SG), some (.fl WL), some (.str stem), some (.int place), some (.fl (xs.map .str)), some (.int j), a8, a9, a10] st
      = .nx [some (.loc 1), some (.int mn), some (.str SG), some (.fl WL), some (.str stem), some (.int place), some (.fl (xs.map .str ++ [.str x])), some (.int j), some (.str x), a9', a10'] st' ∧ GN x ∧ T ns R st' := by
  have hs := hs0.1
  obtain ⟨r1, st1, h1, t1, l1, u1⟩ := drawT (k := k) (m := 52) t (by decide)
  obtain ⟨c1, hc1, hc1b, hc1l⟩ := SG_ok52 r1 st1 l1 u1
  have q1 := cut_len (lo := none) (hi := some place) hs
  have q2 := cut_len (lo := some place) (hi := none) hs
  have d1 := sl_str_ok (x := stem) (lo := none) (hi := some place) (st := st) (by omega)
  have d2 := sl_str_ok (x := stem) (lo := some place) (hi := none) (st := st1) (by omega)
  have m1 := add_ok (x := cutS stem none (some place)) (y := ⟨#[c1]⟩) (st := st1) (by omega) (by rw [one_len]; omega)
  have m2 := add_ok (x := cutS stem none (some place) ++ ⟨#[c1]⟩) (y := cutS stem (some place) none) (st := st1) (by rw [len_app, one_len]; omega) (by omega)
  obtain ⟨r3, st3, h3, t3, l3, u3⟩ := drawT (k := k) (m := 6) (ns := ns) (st := st1) t1 (by decide)
  have e3 : ∃ n : Int, atI [PV.int 0, .int 0, .int 0, .int 1, .int 2, .int 6] r3 = some (.int n) ∧ 0 ≤ n ∧ n ≤ 6 := by
    obtain ⟨y, hy, e3⟩ := pick (xs := [PV.int 0, .int 0, .int 0, .int 1, .int 2, .int 6]) (i := r3) l3 (by simpa using u3)
    simp only [List.mem_cons, List.not_mem_nil, or_false] at hy
    rcases hy with rfl | rfl | rfl | rfl | rfl | rfl <;> exact ⟨_, e3, by decide, by decide⟩
  obtain ⟨n, e3, n0, n6⟩ := e3
  have hr : rngV (.int 0) (.int n) st3 = .ok (.items ((List.range (n - 0).toNat).map fun (k : Nat) => .int (0 + k))) st3 := if_pos (by omega)
  rw [show n - 0 = n by omega] at hr
  simp only [Int.zero_add] at hr
  obtain ⟨nm, x9, st4, g1, g2, g2h, g3⟩ := loopA (k := k) (sg := SG) (name := cutS stem none (some place) ++ ⟨#[c1]⟩ ++ cutS stem (some place) none) (a1 := some (.int mn)) (a3 := some (.fl WL)) (a4 := some (.str stem)) (a5 := some (.int place)) (a6 := some (.fl (xs.map .str))) (a7 := some (.int j)) (a9 := a9) (a10 := a10) SG_ok t3 ((((hs0.cut _ _).app (.one hc1b)).app (hs0.cut _ _)).mono (by omega)) ((hse.cut _).one hc1l).app n0 n6
  have g2b := g2
  have g2 := g2b.1
  obtain ⟨r5, st5, h5, t5, l5, u5⟩ := drawT (k := k) (m := 16) g3 (by decide)
  have hx2 : xs.length < 16777216 := by omega
  have jb := num_B (i := (j : Int)) (by omega) (by omega)
  have jl := jb.1
  have ja : (j : Int).natAbs < 1000000 := by omega
  have wj := fun st => bi_str (i := (j : Int)) (st := st) ja
  have one24 := one_ok j hj
  generalize Str.ofString (toString (j : Int)) = Z at jl wj jb one24
  have o23 : Str.length ("one_of_two_equal_names_" : Str) = 23 := by decide +kernel
  have kj := fun st => add_ok (x := ("one_of_two_equal_names_" : Str)) (y := Z) (st := st) (by decide +kernel) (by omega)
  by_cases c0 : r5 = 0
  · subst c0
    have k1 := len_ok (x := nm) (st := st5) (by omega)
    have k2 := bin_mul_str (x := "x") (j := 30 - nm.length) (st := st5) ⟨by omega, by omega, by rw [show Str.length "x" = 1 by decide +kernel]; omega⟩
    have k4 : (⟨((List.replicate (30 - (nm.length : Int)).toNat (Str.cps "x").toList).flatten).toArray⟩ : Str).length = (30 - (nm.length : Int)).toNat := by
      rw [TL.len_tl]
      show ((List.replicate (30 - (nm.length : Int)).toNat (Str.cps "x").toList).flatten).length = _
      rw [List.length_flatten, List.map_replicate, List.sum_replicate_nat, show (Str.cps "x").toList.length = 1 by decide +kernel]
      omega
    have k5 : B 30 (⟨((List.replicate (30 - (nm.length : Int)).toNat (Str.cps "x").toList).flatten).toArray⟩ : Str) := ⟨by omega, fun c hc => by
      have hc : c ∈ ((List.replicate (30 - (nm.length : Int)).toNat (Str.cps "x").toList).flatten) := hc
      obtain ⟨l, h1, h2⟩ := List.mem_flatten.mp hc
      rw [(List.mem_replicate.mp h1).2] at h2
      exact (B.of (n := 1) (x := "x") (by decide +kernel)).2 c h2⟩
    generalize (⟨((List.replicate (30 - (nm.length : Int)).toNat (Str.cps "x").toList).flatten).toArray⟩ : Str) = XX at k2 k4 k5
    have k3 := add_ok (x := nm) (y := XX) (st := st5) (by omega) (by omega)
    obtain ⟨b, nrb, hb⟩ := inW (nm ++ XX)
    obtain ⟨b2, hb2⟩ := inXs (nm ++ XX) xs st5
    cases b with
    | false =>
      cases b2 with
      | false =>
        simp [b6_1, evSs, evS, ev, evA, evCs, evSrc, d1, h1, hc1, m1, d2, m2, h3, e3, hr, Src.many, g1, h5, ME.absent, bound_non, bound_int, hx2, -List.map_map, k1, k2, k3, hb, hb2, sizeLine_eq]
        exact ⟨_, _, _, _, ⟨⟨rfl, rfl, rfl⟩, rfl⟩, ⟨⟨by rw [len_app]; omega, (g2b.app k5).2⟩, g2h.app, nrb⟩, t5⟩
      | true =>
        simp [b6_1, evSs, evS, ev, evA, evCs, evSrc, d1, h1, hc1, m1, d2, m2, h3, e3, hr, Src.many, g1, h5, ME.absent, bound_non, bound_int, hx2, -List.map_map, k1, k2, k3, hb, hb2, wj, kj, sizeLine_eq]
        exact ⟨_, _, _, _, ⟨⟨rfl, rfl, rfl⟩, rfl⟩, one24, t5⟩
    | true =>
      simp [b6_1, evSs, evS, ev, evA, evCs, evSrc, d1, h1, hc1, m1, d2, m2, h3, e3, hr, Src.many, g1, h5, ME.absent, bound_non, bound_int, hx2, -List.map_map, k1, k2, k3, hb, wj, kj, sizeLine_eq]
      exact ⟨_, _, _, _, ⟨⟨rfl, rfl, rfl⟩, rfl⟩, one24, t5⟩
  by_cases c1' : r5 = 1
  · subst c1'
    obtain ⟨r6, st6, h6, t6, l6, u6⟩ := drawT (k := k) (m := 12) t5 (by decide)
    obtain ⟨w, hw, lwb, lwh, lwc⟩ := WL_ok l6 u6
    have lw := lwb.1
    have s1 := sl_str_ok (x := nm) (lo := none) (hi := some 1) (st := st6) (by omega)
    have s2 := cut_len (x := nm) (lo := none) (hi := some 1) g2
    have k3 := add_ok (x := w) (y := cutS nm none (some 1)) (st := st6) (by omega) (by omega)
    obtain ⟨b, nrb, hb⟩ := inW (w ++ cutS nm none (some 1))
    obtain ⟨b2, hb2⟩ := inXs (w ++ cutS nm none (some 1)) xs st6
    cases b with
    | false =>
      cases b2 with
      | false =>
        simp [b6_1, evSs, evS, ev, evA, evCs, evSrc, d1, h1, hc1, m1, d2, m2, h3, e3, hr, Src.many, g1, h5, ME.absent, bound_non, bound_int, hx2, -List.map_map, h6, hw, s1, k3, hb, hb2, sizeLine_eq]
        exact ⟨_, _, _, _, ⟨⟨rfl, rfl, rfl⟩, rfl⟩, ⟨⟨by rw [len_app]; have := cut1 nm; omega, (lwb.app (g2b.cut _ _)).2⟩, lwh.app, nrb⟩, t6⟩
      | true =>
        simp [b6_1, evSs, evS, ev, evA, evCs, evSrc, d1, h1, hc1, m1, d2, m2, h3, e3, hr, Src.many, g1, h5, ME.absent, bound_non, bound_int, hx2, -List.map_map, h6, hw, s1, k3, hb, hb2, wj, kj, sizeLine_eq]
        exact ⟨_, _, _, _, ⟨⟨rfl, rfl, rfl⟩, rfl⟩, one24, t6⟩
    | true =>
      simp [b6_1, evSs, evS, ev, evA, evCs, evSrc, d1, h1, hc1, m1, d2, m2, h3, e3, hr, Src.many, g1, h5, ME.absent, bound_non, bound_int, hx2, -List.map_map, h6, hw, s1, k3, hb, wj, kj, sizeLine_eq]
      exact ⟨_, _, _, _, ⟨⟨rfl, rfl, rfl⟩, rfl⟩, one24, t6⟩
  by_cases c2' : r5 = 2
  · subst c2'
    obtain ⟨r6, st6, h6, t6, l6, u6⟩ := drawT (k := k) (m := 12) t5 (by decide)
    obtain ⟨w, hw, lwb, lwh, lwc⟩ := WL_ok l6 u6
    have lw := lwb.1
    have s1 := sl_str_ok (x := w) (lo := none) (hi := some (-1)) (st := st6) (by omega)
    have s2 := cut_len (x := w) (lo := none) (hi := some (-1)) lw
    obtain ⟨b, nrb, hb⟩ := inW (cutS w none (some (-1)))
    obtain ⟨b2, hb2⟩ := inXs (cutS w none (some (-1))) xs st6
    cases b with
    | false =>
      cases b2 with
      | false =>
        simp [b6_1, evSs, evS, ev, evA, evCs, evSrc, d1, h1, hc1, m1, d2, m2, h3, e3, hr, Src.many, g1, h5, ME.absent, bound_non, bound_int, hx2, -List.map_map, h6, hw, s1, hb, hb2, sizeLine_eq]
        exact ⟨_, _, _, _, ⟨⟨rfl, rfl, rfl⟩, rfl⟩, ⟨(lwb.cut _ _).mono (by omega), lwc, nrb⟩, t6⟩
      | true =>
        simp [b6_1, evSs, evS, ev, evA, evCs, evSrc, d1, h1, hc1, m1, d2, m2, h3, e3, hr, Src.many, g1, h5, ME.absent, bound_non, bound_int, hx2, -List.map_map, h6, hw, s1, hb, hb2, wj, kj, sizeLine_eq]
        exact ⟨_, _, _, _, ⟨⟨rfl, rfl, rfl⟩, rfl⟩, one24, t6⟩
    | true =>
      simp [b6_1, evSs, evS, ev, evA, evCs, evSrc, d1, h1, hc1, m1, d2, m2, h3, e3, hr, Src.many, g1, h5, ME.absent, bound_non, bound_int, hx2, -List.map_map, h6, hw, s1, hb, wj, kj, sizeLine_eq]
      exact ⟨_, _, _, _, ⟨⟨rfl, rfl, rfl⟩, rfl⟩, one24, t6⟩
  obtain ⟨b, nrb, hb⟩ := inW (nm)
  obtain ⟨b2, hb2⟩ := inXs (nm) xs st5
  cases b with
  | false =>
    cases b2 with
    | false =>
      simp [b6_1, evSs, evS, ev, evA, evCs, evSrc, d1, h1, hc1, m1, d2, m2, h3, e3, hr, Src.many, g1, h5, ME.absent, bound_non, bound_int, hx2, -List.map_map, c0, c1', c2', hb, hb2, sizeLine_eq]
      exact ⟨_, _, _, _, ⟨⟨rfl, rfl, rfl⟩, rfl⟩, ⟨g2b.mono (by omega), g2h, nrb⟩, t5⟩
    | true =>
      simp [b6_1, evSs, evS, ev, evA, evCs, evSrc, d1, h1, hc1, m1, d2, m2, h3, e3, hr, Src.many, g1, h5, ME.absent, bound_non, bound_int, hx2, -List.map_map, c0, c1', c2', hb, hb2, wj, kj, sizeLine_eq]
      exact ⟨_, _, _, _, ⟨⟨rfl, rfl, rfl⟩, rfl⟩, one24, t5⟩
  | true =>
    simp [b6_1, evSs, evS, ev, evA, evCs, evSrc, d1, h1, hc1, m1, d2, m2, h3, e3, hr, Src.many, g1, h5, ME.absent, bound_non, bound_int, hx2, -List.map_map, c0, c1', c2', hb, wj, kj, sizeLine_eq]
    exact ⟨_, _, _, _, ⟨⟨rfl, rfl, rfl⟩, rfl⟩, one24, t5⟩
/-- the names -/
theorem names_ok {k : Nat} {ns : List Int} {R : Store} {st : Store} {mn : Int} (m0 : 0 ≤ mn) (m1 : mn ≤ 4) (t : T ns R st) : ∃ (xs : List Str) (st' : Store), evCall TURNS D (k + 2) 6 [.loc 1, .int mn] st = .ok (.fl (xs.map .str)) st' ∧ xs.length = mn.toNat ∧ (∀ x ∈ xs, GN x) ∧ T ns R st' := by
  obtain ⟨r1, st1, h1, t1, l1, u1⟩ := drawT (k := k) (m := 4) t (by decide)
  obtain ⟨stem, hs, lsb, lse⟩ := pickS (xs := [.str "", .str "", .str "sharedStem", .str "while_x"]) (i := r1) (P := fun x => B 10 x ∧ HE x) l1 (by simpa using u1) (by
    intro x hx
    simp only [List.mem_cons, List.not_mem_nil, or_false] at hx
    rcases hx with rfl | rfl | rfl | rfl
    · exact ⟨_, rfl, .of (by decide +kernel), .inl (by decide +kernel)⟩
    · exact ⟨_, rfl, .of (by decide +kernel), .inl (by decide +kernel)⟩
    · exact ⟨_, rfl, .of (by decide +kernel), .inr (.of (by decide +kernel))⟩
    · exact ⟨_, rfl, .of (by decide +kernel), .inr (.of (by decide +kernel))⟩)
  have ls := lsb.1
  have k1 := len_ok (x := stem) (st := st1) (by omega)
  obtain ⟨r2, st2, h2, t2, l2, u2⟩ := drawT (k := k) (m := (stem.length : Int) + 1) t1 (by omega)
  have hr : rngV (.int 0) (.int mn) st2 = .ok (.items ((List.range (mn - 0).toNat).map fun (k : Nat) => .int (0 + k))) st2 := if_pos (by omega)
  rw [show mn - 0 = mn by omega] at hr
  simp only [Int.zero_add] at hr
  obtain ⟨e, st3, q1, xs, a7, a8, a9, a10, q2, q3, q4, q5⟩ := forLoop_inv (put := MG.put (.nm 7)) (body := evSs (evCall TURNS D (k + 1)) TURNS b6_1) (xs := (List.range mn.toNat).map fun (k : Nat) => .int k)
    (fun j env st => ∃ (xs : List Str) (a7 a8 a9 a10 : Option PV), xs.length = j ∧ (∀ x ∈ xs, GN x) ∧ T ns R st ∧ env = [some (.loc 1), some (.int mn), some (.str SG), some (.fl WL), some (.str stem), some (.int r2), some (.fl (xs.map .str)), a7, a8, a9, a10]) (fun j x env st hx ⟨xs, a7, a8, a9, a10, e1, e2, e3, e4⟩ => by
      subst e4
      have hj : j < mn.toNat := by
        have := (List.getElem?_eq_some_iff.mp hx).1
        simpa using this
      have hx : x = .int j := by
        rw [List.getElem?_map, List.getElem?_range hj] at hx
        simpa using hx.symm
      subst hx
      obtain ⟨y, x9, x10, st', g1, g2, g3⟩ := turnA (k := k) (xs := xs) (j := j) (mn := mn) (stem := stem) (place := r2) (a8 := a8) (a9 := a9) (a10 := a10) (by omega) (by omega) e3 lsb lse l2
      refine ⟨_, rfl, ?_⟩
      show SR.go (evSs (evCall TURNS D (k + 1)) TURNS b6_1 [some (.loc 1), some (.int mn), some (.str SG), some (.fl WL), some (.str stem), some (.int r2), some (.fl (xs.map .str)), some (.int j), a8, a9, a10] st) _
      rw [g1, go_nx]
      refine ⟨xs ++ [y], some (.int j), some (.str y), x9, x10, by simp [e1], fun z hz => ?_, g3, by simp⟩
      rcases List.mem_append.mp hz with hz | hz
      · exact e2 z hz
      · rw [List.mem_singleton.mp hz]; exact g2) mn.toNat 0 [some (.loc 1), some (.int mn), some (.str SG), some (.fl WL), some (.str stem), some (.int r2), some (.fl []), none, none, none, none] st2 (by simp) ⟨[], none, none, none, none, rfl, by simp, t2, rfl⟩
  unfold SG WL at q1 q5
  refine ⟨xs, st3, ?_, by simpa using q2, q3, q4⟩
  rw [show k + 2 = (k + 1) + 1 from rfl, evCall]
  simp [D, d6, evSs, evS, ev, evA, evCs, evSrc, h1, hs, k1, h2, hr, Src.many, q1, q5, sizeLine_eq, ME.held, t.len, leaveT q4, -List.map_map]

end
end K31

set_option maxHeartbeats 4000000
namespace K31
open PySem L2 U
/-! ### nodes, graphs, runs -/
def SB (z : Str) : Prop := z.length ≤ 60 ∧ ∀ c ∈ z.cps.toList, c < 256
def Nd (m : Nat) (v : PV) : Prop := (∃ (nm : Str) (a b : Int), SB nm ∧ v = .tup [.str "call", .str nm, .int a, .int b] ∧ 0 ≤ a ∧ a < m ∧ 0 ≤ b ∧ b < m) ∨ ∃ o : Str, SB o ∧ v = .tup [.str "outcome", .str o]
def Gr (g : List PV) : Prop := g ≠ [] ∧ g.length ≤ 801 ∧ ∀ v ∈ g, Nd g.length v
@[simp] theorem bi_tuple_fl (xs : List PV) (st : Store) : biV .tuple [.fl xs] st = some (.tup xs) := rfl
theorem no_out : ¬ (Str.ofString "call" = Str.ofString "outcome") := by decide
theorem no_out2 : ¬ (Str.ofString "outcome" = Str.ofString "call") := by decide
end K31

set_option maxHeartbeats 4000000
namespace K31
open PySem L2 U
variable {ns : List Int} {R : Store} {st : Store}
theorem T.at (h : T ns R st) (n : Nat) : st[n + 2]? = R[n]? := by
  obtain ⟨p, q, z, h1, h2, h3, rfl⟩ := h
  rfl
theorem T.push (h : T ns R st) (c : Store) : T ns (R ++ c) (st ++ c) := by
  obtain ⟨p, q, z, h1, h2, h3, rfl⟩ := h
  exact ⟨p, q, z, h1, h2, h3, rfl⟩
theorem T.set (h : T ns R st) (n : Nat) (xs : List PV) : T ns (R.set n (.lst xs)) (setAt st (n + 2) xs) := by
  obtain ⟨p, q, z, h1, h2, h3, rfl⟩ := h
  exact ⟨p, q, z, h1, h2, h3, rfl⟩
theorem lowL_ints (n : Nat) : ∀ l : List Int, PV.lowL n (l.map .int) = true
  | [] => rfl
  | _ :: l => lowL_ints n l
theorem lowL_strs (n : Nat) : ∀ l : List Str, PV.lowL n (l.map .str) = true
  | [] => rfl
  | _ :: l => lowL_strs n l
/-- a call's end where the store has grown -/
theorem T.drop {C : Store} {st' : Store} (h' : T ns (R ++ C) st') (hR : R.all (Cell.low (R.length + 2)) = true) {v : PV} (hv : PV.low (R.length + 2) v = true) :
    ∃ st2, U.leave (R.length + 2) v st' = .ok v st2 ∧ T ns R st2 := by
  have l2 := h'.len
  obtain ⟨p, q, z, h1, h2, h3, rfl⟩ := h'
  unfold U.leave
  split
  · rename_i hl
    have : C = [] := by
      cases C with
      | nil => rfl
      | cons c C => rw [l2] at hl; simp at hl; omega
    subst this
    exact ⟨_, rfl, p, q, z, h1, h2, h3, by simp⟩
  · have et : (TS ns (R ++ C) p q z).take (R.length + 2) = TS ns R p q z := by
      show Cell.lst (ns.map .int) :: .lst (tp 0 p q z) :: (R ++ C).take R.length = _
      simp [TS]
    rw [et]
    have c2 : (TS ns R p q z).all (Cell.low (R.length + 2)) = true := by
      unfold TS
      rw [List.all_cons, List.all_cons, hR]
      have a1 : Cell.low (R.length + 2) (.lst (ns.map .int)) = true := lowL_ints _ _
      have a2 : Cell.low (R.length + 2) (.lst (tp 0 p q z)) = true := by
        show (decide (1 < R.length + 2) && true) = true
        simp
      rw [a1, a2]; rfl
    rw [hv, c2]
    exact ⟨_, rfl, p, q, z, h1, h2, h3, rfl⟩
@[simp] theorem cmp_eq_bl (i j : Bool) (st : Store) : cmpV .eq (.bl i) (.bl j) st = some (decide (i = j)) := by
  show some (decide (V.bl i = V.bl j)) = _
  simp
theorem rng_ok {n : Int} {st : Store} (h0 : 0 ≤ n) (h1 : n < 100000) : rngV (.int 0) (.int n) st = .ok (.items ((List.range n.toNat).map fun (k : Nat) => .int k)) st := by
  have : rngV (.int 0) (.int n) st = .ok (.items ((List.range (n - 0).toNat).map fun (k : Nat) => .int (0 + k))) st := if_pos (by omega)
  rw [this, show n - 0 = n by omega]
  simp only [Int.zero_add]
theorem lt4 {r : Int} (h0 : 0 ≤ r) (h1 : r < 4) : r = 0 ∨ r = 1 ∨ r = 2 ∨ r = 3 := by omega
end K31

set_option maxHeartbeats 4000000
namespace K31
open PySem L2 U
variable {ns : List Int} {R : Store} {st : Store}
theorem isW_lt : ((("abcdefghijklmnopqrstuvwxyzABCDEFGHIJKLMNOPQRSTUVWXYZ_0123456789" : Str)).cps.toList).all (fun c => decide (c < 256)) = true := by decide +kernel
theorem B.sb {n : Nat} {x : Str} (h : B n x) (hn : n ≤ 60) : SB x := ⟨Nat.le_trans h.1 hn, fun c hc => by
  have h1 := of_decide_eq_true (h.2 c hc)
  exact of_decide_eq_true ((List.all_eq_true.mp isW_lt) c h1)⟩
def bSB (z : Str) : Bool := decide (z.length ≤ 20) && z.cps.toList.all fun c => decide (c < 256)
theorem SB.of {z : Str} (h : bSB z = true) : SB z := by
  unfold bSB at h
  rw [Bool.and_eq_true, List.all_eq_true] at h
  have := of_decide_eq_true h.1
  exact ⟨by omega, fun c hc => of_decide_eq_true (h.2 c hc)⟩
theorem SB.app {n m : Nat} {x y : Str} (hx : SB x) (hy : SB y) (h1 : x.length ≤ n) (h2 : y.length ≤ m) (h : n + m ≤ 60) : SB (x ++ y) := by
  refine ⟨by rw [len_app]; omega, fun c hc => ?_⟩
  have hc : c ∈ TL.tl (x ++ y) := hc
  rw [TL.tl_append, List.mem_append] at hc
  exact hc.elim (hx.2 c) (hy.2 c)
theorem erase_map {α β : Type} (f : α → β) : ∀ (l : List α) (i : Nat), (l.map f).eraseIdx i = (l.eraseIdx i).map f
  | [], _ => rfl
  | _ :: _, 0 => rfl
  | x :: l, i + 1 => by simp [erase_map f l i]
theorem pop_ok {n : Nat} {xs : List PV} {i : Int} {st : Store} (h : st[n]? = some (.lst xs)) (h0 : 0 ≤ i) (h1 : i < xs.length) (hl : xs.length < 100) : ∃ y, y ∈ xs ∧ mtV .pop (.loc n) [.int i] st = .ok y (setAt st n (xs.eraseIdx i.toNat)) := by
  have hi : i.toNat < xs.length := by omega
  refine ⟨xs[i.toNat], List.getElem_mem _, ?_⟩
  unfold mtV
  simp only [h]
  rw [if_pos (by omega)]
  have e : seqIndex? i xs.length = some i.toNat := by
    have := (ixN_seq (n := xs.length) (i := i) (j := i.toNat) (by
      unfold ixN
      rw [if_pos h0, if_pos (by omega)])).1
    exact this
  rw [e]
  simp only [List.getElem?_eq_getElem hi]
theorem outs_ok {k : Nat} (hR : R.all (Cell.low (R.length + 2)) = true) (t : T ns R st) : ∃ (xs : List Str) (st' : Store), evCall TURNS D (k + 3) 209 [.loc 1] st = .ok (.fl (xs.map .str)) st' ∧ T ns R st' ∧ 1 ≤ xs.length ∧ xs.length ≤ 4 ∧ ∀ x ∈ xs, SB x := by
  obtain ⟨xs, st1, h1, hl, hx, t1⟩ := names_ok (k := k) (mn := 1) (by decide) (by decide) t
  obtain ⟨nm, rfl⟩ : ∃ nm, xs = [nm] := by
    match xs, hl with
    | [a], _ => exact ⟨a, rfl⟩
  have gn := (hx nm List.mem_cons_self).1
  have sn := gn.sb (by omega)
  obtain ⟨r2, st2, h2, t2, l2, u2⟩ := drawT (k := k + 1) (m := 100) t1 (by decide)
  obtain ⟨tx, b2, nb⟩ : ∃ tx : Str, biV .str [.int r2] st2 = some (.str tx) ∧ B 5 tx := ⟨toString r2, bi_str (by omega), num_B l2 u2⟩
  have w1 : (("return " : Str)).length = 7 := by decide +kernel
  have w2 : (("break " : Str)).length = 6 := by decide +kernel
  have w3 : (("continue " : Str)).length = 9 := by decide +kernel
  have g1 := gn.1
  have g2 : tx.length ≤ 5 := nb.1
  have a1 := add_ok (x := "return ") (y := tx) (st := st2) (by omega) (by omega)
  have a2 := add_ok (x := "break ") (y := nm) (st := st2) (by omega) (by omega)
  have a3 := add_ok (x := "continue ") (y := nm) (st := st2) (by omega) (by omega)
  obtain ⟨menu, hm, hml, hms⟩ : ∃ menu : List Str, [PV.str "end", .str "return", .str ("return " ++ tx), .str "hang", .str ("break " ++ nm), .str ("continue " ++ nm), .str "return 0"] = menu.map .str ∧ menu.length = 7 ∧ ∀ x ∈ menu, SB x := by
    refine ⟨["end", "return", "return " ++ tx, "hang", "break " ++ nm, "continue " ++ nm, "return 0"], rfl, rfl, fun x hx => ?_⟩
    simp only [List.mem_cons, List.not_mem_nil, or_false] at hx
    rcases hx with rfl | rfl | rfl | rfl | rfl | rfl | rfl
    · exact .of (by decide +kernel)
    · exact .of (by decide +kernel)
    · exact SB.app (n := 7) (m := 5) (.of (by decide +kernel)) (nb.sb (by omega)) (by omega) g2 (by omega)
    · exact .of (by decide +kernel)
    · exact SB.app (n := 6) (m := 30) (.of (by decide +kernel)) sn (by omega) g1 (by omega)
    · exact SB.app (n := 9) (m := 30) (.of (by decide +kernel)) sn (by omega) g1 (by omega)
    · exact .of (by decide +kernel)
  have tm := t2.push [.lst (menu.map .str)]
  obtain ⟨r3, st3, h3, t3, l3, u3⟩ := drawT (k := k + 1) (m := 4) tm (by decide)
  have hr : rngV (.int 0) (.int (1 + r3)) st3 = _ := rng_ok (by omega) (by omega)
  obtain ⟨e, s, q1, menu', found, x4, rfl, t4, hf1, hf2, _, _⟩ := forLoop_inv (put := MG.put (.nm 4)) (body := evSs (evCall TURNS D (k + 2)) TURNS b209_0) (xs := (List.range (1 + r3).toNat).map fun (k : Nat) => .int k)
    (fun j env st => ∃ (menu found : List Str) (x4 : Option PV), env = [some (.loc 1), some (.str nm), some (.loc (R.length + 2)), some (.fl (found.map .str)), x4] ∧ T ns (R ++ [.lst (menu.map .str)]) st ∧ found.length = j ∧ (∀ x ∈ found, SB x) ∧ menu.length + j = 7 ∧ ∀ x ∈ menu, SB x)
    (fun j x env st hx ⟨menu, found, x4, e, t, f1, f2, m1, m2⟩ => by
      subst e
      have hj : j < (1 + r3).toNat := by
        have := (List.getElem?_eq_some_iff.mp hx).1
        simpa using this
      have hat : ∀ st, T ns (R ++ [.lst (menu.map .str)]) st → st[R.length + 2]? = some (.lst (menu.map .str)) := fun st t => by rw [t.at]; simp
      obtain ⟨r, st', g, t', lo, up⟩ := drawT (k := k + 1) (m := menu.length) t (by omega)
      obtain ⟨y, hy, hp⟩ := pop_ok (hat st' t') lo (by rw [List.length_map]; exact up) (by rw [List.length_map]; omega)
      obtain ⟨z, hz, rfl⟩ := List.mem_map.mp hy
      refine ⟨_, rfl, ?_⟩
      have bl := bi_len_loc (hat st t)
      rw [List.length_map] at bl
      have body : evSs (evCall TURNS D (k + 2)) TURNS b209_0 [some (.loc 1), some (.str nm), some (.loc (R.length + 2)), some (.fl (found.map .str)), some x] st = .nx [some (.loc 1), some (.str nm), some (.loc (R.length + 2)), some (.fl ((found ++ [z]).map .str)), some x] (setAt st' (R.length + 2) ((menu.map PV.str).eraseIdx r.toNat)) := by
        simp [b209_0, evSs, evS, ev, evA, evCs, recv_loc (hat st t), bl, g, hp]
        rw [if_pos (by rw [sizeLine_eq]; omega)]
        rfl
      show SR.go (evSs (evCall TURNS D (k + 2)) TURNS b209_0 [some (.loc 1), some (.str nm), some (.loc (R.length + 2)), some (.fl (found.map .str)), some x] st) _
      rw [body, go_nx]
      refine ⟨menu.eraseIdx r.toNat, found ++ [z], some x, rfl, ?_, ?_, ?_, ?_, ?_⟩
      · have ts := t'.set R.length ((menu.map PV.str).eraseIdx r.toNat)
        rw [erase_map] at ts ⊢
        simpa using ts
      · simp [f1]
      · intro w hw
        rcases List.mem_append.mp hw with hw | hw
        · exact f2 w hw
        · rw [List.mem_singleton.mp hw]; exact m2 z hz
      · rw [List.length_eraseIdx_of_lt (by omega)]; omega
      · exact fun w hw => m2 w (List.mem_of_mem_eraseIdx hw)) (1 + r3).toNat 0 [some (.loc 1), some (.str nm), some (.loc (R.length + 2)), some (.fl (([] : List Str).map .str)), none] st3 (by simp) ⟨menu, [], none, rfl, t3, rfl, (by simp), by omega, hms⟩
  obtain ⟨st5, g5, t5⟩ := t4.drop hR (v := .fl (found.map .str)) (lowL_strs _ _)
  refine ⟨found, st5, ?_, t5, ?_, ?_, hf2⟩
  · rw [show k + 3 = (k + 2) + 1 from rfl, evCall]
    have el : st2.length = R.length + 2 := t2.len
    simp [D, d209, evSs, evS, ev, evA, evCs, evSrc, h1, h2, b2, a1, a2, a3, hm, hml, el, h3, hr, Src.many, sizeLine_eq, -List.map_map]
    rw [show ([] : List PV) = ([] : List Str).map .str from rfl, q1]
    simp [ME.held, t.len, g5]
  · rw [hf1]; simp; omega
  · rw [hf1]; simp; omega
end K31

set_option maxHeartbeats 4000000
namespace K31
open PySem L2 U
variable {ns : List Int} {R : Store} {st : Store}
theorem pick2 {i : Int} (h0 : 0 ≤ i) (h1 : i < 2) : i = 0 ∨ i = 1 := by omega
/-- a node is drawn -/
theorem turn10 {k : Nat} {many x : Int} {nm oc : List Str} {rows : List PV} {R' : Store} (hR : R = .lst (nm.map .str) :: .lst (oc.map .str) :: R') (t : T ns R st) (hm : 1 ≤ many ∧ many ≤ 800) (hn : 1 ≤ nm.length ∧ nm.length ≤ 10) (ho : 1 ≤ oc.length ∧ oc.length ≤ 10) (sn : ∀ x ∈ nm, SB x) (so : ∀ x ∈ oc, SB x) (hl : rows.length ≤ 900) :
    ∃ v st', evSs (evCall TURNS D (k + 1)) TURNS b210_0 [some (.loc 1), some (.int many), some (.loc 2), some (.loc 3), some (.fl rows), some (.int x)] st = .nx [some (.loc 1), some (.int many), some (.loc 2), some (.loc 3), some (.fl (rows ++ [v])), some (.int x)] st' ∧ T ns R st' ∧ ∀ m : Nat, many ≤ m → Nd m v := by
  have sl := sizeLine_eq
  have c3 : ∀ st, T ns R st → st[2]? = some (.lst (nm.map .str)) := fun st t => by have := t.at 0; rw [hR] at this; exact this
  have c4 : ∀ st, T ns R st → st[3]? = some (.lst (oc.map .str)) := fun st t => by have := t.at 1; rw [hR] at this; exact this
  have first : ∃ q : Int, atI [PV.int 12, .int 3] (if decide (0 < x) = true then 1 else 0) = some (.int q) ∧ 1 ≤ q ∧ q ≤ 12 := by
    split <;> exact ⟨_, by simp; rfl, by decide, by decide⟩
  obtain ⟨q, hq, q0, q1⟩ := first
  obtain ⟨r1, st1, h1, t1, l1, u1⟩ := drawT (k := k) (m := q) t (by omega)
  by_cases z : r1 = 0
  · subst z
    have bl := bi_len_loc (c4 st1 t1)
    rw [List.length_map] at bl
    obtain ⟨r2, st2, h2, t2, l2, u2⟩ := drawT (k := k) (m := oc.length) t1 (by omega)
    obtain ⟨y, hy, e⟩ := pick (xs := oc.map PV.str) (i := r2) l2 (by rw [List.length_map]; exact u2)
    obtain ⟨o, ho2, rfl⟩ := List.mem_map.mp hy
    refine ⟨.tup [.str "outcome", .str o], st2, ?_, t2, fun m _ => .inr ⟨o, so o ho2, rfl⟩⟩
    simp only [b210_0, evSs, evS, ev, evA, evCs]
    simp at hq
    simp [hq, h1, bl, h2, ix_loc (c4 _ _), e, sl, ix_loc (c4 st2 t2), ix_loc (c4 st1 t1)]
    rw [if_pos (by omega)]
    rfl
  · have bl := bi_len_loc (c3 st1 t1)
    rw [List.length_map] at bl
    obtain ⟨r2, st2, h2, t2, l2, u2⟩ := drawT (k := k) (m := nm.length) t1 (by omega)
    obtain ⟨y, hy, e⟩ := pick (xs := nm.map PV.str) (i := r2) l2 (by rw [List.length_map]; exact u2)
    obtain ⟨o, ho2, rfl⟩ := List.mem_map.mp hy
    obtain ⟨r3, st3, h3, t3, l3, u3⟩ := drawT (k := k) (m := many) t2 (by omega)
    obtain ⟨r4, st4, h4, t4, l4, u4⟩ := drawT (k := k) (m := many) t3 (by omega)
    refine ⟨.tup [.str "call", .str o, .int r3, .int r4], st4, ?_, t4, fun m hm2 => .inl ⟨o, r3, r4, sn o ho2, rfl, l3, by omega, l4, by omega⟩⟩
    simp only [b210_0, evSs, evS, ev, evA, evCs]
    simp at hq
    simp [hq, h1, z, bl, h2, e, sl, ix_loc (c3 st2 t2), ix_loc (c3 st1 t1), h3, h4]
    rw [if_pos (by omega)]
    rfl
theorem nodes_ok {k : Nat} {many : Int} {nm oc : List Str} {R' : Store} (hR : R = .lst (nm.map .str) :: .lst (oc.map .str) :: R') (t : T ns R st) (hm : 1 ≤ many ∧ many ≤ 800) (hn : 1 ≤ nm.length ∧ nm.length ≤ 10) (ho : 1 ≤ oc.length ∧ oc.length ≤ 10) (sn : ∀ x ∈ nm, SB x) (so : ∀ x ∈ oc, SB x) :
    ∃ g st', evCall TURNS D (k + 2) 210 [.loc 1, .int many, .loc 2, .loc 3] st = .ok (.tup g) st' ∧ T ns R st' ∧ Gr g ∧ g.length = many.toNat := by
  have sl := sizeLine_eq
  have hr := rng_ok (n := many) (st := st) (by omega) (by omega)
  obtain ⟨e, s, q1, rows, x5, rfl, t1, hl, hv⟩ := forLoop_inv (put := MG.put (.nm 5)) (body := evSs (evCall TURNS D (k + 1)) TURNS b210_0) (xs := (List.range many.toNat).map fun (k : Nat) => .int k)
    (fun j env st => ∃ (rows : List PV) (x5 : Option PV), env = [some (.loc 1), some (.int many), some (.loc 2), some (.loc 3), some (.fl rows), x5] ∧ T ns R st ∧ rows.length = j ∧ ∀ v ∈ rows, Nd many.toNat v)
    (fun j x env st hx ⟨rows, x5, e, t, h1, h2⟩ => by
      subst e
      have hj : j < many.toNat := by
        have := (List.getElem?_eq_some_iff.mp hx).1
        simpa using this
      have hx : x = .int j := by
        rw [List.getElem?_map, List.getElem?_range hj] at hx
        simpa using hx.symm
      subst hx
      obtain ⟨v, st', g, t', hv⟩ := turn10 (k := k) (x := j) (rows := rows) hR t hm hn ho sn so (by omega)
      refine ⟨_, rfl, ?_⟩
      show SR.go (evSs (evCall TURNS D (k + 1)) TURNS b210_0 [some (.loc 1), some (.int many), some (.loc 2), some (.loc 3), some (.fl rows), some (.int j)] st) _
      rw [g, go_nx]
      refine ⟨rows ++ [v], _, rfl, t', by simp [h1], fun w hw => ?_⟩
      rcases List.mem_append.mp hw with hw | hw
      · exact h2 w hw
      · rw [List.mem_singleton.mp hw]; exact hv _ (by omega)) many.toNat 0 [some (.loc 1), some (.int many), some (.loc 2), some (.loc 3), some (.fl []), none] st (by simp) ⟨[], none, rfl, t, rfl, by simp⟩
  have hl : rows.length = many.toNat := by rw [hl]; simp
  refine ⟨rows, s, ?_, t1, ⟨fun z => ?_, by omega, by rw [hl]; exact hv⟩, hl⟩
  · rw [show k + 2 = (k + 1) + 1 from rfl, evCall]
    have ll : leave st.length (.tup rows) s = .ok (.tup rows) s := leave_same (by rw [t.len, t1.len]; exact Nat.le_refl _)
    simp [D, d210, evSs, evS, ev, evA, evCs, evSrc, hr, Src.many, q1, ll, ME.held, -List.map_map]
  · rw [z] at hl; simp at hl; omega
end K31

set_option maxHeartbeats 4000000
namespace K31
open PySem L2 U
/-! ### keys as values -/
def kp : L2.Key → PV
  | .inl i => .int i
  | .inr s => .str s
def kt (k : Ky) : PV := .tup (k.map kp)
theorem keysS_kp : ∀ k : Ky, keysS (k.map kp) = some k
  | [] => rfl
  | x :: k => by
    rw [List.map_cons]
    unfold keysS
    rw [keysS_kp k]
    cases x <;> rfl
def KOk (k : Ky) : Prop := keyOk (k.map kp) = true
theorem keyD_kt {k : Ky} (h : KOk k) : keyD true (kt k) = some k := by
  show (if keyOk (k.map kp) then keysS (k.map kp) else none) = _
  rw [show keyOk (k.map kp) = true from h, keysS_kp]; rfl
@[simp] theorem kt_fl (k : Ky) : (kt k).isFl = false := rfl
@[simp] theorem esc_kt (k : Ky) (st : Store) : esc (kt k) st = (kt k, st) := rfl
@[simp] theorem varV_kt (k : Ky) (st : Store) : varV .val (some (some (kt k))) st = .ok (kt k) st := rfl
/-- the dict of the keys seen, each with its number -/
def kvF : List Ky → Nat → List (Ky × PV)
  | [], _ => []
  | k :: ks, i => (k, .int i) :: kvF ks (i + 1)
theorem kvF_len : ∀ (ks : List Ky) (i : Nat), (kvF ks i).length = ks.length
  | [], _ => rfl
  | _ :: ks, i => congrArg (· + 1) (kvF_len ks (i + 1))
theorem kvF_app : ∀ (ks : List Ky) (x : Ky) (i : Nat), kvF (ks ++ [x]) i = kvF ks i ++ [(x, .int ((i + ks.length : Nat) : Int))]
  | [], x, i => rfl
  | k :: ks, x, i => by
    rw [List.cons_append, kvF, kvF_app ks x (i + 1), kvF, List.cons_append, List.length_cons, show i + 1 + ks.length = i + (ks.length + 1) by omega]
theorem kvF_look : ∀ (ks : List Ky) (x : Ky) (i : Nat), dLook (kvF ks i) x = if x ∈ ks then some (.int ((i + ks.idxOf x : Nat) : Int)) else none
  | [], x, i => by simp [kvF, dLook]
  | k :: ks, x, i => by
    have ih := kvF_look ks x (i + 1)
    by_cases e : k = x
    · subst e
      simp [kvF, dLook, List.find?_cons]
    · have e1 : dLook (kvF (k :: ks) i) x = dLook (kvF ks (i + 1)) x := by simp [kvF, dLook, List.find?_cons, e]
      have e2 : (k == x) = false := by simpa using e
      have e3 : ¬ x = k := fun z => e z.symm
      rw [e1, ih, List.idxOf_cons, e2]
      simp only [List.mem_cons, e3, false_or]
      split
      · congr 3
        simp
        omega
      · rfl
theorem kvF_any (ks : List Ky) (x : Ky) (i : Nat) : ((kvF ks i).any fun kv => decide (kv.1 = x)) = decide (x ∈ ks) := by
  induction ks generalizing i with
  | nil => simp [kvF]
  | cons k ks ih =>
    rw [kvF, List.any_cons, ih]
    by_cases e : k = x
    · subst e; simp
    · have e3 : ¬ x = k := fun z => e z.symm
      simp [e, e3]
theorem kvF_put {ks : List Ky} {x : Ky} (h : x ∉ ks) : dPut (kvF ks 0) x (.int (ks.length : Nat)) = kvF (ks ++ [x]) 0 := by
  unfold dPut
  rw [kvF_any, kvF_app]
  simp [h]
def Ext (st st' : Store) : Prop := ∃ C, st' = st ++ C
theorem Ext.refl (st : Store) : Ext st st := ⟨[], by simp⟩
theorem Ext.trans {a b c : Store} (h : Ext a b) (g : Ext b c) : Ext a c := by
  obtain ⟨C, rfl⟩ := h
  obtain ⟨E, rfl⟩ := g
  exact ⟨C ++ E, by simp⟩
theorem Ext.at_ {a b : Store} (h : Ext a b) {n : Nat} {c : Cell} (g : a[n]? = some c) : b[n]? = some c := by
  obtain ⟨C, rfl⟩ := h
  rw [List.getElem?_append_left (List.getElem?_eq_some_iff.mp g).1]
  exact g
theorem Ext.app (st C : Store) : Ext st (st ++ C) := ⟨C, rfl⟩
/-- a call's end over a store that has grown -/
theorem leave_ext {st st' : Store} (v : PV) (h : Ext st st') : ∃ st2, leave st.length v st' = .ok v st2 ∧ Ext st st2 := by
  obtain ⟨C, rfl⟩ := h
  unfold leave
  split
  · exact ⟨_, rfl, .app _ _⟩
  · split
    · exact ⟨_, rfl, by simp; exact .refl _⟩
    · exact ⟨_, rfl, .app _ _⟩
/-! ### the numbers of keys -/
theorem elt214 {k : Nat} {st : Store} {n : Nat} {seen : List Ky} {x : Ky} (hx : KOk x) (hl : seen.length < 10000) :
    ev (evCall TURNS D k) e214_0 .val [some (.loc n), some (.loc st.length), some (kt x)] (st ++ [.dct true (kvF seen 0)]) =
      if x ∈ seen then .ok (.int (seen.idxOf x : Nat)) (st ++ [.dct true (kvF seen 0)]) else .ok (.int (seen.length : Nat)) (st ++ [.dct true (kvF (seen ++ [x]) 0)]) := by
  have hd : (st ++ [Cell.dct true (kvF seen 0)])[st.length]? = some (.dct true (kvF seen 0)) := by simp
  have h1 : dctOf (.loc st.length) (st ++ [Cell.dct true (kvF seen 0)]) = some (true, kvF seen 0) := by
    unfold dctOf; simp only [hd]
  have h2 : recvD (.loc st.length) (st ++ [Cell.dct true (kvF seen 0)]) = some (.loc st.length) := by
    unfold recvD; rw [h1]
  have h3 : dlenV (.loc st.length) (st ++ [Cell.dct true (kvF seen 0)]) = some (.int (seen.length : Nat)) := by
    unfold dlenV; rw [h1]; simp [kvF_len]
  have h4 : dsdfV (.loc st.length) (kt x) (.int (seen.length : Nat)) (st ++ [Cell.dct true (kvF seen 0)]) = if x ∈ seen then .ok (.int (seen.idxOf x : Nat)) (st ++ [.dct true (kvF seen 0)]) else .ok (.int (seen.length : Nat)) (st ++ [.dct true (kvF (seen ++ [x]) 0)]) := by
    unfold dsdfV
    simp only [hd]
    rw [keyD_kt hx]
    simp only
    rw [if_pos ⟨by rw [kvF_len, sizeLine_eq]; omega, rfl⟩, kvF_look]
    by_cases hm : x ∈ seen
    · simp [hm]
    · rw [if_neg hm, if_neg hm]
      simp only
      rw [kvF_put hm]
      simp
  simp only [e214_0, ev]
  simp [h2, h3]
  rw [h4]
  split <;> rfl
theorem loop214 {k : Nat} {st : Store} {n : Nat} {ks : List Ky} (hn : st[n]? = some (.lst (ks.map kt))) (hk : ∀ x ∈ ks, KOk x) (hl : ks.length < 10000) : ∀ (rest pre seen : List Ky) (acc : List PV), ks = pre ++ rest → seen.length ≤ pre.length → acc.length = pre.length →
    lcLoop (fun _ s => Res.ok true s) (ev (evCall TURNS D k) e214_0 .val) (MG.put (.nm 2)) [some (.loc n), some (.loc st.length), none] (.live n ks.length) pre.length rest.length acc (st ++ [.dct true (kvF seen 0)])
      = .ok (.fl (acc ++ (nbs rest seen).map fun (n : Nat) => .int n)) (st ++ [.dct true (kvF (fin rest seen) 0)])
  | [], pre, seen, acc, e, h1, h2 => by
    have hs : seqOf (.loc n) (st ++ [Cell.dct true (kvF seen 0)]) = some (ks.map kt) := by
      unfold seqOf
      simp only [(Ext.app st _).at_ hn]
    show lcLoop _ _ _ _ _ _ 0 _ _ = _
    unfold lcLoop
    rw [if_pos (by unfold Src.fits; simp only [hs]; simp)]
    simp [nbs, fin]
  | x :: rest, pre, seen, acc, e, h1, h2 => by
    have hs : seqOf (.loc n) (st ++ [Cell.dct true (kvF seen 0)]) = some (ks.map kt) := by
      unfold seqOf
      simp only [(Ext.app st _).at_ hn]
    have hx : KOk x := hk x (by rw [e]; simp)
    have hg : (Src.live n ks.length).get pre.length (st ++ [Cell.dct true (kvF seen 0)]) = some (kt x) := by
      unfold Src.get
      simp only [hs, List.length_map, if_true]
      rw [List.getElem?_map, e, List.getElem?_append_right (Nat.le_refl _), Nat.sub_self]
      rfl
    have ll : (pre ++ x :: rest).length = ks.length := by rw [e]
    rw [List.length_append, List.length_cons] at ll
    show lcLoop _ _ _ _ _ _ (rest.length + 1) _ _ = _
    unfold lcLoop
    rw [hg]
    simp only [MG.put, List.set_cons_succ, List.set_cons_zero, bind_ok_, if_true]
    rw [elt214 hx (by omega)]
    have il := loop214 (k := k) hn hk hl rest (pre ++ [x])
    rw [List.length_append, List.length_singleton] at il
    by_cases hm : x ∈ seen
    · rw [if_pos hm]
      simp only [bind_ok_, esc_int]
      rw [if_pos (by rw [sizeLine_eq]; omega)]
      refine (il seen _ (by rw [e]; simp) (by omega) (by simp [h2])).trans ?_
      rw [show nbs (x :: rest) seen = seen.idxOf x :: nbs rest seen by rw [nbs, if_pos hm], show fin (x :: rest) seen = fin rest seen by rw [fin, if_pos hm]]
      simp
    · rw [if_neg hm]
      simp only [bind_ok_, esc_int]
      rw [if_pos (by rw [sizeLine_eq]; omega)]
      refine (il (seen ++ [x]) _ (by rw [e]; simp) (by simp; omega) (by simp [h2])).trans ?_
      rw [show nbs (x :: rest) seen = seen.length :: nbs rest (seen ++ [x]) by rw [nbs, if_neg hm], show fin (x :: rest) seen = fin rest (seen ++ [x]) by rw [fin, if_neg hm]]
      simp
theorem nk_ok {k : Nat} {st : Store} {n : Nat} {ks : List Ky} (hn : st[n]? = some (.lst (ks.map kt))) (hk : ∀ x ∈ ks, KOk x) (hl : ks.length < 10000) :
    ∃ st', evCall TURNS D (k + 1) 214 [.loc n] st = .ok (.fl ((nbs ks []).map fun (n : Nat) => .int n)) st' ∧ Ext st st' := by
  have lp := loop214 (k := k) hn hk hl ks [] [] [] rfl (Nat.le_refl _) rfl
  have hs : seqOf (.loc n) (st ++ [Cell.dct true []]) = some (ks.map kt) := by
    unfold seqOf
    simp only [(Ext.app st _).at_ hn]
  obtain ⟨st2, h1, h2⟩ := leave_ext (st := st) (.fl ((nbs ks []).map fun (n : Nat) => .int n)) (.app st [.dct true (kvF (fin ks []) 0)])
  refine ⟨st2, ?_, h2⟩
  simp only [evCall, D, d214]
  simp only [evSs, evS, ev, done_val_, to_ok_, esc_loc, then_nx_]
  simp [ME.held, srcV, hs, MG.slots, U.wipe, Src.many]
  rw [show ([] : List (Ky × PV)) = kvF [] 0 from rfl]
  simp only [List.length_nil, List.nil_append] at lp
  rw [lp]
  simpa using h1
end K31

set_option maxHeartbeats 4000000
namespace K31
open PySem L2 U
/-! ### graphs -/
def labV : PV → Ky
  | .tup (.str a :: .str b :: _) => [.inr a, .inr b]
  | _ => []
def scV : PV → List Nat
  | .tup [_, _, .int x, .int y] => [x.toNat, y.toNat]
  | _ => []
def AGof (g : List PV) : AG := ⟨g.map labV, g.map scV⟩
theorem ag_len (g : List PV) : (AGof g).lab.length = g.length := by simp [AGof]
theorem lab_ok {m : Nat} {v : PV} (h : Nd m v) : KOk (labV v) := by
  rcases h with ⟨nm, x, y, _, rfl, _⟩ | ⟨o, _, rfl⟩
  · show (decide (Str.ofString "call" = Str.ofString "call") || decide (Str.ofString "call" = Str.ofString "outcome")) = true
    simp
  · show (decide (Str.ofString "outcome" = Str.ofString "call") || decide (Str.ofString "outcome" = Str.ofString "outcome")) = true
    simp
theorem keyN_ok (nums : List Nat) (l : List Nat) (n : Nat) : KOk (keyN nums l n) := rfl
theorem ag_ok {g : List PV} (h : Gr g) : (AGof g).Ok := by
  refine ⟨by simp [AGof], fun l hl x hx => ?_, fun i j l m e hi hj => ?_⟩
  · rw [ag_len]
    obtain ⟨v, hv, rfl⟩ := List.mem_map.mp hl
    rcases h.2.2 v hv with ⟨nm, a, b, _, rfl, h1, h2, h3, h4⟩ | ⟨o, _, rfl⟩
    · simp only [scV, List.mem_cons, List.not_mem_nil, or_false] at hx
      rcases hx with rfl | rfl <;> omega
    · cases hx
  · simp only [AGof, List.getElem?_map] at e hi hj
    obtain ⟨v, hv, rfl⟩ := Option.map_eq_some_iff.mp hi
    obtain ⟨w, hw, rfl⟩ := Option.map_eq_some_iff.mp hj
    rw [hv, hw] at e
    have e : labV v = labV w := Option.some.inj e
    rcases h.2.2 v (List.mem_of_getElem? hv) with ⟨nm, a, b, _, rfl, _⟩ | ⟨o, _, rfl⟩ <;> rcases h.2.2 w (List.mem_of_getElem? hw) with ⟨nm2, a2, b2, _, rfl, _⟩ | ⟨o2, _, rfl⟩
    · rfl
    · simp only [labV, List.cons.injEq, Sum.inr.injEq] at e
      exact absurd e.1 no_out
    · simp only [labV, List.cons.injEq, Sum.inr.injEq] at e
      exact absurd e.1 no_out2
    · rfl
theorem cut_lab {m : Nat} {v : PV} {st : Store} (h : Nd m v) : slV v none (some 2) st = some (kt (labV v)) := by
  rcases h with ⟨nm, a, b, _, rfl, _⟩ | ⟨o, _, rfl⟩ <;> rfl
def tailV : PV → List PV
  | .tup (_ :: _ :: r) => r
  | _ => []
theorem cut_tail {m : Nat} {v : PV} {st : Store} (h : Nd m v) : slV v (some 2) none st = some (.tup (tailV v)) := by
  rcases h with ⟨nm, a, b, _, rfl, _⟩ | ⟨o, _, rfl⟩ <;> rfl
theorem fold_max : ∀ (r : List Int) (n M : Int), (∀ x ∈ n :: r, x ≤ M) → M ∈ n :: r → r.foldl max n = M
  | [], n, M, h, hm => by
    rcases List.mem_cons.mp hm with rfl | z
    · rfl
    · cases z
  | a :: r, n, M, h, hm => by
    rw [List.foldl_cons]
    refine fold_max r (max n a) M (fun x hx => ?_) ?_
    · rcases List.mem_cons.mp hx with rfl | hx
      · have h1 := h n List.mem_cons_self
        have h2 := h a (List.mem_cons_of_mem _ List.mem_cons_self)
        omega
      · exact h x (List.mem_cons_of_mem _ (List.mem_cons_of_mem _ hx))
    · rcases List.mem_cons.mp hm with rfl | hm
      · have h2 := h a (List.mem_cons_of_mem _ List.mem_cons_self)
        rw [show max M a = M by omega]
        exact List.mem_cons_self
      · rcases List.mem_cons.mp hm with rfl | hm
        · have h1 := h n List.mem_cons_self
          rw [show max n M = M by omega]
          exact List.mem_cons_self
        · exact List.mem_cons_of_mem _ hm
def nats (l : List Nat) : List PV := l.map fun (n : Nat) => .int n
theorem nats_len (l : List Nat) : (nats l).length = l.length := by simp [nats]
theorem intsL_nats : ∀ l : List Nat, intsL (nats l) = some (l.map fun (n : Nat) => (n : Int))
  | [] => rfl
  | n :: l => by
    show (intsL (nats l)).map ((n : Int) :: ·) = _
    rw [intsL_nats l]; rfl
theorem max_ok {p : Nat} {st : Store} {l : List Nat} {M : Nat} (h : st[p]? = some (.lst (nats l))) (h1 : ∀ x ∈ l, x ≤ M) (h2 : M ∈ l) : biV .max [.loc p] st = some (.int (M : Nat)) := by
  have hs : rdOf (.loc p) st = some (nats l) := by
    show seqOf (.loc p) st = _
    unfold seqOf
    simp only [h]
  show (match rdOf (.loc p) st with
    | some xs => match intsL xs with
      | some (n :: r) => some (PV.int (r.foldl max n))
      | _ => none
    | none => none) = _
  rw [hs]
  simp only
  rw [intsL_nats]
  cases l with
  | nil => cases h2
  | cons n l =>
    simp only [List.map_cons]
    rw [fold_max (l.map fun (n : Nat) => (n : Int)) n M (fun x hx => by
      rw [← List.map_cons (f := fun (n : Nat) => (n : Int))] at hx
      obtain ⟨y, hy, rfl⟩ := List.mem_map.mp hx
      have := h1 y hy
      omega) (by
      rw [← List.map_cons (f := fun (n : Nat) => (n : Int))]
      exact List.mem_map.mpr ⟨M, h2, rfl⟩)]
theorem nats_at {l : List Nat} {x : Int} (h0 : 0 ≤ x) (h1 : x < l.length) : atI (nats l) x = some (.int (l.getD x.toNat 0 : Nat)) := by
  refine atI_nn h0 ?_
  have : x.toNat < l.length := by omega
  unfold nats
  rw [List.getElem?_map, List.getElem?_eq_getElem this, List.getD_eq_getElem?_getD, List.getElem?_eq_getElem this]
  rfl
def fol (nums l : List Nat) : Ky := l.map fun o => (Sum.inl ((nums.getD o 0 : Nat) : Int) : L2.Key)
theorem keyN_fol (nums l : List Nat) (n : Nat) : keyN nums l n = Sum.inl (n : Int) :: fol nums l := rfl
/-- the numbers of a node's followers -/
theorem tail_ok {call : Nat → List PV → Store → Res PV} {m p : Nat} {v : PV} {st : Store} {nums : List Nat} {a0 a2 a3 a4 a5 : Option PV} (h : Nd m v) (hm : m = nums.length) (hp : st[p]? = some (.lst (nats nums))) :
    lcLoop (fun _ s => Res.ok true s) (ev call e213_1 .val) (MG.put (.nm 6)) [a0, some (.loc p), a2, a3, a4, a5, none] (.items (tailV v)) 0 (tailV v).length [] st = .ok (.fl ((fol nums (scV v)).map kp)) st := by
  rcases h with ⟨nm, a, b, _, rfl, h1, h2, h3, h4⟩ | ⟨o, _, rfl⟩
  · have e1 := nats_at (l := nums) h1 (by omega)
    have e2 := nats_at (l := nums) h3 (by omega)
    simp only [tailV, scV, List.length_cons, List.length_nil]
    simp [lcLoop, Src.get, Src.fits, MG.put, e213_1, ev, ix_loc hp, e1, e2, sizeLine_eq, kp, fol]
  · simp [tailV, scV, lcLoop, Src.fits, fol]
end K31

set_option maxHeartbeats 4000000
namespace K31
open PySem L2 U
theorem seq_at_ {p : Nat} {xs : List PV} {st : Store} (h : st[p]? = some (.lst xs)) : seqOf (.loc p) st = some xs := by
  unfold seqOf; simp only [h]
/-- a node's next key is put behind the others -/
theorem turn213 {k m p : Nat} {g : List PV} {v : PV} {stA : Store} {acc : List PV} {nums : List Nat} {n : Nat} {a2 a6 : Option PV} (h : Nd m v) (hm : m = nums.length) (hp : stA[p]? = some (.lst (nats nums))) (hl : acc.length < 10000) :
    evSs (evCall TURNS D k) TURNS b213_2 [some (.tup g), some (.loc p), a2, some (.loc stA.length), some v, some (.int (n : Nat)), a6] (stA ++ [.lst acc])
      = .nx [some (.tup g), some (.loc p), a2, some (.loc stA.length), some v, some (.int (n : Nat)), a6] (stA ++ [.lst (acc ++ [kt (keyN nums (scV v) n)])]) := by
  have hp2 : (stA ++ [Cell.lst acc])[p]? = some (.lst (nats nums)) := (Ext.app stA _).at_ hp
  have hq : (stA ++ [Cell.lst acc])[stA.length]? = some (.lst acc) := by simp
  have t := tail_ok (call := evCall TURNS D k) (a0 := some (.tup g)) (a2 := a2) (a3 := some (.loc stA.length)) (a4 := some v) (a5 := some (.int (n : Nat))) h hm hp2
  have c := cut_tail (st := stA ++ [Cell.lst acc]) h
  have hv : v.isFl = false := by
    obtain ⟨xs, rfl⟩ : ∃ xs, v = .tup xs := by
      rcases h with ⟨_, _, _, _, rfl, _⟩ | ⟨_, _, rfl⟩ <;> exact ⟨_, rfl⟩
    rfl
  have hz : (fol nums (scV v)).length ≤ 2 := by
    rcases h with ⟨_, _, _, _, rfl, _⟩ | ⟨_, _, rfl⟩ <;> simp [fol, scV]
  have ap : mtV .append (.loc stA.length) [.tup (PV.int (n : Nat) :: (fol nums (scV v)).map kp)] (stA ++ [Cell.lst acc]) = .ok .non (stA ++ [.lst (acc ++ [kt (keyN nums (scV v) n)])]) := by
    unfold mtV
    simp only [hq]
    rw [if_pos ⟨by rw [sizeLine_eq]; omega, rfl⟩]
    unfold setAt
    simp [kt, keyN_fol, kp]
  simp only [b213_2, evSs, evS, ev]
  simp [recv_loc hq]
  simp only [evCs, ev, evI]
  simp [U.bound, ME.absent, c, srcV, MG.slots, U.wipe]
  rw [show (Src.items (tailV v)).many = (tailV v).length from rfl, t]
  simp
  rw [if_pos (by rw [sizeLine_eq]; omega)]
  simp [ap]
theorem step_get {g : List PV} {nums : List Nat} (hl : nums.length = g.length) {j : Nat} {v : PV} {n : Nat} (h1 : g[j]? = some v) (h2 : nums[j]? = some n) : (stepK (AGof g) nums)[j]? = some (keyN nums (scV v) n) :=
  step_at (by simp [AGof, h1]) h2
theorem loopZ {k p : Nat} {g : List PV} {stA : Store} {nums : List Nat} {a2 : Option PV} (hg : Gr g) (hm : nums.length = g.length) (hp : stA[p]? = some (.lst (nats nums))) : ∀ (r j : Nat) (a4 a5 a6 : Option PV), j + r = g.length →
    ∃ b4 b5, forLoop (MG.put (.tp [4, 5])) (evSs (evCall TURNS D k) TURNS b213_2) (.zp (.it g) (.lv p nums.length)) j r [some (.tup g), some (.loc p), a2, some (.loc stA.length), a4, a5, a6] (stA ++ [.lst (((stepK (AGof g) nums).take j).map kt)])
      = .nx [some (.tup g), some (.loc p), a2, some (.loc stA.length), b4, b5, a6] (stA ++ [.lst ((stepK (AGof g) nums).map kt)])
  | 0, j, a4, a5, a6, e => by
    have sl : (stepK (AGof g) nums).length = g.length := by
      rw [step_len (ag_ok hg) (by rw [ag_len]; exact hm), ag_len]
    refine ⟨a4, a5, ?_⟩
    unfold forLoop
    have hp2 : (stA ++ [Cell.lst (((stepK (AGof g) nums).take j).map kt)])[p]? = some (.lst (nats nums)) := (Ext.app stA _).at_ hp
    rw [if_pos (by unfold Src.fits Half.fits; simp only [seq_at_ hp2]; simp [nats_len]), List.take_of_length_le (by omega)]
  | r + 1, j, a4, a5, a6, e => by
    have hp2 : (stA ++ [Cell.lst (((stepK (AGof g) nums).take j).map kt)])[p]? = some (.lst (nats nums)) := (Ext.app stA _).at_ hp
    have hj : j < g.length := by omega
    have hv := List.getElem?_eq_getElem hj
    have hn := List.getElem?_eq_getElem (show j < nums.length by omega)
    have gt : (Src.zp (.it g) (.lv p nums.length)).get j (stA ++ [Cell.lst (((stepK (AGof g) nums).take j).map kt)]) = some (.tup [g[j], .int (nums[j] : Nat)]) := by
      unfold Src.get Half.get
      simp only [hv, seq_at_ hp2, nats_len, if_true]
      unfold nats
      rw [List.getElem?_map, hn]
      rfl
    have hl := hg.2.1
    have tn := turn213 (k := k) (g := g) (stA := stA) (acc := ((stepK (AGof g) nums).take j).map kt) (n := nums[j]) (a2 := a2) (a6 := a6) (hg.2.2 _ (List.getElem_mem hj)) hm.symm hp (by rw [List.length_map, List.length_take]; omega)
    have sg := step_get hm hv hn
    obtain ⟨b4, b5, ih⟩ := loopZ (k := k) (a2 := a2) hg hm hp r (j + 1) (some g[j]) (some (.int (nums[j] : Nat))) a6 (by omega)
    refine ⟨b4, b5, ?_⟩
    rw [for_step, gt]
    simp only [MG.put, setEach, List.set_cons_succ, List.set_cons_zero]
    rw [tn]
    simp only
    rw [List.take_add_one, sg, List.map_append] at ih
    exact ih
end K31

set_option maxHeartbeats 4000000
namespace K31
open PySem L2 U
theorem fin_len : ∀ (ks s : List Ky), (fin ks s).length ≤ ks.length + s.length
  | [], s => by simp [fin]
  | k :: ks, s => by
    unfold fin
    split
    · have := fin_len ks s
      rw [List.length_cons]; omega
    · have := fin_len ks (s ++ [k])
      rw [List.length_append, List.length_singleton] at this
      rw [List.length_cons]; omega
theorem keysAt_ne {g : List PV} (hg : Gr g) (t : Nat) : keysAt (AGof g) t ≠ [] := by
  intro z
  have := keys_len (ag_ok hg) t
  rw [z, ag_len] at this
  have hn := hg.1
  cases g with
  | nil => exact hn rfl
  | cons _ _ => simp at this
theorem cnt_pos {g : List PV} (hg : Gr g) (t : Nat) : 1 ≤ cnt (AGof g) t := (nbs_top (keysAt_ne hg t)).2
theorem cnt_le {g : List PV} (hg : Gr g) (t : Nat) : cnt (AGof g) t ≤ g.length := by
  have := fin_len (keysAt (AGof g) t) []
  rw [keys_len (ag_ok hg), ag_len] at this
  exact this
theorem cnt_max {g : List PV} (hg : Gr g) (t : Nat) : (∀ x ∈ itN (AGof g) t, x ≤ cnt (AGof g) t - 1) ∧ cnt (AGof g) t - 1 ∈ itN (AGof g) t := by
  rw [it_keys]
  refine ⟨fun x hx => ?_, (nbs_top (keysAt_ne hg t)).1⟩
  have := nbs_lt hx
  unfold cnt; omega
/-- the count before the t-th test -/
def cb (G : AG) : Nat → Nat
  | 0 => 0
  | t + 1 => cnt G t
theorem step_ok {g : List PV} (nums : List Nat) : ∀ x ∈ stepK (AGof g) nums, KOk x := by
  intro x hx
  unfold stepK at hx
  obtain ⟨i, hi⟩ := List.mem_iff_getElem?.mp hx
  rw [List.getElem?_zipWith] at hi
  split at hi
  · cases hi; exact keyN_ok _ _ _
  · cases hi
theorem turn_b {k t p : Nat} {g : List PV} {st : Store} {a2 a3 a4 a5 a6 : Option PV} (hg : Gr g) (hp : st[p]? = some (.lst (nats (itN (AGof g) t)))) :
    ∃ p' st' b3 b4 b5 b6, evSs (evCall TURNS D (k + 1)) TURNS b213_3 [some (.tup g), some (.loc p), a2, a3, a4, a5, a6] st = .nx [some (.tup g), some (.loc p'), some (.int ((cnt (AGof g) t : Nat) - 1)), b3, b4, b5, b6] st' ∧ Ext st st' ∧ st'[p']? = some (.lst (nats (itN (AGof g) (t + 1)))) := by
  obtain ⟨m1, m2⟩ := cnt_max hg t
  have hm := max_ok hp m1 m2
  have c1 := cnt_pos hg t
  have hl : (itN (AGof g) t).length = g.length := by rw [it_len (ag_ok hg), ag_len]
  have hg2 := hg.2.1
  obtain ⟨b4, b5, lz⟩ := loopZ (k := k + 1) (stA := st) (a2 := some (.int ((cnt (AGof g) t : Nat) - 1))) hg hl hp g.length 0 a4 a5 a6 (by omega)
  have hq : (st ++ [Cell.lst ((stepK (AGof g) (itN (AGof g) t)).map kt)])[st.length]? = some (.lst ((stepK (AGof g) (itN (AGof g) t)).map kt)) := by simp
  have sl : (stepK (AGof g) (itN (AGof g) t)).length = g.length := by
    rw [step_len (ag_ok hg) (by rw [hl, ag_len]), ag_len]
  obtain ⟨st2, n1, n2⟩ := nk_ok (k := k) hq (step_ok _) (by omega)
  refine ⟨st2.length, st2 ++ [.lst (nats (itN (AGof g) (t + 1)))], some (.loc st.length), b4, b5, a6, ?_, ((Ext.app st _).trans n2).trans (.app _ _), by simp⟩
  have e : ((cnt (AGof g) t - 1 : Nat) : Int) = ((cnt (AGof g) t : Nat) : Int) - 1 := by omega
  rw [e] at hm
  have hf : half (.loc p) (st ++ [Cell.lst []]) = some (.lv p (itN (AGof g) t).length) := by
    unfold half
    simp [seq_at_ ((Ext.app st [Cell.lst []]).at_ hp), nats_len]
  have hf0 : half (.tup g) (st ++ [Cell.lst []]) = some (.it g) := rfl
  simp only [b213_3, evSs, evS, ev, evA, evCs]
  simp [hm, esc]
  simp only [zipF, zipS, evA, ev]
  simp [hf, hf0]
  rw [show (Src.zp (.it g) (.lv p (itN (AGof g) t).length)).many = g.length by
    simp [Src.many, Half.many, hl]]
  simp only [List.take_zero, List.map_nil] at lz
  rw [lz]
  simp [n1]
  rfl
theorem while213 {k : Nat} {g : List PV} (hg : Gr g) (hN : g.length ≤ 150) : ∀ (n t p : Nat) (st : Store) (a3 a4 a5 a6 : Option PV), n + t = 200 → t ≤ cb (AGof g) t → st[p]? = some (.lst (nats (itN (AGof g) t))) →
    ∃ u p' st' b2 b3 b4 b5 b6, whlLoop (ev (evCall TURNS D (k + 1)) w213_0 .test) (evSs (evCall TURNS D (k + 1)) TURNS b213_3) n [some (.tup g), some (.loc p), some (.int ((cb (AGof g) t : Nat) - 1)), a3, a4, a5, a6] st
      = .nx [some (.tup g), some (.loc p'), b2, b3, b4, b5, b6] st' ∧ Ext st st' ∧ st'[p']? = some (.lst (nats (itN (AGof g) u))) ∧ itN (AGof g) (u + 1) = itN (AGof g) u
  | 0, t, p, st, a3, a4, a5, a6, e, h, hp => by
    exfalso
    have : cb (AGof g) t ≤ g.length := by
      cases t with
      | zero => simp [cb]
      | succ t => exact cnt_le hg t
    omega
  | n + 1, t, p, st, a3, a4, a5, a6, e, h, hp => by
    obtain ⟨m1, m2⟩ := cnt_max hg t
    have hm := max_ok hp m1 m2
    have c1 := cnt_pos hg t
    have e1 : ((cnt (AGof g) t - 1 : Nat) : Int) = ((cnt (AGof g) t : Nat) : Int) - 1 := by omega
    rw [e1] at hm
    have ht : ev (evCall TURNS D (k + 1)) w213_0 .test [some (.tup g), some (.loc p), some (.int ((cb (AGof g) t : Nat) - 1)), a3, a4, a5, a6] st = .ok (.bl (decide (cb (AGof g) t < cnt (AGof g) t))) st := by
      simp [w213_0, ev, evA, evCs, hm, to_ok_, bind_ok_]
    rw [whl_step, ht, to_ok_]
    by_cases q : cb (AGof g) t < cnt (AGof g) t
    · obtain ⟨p', st', b3, b4, b5, b6, tb, x1, x2⟩ := turn_b (k := k) (a2 := some (.int ((cb (AGof g) t : Nat) - 1))) (a3 := a3) (a4 := a4) (a5 := a5) (a6 := a6) hg hp
      obtain ⟨u, p2, st2, c2, c3, c4, c5, c6, w1, w2, w3, w4⟩ := while213 (k := k) hg hN n (t + 1) p' st' b3 b4 b5 b6 (by omega) (by simp only [cb]; omega) x2
      refine ⟨u, p2, st2, c2, c3, c4, c5, c6, ?_, x1.trans w2, w3, w4⟩
      simp only [q, decide_true, isBl]
      rw [tb]
      exact w1
    · have t0 : ∃ u, t = u + 1 := by
        cases t with
        | zero => simp [cb] at q; omega
        | succ t => exact ⟨t, rfl⟩
      obtain ⟨u, rfl⟩ := t0
      have sm := it_same (ag_ok hg) u (by simpa [cb] using q)
      refine ⟨u, p, st, some (.int ((cb (AGof g) (u + 1) : Nat) - 1)), a3, a4, a5, a6, ?_, .refl _, by rw [← sm]; exact hp, sm⟩
      simp only [q, decide_false, isBl]
theorem nd_tup {m : Nat} {v : PV} (h : Nd m v) : ∃ xs, v = .tup xs := by
  rcases h with ⟨_, _, _, _, rfl, _⟩ | ⟨_, _, rfl⟩ <;> exact ⟨_, rfl⟩
theorem lc213 {k : Nat} {st : Store} {g : List PV} {a1 a2 a3 a5 a6 : Option PV} (hg : Gr g) (hN : g.length ≤ 150) :
    lcLoop (fun _ s => Res.ok true s) (ev (evCall TURNS D k) e213_4 .val) (MG.put (.nm 4)) [some (.tup g), a1, a2, a3, none, a5, a6] (.items g) 0 g.length [] st = .ok (.fl ((AGof g).lab.map kt)) st := by
  have h := lcLoop_pure (st := st) (test := fun _ s => Res.ok true s) (elt := ev (evCall TURNS D k) e213_4 .val) (put := MG.put (.nm 4)) (env := [some (.tup g), a1, a2, a3, none, a5, a6]) (xs := g) (fun _ => true) (fun v => kt (labV v)) (by rw [sizeLine_eq]; omega) (fun x hx => by
    have hn := hg.2.2 x hx
    obtain ⟨xs, rfl⟩ := nd_tup hn
    refine ⟨_, rfl, rfl, fun _ => ⟨?_, rfl⟩⟩
    have c := cut_lab (st := st) hn
    simp [e213_4, ev, U.bound, ME.absent, c])
  rw [h, List.filter_eq_self.mpr (fun _ _ => rfl)]
  simp [AGof]
theorem leave_loc {st st' : Store} {p : Nat} {c : Cell} (h : Ext st st') (hp : st'[p]? = some c) : ∃ st2, leave st.length (.loc p) st' = .ok (.loc p) st2 ∧ Ext st st2 ∧ st2[p]? = some c := by
  obtain ⟨C, rfl⟩ := h
  unfold leave
  split
  · exact ⟨_, rfl, .app _ _, hp⟩
  · split
    · rename_i h2
      refine ⟨_, rfl, by simp; exact .refl _, ?_⟩
      rw [Bool.and_eq_true] at h2
      have : p < st.length := of_decide_eq_true h2.1
      rw [List.take_left]
      rwa [List.getElem?_append_left this] at hp
    · exact ⟨_, rfl, .app _ _, hp⟩
/-- the numbers of the classes -/
theorem cn_ok {k : Nat} {st : Store} {g : List PV} (hg : Gr g) (hN : g.length ≤ 150) :
    ∃ p st' c, evCall TURNS D (k + 2) 213 [.tup g] st = .ok (.loc p) st' ∧ Ext st st' ∧ st'[p]? = some (.lst (nats c)) ∧ c.length = g.length ∧ ∀ i j, i < g.length → j < g.length → (c[i]? = c[j]? ↔ Bis (AGof g) i j) := by
  have l0 := lc213 (k := k + 1) (st := st) (a1 := none) (a2 := none) (a3 := none) (a5 := none) (a6 := none) hg hN
  have hq : (st ++ [Cell.lst ((AGof g).lab.map kt)])[st.length]? = some (.lst ((AGof g).lab.map kt)) := by simp
  obtain ⟨st2, n1, n2⟩ := nk_ok (k := k) hq (fun x hx => by
    obtain ⟨v, hv, rfl⟩ := List.mem_map.mp hx
    exact lab_ok (hg.2.2 v hv)) (by rw [ag_len]; omega)
  have h0 : (st2 ++ [Cell.lst (nats (itN (AGof g) 0))])[st2.length]? = some (.lst (nats (itN (AGof g) 0))) := by simp
  obtain ⟨u, p', st', b2, b3, b4, b5, b6, w1, w2, w3, w4⟩ := while213 (k := k) hg hN 200 0 st2.length _ none none none none (by omega) (Nat.zero_le _) h0
  have x1 : Ext st st' := ((Ext.app st _).trans n2).trans ((Ext.app st2 _).trans w2)
  obtain ⟨st3, y1, y2, y3⟩ := leave_loc x1 w3
  have ao := ag_ok hg
  have li := it_len ao u
  rw [ag_len] at li
  refine ⟨p', st3, itN (AGof g) u, ?_, y2, y3, li, fun i j hi hj => ⟨num_bis ao w4 (by rw [ag_len]; exact hi) (by rw [ag_len]; exact hj), bis_num ao u i j (by rw [ag_len]; exact hi) (by rw [ag_len]; exact hj)⟩⟩
  rw [show k + 2 = (k + 1) + 1 from rfl, evCall]
  simp only [D, d213, evSs, evS, ev, evA, evCs]
  simp [srcV, MG.slots, U.wipe, Src.many]
  rw [l0]
  simp [esc, n1]
  have e0 : some (PV.int ((cb (AGof g) 0 : Nat) - 1)) = some (PV.int (-1)) := rfl
  rw [e0] at w1
  rw [show (TURNS) = 200 from rfl] at *
  simp [nats, itN] at w1 ⊢
  rw [w1]
  simp [ME.held, y1]
end K31

set_option maxHeartbeats 4000000
namespace K31
open PySem L2 U
/-! ### nodes put into rows -/
def addR (P : Nat → Nat → Bool) (k : Nat) : List (List Nat) → List (List Nat)
  | [] => [[k]]
  | l :: r => if P (l.headD 0) k then (l ++ [k]) :: r else l :: addR P k r
def rowsR (P : Nat → Nat → Bool) (n : Nat) : List (List Nat) := (List.range n).foldl (fun r k => addR P k r) []
theorem rowsR_succ (P : Nat → Nat → Bool) (n : Nat) : rowsR P (n + 1) = addR P n (rowsR P n) := by
  unfold rowsR
  rw [List.range_succ, List.foldl_append]; rfl
def RowOk (n : Nat) (l : List Nat) : Prop := l ≠ [] ∧ ∀ x ∈ l, x < n
theorem addR_ok {P : Nat → Nat → Bool} {n : Nat} : ∀ {r : List (List Nat)}, (∀ l ∈ r, RowOk n l) → ∀ l ∈ addR P n r, RowOk (n + 1) l
  | [], h, l, hl => by
    rw [addR, List.mem_singleton] at hl
    subst hl
    exact ⟨by simp, fun x hx => by rw [List.mem_singleton] at hx; omega⟩
  | a :: r, h, l, hl => by
    have wk : ∀ l, RowOk n l → RowOk (n + 1) l := fun l h => ⟨h.1, fun x hx => by have := h.2 x hx; omega⟩
    have ha := h a List.mem_cons_self
    unfold addR at hl
    split at hl
    · rcases List.mem_cons.mp hl with rfl | hl
      · refine ⟨by simp, fun x hx => ?_⟩
        rcases List.mem_append.mp hx with hx | hx
        · have := ha.2 x hx; omega
        · rw [List.mem_singleton] at hx; omega
      · exact wk l (h l (List.mem_cons_of_mem _ hl))
    · rcases List.mem_cons.mp hl with rfl | hl
      · exact wk _ ha
      · exact addR_ok (fun l hl => h l (List.mem_cons_of_mem _ hl)) l hl
theorem rowsR_ok (P : Nat → Nat → Bool) : ∀ n, ∀ l ∈ rowsR P n, RowOk n l
  | 0, l, h => by cases h
  | n + 1, l, h => by
    rw [rowsR_succ] at h
    exact addR_ok (rowsR_ok P n) l h
theorem head_mem {l : List Nat} (h : l ≠ []) : l.headD 0 ∈ l := by
  cases l with
  | nil => exact absurd rfl h
  | cons a l => exact List.mem_cons_self
theorem addR_len {P : Nat → Nat → Bool} {n : Nat} : ∀ {r : List (List Nat)}, (addR P n r).length ≤ r.length + 1
  | [] => Nat.le_refl _
  | a :: r => by
    unfold addR
    split
    · simp
    · have := @addR_len P n r
      simp only [List.length_cons]; omega
theorem rowsR_len (P : Nat → Nat → Bool) : ∀ n, (rowsR P n).length ≤ n
  | 0 => Nat.le_refl _
  | n + 1 => by
    rw [rowsR_succ]
    have := @addR_len P n (rowsR P n)
    have := rowsR_len P n
    omega
theorem addR_nodes {P : Nat → Nat → Bool} {n m : Nat} : ∀ {r : List (List Nat)}, (∀ l ∈ r, l.length ≤ m) → ∀ l ∈ addR P n r, l.length ≤ m + 1
  | [], h, l, hl => by
    rw [addR, List.mem_singleton] at hl
    subst hl; simp
  | a :: r, h, l, hl => by
    have ha := h a List.mem_cons_self
    unfold addR at hl
    split at hl
    · rcases List.mem_cons.mp hl with rfl | hl
      · simp; omega
      · have := h l (List.mem_cons_of_mem _ hl); omega
    · rcases List.mem_cons.mp hl with rfl | hl
      · omega
      · exact addR_nodes (fun l hl => h l (List.mem_cons_of_mem _ hl)) l hl
theorem rowsR_nodes (P : Nat → Nat → Bool) : ∀ n, ∀ l ∈ rowsR P n, l.length ≤ n
  | 0, l, h => by cases h
  | n + 1, l, h => by
    rw [rowsR_succ] at h
    exact addR_nodes (rowsR_nodes P n) l h
theorem addR_congr {P Q : Nat → Nat → Bool} {n : Nat} : ∀ {r : List (List Nat)}, (∀ l ∈ r, P (l.headD 0) n = Q (l.headD 0) n) → addR P n r = addR Q n r
  | [], _ => rfl
  | a :: r, h => by
    unfold addR
    rw [h a List.mem_cons_self, addR_congr (fun l hl => h l (List.mem_cons_of_mem _ hl))]
theorem rowsR_congr {P Q : Nat → Nat → Bool} {N : Nat} (h : ∀ i j, i < N → j < N → P i j = Q i j) : ∀ n, n ≤ N → rowsR P n = rowsR Q n
  | 0, _ => rfl
  | n + 1, hn => by
    rw [rowsR_succ, rowsR_succ, rowsR_congr h n (by omega)]
    refine addR_congr fun l hl => ?_
    have o := rowsR_ok Q n l hl
    have := o.2 _ (head_mem o.1)
    exact h _ _ (by omega) (by omega)
theorem addR_at {P : Nat → Nat → Bool} {n : Nat} : ∀ {as bs : List (List Nat)} {l : List Nat}, (∀ a ∈ as, P (a.headD 0) n = false) → P (l.headD 0) n = true → addR P n (as ++ l :: bs) = as ++ (l ++ [n]) :: bs
  | [], bs, l, _, h => by rw [List.nil_append, addR, if_pos h]; rfl
  | a :: as, bs, l, h, hl => by
    rw [List.cons_append, addR, if_neg (by rw [h a List.mem_cons_self]; decide), addR_at (fun a ha => h a (List.mem_cons_of_mem _ ha)) hl]; rfl
theorem addR_new {P : Nat → Nat → Bool} {n : Nat} : ∀ {as : List (List Nat)}, (∀ a ∈ as, P (a.headD 0) n = false) → addR P n as = as ++ [[n]]
  | [], _ => rfl
  | a :: as, h => by
    rw [addR, if_neg (by rw [h a List.mem_cons_self]; decide), addR_new (fun a ha => h a (List.mem_cons_of_mem _ ha))]; rfl
/-! ### the dict of the rows: number, place, nodes -/
abbrev Row := Nat × Nat × List Nat
def kvR (X : List Row) : List (Ky × PV) := X.map fun x => ([.inl (x.1 : Int)], .loc x.2.1)
theorem kvR_look (X : List Row) (n : Nat) : dLook (kvR X) [.inl (n : Int)] = (X.find? fun x => decide (x.1 = n)).map fun x => .loc x.2.1 := by
  induction X with
  | nil => rfl
  | cons x X ih =>
    unfold dLook kvR at ih ⊢
    rw [List.map_cons, List.find?_cons, List.find?_cons]
    by_cases e : x.1 = n
    · subst e; simp
    · have e2 : ¬ ((x.1 : Int) = (n : Int)) := by omega
      simp only [e, e2, decide_false, List.cons.injEq, Sum.inl.injEq, and_true]
      exact ih
theorem kvR_put {X : List Row} {n q : Nat} (h : (X.find? fun x => decide (x.1 = n)) = none) (l : List Nat) : dPut (kvR X) [.inl (n : Int)] (.loc q) = kvR (X ++ [(n, q, l)]) := by
  unfold dPut
  have : ((kvR X).any fun kv => decide (kv.1 = [.inl (n : Int)])) = false := by
    rw [List.any_eq_false]
    intro kv hkv
    obtain ⟨x, hx, rfl⟩ := List.mem_map.mp hkv
    have := List.find?_eq_none.mp h x hx
    simp at this ⊢
    omega
  rw [this]
  simp [kvR]
structure XOk (X : List Row) (b : Nat) (st : Store) : Prop where
  at_ : ∀ x ∈ X, st[x.2.1]? = some (.lst (nats x.2.2)) ∧ b ≤ x.2.1
  nd : (X.map (·.2.1)).Nodup
theorem XOk.push {X : List Row} {b : Nat} {st : Store} (h : XOk X b st) (C : Store) : XOk X b (st ++ C) :=
  ⟨fun x hx => ⟨(Ext.app st C).at_ (h.at_ x hx).1, (h.at_ x hx).2⟩, h.nd⟩
theorem nats_app (l : List Nat) (k : Nat) : nats (l ++ [k]) = nats l ++ [.int k] := by simp [nats]
theorem XOk.put {as bs : List Row} {b n q k : Nat} {l : List Nat} {st : Store} (h : XOk (as ++ (n, q, l) :: bs) b st) : XOk (as ++ (n, q, l ++ [k]) :: bs) b (setAt st q (nats l ++ [.int k])) := by
  have nd := h.nd
  have hq := h.at_ (n, q, l) (by simp)
  have lq : q < st.length := (List.getElem?_eq_some_iff.mp hq.1).1
  have ne : ∀ x, x ∈ as ∨ x ∈ bs → x.2.1 ≠ q := by
    rw [List.map_append, List.map_cons, List.nodup_append] at nd
    obtain ⟨n1, n2, n3⟩ := nd
    rw [List.nodup_cons] at n2
    rintro x (hx | hx) e
    · exact n3 x.2.1 (List.mem_map.mpr ⟨x, hx, rfl⟩) q List.mem_cons_self e
    · exact n2.1 (by rw [← e]; exact List.mem_map.mpr ⟨x, hx, rfl⟩)
  refine ⟨fun x hx => ?_, by simpa using nd⟩
  rcases List.mem_append.mp hx with hx | hx
  · have a := h.at_ x (List.mem_append_left _ hx)
    refine ⟨?_, a.2⟩
    unfold setAt
    rw [List.getElem?_set_ne (fun z => ne x (.inl hx) z.symm)]
    exact a.1
  · rcases List.mem_cons.mp hx with rfl | hx
    · refine ⟨?_, hq.2⟩
      unfold setAt
      rw [List.getElem?_set_self (by exact lq), nats_app]
    · have a := h.at_ x (List.mem_append_right _ (List.mem_cons_of_mem _ hx))
      refine ⟨?_, a.2⟩
      unfold setAt
      rw [List.getElem?_set_ne (fun z => ne x (.inr hx) z.symm)]
      exact a.1
theorem XOk.new {X : List Row} {b n q k : Nat} {st : Store} (h : XOk X b st) (hq : q = st.length) (hb : b ≤ st.length) : XOk (X ++ [(n, q, [k])]) b (st ++ [.lst [.int k]]) := by
  subst hq
  refine ⟨fun x hx => ?_, ?_⟩
  · rcases List.mem_append.mp hx with hx | hx
    · exact (h.push _).at_ x hx
    · rw [List.mem_singleton] at hx
      subst hx
      exact ⟨by simp [nats], hb⟩
  · rw [List.map_append, List.nodup_append]
    refine ⟨h.nd, by simp, fun a ha b hb e => ?_⟩
    obtain ⟨x, hx, rfl⟩ := List.mem_map.mp ha
    have := (List.getElem?_eq_some_iff.mp (h.at_ x hx).1).1
    simp at hb
    omega
end K31

set_option maxHeartbeats 4000000
namespace K31
open PySem L2 U
theorem Ext.len {a b : Store} (h : Ext a b) : a.length ≤ b.length := by
  obtain ⟨C, rfl⟩ := h
  simp
theorem ext_set {A st : Store} {q : Nat} {xs : List PV} (h : Ext A st) (hq : A.length ≤ q) : Ext A (setAt st q xs) := by
  obtain ⟨C, rfl⟩ := h
  refine ⟨C.set (q - A.length) (.lst xs), ?_⟩
  unfold setAt
  rw [List.set_append, if_neg (by omega)]
theorem ext_dict {A st : Store} {d : Nat} {c c' : Cell} (h : Ext (A.set d c) st) (hd : d < A.length) : Ext (A.set d c') (st.set d c') := by
  obtain ⟨C, rfl⟩ := h
  refine ⟨C, ?_⟩
  rw [List.set_append, if_pos (by simpa using hd), List.set_set]
theorem XOk.dict {X : List Row} {b d : Nat} {st : Store} (h : XOk X b st) (hd : d < b) (c : Cell) : XOk X b (st.set d c) :=
  ⟨fun x hx => by
    have a := h.at_ x hx
    refine ⟨?_, a.2⟩
    rw [List.getElem?_set_ne (by omega)]
    exact a.1, h.nd⟩
def PC (c : List Nat) (i k : Nat) : Bool := decide (c[i]? = c[k]?)
structure Inv (A : Store) (d : Nat) (c : List Nat) (j : Nat) (X : List Row) (st : Store) : Prop where
  ext : Ext (A.set d (.dct false (kvR X))) st
  ok : XOk X A.length st
  rows : X.map (·.2.2) = rowsR (PC c) j
  num : ∀ x ∈ X, c[x.2.2.headD 0]? = some x.1 ∧ x.2.2 ≠ []
theorem turn212 {k : Nat} {A : Store} {d j n : Nat} {c : List Nat} {X : List Row} {st : Store} {g : List PV} (hd : d < A.length) (i : Inv A d c j X st) (hn : c[j]? = some n) (hj : c.length ≤ 1000) :
    ∃ X' st', evSs (evCall TURNS D k) TURNS b212_1 [some (.tup g), some (.loc d), some (.int (j : Nat)), some (.int (n : Nat)), none] st = .nx [some (.tup g), some (.loc d), some (.int (j : Nat)), some (.int (n : Nat)), none] st' ∧ Inv A d c (j + 1) X' st' := by
  have jl : j < c.length := (List.getElem?_eq_some_iff.mp hn).1
  have hdc : st[d]? = some (.dct false (kvR X)) := i.ext.at_ (by simp [hd])
  have ld : d < st.length := (List.getElem?_eq_some_iff.mp hdc).1
  have hdc2 : (st ++ [Cell.lst []])[d]? = some (.dct false (kvR X)) := (Ext.app st _).at_ hdc
  have rc : recvD (.loc d) st = some (.loc d) := by
    unfold recvD dctOf; simp only [hdc]
  have xl : X.length ≤ 1000 := by
    have := congrArg List.length i.rows
    rw [List.length_map] at this
    have := rowsR_len (PC c) j
    omega
  have kl : (kvR X).length < sizeLine := by
    unfold kvR
    rw [List.length_map, sizeLine_eq]; omega
  have sd : dsdfV (.loc d) (.int (n : Nat)) (.loc st.length) (st ++ [Cell.lst []]) = match X.find? fun x => decide (x.1 = n) with
      | some x => .ok (.loc x.2.1) (st ++ [Cell.lst []])
      | none => .ok (.loc st.length) ((st ++ [Cell.lst []]).set d (.dct false (kvR (X ++ [(n, st.length, [])])))) := by
    unfold dsdfV
    simp only [hdc2]
    rw [show keyD false (.int (n : Nat)) = some [.inl (n : Int)] from rfl]
    simp only
    rw [if_pos ⟨kl, rfl⟩, kvR_look]
    cases q : X.find? fun x => decide (x.1 = n) with
    | some x => rfl
    | none =>
      simp only [Option.map_none]
      rw [kvR_put q []]
  have pc : ∀ x ∈ X, PC c (x.2.2.headD 0) j = decide (x.1 = n) := fun x hx => by
    unfold PC
    rw [(i.num x hx).1, hn]
    simp
  cases q : X.find? fun x => decide (x.1 = n) with
  | some x =>
    rw [q] at sd
    simp only at sd
    obtain ⟨hx, as, bs, e, ha⟩ := List.find?_eq_some_iff_append.mp q
    obtain ⟨n2, p, l⟩ := x
    have hx : n2 = n := by simpa using hx
    subst hx
    subst e
    have ko := (i.ok.push [Cell.lst []]).at_ (n2, p, l) (by simp)
    have ll : l.length ≤ 1000 := by
      have : l ∈ rowsR (PC c) j := by rw [← i.rows]; simp
      have := rowsR_nodes _ _ _ this
      omega
    have ap : mtV .append (.loc p) [.int (j : Nat)] (st ++ [Cell.lst []]) = .ok .non (setAt (st ++ [Cell.lst []]) p (nats l ++ [.int (j : Nat)])) := by
      unfold mtV
      simp only [ko.1]
      rw [if_pos ⟨by rw [sizeLine_eq, nats_len]; omega, rfl⟩]
    refine ⟨as ++ (n2, p, l ++ [j]) :: bs, setAt (st ++ [Cell.lst []]) p (nats l ++ [.int (j : Nat)]), ?_, ?_, ?_, ?_, ?_⟩
    · simp [b212_1, evSs, evS, ev, evA, evCs, rc, esc, sd, recv_loc ko.1, ap]
    · refine ext_set ?_ (by simpa using ko.2)
      have := i.ext.trans (.app st [Cell.lst []])
      have e : kvR (as ++ (n2, p, l ++ [j]) :: bs) = kvR (as ++ (n2, p, l) :: bs) := by simp [kvR]
      rw [e]; exact this
    · exact (i.ok.push _).put
    · have r := i.rows
      rw [rowsR_succ, ← r]
      simp only [List.map_append, List.map_cons]
      refine (addR_at (fun a ha2 => ?_) ?_).symm
      · obtain ⟨y, hy, rfl⟩ := List.mem_map.mp ha2
        rw [pc y (by simp [hy])]
        have := ha y hy
        simpa using this
      · rw [pc (n2, p, l) (by simp)]; simp
    · intro y hy
      have old : ∀ y ∈ as ++ (n2, p, l) :: bs, c[y.2.2.headD 0]? = some y.1 ∧ y.2.2 ≠ [] := i.num
      rcases List.mem_append.mp hy with hy | hy
      · exact old y (List.mem_append_left _ hy)
      · rcases List.mem_cons.mp hy with rfl | hy
        · have := old (n2, p, l) (by simp)
          refine ⟨?_, by simp⟩
          cases l with
          | nil => exact absurd rfl this.2
          | cons a l => exact this.1
        · exact old y (List.mem_append_right _ (List.mem_cons_of_mem _ hy))
  | none =>
    rw [q] at sd
    simp only at sd
    have hs : ((st ++ [Cell.lst []]).set d (.dct false (kvR (X ++ [(n, st.length, [])]))))[st.length]? = some (.lst []) := by
      rw [List.getElem?_set_ne (by omega)]; simp
    have ap : mtV .append (.loc st.length) [.int (j : Nat)] ((st ++ [Cell.lst []]).set d (.dct false (kvR (X ++ [(n, st.length, [])])))) = .ok .non (setAt ((st ++ [Cell.lst []]).set d (.dct false (kvR (X ++ [(n, st.length, [])])))) st.length [.int (j : Nat)]) := by
      unfold mtV
      simp only [hs]
      rw [if_pos ⟨by rw [sizeLine_eq]; simp, rfl⟩]
      rfl
    have ek : kvR (X ++ [(n, st.length, [])]) = kvR (X ++ [(n, st.length, [j])]) := by simp [kvR]
    have et : setAt ((st ++ [Cell.lst []]).set d (.dct false (kvR (X ++ [(n, st.length, [])])))) st.length [.int (j : Nat)] = st.set d (.dct false (kvR (X ++ [(n, st.length, [j])]))) ++ [Cell.lst [.int (j : Nat)]] := by
      unfold setAt
      rw [List.set_append, if_pos ld, List.set_append, if_neg (by simp), ek]
      simp
    refine ⟨X ++ [(n, st.length, [j])], setAt ((st ++ [Cell.lst []]).set d (.dct false (kvR (X ++ [(n, st.length, [])])))) st.length [.int (j : Nat)], ?_, ?_, ?_, ?_, ?_⟩
    · simp [b212_1, evSs, evS, ev, evA, evCs, rc, esc, sd, recv_loc hs, ap]
    · rw [et]
      exact (ext_dict i.ext hd).trans (.app _ _)
    · rw [et]
      refine XOk.new (i.ok.dict hd _) (by simp) ?_
      have := i.ext.len
      simpa using this
    · rw [rowsR_succ, ← i.rows, List.map_append]
      refine (addR_new (fun a ha2 => ?_)).symm
      obtain ⟨y, hy, rfl⟩ := List.mem_map.mp ha2
      rw [pc y hy]
      have := List.find?_eq_none.mp q y hy
      simpa using this
    · intro y hy
      rcases List.mem_append.mp hy with hy | hy
      · exact i.num y hy
      · rw [List.mem_singleton] at hy
        subst hy
        exact ⟨by simpa using hn, by simp⟩
end K31

set_option maxHeartbeats 4000000
namespace K31
open PySem L2 U
theorem Inv.at_p {A : Store} {d j p : Nat} {c : List Nat} {X : List Row} {st : Store} (i : Inv A d c j X st) (hd : A[d]? = some (.dct false [])) (hp : A[p]? = some (.lst (nats c))) : st[p]? = some (.lst (nats c)) := by
  have ne : d ≠ p := fun z => by rw [z, hp] at hd; cases hd
  refine i.ext.at_ ?_
  rw [List.getElem?_set_ne ne]
  exact hp
theorem loop212 {k : Nat} {A : Store} {d p : Nat} {c : List Nat} {g : List PV} (hd : A[d]? = some (.dct false [])) (hp : A[p]? = some (.lst (nats c))) (hj : c.length ≤ 1000) : ∀ (r j : Nat) (X : List Row) (st : Store) (a2 a3 : Option PV), j + r = c.length → Inv A d c j X st →
    ∃ X' st' b2 b3, forLoop (MG.put (.tp [2, 3])) (evSs (evCall TURNS D k) TURNS b212_1) (.en (.lv p c.length)) j r [some (.tup g), some (.loc d), a2, a3, none] st = .nx [some (.tup g), some (.loc d), b2, b3, none] st' ∧ Inv A d c c.length X' st'
  | 0, j, X, st, a2, a3, e, i => by
    have e : j = c.length := by omega
    subst e
    refine ⟨X, st, a2, a3, ?_, i⟩
    unfold forLoop
    rw [if_pos (by unfold Src.fits Half.fits; simp only [seq_at_ (i.at_p hd hp)]; simp [nats_len])]
  | r + 1, j, X, st, a2, a3, e, i => by
    have hn := List.getElem?_eq_getElem (show j < c.length by omega)
    have gt : (Src.en (.lv p c.length)).get j st = some (.tup [.int (j : Nat), .int (c[j] : Nat)]) := by
      unfold Src.get Half.get
      simp only [seq_at_ (i.at_p hd hp), nats_len, if_true]
      unfold nats
      rw [List.getElem?_map, hn]
      rfl
    have ld := (List.getElem?_eq_some_iff.mp hd).1
    obtain ⟨X', st', t1, t2⟩ := turn212 (k := k) (g := g) ld i hn hj
    obtain ⟨X2, st2, b2, b3, t3, t4⟩ := loop212 (k := k) (g := g) hd hp hj r (j + 1) X' st' (some (.int (j : Nat))) (some (.int (c[j] : Nat))) (by omega) t2
    refine ⟨X2, st2, b2, b3, ?_, t4⟩
    rw [for_step, gt]
    simp only [MG.put, setEach, List.set_cons_succ, List.set_cons_zero]
    rw [t1]
    exact t3
def rowsV (r : List (List Nat)) : List PV := r.map fun l => .tup (nats l)
/-- the rows are walked -/
theorem lcv212 {k : Nat} {X : List Row} {b : Nat} {st : Store} {env : En} (h : XOk X b st) (hl : X.length ≤ 1000) (he : env.length = 5) :
    lcLoop (fun _ s => Res.ok true s) (ev (evCall TURNS D k) e212_0 .val) (MG.put (.nm 4)) env (.items ((kvR X).map (·.2))) 0 (kvR X).length [] st = .ok (.fl (rowsV (X.map (·.2.2)))) st := by
  have e1 : (kvR X).map (·.2) = X.map fun x => .loc x.2.1 := by simp [kvR]
  obtain ⟨acc, st', h1, h2, h3⟩ := lcLoop_inv (test := fun _ s => Res.ok true s) (elt := ev (evCall TURNS D k) e212_0 .val) (put := MG.put (.nm 4)) (env := env) (xs := (kvR X).map (·.2)) (fun j acc st' => st' = st ∧ acc = (rowsV (X.map (·.2.2))).take j) (fun j x acc st1 hx ⟨q1, q2⟩ => by
    subst q1; subst q2
    rw [e1, List.getElem?_map] at hx
    obtain ⟨y, hy, rfl⟩ := Option.map_eq_some_iff.mp hx
    have hc := h.at_ y (List.mem_of_getElem? hy)
    refine ⟨_, true, st1, rfl, rfl, ?_⟩
    simp only [if_true]
    have jl : j < X.length := (List.getElem?_eq_some_iff.mp hy).1
    refine ⟨.tup (nats y.2.2), st1, ?_, ?_, by trivial, ?_⟩
    · have s4 : (env.set 4 (some (PV.loc y.2.1)))[4]? = some (some (.loc y.2.1)) := by
        rw [List.getElem?_set_self (by omega)]
      have bt : biV .tuple [.loc y.2.1] st1 = some (.tup (nats y.2.2)) := by
        show (rdOf (.loc y.2.1) st1).map _ = _
        rw [show rdOf (.loc y.2.1) st1 = seqOf (.loc y.2.1) st1 from rfl, seq_at_ hc.1]; rfl
      simp [e212_0, ev, evCs, s4, bt]
    · rw [List.length_take, sizeLine_eq]; omega
    · rw [List.take_add_one]
      congr 1
      unfold rowsV
      rw [List.getElem?_map, List.getElem?_map, hy]
      rfl) (kvR X).length 0 [] st (by simp) ⟨rfl, by simp⟩
  rw [h1, h2, h3]
  rw [List.take_of_length_le (by simp [rowsV, kvR])]
theorem cls_ok {k : Nat} {st : Store} {g : List PV} (hg : Gr g) (hN : g.length ≤ 150) {P : Nat → Nat → Bool} (hP : ∀ i j, i < g.length → j < g.length → (P i j = true ↔ Bis (AGof g) i j)) :
    ∃ st', evCall TURNS D (k + 3) 212 [.tup g] st = .ok (.tup (rowsV (rowsR P g.length))) st' ∧ Ext st st' := by
  obtain ⟨p, A, c, c1, c2, c3, c4, c5⟩ := cn_ok (k := k) (st := st ++ [.dct false []]) hg hN
  have hd : A[st.length]? = some (.dct false []) := c2.at_ (by simp)
  have ld := (List.getElem?_eq_some_iff.mp hd).1
  have eA : A.set st.length (.dct false (kvR [])) = A := by
    apply List.ext_getElem?
    intro n
    by_cases e : n = st.length
    · subst e
      rw [List.getElem?_set_self ld, hd]; rfl
    · rw [List.getElem?_set_ne (fun z => e z.symm)]
  have i0 : Inv A st.length c 0 [] A := ⟨by rw [eA]; exact .refl _, ⟨fun x hx => absurd hx List.not_mem_nil, List.nodup_nil⟩, rfl, fun x hx => absurd hx List.not_mem_nil⟩
  obtain ⟨X, s2, b2, b3, l1, l2⟩ := loop212 (k := k + 2) (g := g) hd c3 (by omega) c.length 0 [] A none none (by omega) i0
  have hs : s2[st.length]? = some (.dct false (kvR X)) := l2.ext.at_ (by simp [ld])
  have lh := l2.ok.dict (d := st.length) ld .hid
  have xl : X.length ≤ 1000 := by
    have := congrArg List.length l2.rows
    rw [List.length_map] at this
    have := rowsR_len (PC c) c.length
    omega
  have lc := lcv212 (k := k + 2) (env := [some (.tup g), some (.loc st.length), b2, b3, none]) lh xl rfl
  have x1 : Ext st (s2.set st.length (.dct false (kvR X))) := by
    have e1 : Ext st (A.set st.length (.dct false (kvR X))) := by
      obtain ⟨C, rfl⟩ := c2
      refine ⟨(.dct false (kvR X)) :: C, ?_⟩
      simp
    have e2 := ext_dict (c' := .dct false (kvR X)) l2.ext ld
    exact e1.trans e2
  obtain ⟨st3, y1, y2⟩ := leave_ext (.tup (rowsV (X.map (·.2.2)))) x1
  have er : X.map (·.2.2) = rowsR P g.length := by
    rw [l2.rows, c4]
    refine rowsR_congr (N := g.length) (fun i j hi hj => ?_) g.length (Nat.le_refl _)
    unfold PC
    by_cases b : Bis (AGof g) i j
    · rw [(hP i j hi hj).mpr b]
      exact decide_eq_true ((c5 i j hi hj).mpr b)
    · have b2 : P i j = false := by
        cases q : P i j with
        | true => exact absurd ((hP i j hi hj).mp q) b
        | false => rfl
      rw [b2]
      exact decide_eq_false fun z => b ((c5 i j hi hj).mp z)
  refine ⟨st3, ?_, y2⟩
  have sh : shown st.length false (kvR X) (.fl (rowsV (X.map (·.2.2)))) (s2.set st.length .hid) = .ok (.fl (rowsV (X.map (·.2.2)))) (s2.set st.length (.dct false (kvR X))) := by
    unfold shown
    have : (s2.set st.length Cell.hid)[st.length]? = some .hid := by
      rw [List.getElem?_set_self (List.getElem?_eq_some_iff.mp hs).1]
    simp only [this, List.set_set]
  rw [show k + 3 = (k + 2) + 1 from rfl, evCall]
  simp only [D, d212, evSs, evS, ev, evA, evCs, evSrc]
  simp [c1, enumV, seq_at_ c3, nats_len]
  rw [show (Src.en (.lv p c.length)).many = c.length from rfl, l1]
  simp [hs, MG.slots, U.wipe, Src.many]
  rw [lc]
  simp [sh, ← er]
  exact y1
end K31

set_option maxHeartbeats 4000000
namespace K31
open PySem L2 U
theorem eqD_two (a b c d : Str) (ha : PyData.strOk a = true) (hb : PyData.strOk b = true) (hc : PyData.strOk c = true) (hd : PyData.strOk d = true) : eqD (.tup [.str a, .str b]) (.tup [.str c, .str d]) = some (decide (a = c ∧ b = d)) := by
  have h : PyData.eqv (.tuple [.str a, .str b]) (.tuple [.str c, .str d]) = decide (a = c ∧ b = d) := by
    by_cases h1 : a = c <;> by_cases h2 : b = d <;> simp [PyData.eqv, PyData.eqvAll, h1, h2]
  have s : ∀ x y : Str, PyData.strOk x = true → PyData.strOk y = true → SeqAt.shaped (.tuple [.str x, .str y]) = true := fun x y hx hy => by
    simp [hx, hy, SeqAt.shaped, PyData.canLay0, PyData.canLayAll0, PyData.depth, PyData.depthAll]
  show (if (SeqAt.shaped (.tuple [.str a, .str b]) && SeqAt.shaped (.tuple [.str c, .str d])) = true then some (PyData.eqv (.tuple [.str a, .str b]) (.tuple [.str c, .str d])) else none) = _
  rw [h, s a b ha hb, s c d hc hd]
  rfl
theorem sb_ok {z : Str} (h : SB z) : PyData.strOk z = true := by
  unfold PyData.strOk
  rw [← Array.all_toList, List.all_eq_true]
  intro c hc
  have := h.2 c hc
  exact decide_eq_true (by omega)
theorem lab_two {m : Nat} {v : PV} (h : Nd m v) : ∃ a b : Str, kt (labV v) = .tup [.str a, .str b] ∧ labV v = [.inr a, .inr b] ∧ PyData.strOk a = true ∧ PyData.strOk b = true := by
  rcases h with ⟨nm, x, y, s, rfl, _⟩ | ⟨o, s, rfl⟩
  · exact ⟨_, _, rfl, rfl, by decide +kernel, sb_ok s⟩
  · exact ⟨_, _, rfl, rfl, by decide +kernel, sb_ok s⟩
theorem cmp_lab {m : Nat} {v w : PV} {st : Store} (h : Nd m v) (h' : Nd m w) : cmpV .ne (kt (labV v)) (kt (labV w)) st = some (!decide (labV v = labV w)) := by
  obtain ⟨a, b, e1, e2, o1, o2⟩ := lab_two h
  obtain ⟨c, d, e3, e4, o3, o4⟩ := lab_two h'
  show (eqD (kt (labV v)) (kt (labV w))).map (!·) = _
  rw [e1, e3, eqD_two _ _ _ _ o1 o2 o3 o4, e2, e4]
  simp
/-! ### pairs of nodes -/
abbrev Pr := Nat × Nat
def pr (p : Pr) : PV := .tup [.int (p.1 : Nat), .int (p.2 : Nat)]
def kyP (p : Pr) : Ky := [.inl (p.1 : Int), .inl (p.2 : Int)]
theorem keyD_pr (p : Pr) : keyD true (pr p) = some (kyP p) := rfl
def kvP (Ps : List Pr) : List (Ky × PV) := Ps.map fun p => (kyP p, .bl true)
theorem kyP_inj {p q : Pr} : kyP p = kyP q ↔ p = q := by
  obtain ⟨a, b⟩ := p
  obtain ⟨c, d⟩ := q
  unfold kyP
  simp
  omega
theorem kvP_look (Ps : List Pr) (p : Pr) : (dLook (kvP Ps) (kyP p)).isSome = decide (p ∈ Ps) := by
  induction Ps with
  | nil => rfl
  | cons q Ps ih =>
    unfold dLook kvP at ih ⊢
    rw [List.map_cons, List.find?_cons]
    by_cases e : q = p
    · subst e; simp
    · have e2 : ¬ kyP q = kyP p := fun z => e (kyP_inj.mp z)
      have e3 : ¬ p = q := fun z => e z.symm
      simp only [e2, decide_false, List.mem_cons, e3, false_or]
      exact ih
theorem kvP_put {Ps : List Pr} {p : Pr} (h : p ∉ Ps) : dPut (kvP Ps) (kyP p) (.bl true) = kvP (Ps ++ [p]) := by
  unfold dPut
  have : ((kvP Ps).any fun kv => decide (kv.1 = kyP p)) = false := by
    rw [List.any_eq_false]
    intro kv hkv
    obtain ⟨q, hq, rfl⟩ := List.mem_map.mp hkv
    have : ¬ kyP q = kyP p := fun z => h (by rw [← kyP_inj.mp z]; exact hq)
    simp [this]
  rw [this]
  simp [kvP]
def addP (p : Pr) (Ps : List Pr) : List Pr := if p ∈ Ps then Ps else Ps ++ [p]
structure SP (A : Store) (d : Nat) (Ps : List Pr) (qs : List Nat) (st : Store) : Prop where
  ext : Ext A st
  dc : st[d]? = some (.dct true (kvP Ps))
  dl : A.length ≤ d
  len : qs.length = Ps.length
  way : ∀ i q : Nat, qs[i]? = some q → ∃ ys, st[q]? = some (.lst ys) ∧ ys.length ≤ i
theorem ext_setc {A st : Store} {q : Nat} {c : Cell} (h : Ext A st) (hq : A.length ≤ q) : Ext A (st.set q c) := by
  obtain ⟨C, rfl⟩ := h
  refine ⟨C.set (q - A.length) c, ?_⟩
  rw [List.set_append, if_neg (by omega)]
theorem SP.push {A : Store} {d : Nat} {Ps : List Pr} {qs : List Nat} {st : Store} (s : SP A d Ps qs st) (C : Store) : SP A d Ps qs (st ++ C) :=
  ⟨s.ext.trans (.app _ _), (Ext.app st C).at_ s.dc, s.dl, s.len, fun i q h => by
    obtain ⟨ys, h1, h2⟩ := s.way i q h
    exact ⟨ys, (Ext.app st C).at_ h1, h2⟩⟩
theorem turnB {k : Nat} {A : Store} {d j a b : Nat} {Ps : List Pr} {qs : List Nat} {st : Store} {e0 e1 e2 e3 x11 : Option PV} {here there : PV} {t : Bool} (s : SP A d Ps qs st) (hj : j < Ps.length) (hl : Ps.length ≤ 1000)
    (h1 : ∀ st, ixV here (.int (3 - (if t then 1 else 0))) st = some (.int (a : Nat))) (h2 : ∀ st, ixV there (.int (3 - (if t then 1 else 0))) st = some (.int (b : Nat))) :
    ∃ qs' st', evSs (evCall TURNS D k) TURNS b217_0 [e0, e1, e2, e3, some (.fl (Ps.map pr)), some (.fl (qs.map .loc)), some (.loc d), some (.int (j : Nat)), some here, some there, some (.bl t), x11] st
      = .nx [e0, e1, e2, e3, some (.fl ((addP (a, b) Ps).map pr)), some (.fl (qs'.map .loc)), some (.loc d), some (.int (j : Nat)), some here, some there, some (.bl t), some (pr (a, b))] st' ∧ SP A d (addP (a, b) Ps) qs' st' := by
  have sz := sizeLine_eq
  have z1 : 1 ≤ sizeLine := by omega
  have z2 : 2 ≤ sizeLine := by omega
  have hdc : dctOf (.loc d) st = some (true, kvP Ps) := by
    unfold dctOf; simp only [s.dc]
  have hh : dhasV (.loc d) (pr (a, b)) st = some (decide ((a, b) ∈ Ps)) := by
    unfold dhasV
    rw [hdc]
    simp only [keyD_pr, Option.map_some]
    rw [kvP_look]
  have hh : dhasV (.loc d) (.tup [.int (a : Nat), .int (b : Nat)]) st = some (decide ((a, b) ∈ Ps)) := hh
  have kl : (kvP Ps).length < sizeLine := by
    unfold kvP; rw [List.length_map]; omega
  by_cases m : (a, b) ∈ Ps
  · refine ⟨qs, st, ?_, by rw [addP, if_pos m]; exact s⟩
    rw [addP, if_pos m]
    cases t <;> simp at h1 h2 <;> simp [b217_0, evSs, evS, ev, evA, evCs, h1, h2, hh, m, pr, z1, z2, esc]
  · have pt : dputV (.loc d) (.tup [.int (a : Nat), .int (b : Nat)]) (.bl true) st = some (st.set d (.dct true (kvP (Ps ++ [(a, b)])))) := by
      unfold dputV
      simp only [s.dc]
      rw [show keyD true (.tup [.int (a : Nat), .int (b : Nat)]) = some (kyP (a, b)) from rfl]
      simp only
      rw [if_pos ⟨kl, rfl⟩, kvP_put m]
    obtain ⟨q, hq⟩ : ∃ q, qs[j]? = some q := ⟨_, List.getElem?_eq_getElem (by rw [s.len]; exact hj)⟩
    obtain ⟨ys, hy, yl⟩ := s.way j q hq
    have ld := (List.getElem?_eq_some_iff.mp s.dc).1
    have wk : ∀ (q : Nat) (ys : List PV), st[q]? = some (.lst ys) → (st.set d (.dct true (kvP (Ps ++ [(a, b)]))))[q]? = some (.lst ys) := fun q ys h => by
      rw [List.getElem?_set_ne (fun z => by rw [← z, s.dc] at h; cases h)]
      exact h
    have ix : ∀ st2, ixV (.fl (qs.map .loc)) (.int (j : Nat)) st2 = some (.loc q) := fun st2 => by
      show L2.atI (qs.map PV.loc) (j : Nat) = _
      refine atI_nn (by omega) ?_
      simp only [Int.toNat_natCast, List.getElem?_map, hq, Option.map_some]
    have bn : binV .add (.loc q) (.fl [.bl t]) (st.set d (.dct true (kvP (Ps ++ [(a, b)])))) = some (.fl (ys ++ [.bl t])) := by
      have l1 : U.listOf (.loc q) (st.set d (.dct true (kvP (Ps ++ [(a, b)])))) = some ys := by
        unfold U.listOf
        simp only [wk q ys hy]
      show (match U.listOf (.loc q) (st.set d (.dct true (kvP (Ps ++ [(a, b)])))), some [PV.bl t] with
        | some xs, some ys => if xs.length + ys.length ≤ sizeLine then some (PV.fl (xs ++ ys)) else none
        | _, _ => none) = _
      rw [l1]
      simp only
      rw [if_pos (by simp; omega)]
    refine ⟨qs ++ [st.length], st.set d (.dct true (kvP (Ps ++ [(a, b)]))) ++ [.lst (ys ++ [.bl t])], ?_, ?_⟩
    · rw [addP, if_neg m]
      have c1 : Ps.length < sizeLine := by omega
      have c2 : qs.length < sizeLine := by rw [s.len]; omega
      cases t <;> simp at h1 h2 <;> simp [b217_0, evSs, evS, ev, evA, evCs, h1, h2, hh, m, pr, pt, ix, bn, esc, c1, c2, z1, z2]
    · rw [addP, if_neg m]
      refine ⟨(ext_setc s.ext s.dl).trans (.app _ _), ?_, s.dl, by simp [s.len], fun i q2 h => ?_⟩
      · refine (Ext.app _ _).at_ ?_
        rw [List.getElem?_set_self ld]
      · by_cases e : i < qs.length
        · rw [List.getElem?_append_left e] at h
          obtain ⟨zs, z1, z2⟩ := s.way i q2 h
          exact ⟨zs, (Ext.app _ _).at_ (wk q2 zs z1), z2⟩
        · have : i = qs.length := by
            have := (List.getElem?_eq_some_iff.mp h).1
            simp at this; omega
          subst this
          simp at h
          subst h
          refine ⟨ys ++ [.bl t], by simp, ?_⟩
          have := s.len
          simp; omega
end K31

set_option maxHeartbeats 4000000
namespace K31
open PySem L2 U
theorem nodup_lt : ∀ (m : Nat) (l : List Nat), l.Nodup → (∀ x ∈ l, x < m) → l.length ≤ m
  | 0, l, _, h => by
    cases l with
    | nil => exact Nat.le_refl _
    | cons a l => exact absurd (h a List.mem_cons_self) (Nat.not_lt_zero _)
  | m + 1, l, n, h => by
    have h2 := nodup_lt m (l.erase m) (n.erase m) (fun x hx => by
      have h1 := h x (List.mem_of_mem_erase hx)
      have h3 : x ≠ m := fun z => by
        subst z
        exact (List.Nodup.not_mem_erase n) hx
      omega)
    have := List.length_erase (a := m) (l := l)
    split at this <;> omega
structure PI (G : AG) (one other : Nat) (Ps : List Pr) (k : Nat) : Prop where
  first : (one, other) ∈ Ps
  nd : Ps.Nodup
  lt : ∀ p ∈ Ps, p.1 < G.lab.length ∧ p.2 < G.lab.length
  le : k ≤ Ps.length
  done : ∀ (i : Nat) (p : Pr), i < k → Ps[i]? = some p → G.lab[p.1]? = G.lab[p.2]? ∧ ∀ (l m : List Nat) (t x y : Nat), G.sc[p.1]? = some l → G.sc[p.2]? = some m → l[t]? = some x → m[t]? = some y → (x, y) ∈ Ps
  bis : Bis G one other → ∀ p ∈ Ps, Bis G p.1 p.2
theorem PI.few {G : AG} {one other k : Nat} {Ps : List Pr} (h : PI G one other Ps k) {N : Nat} (hN : G.lab.length = N) : Ps.length ≤ N * N := by
  have := nodup_lt (N * N) (Ps.map fun p => p.1 * N + p.2) (by
    rw [List.nodup_iff_pairwise_ne, List.pairwise_map]
    refine (List.Pairwise.imp_of_mem ?_ h.nd)
    intro p q hp hq ne e
    have a := h.lt p hp
    have b := h.lt q hq
    rw [hN] at a b
    have e1 : p.1 = q.1 := by
      have h1 : (p.1 * N + p.2) / N = p.1 := by
        rw [Nat.mul_comm, Nat.mul_add_div (by omega), Nat.div_eq_of_lt a.2]; rfl
      have h2 : (q.1 * N + q.2) / N = q.1 := by
        rw [Nat.mul_comm, Nat.mul_add_div (by omega), Nat.div_eq_of_lt b.2]; rfl
      rw [← h1, e, h2]
    apply ne
    obtain ⟨p1, p2⟩ := p
    obtain ⟨q1, q2⟩ := q
    simp only at e1
    subst e1
    simp only at e
    congr 1
    omega) (fun x hx => by
    obtain ⟨p, hp, rfl⟩ := List.mem_map.mp hx
    have a := h.lt p hp
    rw [hN] at a
    have : p.1 * N + N ≤ N * N := by
      have := Nat.mul_le_mul_right N (show p.1 + 1 ≤ N by omega)
      rwa [Nat.add_mul, Nat.one_mul] at this
    omega)
  simpa using this
theorem PI.end_ {G : AG} {one other : Nat} {Ps : List Pr} (h : PI G one other Ps Ps.length) : Bis G one other := by
  refine ⟨fun a b => (a, b) ∈ Ps, h.first, fun a b hm => ?_⟩
  obtain ⟨i, hi⟩ := List.mem_iff_getElem?.mp hm
  exact h.done i (a, b) (List.getElem?_eq_some_iff.mp hi).1 hi
theorem addP_mem {p q : Pr} {Ps : List Pr} : q ∈ addP p Ps ↔ q ∈ Ps ∨ q = p := by
  unfold addP
  split
  · rename_i h
    exact ⟨.inl, fun z => z.elim id fun z => by rw [z]; exact h⟩
  · simp
theorem addP_ext (p : Pr) (Ps : List Pr) : ∃ t, addP p Ps = Ps ++ t := by
  unfold addP
  split
  · exact ⟨[], by simp⟩
  · exact ⟨_, rfl⟩
theorem addP_nd {p : Pr} {Ps : List Pr} (h : Ps.Nodup) : (addP p Ps).Nodup := by
  unfold addP
  split
  · exact h
  · rename_i n
    rw [List.nodup_append]
    refine ⟨h, by simp, fun a ha b hb e => ?_⟩
    rw [List.mem_singleton] at hb
    subst hb; subst e; exact n ha
theorem addP_len (p : Pr) (Ps : List Pr) : Ps.length ≤ (addP p Ps).length ∧ (addP p Ps).length ≤ Ps.length + 1 := by
  unfold addP
  split <;> simp
/-- the pair is looked at -/
theorem PI.step {G : AG} {one other k : Nat} {Ps Ps' : List Pr} {p : Pr} (h : PI G one other Ps k) (hk : Ps[k]? = some p) (hl : G.lab[p.1]? = G.lab[p.2]?) (hx : ∃ t, Ps' = Ps ++ t) (nd : Ps'.Nodup)
    (new : ∀ q ∈ Ps', q ∈ Ps ∨ ∃ (l m : List Nat) (t : Nat), G.sc[p.1]? = some l ∧ G.sc[p.2]? = some m ∧ l[t]? = some q.1 ∧ m[t]? = some q.2)
    (all : ∀ (l m : List Nat) (t x y : Nat), G.sc[p.1]? = some l → G.sc[p.2]? = some m → l[t]? = some x → m[t]? = some y → (x, y) ∈ Ps') (o : G.Ok) : PI G one other Ps' (k + 1) := by
  obtain ⟨t, rfl⟩ := hx
  have hp := List.mem_of_getElem? hk
  have kl := (List.getElem?_eq_some_iff.mp hk).1
  refine ⟨List.mem_append_left _ h.first, nd, fun q hq => ?_, by simp; omega, fun i q hi hq => ?_, fun b q hq => ?_⟩
  · rcases new q hq with z | ⟨l, m, t, h1, h2, h3, h4⟩
    · exact h.lt q z
    · exact ⟨o.lt l (List.mem_of_getElem? h1) _ (List.mem_of_getElem? h3), o.lt m (List.mem_of_getElem? h2) _ (List.mem_of_getElem? h4)⟩
  · by_cases e : i = k
    · subst e
      rw [List.getElem?_append_left kl, hk] at hq
      cases hq
      exact ⟨hl, all⟩
    · rw [List.getElem?_append_left (by omega)] at hq
      obtain ⟨a, b⟩ := h.done i q (by omega) hq
      exact ⟨a, fun l m t x y h1 h2 h3 h4 => List.mem_append_left _ (b l m t x y h1 h2 h3 h4)⟩
  · rcases new q hq with z | ⟨l, m, t, h1, h2, h3, h4⟩
    · exact h.bis b q z
    · obtain ⟨R, r, hR⟩ := h.bis b p hp
      exact ⟨R, (hR _ _ r).2 l m t _ _ h1 h2 h3 h4, hR⟩
end K31

set_option maxHeartbeats 4000000
namespace K31
open PySem L2 U
theorem ag_lab {g : List PV} (i : Nat) : (AGof g).lab[i]? = g[i]?.map labV := by simp [AGof]
theorem ag_sc {g : List PV} (i : Nat) : (AGof g).sc[i]? = g[i]?.map scV := by simp [AGof]
/-- what a turn hands back, or goes on with -/
theorem turnK {k : Nat} {A : Store} {d j one other : Nat} {Ps : List Pr} {qs : List Nat} {st : Store} {g : List PV} {e2 e3 x8 x9 x10 x11 : Option PV} (hg : Gr g) (hN : g.length ≤ 20) (s : SP A d Ps qs st) (p : PI (AGof g) one other Ps j) :
    (evSs (evCall TURNS D k) TURNS b217_1 [some (.tup g), some (.tup g), e2, e3, some (.fl (Ps.map pr)), some (.fl (qs.map .loc)), some (.loc d), some (.int (j : Nat)), x8, x9, x10, x11] st = .rt .non st ∧ Bis (AGof g) one other)
    ∨ (∃ q, evSs (evCall TURNS D k) TURNS b217_1 [some (.tup g), some (.tup g), e2, e3, some (.fl (Ps.map pr)), some (.fl (qs.map .loc)), some (.loc d), some (.int (j : Nat)), x8, x9, x10, x11] st = .rt (.loc q) st ∧ ¬ Bis (AGof g) one other)
    ∨ ∃ Ps' qs' st' y8 y9 y10 y11, evSs (evCall TURNS D k) TURNS b217_1 [some (.tup g), some (.tup g), e2, e3, some (.fl (Ps.map pr)), some (.fl (qs.map .loc)), some (.loc d), some (.int (j : Nat)), x8, x9, x10, x11] st
      = .nx [some (.tup g), some (.tup g), e2, e3, some (.fl (Ps'.map pr)), some (.fl (qs'.map .loc)), some (.loc d), some (.int (j : Nat)), y8, y9, y10, y11] st' ∧ SP A d Ps' qs' st' ∧ PI (AGof g) one other Ps' (j + 1) := by
  have sz := sizeLine_eq
  have z2 : 2 ≤ sizeLine := by omega
  have ao := ag_ok hg
  have few := p.few (ag_len g)
  have few2 : g.length * g.length ≤ 20 * 20 := Nat.mul_le_mul hN hN
  have bl : ∀ st, biV .len [.fl (Ps.map pr)] st = some (.int (Ps.length : Nat)) := fun st => by
    simp [biV, seqOf, rdOf]
  by_cases e : j = Ps.length
  · left
    subst e
    refine ⟨?_, p.end_⟩
    simp [b217_1, evSs, evS, ev, evA, evCs, bl, ME.held]
  · right
    have jl : j < Ps.length := by have := p.le; omega
    have e' : ¬ ((j : Int) = (Ps.length : Int)) := by omega
    obtain ⟨pa, hpa⟩ : ∃ pa, Ps[j]? = some pa := ⟨_, List.getElem?_eq_getElem jl⟩
    obtain ⟨a, b⟩ := pa
    have lt := p.lt _ (List.mem_of_getElem? hpa)
    rw [ag_len] at lt
    obtain ⟨va, hva⟩ : ∃ v, g[a]? = some v := ⟨_, List.getElem?_eq_getElem lt.1⟩
    obtain ⟨vb, hvb⟩ : ∃ v, g[b]? = some v := ⟨_, List.getElem?_eq_getElem lt.2⟩
    have na := hg.2.2 va (List.mem_of_getElem? hva)
    have nb := hg.2.2 vb (List.mem_of_getElem? hvb)
    have i1 : ∀ st, ixV (.fl (Ps.map pr)) (.int (j : Nat)) st = some (pr (a, b)) := fun st => by
      show L2.atI (Ps.map pr) (j : Nat) = _
      refine atI_nn (by omega) ?_
      simp [hpa]
    have i2 : ∀ st, ixV (pr (a, b)) (.int 0) st = some (.int (a : Nat)) := fun st => rfl
    have i3 : ∀ st, ixV (pr (a, b)) (.int 1) st = some (.int (b : Nat)) := fun st => rfl
    have i4 : ∀ st, ixV (.tup g) (.int (a : Nat)) st = some va := fun st => by
      show L2.atI g (a : Nat) = _
      exact atI_nn (by omega) (by simpa using hva)
    have i5 : ∀ st, ixV (.tup g) (.int (b : Nat)) st = some vb := fun st => by
      show L2.atI g (b : Nat) = _
      exact atI_nn (by omega) (by simpa using hvb)
    have ca := cut_lab (st := st) na
    have cb := cut_lab (st := st) nb
    have cm := cmp_lab (st := st) na nb
    obtain ⟨q, hq⟩ : ∃ q, qs[j]? = some q := ⟨_, List.getElem?_eq_getElem (by rw [s.len]; exact jl)⟩
    have i6 : ∀ st2, ixV (.fl (qs.map .loc)) (.int (j : Nat)) st2 = some (.loc q) := fun st2 => by
      show L2.atI (qs.map PV.loc) (j : Nat) = _
      refine atI_nn (by omega) ?_
      simp [hq]
    by_cases lb : labV va = labV vb
    · right
      have hl : (AGof g).lab[a]? = (AGof g).lab[b]? := by
        rw [ag_lab, ag_lab, hva, hvb]
        simp [lb]
      rcases na with ⟨nm, x, y, _, rfl, x0, x1, y0, y1⟩ | ⟨o, _, rfl⟩
      · rcases nb with ⟨nm2, x2, y2, _, rfl, x3, x4, y3, y4⟩ | ⟨o2, _, rfl⟩
        · obtain ⟨X, rfl⟩ : ∃ X : Nat, x = X := ⟨x.toNat, by omega⟩
          obtain ⟨Y, rfl⟩ : ∃ X : Nat, y = X := ⟨y.toNat, by omega⟩
          obtain ⟨X2, rfl⟩ : ∃ X : Nat, x2 = X := ⟨x2.toNat, by omega⟩
          obtain ⟨Y2, rfl⟩ : ∃ X : Nat, y2 = X := ⟨y2.toNat, by omega⟩
          obtain ⟨qs1, st1, t1, s1⟩ := turnB (k := k) (t := true) (a := X) (b := X2) (e0 := some (.tup g)) (e1 := some (.tup g)) (e2 := e2) (e3 := e3) (x11 := x11) (here := .tup [.str "call", .str nm, .int X, .int Y]) (there := .tup [.str "call", .str nm2, .int X2, .int Y2]) s jl (by omega) (fun st => rfl) (fun st => rfl)
          have l1 := addP_len (X, X2) Ps
          obtain ⟨qs2, st2, t2, s2⟩ := turnB (k := k) (j := j) (Ps := addP (X, X2) Ps) (qs := qs1) (st := st1) (t := false) (a := Y) (b := Y2) (e0 := some (.tup g)) (e1 := some (.tup g)) (e2 := e2) (e3 := e3) (x11 := some (pr (X, X2))) (here := .tup [.str "call", .str nm, .int X, .int Y]) (there := .tup [.str "call", .str nm2, .int X2, .int Y2]) s1 (by omega) (by omega) (fun st => rfl) (fun st => rfl)
          have sa : (AGof g).sc[a]? = some [X, Y] := by rw [ag_sc, hva]; simp [scV]
          have sb : (AGof g).sc[b]? = some [X2, Y2] := by rw [ag_sc, hvb]; simp [scV]
          refine ⟨addP (Y, Y2) (addP (X, X2) Ps), qs2, st2, some (.tup [.str "call", .str nm, .int X, .int Y]), some (.tup [.str "call", .str nm2, .int X2, .int Y2]), some (.bl false), some (pr (Y, Y2)), ?_, s2, p.step hpa hl ?_ (addP_nd (addP_nd p.nd)) (fun z hz => ?_) (fun l m t x y h1 h2 h3 h4 => ?_) ao⟩
          rotate_left
          · obtain ⟨u, hu⟩ := addP_ext (Y, Y2) (addP (X, X2) Ps)
            obtain ⟨w, hw⟩ := addP_ext (X, X2) Ps
            exact ⟨w ++ u, by rw [hu, hw]; simp⟩
          · rcases addP_mem.mp hz with hz | rfl
            · rcases addP_mem.mp hz with hz | rfl
              · exact .inl hz
              · exact .inr ⟨_, _, 0, sa, sb, rfl, rfl⟩
            · exact .inr ⟨_, _, 1, sa, sb, rfl, rfl⟩
          · rw [sa] at h1
            rw [sb] at h2
            cases h1; cases h2
            match t, h3, h4 with
            | 0, h3, h4 =>
              cases h3; cases h4
              exact addP_mem.mpr (.inl (addP_mem.mpr (.inr rfl)))
            | 1, h3, h4 =>
              cases h3; cases h4
              exact addP_mem.mpr (.inr rfl)
            | t + 2, h3, h4 => cases h3
          have cf := cm.trans (show _ = some false by rw [lb]; simp)
          simp only [b217_1, evSs, evS, ev, evA, evCs, evSrc]
          simp [bl, e', i1, i2, i3, i4, i5, U.bound, ME.absent, ca, cb, cf, esc, z2, srcV, Src.many]
          rw [for_step]
          simp [Src.get, MG.put, t1]
          rw [show (1 : Nat) = 0 + 1 from rfl, for_step]
          simp [Src.get, MG.put, t2]
          simp [forLoop, Src.fits]
        · simp only [labV, List.cons.injEq, Sum.inr.injEq] at lb
          exact absurd lb.1 no_out
      · rcases nb with ⟨nm2, x2, y2, _, rfl, x3, x4, y3, y4⟩ | ⟨o2, _, rfl⟩
        · simp only [labV, List.cons.injEq, Sum.inr.injEq] at lb
          exact absurd lb.1 no_out2
        · have sa : (AGof g).sc[a]? = some [] := by rw [ag_sc, hva]; simp [scV]
          refine ⟨Ps, qs, st, some (.tup [.str "outcome", .str o]), some (.tup [.str "outcome", .str o2]), x10, x11, ?_, s, p.step hpa hl ⟨[], by simp⟩ p.nd (fun z hz => .inl hz) (fun l m t x y h1 h2 h3 h4 => ?_) ao⟩
          rotate_left
          · rw [sa] at h1
            cases h1
            simp at h3
          have cf := cm.trans (show _ = some false by rw [lb]; simp)
          simp only [b217_1, evSs, evS, ev, evA, evCs, evSrc]
          simp [bl, e', i1, i2, i3, i4, i5, U.bound, ME.absent, ca, cb, cf, esc, z2, no_out2]
    · left
      refine ⟨q, ?_, fun b => ?_⟩
      · simp only [b217_1, evSs, evS, ev, evA, evCs, evSrc]
        have h1 : va.isFl = false := by
          obtain ⟨xs, rfl⟩ := nd_tup na; rfl
        have h2 : vb.isFl = false := by
          obtain ⟨xs, rfl⟩ := nd_tup nb; rfl
        simp [bl, e', i1, i2, i3, i4, i5, i6, U.bound, ME.absent, ca, cb, cm, lb, ME.held]
      · obtain ⟨R, r, hR⟩ := p.bis b _ (List.mem_of_getElem? hpa)
        have := (hR _ _ r).1
        rw [ag_lab, ag_lab, hva, hvb] at this
        exact lb (Option.some.inj this)
/-- the way that parts two nodes, or none -/
theorem part_ok {k : Nat} {st : Store} {g : List PV} {one other : Nat} (hg : Gr g) (hN : g.length ≤ 20) (h1 : one < g.length) (h2 : other < g.length) :
    ∃ v st', evCall TURNS D (k + 1) 217 [.tup g, .tup g, .int (one : Nat), .int (other : Nat)] st = .ok v st' ∧ Ext st st' ∧ ((v = .non ∧ Bis (AGof g) one other) ∨ ((∃ q, v = .loc q) ∧ ¬ Bis (AGof g) one other)) := by
  have sz := sizeLine_eq
  have z1 : 1 ≤ sizeLine := by omega
  have z2 : 2 ≤ sizeLine := by omega
  have few2 : g.length * g.length ≤ 20 * 20 := Nat.mul_le_mul hN hN
  let s0 : Store := st ++ [.lst []] ++ [.dct true (kvP [(one, other)])]
  have sp : SP st (st.length + 1) [(one, other)] [st.length] s0 := by
    refine ⟨(Ext.app st _).trans (.app _ _), by simp [s0], by omega, rfl, fun i q h => ?_⟩
    cases i with
    | zero =>
      cases h
      exact ⟨[], by simp [s0], Nat.le_refl _⟩
    | succ i => simp at h
  have pi : PI (AGof g) one other [(one, other)] 0 := by
    refine ⟨by simp, by simp, fun p hp => ?_, Nat.zero_le _, fun i p hi => absurd hi (Nat.not_lt_zero _), fun b p hp => ?_⟩
    · rw [List.mem_singleton] at hp
      subst hp
      rw [ag_len]; exact ⟨h1, h2⟩
    · rw [List.mem_singleton] at hp
      subst hp; exact b
  have hr : ∀ st, rngV (.int 0) (.int 10001) st = .ok (.items ((List.range (10001 : Int).toNat).map fun (k : Nat) => .int k)) st := fun st => rng_ok (by omega) (by omega)
  have q := forLoop_ret (put := MG.put (.nm 7)) (body := evSs (evCall TURNS D k) TURNS b217_1) (xs := (List.range (10001 : Int).toNat).map fun (k : Nat) => .int k)
    (fun j env s => ∃ Ps qs x7 x8 x9 x10 x11, env = [some (.tup g), some (.tup g), some (.int (one : Nat)), some (.int (other : Nat)), some (.fl (Ps.map pr)), some (.fl (qs.map .loc)), some (.loc (st.length + 1)), x7, x8, x9, x10, x11] ∧ SP st (st.length + 1) Ps qs s ∧ PI (AGof g) one other Ps j)
    (fun v s => Ext st s ∧ ((v = .non ∧ Bis (AGof g) one other) ∨ ((∃ q, v = .loc q) ∧ ¬ Bis (AGof g) one other)))
    (fun j x env s hx ⟨Ps, qs, x7, x8, x9, x10, x11, e, sp, p⟩ => by
      subst e
      have hj : j < 10001 := by
        have := (List.getElem?_eq_some_iff.mp hx).1
        simpa using this
      have hx : x = .int j := by
        rw [List.getElem?_map, List.getElem?_range (by simpa using hj)] at hx
        simpa using hx.symm
      subst hx
      refine ⟨_, rfl, ?_⟩
      show SR.goR (evSs (evCall TURNS D k) TURNS b217_1 [some (.tup g), some (.tup g), some (.int (one : Nat)), some (.int (other : Nat)), some (.fl (Ps.map pr)), some (.fl (qs.map .loc)), some (.loc (st.length + 1)), some (.int (j : Nat)), x8, x9, x10, x11] s) _ _
      rcases turnK (k := k) (e2 := some (.int (one : Nat))) (e3 := some (.int (other : Nat))) (x8 := x8) (x9 := x9) (x10 := x10) (x11 := x11) hg hN sp p with ⟨t1, t2⟩ | ⟨q, t1, t2⟩ | ⟨Ps', qs', st', y8, y9, y10, y11, t1, t2, t3⟩
      · rw [t1, goR_rt]
        exact ⟨sp.ext, .inl ⟨rfl, t2⟩⟩
      · rw [t1, goR_rt]
        exact ⟨sp.ext, .inr ⟨⟨q, rfl⟩, t2⟩⟩
      · rw [t1, goR_nx]
        exact ⟨Ps', qs', _, _, _, _, _, rfl, t2, t3⟩) 10001 0 [some (.tup g), some (.tup g), some (.int (one : Nat)), some (.int (other : Nat)), some (.fl ([(one, other)].map pr)), some (.fl ([st.length].map .loc)), some (.loc (st.length + 1)), none, none, none, none, none] s0 (by simp) ⟨_, _, _, _, _, _, _, rfl, sp, pi⟩
  rcases q with ⟨e, s, q1, Ps, qs, x7, x8, x9, x10, x11, _, _, p⟩ | ⟨v, s, q1, q2, q3⟩
  · exfalso
    have f := p.few (ag_len g)
    have := p.le
    simp at this
    omega
  · obtain ⟨s2, y1, y2⟩ := leave_ext v q2
    refine ⟨v, s2, ?_, y2, q3⟩
    rw [evCall]
    have kd : keyD true (.tup [.int (one : Nat), .int (other : Nat)]) = some (kyP (one, other)) := rfl
    simp only [D, d217, evSs, evS, ev, evA, evCs, evSrc]
    simp [z1, z2, kd, esc, hr, Src.many, -List.map_map]
    simp [s0, kvP, pr] at q1
    rw [q1]
    exact y1
end K31

set_option maxHeartbeats 4000000
namespace K31
open PySem L2 U
variable {ns : List Int} {R : Store} {st : Store}
theorem rngF {lo : Int} {n : Nat} {st : Store} (h0 : 0 ≤ lo) (h1 : lo < 100000) (h : n < 100000) : rngV (.int lo) (.int (n : Nat)) st = .ok (.items ((List.range ((n : Int) - lo).toNat).map fun (k : Nat) => .int (lo + k))) st := if_pos (by omega)
theorem rngN {n : Nat} {st : Store} (h : n < 100000) : rngV (.int 0) (.int (n : Nat)) st = .ok (.items (nats (List.range n))) st := by
  rw [rng_ok (by omega) (by omega)]
  simp [nats]
theorem len_fl (xs : List PV) (st : Store) : biV .len [.fl xs] st = some (.int (xs.length : Nat)) := by
  simp [biV, seqOf, rdOf]
theorem len_tup (xs : List PV) (st : Store) : biV .len [.tup xs] st = some (.int (xs.length : Nat)) := by
  simp [biV, seqOf, rdOf]
theorem pop_at {n i : Nat} {l : List Nat} {x : Nat} {st : Store} (h : st[n]? = some (.lst (nats l))) (hx : l[i]? = some x) (hl : l.length < 100) : mtV .pop (.loc n) [.int (i : Nat)] st = .ok (.int (x : Nat)) (setAt st n (nats (l.eraseIdx i))) := by
  have hi : i < l.length := (List.getElem?_eq_some_iff.mp hx).1
  unfold mtV
  simp only [h, nats_len]
  rw [if_pos (by omega)]
  have e : seqIndex? (i : Int) l.length = some i := by
    have := (ixN_seq (n := l.length) (i := (i : Int)) (j := i) (by
      unfold ixN
      rw [if_pos (by omega), if_pos (by omega)]; simp)).1
    exact this
  rw [e]
  have h2 : (nats l)[i]? = some (.int (x : Nat)) := by
    unfold nats
    rw [List.getElem?_map, hx]; rfl
  simp only [h2]
  unfold nats
  rw [erase_map]
structure BI (N : Nat) (bases left placed : List Nat) (j : Nat) : Prop where
  l : left.length + j + 1 = bases.length
  p : placed.length = j + 1
  lt : ∀ x ∈ placed, x < N
  il : ∀ i ∈ left, i < bases.length
  cov : ∀ v, v < N → v ∈ placed ∨ ∃ i ∈ left, bases[i]? = some v
theorem turn5 {k N j : Nat} {R' : Store} {g : List PV} {bases left placed : List Nat} {e2 x7 x8 x9 x10 x11 : Option PV} {x : PV} (hR : R = R' ++ [.lst (nats left), .lst (nats placed)]) (t : T ns R st) (b : BI N bases left placed j) (hb : ∀ x ∈ bases, x < N) (hB : bases.length ≤ 50) (hj : j + 1 < bases.length) :
    ∃ left' placed' st', evSs (evCall TURNS D (k + 1)) TURNS b215_5 [some (.loc 1), some (.tup g), e2, some (.fl (nats bases)), some (.loc (R'.length + 2)), some (.loc (R'.length + 3)), some x, x7, x8, x9, x10, x11] st
      = .nx [some (.loc 1), some (.tup g), e2, some (.fl (nats bases)), some (.loc (R'.length + 2)), some (.loc (R'.length + 3)), some x, x7, x8, x9, x10, x11] st' ∧ T ns (R' ++ [.lst (nats left'), .lst (nats placed')]) st' ∧ BI N bases left' placed' (j + 1) := by
  subst hR
  have sz := sizeLine_eq
  have ll := b.l
  have at2 : ∀ {l p : List Nat} {st : Store}, T ns (R' ++ [.lst (nats l), .lst (nats p)]) st → st[R'.length + 2]? = some (.lst (nats l)) := fun t => by
    rw [t.at]; simp
  have at3 : ∀ {l p : List Nat} {st : Store}, T ns (R' ++ [.lst (nats l), .lst (nats p)]) st → st[R'.length + 3]? = some (.lst (nats p)) := fun t => by
    rw [show R'.length + 3 = (R'.length + 1) + 2 from rfl, t.at]; simp
  obtain ⟨r, st1, h1, t1, l1, u1⟩ := drawT (k := k) (m := left.length) t (by omega)
  obtain ⟨i, rfl⟩ : ∃ i : Nat, r = i := ⟨r.toNat, by omega⟩
  have il : i < left.length := by omega
  have hx := List.getElem?_eq_getElem il
  have pp := pop_at (at2 t1) hx (by omega)
  have bi := b.il _ (List.getElem_mem il)
  obtain ⟨v, hv⟩ : ∃ v, bases[left[i]]? = some v := ⟨_, List.getElem?_eq_getElem bi⟩
  have bn := bi_len_loc (at2 t)
  rw [nats_len] at bn
  have ix : ∀ st, ixV (.fl (nats bases)) (.int (left[i] : Nat)) st = some (.int (v : Nat)) := fun st => by
    show L2.atI (nats bases) (left[i] : Nat) = _
    rw [nats_at (by omega) (by omega)]
    congr 2
    rw [Int.toNat_natCast, getD_of hv]
  have t2 := t1.set R'.length (nats (left.eraseIdx i))
  have e2 : (R' ++ [Cell.lst (nats left), .lst (nats placed)]).set R'.length (.lst (nats (left.eraseIdx i))) = R' ++ [.lst (nats (left.eraseIdx i)), .lst (nats placed)] := by
    rw [List.set_append, if_neg (by omega)]; simp
  rw [e2] at t2
  have a3 := at3 t2
  have ap : mtV .append (.loc (R'.length + 3)) [.int (v : Nat)] (setAt st1 (R'.length + 2) (nats (left.eraseIdx i))) = .ok .non (setAt (setAt st1 (R'.length + 2) (nats (left.eraseIdx i))) (R'.length + 3) (nats placed ++ [.int (v : Nat)])) := by
    unfold mtV
    simp only [a3]
    rw [if_pos ⟨by rw [sz, nats_len, b.p]; omega, rfl⟩]
  have t3 := t2.set (R'.length + 1) (nats placed ++ [.int (v : Nat)])
  have e3 : (R' ++ [Cell.lst (nats (left.eraseIdx i)), .lst (nats placed)]).set (R'.length + 1) (.lst (nats placed ++ [.int (v : Nat)])) = R' ++ [.lst (nats (left.eraseIdx i)), .lst (nats (placed ++ [v]))] := by
    rw [List.set_append, if_neg (by omega), nats_app]
    rw [show R'.length + 1 - R'.length = 1 by omega]
    rfl
  rw [e3] at t3
  refine ⟨left.eraseIdx i, placed ++ [v], _, ?_, t3, ⟨?_, by simp [b.p], fun x hx => ?_, fun i hi => b.il i (List.mem_of_mem_eraseIdx hi), fun w hw => ?_⟩⟩
  · have rv := recv_loc (at3 t)
    have rv2 := recv_loc (at2 t)
    simp [b215_5, evSs, evS, ev, evA, evCs, rv, rv2, bn, h1, pp, ix, ap]
  · rw [List.length_eraseIdx_of_lt il]; omega
  · rcases List.mem_append.mp hx with hx | hx
    · exact b.lt x hx
    · rw [List.mem_singleton.mp hx]; exact hb v (List.mem_of_getElem? hv)
  · rcases b.cov w hw with z | ⟨i2, z1, z2⟩
    · exact .inl (List.mem_append_left _ z)
    · obtain ⟨q, hq⟩ := List.mem_iff_getElem?.mp z1
      by_cases e : q = i
      · subst e
        rw [hx] at hq
        cases hq
        rw [hv] at z2
        cases z2
        exact .inl (by simp)
      · exact .inr ⟨i2, List.mem_eraseIdx_iff_getElem?.mpr ⟨q, e, hq⟩, z2⟩
end K31

set_option maxHeartbeats 4000000
namespace K31
open PySem L2 U
variable {ns : List Int} {R : Store} {st : Store}
def bI (placed : List Nat) (a : Int) (v : PV) : Bool := match v with
  | .int j => decide (((placed.getD j.toNat 0 : Nat) : Int) = a)
  | _ => false
/-- the places that hold a number -/
def whr (placed : List Nat) (a : Int) : List Nat := (List.range placed.length).filter fun (j : Nat) => decide (((placed.getD j 0 : Nat) : Int) = a)
theorem whr_lt {placed : List Nat} {a : Int} : ∀ x ∈ whr placed a, x < placed.length := fun x hx => by
  have := (List.mem_filter.mp hx).1
  simpa using this
theorem whr_ne {placed : List Nat} {a : Nat} (h : a ∈ placed) : whr placed (a : Nat) ≠ [] := by
  obtain ⟨q, hq⟩ := List.mem_iff_getElem?.mp h
  have lq := (List.getElem?_eq_some_iff.mp hq).1
  intro z
  have : q ∈ whr placed (a : Nat) := by
    unfold whr
    rw [List.mem_filter]
    refine ⟨by simpa using lq, ?_⟩
    rw [getD_of hq]; simp
  rw [z] at this
  cases this
theorem filt {placed : List Nat} {a : Int} : ((nats (List.range placed.length)).filter (bI placed a)).map (fun v => v) = nats (whr placed a) := by
  unfold nats whr
  rw [List.filter_map, List.map_id']
  congr 1
theorem lcW {k q : Nat} {placed : List Nat} {a : Int} {c elt : ME} {env : En} (hq : st[q]? = some (.lst (nats placed))) (hl : placed.length ≤ 100)
    (hc : ∀ j : Nat, j < placed.length → ev (evCall TURNS D k) c .test (env.set 11 (some (.int (j : Nat)))) st = .ok (.bl (decide (((placed.getD j 0 : Nat) : Int) = a))) st)
    (he : ∀ j : Nat, ev (evCall TURNS D k) elt .val (env.set 11 (some (.int (j : Nat)))) st = .ok (.int (j : Nat)) st) :
    lcLoop (fun e s => (ev (evCall TURNS D k) c .test e s).bind fun x s1 => opt (isBl x) s1) (ev (evCall TURNS D k) elt .val) (MG.put (.nm 11)) env (.items (nats (List.range placed.length))) 0 placed.length [] st = .ok (.fl (nats (whr placed a))) st := by
  have h := lcLoop_pure (st := st) (test := fun e s => (ev (evCall TURNS D k) c .test e s).bind fun x s1 => opt (isBl x) s1) (elt := ev (evCall TURNS D k) elt .val) (put := MG.put (.nm 11)) (env := env) (xs := nats (List.range placed.length)) (bI placed a) (fun v => v) (by rw [nats_len, List.length_range, sizeLine_eq]; omega) (fun x hx => by
    obtain ⟨j, hj, rfl⟩ := List.mem_map.mp hx
    have hj : j < placed.length := by simpa using hj
    refine ⟨_, rfl, ?_, fun _ => ⟨he j, rfl⟩⟩
    simp only [hc j hj, bind_ok_]
    rfl)
  rw [filt, nats_len, List.length_range] at h
  exact h
/-- a node takes its place -/
theorem turn4 {k N x : Nat} {R' : Store} {g rows : List PV} {l placed : List Nat} {e2 e3 x8 x9 x10 x11 : Option PV} (hR : R = R' ++ [.lst (nats l), .lst (nats placed)]) (t : T ns R st) (hg : Gr g) (hx : x < g.length) (cov : ∀ v, v < g.length → v ∈ placed) (hl : placed.length ≤ 50) (hr : rows.length ≤ 100) :
    ∃ st' y8 y9 y10 v, evSs (evCall TURNS D (k + 1)) TURNS b215_4 [some (.loc 1), some (.tup g), e2, e3, some (.loc (R'.length + 2)), some (.loc (R'.length + 3)), some (.int (x : Nat)), some (.fl rows), x8, x9, x10, x11] st
      = .nx [some (.loc 1), some (.tup g), e2, e3, some (.loc (R'.length + 2)), some (.loc (R'.length + 3)), some (.int (x : Nat)), some (.fl (rows ++ [v])), y8, y9, y10, x11] st' ∧ T ns R st' ∧ Nd placed.length v := by
  have sz := sizeLine_eq
  have z4 : 4 ≤ sizeLine := by omega
  have at3 : ∀ {st : Store}, T ns R st → st[R'.length + 3]? = some (.lst (nats placed)) := fun t => by
    rw [show R'.length + 3 = (R'.length + 1) + 2 from rfl, t.at, hR]; simp
  have bl := bi_len_loc (at3 t)
  rw [nats_len] at bl
  have ig : ∀ st, ixV (.tup g) (.int (x : Nat)) st = some g[x] := fun st => by
    show L2.atI g (x : Nat) = _
    exact atI_nn (by omega) (by simp [hx])
  have nd := hg.2.2 _ (List.getElem_mem hx)
  have rl : rows.length < sizeLine := by omega
  rcases nd with ⟨nm, a, b, s, e, a0, a1, b0, b1⟩ | ⟨o, s, e⟩
  · obtain ⟨A, rfl⟩ : ∃ X : Nat, a = X := ⟨a.toNat, by omega⟩
    obtain ⟨B, rfl⟩ : ∃ X : Nat, b = X := ⟨b.toNat, by omega⟩
    rw [e] at ig
    have wa := whr_ne (cov A (by omega))
    have wb := whr_ne (cov B (by omega))
    have la : 1 ≤ (whr placed (A : Nat)).length := by
      cases q : whr placed (A : Nat) with
      | nil => exact absurd q wa
      | cons _ _ => simp
    have lb : 1 ≤ (whr placed (B : Nat)).length := by
      cases q : whr placed (B : Nat) with
      | nil => exact absurd q wb
      | cons _ _ => simp
    have ma : (whr placed (A : Nat)).length ≤ placed.length := by
      have := List.length_filter_le (fun (j : Nat) => decide (((placed.getD j 0 : Nat) : Int) = (A : Nat))) (List.range placed.length)
      rw [List.length_range] at this; exact this
    have mb : (whr placed (B : Nat)).length ≤ placed.length := by
      have := List.length_filter_le (fun (j : Nat) => decide (((placed.getD j 0 : Nat) : Int) = (B : Nat))) (List.range placed.length)
      rw [List.length_range] at this; exact this
    have c1 := lcW (k := k + 1) (a := (A : Nat)) (c := c215_2) (elt := e215_3) (env := [some (.loc 1), some (.tup g), e2, e3, some (.loc (R'.length + 2)), some (.loc (R'.length + 3)), some (.int (x : Nat)), some (.fl rows), some (.tup [.str "call", .str nm, .int A, .int B]), x9, x10, none]) (at3 t) (by omega) (fun j hj => by
      have i1 := nats_at (l := placed) (x := (j : Int)) (by omega) (by omega)
      simp [c215_2, ev, ix_loc (at3 t), i1]) (fun j => by simp [e215_3, ev])
    have c2 := lcW (k := k + 1) (a := (B : Nat)) (c := c215_0) (elt := e215_1) (env := [some (.loc 1), some (.tup g), e2, e3, some (.loc (R'.length + 2)), some (.loc (R'.length + 3)), some (.int (x : Nat)), some (.fl rows), some (.tup [.str "call", .str nm, .int A, .int B]), some (.fl (nats (whr placed (A : Nat)))), x10, none]) (at3 t) (by omega) (fun j hj => by
      have i1 := nats_at (l := placed) (x := (j : Int)) (by omega) (by omega)
      simp [c215_0, ev, ix_loc (at3 t), i1]) (fun j => by simp [e215_1, ev])
    obtain ⟨r1, st1, d1, t1, l1, u1⟩ := drawT (k := k) (m := (whr placed (A : Nat)).length) t (by omega)
    obtain ⟨r2, st2, d2, t2, l2, u2⟩ := drawT (k := k) (m := (whr placed (B : Nat)).length) t1 (by omega)
    have p1 : ∀ st, ixV (.fl (nats (whr placed (A : Nat)))) (.int r1) st = _ := fun st => nats_at (l := whr placed (A : Nat)) l1 u1
    have p2 : ∀ st, ixV (.fl (nats (whr placed (B : Nat)))) (.int r2) st = _ := fun st => nats_at (l := whr placed (B : Nat)) l2 u2
    have q1 : (whr placed (A : Nat)).getD r1.toNat 0 < placed.length := by
      have : r1.toNat < (whr placed (A : Nat)).length := by omega
      rw [List.getD_eq_getElem?_getD, List.getElem?_eq_getElem this]
      exact whr_lt _ (List.getElem_mem this)
    have q2 : (whr placed (B : Nat)).getD r2.toNat 0 < placed.length := by
      have : r2.toNat < (whr placed (B : Nat)).length := by omega
      rw [List.getD_eq_getElem?_getD, List.getElem?_eq_getElem this]
      exact whr_lt _ (List.getElem_mem this)
    refine ⟨st2, some (.tup [.str "call", .str nm, .int ((whr placed (A : Nat)).getD r1.toNat 0 : Nat), .int ((whr placed (B : Nat)).getD r2.toNat 0 : Nat)]), some (.fl (nats (whr placed (A : Nat)))), some (.fl (nats (whr placed (B : Nat)))), .tup [.str "call", .str nm, .int ((whr placed (A : Nat)).getD r1.toNat 0 : Nat), .int ((whr placed (B : Nat)).getD r2.toNat 0 : Nat)], ?_, t2, .inl ⟨nm, _, _, s, rfl, by omega, by omega, by omega, by omega⟩⟩
    have rg : rngV (.int 0) (.int (placed.length : Nat)) st = _ := rngN (by omega)
    simp only [b215_4, evSs, evS, ev, evA, evCs, evSrc]
    revert rg
    generalize U.rngV = RV
    intro rg
    simp [ig]
    rw [bl, opt_some_, bind_ok_, bind_ok_, rg, bind_ok_]
    simp [MG.slots, U.wipe, Src.many, nats_len]
    rw [c1]
    simp
    rw [bl, opt_some_, bind_ok_, bind_ok_, rg, bind_ok_]
    simp [MG.slots, U.wipe, Src.many, nats_len]
    rw [c2]
    simp [len_fl, nats_len, d1, d2, p1, p2, z4, rl, esc]
  · rw [e] at ig
    refine ⟨st, some (.tup [.str "outcome", .str o]), x9, x10, .tup [.str "outcome", .str o], ?_, t, .inr ⟨o, s, rfl⟩⟩
    simp only [b215_4, evSs, evS, ev, evA, evCs, evSrc]
    simp [ig, esc, no_out2, rl]
end K31

set_option maxHeartbeats 4000000
namespace K31
open PySem L2 U
variable {ns : List Int} {R : Store} {st : Store}
theorem low_nd {m n : Nat} {v : PV} (h : Nd m v) : PV.low n v = true := by
  rcases h with ⟨nm, x, y, _, rfl, _⟩ | ⟨o, _, rfl⟩ <;> rfl
theorem lowL_nd {m n : Nat} : ∀ {l : List PV}, (∀ v ∈ l, Nd m v) → PV.lowL n l = true
  | [], _ => rfl
  | a :: l, h => by
    show (PV.low n a && PV.lowL n l) = true
    rw [low_nd (h a List.mem_cons_self), lowL_nd fun v hv => h v (List.mem_cons_of_mem _ hv)]; rfl
/-- the first walk -/
theorem loop5 {k N : Nat} {R' : Store} {g : List PV} {bases : List Nat} {e2 x7 x8 x9 x10 x11 : Option PV} (hb : ∀ x ∈ bases, x < N) (hB : bases.length ≤ 50) : ∀ (r j : Nat) (left placed : List Nat) (st : Store) (x6 : Option PV) (xs : List PV), j + r + 1 = bases.length → xs.length = r + j → T ns (R' ++ [.lst (nats left), .lst (nats placed)]) st → BI N bases left placed j →
    ∃ left' placed' st' x6', forLoop (MG.put (.nm 6)) (evSs (evCall TURNS D (k + 1)) TURNS b215_5) (.items xs) j r [some (.loc 1), some (.tup g), e2, some (.fl (nats bases)), some (.loc (R'.length + 2)), some (.loc (R'.length + 3)), x6, x7, x8, x9, x10, x11] st
      = .nx [some (.loc 1), some (.tup g), e2, some (.fl (nats bases)), some (.loc (R'.length + 2)), some (.loc (R'.length + 3)), x6', x7, x8, x9, x10, x11] st' ∧ T ns (R' ++ [.lst (nats left'), .lst (nats placed')]) st' ∧ BI N bases left' placed' (bases.length - 1)
  | 0, j, left, placed, st, x6, xs, e, hx, t, b => by
    refine ⟨left, placed, st, x6, rfl, t, ?_⟩
    rw [show bases.length - 1 = j by omega]; exact b
  | r + 1, j, left, placed, st, x6, xs, e, hx, t, b => by
    have hj : j < xs.length := by omega
    obtain ⟨left', placed', st', q1, q2, q3⟩ := turn5 (k := k) (g := g) (e2 := e2) (x7 := x7) (x8 := x8) (x9 := x9) (x10 := x10) (x11 := x11) (x := xs[j]) rfl t b hb hB (by omega)
    obtain ⟨l2, p2, st2, x62, w1, w2, w3⟩ := loop5 (k := k) (g := g) (e2 := e2) (x7 := x7) (x8 := x8) (x9 := x9) (x10 := x10) (x11 := x11) hb hB r (j + 1) left' placed' st' (some xs[j]) xs (by omega) (by omega) q2 q3
    refine ⟨l2, p2, st2, x62, ?_, w2, w3⟩
    rw [for_step]
    simp only [Src.get, List.getElem?_eq_getElem hj, MG.put, List.set_cons_succ, List.set_cons_zero]
    rw [q1]
    exact w1
/-- the second walk -/
theorem loop4 {k : Nat} {R' : Store} {g : List PV} {l placed : List Nat} {e2 e3 x11 : Option PV} (hR : R = R' ++ [.lst (nats l), .lst (nats placed)]) (hg : Gr g) (hx : ∀ x ∈ placed, x < g.length) (cov : ∀ v, v < g.length → v ∈ placed) (hl : placed.length ≤ 50) : ∀ (r j : Nat) (rows : List PV) (st : Store) (x6 x8 x9 x10 : Option PV), j + r = placed.length → rows.length = j → (∀ v ∈ rows, Nd placed.length v) → T ns R st →
    ∃ st' rows' y6 y8 y9 y10, forLoop (MG.put (.nm 6)) (evSs (evCall TURNS D (k + 1)) TURNS b215_4) (.live (R'.length + 3) placed.length) j r [some (.loc 1), some (.tup g), e2, e3, some (.loc (R'.length + 2)), some (.loc (R'.length + 3)), x6, some (.fl rows), x8, x9, x10, x11] st
      = .nx [some (.loc 1), some (.tup g), e2, e3, some (.loc (R'.length + 2)), some (.loc (R'.length + 3)), y6, some (.fl rows'), y8, y9, y10, x11] st' ∧ T ns R st' ∧ rows'.length = placed.length ∧ ∀ v ∈ rows', Nd placed.length v
  | 0, j, rows, st, x6, x8, x9, x10, e, h1, h2, t => by
    have at3 : st[R'.length + 3]? = some (.lst (nats placed)) := by
      rw [show R'.length + 3 = (R'.length + 1) + 2 from rfl, t.at, hR]; simp
    refine ⟨st, rows, x6, x8, x9, x10, ?_, t, by omega, h2⟩
    unfold forLoop
    rw [if_pos (by unfold Src.fits; simp only [seq_at_ at3]; simp [nats_len])]
  | r + 1, j, rows, st, x6, x8, x9, x10, e, h1, h2, t => by
    have at3 : st[R'.length + 3]? = some (.lst (nats placed)) := by
      rw [show R'.length + 3 = (R'.length + 1) + 2 from rfl, t.at, hR]; simp
    have hj : j < placed.length := by omega
    have hn := List.getElem?_eq_getElem hj
    have gt : (Src.live (R'.length + 3) placed.length).get j st = some (.int (placed[j] : Nat)) := by
      unfold Src.get
      simp only [seq_at_ at3, nats_len, if_true]
      unfold nats
      rw [List.getElem?_map, hn]; rfl
    obtain ⟨st', y8, y9, y10, v, q1, q2, q3⟩ := turn4 (k := k) (N := 0) (e2 := e2) (e3 := e3) (x8 := x8) (x9 := x9) (x10 := x10) (x11 := x11) (rows := rows) hR t hg (hx _ (List.getElem_mem hj)) cov hl (by omega)
    obtain ⟨st2, rows2, z6, z8, z9, z10, w1, w2, w3, w4⟩ := loop4 (k := k) (e2 := e2) (e3 := e3) (x11 := x11) hR hg hx cov hl r (j + 1) (rows ++ [v]) st' (some (.int (placed[j] : Nat))) y8 y9 y10 (by omega) (by simp; omega) (fun w hw => by
      rcases List.mem_append.mp hw with hw | hw
      · exact h2 w hw
      · rw [List.mem_singleton.mp hw]; exact q3) q2
    refine ⟨st2, rows2, z6, z8, z9, z10, ?_, w2, w3, w4⟩
    rw [for_step, gt]
    simp only [MG.put, List.set_cons_succ, List.set_cons_zero]
    rw [q1]
    exact w1
/-- the bases: each node, and some once more -/
theorem draws8 {k : Nat} {g : List PV} {m : Nat} {env : En} (t : T ns R st) (he : env[0]? = some (some (.loc 1))) (he1 : env[1]? = some (some (.tup g))) (hg : 1 ≤ g.length ∧ g.length ≤ 100) (hm : m ≤ 100) :
    ∃ l st', lcLoop (fun _ s => Res.ok true s) (ev (evCall TURNS D (k + 1)) e215_8 .val) (MG.put (.nm 6)) env (.items (nats (List.range m))) 0 m [] st = .ok (.fl (nats l)) st' ∧ T ns R st' ∧ l.length = m ∧ ∀ x ∈ l, x < g.length := by
  obtain ⟨acc, st', h1, l, h2, h3, h4, h5⟩ := lcLoop_inv (test := fun _ s => Res.ok true s) (elt := ev (evCall TURNS D (k + 1)) e215_8 .val) (put := MG.put (.nm 6)) (env := env) (xs := nats (List.range m)) (fun j acc st' => ∃ l : List Nat, acc = nats l ∧ T ns R st' ∧ l.length = j ∧ ∀ x ∈ l, x < g.length) (fun j x acc st1 hx ⟨l, q1, q2, q3, q4⟩ => by
    subst q1
    have jl : j < m := by
      have := (List.getElem?_eq_some_iff.mp hx).1
      simpa [nats] using this
    obtain ⟨r, st2, d1, t1, l1, u1⟩ := drawT (k := k) (m := (g.length : Nat)) q2 (by omega)
    obtain ⟨i, rfl⟩ : ∃ i : Nat, r = i := ⟨r.toNat, by omega⟩
    refine ⟨_, true, st1, rfl, rfl, ?_⟩
    simp only [if_true]
    refine ⟨.int (i : Nat), st2, ?_, by rw [nats_len, sizeLine_eq]; omega, l ++ [i], by rw [nats_app]; rfl, t1, by simp [q3], fun x hx => ?_⟩
    · have s0 : (env.set 6 (some x))[0]? = some (some (.loc 1)) := by rw [List.getElem?_set_ne (by decide)]; exact he
      have s1 : (env.set 6 (some x))[1]? = some (some (.tup g)) := by rw [List.getElem?_set_ne (by decide)]; exact he1
      simp [e215_8, ev, evA, evCs, s0, s1, len_tup, d1]
    · rcases List.mem_append.mp hx with hx | hx
      · exact q4 x hx
      · rw [List.mem_singleton.mp hx]; omega) m 0 [] st (by simp [nats]) ⟨[], rfl, t, rfl, by simp⟩
  subst h2
  refine ⟨l, st', h1, h3, by simpa [nats] using h4, h5⟩
end K31

set_option maxHeartbeats 4000000
namespace K31
open PySem L2 U
variable {ns : List Int} {R : Store} {st : Store}
theorem lcId {call : Nat → List PV → Store → Res PV} {elt : ME} {env : En} {l : List Nat} (i : Nat) (hl : l.length ≤ 1000) (he : ∀ n : Nat, ev call elt .val (env.set i (some (.int (n : Nat)))) st = .ok (.int (n : Nat)) st) :
    lcLoop (fun _ s => Res.ok true s) (ev call elt .val) (MG.put (.nm i)) env (.items (nats l)) 0 l.length [] st = .ok (.fl (nats l)) st := by
  have h := lcLoop_pure (st := st) (test := fun _ s => Res.ok true s) (elt := ev call elt .val) (put := MG.put (.nm i)) (env := env) (xs := nats l) (fun _ => true) (fun v => v) (by rw [nats_len, sizeLine_eq]; omega) (fun x hx => by
    obtain ⟨j, hj, rfl⟩ := List.mem_map.mp hx
    exact ⟨_, rfl, rfl, fun _ => ⟨he j, rfl⟩⟩)
  rw [List.filter_eq_self.mpr (fun _ _ => rfl), List.map_id', nats_len] at h
  exact h
theorem nats_add (l m : List Nat) : nats l ++ nats m = nats (l ++ m) := by simp [nats]
theorem rng1 {n : Nat} {st : Store} (h : n < 100000) : rngV (.int 1) (.int (n : Nat)) st = .ok (.items (nats ((List.range (n - 1)).map (1 + ·)))) st := by
  rw [rngF (by omega) (by omega) h]
  have : ((n : Int) - 1).toNat = n - 1 := by omega
  rw [this]
  simp [nats]
variable {call : Nat → List PV → Store → Res PV}
theorem seq_nx {s : MS} {ss : MSs} {env env1 : En} {st st1 : Store} {r : SR} (h1 : evS call TURNS s env st = .nx env1 st1) (h2 : evSs call TURNS ss env1 st1 = r) : evSs call TURNS (.cons s ss) env st = r := by
  show (evS call TURNS s env st).then _ = r
  rw [h1, then_nx_, h2]
theorem set_own {i : Nat} {e : ME} {env : En} {st st1 : Store} {x : PV} (h : ev call e .val env st = .ok x st1) : evS call TURNS (.set i e true) env st = .nx (env.set i (some x)) st1 := by
  show (ev call e .val env st).to _ = _
  rw [h, to_ok_]; rfl
theorem set_esc {i : Nat} {e : ME} {env : En} {st st1 : Store} {x : PV} (h : ev call e .val env st = .ok x st1) : evS call TURNS (.set i e false) env st = .nx (env.set i (some (esc x st1).1)) (esc x st1).2 := by
  show (ev call e .val env st).to _ = _
  rw [h, to_ok_]; rfl
theorem ev_lc {m : Md} {elt a b c : ME} {g : MG} {env : En} {st st1 st2 st3 st4 : Store} {x y v : PV} {src : Src} (h1 : ev call a .val env st = .ok x st1) (h2 : ev call b .val env st1 = .ok y st2) (h3 : rngV x y st2 = .ok src st3)
    (h4 : lcLoop (fun _ s => Res.ok true s) (ev call elt .val) g.put (U.wipe env g.slots) src 0 src.many [] st3 = .ok v st4) (hm : done m v st4 = .ok v st4) : ev call (.lc elt g (.rng a b) false c) m env st = .ok v st4 := by
  show ((ev call a .val env st).bind _) = _
  rw [h1, bind_ok_, h2, bind_ok_, h3, bind_ok_]
  show (lcLoop (fun _ s => Res.ok true s) (ev call elt .val) g.put (U.wipe env g.slots) src 0 src.many [] st3).bind _ = _
  rw [h4, bind_ok_, hm]
theorem ev_bin {m : Md} {o : BOp} {a b : ME} {env : En} {st st1 st2 : Store} {x y v : PV} (h1 : ev call a .use env st = .ok x st1) (h2 : ev call b .use env st1 = .ok y st2) (h3 : binV o x y st2 = some v) (hm : done m v st2 = .ok v st2) : ev call (.bin o a b) m env st = .ok v st2 := by
  show (ev call a .use env st).bind _ = _
  rw [h1, bind_ok_, h2, bind_ok_, h3, opt_some_, bind_ok_, hm]
theorem for_rng {g : MG} {a b : ME} {body : MSs} {env env1 : En} {st st1 st2 st3 st4 : Store} {x y : PV} {src : Src} (h1 : ev call a .val env st = .ok x st1) (h2 : ev call b .val env st1 = .ok y st2) (h3 : rngV x y st2 = .ok src st3)
    (h4 : forLoop g.put (evSs call TURNS body) src 0 src.many env st3 = .nx env1 st4) : evS call TURNS (.for_ g (.rng a b) body) env st = .nx env1 st4 := by
  show (((ev call a .val env st).bind _)).to _ = _
  rw [h1, bind_ok_, h2, bind_ok_, h3, to_ok_, h4]
theorem for_loc {g : MG} {i : Nat} {body : MSs} {env env1 : En} {st st4 : Store} {n : Nat} {xs : List PV} (h1 : ev call (.var i) .val env st = .ok (.loc n) st) (h3 : st[n]? = some (.lst xs))
    (h4 : forLoop g.put (evSs call TURNS body) (.live n xs.length) 0 xs.length env st = .nx env1 st4) : evS call TURNS (.for_ g (.var i) body) env st = .nx env1 st4 := by
  show ((ev call (.var i) .val env st).bind _).to _ = _
  rw [h1, bind_ok_]
  have : srcV (.loc n) st = some (.live n xs.length) := by
    show (seqOf (.loc n) st).map _ = _
    rw [seq_at_ h3]; rfl
  rw [this, opt_some_, to_ok_]
  exact h4
theorem ev_len {m : Md} {i : Nat} {xs : List PV} {env : En} {st : Store} {v : PV} (h : env[i]? = some (some v)) (hv : v = .fl xs ∨ v = .tup xs) (hm : m ≠ .test) : ev call (.bi .len (.cons (.var i) .nil)) m env st = .ok (.int (xs.length : Nat)) st := by
  cases m <;> first | exact absurd rfl hm | (rcases hv with rfl | rfl <;> simp [ev, evCs, h, len_fl, len_tup, done])
theorem call_rt {k f : Nat} {d : Def} {args : List PV} {st s : Store} {v : PV} {r : Res PV} (hD : D f = some d) (hto : d.to = none) (hl : args.length = d.np ∧ args.any PV.isFl = false)
    (h : evSs (evCall TURNS D k) TURNS d.body (args.map some ++ List.replicate (d.nl - d.np) none) st = .rt v s) (h2 : leave st.length v s = r) : evCall TURNS D (k + 1) f args st = r := by
  rw [evCall, hD]
  simp only
  rw [hto]
  simp only
  rw [if_pos hl, h]
  exact h2
theorem blown_ok {k m : Nat} {g : List PV} (hR : R.all (Cell.low (R.length + 2)) = true) (t : T ns R st) (hg : Gr g) (hN : g.length ≤ 20) (hm : m ≤ 20) :
    ∃ g' st', evCall TURNS D (k + 2) 215 [.loc 1, .tup g, .int (m : Nat)] st = .ok (.tup g') st' ∧ T ns R st' ∧ Gr g' ∧ g'.length = g.length + m := by
  have n1 : 1 ≤ g.length := by
    have := hg.1
    cases g with
    | nil => exact absurd rfl this
    | cons _ _ => simp
  have sz := sizeLine_eq
  have z1 : 1 ≤ sizeLine := by omega
  obtain ⟨l, st1, d1, t1, d2, d3⟩ := draws8 (k := k) (m := m) (env := [some (.loc 1), some (.tup g), some (.int (m : Nat)), none, none, none, none, none, none, none, none, none]) t rfl rfl (by omega) (by omega)
  let B := List.range g.length ++ l
  have bl : B.length = g.length + m := by simp [B, d2]
  have hb : ∀ x ∈ B, x < g.length := fun x hx => by
    rcases List.mem_append.mp hx with hx | hx
    · simpa using hx
    · exact d3 x hx
  let left := (List.range (B.length - 1)).map (1 + ·)
  have t2 : T ns (R ++ [.lst (nats left), .lst (nats [0])]) (st1 ++ [.lst (nats left), .lst (nats [0])]) := t1.push _
  have b0 : BI g.length B left [0] 0 := by
    refine ⟨by simp [left]; omega, rfl, fun x hx => ?_, fun i hi => ?_, fun v hv => ?_⟩
    · rw [List.mem_singleton] at hx; omega
    · obtain ⟨q, hq, rfl⟩ := List.mem_map.mp hi
      have : q < B.length - 1 := by simpa using hq
      omega
    · by_cases e : v = 0
      · subst e; exact .inl (by simp)
      · refine .inr ⟨v, List.mem_map.mpr ⟨v - 1, ?_, by omega⟩, ?_⟩
        · rw [List.mem_range]; omega
        · show (List.range g.length ++ l)[v]? = some v
          rw [List.getElem?_append_left (by simpa using hv), List.getElem?_range hv]
  obtain ⟨l2, placed, st3, x6, q1, q2, q3⟩ := loop5 (k := k) (g := g) (e2 := some (.int (m : Nat))) (x7 := none) (x8 := none) (x9 := none) (x10 := none) (x11 := none) hb (by omega) (B.length - 1) 0 left [0] (st1 ++ [.lst (nats left), .lst (nats [0])]) none (nats (List.range (B.length - 1))) (by omega) (by simp [nats]) t2 b0
  have pl : placed.length = B.length := by rw [q3.p]; omega
  have l2e : l2 = [] := by
    have := q3.l
    cases l2 with
    | nil => rfl
    | cons _ _ => simp at this; omega
  have cov : ∀ v, v < g.length → v ∈ placed := fun v hv => by
    rcases q3.cov v hv with z | ⟨i, z, _⟩
    · exact z
    · rw [l2e] at z; cases z
  obtain ⟨st4, rows, y6, y8, y9, y10, w1, w2, w3, w4⟩ := loop4 (k := k) (e2 := some (.int (m : Nat))) (e3 := some (.fl (nats B))) (x11 := none) rfl hg q3.lt cov (by omega) placed.length 0 [] st3 x6 none none none (by omega) rfl (fun v hv => absurd hv List.not_mem_nil) q2
  obtain ⟨st5, u1, u2⟩ := w2.drop hR (v := .tup rows) (lowL_nd w4)
  refine ⟨rows, st5, ?_, u2, ⟨fun z => ?_, by omega, by rw [w3]; exact w4⟩, by omega⟩
  · have rgA : ∀ st, rngV (.int 0) (.int (g.length : Nat)) st = _ := fun st => rngN (st := st) (by omega)
    have rgB : ∀ st, rngV (.int 0) (.int (m : Nat)) st = _ := fun st => rngN (st := st) (by omega)
    have rgC : ∀ st, rngV (.int 1) (.int (B.length : Nat)) st = _ := fun st => rng1 (st := st) (by omega)
    have rgD : ∀ st, rngV (.int 0) (.int ((B.length - 1 : Nat) : Int)) st = _ := fun st => rngN (st := st) (by omega)
    have lA := lcId (st := st) (call := evCall TURNS D (k + 1)) (elt := e215_7) (env := [some (.loc 1), some (.tup g), some (.int (m : Nat)), none, none, none, none, none, none, none, none, none]) (l := List.range g.length) 6 (by simp; omega) (fun n => by simp [e215_7, ev])
    have lC := lcId (st := st1) (call := evCall TURNS D (k + 1)) (elt := e215_6) (env := [some (.loc 1), some (.tup g), some (.int (m : Nat)), some (.fl (nats B)), none, none, none, none, none, none, none, none]) (l := left) 6 (by simp [left]; omega) (fun n => by simp [e215_6, ev])
    have many : ∀ l : List Nat, (Src.items (nats l)).many = l.length := fun l => nats_len l
    have bnA : binV .add (.fl (nats (List.range g.length))) (.fl (nats l)) st1 = some (.fl (nats B)) := by
      show (if (nats (List.range g.length)).length + (nats l).length ≤ sizeLine then some (PV.fl (nats (List.range g.length) ++ nats l)) else none) = _
      rw [if_pos (by rw [nats_len, nats_len, List.length_range]; omega), nats_add]
    have hb : evSs (evCall TURNS D (k + 1)) TURNS d215.body [some (.loc 1), some (.tup g), some (.int (m : Nat)), none, none, none, none, none, none, none, none, none] st = .rt (.tup rows) st4 := by
      have hl1 : st1.length = R.length + 2 := t1.len
      refine seq_nx (st1 := st1) (set_own (x := .fl (nats B)) (ev_bin (ev_lc (x := .int 0) (y := .int (g.length : Nat)) rfl (ev_len rfl (.inr rfl) (by simp)) (rgA st) (by rw [many]; exact lA) rfl) (ev_lc (x := .int 0) (y := .int (m : Nat)) rfl rfl (rgB st) (by rw [many, List.length_range]; exact d1) rfl) bnA rfl)) ?_
      have n3 : (nats B).length = B.length := nats_len B
      refine seq_nx (set_esc (x := .fl (nats left)) (ev_lc (x := .int 1) (y := .int (B.length : Nat)) rfl (by rw [← n3]; exact ev_len rfl (.inl rfl) (by simp)) (rgC st1) (by rw [many]; exact lC) rfl)) ?_
      have e1 : esc (.fl (nats left)) st1 = (.loc (R.length + 2), st1 ++ [.lst (nats left)]) := by
        show (PV.loc st1.length, st1 ++ [Cell.lst (nats left)]) = _
        rw [hl1]
      rw [e1]
      refine seq_nx (set_esc (x := .fl (nats [0])) (st1 := st1 ++ [.lst (nats left)]) ?_) ?_
      · show (evA (evCall TURNS D (k + 1)) (.cons (.con (.int 0)) .nil) _ _).bind _ = _
        rw [show evA (evCall TURNS D (k + 1)) (.cons (.con (.int 0)) .nil) = fun env st => Res.ok [.int 0] st from rfl]
        simp only [bind_ok_]
        rw [if_pos (by simp; omega)]
        rfl
      have e2 : esc (.fl (nats [0])) (st1 ++ [.lst (nats left)]) = (.loc (R.length + 3), st1 ++ [.lst (nats left), .lst (nats [0])]) := by
        show (PV.loc (st1 ++ [Cell.lst (nats left)]).length, (st1 ++ [Cell.lst (nats left)]) ++ [Cell.lst (nats [0])]) = _
        simp [hl1]
      rw [e2]
      refine seq_nx (for_rng (x := .int 0) (y := .int ((B.length - 1 : Nat) : Int)) rfl (ev_bin (x := .int (B.length : Nat)) (y := .int 1) (by rw [← n3]; exact ev_len rfl (.inl rfl) (by simp)) rfl ?_ rfl) (rgD _) (by rw [many, List.length_range]; exact q1)) ?_
      · show some (PV.int ((B.length : Int) - 1)) = _
        congr 2
        omega
      refine seq_nx (st1 := st3) (set_own (x := .fl []) ?_) ?_
      · rfl
      have a3 : st3[R.length + 3]? = some (.lst (nats placed)) := by
        rw [show R.length + 3 = (R.length + 1) + 2 from rfl, q2.at]; simp
      rw [← nats_len placed] at w1
      refine seq_nx (for_loc (n := R.length + 3) (xs := nats placed) rfl a3 w1) ?_
      simp [evSs, evS, ev, evCs, ME.held]
    exact call_rt rfl rfl ⟨rfl, rfl⟩ hb (by rw [t.len, u1])
  · rw [z] at w3
    simp at w3
    omega
end K31

set_option maxHeartbeats 4000000
namespace K31
open PySem L2 U
variable {ns : List Int} {R : Store} {st : Store}
theorem cut_to (xs : List PV) (k : Nat) (h : k ≤ xs.length) : cutL xs none (some (k : Nat)) = xs.take k := by
  have e : HT.sIx xs.length xs.length (some (k : Int)) = k := by
    unfold HT.sIx
    simp only
    rw [if_neg (by omega)]
    simp; omega
  unfold cutL
  rw [e]
  simp [HT.sIx]
theorem cut_from (xs : List PV) (k : Nat) (h : k ≤ xs.length) : cutL xs (some (k : Nat)) none = xs.drop k := by
  have e : HT.sIx xs.length 0 (some (k : Int)) = k := by
    unfold HT.sIx
    simp only
    rw [if_neg (by omega)]
    simp; omega
  unfold cutL
  rw [e]
  simp only [HT.sIx]
  exact List.take_of_length_le (by simp)
theorem put_gr {g : List PV} {k : Nat} {v : PV} (hg : Gr g) (hk : k < g.length) (hv : Nd g.length v) : Gr (g.take k ++ [v] ++ g.drop (k + 1)) ∧ (g.take k ++ [v] ++ g.drop (k + 1)).length = g.length := by
  have e : (g.take k ++ [v] ++ g.drop (k + 1)).length = g.length := by simp; omega
  refine ⟨⟨by simp, by rw [e]; exact hg.2.1, fun w hw => ?_⟩, e⟩
  rw [e]
  rcases List.mem_append.mp hw with hw | hw
  · rcases List.mem_append.mp hw with hw | hw
    · exact hg.2.2 w (List.mem_of_mem_take hw)
    · rw [List.mem_singleton.mp hw]; exact hv
  · exact hg.2.2 w (List.mem_of_mem_drop hw)
theorem bent_ok {k : Nat} {g : List PV} {nm oc : List Str} (hR : R = [.lst (nm.map .str), .lst (oc.map .str)]) (t : T ns R st) (hg : Gr g) (hN : g.length ≤ 50) (hn : 1 ≤ nm.length ∧ nm.length ≤ 10) (ho : 1 ≤ oc.length ∧ oc.length ≤ 10) (sn : ∀ x ∈ nm, SB x) (so : ∀ x ∈ oc, SB x) :
    ∃ g' st', evCall TURNS D (k + 2) 216 [.loc 1, .tup g, .loc 2, .loc 3] st = .ok (.tup g') st' ∧ T ns R st' ∧ Gr g' ∧ g'.length = g.length := by
  have n1 : 1 ≤ g.length := by
    have := hg.1
    cases g with
    | nil => exact absurd rfl this
    | cons _ _ => simp
  have sz := sizeLine_eq
  have c3 : ∀ st, T ns R st → st[2]? = some (.lst (nm.map .str)) := fun st t => by have := t.at 0; rw [hR] at this; exact this
  have c4 : ∀ st, T ns R st → st[3]? = some (.lst (oc.map .str)) := fun st t => by have := t.at 1; rw [hR] at this; exact this
  obtain ⟨r0, st1, h1, t1, l1, u1⟩ := drawT (k := k) (m := (g.length : Nat)) t (by omega)
  obtain ⟨p, rfl⟩ : ∃ i : Nat, r0 = i := ⟨r0.toNat, by omega⟩
  have hp : p < g.length := by omega
  obtain ⟨ch, st2, h2, t2, l2, u2⟩ := drawT (k := k) (m := 6) t1 (by decide)
  have ig : ∀ st, ixV (.tup g) (.int (p : Nat)) st = some g[p] := fun st => by
    show L2.atI g (p : Nat) = _
    exact atI_nn (by omega) (by simp [hp])
  have nd := hg.2.2 _ (List.getElem_mem hp)
  -- what the node becomes
  have mid : ∃ v st3 y7, evS (evCall TURNS D (k + 1)) TURNS (.ite (.and (.cmp .lt (.var 6) (.con (.int 4))) (.cmp .eq (.ix (.var 5) (.con (.int 0))) (.con (.str "call")))) (.cons (.set 7 (.bin .add (.con (.int 2)) (.fn 5 (.cons (.var 0) (.cons (.con (.int 2)) .nil)))) false)
  (.cons (.set 5 (.bin .add (.bin .add (.sl (.var 5) (.con .non) (.var 7)) (.tup (.cons (.fn 5 (.cons (.var 0) (.cons (.bi .len (.cons (.var 1) .nil)) .nil))) .nil))) (.sl (.var 5) (.bin .add (.var 7) (.con (.int 1))) (.con .non))) false)
  .nil)) (.cons (.ite (.and (.cmp .eq (.ix (.var 5) (.con (.int 0))) (.con (.str "call"))) (.cmp .eq (.var 6) (.con (.int 4)))) (.cons (.set 5 (.bin .add (.tup (.cons (.con (.str "call")) (.cons (.ix (.var 2) (.fn 5 (.cons (.var 0) (.cons (.bi .len (.cons (.var 2) .nil)) .nil)))) .nil))) (.sl (.var 5) (.con (.int 2)) (.con .non))) false)
  .nil) (.cons (.set 5 (.tup (.cons (.con (.str "outcome")) (.cons (.ix (.var 3) (.fn 5 (.cons (.var 0) (.cons (.bi .len (.cons (.var 3) .nil)) .nil)))) .nil))) false)
  .nil))
  .nil)) [some (.loc 1), some (.tup g), some (.loc 2), some (.loc 3), some (.int (p : Nat)), some g[p], some (.int ch), none] st2
      = .nx [some (.loc 1), some (.tup g), some (.loc 2), some (.loc 3), some (.int (p : Nat)), some v, some (.int ch), y7] st3 ∧ T ns R st3 ∧ Nd g.length v := by
    have bt : ∀ (xs ys : List PV) (st : Store), xs.length + ys.length ≤ 1000 → binV .add (.tup xs) (.tup ys) st = some (.tup (xs ++ ys)) := fun xs ys st h => if_pos (by omega)
    have z1 : 1 ≤ sizeLine := by omega
    have z2 : 2 ≤ sizeLine := by omega
    have z3 : 3 ≤ sizeLine := by omega
    have z4 : 4 ≤ sizeLine := by omega
    -- an outcome instead
    have out : ∃ (o : Str) (st3 : Store) (r : Int), SB o ∧ T ns R st3 ∧ biV .len [.loc 3] st2 = some (.int (oc.length : Nat)) ∧ evCall TURNS D (k + 1) 5 [.loc 1, .int (oc.length : Nat)] st2 = .ok (.int r) st3 ∧ ixV (.loc 3) (.int r) st3 = some (.str o) := by
      have bl := bi_len_loc (c4 st2 t2)
      rw [List.length_map] at bl
      obtain ⟨r2, st3, h3, t3, l3, u3⟩ := drawT (k := k) (m := oc.length) t2 (by omega)
      obtain ⟨y, hy, e⟩ := pick (xs := oc.map PV.str) (i := r2) l3 (by rw [List.length_map]; exact u3)
      obtain ⟨o, ho2, rfl⟩ := List.mem_map.mp hy
      exact ⟨o, st3, r2, so o ho2, t3, bl, h3, by rw [ix_loc (c4 _ t3)]; exact e⟩
    rcases nd with ⟨nm0, a, b, s, e, a0, a1, b0, b1⟩ | ⟨o, s, e⟩
    · rw [e]
      by_cases q : ch < 4
      · obtain ⟨r3, st3, h3, t3, l3, u3⟩ := drawT (k := k) (m := 2) t2 (by decide)
        obtain ⟨r4, st4, h4, t4, l4, u4⟩ := drawT (k := k) (m := (g.length : Nat)) t3 (by omega)
        rcases pick2 l3 u3 with rfl | rfl
        · refine ⟨.tup [.str "call", .str nm0, .int r4, .int b], st4, some (.int 2), ?_, t4, .inl ⟨nm0, r4, b, s, rfl, l4, by omega, b0, b1⟩⟩
          simp [evS, evSs, ev, evA, evCs, q, h3, h4, U.bound, ME.absent, slV, cutL, HT.sIx, z1, z2, z3, z4, esc, bt]
        · refine ⟨.tup [.str "call", .str nm0, .int a, .int r4], st4, some (.int 3), ?_, t4, .inl ⟨nm0, a, r4, s, rfl, a0, a1, l4, by omega⟩⟩
          simp [evS, evSs, ev, evA, evCs, q, h3, h4, U.bound, ME.absent, slV, cutL, HT.sIx, z1, z2, z3, z4, esc, bt]
      · by_cases q4 : ch = 4
        · have bl := bi_len_loc (c3 st2 t2)
          rw [List.length_map] at bl
          obtain ⟨r2, st3, h3, t3, l3, u3⟩ := drawT (k := k) (m := nm.length) t2 (by omega)
          obtain ⟨y, hy, e2⟩ := pick (xs := nm.map PV.str) (i := r2) l3 (by rw [List.length_map]; exact u3)
          obtain ⟨o, ho2, rfl⟩ := List.mem_map.mp hy
          have ix : ixV (.loc 2) (.int r2) st3 = some (.str o) := by rw [ix_loc (c3 _ t3)]; exact e2
          refine ⟨.tup [.str "call", .str o, .int a, .int b], st3, none, ?_, t3, .inl ⟨o, a, b, sn o ho2, rfl, a0, a1, b0, b1⟩⟩
          simp [evS, evSs, ev, evA, evCs, q, q4, bl, h3, ix, U.bound, ME.absent, slV, cutL, HT.sIx, z1, z2, z3, z4, esc, bt]
        · obtain ⟨o, st3, r, w1, w2, w3, w4, w5⟩ := out
          refine ⟨.tup [.str "outcome", .str o], st3, none, ?_, w2, .inr ⟨o, w1, rfl⟩⟩
          simp [evS, evSs, ev, evA, evCs, q, q4, w3, w4, w5, z2, esc]
    · rw [e]
      obtain ⟨o2, st3, r, w1, w2, w3, w4, w5⟩ := out
      refine ⟨.tup [.str "outcome", .str o2], st3, none, ?_, w2, .inr ⟨o2, w1, rfl⟩⟩
      by_cases q : ch < 4 <;> simp [evS, evSs, ev, evA, evCs, q, no_out2, w3, w4, w5, z2, esc]
  obtain ⟨v, st3, y7, m1, m2, m3⟩ := mid
  have pg := put_gr hg hp m3
  have ll : leave st.length (.tup (g.take p ++ [v] ++ g.drop (p + 1))) st3 = .ok (.tup (g.take p ++ [v] ++ g.drop (p + 1))) st3 := leave_same (by rw [t.len, m2.len]; exact Nat.le_refl _)
  have hb : evSs (evCall TURNS D (k + 1)) TURNS d216.body [some (.loc 1), some (.tup g), some (.loc 2), some (.loc 3), none, none, none, none] st = .rt (.tup (g.take p ++ [v] ++ g.drop (p + 1))) st3 := by
    have eg : esc g[p] st1 = (g[p], st1) := by
      obtain ⟨xs, h⟩ := nd_tup nd
      rw [h]; rfl
    have eg2 : varV .val (some (some g[p])) st1 = .ok g[p] st1 := by
      obtain ⟨xs, h⟩ := nd_tup nd
      rw [h]; rfl
    refine seq_nx (st1 := st1) (env1 := [some (.loc 1), some (.tup g), some (.loc 2), some (.loc 3), some (.int (p : Nat)), none, none, none]) ?_ ?_
    · simp [evS, ev, evA, evCs, len_tup, h1, esc]
    refine seq_nx (st1 := st1) (env1 := [some (.loc 1), some (.tup g), some (.loc 2), some (.loc 3), some (.int (p : Nat)), some g[p], none, none]) ?_ ?_
    · simp [evS, ev, ig, eg, -List.getElem?_eq_getElem]
    refine seq_nx (st1 := st2) (env1 := [some (.loc 1), some (.tup g), some (.loc 2), some (.loc 3), some (.int (p : Nat)), some g[p], some (.int ch), none]) ?_ ?_
    · simp [evS, ev, evA, h2, esc]
    refine seq_nx m1 ?_
    have s1 : ∀ st, slV (.tup g) none (some (p : Nat)) st = some (.tup (g.take p)) := fun st => by
      show some (PV.tup (cutL g none (some (p : Nat)))) = _
      rw [cut_to _ _ (by omega)]
    have s2 : ∀ st, slV (.tup g) (some ((p : Int) + 1)) none st = some (.tup (g.drop (p + 1))) := fun st => by
      show some (PV.tup (cutL g (some ((p : Int) + 1)) none)) = _
      rw [show ((p : Int) + 1) = ((p + 1 : Nat) : Int) by omega, cut_from _ _ (by omega)]
    have bt : ∀ (xs ys : List PV) (st : Store), xs.length + ys.length ≤ 1000 → binV .add (.tup xs) (.tup ys) st = some (.tup (xs ++ ys)) := fun xs ys st h => if_pos (by omega)
    have b1 : ∀ st, binV .add (.tup (g.take p)) (.tup [v]) st = some (.tup (g.take p ++ [v])) := fun st => bt _ _ _ (by rw [List.length_take]; simp; omega)
    have b2 : ∀ st, binV .add (.tup (g.take p ++ [v])) (.tup (g.drop (p + 1))) st = some (.tup (g.take p ++ [v] ++ g.drop (p + 1))) := fun st => bt _ _ _ (by rw [List.length_append, List.length_take, List.length_drop]; simp; omega)
    have z1 : 1 ≤ sizeLine := by omega
    obtain ⟨vs, rfl⟩ := nd_tup m3
    simp only [List.append_assoc] at b2
    simp [evSs, evS, ev, evA, U.bound, ME.absent, s1, s2, b1, b2, z1, esc, ME.held]
  refine ⟨_, st3, ?_, m2, pg.1, pg.2⟩
  exact call_rt rfl rfl ⟨rfl, rfl⟩ hb ll
end K31

set_option maxHeartbeats 4000000
namespace K31
open PySem L2 U
/-! ### the text of rows -/
theorem int_all : (List.range 201).all (fun n => (PyData.int (n : Nat)).showable && PyData.leavesShort 13 (.int (n : Nat)) && decide (PyData.weight (.int (n : Nat)) ≤ 8)) = true := by decide +kernel
theorem int_data {n : Nat} (h : n ≤ 200) : (PyData.int (n : Nat)).showable = true ∧ PyData.leavesShort 13 (.int (n : Nat)) = true ∧ PyData.weight (.int (n : Nat)) ≤ 8 := by
  have := List.all_eq_true.mp int_all n (List.mem_range.mpr (by omega))
  simp only [Bool.and_eq_true, decide_eq_true_eq] at this
  exact ⟨this.1.1, this.1.2, this.2⟩
theorem nat_data : ∀ {l : List Nat}, (∀ x ∈ l, x ≤ 200) → ∃ ds, pyOfL (nats l) = some ds ∧ PyData.showableAll ds = true ∧ PyData.hasDictAll ds = false ∧ PyData.leavesShortAll 13 ds = true ∧ PyData.depthAll ds = 0 ∧ PyData.weightAll ds ≤ 10 * l.length
  | [], _ => ⟨[], rfl, rfl, rfl, rfl, rfl, Nat.le_refl _⟩
  | n :: l, h => by
    obtain ⟨ds, h1, h2, h3, h4, h5, h6⟩ := nat_data (l := l) fun w hw => h w (List.mem_cons_of_mem _ hw)
    have hn := h n List.mem_cons_self
    refine ⟨.int (n : Nat) :: ds, ?_, ?_, ?_, ?_, ?_, ?_⟩
    · show (match pyOf (.int (n : Nat)), pyOfL (nats l) with
        | some d, some ds => some (d :: ds)
        | _, _ => none) = _
      rw [h1]; rfl
    · rw [PyData.showableAll, h2, (int_data hn).1]; rfl
    · rw [PyData.hasDictAll, h3]; rfl
    · rw [PyData.leavesShortAll, h4, (int_data hn).2.1]; rfl
    · rw [PyData.depthAll, h5]; rfl
    · rw [PyData.weightAll]
      have := (int_data hn).2.2
      simp only [List.length_cons]
      omega
theorem rows_data : ∀ {r : List (List Nat)}, (∀ l ∈ r, l.length ≤ 200 ∧ ∀ x ∈ l, x ≤ 200) → ∃ ds, pyOfL (rowsV r) = some ds ∧ PyData.showableAll ds = true ∧ PyData.hasDictAll ds = false ∧ PyData.leavesShortAll 13 ds = true ∧ PyData.depthAll ds ≤ 1 ∧ PyData.weightAll ds ≤ 2100 * r.length
  | [], _ => ⟨[], rfl, rfl, rfl, rfl, Nat.zero_le _, Nat.le_refl _⟩
  | l :: r, h => by
    obtain ⟨ds, h1, h2, h3, h4, h5, h6⟩ := rows_data (r := r) fun w hw => h w (List.mem_cons_of_mem _ hw)
    obtain ⟨hl, hx⟩ := h l List.mem_cons_self
    obtain ⟨es, g1, g2, g3, g4, g5, g6⟩ := nat_data hx
    refine ⟨.tuple es :: ds, ?_, ?_, ?_, ?_, ?_, ?_⟩
    · show (match (pyOfL (nats l)).map PyData.tuple, pyOfL (rowsV r) with
        | some d, some ds => some (d :: ds)
        | _, _ => none) = _
      rw [h1, g1]; rfl
    · rw [PyData.showableAll, h2, PyData.showable, g2]; rfl
    · rw [PyData.hasDictAll, h3, PyData.hasDict, g3]; rfl
    · rw [PyData.leavesShortAll, h4, PyData.leavesShort, g4]; rfl
    · rw [PyData.depthAll, PyData.depth, g5]; omega
    · rw [PyData.weightAll, PyData.weight]
      simp only [List.length_cons]
      omega
theorem rows_text {r : List (List Nat)} {st : Store} (h : ∀ l ∈ r, l.length ≤ 200 ∧ ∀ x ∈ l, x ≤ 200) (hr : r.length ≤ 200) : ∃ z, ∀ st, biV .reprD [.tup (rowsV r)] st = some (.str z) := by
  obtain ⟨ds, h1, h2, h3, h4, h5, h6⟩ := rows_data h
  have l4 : PyData.leavesShort 13 (.tuple ds) = true := by rw [PyData.leavesShort]; exact h4
  have fit := PyData.shown_fits (B := 13) (by decide) (by decide) l4 (by
        rw [PyData.weight]
        have : (2 : Nat) ^ 20 = 1048576 := by decide
        omega)
  refine ⟨(PyData.tuple ds).shown, fun st => ?_⟩
  show shownV (.tup (rowsV r)) = _
  unfold shownV
  rw [pyOf, h1]
  simp only [Option.map_some]
  rw [if_pos]
  refine ⟨by rw [PyData.showable]; exact h2, by rw [PyData.hasDict]; exact h3, by rw [PyData.depth]; omega, fit⟩
/-! ### the two graphs with a known answer -/
/-- a chain that ends -/
theorem rows_id : ∀ n : Nat, rowsR (fun i j => decide (i = j)) n = (List.range n).map fun k => [k]
  | 0 => rfl
  | n + 1 => by
    rw [rowsR_succ, rows_id n, List.range_succ, List.map_append]
    refine addR_new fun a ha => ?_
    obtain ⟨k, hk, rfl⟩ := List.mem_map.mp ha
    have : k < n := by simpa using hk
    simp; omega
/-- a ring with a last node beside it -/
theorem rows_ring (m : Nat) : ∀ n : Nat, n ≤ m → 1 ≤ n → rowsR (fun i j => decide (i = j) || decide (i < m ∧ j < m)) n = [List.range n]
  | 0, _, h => by omega
  | 1, _, _ => rfl
  | n + 2, h, _ => by
    rw [rowsR_succ, rows_ring m (n + 1) (by omega) (by omega)]
    rw [addR, if_pos ?_, List.range_succ (n := n + 1)]
    have : (List.range (n + 1)).headD 0 = 0 := by rw [List.range_succ_eq_map]; rfl
    rw [this]
    simp
    omega
theorem rows_ring1 (m : Nat) (h : 1 ≤ m) : rowsR (fun i j => decide (i = j) || decide (i < m ∧ j < m)) (m + 1) = [List.range m, [m]] := by
  rw [rowsR_succ, rows_ring m m (Nat.le_refl _) h, addR, if_neg ?_, addR]
  have : (List.range m).headD 0 = 0 := by
    obtain ⟨k, rfl⟩ : ∃ k, m = k + 1 := ⟨m - 1, by omega⟩
    rw [List.range_succ_eq_map]; rfl
  rw [this]
  simp
  omega
def chainG (nm o : Str) (m : Nat) : List PV := (List.range m).map (fun k => .tup [.str "call", .str nm, .int ((k : Int) + 1), .int ((k : Int) + 1)]) ++ [.tup [.str "outcome", .str o]]
def ringG (nm o : Str) (m b : Nat) : List PV := (List.range (m - 1)).map (fun k => .tup [.str "call", .str nm, .int ((k : Int) + 1), .int ((k : Int) + 1)]) ++ [.tup [.str "call", .str nm, .int (b : Nat), .int (b : Nat)], .tup [.str "outcome", .str o]]
variable {nm o : Str} {m b : Nat}
theorem chain_gr (hn : SB nm) (ho : SB o) (hm : m ≤ 120) : Gr (chainG nm o m) := by
  have l : (chainG nm o m).length = m + 1 := by simp [chainG]
  refine ⟨by simp [chainG], by omega, fun v hv => ?_⟩
  rw [l]
  rcases List.mem_append.mp hv with hv | hv
  · obtain ⟨k, hk, rfl⟩ := List.mem_map.mp hv
    have : k < m := by simpa using hk
    exact .inl ⟨nm, _, _, hn, rfl, by omega, by omega, by omega, by omega⟩
  · rw [List.mem_singleton] at hv
    subst hv
    exact .inr ⟨o, ho, rfl⟩
theorem chain_at (k : Nat) (h : k < m) : (chainG nm o m)[k]? = some (.tup [.str "call", .str nm, .int ((k : Int) + 1), .int ((k : Int) + 1)]) := by
  unfold chainG
  rw [List.getElem?_append_left (by simpa using h), List.getElem?_map, List.getElem?_range h]; rfl
theorem chain_end : (chainG nm o m)[m]? = some (.tup [.str "outcome", .str o]) := by
  unfold chainG
  rw [List.getElem?_append_right (by simp)]
  simp
theorem chain_no (i j : Nat) (h1 : i < j) (h2 : j ≤ m) : ¬ Bis (AGof (chainG nm o m)) i j := by
  intro ⟨R, r, h⟩
  have step : ∀ t, j + t ≤ m → R (i + t) (j + t) := by
    intro t
    induction t with
    | zero => exact fun _ => r
    | succ t ih =>
      intro ht
      have r2 := ih (by omega)
      refine (h _ _ r2).2 [i + t + 1, i + t + 1] [j + t + 1, j + t + 1] 0 _ _ ?_ ?_ rfl rfl
      · rw [ag_sc, chain_at _ (by omega)]
        simp [scV]; omega
      · rw [ag_sc, chain_at _ (by omega)]
        simp [scV]; omega
  have e := (h _ _ (step (m - j) (by omega))).1
  rw [show j + (m - j) = m by omega, ag_lab, ag_lab, chain_end, chain_at _ (by omega)] at e
  simp [labV] at e
  exact no_out e.1
theorem Bis.refl_ {G : AG} (i : Nat) : Bis G i i := ⟨fun a b => a = b, rfl, fun a b e => by
  subst e
  refine ⟨rfl, fun l m t x y h1 h2 h3 h4 => ?_⟩
  rw [h1] at h2
  cases h2
  rw [h3] at h4
  exact Option.some.inj h4⟩
theorem chain_P (i j : Nat) (hi : i < (chainG nm o m).length) (hj : j < (chainG nm o m).length) : (fun i j => decide (i = j)) i j = true ↔ Bis (AGof (chainG nm o m)) i j := by
  have l : (chainG nm o m).length = m + 1 := by simp [chainG]
  simp only [decide_eq_true_eq]
  constructor
  · rintro rfl; exact .refl_ _
  · intro h
    rcases Nat.lt_trichotomy i j with q | q | q
    · exact absurd h (chain_no i j q (by omega))
    · exact q
    · exact absurd h.symm (chain_no j i q (by omega))
theorem ring_gr (hn : SB nm) (ho : SB o) (hm : m ≤ 120) (hb : b < m) : Gr (ringG nm o m b) := by
  have l : (ringG nm o m b).length = m + 1 := by simp [ringG]; omega
  refine ⟨by simp [ringG], by omega, fun v hv => ?_⟩
  rw [l]
  rcases List.mem_append.mp hv with hv | hv
  · obtain ⟨k, hk, rfl⟩ := List.mem_map.mp hv
    have : k < m - 1 := by simpa using hk
    exact .inl ⟨nm, _, _, hn, rfl, by omega, by omega, by omega, by omega⟩
  · rcases List.mem_cons.mp hv with rfl | hv
    · exact .inl ⟨nm, _, _, hn, rfl, by omega, by omega, by omega, by omega⟩
    · rw [List.mem_singleton] at hv
      subst hv
      exact .inr ⟨o, ho, rfl⟩
theorem ring_at (k : Nat) (h : k < m) (hb : b < m) : ∃ x : Nat, x < m ∧ (ringG nm o m b)[k]? = some (.tup [.str "call", .str nm, .int (x : Nat), .int (x : Nat)]) := by
  unfold ringG
  by_cases q : k < m - 1
  · refine ⟨k + 1, by omega, ?_⟩
    rw [List.getElem?_append_left (by simpa using q), List.getElem?_map, List.getElem?_range q]; rfl
  · refine ⟨b, hb, ?_⟩
    rw [List.getElem?_append_right (by simp; omega)]
    simp
    rw [show k - (m - 1) = 0 by omega]; rfl
theorem ring_end (hb : b < m) : (ringG nm o m b)[m]? = some (.tup [.str "outcome", .str o]) := by
  unfold ringG
  rw [List.getElem?_append_right (by simp)]
  simp
  rw [show m - (m - 1) = 1 by omega]; rfl
theorem ring_P (hb : b < m) (i j : Nat) (hi : i < (ringG nm o m b).length) (hj : j < (ringG nm o m b).length) : (fun i j => decide (i = j) || decide (i < m ∧ j < m)) i j = true ↔ Bis (AGof (ringG nm o m b)) i j := by
  have l : (ringG nm o m b).length = m + 1 := by simp [ringG]; omega
  simp only [Bool.or_eq_true, decide_eq_true_eq]
  have no : ∀ i, i < m → ¬ Bis (AGof (ringG nm o m b)) i m := fun i hi ⟨R, r, h⟩ => by
    have e := (h _ _ r).1
    obtain ⟨x, _, hx⟩ := ring_at (nm := nm) (o := o) i hi hb
    rw [ag_lab, ag_lab, ring_end hb, hx] at e
    simp [labV] at e
    exact no_out e.1
  constructor
  · rintro (rfl | ⟨h1, h2⟩)
    · exact .refl_ _
    · refine ⟨fun a b => a < m ∧ b < m, ⟨h1, h2⟩, fun a c ⟨ha, hc⟩ => ?_⟩
      obtain ⟨x, hx, ex⟩ := ring_at (nm := nm) (o := o) a ha hb
      obtain ⟨y, hy, ey⟩ := ring_at (nm := nm) (o := o) c hc hb
      refine ⟨by rw [ag_lab, ag_lab, ex, ey]; rfl, fun l n t u v q1 q2 q3 q4 => ?_⟩
      rw [ag_sc, ex] at q1
      rw [ag_sc, ey] at q2
      simp [scV] at q1 q2
      subst q1; subst q2
      have hu := List.mem_of_getElem? q3
      have hv := List.mem_of_getElem? q4
      simp at hu hv
      omega
  · intro h
    by_cases e : i = j
    · exact .inl e
    · right
      by_cases hi2 : i < m
      · by_cases hj2 : j < m
        · exact ⟨hi2, hj2⟩
        · have : j = m := by omega
          subst this
          exact absurd h (no i hi2)
      · have : i = m := by omega
        subst this
        exact absurd h.symm (no j (by omega))
end K31

set_option maxHeartbeats 4000000
namespace K31
open PySem L2 U
noncomputable def PB (g : List PV) (i j : Nat) : Bool := @decide (Bis (AGof g) i j) (Classical.propDecidable _)
theorem PB_iff (g : List PV) (i j : Nat) : PB g i j = true ↔ Bis (AGof g) i j := by
  unfold PB
  exact @decide_eq_true_iff _ (Classical.propDecidable _)
theorem XOk.ext {X : List Row} {b : Nat} {st st' : Store} (h : XOk X b st) (e : Ext st st') : XOk X b st' := by
  obtain ⟨C, rfl⟩ := e
  exact h.push C
def locs (X : List Row) : List PV := X.map fun x => .loc x.2.1
/-- the rows alike -/
theorem alike {k j : Nat} {g : List PV} {X : List Row} {st : Store} {env : En} (hg : Gr g) (hN : g.length ≤ 20) (hj : j < g.length) (h : XOk X 0 st) (hx : ∀ x ∈ X, RowOk j x.2.2) (hl : X.length ≤ 100) (he : env.length = 12) (h6 : env[6]? = some (some (.tup g))) (h9 : env[9]? = some (some (.int (j : Nat)))) :
    ∃ st', lcLoop (fun e s => (ev (evCall TURNS D (k + 1)) c0_1 .test e s).bind fun x s1 => opt (isBl x) s1) (ev (evCall TURNS D (k + 1)) e0_2 .val) (MG.put (.nm 11)) env (.items (locs X)) 0 (locs X).length [] st = .ok (.fl (locs (X.filter fun x => PB g (x.2.2.headD 0) j))) st' ∧ Ext st st' := by
  obtain ⟨acc, st', q1, q2, q3⟩ := lcLoop_inv (test := fun e s => (ev (evCall TURNS D (k + 1)) c0_1 .test e s).bind fun x s1 => opt (isBl x) s1) (elt := ev (evCall TURNS D (k + 1)) e0_2 .val) (put := MG.put (.nm 11)) (env := env) (xs := locs X)
    (fun i acc st' => Ext st st' ∧ acc = locs ((X.take i).filter fun x => PB g (x.2.2.headD 0) j)) (fun i v acc st1 hv ⟨e1, e2⟩ => by
      subst e2
      unfold locs at hv
      rw [List.getElem?_map] at hv
      obtain ⟨x, hxi, rfl⟩ := Option.map_eq_some_iff.mp hv
      have xm := List.mem_of_getElem? hxi
      have il : i < X.length := (List.getElem?_eq_some_iff.mp hxi).1
      have ro := hx x xm
      have hd := ro.2 _ (head_mem ro.1)
      have at1 := (h.ext e1).at_ x xm
      have s6 : (env.set 11 (some (PV.loc x.2.1)))[6]? = some (some (.tup g)) := by rw [List.getElem?_set_ne (by decide)]; exact h6
      have s9 : (env.set 11 (some (PV.loc x.2.1)))[9]? = some (some (.int (j : Nat))) := by rw [List.getElem?_set_ne (by decide)]; exact h9
      have s11 : (env.set 11 (some (PV.loc x.2.1)))[11]? = some (some (.loc x.2.1)) := by rw [List.getElem?_set_self (by omega)]
      have i0 : ixV (.loc x.2.1) (.int 0) st1 = some (.int (x.2.2.headD 0 : Nat)) := by
        rw [ix_loc at1.1]
        have := nats_at (l := x.2.2) (x := 0) (by omega) (by
          cases q : x.2.2 with
          | nil => exact absurd q ro.1
          | cons _ _ => simp)
        rw [this]
        cases q : x.2.2 with
        | nil => exact absurd q ro.1
        | cons _ _ => rfl
      obtain ⟨v, st2, p1, p2, p3⟩ := part_ok (k := k) (st := st1) hg hN (show x.2.2.headD 0 < g.length by omega) hj
      have ht : (ev (evCall TURNS D (k + 1)) c0_1 .test (env.set 11 (some (PV.loc x.2.1))) st1).bind (fun x s1 => opt (isBl x) s1) = .ok (PB g (x.2.2.headD 0) j) st2 := by
        generalize x.2.2.headD 0 = q0 at i0 p1 p3 ⊢
        rcases p3 with ⟨rfl, b⟩ | ⟨⟨q, rfl⟩, b⟩
        · rw [(PB_iff g _ _).mpr b]
          simp [c0_1, ev, evA, s6, s9, s11, i0, p1, cmpV]
        · have : PB g q0 j = false := by
            cases z : PB g q0 j with
            | false => rfl
            | true => exact absurd ((PB_iff g _ _).mp z) b
          rw [this]
          simp [c0_1, ev, evA, s6, s9, s11, i0, p1, cmpV]
      refine ⟨_, _, st2, rfl, ht, ?_⟩
      have tk : X.take (i + 1) = X.take i ++ [x] := by rw [List.take_add_one, hxi]; rfl
      cases hb : PB g (x.2.2.headD 0) j with
      | true =>
        rw [if_pos rfl]
        refine ⟨.loc x.2.1, st2, by simp [e0_2, ev, s11], ?_, e1.trans p2, ?_⟩
        · have := List.length_filter_le (fun x => PB g (x.2.2.headD 0) j) (X.take i)
          unfold locs
          rw [List.length_map, sizeLine_eq]
          rw [List.length_take] at this
          omega
        · rw [tk, List.filter_append, List.filter_cons_of_pos (p := fun x : Row => PB g (x.2.2.headD 0) j) hb, List.filter_nil]
          simp only [locs, List.map_append, List.map_cons, List.map_nil]
          rfl
      | false =>
        simp only [Bool.false_eq_true, if_false]
        refine ⟨e1.trans p2, ?_⟩
        rw [tk, List.filter_append, List.filter_cons_of_neg (p := fun x : Row => PB g (x.2.2.headD 0) j) (by rw [hb]; decide), List.filter_nil, List.append_nil]) (locs X).length 0 [] st (by simp) ⟨.refl _, by simp [locs]⟩
  refine ⟨st', ?_, q2⟩
  rw [q1, q3, List.take_of_length_le (by simp [locs])]
structure RI (g : List PV) (j : Nat) (X : List Row) (st : Store) : Prop where
  ok : XOk X 0 st
  rows : X.map (·.2.2) = rowsR (PB g) j
theorem RI.row {g : List PV} {j : Nat} {X : List Row} {st : Store} (r : RI g j X st) : (∀ x ∈ X, RowOk j x.2.2 ∧ x.2.2.length ≤ j) ∧ X.length ≤ j := by
  refine ⟨fun x hx => ?_, ?_⟩
  · have : x.2.2 ∈ rowsR (PB g) j := by rw [← r.rows]; exact List.mem_map.mpr ⟨x, hx, rfl⟩
    exact ⟨rowsR_ok _ _ _ this, rowsR_nodes _ _ _ this⟩
  · have := congrArg List.length r.rows
    rw [List.length_map] at this
    have := rowsR_len (PB g) j
    omega
theorem turn0 {k j : Nat} {g : List PV} {X : List Row} {st : Store} {e0 e1 e2 e3 e4 e5 e7 x10 x11 : Option PV} (hg : Gr g) (hN : g.length ≤ 20) (hj : j < g.length) (r : RI g j X st) :
    ∃ X' st' y10 y11, evSs (evCall TURNS D (k + 1)) TURNS b0_3 [e0, e1, e2, e3, e4, e5, some (.tup g), e7, some (.fl (locs X)), some (.int (j : Nat)), x10, x11] st
      = .nx [e0, e1, e2, e3, e4, e5, some (.tup g), e7, some (.fl (locs X')), some (.int (j : Nat)), y10, y11] st' ∧ RI g (j + 1) X' st' := by
  obtain ⟨ro, xl⟩ := r.row
  have sz := sizeLine_eq
  have z1 : 1 ≤ sizeLine := by omega
  obtain ⟨st1, a1, a2⟩ := alike (k := k) (env := [e0, e1, e2, e3, e4, e5, some (.tup g), e7, some (.fl (locs X)), some (.int (j : Nat)), x10, none]) hg hN hj r.ok (fun x hx => (ro x hx).1) (by omega) rfl rfl rfl
  have ok1 := r.ok.ext a2
  have s10 : evS (evCall TURNS D (k + 1)) TURNS (.set 10 (.lc e0_2 (.nm 11) (.var 8) true c0_1) true) [e0, e1, e2, e3, e4, e5, some (.tup g), e7, some (.fl (locs X)), some (.int (j : Nat)), x10, x11] st = .nx [e0, e1, e2, e3, e4, e5, some (.tup g), e7, some (.fl (locs X)), some (.int (j : Nat)), some (.fl (locs (X.filter fun x => PB g (x.2.2.headD 0) j))), x11] st1 := by
    simp only [evS, ev]
    simp [srcV, MG.slots, U.wipe, -List.headD_eq_head?_getD]
    rw [show (Src.items (locs X)).many = (locs X).length from rfl, a1]
    simp only [bind_ok_, to_ok_]
  cases q : X.find? fun x => PB g (x.2.2.headD 0) j with
  | some x =>
    obtain ⟨hx, as, bs, e, ha⟩ := List.find?_eq_some_iff_append.mp q
    obtain ⟨n2, p, l⟩ := x
    subst e
    have ef : (as ++ (n2, p, l) :: bs).filter (fun x => PB g (x.2.2.headD 0) j) = (n2, p, l) :: bs.filter (fun x => PB g (x.2.2.headD 0) j) := by
      rw [List.filter_append, List.filter_cons, if_pos hx, List.filter_eq_nil_iff.mpr (fun a h => by have := ha a h; simpa using this), List.nil_append]
    rw [ef] at s10
    have ko := ok1.at_ (n2, p, l) (by simp)
    have ll := (ro (n2, p, l) (by simp)).2
    have ap : mtV .append (.loc p) [.int (j : Nat)] st1 = .ok .non (setAt st1 p (nats l ++ [.int (j : Nat)])) := by
      unfold mtV
      simp only [ko.1]
      rw [if_pos ⟨by rw [sz, nats_len]; simp only at ll; omega, rfl⟩]
    refine ⟨as ++ (n2, p, l ++ [j]) :: bs, setAt st1 p (nats l ++ [.int (j : Nat)]), some (.fl (locs ((n2, p, l) :: bs.filter fun x => PB g (x.2.2.headD 0) j))), some (.loc p), ?_, ok1.put, ?_⟩
    · refine seq_nx s10 ?_
      have el : locs (as ++ (n2, p, l ++ [j]) :: bs) = locs (as ++ (n2, p, l) :: bs) := by simp [locs]
      rw [el]
      generalize locs (as ++ (n2, p, l) :: bs) = L
      have i0 : ∀ st, ixV (.fl (locs ((n2, p, l) :: bs.filter fun x => PB g (x.2.2.headD 0) j))) (.int 0) st = some (.loc p) := fun st => by
        show L2.atI (locs _) 0 = _
        exact atI_nn (by decide) rfl
      have tr : ∀ st, truth (.fl (locs ((n2, p, l) :: bs.filter fun x => PB g (x.2.2.headD 0) j))) st = some true := fun st => by simp [truth, seqOf, locs]
      generalize locs ((n2, p, l) :: bs.filter fun x => PB g (x.2.2.headD 0) j) = M at i0 tr
      simp [evSs, evS, ev, evA, evCs, i0, tr, ap, recv_loc ko.1, esc, done]
    · rw [rowsR_succ, ← r.rows]
      simp only [List.map_append, List.map_cons]
      refine (addR_at (fun a ha2 => ?_) hx).symm
      obtain ⟨y, hy, rfl⟩ := List.mem_map.mp ha2
      have := ha y hy
      simpa using this
  | none =>
    have no := List.find?_eq_none.mp q
    have ef : X.filter (fun x => PB g (x.2.2.headD 0) j) = [] := List.filter_eq_nil_iff.mpr no
    rw [ef] at s10
    refine ⟨X ++ [(0, st1.length, [j])], st1 ++ [.lst [.int (j : Nat)]], some (.fl (locs [])), x11, ?_, ok1.new rfl (Nat.zero_le _), ?_⟩
    · refine seq_nx s10 ?_
      have el : locs (X ++ [(0, st1.length, [j])]) = locs X ++ [.loc st1.length] := by simp [locs]
      rw [el]
      have ln : (locs X).length < sizeLine := by
        unfold locs
        rw [List.length_map]; omega
      have tr : ∀ st, truth (.fl (locs [])) st = some false := fun st => by simp [truth, seqOf, locs]
      generalize locs X = L at ln
      generalize locs [] = M at tr
      simp [evSs, evS, ev, evA, evCs, tr, esc, ln, z1, done]
    · rw [rowsR_succ, ← r.rows, List.map_append]
      refine (addR_new (fun a ha2 => ?_)).symm
      obtain ⟨y, hy, rfl⟩ := List.mem_map.mp ha2
      have := no y hy
      simpa using this
end K31

set_option maxHeartbeats 4000000
namespace K31
open PySem L2 U
variable {call : Nat → List PV → Store → Res PV}
theorem seq_rt {s : MS} {ss : MSs} {env : En} {st st1 : Store} {v : PV} (h1 : evS call TURNS s env st = .rt v st1) : evSs call TURNS (.cons s ss) env st = .rt v st1 := by
  show (evS call TURNS s env st).then _ = _
  rw [h1]; rfl
theorem ite_t {c : ME} {a b : MSs} {env : En} {st st1 : Store} {r : SR} (h : ev call c .test env st = .ok (.bl true) st1) (h2 : evSs call TURNS a env st1 = r) : evS call TURNS (.ite c a b) env st = r := by
  show (ev call c .test env st).to _ = _
  rw [h, to_ok_]
  exact h2
theorem ite_f {c : ME} {a b : MSs} {env : En} {st st1 : Store} {r : SR} (h : ev call c .test env st = .ok (.bl false) st1) (h2 : evSs call TURNS b env st1 = r) : evS call TURNS (.ite c a b) env st = r := by
  show (ev call c .test env st).to _ = _
  rw [h, to_ok_]
  exact h2
/-! ### the rows of the law -/
theorem loop0 {k : Nat} {g : List PV} {e0 e1 e2 e3 e4 e5 e7 : Option PV} (hg : Gr g) (hN : g.length ≤ 20) : ∀ (r j : Nat) (X : List Row) (st : Store) (x9 x10 x11 : Option PV), j + r = g.length → RI g j X st →
    ∃ X' st' y9 y10 y11, forLoop (MG.put (.nm 9)) (evSs (evCall TURNS D (k + 1)) TURNS b0_3) (.items (nats (List.range g.length))) j r [e0, e1, e2, e3, e4, e5, some (.tup g), e7, some (.fl (locs X)), x9, x10, x11] st
      = .nx [e0, e1, e2, e3, e4, e5, some (.tup g), e7, some (.fl (locs X')), y9, y10, y11] st' ∧ RI g g.length X' st'
  | 0, j, X, st, x9, x10, x11, e, r => by
    have e : j = g.length := by omega
    subst e
    exact ⟨X, st, x9, x10, x11, rfl, r⟩
  | n + 1, j, X, st, x9, x10, x11, e, r => by
    have hj : j < g.length := by omega
    obtain ⟨X', st', y10, y11, q1, q2⟩ := turn0 (k := k) (e0 := e0) (e1 := e1) (e2 := e2) (e3 := e3) (e4 := e4) (e5 := e5) (e7 := e7) (x10 := x10) (x11 := x11) hg hN hj r
    obtain ⟨X2, st2, z9, z10, z11, w1, w2⟩ := loop0 (k := k) (e0 := e0) (e1 := e1) (e2 := e2) (e3 := e3) (e4 := e4) (e5 := e5) (e7 := e7) hg hN n (j + 1) X' st' (some (.int (j : Nat))) y10 y11 (by omega) q2
    refine ⟨X2, st2, z9, z10, z11, ?_, w2⟩
    have gt : (Src.items (nats (List.range g.length))).get j st = some (.int (j : Nat)) := by
      show (nats (List.range g.length))[j]? = _
      unfold nats
      rw [List.getElem?_map, List.getElem?_range hj]; rfl
    rw [for_step, gt]
    simp only [MG.put, List.set_cons_succ, List.set_cons_zero]
    rw [q1]
    exact w1
theorem lc00 {X : List Row} {b : Nat} {st : Store} {env : En} (h : XOk X b st) (hl : X.length ≤ 1000) (he : env.length = 12) :
    lcLoop (fun _ s => Res.ok true s) (ev call e0_0 .val) (MG.put (.nm 11)) env (.items (locs X)) 0 (locs X).length [] st = .ok (.fl (rowsV (X.map (·.2.2)))) st := by
  obtain ⟨acc, st', h1, h2, h3⟩ := lcLoop_inv (test := fun _ s => Res.ok true s) (elt := ev call e0_0 .val) (put := MG.put (.nm 11)) (env := env) (xs := locs X) (fun j acc st' => st' = st ∧ acc = (rowsV (X.map (·.2.2))).take j) (fun j x acc st1 hx ⟨q1, q2⟩ => by
    subst q1; subst q2
    unfold locs at hx
    rw [List.getElem?_map] at hx
    obtain ⟨y, hy, rfl⟩ := Option.map_eq_some_iff.mp hx
    have hc := h.at_ y (List.mem_of_getElem? hy)
    refine ⟨_, true, st1, rfl, rfl, ?_⟩
    simp only [if_true]
    have jl : j < X.length := (List.getElem?_eq_some_iff.mp hy).1
    refine ⟨.tup (nats y.2.2), st1, ?_, ?_, by trivial, ?_⟩
    · have s4 : (env.set 11 (some (PV.loc y.2.1)))[11]? = some (some (.loc y.2.1)) := by
        rw [List.getElem?_set_self (by omega)]
      have bt : biV .tuple [.loc y.2.1] st1 = some (.tup (nats y.2.2)) := by
        show (rdOf (.loc y.2.1) st1).map _ = _
        rw [show rdOf (.loc y.2.1) st1 = seqOf (.loc y.2.1) st1 from rfl, seq_at_ hc.1]; rfl
      simp [e0_0, ev, evCs, s4, bt]
    · rw [List.length_take, sizeLine_eq]; omega
    · rw [List.take_add_one]
      congr 1
      unfold rowsV
      rw [List.getElem?_map, List.getElem?_map, hy]
      rfl) (locs X).length 0 [] st (by simp) ⟨rfl, by simp⟩
  rw [h1, h2, h3]
  rw [List.take_of_length_le (by simp [rowsV, locs])]
def B2 : MSs := match d0.body with
  | .cons _ (.cons _ (.cons _ (.cons _ (.cons _ b)))) => b
  | _ => .nil
theorem cmp_str (z : Str) (st : Store) : cmpV .eq (.str z) (.str z) st = some true := by
  simp
theorem ret_cmp {a b : ME} {env : En} {st st1 st2 : Store} {x y : PV} {t : Bool} (h1 : ev call a .use env st = .ok x st1) (h2 : ev call b .use env st1 = .ok y st2) (h3 : cmpV .eq x y st2 = some t) : evS call TURNS (.ret (.cmp .eq a b)) env st = .rt (.bl t) st2 := by
  show (((ev call a .use env st).bind _)).to _ = _
  rw [h1, bind_ok_, h2, bind_ok_, h3, opt_some_, bind_ok_, to_ok_]
theorem tail2 {k : Nat} {g : List PV} {st : Store} {e0 e1 e2 e3 e4 e5 e7 x8 x9 x10 x11 : Option PV} (hg : Gr g) (hN : g.length ≤ 20) :
    ∃ st', evSs (evCall TURNS D (k + 3)) TURNS B2 [e0, e1, e2, e3, e4, e5, some (.tup g), e7, x8, x9, x10, x11] st = .rt (.bl true) st' := by
  obtain ⟨X, st1, y9, y10, y11, l1, l2⟩ := loop0 (k := k + 2) (e0 := e0) (e1 := e1) (e2 := e2) (e3 := e3) (e4 := e4) (e5 := e5) (e7 := e7) hg hN g.length 0 [] st x9 x10 x11 (by omega) ⟨⟨fun x hx => absurd hx List.not_mem_nil, List.nodup_nil⟩, rfl⟩
  obtain ⟨ro, xl⟩ := l2.row
  obtain ⟨st2, c1, c2⟩ := cls_ok (k := k) (st := st1) hg (by omega) (P := PB g) (fun i j _ _ => PB_iff g i j)
  obtain ⟨z, hz⟩ := rows_text (r := rowsR (PB g) g.length) (st := st2) (fun l hl => by
    have h1 := rowsR_ok _ _ _ hl
    have h2 := rowsR_nodes _ _ _ hl
    exact ⟨by omega, fun x hx => by have := h1.2 x hx; omega⟩) (by have := rowsR_len (PB g) g.length; omega)
  have lc := lc00 (call := evCall TURNS D (k + 3)) (env := [e0, e1, e2, e3, e4, e5, some (.tup g), e7, some (.fl (locs X)), y9, y10, none]) (l2.ok.ext c2) (by omega) rfl
  rw [l2.rows] at lc
  have many : ∀ l : List Nat, (Src.items (nats l)).many = l.length := fun l => nats_len l
  refine ⟨st2, ?_⟩
  refine seq_nx (st1 := st) (set_own (x := .fl []) rfl) ?_
  refine seq_nx (for_rng (x := .int 0) (y := .int (g.length : Nat)) rfl (ev_len rfl (.inr rfl) (by simp)) (rngN (by omega)) (by rw [many, List.length_range]; exact l1)) ?_
  refine seq_rt ?_
  have v1 : ev (evCall TURNS D (k + 3)) (.bi .reprD (.cons (.fn 212 (.cons (.var 6) .nil)) .nil)) .use [e0, e1, e2, e3, e4, e5, some (.tup g), e7, some (.fl (locs X)), y9, y10, y11] st1 = .ok (.str z) st2 := by
    simp [ev, evCs, evA, c1, hz, done]
  have v2 : ev (evCall TURNS D (k + 3)) (.bi .reprD (.cons (.bi .tuple (.cons (.lc e0_0 (.nm 11) (.var 8) false (.con (.bl true))) .nil)) .nil)) .use [e0, e1, e2, e3, e4, e5, some (.tup g), e7, some (.fl (locs X)), y9, y10, y11] st2 = .ok (.str z) st2 := by
    simp only [ev, evCs]
    simp [srcV, MG.slots, U.wipe]
    rw [show (Src.items (locs X)).many = (locs X).length from rfl, lc]
    simp [hz, done]
  exact ret_cmp v1 v2 (cmp_str z st2)
end K31

set_option maxHeartbeats 4000000
namespace K31
open PySem L2 U
variable {ns : List Int} {R : Store} {st : Store}
def B1 : MSs := match d0.body with
  | .cons _ (.cons _ (.cons _ (.cons (.ite _ a _) _))) => a
  | _ => .nil
def B3 : MS := match d0.body with
  | .cons _ (.cons _ (.cons _ (.cons _ (.cons s _)))) => s
  | _ => .pass
theorem lcMap {call : Nat → List PV → Store → Res PV} {elt : ME} {env : En} {l : List Nat} (i : Nat) (f : Nat → PV) (hl : l.length ≤ 1000) (hf : ∀ n, (f n).isFl = false) (he : ∀ n : Nat, ev call elt .val (env.set i (some (.int (n : Nat)))) st = .ok (f n) st) :
    lcLoop (fun _ s => Res.ok true s) (ev call elt .val) (MG.put (.nm i)) env (.items (nats l)) 0 l.length [] st = .ok (.fl (l.map f)) st := by
  have h := lcLoop_pure (st := st) (test := fun _ s => Res.ok true s) (elt := ev call elt .val) (put := MG.put (.nm i)) (env := env) (xs := nats l) (fun _ => true) (fun v => match v with
    | .int j => f j.toNat
    | _ => .non) (by rw [nats_len, sizeLine_eq]; omega) (fun x hx => by
    obtain ⟨j, hj, rfl⟩ := List.mem_map.mp hx
    refine ⟨_, rfl, rfl, fun _ => ⟨?_, ?_⟩⟩
    · simp only [Int.toNat_natCast]
      exact he j
    · simp only [Int.toNat_natCast]
      exact hf j)
  rw [List.filter_eq_self.mpr (fun _ _ => rfl), nats_len] at h
  rw [h]
  congr 2
  unfold nats
  rw [List.map_map]
  apply List.map_congr_left
  intro a _
  simp
theorem many (l : List Nat) : (Src.items (nats l)).many = l.length := nats_len l
theorem tup_ok {call : Nat → List PV → Store → Res PV} {m : Md} {e : ME} {env : En} {st st1 : Store} {xs : List PV} (h : ev call e .use env st = .ok (.fl xs) st1) (hm : m ≠ .test) : ev call (.bi .tuple (.cons e .nil)) m env st = .ok (.tup xs) st1 := by
  cases m <;> first | exact absurd rfl hm | simp [ev, evCs, h, done]
/-- the answer is the one that was said -/
theorem end1 {k : Nat} {g : List PV} {due : List (List Nat)} {P : Nat → Nat → Bool} {e0 e1 e2 e3 e4 e5 e8 e9 e10 e11 : Option PV} (hg : Gr g) (hN : g.length ≤ 150) (hP : ∀ i j, i < g.length → j < g.length → (P i j = true ↔ Bis (AGof g) i j)) (hd : rowsR P g.length = due) :
    ∃ st', evS (evCall TURNS D (k + 3)) TURNS (.ret (.cmp .eq (.bi .reprD (.cons (.fn 212 (.cons (.var 6) .nil)) .nil)) (.bi .reprD (.cons (.var 7) .nil)))) [e0, e1, e2, e3, e4, e5, some (.tup g), some (.tup (rowsV due)), e8, e9, e10, e11] st = .rt (.bl true) st' := by
  subst hd
  obtain ⟨st2, c1, c2⟩ := cls_ok (k := k) (st := st) hg hN hP
  obtain ⟨z, hz⟩ := rows_text (r := rowsR P g.length) (st := st2) (fun l hl => by
    have h1 := rowsR_ok _ _ _ hl
    have h2 := rowsR_nodes _ _ _ hl
    exact ⟨by omega, fun x hx => by have := h1.2 x hx; omega⟩) (by have := rowsR_len P g.length; omega)
  refine ⟨st2, ret_cmp (x := .str z) (y := .str z) (st1 := st2) ?_ ?_ (cmp_str z st2)⟩
  · simp [ev, evCs, evA, c1, hz, done]
  · simp [ev, evCs, hz, done]
theorem ev_tup2 {call : Nat → List PV → Store → Res PV} {a b : ME} {env : En} {st : Store} {xs ys : List PV} (h1 : ev call a .val env st = .ok (.tup xs) st) (h2 : ev call b .val env st = .ok (.tup ys) st) : ev call (.tup (.cons a (.cons b .nil))) .val env st = .ok (.tup [.tup xs, .tup ys]) st := by
  have z2 : 2 ≤ sizeLine := by rw [sizeLine_eq]; omega
  show ((ev call a .val env st).bind _).bind _ = _
  rw [h1, bind_ok_]
  show (((ev call b .val env st).bind _).bind _).bind _ = _
  rw [h2, bind_ok_]
  show (if 2 ≤ sizeLine then done Md.val (PV.tup [.tup xs, .tup ys]) st else Res.bad) = _
  rw [if_pos z2]; rfl
theorem chain_take (nm o : Str) (m : Nat) : (chainG nm o m).take (m - 1) = (List.range (m - 1)).map fun (k : Nat) => .tup [.str "call", .str nm, .int ((k : Int) + 1), .int ((k : Int) + 1)] := by
  unfold chainG
  rw [List.take_append_of_le_length (by simp), ← List.map_take, List.take_range]
  congr 2
  omega
theorem first_ok {k : Nat} {a0 : Option PV} {n0 o0 : Str} {nr or : List Str} (hR : R = [.lst ((n0 :: nr).map .str), .lst ((o0 :: or).map .str)]) (t : T ns R st) (sn : SB n0) (so : SB o0) :
    ∃ st', evSs (evCall TURNS D (k + 3)) TURNS B1 [a0, some (.loc 1), some (.loc 2), some (.loc 3), none, none, none, none, none, none, none, none] st = .rt (.bl true) st' := by
  have c3 : ∀ st, T ns R st → st[2]? = some (.lst ((n0 :: nr).map .str)) := fun st t => by have := t.at 0; rw [hR] at this; exact this
  have c4 : ∀ st, T ns R st → st[3]? = some (.lst ((o0 :: or).map .str)) := fun st t => by have := t.at 1; rw [hR] at this; exact this
  have i3 : ∀ st, T ns R st → ixV (.loc 2) (.int 0) st = some (.str n0) := fun st t => by
    rw [ix_loc (c3 st t)]
    exact atI_nn (by decide) rfl
  have i4 : ∀ st, T ns R st → ixV (.loc 3) (.int 0) st = some (.str o0) := fun st t => by
    rw [ix_loc (c4 st t)]
    exact atI_nn (by decide) rfl
  have sz := sizeLine_eq
  have z1 : 1 ≤ sizeLine := by omega
  have z2 : 2 ≤ sizeLine := by omega
  have z4 : 4 ≤ sizeLine := by omega
  obtain ⟨r1, st1, h1, t1, l1, u1⟩ := drawT (k := k + 2) (m := 60) t (by decide)
  obtain ⟨r2, st2, h2, t2, l2, u2⟩ := drawT (k := k + 2) (m := 3) t1 (by decide)
  obtain ⟨m, hm, hm1, hm2⟩ : ∃ m : Nat, (if r2 = 0 then (119 : Int) else 1 + r1) = m ∧ 1 ≤ m ∧ m ≤ 119 := by
    by_cases z : r2 = 0
    · exact ⟨119, by simp [z], by omega, by omega⟩
    · exact ⟨(1 + r1).toNat, by rw [if_neg z]; omega, by omega, by omega⟩
  obtain ⟨r3, st3, h3, t3, l3, u3⟩ := drawT (k := k + 2) (m := if m = 119 then (m : Int) else (m : Int) + 1) t2 (by split <;> omega)
  refine (fun hh => ?_ : (∃ st', evSs (evCall TURNS D (k + 3)) TURNS (match B1 with
    | .cons _ (.cons _ b) => b
    | _ => .nil) [a0, some (.loc 1), some (.loc 2), some (.loc 3), some (.int (m : Nat)), none, none, none, none, none, none, none] st2 = .rt (.bl true) st') → _) ?_
  · obtain ⟨st', hh⟩ := hh
    refine ⟨st', ?_⟩
    refine seq_nx (st1 := st1) (env1 := [a0, some (.loc 1), some (.loc 2), some (.loc 3), some (.int (1 + r1)), none, none, none, none, none, none, none]) ?_ ?_
    · simp [evS, ev, evA, h1, esc]
    refine seq_nx (st1 := st2) (env1 := [a0, some (.loc 1), some (.loc 2), some (.loc 3), some (.int (m : Nat)), none, none, none, none, none, none, none]) ?_ hh
    by_cases z : r2 = 0
    · rw [if_pos z] at hm
      simp [evS, evSs, ev, evA, h2, esc, z, hm]
    · rw [if_neg z] at hm
      simp [evS, evSs, ev, evA, h2, esc, z, hm]
  · have s5 : evS (evCall TURNS D (k + 3)) TURNS (.set 5 (.fn 5 (.cons (.var 1) (.cons (.ix (.lst (.cons (.bin .add (.var 4) (.con (.int 1))) (.cons (.var 4) .nil))) (.bi .int (.cons (.cmp .eq (.var 4) (.con (.int 119))) .nil))) .nil))) false) [a0, some (.loc 1), some (.loc 2), some (.loc 3), some (.int (m : Nat)), none, none, none, none, none, none, none] st2 = .nx [a0, some (.loc 1), some (.loc 2), some (.loc 3), some (.int (m : Nat)), some (.int r3), none, none, none, none, none, none] st3 := by
      by_cases z : m = 119
      · subst z
        simp at h3
        simp [evS, ev, evA, evCs, z2, h3, esc]
      · rw [if_neg z] at h3
        have z' : ¬ ((m : Int) = 119) := by omega
        simp [evS, ev, evA, evCs, z2, z', h3, esc]
    have lA := lcMap (st := st3) (call := evCall TURNS D (k + 3)) (elt := e0_6) (env := [a0, some (.loc 1), some (.loc 2), some (.loc 3), some (.int (m : Nat)), some (.int r3), none, none, none, none, none, none]) (l := List.range m) 9 (fun k => .tup [.str "call", .str n0, .int ((k : Int) + 1), .int ((k : Int) + 1)]) (by simp; omega) (fun n => rfl) (fun n => by
      simp [e0_6, ev, evA, i3 st3 t3, z4, esc])
    rw [List.length_range] at lA
    have rA : rngV (.int 0) (.int (m : Nat)) st3 = _ := rngN (by omega)
    have rB : rngV (.int 0) (.int ((m + 1 : Nat) : Int)) st3 = _ := rngN (by omega)
    have s6 : evS (evCall TURNS D (k + 3)) TURNS (.set 6 (.bin .add (.bi .tuple (.cons (.lc e0_6 (.nm 9) (.rng (.con (.int 0)) (.var 4)) false (.con (.bl true))) .nil)) (.tup (.cons (.tup (.cons (.con (.str "outcome")) (.cons (.ix (.var 3) (.con (.int 0))) .nil))) .nil))) false) [a0, some (.loc 1), some (.loc 2), some (.loc 3), some (.int (m : Nat)), some (.int r3), none, none, none, none, none, none] st3 = .nx [a0, some (.loc 1), some (.loc 2), some (.loc 3), some (.int (m : Nat)), some (.int r3), some (.tup (chainG n0 o0 m)), none, none, none, none, none] st3 := by
      refine set_esc (x := .tup (chainG n0 o0 m)) (ev_bin (x := .tup ((List.range m).map fun (k : Nat) => .tup [.str "call", .str n0, .int ((k : Int) + 1), .int ((k : Int) + 1)])) (y := .tup [.tup [.str "outcome", .str o0]]) (st1 := st3) (tup_ok (ev_lc (x := .int 0) (y := .int (m : Nat)) rfl rfl rA (by rw [many, List.length_range]; exact lA) rfl) (by simp)) ?_ ?_ rfl)
      · simp [ev, evA, i4 st3 t3, z1, z2, esc, done]
      · exact if_pos (by simp; omega)
    have lB := lcMap (st := st3) (call := evCall TURNS D (k + 3)) (elt := e0_5) (env := [a0, some (.loc 1), some (.loc 2), some (.loc 3), some (.int (m : Nat)), some (.int r3), some (.tup (chainG n0 o0 m)), none, none, none, none, none]) (l := List.range (m + 1)) 9 (fun k => .tup (nats [k])) (by simp; omega) (fun n => rfl) (fun n => by
      simp [e0_5, ev, evA, z1, esc, nats])
    rw [List.length_range] at lB
    have s7 : evS (evCall TURNS D (k + 3)) TURNS (.set 7 (.bi .tuple (.cons (.lc e0_5 (.nm 9) (.rng (.con (.int 0)) (.bin .add (.var 4) (.con (.int 1)))) false (.con (.bl true))) .nil)) true) [a0, some (.loc 1), some (.loc 2), some (.loc 3), some (.int (m : Nat)), some (.int r3), some (.tup (chainG n0 o0 m)), none, none, none, none, none] st3 = .nx [a0, some (.loc 1), some (.loc 2), some (.loc 3), some (.int (m : Nat)), some (.int r3), some (.tup (chainG n0 o0 m)), some (.tup (rowsV ((List.range (m + 1)).map fun k => [k]))), none, none, none, none] st3 := by
      refine set_own (x := .tup (rowsV ((List.range (m + 1)).map fun k => [k]))) (tup_ok (ev_lc (x := .int 0) (y := .int ((m + 1 : Nat) : Int)) rfl (ev_bin (x := .int (m : Nat)) (y := .int 1) rfl rfl rfl rfl) rB (by
        rw [many, List.length_range]
        refine lB.trans ?_
        simp [rowsV]) rfl) (by simp))
    by_cases q : r3 < m
    · obtain ⟨b, rfl⟩ : ∃ b : Nat, r3 = b := ⟨r3.toNat, by omega⟩
      have hb : b < m := by omega
      have s8 : evS (evCall TURNS D (k + 3)) TURNS (.set 6 (.bin .add (.sl (.var 6) (.con .non) (.bin .sub (.var 4) (.con (.int 1)))) (.tup (.cons (.tup (.cons (.con (.str "call")) (.cons (.ix (.var 2) (.con (.int 0))) (.cons (.var 5) (.cons (.var 5) .nil))))) (.cons (.tup (.cons (.con (.str "outcome")) (.cons (.ix (.var 3) (.con (.int 0))) .nil))) .nil)))) false) [a0, some (.loc 1), some (.loc 2), some (.loc 3), some (.int (m : Nat)), some (.int (b : Nat)), some (.tup (chainG n0 o0 m)), some (.tup (rowsV ((List.range (m + 1)).map fun k => [k]))), none, none, none, none] st3 = .nx [a0, some (.loc 1), some (.loc 2), some (.loc 3), some (.int (m : Nat)), some (.int (b : Nat)), some (.tup (ringG n0 o0 m b)), some (.tup (rowsV ((List.range (m + 1)).map fun k => [k]))), none, none, none, none] st3 := by
        have hs : slV (.tup (chainG n0 o0 m)) none (some ((m : Int) - 1)) st3 = some (.tup ((List.range (m - 1)).map fun (k : Nat) => .tup [.str "call", .str n0, .int ((k : Int) + 1), .int ((k : Int) + 1)])) := by
          show some (PV.tup (cutL (chainG n0 o0 m) none (some ((m : Int) - 1)))) = _
          rw [show ((m : Int) - 1) = ((m - 1 : Nat) : Int) by omega, cut_to _ _ (by simp [chainG]; omega), chain_take]
        refine set_esc (x := .tup (ringG n0 o0 m b)) (ev_bin (x := .tup ((List.range (m - 1)).map fun (k : Nat) => .tup [.str "call", .str n0, .int ((k : Int) + 1), .int ((k : Int) + 1)])) (y := .tup [.tup [.str "call", .str n0, .int (b : Nat), .int (b : Nat)], .tup [.str "outcome", .str o0]]) (st1 := st3) ?_ ?_ ?_ rfl)
        · generalize chainG n0 o0 m = C at hs
          simp [ev, U.bound, ME.absent, hs, done]
        · simp [ev, evA, i3 st3 t3, i4 st3 t3, z2, z4, esc, done]
        · exact if_pos (by simp; omega)
      have lC := lcId (st := st3) (call := evCall TURNS D (k + 3)) (elt := e0_4) (env := [a0, some (.loc 1), some (.loc 2), some (.loc 3), some (.int (m : Nat)), some (.int (b : Nat)), some (.tup (ringG n0 o0 m b)), some (.tup (rowsV ((List.range (m + 1)).map fun k => [k]))), none, none, none, none]) (l := List.range m) 9 (by simp; omega) (fun n => by simp [e0_4, ev])
      rw [List.length_range] at lC
      have s9 : evS (evCall TURNS D (k + 3)) TURNS (.set 7 (.tup (.cons (.bi .tuple (.cons (.lc e0_4 (.nm 9) (.rng (.con (.int 0)) (.var 4)) false (.con (.bl true))) .nil)) (.cons (.tup (.cons (.var 4) .nil)) .nil))) true) [a0, some (.loc 1), some (.loc 2), some (.loc 3), some (.int (m : Nat)), some (.int (b : Nat)), some (.tup (ringG n0 o0 m b)), some (.tup (rowsV ((List.range (m + 1)).map fun k => [k]))), none, none, none, none] st3 = .nx [a0, some (.loc 1), some (.loc 2), some (.loc 3), some (.int (m : Nat)), some (.int (b : Nat)), some (.tup (ringG n0 o0 m b)), some (.tup (rowsV [List.range m, [m]])), none, none, none, none] st3 := by
        refine set_own (x := .tup (rowsV [List.range m, [m]])) (ev_tup2 (xs := nats (List.range m)) (ys := nats [m]) (tup_ok (ev_lc (x := .int 0) (y := .int (m : Nat)) rfl rfl rA (by rw [many, List.length_range]; exact lC) rfl) (by simp)) ?_)
        simp [ev, evA, z1, esc, nats]
      obtain ⟨st', e1⟩ := end1 (k := k) (st := st3) (e0 := a0) (e1 := some (.loc 1)) (e2 := some (.loc 2)) (e3 := some (.loc 3)) (e4 := some (.int (m : Nat))) (e5 := some (.int (b : Nat))) (e8 := none) (e9 := none) (e10 := none) (e11 := none) (ring_gr (m := m) sn so (by omega) hb) (by simp [ringG]; omega) (ring_P hb) (due := [List.range m, [m]]) (by
        rw [show (ringG n0 o0 m b).length = m + 1 by simp [ringG]; omega]
        exact rows_ring1 m hm1)
      refine ⟨st', seq_nx s5 (seq_nx s6 (seq_nx s7 (seq_nx (ite_t ?_ (seq_nx s8 (seq_nx s9 rfl))) (seq_rt e1))))⟩
      simp [ev, hb]
    · obtain ⟨st', e1⟩ := end1 (k := k) (st := st3) (e0 := a0) (e1 := some (.loc 1)) (e2 := some (.loc 2)) (e3 := some (.loc 3)) (e4 := some (.int (m : Nat))) (e5 := some (.int r3)) (e8 := none) (e9 := none) (e10 := none) (e11 := none) (chain_gr (m := m) sn so (by omega)) (by simp [chainG]; omega) chain_P (due := (List.range (m + 1)).map fun k => [k]) (by
        rw [show (chainG n0 o0 m).length = m + 1 by simp [chainG]]
        exact rows_id _)
      refine ⟨st', seq_nx s5 (seq_nx s6 (seq_nx s7 (seq_nx (ite_f ?_ rfl) (seq_rt e1))))⟩
      simp [ev, q]
theorem third_ok {k : Nat} {a0 : Option PV} {nm oc : List Str} (hR : R = [.lst (nm.map .str), .lst (oc.map .str)]) (t : T ns R st) (hn : 1 ≤ nm.length ∧ nm.length ≤ 10) (ho : 1 ≤ oc.length ∧ oc.length ≤ 10) (sn : ∀ x ∈ nm, SB x) (so : ∀ x ∈ oc, SB x) :
    ∃ g st', evS (evCall TURNS D (k + 3)) TURNS B3 [a0, some (.loc 1), some (.loc 2), some (.loc 3), none, none, none, none, none, none, none, none] st = .nx [a0, some (.loc 1), some (.loc 2), some (.loc 3), none, none, some (.tup g), none, none, none, none, none] st' ∧ Gr g ∧ g.length ≤ 20 := by
  have low : R.all (Cell.low (R.length + 2)) = true := by
    rw [hR]
    show (PV.lowL _ (nm.map .str) && (PV.lowL _ (oc.map .str) && true)) = true
    rw [lowL_strs, lowL_strs]; rfl
  have dr : ∀ {m : Int} {st : Store}, T ns R st → 1 ≤ m ∧ m < 1000000 → ∃ r st', evCall TURNS D (k + 3) 5 [.loc 1, .int m] st = .ok (.int r) st' ∧ T ns R st' ∧ 0 ≤ r ∧ r < m := fun t h => drawT (k := k + 2) t h
  obtain ⟨r1, st1, h1, t1, l1, u1⟩ := dr (m := 2) t (by decide)
  by_cases z : r1 = 0
  · obtain ⟨r2, st2, h2, t2, l2, u2⟩ := dr (m := 8) t1 (by decide)
    obtain ⟨g, st3, g1, t3, g2, g3⟩ := nodes_ok (k := k + 1) (many := 1 + r2) (R' := []) hR t2 (by omega) hn ho sn so
    refine ⟨g, st3, ?_, g2, by omega⟩
    have g1 : evCall TURNS D (k + 3) 210 [.loc 1, .int (1 + r2), .loc 2, .loc 3] st2 = .ok (.tup g) st3 := g1
    clear dr
    generalize evCall TURNS D (k + 3) = C at *
    show evS C TURNS (.ite _ _ _) _ _ = _
    refine ite_t (st1 := st1) ?_ (seq_nx (st1 := st3) (set_esc (x := .tup g) ?_) rfl)
    · simp [ev, evA, h1, z]
    · simp [ev, evA, h2, g1, esc]
  · obtain ⟨r2, st2, h2, t2, l2, u2⟩ := dr (m := 5) t1 (by decide)
    obtain ⟨g, st3, g1, t3, g2, g3⟩ := nodes_ok (k := k + 1) (many := 1 + r2) (R' := []) hR t2 (by omega) hn ho sn so
    obtain ⟨r4, st4, h4, t4, l4, u4⟩ := dr (m := 9) t3 (by decide)
    obtain ⟨m, rfl⟩ : ∃ b : Nat, r4 = b := ⟨r4.toNat, by omega⟩
    obtain ⟨g', st5, b1, t5, b2, b3⟩ := blown_ok (k := k + 1) (m := m) low t4 g2 (by omega) (by omega)
    obtain ⟨r6, st6, h6, t6, l6, u6⟩ := dr (m := 2) t5 (by decide)
    have g1 : evCall TURNS D (k + 3) 210 [.loc 1, .int (1 + r2), .loc 2, .loc 3] st2 = .ok (.tup g) st3 := g1
    have b1 : evCall TURNS D (k + 3) 215 [.loc 1, .tup g, .int (m : Nat)] st4 = .ok (.tup g') st5 := b1
    have bn : ∃ g2 st7, evCall TURNS D (k + 3) 216 [.loc 1, .tup g', .loc 2, .loc 3] st6 = .ok (.tup g2) st7 ∧ Gr g2 ∧ g2.length = g'.length := by
      obtain ⟨g2, st7, c1, t7, c2, c3⟩ := bent_ok (k := k + 1) hR t6 b2 (by omega) hn ho sn so
      exact ⟨g2, st7, c1, c2, c3⟩
    clear dr
    generalize evCall TURNS D (k + 3) = C at *
    have a1 : evS C TURNS (.set 6 (.fn 210 (.cons (.var 1) (.cons (.bin .add (.con (.int 1)) (.fn 5 (.cons (.var 1) (.cons (.con (.int 5)) .nil)))) (.cons (.var 2) (.cons (.var 3) .nil))))) false) [a0, some (.loc 1), some (.loc 2), some (.loc 3), none, none, none, none, none, none, none, none] st1 = .nx [a0, some (.loc 1), some (.loc 2), some (.loc 3), none, none, some (.tup g), none, none, none, none, none] st3 := by
      refine set_esc (x := .tup g) ?_
      simp [ev, evA, h2, g1, esc]
    have a2 : evS C TURNS (.set 6 (.fn 215 (.cons (.var 1) (.cons (.var 6) (.cons (.fn 5 (.cons (.var 1) (.cons (.con (.int 9)) .nil))) .nil)))) false) [a0, some (.loc 1), some (.loc 2), some (.loc 3), none, none, some (.tup g), none, none, none, none, none] st3 = .nx [a0, some (.loc 1), some (.loc 2), some (.loc 3), none, none, some (.tup g'), none, none, none, none, none] st5 := by
      refine set_esc (x := .tup g') ?_
      simp (config := {implicitDefEqProofs := false}) [ev, evA, h4, b1, esc]
    by_cases q : r6 = 0
    · obtain ⟨g2, st7, c1, c2, c3⟩ := bn
      refine ⟨g2, st7, ?_, c2, by omega⟩
      show evS C TURNS (.ite _ _ _) _ _ = _
      refine ite_f (st1 := st1) ?_ (seq_nx a1 (seq_nx a2 (seq_nx (st1 := st7) (ite_t (st1 := st6) ?_ (seq_nx (st1 := st7) (set_esc (x := .tup g2) ?_) rfl)) rfl)))
      · simp [ev, evA, h1, z]
      · simp [ev, evA, h6, q]
      · simp [ev, evA, c1, esc]
    · refine ⟨g', st6, ?_, b2, by omega⟩
      show evS C TURNS (.ite _ _ _) _ _ = _
      refine ite_f (st1 := st1) ?_ (seq_nx a1 (seq_nx a2 (seq_nx (st1 := st6) (ite_f (st1 := st6) ?_ rfl) rfl)))
      · simp [ev, evA, h1, z]
      · simp [ev, evA, h6, q]
theorem main (ns : List Int) (hl : ns.length ≤ 63) : ∃ st', evCall TURNS D (DEEP + 1) 0 [.rol (ns.map .int)] [] = .ok (.bl true) st' := by
  obtain ⟨z, z0, h1⟩ := tape_ok (k := 59) (ns := ns)
  have t1 : T ns [] [.lst (ns.map .int), .lst (tp 0 0 0 z)] := ⟨0, 0, z, by decide, by decide, z0, rfl⟩
  obtain ⟨r2, st2, h2, t2, l2, u2⟩ := drawT (k := 59) (m := 2) t1 (by decide)
  obtain ⟨nm, st3, h3, nl, nx, t3⟩ := names_ok (k := 58) (mn := 1 + r2) (by omega) (by omega) t2
  have t4 : T ns [.lst (nm.map .str)] (st3 ++ [.lst (nm.map .str)]) := t3.push _
  have low4 : List.all [Cell.lst (nm.map PV.str)] (Cell.low 3) = true := by
    show (PV.lowL _ (nm.map .str) && true) = true
    rw [lowL_strs]; rfl
  obtain ⟨oc, st5, h5, t5, o1, o2, ox⟩ := outs_ok (k := 57) low4 t4
  have t6 : T ns [.lst (nm.map .str), .lst (oc.map .str)] (st5 ++ [.lst (oc.map .str)]) := t5.push _
  have sn : ∀ x ∈ nm, SB x := fun x hx => (nx x hx).1.sb (by omega)
  have e2 : esc (.fl (nm.map .str)) st3 = (.loc 2, st3 ++ [.lst (nm.map .str)]) := by
    show (PV.loc st3.length, _) = _
    rw [t3.len]; rfl
  have e3 : esc (.fl (oc.map .str)) st5 = (.loc 3, st5 ++ [.lst (oc.map .str)]) := by
    show (PV.loc st5.length, _) = _
    rw [t5.len]; rfl
  obtain ⟨r7, st7, h7, t7, l7, u7⟩ := drawT (k := 59) (m := 8) t6 (by decide)
  have s1 : evS (evCall TURNS D 60) TURNS (.set 1 (.fn 4 (.cons (.var 0) .nil)) false) [some (.rol (ns.map .int)), none, none, none, none, none, none, none, none, none, none, none] [] = .nx [some (.rol (ns.map .int)), some (.loc 1), none, none, none, none, none, none, none, none, none, none] [.lst (ns.map .int), .lst (tp 0 0 0 z)] := by
    refine (set_esc (x := .fl (tp 0 0 0 z)) (st1 := [.lst (ns.map .int)]) ?_).trans rfl
    simp [ev, evA, h1, esc]
  have s2 : evS (evCall TURNS D 60) TURNS (.set 2 (.fn 6 (.cons (.var 1) (.cons (.bin .add (.con (.int 1)) (.fn 5 (.cons (.var 1) (.cons (.con (.int 2)) .nil)))) .nil))) false) [some (.rol (ns.map .int)), some (.loc 1), none, none, none, none, none, none, none, none, none, none] [.lst (ns.map .int), .lst (tp 0 0 0 z)] = .nx [some (.rol (ns.map .int)), some (.loc 1), some (.loc 2), none, none, none, none, none, none, none, none, none] (st3 ++ [.lst (nm.map .str)]) := by
    refine (set_esc (x := .fl (nm.map .str)) (st1 := st3) ?_).trans ?_
    · simp [ev, evA, h2, h3, esc]
    · rw [e2]; rfl
  have s3 : evS (evCall TURNS D 60) TURNS (.set 3 (.fn 209 (.cons (.var 1) .nil)) false) [some (.rol (ns.map .int)), some (.loc 1), some (.loc 2), none, none, none, none, none, none, none, none, none] (st3 ++ [.lst (nm.map .str)]) = .nx [some (.rol (ns.map .int)), some (.loc 1), some (.loc 2), some (.loc 3), none, none, none, none, none, none, none, none] (st5 ++ [.lst (oc.map .str)]) := by
    refine (set_esc (x := .fl (oc.map .str)) (st1 := st5) ?_).trans ?_
    · simp [ev, evA, h5, esc]
    · rw [e3]; rfl
  have fin : ∃ st', evSs (evCall TURNS D 60) TURNS d0.body [some (.rol (ns.map .int)), none, none, none, none, none, none, none, none, none, none, none] [] = .rt (.bl true) st' := by
    have c : ev (evCall TURNS D 60) (.cmp .eq (.fn 5 (.cons (.var 1) (.cons (.con (.int 8)) .nil))) (.con (.int 0))) .test [some (.rol (ns.map .int)), some (.loc 1), some (.loc 2), some (.loc 3), none, none, none, none, none, none, none, none] (st5 ++ [.lst (oc.map .str)]) = .ok (.bl (decide (r7 = 0))) st7 := by
      simp [ev, evA, h7, esc]
    by_cases q : r7 = 0
    · rw [decide_eq_true q] at c
      obtain ⟨n0, nr, rfl⟩ : ∃ n0 nr, nm = n0 :: nr := by
        cases nm with
        | nil => simp at nl; omega
        | cons a b => exact ⟨a, b, rfl⟩
      obtain ⟨o0, or, rfl⟩ : ∃ n0 nr, oc = n0 :: nr := by
        cases oc with
        | nil => simp at o1
        | cons a b => exact ⟨a, b, rfl⟩
      obtain ⟨st', f⟩ := first_ok (k := 57) (a0 := some (.rol (ns.map .int))) rfl t7 (sn n0 List.mem_cons_self) (ox o0 List.mem_cons_self)
      exact ⟨st', seq_nx s1 (seq_nx s2 (seq_nx s3 (seq_rt (ite_t c f))))⟩
    · rw [decide_eq_false q] at c
      obtain ⟨g, st8, f1, f2, f3⟩ := third_ok (k := 57) (a0 := some (.rol (ns.map .int))) rfl t7 (by omega) (by omega) sn ox
      obtain ⟨st', f4⟩ := tail2 (k := 57) (st := st8) (e0 := some (.rol (ns.map .int))) (e1 := some (.loc 1)) (e2 := some (.loc 2)) (e3 := some (.loc 3)) (e4 := none) (e5 := none) (e7 := none) (x8 := none) (x9 := none) (x10 := none) (x11 := none) f2 f3
      exact ⟨st', seq_nx s1 (seq_nx s2 (seq_nx s3 (seq_nx (ite_f c rfl) (seq_nx f1 f4))))⟩
  obtain ⟨st', f⟩ := fin
  obtain ⟨s2, y1, _⟩ := leave_ext (st := []) (.bl true) (show Ext [] st' from ⟨st', rfl⟩)
  exact ⟨s2, call_rt rfl rfl ⟨rfl, rfl⟩ f y1⟩
end K31

set_option maxHeartbeats 8000000
namespace K31
open PySem PySem.Spec PyProof.Rows L2 U

section
variable {w : World} {K : PySem.W.Frag} {h : Heap} {mg : Str → Option Value} {fa : Addr}
/-- the law's call at the top, its guards known -/
theorem all_mk {sh : Shared} {H : Hp} {a : Addr} {ns : List Int} {base : Heap} (X : K.In sh.heap) (G : sh.heap.Ns mainGlobals mg) (hfa : mg "law" = some (.ref fa)) (nl : sh.heap.NoLimit) (Ev : Env0 PySem.Challenge.rw_flowform_k31_classes_of_nodes.prog w K mg base callerA [] sh H) (hl : ∃ st', evCall TURNS D (DEEP + 1) 0 [.rol (ns.map .int)] [] = .ok (.bl true) st') (ho : Only H) (hs : SqL K H a (ns.map V.int))
    {f212 : Addr} {oc212 kV212 dc212 pm212 cd212 ct212 : Value} {od212 an212 : Option Addr} {sl212 : Array (Option Value)}
    {f213 : Addr} {oc213 kV213 dc213 pm213 cd213 ct213 : Value} {od213 an213 : Option Addr} {sl213 : Array (Option Value)}
    {f214 : Addr} {oc214 kV214 dc214 pm214 cd214 ct214 : Value} {od214 an214 : Option Addr} {sl214 : Array (Option Value)}
    {f4 : Addr} {oc4 kV4 dc4 pm4 cd4 ct4 : Value} {od4 an4 : Option Addr} {sl4 : Array (Option Value)}
    {f5 : Addr} {oc5 kV5 dc5 pm5 cd5 ct5 : Value} {od5 an5 : Option Addr} {sl5 : Array (Option Value)}
    {f6 : Addr} {oc6 kV6 dc6 pm6 cd6 ct6 : Value} {od6 an6 : Option Addr} {sl6 : Array (Option Value)}
    {f209 : Addr} {oc209 kV209 dc209 pm209 cd209 ct209 : Value} {od209 an209 : Option Addr} {sl209 : Array (Option Value)}
    {f210 : Addr} {oc210 kV210 dc210 pm210 cd210 ct210 : Value} {od210 an210 : Option Addr} {sl210 : Array (Option Value)}
    {f215 : Addr} {oc215 kV215 dc215 pm215 cd215 ct215 : Value} {od215 an215 : Option Addr} {sl215 : Array (Option Value)}
    {f216 : Addr} {oc216 kV216 dc216 pm216 cd216 ct216 : Value} {od216 an216 : Option Addr} {sl216 : Array (Option Value)}
    {f217 : Addr} {oc217 kV217 dc217 pm217 cd217 ct217 : Value} {od217 an217 : Option Addr} {sl217 : Array (Option Value)}
    {f0 : Addr} {oc0 kV0 dc0 pm0 cd0 ct0 : Value} {od0 an0 : Option Addr} {sl0 : Array (Option Value)}
    (a212 : PySem.W.nsIn K mainGlobals "classes" = some (some (.ref f212))) (l212 : K.lookup f212 = some ⟨oc212, od212, .func (PySem.W.fnOf "classes" "classes" (defArgs s212) (defBody s212) (defScope s212) .none kV212 dc212 pm212 an212 cd212 ct212), sl212⟩) (c212 : PySem.W.codeIn K cd212 "classes" = true) (k212 : PySem.W.keepIn K (.ref f212) = true)
    (a213 : PySem.W.nsIn K mainGlobals "_class_numbers" = some (some (.ref f213))) (l213 : K.lookup f213 = some ⟨oc213, od213, .func (PySem.W.fnOf "_class_numbers" "_class_numbers" (defArgs s213) (defBody s213) (defScope s213) .none kV213 dc213 pm213 an213 cd213 ct213), sl213⟩) (c213 : PySem.W.codeIn K cd213 "_class_numbers" = true) (k213 : PySem.W.keepIn K (.ref f213) = true)
    (a214 : PySem.W.nsIn K mainGlobals "_numbers_of_keys" = some (some (.ref f214))) (l214 : K.lookup f214 = some ⟨oc214, od214, .func (PySem.W.fnOf "_numbers_of_keys" "_numbers_of_keys" (defArgs s214) (defBody s214) (defScope s214) .none kV214 dc214 pm214 an214 cd214 ct214), sl214⟩) (c214 : PySem.W.codeIn K cd214 "_numbers_of_keys" = true) (k214 : PySem.W.keepIn K (.ref f214) = true)
    (a4 : PySem.W.nsIn K mainGlobals "_law_tape" = some (some (.ref f4))) (l4 : K.lookup f4 = some ⟨oc4, od4, .func (PySem.W.fnOf "_law_tape" "_law_tape" (defArgs s4) (defBody s4) (defScope s4) .none kV4 dc4 pm4 an4 cd4 ct4), sl4⟩) (c4 : PySem.W.codeIn K cd4 "_law_tape" = true) (k4 : PySem.W.keepIn K (.ref f4) = true)
    (a5 : PySem.W.nsIn K mainGlobals "_law_draw" = some (some (.ref f5))) (l5 : K.lookup f5 = some ⟨oc5, od5, .func (PySem.W.fnOf "_law_draw" "_law_draw" (defArgs s5) (defBody s5) (defScope s5) .none kV5 dc5 pm5 an5 cd5 ct5), sl5⟩) (c5 : PySem.W.codeIn K cd5 "_law_draw" = true) (k5 : PySem.W.keepIn K (.ref f5) = true)
    (a6 : PySem.W.nsIn K mainGlobals "_law_names" = some (some (.ref f6))) (l6 : K.lookup f6 = some ⟨oc6, od6, .func (PySem.W.fnOf "_law_names" "_law_names" (defArgs s6) (defBody s6) (defScope s6) .none kV6 dc6 pm6 an6 cd6 ct6), sl6⟩) (c6 : PySem.W.codeIn K cd6 "_law_names" = true) (k6 : PySem.W.keepIn K (.ref f6) = true)
    (a209 : PySem.W.nsIn K mainGlobals "_law_outcomes" = some (some (.ref f209))) (l209 : K.lookup f209 = some ⟨oc209, od209, .func (PySem.W.fnOf "_law_outcomes" "_law_outcomes" (defArgs s209) (defBody s209) (defScope s209) .none kV209 dc209 pm209 an209 cd209 ct209), sl209⟩) (c209 : PySem.W.codeIn K cd209 "_law_outcomes" = true) (k209 : PySem.W.keepIn K (.ref f209) = true)
    (a210 : PySem.W.nsIn K mainGlobals "_law_nodes" = some (some (.ref f210))) (l210 : K.lookup f210 = some ⟨oc210, od210, .func (PySem.W.fnOf "_law_nodes" "_law_nodes" (defArgs s210) (defBody s210) (defScope s210) .none kV210 dc210 pm210 an210 cd210 ct210), sl210⟩) (c210 : PySem.W.codeIn K cd210 "_law_nodes" = true) (k210 : PySem.W.keepIn K (.ref f210) = true)
    (a215 : PySem.W.nsIn K mainGlobals "_law_blown" = some (some (.ref f215))) (l215 : K.lookup f215 = some ⟨oc215, od215, .func (PySem.W.fnOf "_law_blown" "_law_blown" (defArgs s215) (defBody s215) (defScope s215) .none kV215 dc215 pm215 an215 cd215 ct215), sl215⟩) (c215 : PySem.W.codeIn K cd215 "_law_blown" = true) (k215 : PySem.W.keepIn K (.ref f215) = true)
    (a216 : PySem.W.nsIn K mainGlobals "_law_bent" = some (some (.ref f216))) (l216 : K.lookup f216 = some ⟨oc216, od216, .func (PySem.W.fnOf "_law_bent" "_law_bent" (defArgs s216) (defBody s216) (defScope s216) .none kV216 dc216 pm216 an216 cd216 ct216), sl216⟩) (c216 : PySem.W.codeIn K cd216 "_law_bent" = true) (k216 : PySem.W.keepIn K (.ref f216) = true)
    (a217 : PySem.W.nsIn K mainGlobals "_law_parting" = some (some (.ref f217))) (l217 : K.lookup f217 = some ⟨oc217, od217, .func (PySem.W.fnOf "_law_parting" "_law_parting" (defArgs s217) (defBody s217) (defScope s217) .none kV217 dc217 pm217 an217 cd217 ct217), sl217⟩) (c217 : PySem.W.codeIn K cd217 "_law_parting" = true) (k217 : PySem.W.keepIn K (.ref f217) = true)
    (a0 : PySem.W.nsIn K mainGlobals "law" = some (some (.ref f0))) (l0 : K.lookup f0 = some ⟨oc0, od0, .func (PySem.W.fnOf "law" "law" (defArgs s0) (defBody s0) (defScope s0) .none kV0 dc0 pm0 an0 cd0 ct0), sl0⟩) (c0 : PySem.W.codeIn K cd0 "law" = true) (k0 : PySem.W.keepIn K (.ref f0) = true)
    (b0 : PySem.W.nsIn K mainGlobals "abs" = some none)
    (b1 : PySem.W.nsIn K mainGlobals "enumerate" = some none)
    (b2 : PySem.W.nsIn K mainGlobals "int" = some none)
    (b3 : PySem.W.nsIn K mainGlobals "len" = some none)
    (b4 : PySem.W.nsIn K mainGlobals "list" = some none)
    (b5 : PySem.W.nsIn K mainGlobals "max" = some none)
    (b6 : PySem.W.nsIn K mainGlobals "range" = some none)
    (b7 : PySem.W.nsIn K mainGlobals "repr" = some none)
    (b8 : PySem.W.nsIn K mainGlobals "str" = some none)
    (b9 : PySem.W.nsIn K mainGlobals "tuple" = some none)
    (b10 : PySem.W.nsIn K mainGlobals "zip" = some none) :
    codeAny (model PySem.Challenge.rw_flowform_k31_classes_of_nodes.prog w) callerA (Code.call (Value.ref fa) { pos := [Value.ref a] }) (CR CX0 [] PySem.Challenge.rw_flowform_k31_classes_of_nodes.prog w H sh (fun v _ => v = V.bl true) (fun _ _ _ => False)) sh := by
  have e := hfa.symm.trans (PySem.W.mg_of X G a0)
  cases e
  let es : List Ent := [⟨"classes", 212, f212, (PySem.W.fnOf "classes" "classes" (defArgs s212) (defBody s212) (defScope s212) .none kV212 dc212 pm212 an212 cd212 ct212), s212, n212, p212, d212, "classes", false⟩, ⟨"_class_numbers", 213, f213, (PySem.W.fnOf "_class_numbers" "_class_numbers" (defArgs s213) (defBody s213) (defScope s213) .none kV213 dc213 pm213 an213 cd213 ct213), s213, n213, p213, d213, "_class_numbers", false⟩, ⟨"_numbers_of_keys", 214, f214, (PySem.W.fnOf "_numbers_of_keys" "_numbers_of_keys" (defArgs s214) (defBody s214) (defScope s214) .none kV214 dc214 pm214 an214 cd214 ct214), s214, n214, p214, d214, "_numbers_of_keys", false⟩, ⟨"_law_tape", 4, f4, (PySem.W.fnOf "_law_tape" "_law_tape" (defArgs s4) (defBody s4) (defScope s4) .none kV4 dc4 pm4 an4 cd4 ct4), s4, n4, p4, d4, "_law_tape", false⟩, ⟨"_law_draw", 5, f5, (PySem.W.fnOf "_law_draw" "_law_draw" (defArgs s5) (defBody s5) (defScope s5) .none kV5 dc5 pm5 an5 cd5 ct5), s5, n5, p5, d5, "_law_draw", false⟩, ⟨"_law_names", 6, f6, (PySem.W.fnOf "_law_names" "_law_names" (defArgs s6) (defBody s6) (defScope s6) .none kV6 dc6 pm6 an6 cd6 ct6), s6, n6, p6, d6, "_law_names", false⟩, ⟨"_law_outcomes", 209, f209, (PySem.W.fnOf "_law_outcomes" "_law_outcomes" (defArgs s209) (defBody s209) (defScope s209) .none kV209 dc209 pm209 an209 cd209 ct209), s209, n209, p209, d209, "_law_outcomes", false⟩, ⟨"_law_nodes", 210, f210, (PySem.W.fnOf "_law_nodes" "_law_nodes" (defArgs s210) (defBody s210) (defScope s210) .none kV210 dc210 pm210 an210 cd210 ct210), s210, n210, p210, d210, "_law_nodes", false⟩, ⟨"_law_blown", 215, f215, (PySem.W.fnOf "_law_blown" "_law_blown" (defArgs s215) (defBody s215) (defScope s215) .none kV215 dc215 pm215 an215 cd215 ct215), s215, n215, p215, d215, "_law_blown", false⟩, ⟨"_law_bent", 216, f216, (PySem.W.fnOf "_law_bent" "_law_bent" (defArgs s216) (defBody s216) (defScope s216) .none kV216 dc216 pm216 an216 cd216 ct216), s216, n216, p216, d216, "_law_bent", false⟩, ⟨"_law_parting", 217, f217, (PySem.W.fnOf "_law_parting" "_law_parting" (defArgs s217) (defBody s217) (defScope s217) .none kV217 dc217 pm217 an217 cd217 ct217), s217, n217, p217, d217, "_law_parting", false⟩]
  have P : ProgOk ⟨PySem.Challenge.rw_flowform_k31_classes_of_nodes.prog, w, K, mg, base⟩ D es cs bl ds xs TURNS := by
    refine ⟨fun e he => ?_, fun k ih ih' c w hx => ?_, fun k ih ih' x w' hx => ?_, fun x v hx => ?_, fun x hx => ?_, fun x kvs hx => ?_⟩
    · have E : pairs es = fnm := rfl
      rw [E]
      simp only [es, List.mem_cons, List.not_mem_nil, or_false] at he
      rcases he with rfl | rfl | rfl | rfl | rfl | rfl | rfl | rfl | rfl | rfl | rfl
      · have F := fun_at' l212 c212 k212
        exact .inl ⟨(fun hm => PySem.W.mg_of X G a212), F, F.binds (ps := p212) fun _ _ _ _ _ _ us hl => match us, hl with | [_], _ => rfl, sc212, rfl, rfl, rfl, rfl, t212⟩
      · have F := fun_at' l213 c213 k213
        exact .inl ⟨(fun hm => PySem.W.mg_of X G a213), F, F.binds (ps := p213) fun _ _ _ _ _ _ us hl => match us, hl with | [_], _ => rfl, sc213, rfl, rfl, rfl, rfl, t213⟩
      · have F := fun_at' l214 c214 k214
        exact .inl ⟨(fun hm => PySem.W.mg_of X G a214), F, F.binds (ps := p214) fun _ _ _ _ _ _ us hl => match us, hl with | [_], _ => rfl, sc214, rfl, rfl, rfl, rfl, t214⟩
      · have F := fun_at' l4 c4 k4
        exact .inl ⟨(fun hm => PySem.W.mg_of X G a4), F, F.binds (ps := p4) fun _ _ _ _ _ _ us hl => match us, hl with | [_], _ => rfl, sc4, rfl, rfl, rfl, rfl, t4⟩
      · have F := fun_at' l5 c5 k5
        exact .inl ⟨(fun hm => PySem.W.mg_of X G a5), F, F.binds (ps := p5) fun _ _ _ _ _ _ us hl => match us, hl with | [_, _], _ => rfl, sc5, rfl, rfl, rfl, rfl, t5⟩
      · have F := fun_at' l6 c6 k6
        exact .inl ⟨(fun hm => PySem.W.mg_of X G a6), F, F.binds (ps := p6) fun _ _ _ _ _ _ us hl => match us, hl with | [_, _], _ => rfl, sc6, rfl, rfl, rfl, rfl, t6⟩
      · have F := fun_at' l209 c209 k209
        exact .inl ⟨(fun hm => PySem.W.mg_of X G a209), F, F.binds (ps := p209) fun _ _ _ _ _ _ us hl => match us, hl with | [_], _ => rfl, sc209, rfl, rfl, rfl, rfl, t209⟩
      · have F := fun_at' l210 c210 k210
        exact .inl ⟨(fun hm => PySem.W.mg_of X G a210), F, F.binds (ps := p210) fun _ _ _ _ _ _ us hl => match us, hl with | [_, _, _, _], _ => rfl, sc210, rfl, rfl, rfl, rfl, t210⟩
      · have F := fun_at' l215 c215 k215
        exact .inl ⟨(fun hm => PySem.W.mg_of X G a215), F, F.binds (ps := p215) fun _ _ _ _ _ _ us hl => match us, hl with | [_, _, _], _ => rfl, sc215, rfl, rfl, rfl, rfl, t215⟩
      · have F := fun_at' l216 c216 k216
        exact .inl ⟨(fun hm => PySem.W.mg_of X G a216), F, F.binds (ps := p216) fun _ _ _ _ _ _ us hl => match us, hl with | [_, _, _, _], _ => rfl, sc216, rfl, rfl, rfl, rfl, t216⟩
      · have F := fun_at' l217 c217 k217
        exact .inl ⟨(fun hm => PySem.W.mg_of X G a217), F, F.binds (ps := p217) fun _ _ _ _ _ _ us hl => match us, hl with | [_, _, _, _], _ => rfl, sc217, rfl, rfl, rfl, rfl, t217⟩
    · cases hx
    · cases hx
    · cases hx
    · have hm : x ∈ bl := by simpa using hx
      simp only [bl, List.mem_cons, List.not_mem_nil, or_false] at hm
      rcases hm with rfl | rfl | rfl | rfl | rfl | rfl | rfl | rfl | rfl | rfl | rfl
      · exact PySem.W.mg_none_of X G b0
      · exact PySem.W.mg_none_of X G b1
      · exact PySem.W.mg_none_of X G b2
      · exact PySem.W.mg_none_of X G b3
      · exact PySem.W.mg_none_of X G b4
      · exact PySem.W.mg_none_of X G b5
      · exact PySem.W.mg_none_of X G b6
      · exact PySem.W.mg_none_of X G b7
      · exact PySem.W.mg_none_of X G b8
      · exact PySem.W.mg_none_of X G b9
      · exact PySem.W.mg_none_of X G b10
    · cases hx
  have FL := fun_at' l0 c0 k0
  have E0 : EntG ⟨PySem.Challenge.rw_flowform_k31_classes_of_nodes.prog, w, K, mg, base⟩ D (pairs es) cs bl ds xs ⟨"law", 0, fa, (PySem.W.fnOf "law" "law" (defArgs s0) (defBody s0) (defScope s0) .none kV0 dc0 pm0 an0 cd0 ct0), s0, n0, p0, d0, "law", false⟩ := ⟨PySem.W.mg_of X G a0, FL, sc0, rfl, rfl, rfl, rfl, t0⟩
  exact law_top (turns := TURNS) (k := DEEP) (x := "script") P _ E0 rfl (fun s u => .of_eq rfl) ⟨rfl, by decide, by decide +kernel⟩ nl Ev hl ho hs
end

end K31


open PySem PySem.W PyProof.Rows
set_option maxHeartbeats 0 in
theorem PySem.Challenge.cw_flowform_k31_classes_of_nodes_holds : PySem.Challenge.rw_flowform_k31_classes_of_nodes.Holds := by
  w_on; o_law; k_head; (case hw => w_witness2)
  k_fill
  refine U.walk_ofG (l := PySem.Challenge.rw_flowform_k31_classes_of_nodes) (n := 63) rfl (by decide) rfl (fun w h Y => PySem.W.kIn_of Y) fun w mg fa base H s a ns KX G nl hmg hl Ev ho hS => ?_
  refine' K31.all_mk KX G hmg nl Ev (K31.main ns hl) ho hS ?a212 ?l212 ?c212 ?k212 ?a213 ?l213 ?c213 ?k213 ?a214 ?l214 ?c214 ?k214 ?a4 ?l4 ?c4 ?k4 ?a5 ?l5 ?c5 ?k5 ?a6 ?l6 ?c6 ?k6 ?a209 ?l209 ?c209 ?k209 ?a210 ?l210 ?c210 ?k210 ?a215 ?l215 ?c215 ?k215 ?a216 ?l216 ?c216 ?k216 ?a217 ?l217 ?c217 ?k217 ?a0 ?l0 ?c0 ?k0 ?b0 ?b1 ?b2 ?b3 ?b4 ?b5 ?b6 ?b7 ?b8 ?b9 ?b10
  (case a212 => k_is); (case l212 => k_is); (case c212 => k_is); (case k212 => k_is); (case a213 => k_is); (case l213 => k_is); (case c213 => k_is); (case k213 => k_is); (case a214 => k_is); (case l214 => k_is); (case c214 => k_is); (case k214 => k_is); (case a4 => k_is); (case l4 => k_is); (case c4 => k_is); (case k4 => k_is); (case a5 => k_is); (case l5 => k_is); (case c5 => k_is); (case k5 => k_is); (case a6 => k_is); (case l6 => k_is); (case c6 => k_is); (case k6 => k_is); (case a209 => k_is); (case l209 => k_is); (case c209 => k_is); (case k209 => k_is); (case a210 => k_is); (case l210 => k_is); (case c210 => k_is); (case k210 => k_is); (case a215 => k_is); (case l215 => k_is); (case c215 => k_is); (case k215 => k_is); (case a216 => k_is); (case l216 => k_is); (case c216 => k_is); (case k216 => k_is); (case a217 => k_is); (case l217 => k_is); (case c217 => k_is); (case k217 => k_is); (case a0 => k_is); (case l0 => k_is); (case c0 => k_is); (case k0 => k_is); (case b0 => k_is); (case b1 => k_is); (case b2 => k_is); (case b3 => k_is); (case b4 => k_is); (case b5 => k_is); (case b6 => k_is); (case b7 => k_is); (case b8 => k_is); (case b9 => k_is); (case b10 => k_is)

