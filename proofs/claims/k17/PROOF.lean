import PyProof.Rows.All
import Wide.All
import OpenK.AllK
import Wide.FinOn
import HandS.ForMost
import HandS.Deep
import KE.SortData
import HandS.Strs
import HandS.HeadHook2
import HandS.Head2
import HandS.HeadEnd
import KE.KeyNested
import KE.KDictKeyed
import KE.KDictPairs
import HandS.DictComp
import HandS.HeadWalk
import HandS.Iter
import PySem.Challenge.RW_partloft_k17_sections
set_option Elab.async false
set_option linter.all false
set_option maxRecDepth 100000
set_option maxHeartbeats 4000000
/-! Pd: a weakest-precondition calculus over plain data for pure defs, checked against their text and sound over the hand layer. -/
namespace Pd
open PySem L2

inductive BO where
  | add | sub | mul | div | mod | pow
  deriving DecidableEq
inductive CO where
  | lt | le | gt | ge | eq | ne
  deriving DecidableEq
inductive Bl where
  | len | int | abs | divm | sum | tuple | list | min | max | sorted
  deriving DecidableEq

mutual
inductive T where
  | v (i : Nat)
  | k (c : PyData)
  | gl (n : Nat)
  | bin (o : BO) (a b : T)
  | neg (a : T)
  | cmp (o : CO) (a b : T)
  | chain (o o' : CO) (a b c : T)
  | isN (a : T)
  | notN (a : T)
  | isin (a b : T)
  | notin (a b : T)
  | and (a b : T)
  | or (a b : T)
  | not (a : T)
  | ite (c a b : T)
  | tup (ts : Ts)
  | lst (ts : Ts)
  | ix (a b : T)
  | sl (a : T) (lo hi : Option Int)
  | cat (a b : T)
  | call (f : Nat) (ts : Ts)
  | blt (b : Bl) (ts : Ts)
  | idx (a b : T)
  | tidx (i : Nat) (b : T)
  | lc (i : Nat) (src elt : T)
  | lci (i : Nat) (src c elt : T)
  | lco (i j : Nat) (elt : T)
  | rg1 (a : T)
  | rg2 (a b : T)
inductive Ts where
  | nil
  | cons (t : T) (ts : Ts)
end

inductive B where
  | dat (d : PyData)
  | own (ds : List PyData)
  | wri (d : PyData)
abbrev Rho := List (Option B)

/-- what the globals mean: constants, pure defs, written dicts -/
structure Ga where
  con : Nat → Option PyData
  isFn : Nat → Bool
  fn : Nat → List PyData → Option PyData
  isTab : Nat → Bool
  tab : Nat → PyData → Option PyData

def opI (o : BO) (i j : Int) (Q : PyData → Prop) : Prop := match o with
  | .add => Q (.int (i + j))
  | .sub => Q (.int (i - j))
  | .mul => CMul i j ∧ Q (.int (i * j))
  | .div => CDiv i j ∧ Q (.int (i / j))
  | .mod => 0 < j ∧ Q (.int (i % j))
  | .pow => CPow i j ∧ Q (.int (i ^ j.toNat))
def wBin (o : BO) (x y : PyData) (Q : PyData → Prop) : Prop := match x, y with
  | .int i, .int j => opI o i j Q
  | _, _ => False
def wNeg (x : PyData) (Q : PyData → Prop) : Prop := match x with
  | .int i => Q (.int (-i))
  | _ => False
def wCmp (o : CO) (x y : PyData) (Q : Bool → Prop) : Prop := match o with
  | .eq => SeqAt.shaped x = true ∧ SeqAt.shaped y = true ∧ Q (PyData.eqv x y)
  | .ne => SeqAt.shaped x = true ∧ SeqAt.shaped y = true ∧ Q (!PyData.eqv x y)
  | .lt => match x, y with
    | .int i, .int j => Q (decide (i < j))
    | _, _ => False
  | .le => match x, y with
    | .int i, .int j => Q (decide (i ≤ j))
    | _, _ => False
  | .gt => match x, y with
    | .int i, .int j => Q (decide (j < i))
    | _, _ => False
  | .ge => match x, y with
    | .int i, .int j => Q (decide (j ≤ i))
    | _, _ => False
def isNone : PyData → Bool
  | .none => true
  | _ => false
def wBool (x : PyData) (Q : Bool → Prop) : Prop := match x with
  | .bool b => Q b
  | _ => False
def flatD : PyData → Bool
  | .none => true
  | .bool _ => true
  | .int _ => true
  | .str _ => true
  | _ => false
/-- x in ys: a list of data, a tuple of flat things -/
def wIn (x y : PyData) (Q : Bool → Prop) : Prop := match y with
  | .list ds => SeqAt.shaped x = true ∧ SeqAt.shaped (.list ds) = true ∧ Q (ds.any fun z => PyData.eqv z x)
  | .tuple ds => flatD x = true ∧ ds.all flatD = true ∧ Q (ds.any fun z => PyData.eqv z x)
  | _ => False
def wIx (x y : PyData) (Q : PyData → Prop) : Prop := match x, y with
  | .list ds, .int i => ∃ d, atI ds i = some d ∧ Q d
  | .tuple ds, .int i => ∃ d, atI ds i = some d ∧ Q d
  | _, _ => False
def cutD (xs : List PyData) (lo hi : Option Int) : List PyData := (xs.drop (HT.sIx xs.length 0 lo)).take (HT.sIx xs.length xs.length hi - HT.sIx xs.length 0 lo)
def wSl (x : PyData) (lo hi : Option Int) (Q : PyData → Prop) : Prop := match x with
  | .list ds => Q (.list (cutD ds lo hi))
  | .tuple ds => ¬ (HT.sIx ds.length 0 lo = 0 ∧ HT.sIx ds.length ds.length hi = ds.length) ∧ Q (.tuple (cutD ds lo hi))
  | _ => False
def wCat (x y : PyData) (Q : PyData → Prop) : Prop := match x, y with
  | .tuple ds, .tuple es => ds ≠ [] ∧ es ≠ [] ∧ ds.length + es.length ≤ 100000 ∧ Q (.tuple (ds ++ es))
  | _, _ => False
def ints? : List PyData → Option (List Int)
  | [] => some []
  | .int i :: r => (ints? r).map (i :: ·)
  | _ :: _ => none
def w_len (ds : List PyData) (Q : PyData → Prop) : Prop := match ds with
  | [.list xs] => Q (.int xs.length)
  | [.tuple xs] => Q (.int xs.length)
  | _ => False
def w_int (ds : List PyData) (Q : PyData → Prop) : Prop := match ds with
  | [.int i] => Q (.int i)
  | [.bool c] => Q (.int (if c = true then 1 else 0))
  | _ => False
def w_abs (ds : List PyData) (Q : PyData → Prop) : Prop := match ds with
  | [.int i] => Q (.int (if i < 0 then -i else i))
  | _ => False
def w_divm (ds : List PyData) (Q : PyData → Prop) : Prop := match ds with
  | [.int i, .int j] => CDiv i j ∧ Q (.tuple [.int (i / j), .int (i % j)])
  | _ => False
def w_sum (ds : List PyData) (Q : PyData → Prop) : Prop := match ds with
  | [.list xs] => ∃ ns : List Int, xs = ns.map PyData.int ∧ Q (.int ns.sum)
  | _ => False
def w_tuple (ds : List PyData) (Q : PyData → Prop) : Prop := match ds with
  | [.list xs] => Q (.tuple xs)
  | [.tuple xs] => Q (.tuple xs)
  | _ => False
def w_list (ds : List PyData) (Q : PyData → Prop) : Prop := match ds with
  | [.list xs] => Q (.list xs)
  | [.tuple xs] => Q (.list xs)
  | _ => False
def w_min (ds : List PyData) (Q : PyData → Prop) : Prop := match ds with
  | [.int i, .int j] => Q (.int (if j < i then j else i))
  | _ => False
def w_max (ds : List PyData) (Q : PyData → Prop) : Prop := match ds with
  | [.int i, .int j] => Q (.int (if j > i then j else i))
  | _ => False
/-- sorted(xs) of data of one form -/
def w_sorted (ds : List PyData) (Q : PyData → Prop) : Prop := match ds with
  | [.list xs] => PySem.W.AllAlike xs ∧ PySem.W.Sortable xs ∧ xs.length ≤ 100000 ∧ (∀ d ∈ xs, d.depth ≤ 60) ∧ Q (.list (xs.mergeSort (PySem.W.dataLe false id)))
  | [.tuple xs] => PySem.W.AllAlike xs ∧ PySem.W.Sortable xs ∧ xs.length ≤ 100000 ∧ (∀ d ∈ xs, d.depth ≤ 60) ∧ Q (.list (xs.mergeSort (PySem.W.dataLe false id)))
  | _ => False
def wBl (b : Bl) (ds : List PyData) (Q : PyData → Prop) : Prop := match b with
  | .len => w_len ds Q
  | .int => w_int ds Q
  | .abs => w_abs ds Q
  | .divm => w_divm ds Q
  | .sum => w_sum ds Q
  | .tuple => w_tuple ds Q
  | .list => w_list ds Q
  | .min => w_min ds Q
  | .max => w_max ds Q
  | .sorted => w_sorted ds Q
def wList (x : PyData) (Q : List PyData → Prop) : Prop := match x with
  | .list ds => Q ds
  | _ => False
/-- xs.index(x): the first place -/
def wIdx (ds : List PyData) (y : PyData) (Q : PyData → Prop) : Prop :=
  SeqAt.shaped (.list ds) = true ∧ SeqAt.shaped y = true ∧ ∃ (j : Nat) (z : PyData), ds[j]? = some z ∧ PyData.eqv z y = true ∧ (∀ (m : Nat) (z' : PyData), m < j → ds[m]? = some z' → PyData.eqv z' y = false) ∧ Q (.int (j : Nat))
/-- t.index(n), t a written tuple of ints: the first place -/
def wTidx (x y : PyData) (Q : PyData → Prop) : Prop := match x with
  | .tuple ds => ∃ (ns : List Int) (n : Int) (j : Nat), ds = ns.map PyData.int ∧ y = .int n ∧ ns[j]? = some n ∧ (∀ m, m < j → ns[m]? ≠ some n) ∧ Q (.int (j : Nat))
  | _ => False
def wSeq (x : PyData) (Q : List PyData → Prop) : Prop := match x with
  | .list ds => Q ds
  | .tuple ds => Q ds
  | _ => False
def intsUp (lo : Int) (n : Nat) : List PyData := (List.range n).map fun (k : Nat) => PyData.int (lo + (k : Int))
def wRg (lo hi : Int) (Q : List PyData → Prop) : Prop := (-1000000 ≤ lo ∧ lo ≤ 1000000 ∧ -1000000 ≤ hi ∧ hi ≤ 1000000) ∧ Q (intsUp lo (hi - lo).toNat)
def lcW (step : PyData → (Option PyData → Prop) → Prop) : List PyData → List PyData → (List PyData → Prop) → Prop
  | [], acc, Q => Q acc
  | x :: xs, acc, Q => step x fun o => match o with
    | some y => acc.length < 100000 ∧ lcW step xs (acc ++ [y]) Q
    | none => lcW step xs acc Q

mutual
def wE (G : Ga) : T → Rho → (PyData → Prop) → Prop
  | .v i, ρ, Q => match ρ[i]? with
    | some (some (.dat d)) => Q d
    | some (some (.wri d)) => Q d
    | _ => False
  | .k c, _, Q => Q c
  | .gl n, _, Q => ∃ d, G.con n = some d ∧ Q d
  | .bin o a b, ρ, Q => wE G a ρ fun x => wE G b ρ fun y => wBin o x y Q
  | .neg a, ρ, Q => wE G a ρ fun x => wNeg x Q
  | .cmp o a b, ρ, Q => wE G a ρ fun x => wE G b ρ fun y => wCmp o x y fun c => Q (.bool c)
  | .chain o o' a b c, ρ, Q => wE G a ρ fun x => wE G b ρ fun y => wCmp o x y fun k => (k = true → wE G c ρ fun z => wCmp o' y z fun c => Q (.bool c)) ∧ (k = false → Q (.bool false))
  | .isN a, ρ, Q => wE G a ρ fun x => Q (.bool (isNone x))
  | .notN a, ρ, Q => wE G a ρ fun x => Q (.bool (!isNone x))
  | .isin a b, ρ, Q => wE G a ρ fun x => wE G b ρ fun y => wIn x y fun c => Q (.bool c)
  | .notin a b, ρ, Q => wE G a ρ fun x => wE G b ρ fun y => wIn x y fun c => Q (.bool (!c))
  | .and a b, ρ, Q => wE G a ρ fun x => wBool x fun c => (c = true → wE G b ρ fun y => wBool y fun d => Q (.bool d)) ∧ (c = false → Q (.bool false))
  | .or a b, ρ, Q => wE G a ρ fun x => wBool x fun c => (c = true → Q (.bool true)) ∧ (c = false → wE G b ρ fun y => wBool y fun d => Q (.bool d))
  | .not a, ρ, Q => wE G a ρ fun x => wBool x fun c => Q (.bool (!c))
  | .ite c a b, ρ, Q => wE G c ρ fun x => wBool x fun c => (c = true → wE G a ρ Q) ∧ (c = false → wE G b ρ Q)
  | .tup ts, ρ, Q => wEs G ts ρ fun ds => ds.length ≤ 100000 ∧ Q (.tuple ds)
  | .lst ts, ρ, Q => wEs G ts ρ fun ds => ds.length ≤ 100000 ∧ Q (.list ds)
  | .ix a b, ρ, Q => wE G a ρ fun x => wE G b ρ fun y => wIx x y Q
  | .sl a lo hi, ρ, Q => wE G a ρ fun x => wSl x lo hi Q
  | .cat a b, ρ, Q => wE G a ρ fun x => wE G b ρ fun y => wCat x y Q
  | .call f ts, ρ, Q => G.isFn f = true ∧ wEs G ts ρ fun ds => ∃ d, G.fn f ds = some d ∧ Q d
  | .blt b ts, ρ, Q => wEs G ts ρ fun ds => wBl b ds Q
  | .idx a b, ρ, Q => wE G a ρ fun x => wList x fun ds => wE G b ρ fun y => wIdx ds y Q
  | .tidx i b, ρ, Q => match ρ[i]? with
    | some (some (.wri (.tuple ds))) => wE G b ρ fun y => wTidx (.tuple ds) y Q
    | _ => False
  | .lc i src elt, ρ, Q => wI G src ρ fun xs => lcW (fun x R => wE G elt (ρ.set i (some (.dat x))) fun y => R (some y)) xs [] fun ys => Q (.list ys)
  | .lci i src c elt, ρ, Q => wI G src ρ fun xs => lcW (fun x R => wE G c (ρ.set i (some (.dat x))) fun z => wBool z fun k => (k = true → wE G elt (ρ.set i (some (.dat x))) fun y => R (some y)) ∧ (k = false → R none)) xs [] fun ys => Q (.list ys)
  | .lco i j elt, ρ, Q => match ρ[j]? with
    | some (some (.own ds)) => lcW (fun x R => wE G elt (ρ.set i (some (.dat x))) fun y => R (some y)) ds [] fun ys => Q (.list ys)
    | _ => False
  | .rg1 _, _, _ => False
  | .rg2 _ _, _, _ => False
def wI (G : Ga) : T → Rho → (List PyData → Prop) → Prop
  | .rg1 a, ρ, Q => wE G a ρ fun x => match x with
    | .int n => wRg 0 n Q
    | _ => False
  | .rg2 a b, ρ, Q => wE G a ρ fun x => wE G b ρ fun y => match x, y with
    | .int m, .int n => wRg m n Q
    | _, _ => False
  | .v i, ρ, Q => match ρ[i]? with
    | some (some (.dat d)) => wSeq d Q
    | some (some (.wri d)) => wSeq d Q
    | _ => False
  | .gl n, _, Q => ∃ d, G.con n = some d ∧ wSeq d Q
  | .lst ts, ρ, Q => wEs G ts ρ fun ds => ds.length ≤ 100000 ∧ Q ds
  | .tup ts, ρ, Q => wEs G ts ρ fun ds => ds.length ≤ 100000 ∧ Q ds
  | .ix a b, ρ, Q => wE G a ρ fun x => wE G b ρ fun y => wIx x y fun d => wSeq d Q
  | .call f ts, ρ, Q => G.isFn f = true ∧ wEs G ts ρ fun ds => ∃ d, G.fn f ds = some d ∧ wSeq d Q
  | _, _, _ => False
def wEs (G : Ga) : Ts → Rho → (List PyData → Prop) → Prop
  | .nil, _, Q => Q []
  | .cons t ts, ρ, Q => wE G t ρ fun d => wEs G ts ρ fun ds => Q (d :: ds)
end

mutual
inductive S where
  | set (i : Nat) (t : T)
  | mk (i : Nat) (t : T)
  | unp (is : List Nat) (t : T)
  | unpw (is : List Nat) (n : Nat) (k : T)
  | unpg (is : List Nat) (n : Nat) (k d : T)
  | seti (i : Nat) (a b : T)
  | augi (i : Nat) (o : BO) (a b : T)
  | aug (i : Nat) (o : BO) (t : T)
  | app (i : Nat) (t : T)
  | ext (i : Nat) (t : T)
  | cati (i : Nat) (t : T)
  | iff (c : T) (a b : Ss)
  | fo (i : Nat) (src : T) (b : Ss)
  | ret (t : T)
  | brk
  | cnt
  | pas
  | fz (i : Nat)
inductive Ss where
  | nil
  | cons (s : S) (ss : Ss)
end
inductive O where
  | nx (ρ : Rho)
  | rt (d : PyData)
  | bk (ρ : Rho)
  | ct (ρ : Rho)
def setAll : List Nat → List PyData → Rho → Option Rho
  | [], [], ρ => some ρ
  | i :: is, d :: ds, ρ => setAll is ds (ρ.set i (some (.dat d)))
  | _, _, _ => none
def setAllW : List Nat → List PyData → Rho → Option Rho
  | [], [], ρ => some ρ
  | i :: is, d :: ds, ρ => setAllW is ds (ρ.set i (some (.wri d)))
  | _, _, _ => none
def isKey : PyData → Bool
  | .int _ => true
  | .tuple ds => ds.all fun d => match d with
    | .int _ => true
    | _ => false
  | _ => false
def kindB : PyData → PyData → Bool
  | .int _, .int _ => true
  | .tuple _, .tuple _ => true
  | _, _ => false
def wOwn (ρ : Rho) (i : Nat) (Q : List PyData → Prop) : Prop := match ρ[i]? with
  | some (some (.own ds)) => Q ds
  | _ => False
def wDat (ρ : Rho) (i : Nat) (Q : PyData → Prop) : Prop := match ρ[i]? with
  | some (some (.dat d)) => Q d
  | _ => False
def forW (body : PyData → Rho → (O → Prop) → Prop) : List PyData → Rho → (O → Prop) → Prop
  | [], ρ, Q => Q (.nx ρ)
  | x :: xs, ρ, Q => body x ρ fun o => match o with
    | .nx ρ' => forW body xs ρ' Q
    | .ct ρ' => forW body xs ρ' Q
    | .bk ρ' => Q (.nx ρ')
    | .rt d => Q (.rt d)
def isFresh : T → Bool
  | .lst _ => true
  | .lc _ _ _ => true
  | .lci _ _ _ _ => true
  | .lco _ _ _ => true
  | .blt .list _ => true
  | _ => false
def wInt (x : PyData) (Q : Int → Prop) : Prop := match x with
  | .int i => Q i
  | _ => False
def wTup (x : PyData) (Q : List PyData → Prop) : Prop := match x with
  | .tuple ds => Q ds
  | _ => False
mutual
def wS (G : Ga) : S → Rho → (O → Prop) → Prop
  | .set i t, ρ, Q => wE G t ρ fun d => Q (.nx (ρ.set i (some (.dat d))))
  | .mk i t, ρ, Q => wE G t ρ fun d => wList d fun ds => Q (.nx (ρ.set i (some (.own ds))))
  | .unp is t, ρ, Q => wE G t ρ fun d => wTup d fun ds => ∃ ρ', setAll is ds ρ = some ρ' ∧ Q (.nx ρ')
  | .unpw is n k, ρ, Q => G.isTab n = true ∧ wE G k ρ fun x => ∃ d, G.tab n x = some d ∧ wTup d fun ds => ∃ ρ', setAllW is ds ρ = some ρ' ∧ Q (.nx ρ')
  | .unpg is n k d, ρ, Q => G.isTab n = true ∧ wE G k ρ fun x => wE G d ρ fun y => isKey x = true ∧ (∃ x' d', G.tab n x' = some d' ∧ kindB x x' = true) ∧ (∀ e, G.tab n x = some e → wTup e fun ds => ∃ ρ', setAllW is ds ρ = some ρ' ∧ Q (.nx ρ')) ∧ (G.tab n x = none → wTup y fun ds => ∃ ρ', setAll is ds ρ = some ρ' ∧ Q (.nx ρ'))
  | .seti i a b, ρ, Q => wE G b ρ fun y => wOwn ρ i fun ds => wE G a ρ fun x => wInt x fun k => ∃ j, ixN ds.length k = some j ∧ Q (.nx (ρ.set i (some (.own (ds.set j y)))))
  | .augi i o a b, ρ, Q => wOwn ρ i fun ds => wE G a ρ fun x => wInt x fun k => ∃ j d, ixN ds.length k = some j ∧ ds[j]? = some d ∧ wE G b ρ fun y => wBin o d y fun z => Q (.nx (ρ.set i (some (.own (ds.set j z)))))
  | .aug i o t, ρ, Q => wDat ρ i fun x => wE G t ρ fun y => wBin o x y fun z => Q (.nx (ρ.set i (some (.dat z))))
  | .app i t, ρ, Q => wOwn ρ i fun ds => wE G t ρ fun y => ds.length < 100000 ∧ Q (.nx (ρ.set i (some (.own (ds ++ [y])))))
  | .ext i t, ρ, Q => wOwn ρ i fun ds => wE G t ρ fun y => wList y fun es => ds.length + es.length ≤ 100000 ∧ Q (.nx (ρ.set i (some (.own (ds ++ es)))))
  | .cati i t, ρ, Q => wOwn ρ i fun ds => wE G t ρ fun y => wList y fun es => ds.length + es.length ≤ 100000 ∧ Q (.nx (ρ.set i (some (.own (ds ++ es)))))
  | .iff c a b, ρ, Q => wE G c ρ fun x => wBool x fun c => (c = true → wSs G a ρ Q) ∧ (c = false → wSs G b ρ Q)
  | .fo i src b, ρ, Q => wI G src ρ fun xs => forW (fun x ρ R => wSs G b (ρ.set i (some (.dat x))) R) xs ρ Q
  | .ret t, ρ, Q => wE G t ρ fun d => Q (.rt d)
  | .brk, ρ, Q => Q (.bk ρ)
  | .cnt, ρ, Q => Q (.ct ρ)
  | .pas, ρ, Q => Q (.nx ρ)
  | .fz i, ρ, Q => wOwn ρ i fun ds => Q (.nx (ρ.set i (some (.dat (.list ds)))))
def wSs (G : Ga) : Ss → Rho → (O → Prop) → Prop
  | .nil, ρ, Q => Q (.nx ρ)
  | .cons s ss, ρ, Q => wS G s ρ fun o => match o with
    | .nx ρ' => wSs G ss ρ' Q
    | o => Q o
end
end Pd

set_option Elab.async false
set_option linter.all false
set_option maxRecDepth 100000
set_option maxHeartbeats 4000000
namespace Pd
open PySem L2

/-! ### the text against a term -/
structure Cf where
  N : List Str
  sc : Scope
  names : List Str
  L : Nat
def visB (sc : Scope) (x : Str) : Bool := match sc.names.lookup x with
  | some .local => true
  | some .cell => true
  | some .free => true
  | _ => false
def locB (sc : Scope) (x : Str) : Bool := match sc.names.lookup x with
  | some .local => true
  | some .cell => true
  | _ => false
def glB (sc : Scope) (x : Str) : Bool := match sc.names.lookup x with
  | some .globalImplicit => true
  | _ => false
def nameOk (x : Str) : Bool := !(x == ("__debug__" : Str)) && !(x == ("__classdict__" : Str))
def boP : BO → Operator
  | .add => .Add
  | .sub => .Sub
  | .mul => .Mult
  | .div => .FloorDiv
  | .mod => .Mod
  | .pow => .Pow
def coP : CO → CmpOp
  | .lt => .Lt
  | .le => .LtE
  | .gt => .Gt
  | .ge => .GtE
  | .eq => .Eq
  | .ne => .NotEq
def blN : Bl → Str
  | .len => "len"
  | .int => "int"
  | .abs => "abs"
  | .divm => "divmod"
  | .sum => "sum"
  | .tuple => "tuple"
  | .list => "list"
  | .min => "min"
  | .max => "max"
  | .sorted => "sorted"
def isOp (a b : Operator) : Bool := match a, b with
  | .Add, .Add => true
  | .Sub, .Sub => true
  | .Mult, .Mult => true
  | .FloorDiv, .FloorDiv => true
  | .Mod, .Mod => true
  | .Pow, .Pow => true
  | _, _ => false
def isCo (a b : CmpOp) : Bool := match a, b with
  | .Lt, .Lt => true
  | .LtE, .LtE => true
  | .Gt, .Gt => true
  | .GtE, .GtE => true
  | .Eq, .Eq => true
  | .NotEq, .NotEq => true
  | .Is, .Is => true
  | .IsNot, .IsNot => true
  | .In, .In => true
  | .NotIn, .NotIn => true
  | _, _ => false
theorem isOp_eq {a b : Operator} (h : isOp a b = true) : a = b := by
  cases a <;> cases b <;> first | rfl | cases h
theorem isCo_eq {a b : CmpOp} (h : isCo a b = true) : a = b := by
  cases a <;> cases b <;> first | rfl | cases h
def isConst (c : PyData) (e : Expr) : Bool := match c, e with
  | .none, .Constant .none _ _ => true
  | .bool b, .Constant (.bool b') _ _ => b == b'
  | .int i, .Constant (.int i') _ _ => decide (i = i')
  | .str x, .Constant (.str x') _ _ => decide (x = x')
  | _, _ => false
def isUn (a b : UnaryOp) : Bool := match a, b with
  | .USub, .USub => true
  | .Not, .Not => true
  | _, _ => false
theorem isUn_eq {a b : UnaryOp} (h : isUn a b = true) : a = b := by
  cases a <;> cases b <;> first | rfl | cases h
def isAnd : BoolOp → Bool
  | .And => true
  | _ => false
def isOr : BoolOp → Bool
  | .Or => true
  | _ => false
theorem isAnd_eq {a : BoolOp} (h : isAnd a = true) : a = .And := by
  cases a <;> first | rfl | cases h
theorem isOr_eq {a : BoolOp} (h : isOr a = true) : a = .Or := by
  cases a <;> first | rfl | cases h
def isNoneE : Expr → Bool
  | .Constant .none _ _ => true
  | _ => false
theorem isNoneE_eq {e : Expr} (h : isNoneE e = true) : ∃ j p, e = .Constant .none j p := by
  unfold isNoneE at h
  split at h
  · exact ⟨_, _, rfl⟩
  · cases h
def notStar : Expr → Bool
  | .Starred _ _ => false
  | _ => true
def notSet : Expr → Bool
  | .Set _ _ _ => false
  | _ => true
def notComp : Expr → Bool
  | .ListComp _ _ _ _ => false
  | .SetComp _ _ _ _ => false
  | .DictComp _ _ _ _ _ => false
  | _ => true
def notTup : Expr → Bool
  | .Tuple _ _ _ => false
  | _ => true
def notSlice : Expr → Bool
  | .Slice _ _ _ _ => false
  | _ => true
def plainTest : Expr → Bool
  | .Name _ _ => true
  | .Call _ _ _ _ => true
  | .Subscript _ _ _ => true
  | .Constant _ _ _ => true
  | _ => false
def isPart (o : Option Int) (e : Option Expr) : Bool := match o, e with
  | none, none => true
  | some i, some (.Constant (.int j) _ _) => decide (i = j)
  | _, _ => false
def isName (x : Str) : Expr → Bool
  | .Name y _ => decide (y = x)
  | _ => false
def len0 {α : Type} : List α → Bool
  | [] => true
  | _ => false

def rel (scope sc : Scope) : Scope := { scope with names := scope.names.map fun (n, k) => if (k == NameKind.free && sc.kind == .function && sc.names.lookup n == some .cell) then (n, NameKind.cell) else (n, k) }
def chkV (cf : Cf) (i : Nat) (x : Str) : Bool := decide (cf.N[i]? = some x) && visB cf.sc x && nameOk x
def chkF (cf : Cf) (n : Nat) (x : Str) : Bool := decide (cf.names[n]? = some x) && glB cf.sc x && nameOk x
mutual
def chkE (cf : Cf) : T → Expr → Bool
  | .v i, .Name x _ => chkV cf i x
  | .k c, e => isConst c e
  | .gl n, .Name x _ => chkF cf n x
  | .bin o a b, .BinOp x op y _ => isOp op (boP o) && chkE cf a x && chkE cf b y
  | .neg a, .UnaryOp op x _ => isUn op .USub && chkE cf a x
  | .cmp o a b, .Compare x [op] [y] _ => isCo op (coP o) && chkE cf a x && chkE cf b y && !behindInMarks op y
  | .chain o o' a b c, .Compare x [op, op'] [y, z] _ => isCo op (coP o) && isCo op' (coP o') && chkE cf a x && chkE cf b y && chkE cf c z && !lastMarks [op, op'] [y, z]
  | .isN a, .Compare x [op] [y] _ => isCo op .Is && isNoneE y && chkE cf a x
  | .notN a, .Compare x [op] [y] _ => isCo op .IsNot && isNoneE y && chkE cf a x
  | .isin a b, .Compare x [op] [y] _ => isCo op .In && chkE cf a x && chkE cf b y && !behindInMarks .In y
  | .notin a b, .Compare x [op] [y] _ => isCo op .NotIn && chkE cf a x && chkE cf b y && !behindInMarks .NotIn y
  | .and a b, .BoolOp op (x :: y :: r) p => isAnd op && chkE cf a x && (if len0 r then chkE cf b y else chkE cf b (.BoolOp op (y :: r) p))
  | .or a b, .BoolOp op (x :: y :: r) p => isOr op && chkE cf a x && (if len0 r then chkE cf b y else chkE cf b (.BoolOp op (y :: r) p))
  | .not a, .UnaryOp op x _ => isUn op .Not && chkE cf a x
  | .ite c a b, .IfExp z x y _ => chkC cf c z && chkE cf a x && chkE cf b y
  | .tup ts, .Tuple es _ _ => chkEs cf ts es
  | .lst ts, .List es _ => chkEs cf ts es
  | .ix a b, .Subscript x y _ => chkE cf a x && chkE cf b y && notSlice y
  | .sl a lo hi, .Subscript x (.Slice l h none _) _ => chkE cf a x && isPart lo l && isPart hi h
  | .cat a b, .BinOp x op y _ => isOp op .Add && chkE cf a x && chkE cf b y
  | .call f (.cons t ts), .Call (.Name x _) (e :: es) [] _ => chkF cf f x && chkE cf t e && notStar e && chkEs cf ts es
  | .blt b (.cons t ts), .Call (.Name x _) (e :: es) [] _ => decide (x = blN b) && glB cf.sc x && nameOk x && chkE cf t e && notStar e && chkEs cf ts es
  | .idx a b, .Call (.Attribute (.Name y yp) m apos) [x] [] cpos => decide (m = ("index" : Str)) && chkE cf a (.Name y yp) && chkE cf b x && notStar x && (apos.endLine == cpos.line)
  | .tidx i b, .Call (.Attribute (.Name y yp) m apos) [x] [] cpos => decide (m = ("index" : Str)) && chkV cf i y && chkE cf b x && notStar x && (apos.endLine == cpos.line)
  | .lc i src elt, .ListComp e [⟨.Name x _, iter, [], as⟩] scope _ => decide (as = 0) && decide (cf.N[i]? = some x) && locB scope x && blkC cf.N cf.sc scope [(x, i)] && chkI cf src iter && notSet iter && chkE { cf with sc := rel scope cf.sc } elt e
  | .lco i j elt, .ListComp e [⟨.Name x _, .Name y _, [], as⟩] scope _ => decide (as = 0) && decide (cf.N[i]? = some x) && locB scope x && blkC cf.N cf.sc scope [(x, i)] && chkV cf j y && chkE { cf with sc := rel scope cf.sc } elt e
  | .lci i src c elt, .ListComp e [⟨.Name x _, iter, [g], as⟩] scope _ => decide (as = 0) && decide (cf.N[i]? = some x) && locB scope x && blkC cf.N cf.sc scope [(x, i)] && chkI cf src iter && notSet iter && chkC { cf with sc := rel scope cf.sc } c g && chkE { cf with sc := rel scope cf.sc } elt e
  | _, _ => false
termination_by structural t => t
/-- a test -/
def chkC (cf : Cf) : T → Expr → Bool
  | .cmp o a b, .Compare x [op] [y] _ => isCo op (coP o) && chkE cf a x && chkE cf b y && !behindInMarks op y
  | .chain o o' a b c, .Compare x [op, op'] [y, z] _ => isCo op (coP o) && isCo op' (coP o') && chkE cf a x && chkE cf b y && chkE cf c z && !lastMarks [op, op'] [y, z]
  | .isN a, .Compare x [op] [y] _ => isCo op .Is && isNoneE y && chkE cf a x
  | .notN a, .Compare x [op] [y] _ => isCo op .IsNot && isNoneE y && chkE cf a x
  | .isin a b, .Compare x [op] [y] _ => isCo op .In && chkE cf a x && chkE cf b y && !behindInMarks .In y
  | .notin a b, .Compare x [op] [y] _ => isCo op .NotIn && chkE cf a x && chkE cf b y && !behindInMarks .NotIn y
  | .and a b, .BoolOp op (x :: y :: r) p => isAnd op && chkC cf a x && (if len0 r then chkC cf b y else chkC cf b (.BoolOp op (y :: r) p))
  | .or a b, .BoolOp op (x :: y :: r) p => isOr op && chkC cf a x && (if len0 r then chkC cf b y else chkC cf b (.BoolOp op (y :: r) p))
  | .not a, .UnaryOp op x _ => isUn op .Not && chkC cf a x
  | .v i, .Name x _ => chkV cf i x
  | .call f (.cons t ts), .Call (.Name x _) (e :: es) [] _ => chkF cf f x && chkE cf t e && notStar e && chkEs cf ts es
  | .ix a b, .Subscript x y _ => chkE cf a x && chkE cf b y && notSlice y
  | _, _ => false
termination_by structural t => t
/-- what is walked -/
def chkI (cf : Cf) : T → Expr → Bool
  | .rg1 a, .Call (.Name x _) [e] [] _ => decide (x = ("range" : Str)) && glB cf.sc x && chkE cf a e && notStar e
  | .rg2 a b, .Call (.Name x _) [e, f] [] _ => decide (x = ("range" : Str)) && glB cf.sc x && chkE cf a e && notStar e && chkE cf b f && notStar f
  | .v i, .Name x _ => chkV cf i x
  | .gl n, .Name x _ => chkF cf n x
  | .lst ts, .List es _ => chkEs cf ts es
  | .tup ts, .Tuple es _ _ => chkEs cf ts es
  | .ix a b, .Subscript x y _ => chkE cf a x && chkE cf b y && notSlice y
  | .call f (.cons t ts), .Call (.Name x _) (e :: es) [] _ => chkF cf f x && chkE cf t e && notStar e && chkEs cf ts es
  | _, _ => false
termination_by structural t => t
def chkEs (cf : Cf) : Ts → List Expr → Bool
  | .nil, [] => true
  | .cons t ts, e :: es => chkE cf t e && notStar e && chkEs cf ts es
  | _, _ => false
termination_by structural t => t
end
end Pd

set_option Elab.async false
set_option linter.all false
set_option maxRecDepth 100000
set_option maxHeartbeats 4000000
namespace Pd
open PySem L2

def WE (X : Cx) (e : Expr) : TE := fun σ H Q => ∃ t, PE X e t ∧ t σ H Q
theorem pe_W {X : Cx} {e : Expr} : PE X e (WE X e) := ⟨fun pins s σ H Q I ⟨_, h, q⟩ => h.run pins s σ H Q I q⟩
def WT (X : Cx) (e : Expr) : TT := fun σ H Q => ∃ t, PT X e t ∧ t σ H Q
theorem pt_W {X : Cx} {e : Expr} : PT X e (WT X e) := ⟨fun pins s σ H Q I ⟨_, h, q⟩ => h.run pins s σ H Q I q⟩
def WW (X : Cx) (e : Expr) : TT := fun σ H Q => ∃ t, PW X e t ∧ t σ H Q
theorem pw_W {X : Cx} {e : Expr} : PW X e (WW X e) := ⟨fun wh pins s σ H Q I ⟨_, h, q⟩ => h.run wh pins s σ H Q I q⟩
def WA (X : Cx) (es : List Expr) : TA := fun σ H Q => ∃ t, PA X es t ∧ t σ H Q
theorem pa_W {X : Cx} {es : List Expr} : PA X es (WA X es) := ⟨fun pos pins s σ H Q I ⟨_, h, q⟩ => h.run pos pins s σ H Q I q⟩
def WI (X : Cx) (tg e : Expr) : TI := fun σ H R => ∃ wi, PI X tg e wi ∧ wi σ H R

/-! ### heaps -/
abbrev Ex := Same
structure Gr (Hb H Hb' H' : Hp) : Prop where
  a : Ex Hb Hb'
  b : Ex H H'
  c : Ex Hb' H'
  d : ∀ p o, H p = some o → Hb p = none → Hb' p = none
theorem Gr.trans {Hb H Hb1 H1 Hb2 H2 : Hp} (x : Gr Hb H Hb1 H1) (y : Gr Hb1 H1 Hb2 H2) : Gr Hb H Hb2 H2 :=
  ⟨x.a.trans y.a, x.b.trans y.b, y.c, fun p o h n => y.d p o (x.b p o h) (x.d p o h n)⟩
theorem Gr.refl {Hb H : Hp} (e : Ex Hb H) : Gr Hb H Hb H := ⟨Same.refl _, Same.refl _, e, fun _ _ _ n => n⟩
theorem none_of_ex {Hb H : Hp} (e : Ex Hb H) {p : Addr} (h : H p = none) : Hb p = none := e.free h
theorem ex_upd {H : Hp} {p : Addr} {o : HO} (h : H p = none) : Ex H (upd H p o) := fun a u e => by
  rw [upd_ne (ne_of_none e h)]
  exact e
/-- a new object goes into both -/
theorem Gr.new {Hb H : Hp} (e : Ex Hb H) {p : Addr} (h : H p = none) (o : HO) : Gr Hb H (upd Hb p o) (upd H p o) := by
  refine ⟨ex_upd (none_of_ex e h), ex_upd h, fun a u q => ?_, fun a u q n => ?_⟩
  · by_cases z : a = p
    · rw [z, upd_same] at q ⊢
      exact q
    · rw [upd_ne z] at q ⊢
      exact e a u q
  · have z : a ≠ p := ne_of_none q h
    rw [upd_ne z]
    exact n

theorem rd_mono {H H' : Hp} {a : Addr} {u : HO} (e : Ex H H') (h : Rd H a u) : Rd H' a u := by
  rcases h with h | ⟨o, h⟩
  · exact Or.inl (e a _ h)
  · exact Or.inr ⟨o, e a _ h⟩
theorem sqt_mono {K : PySem.W.Frag} {H H' : Hp} {a : Addr} {xs : List V} (e : Ex H H') (h : SqT K H a xs) : SqT K H' a xs := by
  rcases h with h | h
  · exact Or.inl (rd_mono e h)
  · exact Or.inr h
theorem sql_mono {K : PySem.W.Frag} {H H' : Hp} {a : Addr} {xs : List V} (e : Ex H H') (h : SqL K H a xs) : SqL K H' a xs := e.seq h
mutual
theorem dp_mono {K : PySem.W.Frag} {H H' : Hp} (e : Ex H H') : ∀ (d : PyData) (v : V), Dp K H v d → Dp K H' v d
  | .none, v, h => by cases h; exact .non
  | .bool b, v, h => by cases h; exact .bl b
  | .int i, v, h => by cases h; exact .int i
  | .str x, v, h => by cases h; exact .str x
  | .list ds, v, h => by
    cases h with
    | lst a b => exact .lst (sql_mono e a) (dpa_mono e _ _ b)
  | .tuple ds, v, h => by
    cases h with
    | tup a b => exact .tup (sqt_mono e a) (dpa_mono e _ _ b)
  | .dict _, v, h => nomatch h
theorem dpa_mono {K : PySem.W.Frag} {H H' : Hp} (e : Ex H H') : ∀ (ds : List PyData) (vs : List V), DpAll K H vs ds → DpAll K H' vs ds
  | [], vs, h => by cases h; exact .nil
  | d :: ds, vs, h => by
    cases h with
    | cons a b => exact .cons (dp_mono e _ _ a) (dpa_mono e _ _ b)
end
section
variable {K : PySem.W.Frag} {H : Hp} {v : V} {vs : List V} {ds : List PyData} {d : PyData}
theorem Dp.int_inv {i : Int} (h : Dp K H v (.int i)) : v = .int i := by cases h; rfl
theorem Dp.bl_inv {i : Bool} (h : Dp K H v (.bool i)) : v = .bl i := by cases h; rfl
theorem Dp.non_inv (h : Dp K H v .none) : v = .non := by cases h; rfl
theorem Dp.str_inv {i : Str} (h : Dp K H v (.str i)) : v = .str i := by cases h; rfl
theorem Dp.lst_inv (h : Dp K H v (.list ds)) : ∃ a xs, v = .ref a ∧ SqL K H a xs ∧ DpAll K H xs ds := by
  cases h with
  | lst a b => exact ⟨_, _, rfl, a, b⟩
theorem Dp.tup_inv (h : Dp K H v (.tuple ds)) : ∃ a xs, v = .ref a ∧ SqT K H a xs ∧ DpAll K H xs ds := by
  cases h with
  | tup a b => exact ⟨_, _, rfl, a, b⟩
theorem dpa_len : ∀ {vs : List V} {ds : List PyData}, DpAll K H vs ds → vs.length = ds.length
  | _, _, .nil => rfl
  | _, _, .cons _ t => congrArg (· + 1) (dpa_len t)
theorem dpa_get : ∀ {vs : List V} {ds : List PyData} {i : Nat} {d : PyData}, DpAll K H vs ds → ds[i]? = some d → ∃ v, vs[i]? = some v ∧ Dp K H v d
  | _, _, _, _, .nil, e => by simp at e
  | _, _, 0, _, .cons r _, e => by simp at e; subst e; exact ⟨_, rfl, r⟩
  | _, _, i + 1, x, .cons _ t, e => by
    obtain ⟨u, h1, h2⟩ := dpa_get (i := i) (d := x) t (by simpa using e)
    exact ⟨u, by simpa using h1, h2⟩
theorem dpa_getv : ∀ {vs : List V} {ds : List PyData} {i : Nat} {v : V}, DpAll K H vs ds → vs[i]? = some v → ∃ d, ds[i]? = some d ∧ Dp K H v d
  | _, _, _, _, .nil, e => by simp at e
  | _, _, 0, _, .cons r _, e => by simp at e; subst e; exact ⟨_, rfl, r⟩
  | _, _, i + 1, x, .cons _ t, e => by
    obtain ⟨u, h1, h2⟩ := dpa_getv (i := i) (v := x) t (by simpa using e)
    exact ⟨u, by simpa using h1, h2⟩
theorem dpa_append : ∀ {vs ws : List V} {ds es : List PyData}, DpAll K H vs ds → DpAll K H ws es → DpAll K H (vs ++ ws) (ds ++ es)
  | _, _, _, _, .nil, s => s
  | _, _, _, _, .cons r t, s => .cons r (dpa_append t s)
theorem dpa_take : ∀ {vs : List V} {ds : List PyData} (n : Nat), DpAll K H vs ds → DpAll K H (vs.take n) (ds.take n)
  | _, _, 0, _ => .nil
  | _, _, _ + 1, .nil => .nil
  | _, _, n + 1, .cons r t => .cons r (dpa_take n t)
theorem dpa_drop : ∀ {vs : List V} {ds : List PyData} (n : Nat), DpAll K H vs ds → DpAll K H (vs.drop n) (ds.drop n)
  | _, _, 0, r => r
  | _, _, _ + 1, .nil => .nil
  | _, _, n + 1, .cons _ t => dpa_drop n t
theorem dpa_set {x : V} {u : PyData} (r : Dp K H x u) : ∀ {xs : List V} {us : List PyData} (i : Nat), DpAll K H xs us → DpAll K H (xs.set i x) (us.set i u)
  | _, _, _, .nil => .nil
  | _, _, 0, .cons _ t => .cons r t
  | _, _, i + 1, .cons q t => .cons q (dpa_set r i t)
theorem dpa_ints : ∀ {vs : List V} {ns : List Int}, DpAll K H vs (ns.map PyData.int) → vs = ns.map V.int
  | _, [], .nil => rfl
  | _, n :: ns, .cons a b => by rw [Dp.int_inv a, dpa_ints b]; rfl
theorem dpa_cut (lo hi : Option Int) (h : DpAll K H vs ds) : DpAll K H (cutV vs lo hi) (cutD ds lo hi) := by
  unfold cutV cutD
  rw [dpa_len h]
  exact dpa_take _ (dpa_drop _ h)
theorem atI_dp {i : Int} (h : DpAll K H vs ds) (e : atI ds i = some d) : ∃ v, atI vs i = some v ∧ Dp K H v d := by
  unfold atI at e ⊢
  rw [dpa_len h]
  cases q : ixN ds.length i with
  | none => rw [q] at e; cases e
  | some j =>
    rw [q] at e
    exact dpa_get h e
end

/-! ### what is written in the module -/
mutual
inductive WrD (K : PySem.W.Frag) : V → PyData → Prop
  | non : WrD K .non .none
  | bl (b : Bool) : WrD K (.bl b) (.bool b)
  | int (i : Int) : WrD K (.int i) (.int i)
  | str (x : Str) : WrD K (.str x) (.str x)
  | tup {a : Addr} {o : Obj} {its : Array Value} {n : Nat} {xs : List V} {ds : List PyData} : K.lookup a = some o → o.cls = .type "tuple" → o.dict = none → o.data = .seq its n → its.size ≤ sizeLine → Vals xs its.toList → WrAll K xs ds → WrD K (.ref a) (.tuple ds)
inductive WrAll (K : PySem.W.Frag) : List V → List PyData → Prop
  | nil : WrAll K [] []
  | cons {v : V} {vs : List V} {d : PyData} {ds : List PyData} : WrD K v d → WrAll K vs ds → WrAll K (v :: vs) (d :: ds)
end
mutual
theorem WrD.dp {K : PySem.W.Frag} {H : Hp} : ∀ (d : PyData) (v : V), WrD K v d → Dp K H v d
  | .none, v, h => by cases h; exact .non
  | .bool b, v, h => by cases h; exact .bl b
  | .int i, v, h => by cases h; exact .int i
  | .str x, v, h => by cases h; exact .str x
  | .list ds, v, h => nomatch h
  | .tuple ds, v, h => by
    cases h with
    | tup a b c d e f g => exact .tup (.inr ⟨_, _, _, a, b, d, e, f⟩) (WrAll.dp _ _ g)
  | .dict _, v, h => nomatch h
theorem WrAll.dp {K : PySem.W.Frag} {H : Hp} : ∀ (ds : List PyData) (vs : List V), WrAll K vs ds → DpAll K H vs ds
  | [], vs, h => by cases h; exact .nil
  | d :: ds, vs, h => by
    cases h with
    | cons a b => exact .cons (WrD.dp _ _ a) (WrAll.dp _ _ b)
end
theorem WrD.tup_inv {K : PySem.W.Frag} {v : V} {ds : List PyData} (h : WrD K v (.tuple ds)) : ∃ a o its n xs, v = .ref a ∧ K.lookup a = some o ∧ o.cls = .type "tuple" ∧ o.dict = none ∧ o.data = .seq its n ∧ its.size ≤ sizeLine ∧ Vals xs its.toList ∧ WrAll K xs ds := by
  cases h with
  | tup a b c d e f g => exact ⟨_, _, _, _, _, rfl, a, b, c, d, e, f, g⟩
/-- a written dict, by what it holds -/
def KeyV (K : PySem.W.Frag) (H : Hp) (v : V) (x : PyData) : Prop := Dp K H v x ∧ isKey x = true
structure TabOK (P : Program) (w : World) (K : PySem.W.Frag) (a : Addr) (get : PyData → Option PyData) : Prop where
  low : (a == sysModules) = false
  ob : ∃ o, K.lookup a = some o ∧ o.cls = .type "dict" ∧ o.dict = none
  body : (∃ kvs : List (Key × Value), (∀ h : Heap, K.In h → h.DictOf (mixKind P w) a kvs) ∧ (∀ k : Int, (get (.int k) = none → valueAt kvs (.inl k) = none) ∧ ∀ d, get (.int k) = some d → ∃ u v, valueAt kvs (.inl k) = some u ∧ RelV v u ∧ WrD K v d) ∧ ∀ ds, get (.tuple ds) = none) ∨
    ((∃ xs : List (List Key × Addr × Value), (∀ h : Heap, K.In h → h.DictOfH (tupleKind (mixKind P w)) a xs) ∧ (∀ ks : List Int, (get (.tuple (ks.map PyData.int)) = none → atKey xs (ks.map Sum.inl) = none) ∧ ∀ d, get (.tuple (ks.map PyData.int)) = some d → ∃ p v, atKey xs (ks.map Sum.inl) = some p ∧ RelV v p.2 ∧ WrD K v d)) ∧ ∀ k, get (.int k) = none)
  key : ∀ x d, get x = some d → isKey x = true

/-! ### the state -/
structure En (K : PySem.W.Frag) (Hb H : Hp) (σ : L2.St) (ρ : Rho) : Prop where
  len : σ.length = ρ.length
  ex : Ex Hb H
  dat : ∀ (i : Nat) (d : PyData), ρ[i]? = some (some (B.dat d)) → ∃ v, σ[i]? = some (some v) ∧ Dp K Hb v d
  own : ∀ (i : Nat) (ds : List PyData), ρ[i]? = some (some (B.own ds)) → ∃ (p : Addr) (vs : List V), σ[i]? = some (some (V.ref p)) ∧ Hb p = none ∧ H p = some (.lst vs) ∧ DpAll K Hb vs ds
  wri : ∀ (i : Nat) (d : PyData), ρ[i]? = some (some (B.wri d)) → ∃ v, σ[i]? = some (some v) ∧ WrD K v d
  dis : ∀ (i j : Nat) (p : Addr) (ds es : List PyData), ρ[i]? = some (some (B.own ds)) → ρ[j]? = some (some (B.own es)) → σ[i]? = some (some (V.ref p)) → σ[j]? = some (some (V.ref p)) → i = j
theorem En.mono {K : PySem.W.Frag} {Hb H Hb' H' : Hp} {σ : L2.St} {ρ : Rho} (x : En K Hb H σ ρ) (g : Gr Hb H Hb' H') : En K Hb' H' σ ρ := by
  refine ⟨x.len, g.c, fun i d e => ?_, fun i ds e => ?_, x.wri, x.dis⟩
  · obtain ⟨v, h1, h2⟩ := x.dat i d e
    exact ⟨v, h1, dp_mono g.a _ _ h2⟩
  · obtain ⟨p, vs, h1, h2, h3, h4⟩ := x.own i ds e
    exact ⟨p, vs, h1, g.d p _ h3 h2, g.b _ _ h3, dpa_mono g.a _ _ h4⟩
/-- a slot gets data -/
theorem En.setD {K : PySem.W.Frag} {Hb H : Hp} {σ : L2.St} {ρ : Rho} {i : Nat} {v : V} {d : PyData} (x : En K Hb H σ ρ) (h : Dp K Hb v d) : En K Hb H (σ.set i (some v)) (ρ.set i (some (.dat d))) := by
  refine ⟨by rw [List.length_set, List.length_set]; exact x.len, x.ex, fun j e h1 => ?_, fun j ds h1 => ?_, fun j e h1 => ?_, fun j k p ds es h1 h2 h3 h4 => ?_⟩
  · by_cases z : i = j
    · subst z
      by_cases l : i < ρ.length
      · rw [List.getElem?_set_self l] at h1
        cases h1
        exact ⟨v, by rw [List.getElem?_set_self (by rw [x.len]; exact l)], h⟩
      · rw [List.getElem?_eq_none (by rw [List.length_set]; omega)] at h1
        cases h1
    · rw [List.getElem?_set_ne z] at h1
      rw [List.getElem?_set_ne z]
      exact x.dat j e h1
  · by_cases z : i = j
    · subst z
      by_cases l : i < ρ.length
      · rw [List.getElem?_set_self l] at h1
        cases h1
      · rw [List.getElem?_eq_none (by rw [List.length_set]; omega)] at h1
        cases h1
    · rw [List.getElem?_set_ne z] at h1
      rw [List.getElem?_set_ne z]
      exact x.own j ds h1
  · by_cases z : i = j
    · subst z
      by_cases l : i < ρ.length
      · rw [List.getElem?_set_self l] at h1
        cases h1
      · rw [List.getElem?_eq_none (by rw [List.length_set]; omega)] at h1
        cases h1
    · rw [List.getElem?_set_ne z] at h1
      rw [List.getElem?_set_ne z]
      exact x.wri j e h1
  · have zj : i ≠ j := fun z => by
      subst z
      by_cases l : i < ρ.length
      · rw [List.getElem?_set_self l] at h1
        cases h1
      · rw [List.getElem?_eq_none (by rw [List.length_set]; omega)] at h1
        cases h1
    have zk : i ≠ k := fun z => by
      subst z
      by_cases l : i < ρ.length
      · rw [List.getElem?_set_self l] at h2
        cases h2
      · rw [List.getElem?_eq_none (by rw [List.length_set]; omega)] at h2
        cases h2
    rw [List.getElem?_set_ne zj] at h1 h3
    rw [List.getElem?_set_ne zk] at h2 h4
    exact x.dis j k p ds es h1 h2 h3 h4
/-- a slot gets a written datum -/
theorem En.setW {K : PySem.W.Frag} {Hb H : Hp} {σ : L2.St} {ρ : Rho} {i : Nat} {v : V} {d : PyData} (x : En K Hb H σ ρ) (h : WrD K v d) : En K Hb H (σ.set i (some v)) (ρ.set i (some (.wri d))) := by
  refine ⟨by rw [List.length_set, List.length_set]; exact x.len, x.ex, fun j e h1 => ?_, fun j ds h1 => ?_, fun j e h1 => ?_, fun j k p ds es h1 h2 h3 h4 => ?_⟩
  · by_cases z : i = j
    · subst z
      by_cases l : i < ρ.length
      · rw [List.getElem?_set_self l] at h1
        cases h1
      · rw [List.getElem?_eq_none (by rw [List.length_set]; omega)] at h1
        cases h1
    · rw [List.getElem?_set_ne z] at h1
      rw [List.getElem?_set_ne z]
      exact x.dat j e h1
  · by_cases z : i = j
    · subst z
      by_cases l : i < ρ.length
      · rw [List.getElem?_set_self l] at h1
        cases h1
      · rw [List.getElem?_eq_none (by rw [List.length_set]; omega)] at h1
        cases h1
    · rw [List.getElem?_set_ne z] at h1
      rw [List.getElem?_set_ne z]
      exact x.own j ds h1
  · by_cases z : i = j
    · subst z
      by_cases l : i < ρ.length
      · rw [List.getElem?_set_self l] at h1
        cases h1
        exact ⟨v, by rw [List.getElem?_set_self (by rw [x.len]; exact l)], h⟩
      · rw [List.getElem?_eq_none (by rw [List.length_set]; omega)] at h1
        cases h1
    · rw [List.getElem?_set_ne z] at h1
      rw [List.getElem?_set_ne z]
      exact x.wri j e h1
  · have zj : i ≠ j := fun z => by
      subst z
      by_cases l : i < ρ.length
      · rw [List.getElem?_set_self l] at h1
        cases h1
      · rw [List.getElem?_eq_none (by rw [List.length_set]; omega)] at h1
        cases h1
    have zk : i ≠ k := fun z => by
      subst z
      by_cases l : i < ρ.length
      · rw [List.getElem?_set_self l] at h2
        cases h2
      · rw [List.getElem?_eq_none (by rw [List.length_set]; omega)] at h2
        cases h2
    rw [List.getElem?_set_ne zj] at h1 h3
    rw [List.getElem?_set_ne zk] at h2 h4
    exact x.dis j k p ds es h1 h2 h3 h4
/-- a slot forgotten, a slot gets data -/
theorem En.wipe1 {K : PySem.W.Frag} {Hb H : Hp} {σ : L2.St} {ρ : Rho} {i : Nat} {v : V} {d : PyData} (x : En K Hb H σ ρ) (h : Dp K Hb v d) : En K Hb H ((wipe σ [i]).set i (some v)) (ρ.set i (some (.dat d))) := by
  have e : (wipe σ [i]).set i (some v) = σ.set i (some v) := by
    show (σ.set i none).set i (some v) = _
    rw [List.set_set]
  rw [e]
  exact x.setD h

/-! ### what a context must say -/
def spD (K : PySem.W.Frag) (g : List PyData → Option PyData) : Sp := fun vs H Q _ => ∃ (Hb : Hp) (ds : List PyData) (d : PyData), Ex Hb H ∧ DpAll K Hb vs ds ∧ g ds = some d ∧
  ∀ v Hb' H', Gr Hb H Hb' H' → Dp K Hb' v d → Q v H'
structure GOK (cf : Cf) (P : Program) (w : World) (K : PySem.W.Frag) (mg : Str → Option Value) (base : Heap) (G : Ga) : Prop where
  blt : ∀ b : Bl, mg (blN b) = none
  rng : mg "range" = none
  con : ∀ n x, cf.names[n]? = some x → ∀ d, G.con n = some d → ∃ v u, mg x = some u ∧ RelV v u ∧ ∀ H, Dp K H v d
  fn : ∀ n x, cf.names[n]? = some x → G.isFn n = true → ∃ f fd ps, mg x = some (.ref f) ∧ PySem.W.keepIn K (.ref f) = true ∧ Binds K fd ps [] ∧ FnOk P w K mg base CX0 cf.L f fd ps (spD K (G.fn n))
  tab : ∀ n x, cf.names[n]? = some x → G.isTab n = true → ∃ a, mg x = some (.ref a) ∧ TabOK P w K a (G.tab n)
structure XOK (X : Cx) (cf : Cf) (G : Ga) : Prop where
  N : X.N = cf.N
  nd : cf.N.Nodup
  sc : X.env.scope = cf.sc
  calm : X.calm = true
  room : Room cf.L X.A
  xe : X.xe = fun _ _ => False
  glb : GOK cf X.prog X.w X.K X.mg X.base G
end Pd

set_option Elab.async false
set_option linter.all false
set_option maxRecDepth 100000
set_option maxHeartbeats 4000000
namespace Pd
open PySem L2

/-- a walk over plain data -/
structure ItOk (K : PySem.W.Frag) (J : It) (Hb : Hp) (xs : List PyData) : Prop where
  go : ∀ i Hb2 H2, Ex Hb Hb2 → Ex Hb2 H2 → i < xs.length → J.go i H2
  stop : ∀ Hb2 H2, Ex Hb Hb2 → Ex Hb2 H2 → J.stop xs.length H2
  yld : ∀ i x Hb2 H2 H3, Ex Hb Hb2 → Ex Hb2 H2 → i < xs.length → J.yld i H2 x H3 → H3 = H2 ∧ ∃ d, xs[i]? = some d ∧ Dp K Hb2 x d

def SE (X : Cx) (G : Ga) (t : T) (e : Expr) : Prop := ∀ (Hb H : Hp) (σ : L2.St) (ρ : Rho) (P : PyData → Prop) (Q : VK), En X.K Hb H σ ρ → wE G t ρ P → (∀ d v Hb' H', P d → Gr Hb H Hb' H' → Dp X.K Hb' v d → Q v H') → WE X e σ H Q
def ST (X : Cx) (G : Ga) (t : T) (e : Expr) : Prop := ∀ (Hb H : Hp) (σ : L2.St) (ρ : Rho) (P : PyData → Prop) (Q : Bool → Hp → Prop), En X.K Hb H σ ρ → wE G t ρ (fun d => wBool d fun b => P (.bool b)) → (∀ b Hb' H', P (.bool b) → Gr Hb H Hb' H' → Q b H') → WT X e σ H Q
def SI (X : Cx) (G : Ga) (t : T) (tg e : Expr) : Prop := ∀ (Hb H : Hp) (σ : L2.St) (ρ : Rho) (P : List PyData → Prop) (R : It → Hp → Prop), En X.K Hb H σ ρ → wI G t ρ P → (∀ xs J Hb' H', P xs → Gr Hb H Hb' H' → ItOk X.K J Hb' xs → R J H') → WI X tg e σ H R
def SA (X : Cx) (G : Ga) (ts : Ts) (es : List Expr) : Prop := ∀ (Hb H : Hp) (σ : L2.St) (ρ : Rho) (P : List PyData → Prop) (Q : List V → Hp → Prop), En X.K Hb H σ ρ → wEs G ts ρ P → (∀ ds vs Hb' H', P ds → Gr Hb H Hb' H' → DpAll X.K Hb' vs ds → Q vs H') → WA X es σ H Q
def M1 (G : Ga) (t : T) : Prop := (∀ cf X e, XOK X cf G → chkE cf t e = true → SE X G t e) ∧ (∀ cf X e, XOK X cf G → chkC cf t e = true → ST X G t e) ∧ (∀ cf X e tg, XOK X cf G → chkI cf t e = true → SI X G t tg e)
def M2 (G : Ga) (ts : Ts) : Prop := ∀ cf X es, XOK X cf G → chkEs cf ts es = true → SA X G ts es

section
variable {X : Cx} {G : Ga} {cf : Cf} {a b c : T} {x y z : Expr} {Hb H : Hp} {σ : L2.St} {ρ : Rho}

theorem two (ha : SE X G a x) (hb : SE X G b y) {R : PyData → PyData → Prop} {Q : V → V → Hp → Prop} (I : En X.K Hb H σ ρ) (w : wE G a ρ fun d => wE G b ρ fun e => R d e)
    (q : ∀ d e v u Hb' H', R d e → Gr Hb H Hb' H' → Dp X.K Hb' v d → Dp X.K Hb' u e → Q v u H') : WE X x σ H fun v H1 => WE X y σ H1 fun u H2 => Q v u H2 :=
  ha _ _ _ _ _ _ I w fun d v Hb1 H1 w1 g1 r1 => hb _ _ _ _ _ _ (I.mono g1) w1 fun e u Hb2 H2 w2 g2 r2 => q d e v u Hb2 H2 w2 (g1.trans g2) (dp_mono g2.a _ _ r1) r2

theorem notStar_eq {e : Expr} {es : List Expr} {env : Env} (h : notStar e = true) : starEach (e :: es) env = (false, eval e env) :: starEach es env := by
  cases e <;> first | rfl | cases h
theorem vis_of {sc : Scope} {x : Str} (h : visB sc x = true) : Vis sc x := by
  unfold visB at h
  split at h
  · exact .inl ‹_›
  · exact .inr (.inl ‹_›)
  · exact .inr (.inr ‹_›)
  · cases h
theorem loc_of {sc : Scope} {x : Str} (h : locB sc x = true) : Loc sc x := by
  unfold locB at h
  split at h
  · exact .inl ‹_›
  · exact .inr ‹_›
  · cases h
theorem gl_of (ok : XOK X cf G) {x : Str} (h : glB cf.sc x = true) : Gl X x := by
  unfold glB at h
  split at h
  · show X.env.scope.names.lookup x = _
    rw [ok.sc]
    assumption
  · cases h
theorem nm1 {x : Str} (h : nameOk x = true) : (x == ("__debug__" : Str)) = false := by
  unfold nameOk at h
  rw [Bool.and_eq_true] at h
  have := h.1
  cases q : (x == ("__debug__" : Str)) with
  | true => rw [q] at this; cases this
  | false => rfl
theorem nm2 {x : Str} (h : nameOk x = true) : (x == ("__classdict__" : Str)) = false := by
  unfold nameOk at h
  rw [Bool.and_eq_true] at h
  have := h.2
  cases q : (x == ("__classdict__" : Str)) with
  | true => rw [q] at this; cases this
  | false => rfl
theorem chkV_of {i : Nat} {x : Str} (h : chkV cf i x = true) : cf.N[i]? = some x ∧ visB cf.sc x = true ∧ nameOk x = true := by
  unfold chkV at h
  rw [Bool.and_eq_true, Bool.and_eq_true, decide_eq_true_eq] at h
  exact ⟨h.1.1, h.1.2, h.2⟩
theorem chkF_of {i : Nat} {x : Str} (h : chkF cf i x = true) : cf.names[i]? = some x ∧ glB cf.sc x = true ∧ nameOk x = true := by
  unfold chkF at h
  rw [Bool.and_eq_true, Bool.and_eq_true, decide_eq_true_eq] at h
  exact ⟨h.1.1, h.1.2, h.2⟩
theorem hu64 (ok : XOK X cf G) : X.A.units + 65 < cLine := by
  have := ok.room.un
  omega

theorem sv (ok : XOK X cf G) {i : Nat} {n : Str} {p : Pos} (h : chkV cf i n = true) : SE X G (.v i) (.Name n p) := by
  intro Hb H σ ρ P Q I w q
  obtain ⟨h1, h2, h3⟩ := chkV_of h
  refine ⟨_, pe_var (i := i) (by rw [ok.N]; exact h1) (vis_of (by rw [ok.sc]; exact h2)) (nm1 h3) (nm2 h3), ?_⟩
  unfold wE at w
  split at w
  · rename_i d e
    obtain ⟨v, e1, e2⟩ := I.dat i d e
    exact ⟨v, e1, q d v Hb H w (Gr.refl I.ex) e2⟩
  · rename_i d e
    obtain ⟨v, e1, e2⟩ := I.wri i d e
    exact ⟨v, e1, q d v Hb H w (Gr.refl I.ex) (WrD.dp _ _ e2)⟩
  · exact w.elim
theorem sk {d : PyData} {e : Expr} (h : isConst d e = true) : SE X G (.k d) e := by
  intro Hb H σ ρ P Q I w q
  unfold isConst at h
  split at h
  · exact ⟨_, pe_non, q _ _ _ _ w (Gr.refl I.ex) .non⟩
  · have e := eq_of_beq h
    subst e
    exact ⟨_, pe_bl, q _ _ _ _ w (Gr.refl I.ex) (.bl _)⟩
  · have e := of_decide_eq_true h
    subst e
    exact ⟨_, pe_int, q _ _ _ _ w (Gr.refl I.ex) (.int _)⟩
  · have e := of_decide_eq_true h
    subst e
    exact ⟨_, pe_str, q _ _ _ _ w (Gr.refl I.ex) (.str _)⟩
  · cases h
theorem sgl (ok : XOK X cf G) {n : Nat} {s : Str} {p : Pos} (h : chkF cf n s = true) : SE X G (.gl n) (.Name s p) := by
  intro Hb H σ ρ P Q I w q
  obtain ⟨h1, h2, h3⟩ := chkF_of h
  obtain ⟨d, e0, w⟩ := w
  obtain ⟨v, u, e1, e2, e3⟩ := ok.glb.con n s h1 d e0
  exact ⟨_, pe_glob (gl_of ok h2) e1 e2 (nm1 h3), q _ v Hb H w (Gr.refl I.ex) (e3 _)⟩
theorem sbin {o : BO} {op : Operator} {p : Pos} (e : isOp op (boP o) = true) (ha : SE X G a x) (hb : SE X G b y) : SE X G (.bin o a b) (.BinOp x op y p) := by
  intro Hb H σ ρ P Q I w q
  cases isOp_eq e
  have key : ∀ {r : R2}, OpR X (binaryOp (boP o)) r → (∀ i j H', (opI o i j fun d => ∃ k, d = .int k ∧ Q (.int k) H') → r (.int i) (.int j) H' Q) → WE X (.BinOp x (boP o) y p) σ H Q := fun {r} ho hr => by
    refine ⟨_, pe_op ho pe_W pe_W, ?_⟩
    refine two ha hb I w fun d e v u Hb' H' w' g r1 r2 => ?_
    unfold wBin at w'
    split at w'
    · rename_i i j
      cases Dp.int_inv r1
      cases Dp.int_inv r2
      refine hr i j H' ?_
      cases o
      all_goals (first | exact ⟨_, rfl, q _ _ Hb' H' w' g (.int _)⟩ | exact ⟨w'.1, _, rfl, q _ _ Hb' H' w'.2 g (.int _)⟩)
    · exact w'.elim
  cases o
  · exact key op_add fun i j H' ⟨k, e, z⟩ => ⟨i, j, rfl, rfl, by cases e; exact z⟩
  · exact key op_sub fun i j H' ⟨k, e, z⟩ => ⟨i, j, rfl, rfl, by cases e; exact z⟩
  · exact key op_mul fun i j H' ⟨c, k, e, z⟩ => ⟨i, j, rfl, rfl, c, by cases e; exact z⟩
  · exact key op_fdiv fun i j H' ⟨c, k, e, z⟩ => ⟨i, j, rfl, rfl, c, by cases e; exact z⟩
  · exact key op_mod fun i j H' ⟨c, k, e, z⟩ => ⟨i, j, rfl, rfl, c, by cases e; exact z⟩
  · exact key op_pow fun i j H' ⟨c, k, e, z⟩ => ⟨i, j, rfl, rfl, c, by cases e; exact z⟩
theorem sneg {p : Pos} (ha : SE X G a x) : SE X G (.neg a) (.UnaryOp .USub x p) := by
  intro Hb H σ ρ P Q I w q
  refine ⟨_, pe_un un_neg pe_W, ?_⟩
  refine ha _ _ _ _ _ _ I w fun d v Hb' H' w' g r => ?_
  unfold wNeg at w'
  split at w'
  · cases Dp.int_inv r
    exact ⟨_, rfl, q _ _ Hb' H' w' g (.int _)⟩
  · exact w'.elim
/-- comparisons by values -/
theorem cmpR (ok : XOK X cf G) {o : CO} : ∃ r : R2, OpR X (compareOp (coP o)) r ∧ ∀ d e v u (Hb H : Hp) (R : Bool → Prop) (Q : VK), wCmp o d e R → Ex Hb H → Dp X.K Hb v d → Dp X.K Hb u e → (∀ b, R b → Q (.bl b) H) → r v u H Q := by
  have hint : ∀ {p : Int → Int → Bool} {d e : PyData} {v u : V} {Hb H : Hp} {R : Bool → Prop} {Q : VK}, (match d, e with | .int i, .int j => R (p i j) | _, _ => False) → Dp X.K Hb v d → Dp X.K Hb u e → (∀ b, R b → Q (.bl b) H) →
      ∃ i j, v = .int i ∧ u = .int j ∧ Q (.bl (p i j)) H := fun {p d e v u Hb H R Q} w r1 r2 q => by
    split at w
    · cases Dp.int_inv r1
      cases Dp.int_inv r2
      exact ⟨_, _, rfl, rfl, q _ w⟩
    · exact w.elim
  cases o
  · exact ⟨_, op_lt, fun d e v u Hb H R Q w ex r1 r2 q => hint (p := fun i j => decide (i < j)) w r1 r2 q⟩
  · exact ⟨_, op_le, fun d e v u Hb H R Q w ex r1 r2 q => hint (p := fun i j => decide (i ≤ j)) w r1 r2 q⟩
  · exact ⟨_, op_gt, fun d e v u Hb H R Q w ex r1 r2 q => hint (p := fun i j => decide (j < i)) w r1 r2 q⟩
  · exact ⟨_, op_ge, fun d e v u Hb H R Q w ex r1 r2 q => hint (p := fun i j => decide (j ≤ i)) w r1 r2 q⟩
  · exact ⟨_, op_eqD (by have := hu64 ok; omega), fun d e v u Hb H R Q w ex r1 r2 q => ⟨d, e, dp_mono ex _ _ r1, dp_mono ex _ _ r2, w.1, w.2.1, q _ w.2.2⟩⟩
  · exact ⟨_, op_neD (by have := hu64 ok; omega), fun d e v u Hb H R Q w ex r1 r2 q => ⟨d, e, dp_mono ex _ _ r1, dp_mono ex _ _ r2, w.1, w.2.1, q _ w.2.2⟩⟩
theorem not_t {b : Bool} (h : (!b) = true) : b = false := by
  cases b
  · rfl
  · cases h
theorem scmp (ok : XOK X cf G) {o : CO} {op : CmpOp} {p : Pos} (e : isCo op (coP o) = true) (hm : (!behindInMarks op y) = true) (ha : SE X G a x) (hb : SE X G b y) : SE X G (.cmp o a b) (.Compare x [op] [y] p) := by
  intro Hb H σ ρ P Q I w q
  cases isCo_eq e
  obtain ⟨r, ho, hr⟩ := cmpR ok (o := o)
  refine ⟨_, pe_cmpR ho pe_W pe_W (not_t hm), ?_⟩
  exact two ha hb I w fun d e v u Hb' H' w' g r1 r2 => hr d e v u Hb' H' _ _ w' g.c r1 r2 fun b z => q _ _ Hb' H' z g (.bl b)
theorem tcmp (ok : XOK X cf G) {o : CO} {op : CmpOp} {p : Pos} (e : isCo op (coP o) = true) (hm : (!behindInMarks op y) = true) (ha : SE X G a x) (hb : SE X G b y) : ST X G (.cmp o a b) (.Compare x [op] [y] p) := by
  intro Hb H σ ρ P Q I w q
  cases isCo_eq e
  obtain ⟨r, ho, hr⟩ := cmpR ok (o := o)
  refine ⟨_, pt_cmpR ho pe_W pe_W (not_t hm), ?_⟩
  refine two ha hb I w fun d e v u Hb' H' w' g r1 r2 => hr d e v u Hb' H' _ _ w' g.c r1 r2 fun b z => ⟨b, rfl, q b Hb' H' z g⟩
theorem schain (ok : XOK X cf G) {o o' : CO} {op op' : CmpOp} {p : Pos} (e : isCo op (coP o) = true) (e' : isCo op' (coP o') = true) (hm : (!lastMarks [op, op'] [y, z]) = true) (ha : SE X G a x) (hb : SE X G b y) (hc : SE X G c z) :
    SE X G (.chain o o' a b c) (.Compare x [op, op'] [y, z] p) := by
  intro Hb H σ ρ P Q I w q
  cases isCo_eq e
  cases isCo_eq e'
  obtain ⟨r, ho, hr⟩ := cmpR ok (o := o)
  obtain ⟨r', ho', hr'⟩ := cmpR ok (o := o')
  refine ⟨_, pe_chain ho ho' pe_W pe_W pe_W (not_t hm), ?_⟩
  refine two ha hb I w fun d e v u Hb' H' w' g r1 r2 => hr d e v u Hb' H' _ _ w' g.c r1 r2 fun k z => ⟨k, rfl, ?_⟩
  cases k with
  | true =>
    rw [if_pos rfl]
    exact hc _ _ _ _ _ _ (I.mono g) (z.1 rfl) fun f t Hb2 H2 w2 g2 r3 => hr' e f u t Hb2 H2 _ _ w2 g2.c (dp_mono g2.a _ _ r2) r3 fun b z => q _ _ Hb2 H2 z (g.trans g2) (.bl b)
  | false =>
    rw [if_neg (by decide)]
    exact q _ _ Hb' H' (z.2 rfl) g (.bl false)
theorem tchain (ok : XOK X cf G) {o o' : CO} {op op' : CmpOp} {p : Pos} (e : isCo op (coP o) = true) (e' : isCo op' (coP o') = true) (hm : (!lastMarks [op, op'] [y, z]) = true) (ha : SE X G a x) (hb : SE X G b y) (hc : SE X G c z) :
    ST X G (.chain o o' a b c) (.Compare x [op, op'] [y, z] p) := by
  intro Hb H σ ρ P Q I w q
  cases isCo_eq e
  cases isCo_eq e'
  obtain ⟨r, ho, hr⟩ := cmpR ok (o := o)
  obtain ⟨r', ho', hr'⟩ := cmpR ok (o := o')
  refine ⟨_, pt_chain ho ho' pe_W pe_W pe_W (not_t hm), ?_⟩
  refine two ha hb I w fun d e v u Hb' H' w' g r1 r2 => hr d e v u Hb' H' _ _ w' g.c r1 r2 fun k z => ⟨k, rfl, ?_⟩
  cases k with
  | true =>
    rw [if_pos rfl]
    exact hc _ _ _ _ _ _ (I.mono g) (z.1 rfl) fun f t Hb2 H2 w2 g2 r3 => hr' e f u t Hb2 H2 _ _ w2 g2.c (dp_mono g2.a _ _ r2) r3 fun b z => ⟨b, rfl, q b Hb2 H2 z (g.trans g2)⟩
  | false =>
    rw [if_neg (by decide)]
    exact ⟨false, rfl, q _ Hb' H' (z.2 rfl) g⟩
theorem isNone_dp {K : PySem.W.Frag} {v : V} {d : PyData} (r : Dp K H v d) : decide (v = .non) = isNone d := by
  cases r <;> rfl
theorem sisN {p p' : Pos} {j : Nat} (ha : SE X G a x) : SE X G (.isN a) (.Compare x [.Is] [.Constant .none j p'] p) := by
  intro Hb H σ ρ P Q I w q
  refine ⟨_, pe_cmpR op_isN pe_W pe_non rfl, ?_⟩
  exact ha _ _ _ _ _ _ I w fun d v Hb' H' w' g r => ⟨rfl, by rw [isNone_dp r]; exact q _ _ Hb' H' w' g (.bl _)⟩
theorem tisN {p p' : Pos} {j : Nat} (ha : SE X G a x) : ST X G (.isN a) (.Compare x [.Is] [.Constant .none j p'] p) := by
  intro Hb H σ ρ P Q I w q
  refine ⟨_, pt_cmpR op_isN pe_W pe_non rfl, ?_⟩
  exact ha _ _ _ _ _ _ I w fun d v Hb' H' w' g r => ⟨rfl, _, rfl, by rw [isNone_dp r]; exact q _ Hb' H' w' g⟩
theorem snotN {p p' : Pos} {j : Nat} (ha : SE X G a x) : SE X G (.notN a) (.Compare x [.IsNot] [.Constant .none j p'] p) := by
  intro Hb H σ ρ P Q I w q
  refine ⟨_, pe_cmpR op_notN pe_W pe_non rfl, ?_⟩
  exact ha _ _ _ _ _ _ I w fun d v Hb' H' w' g r => ⟨rfl, by rw [isNone_dp r]; exact q _ _ Hb' H' w' g (.bl _)⟩
theorem tnotN {p p' : Pos} {j : Nat} (ha : SE X G a x) : ST X G (.notN a) (.Compare x [.IsNot] [.Constant .none j p'] p) := by
  intro Hb H σ ρ P Q I w q
  refine ⟨_, pt_cmpR op_notN pe_W pe_non rfl, ?_⟩
  exact ha _ _ _ _ _ _ I w fun d v Hb' H' w' g r => ⟨rfl, _, rfl, by rw [isNone_dp r]; exact q _ Hb' H' w' g⟩
end
end Pd

set_option Elab.async false
set_option linter.all false
set_option maxRecDepth 100000
set_option maxHeartbeats 4000000
namespace Pd
open PySem L2
section
variable {X : Cx} {G : Ga} {cf : Cf} {a b c : T} {x y z : Expr} {Hb H : Hp} {σ : L2.St} {ρ : Rho}

theorem flat_dp {K : PySem.W.Frag} {v : V} {d : PyData} (r : Dp K H v d) (f : flatD d = true) : flatV v = true := by
  cases r <;> first | rfl | cases f
theorem eqv_dp {K : PySem.W.Frag} {v u : V} {d e : PyData} (r : Dp K H v d) (r' : Dp K H u e) (f : flatD d = true) (f' : flatD e = true) : eqV v u = PyData.eqv d e := by
  cases r <;> cases r' <;> first | rfl | cases f | cases f' | (simp [eqV, PyData.eqv])
theorem all_flat {K : PySem.W.Frag} : ∀ {vs : List V} {ds : List PyData}, DpAll K H vs ds → ds.all flatD = true → vs.all flatV = true
  | _, _, .nil, _ => rfl
  | _, _, .cons r t, f => by
    rw [List.all_cons, Bool.and_eq_true] at f ⊢
    exact ⟨flat_dp r f.1, all_flat t f.2⟩
theorem any_dp {K : PySem.W.Frag} {v : V} {d : PyData} (r : Dp K H v d) (f : flatD d = true) : ∀ {vs : List V} {ds : List PyData}, DpAll K H vs ds → ds.all flatD = true → inV v vs = ds.any fun z => PyData.eqv z d
  | _, _, .nil, _ => rfl
  | _, _, .cons r' t, g => by
    rw [List.all_cons, Bool.and_eq_true] at g
    have ih := any_dp r f t g.2
    unfold inV at ih ⊢
    rw [List.any_cons, List.any_cons, eqv_dp r' r g.1 f, ih]
/-- membership, both readings at once -/
def rInB (K : PySem.W.Frag) (neg : Bool) : R2 := fun x y H Q => rIn K neg x y H Q ∨ (if neg = true then rNotInD K x y H Q else rInD K x y H Q)
theorem op_inB (ok : XOK X cf G) : OpR X (compareOp .In) (rInB X.K false) := by
  intro pins s σ H x y v u Q I rx ry h
  rcases h with h | h
  · exact op_in_seq pins s σ H x y v u Q I rx ry h
  · exact op_inD (hu64 ok) pins s σ H x y v u Q I rx ry h
theorem op_niB (ok : XOK X cf G) : OpR X (compareOp .NotIn) (rInB X.K true) := by
  intro pins s σ H x y v u Q I rx ry h
  rcases h with h | h
  · exact op_notIn_seq pins s σ H x y v u Q I rx ry h
  · exact op_notInD (hu64 ok) pins s σ H x y v u Q I rx ry h
theorem in_of {K : PySem.W.Frag} {neg : Bool} {d e : PyData} {v u : V} {Hb H : Hp} {R : Bool → Prop} {Q : VK} (w : wIn d e R) (ex : Ex Hb H) (r1 : Dp K Hb v d) (r2 : Dp K Hb u e) (q : ∀ b, R b → Q (.bl (if neg then !b else b)) H) : rInB K neg v u H Q := by
  cases e with
  | list ds =>
    right
    cases neg with
    | true => exact ⟨d, ds, dp_mono ex _ _ r1, dp_mono ex _ _ r2, w.1, w.2.1, q _ w.2.2⟩
    | false => exact ⟨d, ds, dp_mono ex _ _ r1, dp_mono ex _ _ r2, w.1, w.2.1, q _ w.2.2⟩
  | tuple ds =>
    left
    obtain ⟨p, xs, rfl, h1, h2⟩ := Dp.tup_inv r2
    refine ⟨p, xs, rfl, Or.inr (sqt_mono ex h1), flat_dp r1 w.1, all_flat h2 w.2.1, ?_⟩
    rw [any_dp r1 w.1 h2 w.2.1]
    exact q _ w.2.2
  | _ => exact (show False from w).elim
theorem sisin (ok : XOK X cf G) {p : Pos} (hm : (!behindInMarks .In y) = true) (ha : SE X G a x) (hb : SE X G b y) : SE X G (.isin a b) (.Compare x [.In] [y] p) := by
  intro Hb H σ ρ P Q I w q
  refine ⟨_, pe_cmpR (op_inB ok) pe_W pe_W (not_t hm), ?_⟩
  exact two ha hb I w fun d e v u Hb' H' w' g r1 r2 => in_of w' g.c r1 r2 fun b z => q _ _ Hb' H' z g (.bl b)
theorem tisin (ok : XOK X cf G) {p : Pos} (hm : (!behindInMarks .In y) = true) (ha : SE X G a x) (hb : SE X G b y) : ST X G (.isin a b) (.Compare x [.In] [y] p) := by
  intro Hb H σ ρ P Q I w q
  refine ⟨_, pt_cmpR (op_inB ok) pe_W pe_W (not_t hm), ?_⟩
  exact two ha hb I w fun d e v u Hb' H' w' g r1 r2 => in_of w' g.c r1 r2 fun b z => ⟨b, rfl, q b Hb' H' z g⟩
theorem snotin (ok : XOK X cf G) {p : Pos} (hm : (!behindInMarks .NotIn y) = true) (ha : SE X G a x) (hb : SE X G b y) : SE X G (.notin a b) (.Compare x [.NotIn] [y] p) := by
  intro Hb H σ ρ P Q I w q
  refine ⟨_, pe_cmpR (op_niB ok) pe_W pe_W (not_t hm), ?_⟩
  exact two ha hb I w fun d e v u Hb' H' w' g r1 r2 => in_of w' g.c r1 r2 fun b z => q _ _ Hb' H' z g (.bl (!b))
theorem tnotin (ok : XOK X cf G) {p : Pos} (hm : (!behindInMarks .NotIn y) = true) (ha : SE X G a x) (hb : SE X G b y) : ST X G (.notin a b) (.Compare x [.NotIn] [y] p) := by
  intro Hb H σ ρ P Q I w q
  refine ⟨_, pt_cmpR (op_niB ok) pe_W pe_W (not_t hm), ?_⟩
  exact two ha hb I w fun d e v u Hb' H' w' g r1 r2 => in_of w' g.c r1 r2 fun b z => ⟨!b, rfl, q _ Hb' H' z g⟩
theorem wBool_inv {d : PyData} {R : Bool → Prop} (w : wBool d R) : ∃ b, d = .bool b ∧ R b := by
  unfold wBool at w
  split at w
  · exact ⟨_, rfl, w⟩
  · exact w.elim
theorem len0_nil {α : Type} {r : List α} (h : len0 r = true) : r = [] := by
  cases r with
  | nil => rfl
  | cons _ _ => cases h
theorem sand {r : List Expr} {p : Pos} (ha : SE X G a x) (hb : (if len0 r = true then SE X G b y else SE X G b (.BoolOp .And (y :: r) p))) : SE X G (.and a b) (.BoolOp .And (x :: y :: r) p) := by
  intro Hb H σ ρ P Q I w q
  have hb' : PE X (.BoolOp .And (y :: r) p) (if len0 r = true then WE X y else WE X (.BoolOp .And (y :: r) p)) := by
    by_cases h : len0 r = true
    · cases len0_nil h
      exact pe_one pe_W
    · rw [if_neg h]
      exact pe_W
  refine ⟨_, pe_and pe_W hb', ?_⟩
  refine ha _ _ _ _ _ _ I w fun d v Hb1 H1 w1 g1 r1 => ?_
  obtain ⟨k, rfl, w2⟩ := wBool_inv w1
  refine ⟨k, Dp.bl_inv r1, ?_⟩
  cases k with
  | false =>
    rw [if_neg (by decide)]
    exact q _ _ Hb1 H1 (w2.2 rfl) g1 (.bl false)
  | true =>
    rw [if_pos rfl]
    have fin : ∀ d v Hb' H', (wBool d fun b => P (.bool b)) → Gr Hb1 H1 Hb' H' → Dp X.K Hb' v d → Q v H' := fun d v Hb' H' w' g r => by
      obtain ⟨b, rfl, w3⟩ := wBool_inv w'
      exact q _ _ Hb' H' w3 (g1.trans g) r
    by_cases h : len0 r = true
    · rw [if_pos h] at hb ⊢
      exact hb _ _ _ _ _ _ (I.mono g1) (w2.1 rfl) fin
    · rw [if_neg h] at hb ⊢
      exact hb _ _ _ _ _ _ (I.mono g1) (w2.1 rfl) fin
theorem sor {r : List Expr} {p : Pos} (ha : SE X G a x) (hb : (if len0 r = true then SE X G b y else SE X G b (.BoolOp .Or (y :: r) p))) : SE X G (.or a b) (.BoolOp .Or (x :: y :: r) p) := by
  intro Hb H σ ρ P Q I w q
  have hb' : PE X (.BoolOp .Or (y :: r) p) (if len0 r = true then WE X y else WE X (.BoolOp .Or (y :: r) p)) := by
    by_cases h : len0 r = true
    · cases len0_nil h
      exact pe_one pe_W
    · rw [if_neg h]
      exact pe_W
  refine ⟨_, pe_or pe_W hb', ?_⟩
  refine ha _ _ _ _ _ _ I w fun d v Hb1 H1 w1 g1 r1 => ?_
  obtain ⟨k, rfl, w2⟩ := wBool_inv w1
  refine ⟨k, Dp.bl_inv r1, ?_⟩
  cases k with
  | true =>
    rw [if_pos rfl]
    exact q _ _ Hb1 H1 (w2.1 rfl) g1 (.bl true)
  | false =>
    rw [if_neg (by decide)]
    have fin : ∀ d v Hb' H', (wBool d fun b => P (.bool b)) → Gr Hb1 H1 Hb' H' → Dp X.K Hb' v d → Q v H' := fun d v Hb' H' w' g r => by
      obtain ⟨b, rfl, w3⟩ := wBool_inv w'
      exact q _ _ Hb' H' w3 (g1.trans g) r
    by_cases h : len0 r = true
    · rw [if_pos h] at hb ⊢
      exact hb _ _ _ _ _ _ (I.mono g1) (w2.2 rfl) fin
    · rw [if_neg h] at hb ⊢
      exact hb _ _ _ _ _ _ (I.mono g1) (w2.2 rfl) fin
theorem snot {p : Pos} (ha : SE X G a x) : SE X G (.not a) (.UnaryOp .Not x p) := by
  intro Hb H σ ρ P Q I w q
  refine ⟨_, pe_not pe_W, ?_⟩
  refine ha _ _ _ _ _ _ I w fun d v Hb1 H1 w1 g1 r1 => ?_
  obtain ⟨k, rfl, w2⟩ := wBool_inv w1
  exact ⟨k, Dp.bl_inv r1, q _ _ Hb1 H1 w2 g1 (.bl _)⟩
theorem tnot {p : Pos} (ha : ST X G a x) : ST X G (.not a) (.UnaryOp .Not x p) := by
  intro Hb H σ ρ P Q I w q
  refine ⟨_, pt_not pt_W, ?_⟩
  refine ha _ _ _ _ (fun d => wBool d fun c => P (.bool (!c))) _ I ?_ fun k Hb1 H1 w1 g1 => q _ Hb1 H1 w1 g1
  exact w
/-- tests as chains: the weak form of a BoolOp test -/
def SW (X : Cx) (G : Ga) (t : T) (e : Expr) : Prop := ∀ (Hb H : Hp) (σ : L2.St) (ρ : Rho) (P : PyData → Prop) (Q : Bool → Hp → Prop), En X.K Hb H σ ρ → wE G t ρ (fun d => wBool d fun b => P (.bool b)) → (∀ b Hb' H', P (.bool b) → Gr Hb H Hb' H' → Q b H') → WW X e σ H Q
theorem ST.of_sw {t : T} {e : Expr} (h : SW X G t e) : ST X G t e := fun Hb H σ ρ P Q I w q => by
  obtain ⟨tt, h1, h2⟩ := h Hb H σ ρ P Q I w q
  exact ⟨tt, h1.pt, h2⟩
end
end Pd

set_option Elab.async false
set_option linter.all false
set_option maxRecDepth 100000
set_option maxHeartbeats 4000000
namespace Pd
open PySem L2
section
variable {X : Cx} {G : Ga} {cf : Cf} {a b c : T} {x y z : Expr} {Hb H : Hp} {σ : L2.St} {ρ : Rho} {ts : Ts} {es : List Expr}

theorem tand {r : List Expr} {p : Pos} (ha : ST X G a x) (hb : (if len0 r = true then ST X G b y else SW X G b (.BoolOp .And (y :: r) p))) : SW X G (.and a b) (.BoolOp .And (x :: y :: r) p) := by
  intro Hb H σ ρ P Q I w q
  have hb' : PW X (.BoolOp .And (y :: r) p) (if len0 r = true then WT X y else WW X (.BoolOp .And (y :: r) p)) := by
    by_cases h : len0 r = true
    · cases len0_nil h
      exact pw_and1 pt_W
    · rw [if_neg h]
      exact pw_W
  refine ⟨_, pw_and pt_W hb', ?_⟩
  refine ha _ _ _ _ (fun d => wBool d fun k => (k = true → wE G b ρ fun y => wBool y fun d => P (.bool d)) ∧ (k = false → P (.bool false))) _ I ?_ fun k Hb1 H1 w2 g1 => ?_
  · have e : ∀ d, (wBool d fun c => (c = true → wE G b ρ fun y => wBool y fun d => wBool (.bool d) fun b => P (.bool b)) ∧ (c = false → wBool (.bool false) fun b => P (.bool b))) = (wBool d fun b_1 => wBool (PyData.bool b_1) fun k => (k = true → wE G b ρ fun y => wBool y fun d => P (.bool d)) ∧ (k = false → P (.bool false))) := fun d => rfl
    have w : wE G a ρ (fun d => wBool d fun c => (c = true → wE G b ρ fun y => wBool y fun d => wBool (.bool d) fun b => P (.bool b)) ∧ (c = false → wBool (.bool false) fun b => P (.bool b))) := w
    exact w
  cases k with
  | false =>
    show (if false = true then _ else _)
    rw [if_neg (by decide)]
    exact q _ Hb1 H1 (w2.2 rfl) g1
  | true =>
    show (if true = true then _ else _)
    rw [if_pos rfl]
    by_cases h : len0 r = true
    · rw [if_pos h] at hb ⊢
      exact hb _ _ _ _ P _ (I.mono g1) (w2.1 rfl) fun b Hb2 H2 w3 g2 => q b Hb2 H2 w3 (g1.trans g2)
    · rw [if_neg h] at hb ⊢
      exact hb _ _ _ _ P _ (I.mono g1) (w2.1 rfl) fun b Hb2 H2 w3 g2 => q b Hb2 H2 w3 (g1.trans g2)
theorem tor {r : List Expr} {p : Pos} (ha : ST X G a x) (hb : (if len0 r = true then ST X G b y else SW X G b (.BoolOp .Or (y :: r) p))) : SW X G (.or a b) (.BoolOp .Or (x :: y :: r) p) := by
  intro Hb H σ ρ P Q I w q
  have hb' : PW X (.BoolOp .Or (y :: r) p) (if len0 r = true then WT X y else WW X (.BoolOp .Or (y :: r) p)) := by
    by_cases h : len0 r = true
    · cases len0_nil h
      exact pw_or1 pt_W
    · rw [if_neg h]
      exact pw_W
  refine ⟨_, pw_or pt_W hb', ?_⟩
  refine ha _ _ _ _ (fun d => wBool d fun k => (k = true → P (.bool true)) ∧ (k = false → wE G b ρ fun y => wBool y fun d => P (.bool d))) _ I ?_ fun k Hb1 H1 w2 g1 => ?_
  · have w : wE G a ρ (fun d => wBool d fun c => (c = true → wBool (.bool true) fun b => P (.bool b)) ∧ (c = false → wE G b ρ fun y => wBool y fun d => wBool (.bool d) fun b => P (.bool b))) := w
    exact w
  cases k with
  | true =>
    show (if true = true then _ else _)
    rw [if_pos rfl]
    exact q _ Hb1 H1 (w2.1 rfl) g1
  | false =>
    show (if false = true then _ else _)
    rw [if_neg (by decide)]
    by_cases h : len0 r = true
    · rw [if_pos h] at hb ⊢
      exact hb _ _ _ _ P _ (I.mono g1) (w2.2 rfl) fun b Hb2 H2 w3 g2 => q b Hb2 H2 w3 (g1.trans g2)
    · rw [if_neg h] at hb ⊢
      exact hb _ _ _ _ P _ (I.mono g1) (w2.2 rfl) fun b Hb2 H2 w3 g2 => q b Hb2 H2 w3 (g1.trans g2)
theorem site {p : Pos} (hc : ST X G c z) (ha : SE X G a x) (hb : SE X G b y) : SE X G (.ite c a b) (.IfExp z x y p) := by
  intro Hb H σ ρ P Q I w q
  refine ⟨_, pe_ifExp pt_W pe_W pe_W, ?_⟩
  refine hc _ _ _ _ (fun d => wBool d fun k => (k = true → wE G a ρ P) ∧ (k = false → wE G b ρ P)) _ I w fun k Hb1 H1 w1 g1 => ?_
  cases k with
  | true =>
    rw [if_pos rfl]
    exact ha _ _ _ _ _ _ (I.mono g1) (w1.1 rfl) fun d v Hb2 H2 w2 g2 r2 => q d v Hb2 H2 w2 (g1.trans g2) r2
  | false =>
    rw [if_neg (by decide)]
    exact hb _ _ _ _ _ _ (I.mono g1) (w1.2 rfl) fun d v Hb2 H2 w2 g2 r2 => q d v Hb2 H2 w2 (g1.trans g2) r2
theorem sz_of {n : Nat} (h : n ≤ 100000) : n ≤ sizeLine := Nat.le_trans h (by decide)
theorem sz_lt {n : Nat} (h : n < 100000) : n < sizeLine := Nat.lt_of_lt_of_le h (by decide)
theorem stup {k : Nat} {p : Pos} (h : SA X G ts es) : SE X G (.tup ts) (.Tuple es k p) := by
  intro Hb H σ ρ P Q I w q
  refine ⟨_, pe_tup pa_W, ?_⟩
  refine h _ _ _ _ _ _ I w fun ds vs Hb1 H1 w1 g1 r1 => ⟨sz_of (by rw [dpa_len r1]; exact w1.1), fun t ht => ?_⟩
  have g2 := Gr.new g1.c ht (.tup vs)
  exact q _ _ _ _ w1.2 (g1.trans g2) (.tup (SqT.of upd_same) (dpa_mono g2.a _ _ r1))
/-- a new list, not yet data -/
def SF (X : Cx) (G : Ga) (t : T) (e : Expr) : Prop := ∀ (Hb H : Hp) (σ : L2.St) (ρ : Rho) (P : PyData → Prop) (Q : VK), En X.K Hb H σ ρ → wE G t ρ P → (∀ ds p vs Hb' H', P (.list ds) → Gr Hb H Hb' H' → H p = none → Hb' p = none → H' p = some (.lst vs) → DpAll X.K Hb' vs ds → Q (.ref p) H') → WE X e σ H Q
theorem SF.se {t : T} {e : Expr} (h : SF X G t e) : SE X G t e := fun Hb H σ ρ P Q I w q =>
  h Hb H σ ρ P Q I w fun ds p vs Hb' H' w1 g hp hb hl r => by
    have e1 : Ex Hb' (upd Hb' p (.lst vs)) := ex_upd hb
    refine q _ _ (upd Hb' p (.lst vs)) H' w1 ⟨g.a.trans e1, g.b, fun a o z => ?_, fun a o z n => ?_⟩ (.lst (SqL.of upd_same) (dpa_mono e1 _ _ r))
    · by_cases k : a = p
      · rw [k, upd_same] at z
        rw [k, hl]
        exact z
      · rw [upd_ne k] at z
        exact g.c a o z
    · rw [upd_ne (ne_of_none z hp)]
      exact g.d a o z n
theorem flst {p : Pos} (h : SA X G ts es) : SF X G (.lst ts) (.List es p) := by
  intro Hb H σ ρ P Q I w q
  refine ⟨_, pe_lst pa_W, ?_⟩
  refine h _ _ _ _ _ _ I w fun ds vs Hb1 H1 w1 g1 r1 => ⟨sz_of (by rw [dpa_len r1]; exact w1.1), fun t ht => ?_⟩
  exact q _ t vs Hb1 _ w1.2 ⟨g1.a, g1.b.trans (ex_upd ht), g1.c.trans (ex_upd ht), g1.d⟩ (none_of_ex g1.b ht) (none_of_ex g1.c ht) upd_same r1
theorem notSlice_ix {e : Expr} (h : notSlice e = true) : PlainIx e := by
  intro o i
  cases e <;> first | rfl | cases h
theorem six {p : Pos} (hs : notSlice y = true) (ha : SE X G a x) (hb : SE X G b y) : SE X G (.ix a b) (.Subscript x y p) := by
  intro Hb H σ ρ P Q I w q
  refine ⟨_, pe_ix ix_seq pe_W pe_W (notSlice_ix hs), ?_⟩
  refine two ha hb I w fun d e v u Hb' H' w' g r1 r2 => ?_
  unfold wIx at w'
  split at w'
  · obtain ⟨d, h1, h2⟩ := w'
    obtain ⟨p, xs, rfl, h3, h4⟩ := Dp.lst_inv r1
    cases Dp.int_inv r2
    obtain ⟨v, h5, h6⟩ := atI_dp h4 h1
    exact .inl ⟨p, xs, _, v, rfl, rfl, sql_mono g.c h3, h5, q _ _ Hb' H' h2 g h6⟩
  · obtain ⟨d, h1, h2⟩ := w'
    obtain ⟨p, xs, rfl, h3, h4⟩ := Dp.tup_inv r1
    cases Dp.int_inv r2
    obtain ⟨v, h5, h6⟩ := atI_dp h4 h1
    exact .inr (.inl ⟨p, xs, _, v, rfl, rfl, sqt_mono g.c h3, h5, q _ _ Hb' H' h2 g h6⟩)
  · exact w'.elim
theorem po_of {o : Option Int} {e : Option Expr} (h : isPart o e = true) : ∃ t : TO, PO X e t ∧ ∀ σ H Q, Q o H → t σ H Q := by
  unfold isPart at h
  split at h
  · exact ⟨_, po_none, fun _ _ _ q => q⟩
  · cases of_decide_eq_true h
    exact ⟨_, po_some pe_int, fun _ _ _ q => ⟨_, rfl, q⟩⟩
  · cases h
theorem ssl {lo hi : Option Int} {l h : Option Expr} {p p2 : Pos} (hl : isPart lo l = true) (hh : isPart hi h = true) (ha : SE X G a x) : SE X G (.sl a lo hi) (.Subscript x (.Slice l h none p2) p) := by
  intro Hb H σ ρ P Q I w q
  obtain ⟨t1, p1, q1⟩ := po_of (X := X) hl
  obtain ⟨t2, p2, q2⟩ := po_of (X := X) hh
  refine ⟨_, pe_slice (sl_list.or sl_tup) pe_W p1 p2, ?_⟩
  refine ha _ _ _ _ _ _ I w fun d v Hb1 H1 w1 g1 r1 => q1 _ _ _ (q2 _ _ _ ?_)
  unfold wSl at w1
  split at w1
  · obtain ⟨p, xs, rfl, h3, h4⟩ := Dp.lst_inv r1
    refine .inl ⟨p, xs, rfl, sql_mono g1.c h3, fun t ht => ?_⟩
    have g2 := Gr.new g1.c ht (.lst (cutV xs lo hi))
    exact q _ _ _ _ w1 (g1.trans g2) (.lst (SqL.of upd_same) (dpa_mono g2.a _ _ (dpa_cut _ _ h4)))
  · obtain ⟨p, xs, rfl, h3, h4⟩ := Dp.tup_inv r1
    refine .inr ⟨p, xs, rfl, sqt_mono g1.c h3, by rw [dpa_len h4]; exact w1.1, fun t ht => ?_⟩
    have g2 := Gr.new g1.c ht (.tup (cutV xs lo hi))
    exact q _ _ _ _ w1.2 (g1.trans g2) (.tup (SqT.of upd_same) (dpa_mono g2.a _ _ (dpa_cut _ _ h4)))
  · exact w1.elim
theorem OpR.or {f : Value → Value → Sem Value} {r r' : R2} (h : OpR X f r) (h' : OpR X f r') : OpR X f (fun x y H Q => r x y H Q ∨ r' x y H Q) := by
  intro pins s σ H x y v u Q I rx ry q
  rcases q with q | q
  · exact h pins s σ H x y v u Q I rx ry q
  · exact h' pins s σ H x y v u Q I rx ry q
theorem scat_t {p : Pos} (ha : SE X G a x) (hb : SE X G b y) : SE X G (.cat a b) (.BinOp x .Add y p) := by
  intro Hb H σ ρ P Q I w q
  refine ⟨_, pe_op op_catT pe_W pe_W, ?_⟩
  refine two ha hb I w fun d e v u Hb' H' w' g r1 r2 => ?_
  unfold wCat at w'
  split at w'
  · obtain ⟨p, xs, rfl, h3, h4⟩ := Dp.tup_inv r1
    obtain ⟨p', ys, rfl, h5, h6⟩ := Dp.tup_inv r2
    obtain ⟨n1, n2, n3, w'⟩ := w'
    have l1 := dpa_len h4
    have l2 := dpa_len h6
    refine ⟨p, p', xs, ys, rfl, rfl, sqt_mono g.c h3, sqt_mono g.c h5, fun z => n1 ?_, by rw [l1, l2]; exact sz_of n3, fun z => absurd ?_ n2, fun _ t ht => ?_⟩
    · rw [z] at l1
      exact List.eq_nil_of_length_eq_zero l1.symm
    · rw [z] at l2
      exact List.eq_nil_of_length_eq_zero l2.symm
    · have g2 := Gr.new g.c ht (.tup (xs ++ ys))
      exact q _ _ _ _ w' (g.trans g2) (.tup (SqT.of upd_same) (dpa_mono g2.a _ _ (dpa_append h4 h6)))
  · exact w'.elim
theorem chkEs_ns : ∀ {ts : Ts} {es : List Expr} {env : Env} {pos : Pos}, chkEs cf ts es = true → (backTo pos (starEach es env)).any (·.1) = false
  | .nil, [], _, _, _ => rfl
  | .nil, _ :: _, _, _, h => by cases h
  | .cons _ _, [], _, _, h => by cases h
  | .cons t ts, e :: es, env, pos, h => by
    simp only [chkEs, Bool.and_eq_true] at h
    rw [notStar_eq h.1.2]
    show (false || (backTo pos (starEach es env)).any (·.1)) = false
    rw [chkEs_ns h.2]
    rfl
theorem scall (ok : XOK X cf G) {f : Nat} {n : Str} {p pos : Pos} (hf : chkF cf f n = true) (hs : notStar x = true) (hc : chkEs cf ts es = true) (h : SA X G (.cons a ts) (x :: es)) :
    SE X G (.call f (.cons a ts)) (.Call (.Name n p) (x :: es) [] pos) := by
  intro Hb H σ ρ P Q I w q
  obtain ⟨h1, h2, h3⟩ := chkF_of hf
  obtain ⟨w0, w⟩ := w
  obtain ⟨fa, fd, ps, e1, e2, e3, F⟩ := ok.glb.fn f n h1 w0
  refine ⟨_, pe_call F ok.room (gl_of ok h2) e1 e2 e3 .nil (E := E0) pass0 pa_W (nm1 h3) (notStar_eq hs) (chkEs_ns hc), ?_⟩
  refine h _ _ _ _ _ _ I w fun ds vs Hb1 H1 w1 g1 r1 => ?_
  obtain ⟨d, w2, w3⟩ := w1
  refine ⟨Hb1, ds, d, g1.c, by rw [List.append_nil]; exact r1, w2, fun v Hb2 H2 g2 r2 => q d v Hb2 H2 w3 (g1.trans g2) r2⟩
end
end Pd

set_option Elab.async false
set_option linter.all false
set_option maxRecDepth 100000
set_option maxHeartbeats 4000000
namespace Pd
open PySem L2 PySem.W PySem.Calls PyProof.Rows
mutual
theorem reads_lt {K : PySem.W.Frag} {H : Hp} {h : Heap} : ∀ (d : PyData) (v : V) (u : Value) (as : List Addr), Dp K H v d → Reads h u d as → ∀ b ∈ as, ∃ o, h.get? b = some o
  | .none, _, _, _, _, r => by cases r; intro b hb; cases hb
  | .bool _, _, _, _, _, r => by cases r; intro b hb; cases hb
  | .int _, _, _, _, _, r => by cases r; intro b hb; cases hb
  | .str _, _, _, _, _, r => by cases r; intro b hb; cases hb
  | .list ds, _, _, _, d, r => by
    obtain ⟨_, xs, _, _, r2⟩ := Dp.lst_inv d
    cases r with
    | list ho hc hd ra =>
      intro b hb
      rcases List.mem_cons.mp hb with e | hb
      · rw [e]
        exact ⟨_, ho⟩
      · exact readsAll_lt ds _ _ _ r2 ra b hb
  | .tuple ds, _, _, _, d, r => by
    obtain ⟨_, xs, _, _, r2⟩ := Dp.tup_inv d
    cases r with
    | tuple ho hc hd ra => exact fun b hb => readsAll_lt ds _ _ _ r2 ra b hb
  | .dict _, _, _, _, d, _ => nomatch d
theorem readsAll_lt {K : PySem.W.Frag} {H : Hp} {h : Heap} : ∀ (ds : List PyData) (vs : List V) (us : List Value) (as : List Addr), DpAll K H vs ds → ReadsAll h us ds as → ∀ b ∈ as, ∃ o, h.get? b = some o
  | [], _, _, _, _, r => by cases r; intro b hb; cases hb
  | d :: ds, _, _, _, h1, r => by
    cases h1 with
    | cons a t =>
      cases r with
      | cons ra rt =>
        intro b hb
        rcases List.mem_append.mp hb with hb | hb
        · exact reads_lt d _ _ _ a ra b hb
        · exact readsAll_lt ds _ _ _ t rt b hb
end
def Stands (K : PySem.W.Frag) (H : Hp) (u : Value) (d : PyData) : Prop := ∃ z, RelV z u ∧ Dp K H z d
theorem each_of {K : PySem.W.Frag} {H : Hp} : ∀ {vs : List V} {us : List Value} {ds : List PyData}, Vals vs us → DpAll K H vs ds → EachIs (Stands K H) us ds
  | _, _, _, .nil, .nil => .nil
  | _, _, _, .cons r t, .cons a b => .cons ⟨_, r, a⟩ (each_of t b)
theorem of_each {K : PySem.W.Frag} {H : Hp} : ∀ {us : List Value} {ds : List PyData}, EachIs (Stands K H) us ds → ∃ vs, Vals vs us ∧ DpAll K H vs ds
  | _, _, .nil => ⟨[], .nil, .nil⟩
  | _, _, .cons ⟨z, r, a⟩ t => by
    obtain ⟨vs, h1, h2⟩ := of_each t
    exact ⟨z :: vs, .cons r h1, .cons a h2⟩
/-- what is tracked stands -/
theorem there_of {P : Program} {w : World} {H : Hp} {h : Heap} {a : Addr} {o : HO} (q : ObjOk P w H h a o) : ∃ ob, h.get? a = some ob := by
  cases o with
  | lst xs => obtain ⟨_, _, _, _, e⟩ := q; exact ⟨_, e⟩
  | tup xs => obtain ⟨_, _, _, _, e, _⟩ := q; exact ⟨_, e⟩
  | dK kvs => obtain ⟨_, _, _, _, _, _, _, e, _⟩ := q; exact ⟨_, e⟩
  | dT kvs => obtain ⟨_, _, _, _, _, _, _, e, _⟩ := q; exact ⟨_, e⟩
  | set S n => obtain ⟨_, _, _, _, e, _⟩ := q; exact ⟨_, e⟩
  | ins C dx fs => obtain ⟨_, _, _, e, _⟩ := q; exact ⟨_, e⟩
  | own y => exact q
  | xd fs => obtain ⟨_, ⟨_, _, _, e, _⟩, _⟩ := q; exact ⟨_, e⟩
  | rng lo hi => obtain ⟨_, _, _, e⟩ := q; exact ⟨_, e⟩
  | frz ob u => exact ⟨_, q.1⟩
  | tbl ps => exact ⟨_, q⟩
  | met f y => exact ⟨_, q⟩
  | ext φ => exact q.2.1
/-- a new object at a place where nothing stood -/
theorem laid_at {X : Cx} {pins : List (Addr × Obj)} {σ : L2.St} {H : Hp} {s : Shared} {h' : Heap} {a : Addr} {o : HO} {t' : Nat} (I : L2.Inv X pins σ H s) (k : ∀ b u, s.heap.get? b = some u → h'.get? b = some u) (nw : s.heap.get? a = none)
    (new : ObjOk X.prog X.w (upd H a o) h' a o) : H a = none ∧ L2.Inv X pins σ (upd H a o) { s with heap := h', toks := t' } := by
  have hn : H a = none := by
    cases e : H a with
    | none => rfl
    | some u =>
      obtain ⟨ob, e2⟩ := there_of (I.hok a u e)
      rw [nw] at e2
      cases e2
  refine ⟨hn, I.un ⟨fun b u q _ _ _ => k b u q, fun b u q _ _ _ => ⟨u.slots, k b u q⟩, fun b u q n _ => ?_, fun b u q _ => ⟨u, k b u q⟩, fun b xs q => ?_, fun b u xs q => ?_, fun b ps q => ⟨#[], ?_⟩⟩ fun b u e => ?_⟩
  · rw [upd_ne fun z => by rw [z, nw] at q; cases q]
    exact n
  · rw [upd_ne (ne_of_none q hn)]
    exact q
  · rw [upd_ne (ne_of_none q hn)]
    exact q
  · rw [upd_ne (ne_of_none q hn), q]
    simp
  · by_cases z : b = a
    · subst z
      rw [upd_same] at e
      cases e
      exact new
    · rw [upd_ne z] at e
      exact (I.hok b u e).stay (fun c v _ q => k c v q) (fun c q => by rw [upd_ne (ne_of_none q hn)]; exact q) fun c xs q => by rw [upd_ne (ne_of_none q hn)]; exact q
section
variable {X : Cx} {G : Ga} {cf : Cf} {x : Expr} {ts : Ts} {es : List Expr} {a : T}
def rSortD (K : PySem.W.Frag) : List V → Hp → VK → Prop := fun vs H Q => ∃ (Hb : Hp) (p : Addr) (ys : List V) (ds : List PyData), Ex Hb H ∧ vs = [.ref p] ∧ (SqL K H p ys ∨ SqT K H p ys) ∧ DpAll K Hb ys ds ∧ AllAlike ds ∧ Sortable ds ∧ ds.length ≤ 100000 ∧ (∀ d ∈ ds, d.depth ≤ 60) ∧
  ∀ l zs, H l = none → DpAll K Hb zs (ds.mergeSort (dataLe false id)) → Q (.ref l) (upd H l (.lst zs))
theorem cr_sortD (hr : Room cf.L X.A) : CallR X (.builtin "sorted") (rSortD X.K) := by
  intro pins s σ H vs us Q I r h
  obtain ⟨Hb, p, ys, ds, ex, rfl, hs, hd, hal, hk, hL, hdep, q⟩ := h
  rw [Vals.ref1 r]
  have hun := hr.un
  have szl : ds.length ≤ sizeLine := Nat.le_trans hL (by decide)
  have dl : ys.length = ds.length := dpa_len hd
  have er0 : ∀ {us : List Value}, Vals ys us → EachIs (fun v d => ∃ as, Reads s.heap v d as) us ds := fun {us} rv => by
    refine (each_of rv hd).mono fun v d ⟨z, r1, r2⟩ => ?_
    exact Dp.reads I d z v (dp_mono ex _ _ r2) r1
  rcases hs with hs | hs
  · obtain ⟨its, rv, hl, hz⟩ := I.list hs
    refine sorted_data (enc := id) (R := Stands X.K Hb) hl.isList (each_of rv hd) (er0 rv) (by rw [List.map_id]; exact hal) (by rw [List.map_id]; exact hk) szl (fun d hd' => by have := hdep d hd'; show X.A.units + 2 + d.depth < cLine; omega) fun out h1 h2 => ?_
    obtain ⟨zs, v1, v2⟩ := of_each h2
    obtain ⟨ep, he'⟩ := PyProof.Rows.sortedAll_at s.heap its out.toArray
    refine ⟨.ref _, upd H (s.heap.objs.size + 1) (.lst zs), I.laid (t' := s.toks) (fun _ _ => PyProof.Rows.sortedAll_old) (Nat.le_succ _) ⟨?_, out, ep, v1, he'⟩, rfl, q _ _ (I.hok.fresh (Nat.le_succ _)) v2⟩
    rw [v1.length, h1]
    exact szl
  · obtain ⟨its, rv, ⟨o, ho, hc, n, hdt⟩, hz⟩ := I.tuple hs
    have il : its.length = ds.length := rv.length.symm.trans dl
    refine Calls.call_function_entry kind_sorted plain_sorted entry_sorted (args_sorted1 _) ?_
    unfold Builtin.«sorted»
    refine wpAny_bind (m := checkCount "sorted" 1 1 _) (wpAny_pure ?_)
    refine wpAny_bind (wpAny_collect_seq p (.inr rfl) ho hc hdt (fun h' keep => ?_) (by rw [List.size_toArray, il]; exact szl))
    refine wpAny_bind (wpAny_newList ?_ (by show its.length ≤ sizeLine; rw [il]; exact szl))
    have none' : h'.get? h'.objs.size = none := Heap.get?_none_of_le (Nat.le_refl _)
    have nw : s.heap.get? h'.objs.size = none := by
      cases e : s.heap.get? h'.objs.size with
      | none => rfl
      | some o =>
        rw [keep _ _ e] at none'
        cases none'
    have hoL : (h'.push (seqObj "list" its.toArray 0)).get? h'.objs.size = some (seqObj "list" its.toArray 0) := Heap.get?_push_size _ rfl
    have keep2 : ∀ b o, s.heap.get? b = some o → (h'.push (seqObj "list" its.toArray 0)).get? b = some o := fun b o e => Heap.get?_push_of_some _ (keep b o e)
    have er1 : EachIs (fun v d => ∃ as, Reads s.heap v d as ∧ ∀ b ∈ as, ∃ o, s.heap.get? b = some o) its ds := by
      refine (each_of rv hd).mono fun v d ⟨z, r1, r2⟩ => ?_
      obtain ⟨as, r3⟩ := Dp.reads I d z v (dp_mono ex _ _ r2) r1
      exact ⟨as, r3, reads_lt d z v as r2 r3⟩
    refine wpAny_bind (wpAny_holding (list_sort_data (s := { s with heap := h'.push (seqObj "list" its.toArray 0) }) (enc := id) (R := Stands X.K Hb) hoL (each_of rv hd) (er1.mono fun v d ⟨as, r3, lt⟩ => ⟨as, PyProof.Rows.Reads.keeps keep2 r3, fun m => by
        obtain ⟨o, e⟩ := lt _ m
        rw [nw] at e
        cases e⟩)
      (by rw [List.map_id]; exact hal) (by rw [List.map_id]; exact hk) szl (fun d hd' => by have := hdep d hd'; show X.A.in1.units + 1 + d.depth < cLine; show X.A.units + 1 + 1 + d.depth < cLine; omega) fun out h1 h2 => ?_))
    obtain ⟨zs, v1, v2⟩ := of_each h2
    obtain ⟨ep, he'⟩ := sortedHeap_at (vs := its) (out := out.toArray) hoL
    obtain ⟨hn, I'⟩ := laid_at (t' := s.toks) (h' := sortedHeap (h'.push (seqObj "list" its.toArray 0)) h'.objs.size its out.toArray) (o := .lst zs) I (fun b o e => by
      have hlt : b < h'.objs.size := Heap.lt_size (keep b o e)
      rw [sortedHeap_old (Nat.ne_of_lt hlt) (by rw [size_push']; exact Nat.lt_succ_of_lt hlt)]
      exact keep2 b o e) nw ⟨by rw [v1.length, h1]; exact szl, out, ep, v1, he'⟩
    exact wpAny_pure ⟨_, rfl, .ref h'.objs.size, _, I', rfl, q _ _ hn v2⟩
end
end Pd

set_option Elab.async false
set_option linter.all false
set_option maxRecDepth 100000
set_option maxHeartbeats 4000000
namespace Pd
open PySem L2
section
variable {X : Cx} {G : Ga} {cf : Cf} {a b c : T} {x y z : Expr} {Hb H : Hp} {σ : L2.St} {ρ : Rho} {ts : Ts} {es : List Expr}

theorem dpa1 {K : PySem.W.Frag} {vs : List V} {d : PyData} (r : DpAll K H vs [d]) : ∃ v, vs = [v] ∧ Dp K H v d := by
  cases r with
  | cons a t =>
    cases t
    exact ⟨_, rfl, a⟩
theorem dpa2 {K : PySem.W.Frag} {vs : List V} {d e : PyData} (r : DpAll K H vs [d, e]) : ∃ v u, vs = [v, u] ∧ Dp K H v d ∧ Dp K H u e := by
  cases r with
  | cons a t =>
    obtain ⟨u, rfl, h⟩ := dpa1 t
    exact ⟨_, u, rfl, a, h⟩
theorem CallR.or {f : Value} {r r' : List V → Hp → VK → Prop} (h : CallR X f r) (h' : CallR X f r') : CallR X f (fun xs H Q => r xs H Q ∨ r' xs H Q) := by
  intro pins s σ H xs us Q I rs q
  rcases q with q | q
  · exact h pins s σ H xs us Q I rs q
  · exact h' pins s σ H xs us Q I rs q
/-- a built-in by its data -/
theorem blt_fin (ok : XOK X cf G) {bb : Bl} {p pos : Pos} {r : List V → Hp → VK → Prop} (hpe : ∀ {t : TA}, PA X (x :: es) t → PE X (.Call (.Name (blN bb) p) (x :: es) [] pos) (tCB r t)) (h : SA X G (.cons a ts) (x :: es))
    (hr : ∀ ds vs Hb H (P : PyData → Prop) (Q : VK), wBl bb ds P → Ex Hb H → DpAll X.K Hb vs ds → (∀ d v Hb' H', P d → Gr Hb H Hb' H' → Dp X.K Hb' v d → Q v H') → r vs H Q) : SE X G (.blt bb (.cons a ts)) (.Call (.Name (blN bb) p) (x :: es) [] pos) := by
  intro Hb H σ ρ P Q I w q
  refine ⟨_, hpe pa_W, ?_⟩
  exact h _ _ _ _ _ _ I w fun ds vs Hb1 H1 w1 g1 r1 => hr ds vs Hb1 H1 P Q w1 g1.c r1 fun d v Hb2 H2 w2 g2 r2 => q d v Hb2 H2 w2 (g1.trans g2) r2
theorem sblt (ok : XOK X cf G) {bb : Bl} {n : Str} {p pos : Pos} (hn : n = blN bb) (hg : glB cf.sc n = true) (hs : notStar x = true) (hc : chkEs cf ts es = true) (h : SA X G (.cons a ts) (x :: es)) :
    SE X G (.blt bb (.cons a ts)) (.Call (.Name n p) (x :: es) [] pos) := by
  subst hn
  have gl := gl_of ok hg
  have mg := ok.glb.blt bb
  cases bb
  · refine blt_fin ok (fun hp => pe_callB call_len_seq gl mg PySem.boot_len hp (by decide) (by decide) (notStar_eq hs) (chkEs_ns hc)) h fun ds vs Hb H P Q w ex r q => ?_
    have w : w_len ds P := w
    unfold w_len at w
    split at w
    · obtain ⟨v, rfl, r1⟩ := dpa1 r
      obtain ⟨p, ys, rfl, h1, h2⟩ := Dp.lst_inv r1
      exact ⟨p, ys, rfl, .inl (sql_mono ex h1), by rw [dpa_len h2]; exact q _ _ Hb H w (Gr.refl ex) (.int _)⟩
    · obtain ⟨v, rfl, r1⟩ := dpa1 r
      obtain ⟨p, ys, rfl, h1, h2⟩ := Dp.tup_inv r1
      exact ⟨p, ys, rfl, .inr (sqt_mono ex h1), by rw [dpa_len h2]; exact q _ _ Hb H w (Gr.refl ex) (.int _)⟩
    · exact w.elim
  · refine blt_fin ok (fun hp => pe_callTy call_int1 gl mg (by decide +kernel) hp (by decide) (by decide) (notStar_eq hs) (chkEs_ns hc)) h fun ds vs Hb H P Q w ex r q => ?_
    have w : w_int ds P := w
    unfold w_int at w
    split at w
    · obtain ⟨v, rfl, r1⟩ := dpa1 r
      cases Dp.int_inv r1
      exact .inl ⟨_, rfl, q _ _ Hb H w (Gr.refl ex) (.int _)⟩
    · obtain ⟨v, rfl, r1⟩ := dpa1 r
      cases Dp.bl_inv r1
      exact .inr ⟨_, rfl, q _ _ Hb H w (Gr.refl ex) (.int _)⟩
    · exact w.elim
  · refine blt_fin ok (fun hp => pe_callB call_abs gl mg (by decide +kernel) hp (by decide) (by decide) (notStar_eq hs) (chkEs_ns hc)) h fun ds vs Hb H P Q w ex r q => ?_
    have w : w_abs ds P := w
    unfold w_abs at w
    split at w
    · obtain ⟨v, rfl, r1⟩ := dpa1 r
      cases Dp.int_inv r1
      exact ⟨_, rfl, q _ _ Hb H w (Gr.refl ex) (.int _)⟩
    · exact w.elim
  · refine blt_fin ok (fun hp => pe_callB call_divmod gl mg (by decide +kernel) hp (by decide) (by decide) (notStar_eq hs) (chkEs_ns hc)) h fun ds vs Hb H P Q w ex r q => ?_
    have w : w_divm ds P := w
    unfold w_divm at w
    split at w
    · obtain ⟨v, u, rfl, r1, r2⟩ := dpa2 r
      cases Dp.int_inv r1
      cases Dp.int_inv r2
      refine ⟨_, _, rfl, w.1, fun t ht => ?_⟩
      exact q _ _ _ _ w.2 (Gr.new ex ht _) (.tup (SqT.of upd_same) (.cons (.int _) (.cons (.int _) .nil)))
    · exact w.elim
  · refine blt_fin ok (fun hp => pe_callB (cr_sum ok.calm) gl mg (by decide +kernel) hp (by decide) (by decide) (notStar_eq hs) (chkEs_ns hc)) h fun ds vs Hb H P Q w ex r q => ?_
    have w : w_sum ds P := w
    unfold w_sum at w
    split at w
    · obtain ⟨ns, rfl, w2⟩ := w
      obtain ⟨v, rfl, r1⟩ := dpa1 r
      obtain ⟨p, ys, rfl, h1, h2⟩ := Dp.lst_inv r1
      cases dpa_ints h2
      exact ⟨p, ns, rfl, sql_mono ex h1, q _ _ Hb H w2 (Gr.refl ex) (.int _)⟩
    · exact w.elim
  · refine blt_fin ok (fun hp => pe_callTy call_tuple_of gl mg (by decide +kernel) hp (by decide) (by decide) (notStar_eq hs) (chkEs_ns hc)) h fun ds vs Hb H P Q w ex r q => ?_
    have w : w_tuple ds P := w
    unfold w_tuple at w
    split at w
    · obtain ⟨v, rfl, r1⟩ := dpa1 r
      obtain ⟨p, ys, rfl, h1, h2⟩ := Dp.lst_inv r1
      refine ⟨p, ys, rfl, .inl ⟨sql_mono ex h1, fun t ht => ?_⟩⟩
      have g2 := Gr.new ex ht (.tup ys)
      exact q _ _ _ _ w g2 (.tup (SqT.of upd_same) (dpa_mono g2.a _ _ h2))
    · obtain ⟨v, rfl, r1⟩ := dpa1 r
      obtain ⟨p, ys, rfl, h1, h2⟩ := Dp.tup_inv r1
      exact ⟨p, ys, rfl, .inr ⟨sqt_mono ex h1, q _ _ Hb H w (Gr.refl ex) r1⟩⟩
    · exact w.elim
  · refine blt_fin ok (fun hp => pe_callTy call_list_of gl mg (by decide +kernel) hp (by decide) (by decide) (notStar_eq hs) (chkEs_ns hc)) h fun ds vs Hb H P Q w ex r q => ?_
    have w : w_list ds P := w
    unfold w_list at w
    split at w
    · obtain ⟨v, rfl, r1⟩ := dpa1 r
      obtain ⟨p, ys, rfl, h1, h2⟩ := Dp.lst_inv r1
      refine ⟨p, ys, rfl, .inl (sql_mono ex h1), fun t ht => ?_⟩
      have g2 := Gr.new ex ht (.lst ys)
      exact q _ _ _ _ w g2 (.lst (SqL.of upd_same) (dpa_mono g2.a _ _ h2))
    · obtain ⟨v, rfl, r1⟩ := dpa1 r
      obtain ⟨p, ys, rfl, h1, h2⟩ := Dp.tup_inv r1
      refine ⟨p, ys, rfl, .inr (sqt_mono ex h1), fun t ht => ?_⟩
      have g2 := Gr.new ex ht (.lst ys)
      exact q _ _ _ _ w g2 (.lst (SqL.of upd_same) (dpa_mono g2.a _ _ h2))
    · exact w.elim
  · refine blt_fin ok (fun hp => pe_callB (call_min2 ok.calm) gl mg (by decide +kernel) hp (by decide) (by decide) (notStar_eq hs) (chkEs_ns hc)) h fun ds vs Hb H P Q w ex r q => ?_
    have w : w_min ds P := w
    unfold w_min at w
    split at w
    · obtain ⟨v, u, rfl, r1, r2⟩ := dpa2 r
      cases Dp.int_inv r1
      cases Dp.int_inv r2
      exact ⟨_, _, rfl, q _ _ Hb H w (Gr.refl ex) (.int _)⟩
    · exact w.elim
  · refine blt_fin ok (fun hp => pe_callB (call_max2 ok.calm) gl mg (by decide +kernel) hp (by decide) (by decide) (notStar_eq hs) (chkEs_ns hc)) h fun ds vs Hb H P Q w ex r q => ?_
    have w : w_max ds P := w
    unfold w_max at w
    split at w
    · obtain ⟨v, u, rfl, r1, r2⟩ := dpa2 r
      cases Dp.int_inv r1
      cases Dp.int_inv r2
      exact ⟨_, _, rfl, q _ _ Hb H w (Gr.refl ex) (.int _)⟩
    · exact w.elim
  · refine blt_fin ok (fun hp => pe_callB (cr_sortD ok.room) gl mg (by decide +kernel) hp (by decide) (by decide) (notStar_eq hs) (chkEs_ns hc)) h fun ds vs Hb H P Q w ex r q => ?_
    have w : w_sorted ds P := w
    unfold w_sorted at w
    split at w
    · obtain ⟨v, rfl, r1⟩ := dpa1 r
      obtain ⟨p, ys, rfl, h1, h2⟩ := Dp.lst_inv r1
      refine ⟨Hb, p, ys, _, ex, rfl, .inl (sql_mono ex h1), h2, w.1, w.2.1, w.2.2.1, w.2.2.2.1, fun l zs hl r3 => ?_⟩
      have g2 := Gr.new ex hl (.lst zs)
      exact q _ _ _ _ w.2.2.2.2 g2 (.lst (SqL.of upd_same) (dpa_mono g2.a _ _ r3))
    · obtain ⟨v, rfl, r1⟩ := dpa1 r
      obtain ⟨p, ys, rfl, h1, h2⟩ := Dp.tup_inv r1
      refine ⟨Hb, p, ys, _, ex, rfl, .inr (sqt_mono ex h1), h2, w.1, w.2.1, w.2.2.1, w.2.2.2.1, fun l zs hl r3 => ?_⟩
      have g2 := Gr.new ex hl (.lst zs)
      exact q _ _ _ _ w.2.2.2.2 g2 (.lst (SqL.of upd_same) (dpa_mono g2.a _ _ r3))
    · exact w.elim
/-- list(..): new -/
theorem flist (ok : XOK X cf G) {n : Str} {p pos : Pos} (hn : n = blN .list) (hg : glB cf.sc n = true) (hs : notStar x = true) (hc : chkEs cf ts es = true) (h : SA X G (.cons a ts) (x :: es)) :
    SF X G (.blt .list (.cons a ts)) (.Call (.Name n p) (x :: es) [] pos) := by
  subst hn
  intro Hb H σ ρ P Q I w q
  refine ⟨_, pe_callTy call_list_of (gl_of ok hg) (ok.glb.blt .list) (by decide +kernel) pa_W (by decide) (by decide) (notStar_eq hs) (chkEs_ns hc), ?_⟩
  refine h _ _ _ _ _ _ I w fun ds vs Hb1 H1 w1 g1 r => ?_
  have w1 : w_list ds P := w1
  unfold w_list at w1
  split at w1
  · obtain ⟨v, rfl, r1⟩ := dpa1 r
    obtain ⟨p, ys, rfl, h1, h2⟩ := Dp.lst_inv r1
    refine ⟨p, ys, rfl, .inl (sql_mono g1.c h1), fun t ht => ?_⟩
    exact q _ t ys Hb1 _ w1 ⟨g1.a, g1.b.trans (ex_upd ht), g1.c.trans (ex_upd ht), g1.d⟩ (none_of_ex g1.b ht) (none_of_ex g1.c ht) upd_same h2
  · obtain ⟨v, rfl, r1⟩ := dpa1 r
    obtain ⟨p, ys, rfl, h1, h2⟩ := Dp.tup_inv r1
    refine ⟨p, ys, rfl, .inr (sqt_mono g1.c h1), fun t ht => ?_⟩
    exact q _ t ys Hb1 _ w1 ⟨g1.a, g1.b.trans (ex_upd ht), g1.c.trans (ex_upd ht), g1.d⟩ (none_of_ex g1.b ht) (none_of_ex g1.c ht) upd_same h2
  · exact w1.elim
theorem sidx (ok : XOK X cf G) {n m : Str} {p apos cpos : Pos} (hm : m = ("index" : Str)) (hs : notStar y = true) (hl : (apos.endLine == cpos.line) = true) (ha : SE X G a (.Name n p)) (hb : SE X G b y) :
    SE X G (.idx a b) (.Call (.Attribute (.Name n p) m apos) [y] [] cpos) := by
  subst hm
  intro Hb H σ ρ P Q I w q
  have hst : starEach [y] X.env = [(false, eval y X.env)] := notStar_eq hs
  refine ⟨_, pe_bm PySem.F.plainAttrs_list PySem.F.slot_list_index PySem.F.type_list_index (mt_indexD (hu64 ok)) pe_W (pa_cons pe_W pa_nil hst) rfl (by rw [hst]; rfl) hl hst rfl, ?_⟩
  refine ha _ _ _ _ _ _ I w fun d v Hb1 H1 w1 g1 r1 => ?_
  have key : ∀ ds, d = .list ds → tyV X.K "list" v H1 := fun ds e => by
    subst e
    obtain ⟨p, ys, rfl, h1, h2⟩ := Dp.lst_inv r1
    exact .inl ⟨rfl, _, sql_mono g1.c h1⟩
  have hd : ∃ ds, d = .list ds ∧ wE G b ρ fun y => wIdx ds y P := by
    unfold wList at w1
    split at w1
    · exact ⟨_, rfl, w1⟩
    · exact w1.elim
  obtain ⟨ds, rfl, w1⟩ := hd
  refine ⟨key ds rfl, ?_⟩
  refine hb _ _ _ _ _ _ (I.mono g1) w1 fun e u Hb2 H2 w2 g2 r2 => ?_
  obtain ⟨s1, s2, j, z, h1, h2, h3, w3⟩ := w2
  obtain ⟨p, ys, rfl, h4, h5⟩ := Dp.lst_inv r1
  exact ⟨p, u, e, ds, j, z, rfl, rfl, dp_mono (g2.a.trans g2.c) _ _ r1, dp_mono g2.c _ _ r2, s1, s2, h1, h2, h3, q _ _ Hb2 H2 w3 (g1.trans g2) (.int _)⟩
/-- t.index(n) of a tuple of ints -/
theorem mt_tidx : MtR X "tuple.index" (fun x xs H Q => ∃ p, ∃ ys : List Int, ∃ z j, x = .ref p ∧ xs = [.int z] ∧ SqT X.K H p (ys.map V.int) ∧ ys[j]? = some z ∧ (∀ m, m < j → ys[m]? ≠ some z) ∧ Q (.int (j : Nat)) H) := by
  intro pn s0 σ0 H0 x0 xs0 v0 us0 Q0 I0 rx rs h0
  obtain ⟨p, ys, z, j, rfl, rfl, hq, hy, hno, q⟩ := h0
  cases rx
  obtain ⟨u, rfl, t, rfl⟩ := vals1 rs
  obtain ⟨its, r, pl, hz⟩ := I0.tuple hq
  obtain ⟨⟨cls, dd, dt, sl⟩, ho, hc, n, hd⟩ := pl
  simp only at hc hd
  subst hc
  subst hd
  have flat : (ys.map V.int).all flatV = true := by
    rw [List.all_map]
    exact List.all_eq_true.mpr fun _ _ => rfl
  have hl : its.toArray.size = ys.length := by rw [List.size_toArray, ← r.length, List.length_map]
  have hj : j < its.toArray.size := by rw [hl]; exact (List.getElem?_eq_some_iff.mp hy).1
  have at' : ∀ (m : Nat) (hm : m < its.toArray.size), ∃ y t', ys[m]? = some y ∧ its.toArray[m] = Value.int y t' := fun m hm => by
    have hm' : m < ys.length := by rw [← hl]; exact hm
    obtain ⟨w, hw, t', hw'⟩ := r.get (i := m) (x := .int ys[m]) (by simp [hm'])
    refine ⟨ys[m], t', List.getElem?_eq_getElem hm', ?_⟩
    have e := (List.getElem?_eq_some_iff.mp hw).2
    rw [← hw', ← e]
    simp
  refine call_meets PySem.F.slot_tuple_index ⟨_, ho, rfl⟩ PySem.F.entry_tuple_index (PySem.F.args_tuple_index_2 _ _)
    (TI.tuple_indexAt p its.toArray n dd sl (.int z t) (eqU (.int z)) j hj ?_ ?_)
    ⟨ho, fun w hw => mem_eqAt (x := .int z) ⟨t, rfl⟩ rfl r flat w (by simpa using hw), ⟨.int (j : Nat), H0, I0.tok _, ⟨_, rfl⟩, q⟩⟩
  · obtain ⟨y, t', h1, h2⟩ := at' j hj
    rw [hy] at h1
    cases h1
    rw [h2]
    show (z == z) = true
    exact beq_self_eq_true z
  · intro m hm hmj
    obtain ⟨y, t', h1, h2⟩ := at' m hm
    rw [h2]
    show (y == z) = false
    exact beq_eq_false_iff_ne.mpr fun e => hno m hmj (e ▸ h1)
theorem stidx (ok : XOK X cf G) {i : Nat} {n m : Str} {p apos cpos : Pos} (hm : m = ("index" : Str)) (hn : chkV cf i n = true) (hs : notStar y = true) (hl : (apos.endLine == cpos.line) = true) (hb : SE X G b y) :
    SE X G (.tidx i b) (.Call (.Attribute (.Name n p) m apos) [y] [] cpos) := by
  subst hm
  intro Hb H σ ρ P Q I w q
  have hst : starEach [y] X.env = [(false, eval y X.env)] := notStar_eq hs
  obtain ⟨h1, h2, h3⟩ := chkV_of hn
  refine ⟨_, pe_bm PySem.F.plainAttrs_tuple PySem.F.slot_tuple_index PySem.F.type_tuple_index mt_tidx (pe_var (i := i) (by rw [ok.N]; exact h1) (vis_of (by rw [ok.sc]; exact h2)) (nm1 h3) (nm2 h3)) (pa_cons pe_W pa_nil hst) rfl (by rw [hst]; rfl) hl hst rfl, ?_⟩
  unfold wE at w
  split at w
  · rename_i ds e
    obtain ⟨v, e1, e2⟩ := I.wri i _ e
    refine ⟨v, e1, ?_⟩
    obtain ⟨a, o, its, nn, xs, rfl, c1, c2, c3, c4, c5, c6, c7⟩ := WrD.tup_inv e2
    refine ⟨.inr (.inl ⟨rfl, o, c1, c2, c3⟩), ?_⟩
    refine hb _ _ _ _ _ _ I w fun f u Hb2 H2 w2 g2 r2 => ?_
    obtain ⟨ns, k, j, rfl, rfl, h5, h6, w3⟩ := w2
    cases Dp.int_inv r2
    have hx : xs = ns.map V.int := dpa_ints (WrAll.dp (H := H2) _ _ c7)
    subst hx
    exact ⟨a, ns, k, j, rfl, rfl, .inr ⟨o, its, nn, c1, c2, c4, c5, c6⟩, h5, h6, q _ _ Hb2 H2 w3 g2 (.int _)⟩
  · exact w.elim
theorem tplain (he : ∀ whole, isTrue x X.env whole = (do let v ← whole; standAt x.pos; holding [v] (truthy v))) (h : SE X G a x) : ST X G a x := by
  intro Hb H σ ρ P Q I w q
  refine ⟨_, pt_val pe_W he, ?_⟩
  refine h _ _ _ _ _ _ I w fun d v Hb1 H1 w1 g1 r1 => ?_
  obtain ⟨k, rfl, w2⟩ := wBool_inv w1
  exact ⟨k, Dp.bl_inv r1, q k Hb1 H1 w2 g1⟩
theorem anil : SA X G .nil [] := fun Hb H σ ρ P Q I w q => ⟨_, pa_nil, q [] [] Hb H w (Gr.refl I.ex) .nil⟩
theorem acons (hs : notStar x = true) (ha : SE X G a x) (h : SA X G ts es) : SA X G (.cons a ts) (x :: es) := by
  intro Hb H σ ρ P Q I w q
  refine ⟨_, pa_cons pe_W pa_W (notStar_eq hs), ?_⟩
  refine ha _ _ _ _ _ _ I w fun d v Hb1 H1 w1 g1 r1 => ?_
  exact h _ _ _ _ _ _ (I.mono g1) w1 fun ds vs Hb2 H2 w2 g2 r2 => q _ _ Hb2 H2 w2 (g1.trans g2) (.cons (dp_mono g2.a _ _ r1) r2)

/-! ### walks -/
theorem itl {K : PySem.W.Frag} {p : Addr} {vs : List V} {ds : List PyData} (h : SqL K Hb p vs) (r : DpAll K Hb vs ds) : ItOk K (Itl K p) Hb ds := by
  refine ⟨fun i Hb2 H2 ga gc hi => ?_, fun Hb2 H2 ga gc => ⟨vs, sql_mono (ga.trans gc) h, by rw [dpa_len r]; exact Nat.le_refl _⟩, fun i x Hb2 H2 H3 ga gc hi y => ?_⟩
  · have hi' : i < vs.length := by rw [dpa_len r]; exact hi
    exact ⟨vs, vs[i], sql_mono (ga.trans gc) h, List.getElem?_eq_getElem hi'⟩
  · obtain ⟨e, y⟩ := y
    obtain ⟨d, h1, h2⟩ := dpa_getv r (y vs (sql_mono (ga.trans gc) h))
    exact ⟨e, d, h1, dp_mono ga _ _ h2⟩
theorem itt {K : PySem.W.Frag} {p : Addr} {vs : List V} {ds : List PyData} (h : SqT K Hb p vs) (r : DpAll K Hb vs ds) : ItOk K (Itt K p) Hb ds := by
  refine ⟨fun i Hb2 H2 ga gc hi => ?_, fun Hb2 H2 ga gc => ⟨vs, sqt_mono (ga.trans gc) h, by rw [dpa_len r]; exact Nat.le_refl _⟩, fun i x Hb2 H2 H3 ga gc hi y => ?_⟩
  · have hi' : i < vs.length := by rw [dpa_len r]; exact hi
    exact ⟨vs, vs[i], sqt_mono (ga.trans gc) h, List.getElem?_eq_getElem hi'⟩
  · obtain ⟨e, y⟩ := y
    obtain ⟨d, h1, h2⟩ := dpa_getv r (y vs (sqt_mono (ga.trans gc) h))
    exact ⟨e, d, h1, dp_mono ga _ _ h2⟩
theorem itr {K : PySem.W.Frag} {lo : Int} {n : Nat} : ItOk K (Itr lo n) Hb (intsUp lo n) := by
  have hl : (intsUp lo n).length = n := by unfold intsUp; rw [List.length_map, List.length_range]
  refine ⟨fun i Hb2 H2 ga gc hi => by rw [hl] at hi; exact hi, fun Hb2 H2 ga gc => by rw [hl]; exact Nat.le_refl n, fun i x Hb2 H2 H3 ga gc hi y => ?_⟩
  obtain ⟨e, y⟩ := y
  rw [hl] at hi
  refine ⟨e, .int (lo + i), ?_, by rw [y]; exact .int _⟩
  unfold intsUp
  rw [List.getElem?_map, List.getElem?_range hi]
  rfl
/-- a list or a tuple is walked -/
def iSeq (K : PySem.W.Frag) (te : TE) : TI := fun σ H R => te σ H fun u G1 =>
  ∃ p, u = .ref p ∧ (((∃ ws, SqL K G1 p ws) ∧ R (Itl K p) G1) ∨ ((∃ ws, SqT K G1 p ws) ∧ R (Itt K p) G1))
theorem pi_seq {tg l : Expr} {te : TE} (he : PE X l te) : PI X tg l (iSeq X.K te) := by
  refine ⟨fun pn s0 σ0 H0 R J0 w => ?_⟩
  refine thn (he.run pn s0 σ0 H0 _ J0 w) fun v s1 ⟨u, G1, J1, rel, p, eu, k⟩ => ?_
  subst eu
  cases rel
  have fp : ∀ b ∈ [s1.heap.objs.size], FpOk X pn G1 b := fun b hb => by
    cases List.mem_singleton.mp hb
    exact J1.fpOk (Nat.le_refl _) (J1.hok.fresh (Nat.le_refl _))
  have more : ∀ {o : Obj}, Inv X pn σ0 G1 { s1 with heap := s1.heap.push o, toks := s1.toks } := fun {o} =>
    J1.kept (t' := s1.toks) fun b z e => Heap.get?_push_of_some _ e
  rcases k with ⟨⟨ws, hw⟩, k⟩ | ⟨⟨ws, hw⟩, k⟩
  · obtain ⟨its, rv, il, hz⟩ := J1.list hw
    exact wpAny_pyIter_list il.isList ⟨_, [_], _, _, G1, rfl, more, turn_list p _, ⟨_, Heap.get?_push_size _ rfl, rfl, rfl⟩, fp, k⟩
  · obtain ⟨its, rv, il, hz⟩ := J1.tuple hw
    exact wpAny_pyIter_tuple (show s1.heap.IsTuple p its.toArray from il) ⟨_, [_], _, _, G1, rfl, more, turn_tuple p _, ⟨_, Heap.get?_push_size _ rfl, rfl, rfl⟩, fp, k⟩
theorem wSeq_inv {d : PyData} {R : List PyData → Prop} (w : wSeq d R) : ∃ ds, (d = .list ds ∨ d = .tuple ds) ∧ R ds := by
  unfold wSeq at w
  split at w
  · exact ⟨_, .inl rfl, w⟩
  · exact ⟨_, .inr rfl, w⟩
  · exact w.elim
/-- what gives data gives a walk over it -/
theorem si_of {tg : Expr} {P : List PyData → Prop} {R : It → Hp → Prop} (h : ∀ (Q : VK), (∀ d v Hb' H', wSeq d P → Gr Hb H Hb' H' → Dp X.K Hb' v d → Q v H') → WE X x σ H Q)
    (q : ∀ xs J Hb' H', P xs → Gr Hb H Hb' H' → ItOk X.K J Hb' xs → R J H') : WI X tg x σ H R := by
  refine ⟨_, pi_seq pe_W, h _ fun d v Hb' H' w g r => ?_⟩
  obtain ⟨ds, e, w⟩ := wSeq_inv w
  rcases e with rfl | rfl
  · obtain ⟨p, vs, rfl, h1, h2⟩ := Dp.lst_inv r
    exact ⟨p, rfl, .inl ⟨⟨vs, sql_mono g.c h1⟩, q ds _ Hb' H' w g (itl h1 h2)⟩⟩
  · obtain ⟨p, vs, rfl, h1, h2⟩ := Dp.tup_inv r
    exact ⟨p, rfl, .inr ⟨⟨vs, sqt_mono g.c h1⟩, q ds _ Hb' H' w g (itt h1 h2)⟩⟩
theorem iv (ok : XOK X cf G) {i : Nat} {n : Str} {p : Pos} {tg : Expr} (h : chkV cf i n = true) : SI X G (.v i) tg (.Name n p) := by
  intro Hb H σ ρ P R I w q
  refine si_of (fun Q k => sv ok h Hb H σ ρ (fun d => wSeq d P) Q I w k) q
theorem igl (ok : XOK X cf G) {n : Nat} {s : Str} {p : Pos} {tg : Expr} (h : chkF cf n s = true) : SI X G (.gl n) tg (.Name s p) := by
  intro Hb H σ ρ P R I w q
  refine si_of (fun Q k => sgl ok h Hb H σ ρ (fun d => wSeq d P) Q I w k) q
theorem iix {p : Pos} {tg : Expr} (hs : notSlice y = true) (ha : SE X G a x) (hb : SE X G b y) : SI X G (.ix a b) tg (.Subscript x y p) := by
  intro Hb H σ ρ P R I w q
  refine si_of (fun Q k => six hs ha hb Hb H σ ρ (fun d => wSeq d P) Q I w k) q
theorem icall (ok : XOK X cf G) {f : Nat} {n : Str} {p pos : Pos} {tg : Expr} (hf : chkF cf f n = true) (hs : notStar x = true) (hc : chkEs cf ts es = true) (h : SA X G (.cons a ts) (x :: es)) :
    SI X G (.call f (.cons a ts)) tg (.Call (.Name n p) (x :: es) [] pos) := by
  intro Hb H σ ρ P R I w q
  refine si_of (fun Q k => scall ok hf hs hc h Hb H σ ρ (fun d => wSeq d P) Q I w k) q
theorem ilst {p : Pos} {tg : Expr} (h : SA X G ts es) : SI X G (.lst ts) tg (.List es p) := by
  intro Hb H σ ρ P R I w q
  refine si_of (fun Q k => (flst h).se Hb H σ ρ (fun d => wSeq d P) Q I w k) q
theorem itup {k : Nat} {p : Pos} {tg : Expr} (h : SA X G ts es) : SI X G (.tup ts) tg (.Tuple es k p) := by
  intro Hb H σ ρ P R I w q
  refine si_of (fun Q k => stup h Hb H σ ρ (fun d => wSeq d P) Q I w k) q
theorem wRg_inv {lo hi : Int} {P : List PyData → Prop} (w : wRg lo hi P) : (-(2 ^ 62) ≤ lo ∧ lo < 2 ^ 62 ∧ -(2 ^ 62) ≤ hi ∧ hi < 2 ^ 62) ∧ P (intsUp lo (hi - lo).toNat) := by
  obtain ⟨⟨h1, h2, h3, h4⟩, h⟩ := w
  exact ⟨⟨by omega, by omega, by omega, by omega⟩, h⟩
theorem irg1 (ok : XOK X cf G) {n : Str} {p pos : Pos} {tg : Expr} (hn : n = ("range" : Str)) (hg : glB cf.sc n = true) (hs : notStar x = true) (ha : SE X G a x) : SI X G (.rg1 a) tg (.Call (.Name n p) [x] [] pos) := by
  subst hn
  intro Hb H σ ρ P R I w q
  refine ⟨_, pi_range1 (gl_of ok hg) ok.glb.rng (pa_cons pe_W pa_nil (notStar_eq hs)) (notStar_eq hs), ?_⟩
  refine ha _ _ _ _ _ _ I w fun d v Hb1 H1 w1 g1 r1 => ?_
  split at w1
  · rename_i i
    cases Dp.int_inv r1
    obtain ⟨⟨h1, h2, h3, h4⟩, w2⟩ := wRg_inv w1
    rw [Int.sub_zero] at w2
    exact ⟨i, rfl, h3, h4, q _ _ Hb1 H1 w2 g1 itr⟩
  · exact w1.elim
theorem irg2 (ok : XOK X cf G) {n : Str} {p pos : Pos} {tg : Expr} (hn : n = ("range" : Str)) (hg : glB cf.sc n = true) (hs : notStar x = true) (hs' : notStar y = true) (ha : SE X G a x) (hb : SE X G b y) : SI X G (.rg2 a b) tg (.Call (.Name n p) [x, y] [] pos) := by
  subst hn
  intro Hb H σ ρ P R I w q
  have e1 : starEach [y] X.env = [(false, eval y X.env)] := notStar_eq hs'
  have e2 : starEach [x, y] X.env = [(false, eval x X.env), (false, eval y X.env)] := by rw [notStar_eq hs, e1]
  refine ⟨_, pi_range2 (gl_of ok hg) ok.glb.rng (pa_cons pe_W (pa_cons pe_W pa_nil e1) (notStar_eq hs)) e2 e1, ?_⟩
  refine two ha hb I w fun d e v u Hb1 H1 w1 g1 r1 r2 => ?_
  split at w1
  · cases Dp.int_inv r1
    cases Dp.int_inv r2
    obtain ⟨h, w2⟩ := wRg_inv w1
    exact ⟨_, _, rfl, h, q _ _ Hb1 H1 w2 g1 itr⟩
  · exact w1.elim
end
end Pd

set_option Elab.async false
set_option linter.all false
set_option maxRecDepth 100000
set_option maxHeartbeats 4000000
namespace Pd
open PySem L2
section
variable {X : Cx} {G : Ga} {cf : Cf} {a b c src elt : T} {x y z iter e : Expr} {Hb H : Hp} {σ : L2.St} {ρ : Rho} {ts : Ts} {es : List Expr}

theorem pi_W {tg : Expr} : PI X tg e (WI X tg e) := ⟨fun pins s σ H R I ⟨_, h, q⟩ => h.run pins s σ H R I q⟩
def WB (X : Cx) (scope : Scope) (e : Expr) : TE := fun σ H Q => ∀ (s0 : Shared) (H0 : Hp) (C : Addr) (cl : List (Str × Addr)) (fp : List Addr), WE (X.blk s0 H0 scope (compEnvC scope cl C X.env) fp) e σ H Q
def WBT (X : Cx) (scope : Scope) (e : Expr) : TT := fun σ H Q => ∀ (s0 : Shared) (H0 : Hp) (C : Addr) (cl : List (Str × Addr)) (fp : List Addr), WT (X.blk s0 H0 scope (compEnvC scope cl C X.env) fp) e σ H Q
theorem pe_WB {scope : Scope} (s : Shared) (H : Hp) (C : Addr) (cl : List (Str × Addr)) (fp : List Addr) : PE (X.blk s H scope (compEnvC scope cl C X.env) fp) e (WB X scope e) :=
  ⟨fun pins s' σ H' Q I h => pe_W.run pins s' σ H' Q I (h s H C cl fp)⟩
theorem pt_WB {scope : Scope} (s : Shared) (H : Hp) (C : Addr) (cl : List (Str × Addr)) (fp : List Addr) : PT (X.blk s H scope (compEnvC scope cl C X.env) fp) e (WBT X scope e) :=
  ⟨fun pins s' σ H' Q I h => pt_W.run pins s' σ H' Q I (h s H C cl fp)⟩
theorem blk_ok (ok : XOK X cf G) {scope : Scope} (s : Shared) (H : Hp) (C : Addr) (cl : List (Str × Addr)) (fp : List Addr) : XOK (X.blk s H scope (compEnvC scope cl C X.env) fp) { cf with sc := rel scope cf.sc } G := by
  refine ⟨ok.N, ok.nd, ?_, ok.calm, ok.room, rfl, ⟨ok.glb.blt, ok.glb.rng, ok.glb.con, ok.glb.fn, ok.glb.tab⟩⟩
  show relabel scope X.env = rel scope cf.sc
  unfold relabel rel
  rw [← ok.sc]
  rfl
theorem lookup_map {f : Str × NameKind → Str × NameKind} (hf : ∀ p, (f p).1 = p.1) (hk : ∀ p, p.2 ≠ .free → f p = p) {n : Str} {k : NameKind} (h : k ≠ .free) : ∀ {l : List (Str × NameKind)}, l.lookup n = some k → (l.map f).lookup n = some k
  | [], e => by cases e
  | (m, j) :: l, e => by
    rw [List.map_cons]
    have e1 := hf (m, j)
    by_cases q : n = m
    · subst q
      have e2 : j = k := by
        rw [List.lookup_cons] at e
        simpa using e
      subst e2
      rw [hk _ h, List.lookup_cons]
      simp
    · have e2 : List.lookup n l = some k := by
        rw [List.lookup_cons] at e
        have : (n == m) = false := by simpa using q
        rw [this] at e
        exact e
      have e3 : f (m, j) = (m, (f (m, j)).2) := Prod.ext e1 rfl
      rw [e3, List.lookup_cons]
      have : (n == m) = false := by simpa using q
      rw [this]
      exact lookup_map hf hk h e2
theorem relabel_loc {scope : Scope} {env : Env} {n : Str} {k : NameKind} (h : scope.names.lookup n = some k) (hk : k ≠ .free) : (relabel scope env).names.lookup n = some k := by
  unfold relabel
  refine lookup_map (fun p => ?_) (fun p hp => ?_) hk h
  · obtain ⟨m, j⟩ := p
    dsimp only
    split <;> rfl
  · obtain ⟨m, j⟩ := p
    dsimp only
    have : (j == NameKind.free) = false := by
      cases j <;> first | rfl | exact absurd rfl hp
    rw [this]
    rfl
theorem blk_name (ok : XOK X cf G) {scope : Scope} {i : Nat} {n : Str} {p : Pos} (hi : cf.N[i]? = some n) (hl : locB scope n = true) (s : Shared) (H : Hp) (C : Addr) (cl : List (Str × Addr)) (fp : List Addr) :
    PG (X.blk s H scope (compEnvC scope cl C X.env) fp) (.Name n p) (gName i) := by
  have hN : X.N = cf.N := ok.N
  rcases loc_of hl with q | q
  · have q' : (relabel scope X.env).names.lookup n = some .local := relabel_loc q (by decide)
    exact pg_name (by rw [show (X.blk s H scope (compEnvC scope cl C X.env) fp).N = cf.N from hN]; exact ok.nd) (by rw [show (X.blk s H scope (compEnvC scope cl C X.env) fp).N = cf.N from hN]; exact hi) (.inl q') (.inr q')
  · have q' : (relabel scope X.env).names.lookup n = some .cell := relabel_loc q (by decide)
    exact pg_name (by rw [show (X.blk s H scope (compEnvC scope cl C X.env) fp).N = cf.N from hN]; exact ok.nd) (by rw [show (X.blk s H scope (compEnvC scope cl C X.env) fp).N = cf.N from hN]; exact hi) (.inr q') (.inl (by show (scope.names.lookup n == some .cell) = true; rw [q]; rfl))
theorem Gr.mut {Hb' H' : Hp} {D : Addr} {o : HO} (g : Gr Hb H Hb' H') (hD : H D = none) (hb : Hb' D = none) : Gr Hb H Hb' (upd H' D o) := by
  refine ⟨g.a, fun p u e => ?_, fun p u e => ?_, g.d⟩
  · rw [upd_ne (ne_of_none e hD)]
    exact g.b p u e
  · rw [upd_ne (ne_of_none e hb)]
    exact g.c p u e
structure ItG (K : PySem.W.Frag) (J : It) (Hb H : Hp) (xs : List PyData) : Prop where
  go : ∀ i Hb2 H2, Gr Hb H Hb2 H2 → i < xs.length → J.go i H2
  stop : ∀ Hb2 H2, Gr Hb H Hb2 H2 → J.stop xs.length H2
  yld : ∀ i x Hb2 H2 H3, Gr Hb H Hb2 H2 → i < xs.length → J.yld i H2 x H3 → H3 = H2 ∧ ∃ d, xs[i]? = some d ∧ Dp K Hb2 x d
theorem ItOk.g {K : PySem.W.Frag} {J : It} {xs : List PyData} (it : ItOk K J Hb xs) : ItG K J Hb H xs :=
  ⟨fun i _ _ g => it.go i _ _ g.a g.c, fun _ _ g => it.stop _ _ g.a g.c, fun i x _ _ _ g => it.yld i x _ _ _ g.a g.c⟩
theorem ito {K : PySem.W.Frag} {p : Addr} {vs : List V} {ds : List PyData} (h : H p = some (.lst vs)) (r : DpAll K Hb vs ds) : ItG K (Itl K p) Hb H ds := by
  refine ⟨fun i Hb2 H2 g hi => ?_, fun Hb2 H2 g => ⟨vs, SqL.of (g.b _ _ h), by rw [dpa_len r]; exact Nat.le_refl _⟩, fun i x Hb2 H2 H3 g hi y => ?_⟩
  · have hi' : i < vs.length := by rw [dpa_len r]; exact hi
    exact ⟨vs, vs[i], SqL.of (g.b _ _ h), List.getElem?_eq_getElem hi'⟩
  · obtain ⟨e, y⟩ := y
    obtain ⟨d, h1, h2⟩ := dpa_getv r (y vs (SqL.of (g.b _ _ h)))
    exact ⟨e, d, h1, dp_mono g.a _ _ h2⟩
/-- the loop of a comprehension -/
theorem lc_run {step : PyData → (Option PyData → Prop) → Prop} {i : Nat} {J : It} {Hb1 H1 : Hp} {xs : List PyData} {tt : TT} {te : TE} {P : List PyData → Prop} {Q : VK} {D : Addr} (ex : Ex Hb1 H1) (it : ItG X.K J Hb1 H1 xs) (hD : H1 D = none) (w : lcW step xs [] P)
    (hs : ∀ d v Hb2 H2 R (A : VK) (N : Hp → Prop), Dp X.K Hb2 v d → Gr Hb1 H1 Hb2 H2 → step d R → (∀ y u Hb4 H4, R (some y) → Gr Hb2 H2 Hb4 H4 → Dp X.K Hb4 u y → A u H4) → (∀ Hb4 H4, R none → Gr Hb2 H2 Hb4 H4 → N H4) →
      tt ((wipe σ [i]).set i (some v)) H2 fun b H3 => if b = true then te ((wipe σ [i]).set i (some v)) H3 A else N H3)
    (q : ∀ ds vs Hb' H', P ds → Gr Hb1 H1 Hb' H' → Hb' D = none → H' D = some (.lst vs) → DpAll X.K Hb' vs ds → Q (.ref D) H') :
    ∃ W : Nat → Nat → Hp → Prop, (∃ m, W 0 m (upd H1 D (.lst []))) ∧ ∀ k m H, W k m H →
      (J.stop k H ∧ Q (.ref D) H) ∨ (J.go k H ∧ ∃ Nx : Hp → Prop, (∀ H', Nx H' → ∃ m', m' < m ∧ W (k + 1) m' H') ∧ ∀ x H', J.yld k H x H' → gName i x (wipe σ [i]) H' fun σ2 H2 => wipe σ2 [i] = wipe σ [i] ∧ tt σ2 H2 fun b H3 =>
        if b = true then te σ2 H3 fun y H4 => ∃ acc, H4 D = some (.lst acc) ∧ acc.length < sizeLine ∧ Nx (upd H4 D (.lst (acc ++ [y]))) else Nx H3) := by
  refine ⟨fun k m H2 => m = xs.length - k ∧ k ≤ xs.length ∧ ∃ Hb2 acc vs, Gr Hb1 H1 Hb2 H2 ∧ Hb2 D = none ∧ H2 D = some (.lst vs) ∧ DpAll X.K Hb2 vs acc ∧ lcW step (xs.drop k) acc P,
    ⟨_, rfl, Nat.zero_le _, Hb1, [], [], (Gr.refl ex).mut hD (none_of_ex ex hD), none_of_ex ex hD, upd_same, .nil, w⟩, ?_⟩
  rintro k m H2 ⟨rfl, hk, Hb2, acc, vs, g, hb, hl, r, w⟩
  by_cases hlt : k < xs.length
  · refine .inr ⟨it.go k Hb2 H2 g hlt, fun H' => ∃ Hb2 acc vs, Gr Hb1 H1 Hb2 H' ∧ Hb2 D = none ∧ H' D = some (.lst vs) ∧ DpAll X.K Hb2 vs acc ∧ lcW step (xs.drop (k + 1)) acc P, fun H' h => ⟨_, by omega, rfl, hlt, h⟩, fun v H' y => ?_⟩
    obtain ⟨e, d, hd, rd⟩ := it.yld k v Hb2 H2 H' g hlt y
    subst e
    have ed : xs.drop k = d :: xs.drop (k + 1) := by
      rw [List.drop_eq_getElem_cons hlt]
      rw [List.getElem?_eq_getElem hlt] at hd
      cases hd
      rfl
    rw [ed] at w
    refine ⟨?_, ?_⟩
    · show (((σ.set i none).set i (some v)).set i none) = σ.set i none
      rw [List.set_set, List.set_set]
    refine hs d v Hb2 H' _ _ _ rd g w (fun y u Hb4 H4 w2 g2 r2 => ?_) fun Hb4 H4 w2 g2 => ?_
    · refine ⟨vs, g2.b _ _ hl, ?_, Hb4, acc ++ [y], vs ++ [u], (g.trans g2).mut hD (g2.d _ _ hl hb), g2.d _ _ hl hb, upd_same, dpa_append (dpa_mono g2.a _ _ r) (.cons r2 .nil), w2.2⟩
      rw [dpa_len r]
      exact sz_lt w2.1
    · exact ⟨Hb4, acc, vs, g.trans g2, g2.d _ _ hl hb, g2.b _ _ hl, dpa_mono g2.a _ _ r, w2⟩
  · have ek : k = xs.length := by omega
    subst ek
    refine .inl ⟨it.stop Hb2 H2 g, ?_⟩
    rw [List.drop_length] at w
    exact q acc vs Hb2 H2 w g hb hl r
theorem notSet_f {env : Env} (h : notSet iter = true) : ∀ u, foldedSetIterable iter env u = pure u := by
  intro u
  cases iter <;> first | rfl | cases h
theorem flc0 (ok : XOK X cf G) {scope : Scope} {i : Nat} {n : Str} {p : Pos} (hsrc : SI X G src (.Name n p) iter)
    (he : ∀ X', XOK X' { cf with sc := rel scope cf.sc } G → SE X' G elt e) {P : PyData → Prop} {Q : VK} (I : En X.K Hb H σ ρ) (w : wE G (.lc i src elt) ρ P)
    (q : ∀ ds p vs Hb' H', P (.list ds) → Gr Hb H Hb' H' → H p = none → Hb' p = none → H' p = some (.lst vs) → DpAll X.K Hb' vs ds → Q (.ref p) H') : tLc (WI X (.Name n p) iter) (gName i) tYes (WB X scope e) [i] σ H Q := by
  refine hsrc _ _ _ _ _ _ I w fun xs J Hb1 H1 w1 g1 it => fun D hD => ?_
  refine lc_run g1.c it.g hD w1 (fun d v Hb2 H2 R A N rd g st hA hN => ?_) fun ds vs Hb' H' w2 g hb' hl' r => q ds D vs Hb' H' w2 (g1.trans g) (none_of_ex g1.b hD) hb' hl' r
  show (if true = true then WB X scope e ((wipe σ [i]).set i (some v)) H2 A else N H2)
  rw [if_pos rfl]
  intro s0 H0 C cl fp
  have I2 : En X.K Hb2 H2 ((wipe σ [i]).set i (some v)) (ρ.set i (some (.dat d))) := (I.mono (g1.trans g)).wipe1 rd
  exact he _ (blk_ok ok s0 H0 C cl fp) _ _ _ _ _ _ I2 st fun y u Hb4 H4 w3 g3 r3 => hA y u Hb4 H4 w3 g3 r3
theorem flci0 (ok : XOK X cf G) {scope : Scope} {i : Nat} {n : Str} {p : Pos} (hsrc : SI X G src (.Name n p) iter)
    (ht : ∀ X', XOK X' { cf with sc := rel scope cf.sc } G → ST X' G c z)
    (he : ∀ X', XOK X' { cf with sc := rel scope cf.sc } G → SE X' G elt e) {P : PyData → Prop} {Q : VK} (I : En X.K Hb H σ ρ) (w : wE G (.lci i src c elt) ρ P)
    (q : ∀ ds p vs Hb' H', P (.list ds) → Gr Hb H Hb' H' → H p = none → Hb' p = none → H' p = some (.lst vs) → DpAll X.K Hb' vs ds → Q (.ref p) H') : tLc (WI X (.Name n p) iter) (gName i) (WBT X scope z) (WB X scope e) [i] σ H Q := by
  refine hsrc _ _ _ _ _ _ I w fun xs J Hb1 H1 w1 g1 it => fun D hD => ?_
  refine lc_run g1.c it.g hD w1 (fun d v Hb2 H2 R A N rd g st hA hN => ?_) fun ds vs Hb' H' w2 g hb' hl' r => q ds D vs Hb' H' w2 (g1.trans g) (none_of_ex g1.b hD) hb' hl' r
  intro s0 H0 C cl fp
  have I2 : En X.K Hb2 H2 ((wipe σ [i]).set i (some v)) (ρ.set i (some (.dat d))) := (I.mono (g1.trans g)).wipe1 rd
  refine ht _ (blk_ok ok s0 H0 C cl fp) Hb2 H2 _ _ (fun z => wBool z fun k => (k = true → wE G elt (ρ.set i (some (.dat d))) fun y => R (some y)) ∧ (k = false → R none)) _ I2 ?_ fun k Hb3 H3 w3 g3 => ?_
  · exact st
  cases k with
  | true =>
    rw [if_pos rfl]
    intro s0 H0 C cl fp
    exact he _ (blk_ok ok s0 H0 C cl fp) _ _ _ _ _ _ (I2.mono g3) (w3.1 rfl) fun y u Hb4 H4 w4 g4 r4 => hA y u Hb4 H4 w4 (g3.trans g4) r4
  | false =>
    rw [if_neg (by decide)]
    exact hN Hb3 H3 (w3.2 rfl) g3
theorem flco0 (ok : XOK X cf G) {scope : Scope} {i j : Nat} {n m : Str} {p p2 : Pos} (hv : chkV cf j m = true)
    (he : ∀ X', XOK X' { cf with sc := rel scope cf.sc } G → SE X' G elt e) {P : PyData → Prop} {Q : VK} (I : En X.K Hb H σ ρ) (w : wE G (.lco i j elt) ρ P)
    (q : ∀ ds p vs Hb' H', P (.list ds) → Gr Hb H Hb' H' → H p = none → Hb' p = none → H' p = some (.lst vs) → DpAll X.K Hb' vs ds → Q (.ref p) H') : tLc (WI X (.Name n p) (.Name m p2)) (gName i) tYes (WB X scope e) [i] σ H Q := by
  obtain ⟨c1, c2, c3⟩ := chkV_of hv
  unfold wE at w
  split at w
  · rename_i ds ho
    obtain ⟨a, vs, e1, e2, e3, e4⟩ := I.own j ds ho
    refine ⟨_, pi_list (pe_var (i := j) (by rw [ok.N]; exact c1) (vis_of (by rw [ok.sc]; exact c2)) (nm1 c3) (nm2 c3)), .ref a, e1, a, rfl, ⟨vs, SqL.of e3⟩, fun D hD => ?_⟩
    refine lc_run I.ex (ito e3 e4) hD w (fun d v Hb2 H2 R A N rd g st hA hN => ?_) fun ds vs Hb' H' w2 g hb' hl' r => q ds D vs Hb' H' w2 g hD hb' hl' r
    show (if true = true then WB X scope e ((wipe σ [i]).set i (some v)) H2 A else N H2)
    rw [if_pos rfl]
    intro s0 H0 C cl fp
    have I2 : En X.K Hb2 H2 ((wipe σ [i]).set i (some v)) (ρ.set i (some (.dat d))) := (I.mono g).wipe1 rd
    exact he _ (blk_ok ok s0 H0 C cl fp) _ _ _ _ _ _ I2 st fun y u Hb4 H4 w3 g3 r3 => hA y u Hb4 H4 w3 g3 r3
  · exact w.elim
theorem flco (ok : XOK X cf G) {scope : Scope} {i j : Nat} {n m : Str} {p p2 pos : Pos} (hi : cf.N[i]? = some n) (hl : locB scope n = true) (hb : blkC cf.N cf.sc scope [(n, i)] = true) (hv : chkV cf j m = true)
    (he : ∀ X', XOK X' { cf with sc := rel scope cf.sc } G → SE X' G elt e) : SF X G (.lco i j elt) (.ListComp e [⟨.Name n p, .Name m p2, [], 0⟩] scope pos) := by
  intro Hb H σ ρ P Q I w q
  exact ⟨_, pe_lc (own := [(n, i)]) (g := gName i) (tt := tYes) (te := WB X scope e) ok.calm (by rw [ok.N]; exact ok.nd) pi_W (by rw [ok.N, ok.sc]; exact blkOk_by hb) (blk_name ok hi hl) (fun _ _ _ _ _ => pts_nil) pe_WB (fun _ => rfl), flco0 ok hv he I w q⟩
theorem flc (ok : XOK X cf G) {scope : Scope} {i : Nat} {n : Str} {p pos : Pos} (hi : cf.N[i]? = some n) (hl : locB scope n = true) (hb : blkC cf.N cf.sc scope [(n, i)] = true) (hns : notSet iter = true) (hsrc : SI X G src (.Name n p) iter)
    (he : ∀ X', XOK X' { cf with sc := rel scope cf.sc } G → SE X' G elt e) : SF X G (.lc i src elt) (.ListComp e [⟨.Name n p, iter, [], 0⟩] scope pos) := by
  intro Hb H σ ρ P Q I w q
  exact ⟨_, pe_lc (own := [(n, i)]) (g := gName i) (tt := tYes) (te := WB X scope e) ok.calm (by rw [ok.N]; exact ok.nd) pi_W (by rw [ok.N, ok.sc]; exact blkOk_by hb) (blk_name ok hi hl) (fun _ _ _ _ _ => pts_nil) pe_WB (notSet_f hns), flc0 ok hsrc he I w q⟩
theorem flci (ok : XOK X cf G) {scope : Scope} {i : Nat} {n : Str} {p pos : Pos} (hi : cf.N[i]? = some n) (hl : locB scope n = true) (hb : blkC cf.N cf.sc scope [(n, i)] = true) (hns : notSet iter = true) (hsrc : SI X G src (.Name n p) iter)
    (ht : ∀ X', XOK X' { cf with sc := rel scope cf.sc } G → ST X' G c z)
    (he : ∀ X', XOK X' { cf with sc := rel scope cf.sc } G → SE X' G elt e) : SF X G (.lci i src c elt) (.ListComp e [⟨.Name n p, iter, [z], 0⟩] scope pos) := by
  intro Hb H σ ρ P Q I w q
  exact ⟨_, pe_lc (own := [(n, i)]) (g := gName i) (tt := WBT X scope z) (te := WB X scope e) ok.calm (by rw [ok.N]; exact ok.nd) pi_W (by rw [ok.N, ok.sc]; exact blkOk_by hb) (blk_name ok hi hl) (fun s H C cl fp => pts_one (pt_WB s H C cl fp)) pe_WB (notSet_f hns), flci0 ok hsrc ht he I w q⟩
end
end Pd

set_option Elab.async false
set_option linter.all false
set_option maxRecDepth 100000
set_option maxHeartbeats 4000000
namespace Pd
open PySem L2
section
variable {G : Ga} {cf : Cf} {X : Cx} {a b c : T} {ts : Ts} {e : Expr}
def isBool : Expr → Bool
  | .BoolOp _ _ _ => true
  | _ => false
structure Okk (G : Ga) (t : T) : Prop where
  e : ∀ cf X e, XOK X cf G → chkE cf t e = true → SE X G t e
  c : ∀ cf X e, XOK X cf G → chkC cf t e = true → ST X G t e
  w : ∀ cf X e, XOK X cf G → chkC cf t e = true → isBool e = true → SW X G t e
  i : ∀ cf X e tg, XOK X cf G → chkI cf t e = true → SI X G t tg e
  f : ∀ cf X e, XOK X cf G → chkE cf t e = true → isFresh t = true → SF X G t e
structure Okks (G : Ga) (ts : Ts) : Prop where
  s : ∀ cf X es, XOK X cf G → chkEs cf ts es = true → SA X G ts es
theorem no {α : Prop} (h : false = true) : α := by cases h
/-- a term that is neither test nor walk nor new -/
theorem Okk.of_e {t : T} (he : ∀ cf X e, XOK X cf G → chkE cf t e = true → SE X G t e) (hc : ∀ cf e, chkC cf t e = false) (hi : ∀ cf e, chkI cf t e = false) (hf : isFresh t = false) : Okk G t :=
  ⟨he, fun cf X e _ h => by rw [hc] at h; exact no h, fun cf X e _ h => by rw [hc] at h; exact no h, fun cf X e tg _ h => by rw [hi] at h; exact no h, fun cf X e _ _ h => by rw [hf] at h; exact no h⟩
theorem o_v (i : Nat) : Okk G (.v i) := by
  refine ⟨fun cf X e ok h => ?_, fun cf X e ok h => ?_, fun cf X e ok h hq => ?_, fun cf X e tg ok h => ?_, fun cf X e ok h hf => no hf⟩
  · cases e <;> simp only [chkE, Bool.false_eq_true] at h
    exact sv ok h
  · cases e <;> simp only [chkC, Bool.false_eq_true] at h
    exact tplain (fun _ => rfl) (sv ok h)
  · cases e <;> first | exact no hq | (simp only [chkC, Bool.false_eq_true] at h)
  · cases e <;> simp only [chkI, Bool.false_eq_true] at h
    exact iv ok h
theorem o_k (d : PyData) : Okk G (.k d) :=
  .of_e (fun cf X e ok h => by simp only [chkE] at h; exact sk h) (fun cf e => by cases e <;> simp only [chkC]) (fun cf e => by cases e <;> simp only [chkI]) rfl
theorem o_gl (n : Nat) : Okk G (.gl n) := by
  refine ⟨fun cf X e ok h => ?_, fun cf X e ok h => ?_, fun cf X e ok h hq => ?_, fun cf X e tg ok h => ?_, fun cf X e ok h hf => no hf⟩
  · cases e <;> simp only [chkE, Bool.false_eq_true] at h
    exact sgl ok h
  · cases e <;> simp only [chkC, Bool.false_eq_true] at h
  · cases e <;> simp only [chkC, Bool.false_eq_true] at h
  · cases e <;> simp only [chkI, Bool.false_eq_true] at h
    exact igl ok h
theorem o_bin (o : BO) (ha : Okk G a) (hb : Okk G b) : Okk G (.bin o a b) :=
  .of_e (fun cf X e ok h => by
    cases e <;> simp only [chkE, Bool.false_eq_true, Bool.and_eq_true] at h
    exact sbin h.1.1 (ha.e _ _ _ ok h.1.2) (hb.e _ _ _ ok h.2)) (fun cf e => by cases e <;> simp only [chkC]) (fun cf e => by cases e <;> simp only [chkI]) rfl
theorem o_neg (ha : Okk G a) : Okk G (.neg a) :=
  .of_e (fun cf X e ok h => by
    cases e <;> simp only [chkE, Bool.false_eq_true, Bool.and_eq_true] at h
    cases isUn_eq h.1
    exact sneg (ha.e _ _ _ ok h.2)) (fun cf e => by cases e <;> simp only [chkC]) (fun cf e => by cases e <;> simp only [chkI]) rfl
theorem o_cmp (o : CO) (ha : Okk G a) (hb : Okk G b) : Okk G (.cmp o a b) := by
  refine ⟨fun cf X e ok h => ?_, fun cf X e ok h => ?_, fun cf X e ok h hq => ?_, fun cf X e tg ok h => ?_, fun cf X e ok h hf => ?_⟩
  · cases e <;> first | (simp only [chkE, Bool.false_eq_true] at h; done) | skip
    rename_i x ops ys p
    rcases ops with _ | ⟨op, _ | ⟨op2, ops⟩⟩ <;> rcases ys with _ | ⟨y, _ | ⟨y2, ys⟩⟩ <;> first | (simp only [chkE, Bool.false_eq_true] at h; done) | skip
    simp only [chkE, Bool.and_eq_true] at h
    exact scmp ok h.1.1.1 h.2 (ha.e _ _ _ ok h.1.1.2) (hb.e _ _ _ ok h.1.2)
  · cases e <;> first | (simp only [chkC, Bool.false_eq_true] at h; done) | skip
    rename_i x ops ys p
    rcases ops with _ | ⟨op, _ | ⟨op2, ops⟩⟩ <;> rcases ys with _ | ⟨y, _ | ⟨y2, ys⟩⟩ <;> first | (simp only [chkC, Bool.false_eq_true] at h; done) | skip
    simp only [chkC, Bool.and_eq_true] at h
    exact tcmp ok h.1.1.1 h.2 (ha.e _ _ _ ok h.1.1.2) (hb.e _ _ _ ok h.1.2)
  · cases e <;> first | exact no hq | (simp only [chkC, Bool.false_eq_true] at h; done)
  · cases e <;> simp only [chkI, Bool.false_eq_true] at h
  · exact no hf
theorem o_chain (o o' : CO) (ha : Okk G a) (hb : Okk G b) (hc : Okk G c) : Okk G (.chain o o' a b c) := by
  refine ⟨fun cf X e ok h => ?_, fun cf X e ok h => ?_, fun cf X e ok h hq => ?_, fun cf X e tg ok h => ?_, fun cf X e ok h hf => ?_⟩
  · cases e <;> first | (simp only [chkE, Bool.false_eq_true] at h; done) | skip
    rename_i x ops ys p
    rcases ops with _ | ⟨op, _ | ⟨op2, _ | ⟨op3, ops⟩⟩⟩ <;> rcases ys with _ | ⟨y, _ | ⟨y2, _ | ⟨y3, ys⟩⟩⟩ <;> first | (simp only [chkE, Bool.false_eq_true] at h; done) | skip
    simp only [chkE, Bool.and_eq_true] at h
    exact schain ok h.1.1.1.1.1 h.1.1.1.1.2 h.2 (ha.e _ _ _ ok h.1.1.1.2) (hb.e _ _ _ ok h.1.1.2) (hc.e _ _ _ ok h.1.2)
  · cases e <;> first | (simp only [chkC, Bool.false_eq_true] at h; done) | skip
    rename_i x ops ys p
    rcases ops with _ | ⟨op, _ | ⟨op2, _ | ⟨op3, ops⟩⟩⟩ <;> rcases ys with _ | ⟨y, _ | ⟨y2, _ | ⟨y3, ys⟩⟩⟩ <;> first | (simp only [chkC, Bool.false_eq_true] at h; done) | skip
    simp only [chkC, Bool.and_eq_true] at h
    exact tchain ok h.1.1.1.1.1 h.1.1.1.1.2 h.2 (ha.e _ _ _ ok h.1.1.1.2) (hb.e _ _ _ ok h.1.1.2) (hc.e _ _ _ ok h.1.2)
  · cases e <;> first | exact no hq | (simp only [chkC, Bool.false_eq_true] at h; done)
  · cases e <;> simp only [chkI, Bool.false_eq_true] at h
  · exact no hf
theorem o_isN (ha : Okk G a) : Okk G (.isN a) := by
  refine ⟨fun cf X e ok h => ?_, fun cf X e ok h => ?_, fun cf X e ok h hq => ?_, fun cf X e tg ok h => ?_, fun cf X e ok h hf => ?_⟩
  · cases e <;> first | (simp only [chkE, Bool.false_eq_true] at h; done) | skip
    rename_i x ops ys p
    rcases ops with _ | ⟨op, _ | ⟨op2, ops⟩⟩ <;> rcases ys with _ | ⟨y, _ | ⟨y2, ys⟩⟩ <;> first | (simp only [chkE, Bool.false_eq_true] at h; done) | skip
    simp only [chkE, Bool.and_eq_true] at h
    cases isCo_eq h.1.1
    obtain ⟨j, p', rfl⟩ := isNoneE_eq h.1.2
    exact sisN (ha.e _ _ _ ok h.2)
  · cases e <;> first | (simp only [chkC, Bool.false_eq_true] at h; done) | skip
    rename_i x ops ys p
    rcases ops with _ | ⟨op, _ | ⟨op2, ops⟩⟩ <;> rcases ys with _ | ⟨y, _ | ⟨y2, ys⟩⟩ <;> first | (simp only [chkC, Bool.false_eq_true] at h; done) | skip
    simp only [chkC, Bool.and_eq_true] at h
    cases isCo_eq h.1.1
    obtain ⟨j, p', rfl⟩ := isNoneE_eq h.1.2
    exact tisN (ha.e _ _ _ ok h.2)
  · cases e <;> first | exact no hq | (simp only [chkC, Bool.false_eq_true] at h; done)
  · cases e <;> simp only [chkI, Bool.false_eq_true] at h
  · exact no hf
theorem o_notN (ha : Okk G a) : Okk G (.notN a) := by
  refine ⟨fun cf X e ok h => ?_, fun cf X e ok h => ?_, fun cf X e ok h hq => ?_, fun cf X e tg ok h => ?_, fun cf X e ok h hf => ?_⟩
  · cases e <;> first | (simp only [chkE, Bool.false_eq_true] at h; done) | skip
    rename_i x ops ys p
    rcases ops with _ | ⟨op, _ | ⟨op2, ops⟩⟩ <;> rcases ys with _ | ⟨y, _ | ⟨y2, ys⟩⟩ <;> first | (simp only [chkE, Bool.false_eq_true] at h; done) | skip
    simp only [chkE, Bool.and_eq_true] at h
    cases isCo_eq h.1.1
    obtain ⟨j, p', rfl⟩ := isNoneE_eq h.1.2
    exact snotN (ha.e _ _ _ ok h.2)
  · cases e <;> first | (simp only [chkC, Bool.false_eq_true] at h; done) | skip
    rename_i x ops ys p
    rcases ops with _ | ⟨op, _ | ⟨op2, ops⟩⟩ <;> rcases ys with _ | ⟨y, _ | ⟨y2, ys⟩⟩ <;> first | (simp only [chkC, Bool.false_eq_true] at h; done) | skip
    simp only [chkC, Bool.and_eq_true] at h
    cases isCo_eq h.1.1
    obtain ⟨j, p', rfl⟩ := isNoneE_eq h.1.2
    exact tnotN (ha.e _ _ _ ok h.2)
  · cases e <;> first | exact no hq | (simp only [chkC, Bool.false_eq_true] at h; done)
  · cases e <;> simp only [chkI, Bool.false_eq_true] at h
  · exact no hf
theorem o_isin (ha : Okk G a) (hb : Okk G b) : Okk G (.isin a b) := by
  refine ⟨fun cf X e ok h => ?_, fun cf X e ok h => ?_, fun cf X e ok h hq => ?_, fun cf X e tg ok h => ?_, fun cf X e ok h hf => ?_⟩
  · cases e <;> first | (simp only [chkE, Bool.false_eq_true] at h; done) | skip
    rename_i x ops ys p
    rcases ops with _ | ⟨op, _ | ⟨op2, ops⟩⟩ <;> rcases ys with _ | ⟨y, _ | ⟨y2, ys⟩⟩ <;> first | (simp only [chkE, Bool.false_eq_true] at h; done) | skip
    simp only [chkE, Bool.and_eq_true] at h
    cases isCo_eq h.1.1.1
    exact sisin ok h.2 (ha.e _ _ _ ok h.1.1.2) (hb.e _ _ _ ok h.1.2)
  · cases e <;> first | (simp only [chkC, Bool.false_eq_true] at h; done) | skip
    rename_i x ops ys p
    rcases ops with _ | ⟨op, _ | ⟨op2, ops⟩⟩ <;> rcases ys with _ | ⟨y, _ | ⟨y2, ys⟩⟩ <;> first | (simp only [chkC, Bool.false_eq_true] at h; done) | skip
    simp only [chkC, Bool.and_eq_true] at h
    cases isCo_eq h.1.1.1
    exact tisin ok h.2 (ha.e _ _ _ ok h.1.1.2) (hb.e _ _ _ ok h.1.2)
  · cases e <;> first | exact no hq | (simp only [chkC, Bool.false_eq_true] at h; done)
  · cases e <;> simp only [chkI, Bool.false_eq_true] at h
  · exact no hf
theorem o_notin (ha : Okk G a) (hb : Okk G b) : Okk G (.notin a b) := by
  refine ⟨fun cf X e ok h => ?_, fun cf X e ok h => ?_, fun cf X e ok h hq => ?_, fun cf X e tg ok h => ?_, fun cf X e ok h hf => ?_⟩
  · cases e <;> first | (simp only [chkE, Bool.false_eq_true] at h; done) | skip
    rename_i x ops ys p
    rcases ops with _ | ⟨op, _ | ⟨op2, ops⟩⟩ <;> rcases ys with _ | ⟨y, _ | ⟨y2, ys⟩⟩ <;> first | (simp only [chkE, Bool.false_eq_true] at h; done) | skip
    simp only [chkE, Bool.and_eq_true] at h
    cases isCo_eq h.1.1.1
    exact snotin ok h.2 (ha.e _ _ _ ok h.1.1.2) (hb.e _ _ _ ok h.1.2)
  · cases e <;> first | (simp only [chkC, Bool.false_eq_true] at h; done) | skip
    rename_i x ops ys p
    rcases ops with _ | ⟨op, _ | ⟨op2, ops⟩⟩ <;> rcases ys with _ | ⟨y, _ | ⟨y2, ys⟩⟩ <;> first | (simp only [chkC, Bool.false_eq_true] at h; done) | skip
    simp only [chkC, Bool.and_eq_true] at h
    cases isCo_eq h.1.1.1
    exact tnotin ok h.2 (ha.e _ _ _ ok h.1.1.2) (hb.e _ _ _ ok h.1.2)
  · cases e <;> first | exact no hq | (simp only [chkC, Bool.false_eq_true] at h; done)
  · cases e <;> simp only [chkI, Bool.false_eq_true] at h
  · exact no hf
theorem o_and (ha : Okk G a) (hb : Okk G b) : Okk G (.and a b) := by
  refine ⟨fun cf X e ok h => ?_, fun cf X e ok h => ?_, fun cf X e ok h hq => ?_, fun cf X e tg ok h => ?_, fun cf X e ok h hf => ?_⟩
  · cases e <;> first | (simp only [chkE, Bool.false_eq_true] at h; done) | skip
    rename_i op vs p
    rcases vs with _ | ⟨x, _ | ⟨y, r⟩⟩ <;> first | (simp only [chkE, Bool.false_eq_true] at h; done) | skip
    simp only [chkE, Bool.and_eq_true] at h
    cases isAnd_eq h.1.1
    refine sand (ha.e _ _ _ ok h.1.2) ?_
    have h2 := h.2
    by_cases q : len0 r = true
    · rw [if_pos q] at h2 ⊢
      exact hb.e _ _ _ ok h2
    · rw [if_neg q] at h2 ⊢
      exact hb.e _ _ _ ok h2
  · cases e <;> first | (simp only [chkC, Bool.false_eq_true] at h; done) | skip
    rename_i op vs p
    rcases vs with _ | ⟨x, _ | ⟨y, r⟩⟩ <;> first | (simp only [chkC, Bool.false_eq_true] at h; done) | skip
    simp only [chkC, Bool.and_eq_true] at h
    cases isAnd_eq h.1.1
    refine ST.of_sw (tand (ha.c _ _ _ ok h.1.2) ?_)
    have h2 := h.2
    by_cases q : len0 r = true
    · rw [if_pos q] at h2 ⊢
      exact hb.c _ _ _ ok h2
    · rw [if_neg q] at h2 ⊢
      exact hb.w _ _ _ ok h2 rfl
  · cases e <;> first | (simp only [chkC, Bool.false_eq_true] at h; done) | skip
    rename_i op vs p
    rcases vs with _ | ⟨x, _ | ⟨y, r⟩⟩ <;> first | (simp only [chkC, Bool.false_eq_true] at h; done) | skip
    simp only [chkC, Bool.and_eq_true] at h
    cases isAnd_eq h.1.1
    refine tand (ha.c _ _ _ ok h.1.2) ?_
    have h2 := h.2
    by_cases q : len0 r = true
    · rw [if_pos q] at h2 ⊢
      exact hb.c _ _ _ ok h2
    · rw [if_neg q] at h2 ⊢
      exact hb.w _ _ _ ok h2 rfl
  · cases e <;> simp only [chkI, Bool.false_eq_true] at h
  · exact no hf
theorem o_or (ha : Okk G a) (hb : Okk G b) : Okk G (.or a b) := by
  refine ⟨fun cf X e ok h => ?_, fun cf X e ok h => ?_, fun cf X e ok h hq => ?_, fun cf X e tg ok h => ?_, fun cf X e ok h hf => ?_⟩
  · cases e <;> first | (simp only [chkE, Bool.false_eq_true] at h; done) | skip
    rename_i op vs p
    rcases vs with _ | ⟨x, _ | ⟨y, r⟩⟩ <;> first | (simp only [chkE, Bool.false_eq_true] at h; done) | skip
    simp only [chkE, Bool.and_eq_true] at h
    cases isOr_eq h.1.1
    refine sor (ha.e _ _ _ ok h.1.2) ?_
    have h2 := h.2
    by_cases q : len0 r = true
    · rw [if_pos q] at h2 ⊢
      exact hb.e _ _ _ ok h2
    · rw [if_neg q] at h2 ⊢
      exact hb.e _ _ _ ok h2
  · cases e <;> first | (simp only [chkC, Bool.false_eq_true] at h; done) | skip
    rename_i op vs p
    rcases vs with _ | ⟨x, _ | ⟨y, r⟩⟩ <;> first | (simp only [chkC, Bool.false_eq_true] at h; done) | skip
    simp only [chkC, Bool.and_eq_true] at h
    cases isOr_eq h.1.1
    refine ST.of_sw (tor (ha.c _ _ _ ok h.1.2) ?_)
    have h2 := h.2
    by_cases q : len0 r = true
    · rw [if_pos q] at h2 ⊢
      exact hb.c _ _ _ ok h2
    · rw [if_neg q] at h2 ⊢
      exact hb.w _ _ _ ok h2 rfl
  · cases e <;> first | (simp only [chkC, Bool.false_eq_true] at h; done) | skip
    rename_i op vs p
    rcases vs with _ | ⟨x, _ | ⟨y, r⟩⟩ <;> first | (simp only [chkC, Bool.false_eq_true] at h; done) | skip
    simp only [chkC, Bool.and_eq_true] at h
    cases isOr_eq h.1.1
    refine tor (ha.c _ _ _ ok h.1.2) ?_
    have h2 := h.2
    by_cases q : len0 r = true
    · rw [if_pos q] at h2 ⊢
      exact hb.c _ _ _ ok h2
    · rw [if_neg q] at h2 ⊢
      exact hb.w _ _ _ ok h2 rfl
  · cases e <;> simp only [chkI, Bool.false_eq_true] at h
  · exact no hf
theorem o_not (ha : Okk G a) : Okk G (.not a) := by
  refine ⟨fun cf X e ok h => ?_, fun cf X e ok h => ?_, fun cf X e ok h hq => ?_, fun cf X e tg ok h => ?_, fun cf X e ok h hf => ?_⟩
  · cases e <;> first | (simp only [chkE, Bool.false_eq_true] at h; done) | skip
    simp only [chkE, Bool.and_eq_true] at h
    cases isUn_eq h.1
    exact snot (ha.e _ _ _ ok h.2)
  · cases e <;> first | (simp only [chkC, Bool.false_eq_true] at h; done) | skip
    simp only [chkC, Bool.and_eq_true] at h
    cases isUn_eq h.1
    exact tnot (ha.c _ _ _ ok h.2)
  · cases e <;> first | exact no hq | (simp only [chkC, Bool.false_eq_true] at h; done)
  · cases e <;> simp only [chkI, Bool.false_eq_true] at h
  · exact no hf
theorem o_ite (hc : Okk G c) (ha : Okk G a) (hb : Okk G b) : Okk G (.ite c a b) := by
  refine ⟨fun cf X e ok h => ?_, fun cf X e ok h => ?_, fun cf X e ok h hq => ?_, fun cf X e tg ok h => ?_, fun cf X e ok h hf => ?_⟩
  · cases e <;> first | (simp only [chkE, Bool.false_eq_true] at h; done) | skip
    simp only [chkE, Bool.and_eq_true] at h
    exact site (hc.c _ _ _ ok h.1.1) (ha.e _ _ _ ok h.1.2) (hb.e _ _ _ ok h.2)
  · cases e <;> simp only [chkC, Bool.false_eq_true] at h
  · cases e <;> simp only [chkC, Bool.false_eq_true] at h
  · cases e <;> simp only [chkI, Bool.false_eq_true] at h
  · exact no hf
theorem o_tup (ha : Okks G ts) : Okk G (.tup ts) := by
  refine ⟨fun cf X e ok h => ?_, fun cf X e ok h => ?_, fun cf X e ok h hq => ?_, fun cf X e tg ok h => ?_, fun cf X e ok h hf => ?_⟩
  · cases e <;> first | (simp only [chkE, Bool.false_eq_true] at h; done) | skip
    simp only [chkE] at h
    exact stup (ha.s _ _ _ ok h)
  · cases e <;> simp only [chkC, Bool.false_eq_true] at h
  · cases e <;> simp only [chkC, Bool.false_eq_true] at h
  · cases e <;> first | (simp only [chkI, Bool.false_eq_true] at h; done) | skip
    simp only [chkI] at h
    exact itup (ha.s _ _ _ ok h)
  · exact no hf
theorem o_lst (ha : Okks G ts) : Okk G (.lst ts) := by
  refine ⟨fun cf X e ok h => ?_, fun cf X e ok h => ?_, fun cf X e ok h hq => ?_, fun cf X e tg ok h => ?_, fun cf X e ok h hf => ?_⟩
  · cases e <;> first | (simp only [chkE, Bool.false_eq_true] at h; done) | skip
    simp only [chkE] at h
    exact (flst (ha.s _ _ _ ok h)).se
  · cases e <;> simp only [chkC, Bool.false_eq_true] at h
  · cases e <;> simp only [chkC, Bool.false_eq_true] at h
  · cases e <;> first | (simp only [chkI, Bool.false_eq_true] at h; done) | skip
    simp only [chkI] at h
    exact ilst (ha.s _ _ _ ok h)
  · cases e <;> first | (simp only [chkE, Bool.false_eq_true] at h; done) | skip
    simp only [chkE] at h
    exact flst (ha.s _ _ _ ok h)
theorem o_ix (ha : Okk G a) (hb : Okk G b) : Okk G (.ix a b) := by
  refine ⟨fun cf X e ok h => ?_, fun cf X e ok h => ?_, fun cf X e ok h hq => ?_, fun cf X e tg ok h => ?_, fun cf X e ok h hf => ?_⟩
  · cases e <;> first | (simp only [chkE, Bool.false_eq_true] at h; done) | skip
    simp only [chkE, Bool.and_eq_true] at h
    exact six h.2 (ha.e _ _ _ ok h.1.1) (hb.e _ _ _ ok h.1.2)
  · cases e <;> first | (simp only [chkC, Bool.false_eq_true] at h; done) | skip
    simp only [chkC, Bool.and_eq_true] at h
    exact tplain (fun _ => rfl) (six h.2 (ha.e _ _ _ ok h.1.1) (hb.e _ _ _ ok h.1.2))
  · cases e <;> first | exact no hq | (simp only [chkC, Bool.false_eq_true] at h; done)
  · cases e <;> first | (simp only [chkI, Bool.false_eq_true] at h; done) | skip
    simp only [chkI, Bool.and_eq_true] at h
    exact iix h.2 (ha.e _ _ _ ok h.1.1) (hb.e _ _ _ ok h.1.2)
  · exact no hf
theorem o_sl (lo hi : Option Int) (ha : Okk G a) : Okk G (.sl a lo hi) := by
  refine ⟨fun cf X e ok h => ?_, fun cf X e ok h => ?_, fun cf X e ok h hq => ?_, fun cf X e tg ok h => ?_, fun cf X e ok h hf => ?_⟩
  · cases e <;> first | (simp only [chkE, Bool.false_eq_true] at h; done) | skip
    rename_i x y p
    cases y <;> first | (simp only [chkE, Bool.false_eq_true] at h; done) | skip
    rename_i l u st p2
    cases st <;> first | (simp only [chkE, Bool.false_eq_true] at h; done) | skip
    simp only [chkE, Bool.and_eq_true] at h
    exact ssl h.1.2 h.2 (ha.e _ _ _ ok h.1.1)
  · cases e <;> simp only [chkC, Bool.false_eq_true] at h
  · cases e <;> simp only [chkC, Bool.false_eq_true] at h
  · cases e <;> simp only [chkI, Bool.false_eq_true] at h
  · exact no hf
theorem o_cat (ha : Okk G a) (hb : Okk G b) : Okk G (.cat a b) := by
  refine ⟨fun cf X e ok h => ?_, fun cf X e ok h => ?_, fun cf X e ok h hq => ?_, fun cf X e tg ok h => ?_, fun cf X e ok h hf => ?_⟩
  · cases e <;> first | (simp only [chkE, Bool.false_eq_true] at h; done) | skip
    simp only [chkE, Bool.and_eq_true] at h
    cases isOp_eq h.1.1
    exact scat_t (ha.e _ _ _ ok h.1.2) (hb.e _ _ _ ok h.2)
  · cases e <;> simp only [chkC, Bool.false_eq_true] at h
  · cases e <;> simp only [chkC, Bool.false_eq_true] at h
  · cases e <;> simp only [chkI, Bool.false_eq_true] at h
  · exact no hf
theorem o_call (f : Nat) (ha : Okk G a) (hs : Okks G ts) : Okk G (.call f (.cons a ts)) := by
  refine ⟨fun cf X e ok h => ?_, fun cf X e ok h => ?_, fun cf X e ok h hq => ?_, fun cf X e tg ok h => ?_, fun cf X e ok h hf => ?_⟩
  · cases e <;> first | (simp only [chkE, Bool.false_eq_true] at h; done) | skip
    rename_i fe args kws p
    cases fe <;> first | (simp only [chkE, Bool.false_eq_true] at h; done) | skip
    rename_i n p'
    rcases args with _ | ⟨x, es⟩ <;> rcases kws with _ | ⟨kw, kws⟩ <;> first | (simp only [chkE, Bool.false_eq_true] at h; done) | skip
    simp only [chkE, Bool.and_eq_true, decide_eq_true_eq] at h
    exact scall ok h.1.1.1 h.1.2 h.2 (acons h.1.2 (ha.e _ _ _ ok h.1.1.2) (hs.s _ _ _ ok h.2))
  · cases e <;> first | (simp only [chkC, Bool.false_eq_true] at h; done) | skip
    rename_i fe args kws p
    cases fe <;> first | (simp only [chkC, Bool.false_eq_true] at h; done) | skip
    rename_i n p'
    rcases args with _ | ⟨x, es⟩ <;> rcases kws with _ | ⟨kw, kws⟩ <;> first | (simp only [chkC, Bool.false_eq_true] at h; done) | skip
    simp only [chkC, Bool.and_eq_true, decide_eq_true_eq] at h
    exact tplain (fun _ => rfl) (scall ok h.1.1.1 h.1.2 h.2 (acons h.1.2 (ha.e _ _ _ ok h.1.1.2) (hs.s _ _ _ ok h.2)))
  · cases e <;> first | exact no hq | (simp only [chkC, Bool.false_eq_true] at h; done)
  · cases e <;> first | (simp only [chkI, Bool.false_eq_true] at h; done) | skip
    rename_i fe args kws p
    cases fe <;> first | (simp only [chkI, Bool.false_eq_true] at h; done) | skip
    rename_i n p'
    rcases args with _ | ⟨x, es⟩ <;> rcases kws with _ | ⟨kw, kws⟩ <;> first | (simp only [chkI, Bool.false_eq_true] at h; done) | skip
    simp only [chkI, Bool.and_eq_true, decide_eq_true_eq] at h
    exact icall ok h.1.1.1 h.1.2 h.2 (acons h.1.2 (ha.e _ _ _ ok h.1.1.2) (hs.s _ _ _ ok h.2))
  · exact no hf
theorem o_call0 (f : Nat) : Okk G (.call f .nil) := by
  refine ⟨fun cf X e ok h => ?_, fun cf X e ok h => ?_, fun cf X e ok h hq => ?_, fun cf X e tg ok h => ?_, fun cf X e ok h hf => ?_⟩
  · cases e <;> simp only [chkE, Bool.false_eq_true] at h
  · cases e <;> simp only [chkC, Bool.false_eq_true] at h
  · cases e <;> simp only [chkC, Bool.false_eq_true] at h
  · cases e <;> simp only [chkI, Bool.false_eq_true] at h
  · exact no hf
theorem o_blt (bb : Bl) (ha : Okk G a) (hs : Okks G ts) : Okk G (.blt bb (.cons a ts)) := by
  refine ⟨fun cf X e ok h => ?_, fun cf X e ok h => ?_, fun cf X e ok h hq => ?_, fun cf X e tg ok h => ?_, fun cf X e ok h hf => ?_⟩
  · cases e <;> first | (simp only [chkE, Bool.false_eq_true] at h; done) | skip
    rename_i f args kws p
    cases f <;> first | (simp only [chkE, Bool.false_eq_true] at h; done) | skip
    rename_i n p'
    rcases args with _ | ⟨x, es⟩ <;> rcases kws with _ | ⟨kw, kws⟩ <;> first | (simp only [chkE, Bool.false_eq_true] at h; done) | skip
    simp only [chkE, Bool.and_eq_true, decide_eq_true_eq] at h
    exact sblt ok h.1.1.1.1.1 h.1.1.1.1.2 h.1.2 h.2 (acons h.1.2 (ha.e _ _ _ ok h.1.1.2) (hs.s _ _ _ ok h.2))
  · cases e <;> simp only [chkC, Bool.false_eq_true] at h
  · cases e <;> simp only [chkC, Bool.false_eq_true] at h
  · cases e <;> simp only [chkI, Bool.false_eq_true] at h
  · cases bb <;> first | exact no hf | skip
    cases e <;> first | (simp only [chkE, Bool.false_eq_true] at h; done) | skip
    rename_i f args kws p
    cases f <;> first | (simp only [chkE, Bool.false_eq_true] at h; done) | skip
    rename_i n p'
    rcases args with _ | ⟨x, es⟩ <;> rcases kws with _ | ⟨kw, kws⟩ <;> first | (simp only [chkE, Bool.false_eq_true] at h; done) | skip
    simp only [chkE, Bool.and_eq_true, decide_eq_true_eq] at h
    exact flist ok h.1.1.1.1.1 h.1.1.1.1.2 h.1.2 h.2 (acons h.1.2 (ha.e _ _ _ ok h.1.1.2) (hs.s _ _ _ ok h.2))
theorem o_blt0 (bb : Bl) : Okk G (.blt bb .nil) := by
  refine ⟨fun cf X e ok h => ?_, fun cf X e ok h => ?_, fun cf X e ok h hq => ?_, fun cf X e tg ok h => ?_, fun cf X e ok h hf => ?_⟩
  · cases e <;> simp only [chkE, Bool.false_eq_true] at h
  · cases e <;> simp only [chkC, Bool.false_eq_true] at h
  · cases e <;> simp only [chkC, Bool.false_eq_true] at h
  · cases e <;> simp only [chkI, Bool.false_eq_true] at h
  · cases e <;> simp only [chkE, Bool.false_eq_true] at h
theorem o_idx (ha : Okk G a) (hb : Okk G b) : Okk G (.idx a b) := by
  refine ⟨fun cf X e ok h => ?_, fun cf X e ok h => ?_, fun cf X e ok h hq => ?_, fun cf X e tg ok h => ?_, fun cf X e ok h hf => ?_⟩
  · cases e <;> first | (simp only [chkE, Bool.false_eq_true] at h; done) | skip
    rename_i f args kws p
    cases f <;> first | (simp only [chkE, Bool.false_eq_true] at h; done) | skip
    rename_i o m ap
    cases o <;> first | (simp only [chkE, Bool.false_eq_true] at h; done) | skip
    rcases args with _ | ⟨x, _ | ⟨x2, es⟩⟩ <;> rcases kws with _ | ⟨kw, kws⟩ <;> first | (simp only [chkE, Bool.false_eq_true] at h; done) | skip
    simp only [chkE, Bool.and_eq_true, decide_eq_true_eq] at h
    exact sidx ok h.1.1.1.1 h.1.2 h.2 (ha.e _ _ _ ok h.1.1.1.2) (hb.e _ _ _ ok h.1.1.2)
  · cases e <;> simp only [chkC, Bool.false_eq_true] at h
  · cases e <;> simp only [chkC, Bool.false_eq_true] at h
  · cases e <;> simp only [chkI, Bool.false_eq_true] at h
  · exact no hf
theorem o_tidx (i : Nat) (hb : Okk G b) : Okk G (.tidx i b) := by
  refine ⟨fun cf X e ok h => ?_, fun cf X e ok h => ?_, fun cf X e ok h hq => ?_, fun cf X e tg ok h => ?_, fun cf X e ok h hf => ?_⟩
  · cases e <;> first | (simp only [chkE, Bool.false_eq_true] at h; done) | skip
    rename_i f args kws p
    cases f <;> first | (simp only [chkE, Bool.false_eq_true] at h; done) | skip
    rename_i o m ap
    cases o <;> first | (simp only [chkE, Bool.false_eq_true] at h; done) | skip
    rcases args with _ | ⟨x, _ | ⟨x2, es⟩⟩ <;> rcases kws with _ | ⟨kw, kws⟩ <;> first | (simp only [chkE, Bool.false_eq_true] at h; done) | skip
    simp only [chkE, Bool.and_eq_true, decide_eq_true_eq] at h
    exact stidx ok h.1.1.1.1 h.1.1.1.2 h.1.2 h.2 (hb.e _ _ _ ok h.1.1.2)
  · cases e <;> simp only [chkC, Bool.false_eq_true] at h
  · cases e <;> simp only [chkC, Bool.false_eq_true] at h
  · cases e <;> simp only [chkI, Bool.false_eq_true] at h
  · exact no hf
theorem o_lc (i : Nat) (hs : Okk G a) (he : Okk G b) : Okk G (.lc i a b) := by
  refine ⟨fun cf X e ok h => ?_, fun cf X e ok h => ?_, fun cf X e ok h hq => ?_, fun cf X e tg ok h => ?_, fun cf X e ok h hf => ?_⟩
  · cases e <;> first | (simp only [chkE, Bool.false_eq_true] at h; done) | skip
    rename_i el gens scope p
    rcases gens with _ | ⟨⟨tg, iter, ifs, as⟩, _ | ⟨g2, gens⟩⟩ <;> first | (simp only [chkE, Bool.false_eq_true] at h; done) | skip
    cases tg <;> first | (simp only [chkE, Bool.false_eq_true] at h; done) | skip
    rename_i n p'
    rcases ifs with _ | ⟨z, _ | ⟨z2, ifs⟩⟩ <;> first | (simp only [chkE, Bool.false_eq_true] at h; done) | skip
    simp only [chkE, Bool.and_eq_true, decide_eq_true_eq] at h
    obtain rfl := h.1.1.1.1.1.1
    exact (flc ok h.1.1.1.1.1.2 h.1.1.1.1.2 h.1.1.1.2 h.1.2 (hs.i _ _ _ _ ok h.1.1.2) (fun X' ok' => he.e _ _ _ ok' h.2)).se
  · cases e <;> simp only [chkC, Bool.false_eq_true] at h
  · cases e <;> simp only [chkC, Bool.false_eq_true] at h
  · cases e <;> simp only [chkI, Bool.false_eq_true] at h
  · cases e <;> first | (simp only [chkE, Bool.false_eq_true] at h; done) | skip
    rename_i el gens scope p
    rcases gens with _ | ⟨⟨tg, iter, ifs, as⟩, _ | ⟨g2, gens⟩⟩ <;> first | (simp only [chkE, Bool.false_eq_true] at h; done) | skip
    cases tg <;> first | (simp only [chkE, Bool.false_eq_true] at h; done) | skip
    rename_i n p'
    rcases ifs with _ | ⟨z, _ | ⟨z2, ifs⟩⟩ <;> first | (simp only [chkE, Bool.false_eq_true] at h; done) | skip
    simp only [chkE, Bool.and_eq_true, decide_eq_true_eq] at h
    obtain rfl := h.1.1.1.1.1.1
    exact (flc ok h.1.1.1.1.1.2 h.1.1.1.1.2 h.1.1.1.2 h.1.2 (hs.i _ _ _ _ ok h.1.1.2) (fun X' ok' => he.e _ _ _ ok' h.2))
theorem o_lci (i : Nat) (hs : Okk G a) (hc : Okk G c) (he : Okk G b) : Okk G (.lci i a c b) := by
  refine ⟨fun cf X e ok h => ?_, fun cf X e ok h => ?_, fun cf X e ok h hq => ?_, fun cf X e tg ok h => ?_, fun cf X e ok h hf => ?_⟩
  · cases e <;> first | (simp only [chkE, Bool.false_eq_true] at h; done) | skip
    rename_i el gens scope p
    rcases gens with _ | ⟨⟨tg, iter, ifs, as⟩, _ | ⟨g2, gens⟩⟩ <;> first | (simp only [chkE, Bool.false_eq_true] at h; done) | skip
    cases tg <;> first | (simp only [chkE, Bool.false_eq_true] at h; done) | skip
    rename_i n p'
    rcases ifs with _ | ⟨z, _ | ⟨z2, ifs⟩⟩ <;> first | (simp only [chkE, Bool.false_eq_true] at h; done) | skip
    simp only [chkE, Bool.and_eq_true, decide_eq_true_eq] at h
    obtain rfl := h.1.1.1.1.1.1.1
    exact (flci ok h.1.1.1.1.1.1.2 h.1.1.1.1.1.2 h.1.1.1.1.2 h.1.1.2 (hs.i _ _ _ _ ok h.1.1.1.2) (fun X' ok' => hc.c _ _ _ ok' h.1.2) (fun X' ok' => he.e _ _ _ ok' h.2)).se
  · cases e <;> simp only [chkC, Bool.false_eq_true] at h
  · cases e <;> simp only [chkC, Bool.false_eq_true] at h
  · cases e <;> simp only [chkI, Bool.false_eq_true] at h
  · cases e <;> first | (simp only [chkE, Bool.false_eq_true] at h; done) | skip
    rename_i el gens scope p
    rcases gens with _ | ⟨⟨tg, iter, ifs, as⟩, _ | ⟨g2, gens⟩⟩ <;> first | (simp only [chkE, Bool.false_eq_true] at h; done) | skip
    cases tg <;> first | (simp only [chkE, Bool.false_eq_true] at h; done) | skip
    rename_i n p'
    rcases ifs with _ | ⟨z, _ | ⟨z2, ifs⟩⟩ <;> first | (simp only [chkE, Bool.false_eq_true] at h; done) | skip
    simp only [chkE, Bool.and_eq_true, decide_eq_true_eq] at h
    obtain rfl := h.1.1.1.1.1.1.1
    exact (flci ok h.1.1.1.1.1.1.2 h.1.1.1.1.1.2 h.1.1.1.1.2 h.1.1.2 (hs.i _ _ _ _ ok h.1.1.1.2) (fun X' ok' => hc.c _ _ _ ok' h.1.2) (fun X' ok' => he.e _ _ _ ok' h.2))
theorem o_lco (i j : Nat) (he : Okk G b) : Okk G (.lco i j b) := by
  refine ⟨fun cf X e ok h => ?_, fun cf X e ok h => ?_, fun cf X e ok h hq => ?_, fun cf X e tg ok h => ?_, fun cf X e ok h hf => ?_⟩
  · cases e <;> first | (simp only [chkE, Bool.false_eq_true] at h; done) | skip
    rename_i el gens scope p
    rcases gens with _ | ⟨⟨tg, iter, ifs, as⟩, _ | ⟨g2, gens⟩⟩ <;> first | (simp only [chkE, Bool.false_eq_true] at h; done) | skip
    cases tg <;> first | (simp only [chkE, Bool.false_eq_true] at h; done) | skip
    rename_i n p'
    cases iter <;> first | (simp only [chkE, Bool.false_eq_true] at h; done) | skip
    rename_i m p2
    rcases ifs with _ | ⟨z, _ | ⟨z2, ifs⟩⟩ <;> first | (simp only [chkE, Bool.false_eq_true] at h; done) | skip
    simp only [chkE, Bool.and_eq_true, decide_eq_true_eq] at h
    obtain rfl := h.1.1.1.1.1
    exact (flco ok h.1.1.1.1.2 h.1.1.1.2 h.1.1.2 h.1.2 (fun X' ok' => he.e _ _ _ ok' h.2)).se
  · cases e <;> simp only [chkC, Bool.false_eq_true] at h
  · cases e <;> simp only [chkC, Bool.false_eq_true] at h
  · cases e <;> simp only [chkI, Bool.false_eq_true] at h
  · cases e <;> first | (simp only [chkE, Bool.false_eq_true] at h; done) | skip
    rename_i el gens scope p
    rcases gens with _ | ⟨⟨tg, iter, ifs, as⟩, _ | ⟨g2, gens⟩⟩ <;> first | (simp only [chkE, Bool.false_eq_true] at h; done) | skip
    cases tg <;> first | (simp only [chkE, Bool.false_eq_true] at h; done) | skip
    rename_i n p'
    cases iter <;> first | (simp only [chkE, Bool.false_eq_true] at h; done) | skip
    rename_i m p2
    rcases ifs with _ | ⟨z, _ | ⟨z2, ifs⟩⟩ <;> first | (simp only [chkE, Bool.false_eq_true] at h; done) | skip
    simp only [chkE, Bool.and_eq_true, decide_eq_true_eq] at h
    obtain rfl := h.1.1.1.1.1
    exact (flco ok h.1.1.1.1.2 h.1.1.1.2 h.1.1.2 h.1.2 (fun X' ok' => he.e _ _ _ ok' h.2))
theorem o_rg1 (ha : Okk G a) : Okk G (.rg1 a) := by
  refine ⟨fun cf X e ok h => ?_, fun cf X e ok h => ?_, fun cf X e ok h hq => ?_, fun cf X e tg ok h => ?_, fun cf X e ok h hf => ?_⟩
  · cases e <;> simp only [chkE, Bool.false_eq_true] at h
  · cases e <;> simp only [chkC, Bool.false_eq_true] at h
  · cases e <;> simp only [chkC, Bool.false_eq_true] at h
  · cases e <;> first | (simp only [chkI, Bool.false_eq_true] at h; done) | skip
    rename_i f args kws p
    cases f <;> first | (simp only [chkI, Bool.false_eq_true] at h; done) | skip
    rcases args with _ | ⟨x, _ | ⟨x2, es⟩⟩ <;> rcases kws with _ | ⟨kw, kws⟩ <;> first | (simp only [chkI, Bool.false_eq_true] at h; done) | skip
    simp only [chkI, Bool.and_eq_true, decide_eq_true_eq] at h
    exact irg1 ok h.1.1.1 h.1.1.2 h.2 (ha.e _ _ _ ok h.1.2)
  · exact no hf
theorem o_rg2 (ha : Okk G a) (hb : Okk G b) : Okk G (.rg2 a b) := by
  refine ⟨fun cf X e ok h => ?_, fun cf X e ok h => ?_, fun cf X e ok h hq => ?_, fun cf X e tg ok h => ?_, fun cf X e ok h hf => ?_⟩
  · cases e <;> simp only [chkE, Bool.false_eq_true] at h
  · cases e <;> simp only [chkC, Bool.false_eq_true] at h
  · cases e <;> simp only [chkC, Bool.false_eq_true] at h
  · cases e <;> first | (simp only [chkI, Bool.false_eq_true] at h; done) | skip
    rename_i f args kws p
    cases f <;> first | (simp only [chkI, Bool.false_eq_true] at h; done) | skip
    rcases args with _ | ⟨x, _ | ⟨x2, _ | ⟨x3, es⟩⟩⟩ <;> rcases kws with _ | ⟨kw, kws⟩ <;> first | (simp only [chkI, Bool.false_eq_true] at h; done) | skip
    simp only [chkI, Bool.and_eq_true, decide_eq_true_eq] at h
    exact irg2 ok h.1.1.1.1.1 h.1.1.1.1.2 h.1.1.2 h.2 (ha.e _ _ _ ok h.1.1.1.2) (hb.e _ _ _ ok h.1.2)
  · exact no hf
theorem o_nil : Okks G .nil := ⟨fun cf X es ok h => by
  cases es with
  | nil => exact anil
  | cons e es => simp only [chkEs, Bool.false_eq_true] at h⟩
theorem o_cons (ha : Okk G a) (hs : Okks G ts) : Okks G (.cons a ts) := ⟨fun cf X es ok h => by
  cases es with
  | nil => simp only [chkEs, Bool.false_eq_true] at h
  | cons e es =>
    simp only [chkEs, Bool.and_eq_true] at h
    exact acons h.1.2 (ha.e _ _ _ ok h.1.1) (hs.s _ _ _ ok h.2)⟩
/-- the rules are sound -/
theorem okk (G : Ga) (t : T) : Okk G t := by
  refine T.rec (motive_1 := fun t => Okk G t) (motive_2 := fun ts => Okks G ts ∧ (∀ f, Okk G (.call f ts)) ∧ (∀ bb, Okk G (.blt bb ts))) ?_ ?_ ?_ ?_ ?_ ?_ ?_ ?_ ?_ ?_ ?_ ?_ ?_ ?_ ?_ ?_ ?_ ?_ ?_ ?_ ?_ ?_ ?_ ?_ ?_ ?_ ?_ ?_ ?_ ?_ ?_ t
  · exact o_v
  · exact o_k
  · exact o_gl
  · exact fun o a b ha hb => o_bin o ha hb
  · exact fun a ha => o_neg ha
  · exact fun o a b ha hb => o_cmp o ha hb
  · exact fun o o' a b c ha hb hc => o_chain o o' ha hb hc
  · exact fun a ha => o_isN ha
  · exact fun a ha => o_notN ha
  · exact fun a b ha hb => o_isin ha hb
  · exact fun a b ha hb => o_notin ha hb
  · exact fun a b ha hb => o_and ha hb
  · exact fun a b ha hb => o_or ha hb
  · exact fun a ha => o_not ha
  · exact fun c a b hc ha hb => o_ite hc ha hb
  · exact fun ts h => o_tup h.1
  · exact fun ts h => o_lst h.1
  · exact fun a b ha hb => o_ix ha hb
  · exact fun a lo hi ha => o_sl lo hi ha
  · exact fun a b ha hb => o_cat ha hb
  · exact fun f ts h => h.2.1 f
  · exact fun bb ts h => h.2.2 bb
  · exact fun a b ha hb => o_idx ha hb
  · exact fun i b hb => o_tidx i hb
  · exact fun i a b ha hb => o_lc i ha hb
  · exact fun i a c b ha hc hb => o_lci i ha hc hb
  · exact fun i j b hb => o_lco i j hb
  · exact fun a ha => o_rg1 ha
  · exact fun a b ha hb => o_rg2 ha hb
  · exact ⟨o_nil, o_call0, o_blt0⟩
  · exact fun a ts ha h => ⟨o_cons ha h.1, fun f => o_call f ha h.1, fun bb => o_blt bb ha h.1⟩
end
end Pd

set_option Elab.async false
set_option linter.all false
set_option maxRecDepth 100000
set_option maxHeartbeats 4000000
namespace Pd
open PySem L2

/-! ### statements against the text -/
def swB (sc : Scope) (y : Str) (py : Pos) (scope : Scope) (pos : Pos) : Bool := (sc.names.lookup y == some NameKind.local) && (py.line == pos.line) && !(scope.names.any fun (n, k) => n == y && (k == NameKind.local || k == NameKind.cell))
def chkN (cf : Cf) (i : Nat) (x : Str) : Bool := decide (cf.N[i]? = some x) && locB cf.sc x
def chkTg (cf : Cf) : List Nat → List Expr → Bool
  | [], [] => true
  | i :: is, .Name x _ :: es => chkN cf i x && chkTg cf is es
  | _, _ => false
def isPm : BO → Bool
  | .add => true
  | .sub => true
  | _ => false
def isFnS (sc : Scope) : Bool := match sc.kind with
  | .function => true
  | _ => false
/-- a comprehension given to a name -/
def chkLC (cf : Cf) (x : Str) : T → Expr → Bool
  | .lc j src elt, .ListComp e [⟨.Name n _, iter, [], as⟩] scope _ => isFnS cf.sc && decide (as = 0) && decide (cf.N[j]? = some n) && locB scope n && blkC cf.N cf.sc scope [(n, j)] && chkI cf src iter && notSet iter && chkE { cf with sc := rel scope cf.sc } elt e
  | .lci j src c elt, .ListComp e [⟨.Name n _, iter, [g], as⟩] scope _ => isFnS cf.sc && decide (as = 0) && decide (cf.N[j]? = some n) && locB scope n && blkC cf.N cf.sc scope [(n, j)] && chkI cf src iter && notSet iter && chkC { cf with sc := rel scope cf.sc } c g && chkE { cf with sc := rel scope cf.sc } elt e
  | .lco i j elt, .ListComp e [⟨.Name n _, .Name y _, [], as⟩] scope _ => isFnS cf.sc && decide (as = 0) && decide (cf.N[i]? = some n) && locB scope n && blkC cf.N cf.sc scope [(n, i)] && chkV cf j y && chkE { cf with sc := rel scope cf.sc } elt e
  | _, _ => false
mutual
def chkS (cf : Cf) : S → Stmt → Bool
  | .set i t, .Assign [.Name x py] e _ => chkN cf i x && ((chkE cf t e && notComp e) || chkLC cf x t e)
  | .mk i t, .Assign [.Name x py] e _ => chkN cf i x && isFresh t && ((chkE cf t e && notComp e) || chkLC cf x t e)
  | .unp is t, .Assign [.Tuple es _ _] e _ => chkTg cf is es && chkE cf t e && notTup e && decide (es.length = is.length)
  | .unpw is n k, .Assign [.Tuple es _ _] (.Subscript (.Name x _) y _) _ => chkTg cf is es && chkF cf n x && chkE cf k y && notSlice y
  | .unpg is n k d, .Assign [.Tuple es _ _] (.Call (.Attribute (.Name x _) m apos) [y, z] [] cpos) _ => chkTg cf is es && chkF cf n x && decide (m = ("get" : Str)) && chkE cf k y && chkE cf d z && notStar y && notStar z && (apos.endLine == cpos.line)
  | .seti i a b, .Assign [.Subscript (.Name x p) y _] e _ => chkV cf i x && chkE cf a y && notSlice y && chkE cf b e
  | .augi i o a b, .AugAssign (.Subscript (.Name x p) y _) op e _ => chkV cf i x && isPm o && isOp op (boP o) && chkE cf a y && notSlice y && chkE cf b e
  | .aug i o t, .AugAssign (.Name x p) op e _ => chkN cf i x && isPm o && isOp op (boP o) && chkE cf t e
  | .app i t, .Expr (.Call (.Attribute (.Name x p) m apos) [e] [] cpos) _ => chkV cf i x && decide (m = ("append" : Str)) && chkE cf t e && notStar e && (apos.endLine == cpos.line)
  | .ext i t, .Expr (.Call (.Attribute (.Name x p) m apos) [e] [] cpos) _ => chkV cf i x && decide (m = ("extend" : Str)) && isFresh t && chkE cf t e && notStar e && (apos.endLine == cpos.line)
  | .cati i t, .Assign [.Name x py] (.BinOp (.Name y p) op e _) _ => chkN cf i x && chkV cf i y && isOp op .Add && isFresh t && chkE cf t e
  | .iff c a b, .If z x y _ => chkC cf c z && chkSs cf a x && chkSs cf b y
  | .fo i src b, .For (.Name x p) iter body [] _ => chkN cf i x && chkI cf src iter && notSet iter && chkSs cf b body
  | .ret t, .Return (some e) _ => chkE cf t e
  | .brk, .Break _ => true
  | .cnt, .Continue _ => true
  | .pas, .Pass _ => true
  | _, _ => false
termination_by structural s => s
def chkSs (cf : Cf) : Ss → List Stmt → Bool
  | .nil, [] => true
  | .cons (.fz _) ss, sts => chkSs cf ss sts
  | .cons s ss, st :: sts => chkS cf s st && chkSs cf ss sts
  | _, _ => false
termination_by structural s => s
end

def WS (X : Cx) (st : Stmt) : TS := fun D σ H => ∃ t, PS X st t ∧ t D σ H
theorem ps_W {X : Cx} {st : Stmt} : PS X st (WS X st) := ⟨fun pins s σ H D I ⟨_, h, q⟩ => h.run pins s σ H D I q⟩
def WSs (X : Cx) (sts : List Stmt) : TS := fun D σ H => ∃ t, PSs X sts t ∧ t D σ H
theorem pss_W {X : Cx} {sts : List Stmt} : PSs X sts (WSs X sts) := ⟨fun pins s σ H D I ⟨_, h, q⟩ => h.run pins s σ H D I q⟩

/-- the state in a def's body: from the entry on -/
structure EnS (K : PySem.W.Frag) (M Hb0 H0 Hb H : Hp) (σ : L2.St) (ρ : Rho) : Prop where
  en : En K Hb H σ ρ
  gr : Gr Hb0 H0 Hb H
  mx : Ex M Hb
  nw : ∀ (i : Nat) (ds : List PyData) (p : Addr), ρ[i]? = some (some (B.own ds)) → σ[i]? = some (some (V.ref p)) → H0 p = none
def Fin (K : PySem.W.Frag) (M Hb0 H0 : Hp) (P : O → Prop) (D : Ends) : Prop := ∀ o, P o → match o with
  | .nx ρ => ∀ σ Hb H, EnS K M Hb0 H0 Hb H σ ρ → D.nx σ H
  | .rt d => ∀ v Hb H, Gr Hb0 H0 Hb H → Dp K Hb v d → D.rt v H
  | .bk ρ => ∀ σ Hb H, EnS K M Hb0 H0 Hb H σ ρ → D.bk σ H
  | .ct ρ => ∀ σ Hb H, EnS K M Hb0 H0 Hb H σ ρ → D.ct σ H
def SS (X : Cx) (G : Ga) (s : S) (st : Stmt) : Prop := ∀ (M Hb0 H0 Hb H : Hp) (σ : L2.St) (ρ : Rho) (P : O → Prop) (D : Ends), EnS X.K M Hb0 H0 Hb H σ ρ → wS G s ρ P → Fin X.K M Hb0 H0 P D → WS X st D σ H
def SSs (X : Cx) (G : Ga) (ss : Ss) (sts : List Stmt) : Prop := ∀ (M Hb0 H0 Hb H : Hp) (σ : L2.St) (ρ : Rho) (P : O → Prop) (D : Ends), EnS X.K M Hb0 H0 Hb H σ ρ → wSs G ss ρ P → Fin X.K M Hb0 H0 P D → WSs X sts D σ H

section
variable {K : PySem.W.Frag} {M Hb0 H0 Hb H Hb' H' : Hp} {σ : L2.St} {ρ : Rho} {i : Nat} {v : V} {d : PyData} {ds : List PyData} {vs : List V} {p : Addr}
theorem EnS.mono (x : EnS K M Hb0 H0 Hb H σ ρ) (g : Gr Hb H Hb' H') : EnS K M Hb0 H0 Hb' H' σ ρ := ⟨x.en.mono g, x.gr.trans g, x.mx.trans g.a, x.nw⟩
theorem set_none {α : Type} {l : List α} {i j : Nat} {a : α} (h : ¬ i < l.length) : (l.set i a)[j]? = l[j]? := by
  rw [List.set_eq_of_length_le (by omega)]
theorem EnS.setD (x : EnS K M Hb0 H0 Hb H σ ρ) (h : Dp K Hb v d) : EnS K M Hb0 H0 Hb H (σ.set i (some v)) (ρ.set i (some (.dat d))) := by
  refine ⟨x.en.setD h, x.gr, x.mx, fun j ds p h1 h2 => ?_⟩
  by_cases z : i = j
  · subst z
    by_cases l : i < ρ.length
    · rw [List.getElem?_set_self l] at h1
      cases h1
    · rw [List.getElem?_eq_none (by rw [List.length_set]; omega)] at h1
      cases h1
  · rw [List.getElem?_set_ne z] at h1 h2
    exact x.nw j ds p h1 h2
theorem EnS.setW (x : EnS K M Hb0 H0 Hb H σ ρ) (h : WrD K v d) : EnS K M Hb0 H0 Hb H (σ.set i (some v)) (ρ.set i (some (.wri d))) := by
  refine ⟨x.en.setW h, x.gr, x.mx, fun j ds p h1 h2 => ?_⟩
  by_cases z : i = j
  · subst z
    by_cases l : i < ρ.length
    · rw [List.getElem?_set_self l] at h1
      cases h1
    · rw [List.getElem?_eq_none (by rw [List.length_set]; omega)] at h1
      cases h1
  · rw [List.getElem?_set_ne z] at h1 h2
    exact x.nw j ds p h1 h2
/-- a slot holds a list of its own: new, or another content at the same place -/
theorem EnS.setO (x : EnS K M Hb0 H0 Hb H σ ρ) (hb : Hb p = none) (h0 : H0 p = none) (r : DpAll K Hb vs ds) (other : ∀ (j : Nat) (es : List PyData), j ≠ i → ρ[j]? = some (some (B.own es)) → σ[j]? = some (some (V.ref p)) → False) :
    EnS K M Hb0 H0 Hb (upd H p (.lst vs)) (σ.set i (some (.ref p))) (ρ.set i (some (.own ds))) := by
  have g : Gr Hb0 H0 Hb (upd H p (.lst vs)) := x.gr.mut h0 hb
  have ex : Ex Hb (upd H p (.lst vs)) := g.c
  refine ⟨⟨by rw [List.length_set, List.length_set]; exact x.en.len, ex, fun j e h1 => ?_, fun j es h1 => ?_, fun j e h1 => ?_, fun j k q es fs h1 h2 h3 h4 => ?_⟩, g, x.mx, fun j es q h1 h2 => ?_⟩
  · by_cases z : i = j
    · subst z
      by_cases l : i < ρ.length
      · rw [List.getElem?_set_self l] at h1
        cases h1
      · rw [List.getElem?_eq_none (by rw [List.length_set]; omega)] at h1
        cases h1
    · rw [List.getElem?_set_ne z] at h1 ⊢
      exact x.en.dat j e h1
  · by_cases z : i = j
    · subst z
      by_cases l : i < ρ.length
      · rw [List.getElem?_set_self l] at h1
        cases h1
        exact ⟨p, vs, by rw [List.getElem?_set_self (by rw [x.en.len]; exact l)], hb, upd_same, r⟩
      · rw [List.getElem?_eq_none (by rw [List.length_set]; omega)] at h1
        cases h1
    · rw [List.getElem?_set_ne z] at h1
      obtain ⟨q, ws, e1, e2, e3, e4⟩ := x.en.own j es h1
      have nq : q ≠ p := fun e => by
        subst e
        exact other j es (fun e => z e.symm) h1 e1
      exact ⟨q, ws, by rw [List.getElem?_set_ne z]; exact e1, e2, by rw [upd_ne nq]; exact e3, e4⟩
  · by_cases z : i = j
    · subst z
      by_cases l : i < ρ.length
      · rw [List.getElem?_set_self l] at h1
        cases h1
      · rw [List.getElem?_eq_none (by rw [List.length_set]; omega)] at h1
        cases h1
    · rw [List.getElem?_set_ne z] at h1 ⊢
      exact x.en.wri j e h1
  · by_cases zj : i = j
    · by_cases zk : i = k
      · rw [← zj, ← zk]
      · rw [List.getElem?_set_ne zk] at h2 h4
        subst zj
        by_cases l : i < ρ.length
        · rw [List.getElem?_set_self (by rw [x.en.len]; exact l)] at h3
          cases h3
          exact (other k fs (fun e => zk e.symm) h2 h4).elim
        · rw [List.getElem?_eq_none (by rw [List.length_set]; omega)] at h1
          cases h1
    · rw [List.getElem?_set_ne zj] at h1 h3
      by_cases zk : i = k
      · subst zk
        by_cases l : i < ρ.length
        · rw [List.getElem?_set_self (by rw [x.en.len]; exact l)] at h4
          cases h4
          exact (other j es (fun e => zj e.symm) h1 h3).elim
        · rw [List.getElem?_eq_none (by rw [List.length_set]; omega)] at h2
          cases h2
      · rw [List.getElem?_set_ne zk] at h2 h4
        exact x.en.dis j k q es fs h1 h2 h3 h4
  · by_cases z : i = j
    · subst z
      by_cases l : i < ρ.length
      · rw [List.getElem?_set_self (by rw [x.en.len]; exact l)] at h2
        cases h2
        exact h0
      · rw [List.getElem?_eq_none (by rw [List.length_set]; omega)] at h1
        cases h1
    · rw [List.getElem?_set_ne z] at h1 h2
      exact x.nw j es q h1 h2
/-- a new list goes into a slot -/
theorem EnS.newO (x : EnS K M Hb0 H0 Hb H σ ρ) (g : Gr Hb H Hb' H') (hp : H p = none) (hb : Hb' p = none) (hl : H' p = some (.lst vs)) (r : DpAll K Hb' vs ds) : EnS K M Hb0 H0 Hb' H' (σ.set i (some (.ref p))) (ρ.set i (some (.own ds))) := by
  have y := (x.mono g).setO (i := i) (p := p) hb (none_of_ex x.gr.b hp) r fun j es _ h1 h2 => by
    obtain ⟨q, ws, e1, e2, e3, e4⟩ := x.en.own j es h1
    rw [h2] at e1
    cases e1
    rw [hp] at e3
    cases e3
  have e : upd H' p (.lst vs) = H' := by
    funext a
    by_cases z : a = p
    · rw [z, upd_same, hl]
    · rw [upd_ne z]
  rw [e] at y
  exact y
/-- the list in a slot, another content -/
theorem EnS.mutO (x : EnS K M Hb0 H0 Hb H σ ρ) {es : List PyData} (h : ρ[i]? = some (some (.own es))) (hs : σ[i]? = some (some (.ref p))) (hb : Hb p = none) (r : DpAll K Hb vs ds) : EnS K M Hb0 H0 Hb (upd H p (.lst vs)) σ (ρ.set i (some (.own ds))) := by
  have y := x.setO (i := i) (p := p) hb (x.nw i es p h hs) r fun j fs n h1 h2 => n (x.en.dis j i p fs es h1 h h2 hs)
  have e : σ.set i (some (.ref p)) = σ := by
    apply List.ext_getElem?
    intro j
    by_cases z : i = j
    · subst z
      have l : i < σ.length := (List.getElem?_eq_some_iff.mp hs).1
      rw [List.getElem?_set_self l, hs]
    · rw [List.getElem?_set_ne z]
  rw [e] at y
  exact y
/-- a list of its own becomes data -/
theorem EnS.froz (x : EnS K M Hb0 H0 Hb H σ ρ) (h : ρ[i]? = some (some (.own ds))) : ∃ Hb', EnS K M Hb0 H0 Hb' H σ (ρ.set i (some (.dat (.list ds)))) := by
  obtain ⟨p, vs, e1, e2, e3, e4⟩ := x.en.own i ds h
  have ex : Ex Hb (upd Hb p (.lst vs)) := ex_upd e2
  have exH : Ex (upd Hb p (.lst vs)) H := fun a o e => by
    by_cases z : a = p
    · rw [z, upd_same] at e
      rw [z, e3]
      exact e
    · rw [upd_ne z] at e
      exact x.en.ex a o e
  have lt : i < ρ.length := (List.getElem?_eq_some_iff.mp h).1
  have ne : ∀ (j : Nat) (es : List PyData), (ρ.set i (some (B.dat (.list ds))))[j]? = some (some (B.own es)) → i ≠ j ∧ ρ[j]? = some (some (B.own es)) := fun j es q => by
    by_cases z : i = j
    · subst z
      rw [List.getElem?_set_self lt] at q
      cases q
    · rw [List.getElem?_set_ne z] at q
      exact ⟨z, q⟩
  refine ⟨upd Hb p (.lst vs), ⟨by rw [List.length_set]; exact x.en.len, exH, fun j e h1 => ?_, fun j es h1 => ?_, fun j e h1 => ?_, fun j k q es fs h1 h2 h3 h4 => ?_⟩, ⟨x.gr.a.trans ex, x.gr.b, exH, fun a o q n => ?_⟩, x.mx.trans ex, fun j es q h1 h2 => ?_⟩
  · by_cases z : i = j
    · subst z
      rw [List.getElem?_set_self lt] at h1
      cases h1
      exact ⟨.ref p, e1, .lst (SqL.of upd_same) (dpa_mono ex _ _ e4)⟩
    · rw [List.getElem?_set_ne z] at h1
      obtain ⟨v, a, b⟩ := x.en.dat j e h1
      exact ⟨v, a, dp_mono ex _ _ b⟩
  · obtain ⟨z, h1⟩ := ne j es h1
    obtain ⟨q, ws, f1, f2, f3, f4⟩ := x.en.own j es h1
    have nq : q ≠ p := fun e => by
      subst e
      exact z (x.en.dis i j q ds es h h1 e1 f1)
    exact ⟨q, ws, f1, by rw [upd_ne nq]; exact f2, f3, dpa_mono ex _ _ f4⟩
  · by_cases z : i = j
    · subst z
      rw [List.getElem?_set_self lt] at h1
      cases h1
    · rw [List.getElem?_set_ne z] at h1
      exact x.en.wri j e h1
  · exact x.en.dis j k q es fs (ne j es h1).2 (ne k fs h2).2 h3 h4
  · have na : a ≠ p := ne_of_none q (x.nw i ds p h e1)
    rw [upd_ne na]
    exact x.gr.d a o q n
  · exact x.nw j es q (ne j es h1).2 h2
end
end Pd

set_option Elab.async false
set_option linter.all false
set_option maxRecDepth 100000
set_option maxHeartbeats 4000000
namespace Pd
open PySem L2
section
variable {X : Cx} {G : Ga} {cf : Cf} {a b c t src elt : T} {x y z e iter : Expr} {M Hb0 H0 Hb H : Hp} {σ : L2.St} {ρ : Rho} {P : O → Prop} {D : Ends}

theorem chkN_of {i : Nat} {n : Str} (h : chkN cf i n = true) : cf.N[i]? = some n ∧ locB cf.sc n = true := by
  unfold chkN at h
  rw [Bool.and_eq_true, decide_eq_true_eq] at h
  exact h
theorem sw_no (h : notComp e = true) {tg : Expr} {l : Nat} {env : Env} : swapsWith e (some tg) l env = pure false := by
  cases e <;> first | rfl | cases h
theorem nd' (ok : XOK X cf G) : X.N.Nodup := by rw [ok.N]; exact ok.nd
theorem ix' (ok : XOK X cf G) {i : Nat} {n : Str} (h : cf.N[i]? = some n) : X.N[i]? = some n := by rw [ok.N]; exact h
theorem lo' (ok : XOK X cf G) {n : Str} (h : locB cf.sc n = true) : Loc X.env.scope n := by rw [ok.sc]; exact loc_of h
/-- what is wanted behind a store of data -/
theorem fin_dat {i : Nat} {d : PyData} {v : V} {Hb' H' : Hp} (I : EnS X.K M Hb0 H0 Hb H σ ρ) (k : Fin X.K M Hb0 H0 P D) (w : P (.nx (ρ.set i (some (.dat d))))) (g : Gr Hb H Hb' H') (r : Dp X.K Hb' v d) : D.nx (σ.set i (some v)) H' :=
  (k _ w) _ _ _ ((I.mono g).setD r)
theorem fin_own {i : Nat} {ds : List PyData} {p : Addr} {vs : List V} {Hb' H' : Hp} (I : EnS X.K M Hb0 H0 Hb H σ ρ) (k : Fin X.K M Hb0 H0 P D) (w : P (.nx (ρ.set i (some (.own ds))))) (g : Gr Hb H Hb' H') (hp : H p = none) (hb : Hb' p = none) (hl : H' p = some (.lst vs)) (r : DpAll X.K Hb' vs ds) : D.nx (σ.set i (some (.ref p))) H' :=
  (k _ w) _ _ _ (I.newO g hp hb hl r)
theorem fin_new {i : Nat} {ds : List PyData} {p : Addr} {vs : List V} {Hb' H' : Hp} (I : EnS X.K M Hb0 H0 Hb H σ ρ) (k : Fin X.K M Hb0 H0 P D) (hi : i < ρ.length) (w : P (.nx (ρ.set i (some (.dat (.list ds)))))) (g : Gr Hb H Hb' H') (hp : H p = none) (hb : Hb' p = none) (hl : H' p = some (.lst vs)) (r : DpAll X.K Hb' vs ds) : D.nx (σ.set i (some (.ref p))) H' := by
  obtain ⟨Hb2, q⟩ := (I.newO (i := i) g hp hb hl r).froz (i := i) (ds := ds) (List.getElem?_set_self hi)
  rw [List.set_set] at q
  exact (k _ w) _ _ _ q
theorem wList_inv {d : PyData} {R : List PyData → Prop} (w : wList d R) : ∃ ds, d = .list ds ∧ R ds := by
  unfold wList at w
  split at w
  · exact ⟨_, rfl, w⟩
  · exact w.elim
theorem wTup_inv {d : PyData} {R : List PyData → Prop} (w : wTup d R) : ∃ ds, d = .tuple ds ∧ R ds := by
  unfold wTup at w
  split at w
  · exact ⟨_, rfl, w⟩
  · exact w.elim
theorem wInt_inv {d : PyData} {R : Int → Prop} (w : wInt d R) : ∃ n, d = .int n ∧ R n := by
  unfold wInt at w
  split at w
  · exact ⟨_, rfl, w⟩
  · exact w.elim
theorem wOwn_inv {i : Nat} {R : List PyData → Prop} (w : wOwn ρ i R) : ∃ ds, ρ[i]? = some (some (.own ds)) ∧ R ds := by
  unfold wOwn at w
  split at w
  · rename_i ds e
    exact ⟨ds, e, w⟩
  · exact w.elim
theorem wDat_inv {i : Nat} {R : PyData → Prop} (w : wDat ρ i R) : ∃ d, ρ[i]? = some (some (.dat d)) ∧ R d := by
  unfold wDat at w
  split at w
  · rename_i d e
    exact ⟨d, e, w⟩
  · exact w.elim
theorem wBin_inv {o : BO} {d f : PyData} {R : PyData → Prop} (w : wBin o d f R) : ∃ i j, d = .int i ∧ f = .int j ∧ opI o i j R := by
  unfold wBin at w
  split at w
  · exact ⟨_, _, rfl, rfl, w⟩
  · exact w.elim
theorem t_set (ok : XOK X cf G) (fn : ∀ n, X.fn n = true) {i : Nat} {n : Str} {py pos : Pos} (hn : chkN cf i n = true) (hc : notComp e = true) (he : SE X G t e) : SS X G (.set i t) (.Assign [.Name n py] e pos) := by
  intro M Hb0 H0 Hb H σ ρ P D I w k
  obtain ⟨h1, h2⟩ := chkN_of hn
  refine ⟨_, ps_set (nd' ok) (ix' ok h1) (lo' ok h2) pe_W (sw_no hc) (.inl (fn _)), ?_⟩
  exact he _ _ _ _ _ _ I.en w fun d v Hb' H' w1 g r => fin_dat I k w1 g r
theorem t_mk (ok : XOK X cf G) (fn : ∀ n, X.fn n = true) {i : Nat} {n : Str} {py pos : Pos} (hn : chkN cf i n = true) (hc : notComp e = true) (he : SF X G t e) : SS X G (.mk i t) (.Assign [.Name n py] e pos) := by
  intro M Hb0 H0 Hb H σ ρ P D I w k
  obtain ⟨h1, h2⟩ := chkN_of hn
  refine ⟨_, ps_set (nd' ok) (ix' ok h1) (lo' ok h2) pe_W (sw_no hc) (.inl (fn _)), ?_⟩
  exact he _ _ _ _ _ _ I.en w fun ds p vs Hb' H' w1 g hp hb hl r => fin_own I k w1 g hp hb hl r
theorem kind_of (ok : XOK X cf G) (h : isFnS cf.sc = true) : X.env.scope.kind = .function := by
  rw [ok.sc]
  unfold isFnS at h
  split at h
  · assumption
  · cases h
theorem sw_lc (hk : X.env.scope.kind = .function) {elt : Expr} {gs : List Comprehension} {scope : Scope} {n : Str} {py pos : Pos} {l : Nat} : swapsWith (.ListComp elt gs scope pos) (some (.Name n py)) l X.env = pure (swB X.env.scope n py scope pos) := by
  have hb : X.env.blockKind = .function := by unfold Env.blockKind; rw [hk]; rfl
  unfold swapsWith
  simp only [hb]
  rfl
/-- a comprehension given to a name: the store -/
theorem t_lc (ok : XOK X cf G) (fn : ∀ n, X.fn n = true) {i : Nat} {n : Str} {py pos : Pos} (hn : chkN cf i n = true) (hc : chkLC cf n t e = true) : 
    ∀ (Hb H : Hp) (σ : L2.St) (ρ : Rho) (R : PyData → Prop) (D : Ends), En X.K Hb H σ ρ → wE G t ρ R →
      (∀ ds p vs Hb' H', R (.list ds) → Gr Hb H Hb' H' → H p = none → Hb' p = none → H' p = some (.lst vs) → DpAll X.K Hb' vs ds → D.nx (σ.set i (some (.ref p))) H') → WS X (.Assign [.Name n py] e pos) D σ H := by
  obtain ⟨h1, h2⟩ := chkN_of hn
  intro Hb H σ ρ R D I w q
  unfold chkLC at hc
  split at hc
  · rename_i j src elt e m pm iter as scope ps
    simp only [Bool.and_eq_true, decide_eq_true_eq] at hc
    obtain ⟨⟨⟨⟨⟨⟨⟨c1, c2⟩, c3⟩, c4⟩, c5⟩, c6⟩, c7⟩, c8⟩ := hc
    subst c2
    have hk := kind_of ok c1
    have hsrc : SI X G src (.Name m pm) iter := (okk G src).i _ _ _ _ ok c6
    have he : ∀ X', XOK X' { cf with sc := rel scope cf.sc } G → SE X' G elt e := fun X' ok' => (okk G elt).e _ _ _ ok' c8
    cases hs : swB X.env.scope n py scope ps with
    | true =>
      have hl : X.env.scope.names.lookup n = some .local := by
        unfold swB at hs
        rw [Bool.and_eq_true, Bool.and_eq_true] at hs
        exact eq_of_beq hs.1.1
      exact ⟨_, ps_setLc (i := i) (own := [(m, j)]) (g := gName j) (tt := tYes) (te := WB X scope e) ok.calm (nd' ok) (ix' ok h1) hl ((sw_lc hk).trans (by rw [hs])) pi_W (by rw [ok.N, ok.sc]; exact blkOk_by c5) (blk_name ok c3 c4) (fun _ _ _ _ _ => pts_nil) pe_WB (notSet_f c7),
        flc0 ok hsrc he I w q⟩
    | false =>
      refine ⟨_, ps_set (nd' ok) (ix' ok h1) (lo' ok h2) pe_W ((sw_lc hk).trans (by rw [hs])) (.inl (fn _)), ?_⟩
      exact flc ok c3 c4 c5 c7 hsrc he _ _ _ _ _ _ I w q
  · rename_i j src c elt e m pm iter z as scope ps
    simp only [Bool.and_eq_true, decide_eq_true_eq] at hc
    obtain ⟨⟨⟨⟨⟨⟨⟨⟨c1, c2⟩, c3⟩, c4⟩, c5⟩, c6⟩, c7⟩, c9⟩, c8⟩ := hc
    subst c2
    have hk := kind_of ok c1
    have hsrc : SI X G src (.Name m pm) iter := (okk G src).i _ _ _ _ ok c6
    have ht : ∀ X', XOK X' { cf with sc := rel scope cf.sc } G → ST X' G c z := fun X' ok' => (okk G c).c _ _ _ ok' c9
    have he : ∀ X', XOK X' { cf with sc := rel scope cf.sc } G → SE X' G elt e := fun X' ok' => (okk G elt).e _ _ _ ok' c8
    cases hs : swB X.env.scope n py scope ps with
    | true =>
      have hl : X.env.scope.names.lookup n = some .local := by
        unfold swB at hs
        rw [Bool.and_eq_true, Bool.and_eq_true] at hs
        exact eq_of_beq hs.1.1
      exact ⟨_, ps_setLc (i := i) (own := [(m, j)]) (g := gName j) (tt := WBT X scope z) (te := WB X scope e) ok.calm (nd' ok) (ix' ok h1) hl ((sw_lc hk).trans (by rw [hs])) pi_W (by rw [ok.N, ok.sc]; exact blkOk_by c5) (blk_name ok c3 c4) (fun s H C cl fp => pts_one (pt_WB s H C cl fp)) pe_WB (notSet_f c7),
        flci0 ok hsrc ht he I w q⟩
    | false =>
      refine ⟨_, ps_set (nd' ok) (ix' ok h1) (lo' ok h2) pe_W ((sw_lc hk).trans (by rw [hs])) (.inl (fn _)), ?_⟩
      exact flci ok c3 c4 c5 c7 hsrc ht he _ _ _ _ _ _ I w q
  · rename_i j jj elt e m pm y py2 as scope ps
    simp only [Bool.and_eq_true, decide_eq_true_eq] at hc
    obtain ⟨⟨⟨⟨⟨⟨c1, c2⟩, c3⟩, c4⟩, c5⟩, c6⟩, c8⟩ := hc
    subst c2
    have hk := kind_of ok c1
    have he : ∀ X', XOK X' { cf with sc := rel scope cf.sc } G → SE X' G elt e := fun X' ok' => (okk G elt).e _ _ _ ok' c8
    cases hs : swB X.env.scope n py scope ps with
    | true =>
      have hl : X.env.scope.names.lookup n = some .local := by
        unfold swB at hs
        rw [Bool.and_eq_true, Bool.and_eq_true] at hs
        exact eq_of_beq hs.1.1
      exact ⟨_, ps_setLc (i := i) (own := [(m, j)]) (g := gName j) (tt := tYes) (te := WB X scope e) ok.calm (nd' ok) (ix' ok h1) hl ((sw_lc hk).trans (by rw [hs])) pi_W (by rw [ok.N, ok.sc]; exact blkOk_by c5) (blk_name ok c3 c4) (fun _ _ _ _ _ => pts_nil) pe_WB (fun _ => rfl),
        flco0 ok c6 he I w q⟩
    | false =>
      refine ⟨_, ps_set (nd' ok) (ix' ok h1) (lo' ok h2) pe_W ((sw_lc hk).trans (by rw [hs])) (.inl (fn _)), ?_⟩
      exact flco ok c3 c4 c5 c6 he _ _ _ _ _ _ I w q
  · cases hc
theorem setAll_en {K : PySem.W.Frag} : ∀ {is : List Nat} {ds : List PyData} {vs : List V} {ρ ρ' : Rho} {σ : L2.St} {Hb H : Hp}, EnS K M Hb0 H0 Hb H σ ρ → DpAll K Hb vs ds → setAll is ds ρ = some ρ' →
    EnS K M Hb0 H0 Hb H ((is.zip vs).foldl (fun σ p => σ.set p.1 (some p.2)) σ) ρ'
  | [], [], [], _, _, _, _, _, I, _, e => by
    cases e
    exact I
  | i :: is, d :: ds, v :: vs, ρ, ρ', σ, _, _, I, .cons r t, e => setAll_en (is := is) (ds := ds) (vs := vs) (I.setD r) t e
  | [], _ :: _, _, _, _, _, _, _, _, _, e => by cases e
  | _ :: _, [], _, _, _, _, _, _, _, _, e => by cases e
theorem pgs_of (ok : XOK X cf G) (fn : ∀ n, X.fn n = true) : ∀ {is : List Nat} {es : List Expr}, chkTg cf is es = true → ∃ t : TGs, PGs X es t ∧ (assignEach es X.env).length = is.length ∧ (assignEach es X.env).findIdx? (·.1) = none ∧
    ∀ (vs : List V) (σ : L2.St) (H : Hp) (Q : L2.St → Hp → Prop), vs.length = is.length → Q ((is.zip vs).foldl (fun σ p => σ.set p.1 (some p.2)) σ) H → t vs σ H Q
  | [], [], _ => ⟨_, pgs_nil, rfl, rfl, fun vs σ H Q h q => by
    cases vs with
    | nil => exact ⟨rfl, q⟩
    | cons _ _ => cases h⟩
  | [], _ :: _, h => by cases h
  | i :: is, [], h => by cases h
  | i :: is, e :: es, h => by
    cases e <;> first | (simp only [chkTg, Bool.false_eq_true] at h; done) | skip
    rename_i n p
    simp only [chkTg, Bool.and_eq_true] at h
    obtain ⟨h1, h2⟩ := chkN_of h.1
    obtain ⟨t, p1, p2, p3, p4⟩ := pgs_of ok fn h.2
    refine ⟨_, pgs_cons (pg_name (nd' ok) (ix' ok h1) (lo' ok h2) (.inl (fn _))) p1, ?_, ?_, fun vs σ H Q hl q => ?_⟩
    · show (assignEach es X.env).length + 1 = is.length + 1
      rw [p2]
    · show ((false, _) :: assignEach es X.env).findIdx? (·.1) = none
      rw [List.findIdx?_cons]
      simp [p3]
    · cases vs with
      | nil => cases hl
      | cons v vs => exact ⟨v, vs, rfl, p4 vs _ H Q (Nat.succ.inj hl) q⟩
theorem sws_no {tg : Expr} (h : ∀ n p, tg ≠ .Name n p) {l : Nat} {env : Env} : swapsWithSole [tg] e l env = pure false := by
  show swapsWith e (some tg) l env = pure false
  cases e <;> first | rfl | (cases tg <;> first | rfl | exact absurd rfl (h _ _))
theorem t_unp (ok : XOK X cf G) (fn : ∀ n, X.fn n = true) {is : List Nat} {es : List Expr} {kk : Nat} {pt pos : Pos} (hn : chkTg cf is es = true) (hc : notTup e = true) (he : SE X G t e) : SS X G (.unp is t) (.Assign [.Tuple es kk pt] e pos) := by
  intro M Hb0 H0 Hb H σ ρ P D I w k
  obtain ⟨tt, p1, p2, p3, p4⟩ := pgs_of ok fn hn
  refine ⟨_, ps_asg pe_W (pg_tup ok.calm p1 p2 p3) (sws_no fun _ _ q => by cases q) (by cases e <;> first | rfl | cases hc) rfl, ?_⟩
  refine he _ _ _ _ _ _ I.en w fun d v Hb' H' w1 g r => ?_
  obtain ⟨ds, rfl, ρ', h1, w2⟩ := wTup_inv w1
  obtain ⟨p, vs, rfl, h2, h3⟩ := Dp.tup_inv r
  have hl : ds.length = is.length := by
    clear w2 h3 w1 r
    have : ∀ (is : List Nat) (ds : List PyData) (ρ ρ' : Rho), setAll is ds ρ = some ρ' → ds.length = is.length := by
      intro is
      induction is with
      | nil => intro ds ρ ρ' h; cases ds <;> first | rfl | cases h
      | cons i is ih => intro ds ρ ρ' h; cases ds with
        | nil => cases h
        | cons d ds => exact congrArg (· + 1) (ih ds _ _ h)
    exact this _ _ _ _ h1
  refine ⟨p, vs, rfl, sqt_mono g.c h2, by rw [dpa_len h3]; exact hl, p4 vs _ _ _ (by rw [dpa_len h3]; exact hl) ?_⟩
  exact (k _ w2) _ _ _ (setAll_en (I.mono g) h3 h1)
theorem pv' (ok : XOK X cf G) {i : Nat} {n : Str} {p : Pos} (h : chkV cf i n = true) : PE X (.Name n p) (tVar i) := by
  obtain ⟨h1, h2, h3⟩ := chkV_of h
  exact pe_var (i := i) (ix' ok h1) (vis_of (by rw [ok.sc]; exact h2)) (nm1 h3) (nm2 h3)
theorem asg_sub {n : Str} {p ps : Pos} {v : Value} (h : notSlice y = true) : assign (.Subscript (.Name n p) y ps) X.env v = (do
      let ov ← holding [v] (eval (.Name n p) X.env)
      let iv ← holding [v, ov] (eval y X.env)
      standAt ps
      holding [v, ov, iv] (setItem ov iv v)
      release [v, ov, iv] []) := by
  cases y <;> first | rfl | cases h
theorem ixN_dp {K : PySem.W.Frag} {vs : List V} {ds : List PyData} {n : Int} {j : Nat} (r : DpAll K Hb vs ds) (h : ixN ds.length n = some j) : ixN vs.length n = some j := by rw [dpa_len r]; exact h
/-- the list of its own that stands in a slot, wherever the heap has gone since -/
theorem own_at {i : Nat} {ds : List PyData} (I : EnS X.K M Hb0 H0 Hb H σ ρ) (h : ρ[i]? = some (some (.own ds))) : ∃ p vs, σ[i]? = some (some (V.ref p)) ∧ Hb p = none ∧ H p = some (.lst vs) ∧ DpAll X.K Hb vs ds ∧
    ∀ Hb' H', Gr Hb H Hb' H' → Hb' p = none ∧ H' p = some (.lst vs) ∧ DpAll X.K Hb' vs ds := by
  obtain ⟨p, vs, e1, e2, e3, e4⟩ := I.en.own i ds h
  exact ⟨p, vs, e1, e2, e3, e4, fun Hb' H' g => ⟨g.d p _ e3 e2, g.b _ _ e3, dpa_mono g.a _ _ e4⟩⟩
theorem t_seti (ok : XOK X cf G) {i : Nat} {n : Str} {p ps pos : Pos} (hn : chkV cf i n = true) (hs : notSlice y = true) (ha : SE X G a y) (hb : SE X G b e) : SS X G (.seti i a b) (.Assign [.Subscript (.Name n p) y ps] e pos) := by
  intro M Hb0 H0 Hb H σ ρ P D I w k
  refine ⟨_, ps_asg pe_W (pg_sub (pv' ok hn) pe_W set_list (fun v => asg_sub hs)) (sws_no fun _ _ q => by cases q) rfl rfl, ?_⟩
  refine hb _ _ _ _ _ _ I.en w fun d v Hb1 H1 w1 g1 r1 => ?_
  have I1 := I.mono g1
  obtain ⟨ds, ho, w1⟩ := wOwn_inv w1
  obtain ⟨q, vs, e1, _, _, _, e2⟩ := own_at I1 ho
  refine ⟨_, e1, ?_⟩
  refine ha _ _ _ _ _ _ I1.en w1 fun d2 u Hb2 H2 w2 g2 r2 => ?_
  obtain ⟨n, rfl, j, h1, w3⟩ := wInt_inv w2
  obtain ⟨f1, f2, f3⟩ := e2 _ _ g2
  cases Dp.int_inv r2
  refine ⟨q, vs, n, j, rfl, rfl, f2, ixN_dp f3 h1, ?_⟩
  exact (k _ w3) _ _ _ ((I1.mono g2).mutO ho e1 f1 (dpa_set (dp_mono g2.a _ _ r1) j f3))
theorem pget_list : PGet X (rIxL X.K) := by
  intro pins s σ H o i ov iv Q I ro ri h
  obtain ⟨p, xs, n, z, rfl, rfl, hq, he, q⟩ := h
  cases ro
  obtain ⟨t, rfl⟩ := ri
  obtain ⟨its, r, pl, hz⟩ := I.list hq
  obtain ⟨j, h1, h2, h3, h4, h5⟩ := atI_get he
  obtain ⟨u, eu, ru⟩ := r.get h2
  have hl := r.length
  have hn := line63
  have done : EP X pins σ Q u s := ⟨z, H, I, ru, q⟩
  by_cases h0 : 0 ≤ n
  · have hj : n.toNat = j := by
      rw [seqIndex_of h0 h5] at h1
      exact Option.some.inj h1
    exact wpAny_getItem_list pl.isList h0 (by omega) (by rw [hj]; simpa using eu) done
  · have hj : (n + (its.toArray.size : Int)).toNat = j := by
      rw [seqIndex_neg (by omega) h4] at h1
      rw [List.size_toArray, ← hl]
      exact Option.some.inj h1
    exact wpAny_getItem_list_neg pl.isList (by omega) (by rw [List.size_toArray] <;> omega) (by omega) (by rw [hj]; simpa using eu) done
theorem ip_of {o : BO} {op : Operator} (h1 : isPm o = true) (h2 : isOp op (boP o) = true) : ∃ t : TIp, PIp X op t ∧ ∀ (d f : PyData) (v u : V) (Hb H : Hp) (R : PyData → Prop) (Q : VK), wBin o d f R → Dp X.K Hb v d → Dp X.K Hb u f → (∀ m, R (.int m) → Q (.int m) H) → t v u H Q := by
  cases isOp_eq h2
  cases o <;> first | (cases h1; done) | skip
  · refine ⟨_, ip_add, fun d f v u Hb H R Q w r1 r2 q => ?_⟩
    obtain ⟨i, j, rfl, rfl, w⟩ := wBin_inv w
    cases Dp.int_inv r1
    cases Dp.int_inv r2
    exact ⟨i, j, rfl, rfl, q _ w⟩
  · refine ⟨_, ip_sub, fun d f v u Hb H R Q w r1 r2 q => ?_⟩
    obtain ⟨i, j, rfl, rfl, w⟩ := wBin_inv w
    cases Dp.int_inv r1
    cases Dp.int_inv r2
    exact ⟨i, j, rfl, rfl, q _ w⟩
theorem bin_int {o : BO} {d f : PyData} {R : PyData → Prop} (w : wBin o d f R) : wBin o d f fun z => R z ∧ ∃ m, z = .int m := by
  obtain ⟨i, j, rfl, rfl, w⟩ := wBin_inv w
  cases o
  · exact ⟨w, _, rfl⟩
  · exact ⟨w, _, rfl⟩
  · exact ⟨w.1, w.2, _, rfl⟩
  · exact ⟨w.1, w.2, _, rfl⟩
  · exact ⟨w.1, w.2, _, rfl⟩
  · exact ⟨w.1, w.2, _, rfl⟩
theorem t_aug (ok : XOK X cf G) (fn : ∀ n, X.fn n = true) {i : Nat} {o : BO} {op : Operator} {n : Str} {p pos : Pos} (hn : chkN cf i n = true) (h1 : isPm o = true) (h2 : isOp op (boP o) = true) (he : SE X G t e) : SS X G (.aug i o t) (.AugAssign (.Name n p) op e pos) := by
  intro M Hb0 H0 Hb H σ ρ P D I w k
  obtain ⟨c1, c2⟩ := chkN_of hn
  obtain ⟨tt, hp, hq⟩ := ip_of (X := X) h1 h2
  refine ⟨_, ps_aug (nd' ok) (ix' ok c1) (lo' ok c2) pe_W hp (.inl (fn _)), ?_⟩
  obtain ⟨d, hd, w⟩ := wDat_inv w
  obtain ⟨v, e1, e2⟩ := I.en.dat i d hd
  refine ⟨v, e1, ?_⟩
  refine he _ _ _ _ _ _ I.en w fun f u Hb1 H1 w1 g1 r1 => ?_
  exact hq d f v u Hb1 H1 _ _ w1 (dp_mono g1.a _ _ e2) r1 fun m w2 => fin_dat I k w2 g1 (.int m)
theorem t_augi (ok : XOK X cf G) {i : Nat} {o : BO} {op : Operator} {n : Str} {p ps pos : Pos} (hn : chkV cf i n = true) (h1 : isPm o = true) (h2 : isOp op (boP o) = true) (hs : notSlice y = true) (ha : SE X G a y) (hb : SE X G b e) :
    SS X G (.augi i o a b) (.AugAssign (.Subscript (.Name n p) y ps) op e pos) := by
  intro M Hb0 H0 Hb H σ ρ P D I w k
  obtain ⟨tt, hp, hq⟩ := ip_of (X := X) h1 h2
  refine ⟨_, ps_augS (pv' ok hn) pe_W pget_list pe_W hp set_list (fun ov iv new => by cases y <;> first | rfl | cases hs), ?_⟩
  obtain ⟨ds, ho, w⟩ := wOwn_inv w
  obtain ⟨q, vs, e1, _, _, _, e2⟩ := own_at I ho
  refine ⟨_, e1, ?_⟩
  refine ha _ _ _ _ _ _ I.en w fun d2 u Hb2 H2 w2 g2 r2 => ?_
  obtain ⟨m, rfl, j, d, c1, c2, w3⟩ := wInt_inv w2
  obtain ⟨f1, f2, f3⟩ := e2 _ _ g2
  cases Dp.int_inv r2
  obtain ⟨v, c3, c4⟩ := dpa_get f3 c2
  refine ⟨q, vs, m, v, rfl, rfl, SqL.of f2, by unfold atI; rw [ixN_dp f3 c1]; exact c3, ?_⟩
  refine hb _ _ _ _ _ _ (I.mono g2).en w3 fun f x Hb3 H3 w4 g3 r3 => ?_
  obtain ⟨k1, k2, k3⟩ := e2 _ _ (g2.trans g3)
  refine hq d f v x Hb3 H3 _ _ w4 (dp_mono g3.a _ _ c4) r3 fun m' w5 => ?_
  refine ⟨q, vs, m, j, rfl, rfl, k2, ixN_dp k3 c1, ?_⟩
  exact (k _ w5) _ _ _ ((I.mono (g2.trans g3)).mutO ho e1 k1 (dpa_set (.int m') j k3))
theorem t_app (ok : XOK X cf G) {i : Nat} {n m : Str} {p apos cpos pos : Pos} (hn : chkV cf i n = true) (hm : m = ("append" : Str)) (hs : notStar e = true) (hl : (apos.endLine == cpos.line) = true) (he : SE X G t e) :
    SS X G (.app i t) (.Expr (.Call (.Attribute (.Name n p) m apos) [e] [] cpos) pos) := by
  subst hm
  intro M Hb0 H0 Hb H σ ρ P D I w k
  have hst : starEach [e] X.env = [(false, eval e X.env)] := notStar_eq hs
  refine ⟨_, ps_expr (pe_bm PySem.F.plainAttrs_list PySem.F.slot_list_append PySem.F.type_list_append mt_append (pv' ok hn) (pa_cons pe_W pa_nil hst) rfl (by rw [hst]; rfl) hl hst rfl) rfl, ?_⟩
  obtain ⟨ds, ho, w⟩ := wOwn_inv w
  obtain ⟨q, vs, e1, _, e3, _, e2⟩ := own_at I ho
  refine ⟨_, e1, .inl ⟨rfl, _, SqL.of e3⟩, ?_⟩
  refine he _ _ _ _ _ _ I.en w fun d u Hb2 H2 w2 g2 r2 => ?_
  obtain ⟨f1, f2, f3⟩ := e2 _ _ g2
  refine ⟨q, vs, u, rfl, rfl, f2, by rw [dpa_len f3]; exact sz_lt w2.1, ?_⟩
  exact (k _ w2.2) _ _ _ ((I.mono g2).mutO ho e1 f1 (dpa_append f3 (.cons r2 .nil)))
theorem t_ext (ok : XOK X cf G) {i : Nat} {n m : Str} {p apos cpos pos : Pos} (hn : chkV cf i n = true) (hm : m = ("extend" : Str)) (hs : notStar e = true) (hl : (apos.endLine == cpos.line) = true) (he : SF X G t e) :
    SS X G (.ext i t) (.Expr (.Call (.Attribute (.Name n p) m apos) [e] [] cpos) pos) := by
  subst hm
  intro M Hb0 H0 Hb H σ ρ P D I w k
  have hst : starEach [e] X.env = [(false, eval e X.env)] := notStar_eq hs
  refine ⟨_, ps_expr (pe_bm PySem.F.plainAttrs_list PySem.F.slot_list_extend PySem.F.type_list_extend mt_extend (pv' ok hn) (pa_cons pe_W pa_nil hst) rfl (by rw [hst]; rfl) hl hst rfl) rfl, ?_⟩
  obtain ⟨ds, ho, w⟩ := wOwn_inv w
  obtain ⟨q, vs, e1, _, e3, _, e2⟩ := own_at I ho
  refine ⟨_, e1, .inl ⟨rfl, _, SqL.of e3⟩, ?_⟩
  refine he _ _ _ _ _ _ I.en w fun es p2 ws Hb2 H2 w2 g2 n1 n2 n3 r2 => ?_
  obtain ⟨f1, f2, f3⟩ := e2 _ _ g2
  refine ⟨q, p2, vs, ws, rfl, rfl, f2, n3, by rw [dpa_len f3, dpa_len r2]; exact sz_of w2.1, ?_⟩
  exact (k _ w2.2) _ _ _ ((I.mono g2).mutO ho e1 f1 (dpa_append f3 r2))
theorem t_cati (ok : XOK X cf G) (fn : ∀ n, X.fn n = true) {i : Nat} {n m : Str} {op : Operator} {p p2 p3 pos : Pos} (hn : chkN cf i n = true) (hm : chkV cf i m = true) (ho : isOp op .Add = true) (he : SF X G t e) :
    SS X G (.cati i t) (.Assign [.Name n p] (.BinOp (.Name m p2) op e p3) pos) := by
  cases isOp_eq ho
  intro M Hb0 H0 Hb H σ ρ P D I w k
  obtain ⟨c1, c2⟩ := chkN_of hn
  refine ⟨_, ps_set (nd' ok) (ix' ok c1) (lo' ok c2) (pe_op op_cat (pv' ok hm) pe_W) rfl (.inl (fn _)), ?_⟩
  obtain ⟨ds, ho, w⟩ := wOwn_inv w
  obtain ⟨q, vs, e1, _, e3, _, e2⟩ := own_at I ho
  refine ⟨_, e1, ?_⟩
  refine he _ _ _ _ _ _ I.en w fun es p2 ws Hb2 H2 w2 g2 n1 n2 n3 r2 => ?_
  obtain ⟨f1, f2, f3⟩ := e2 _ _ g2
  refine ⟨q, p2, vs, ws, rfl, rfl, f2, n3, by rw [dpa_len f3, dpa_len r2]; exact sz_of w2.1, fun l hl => ?_⟩
  have g3 : Gr Hb H Hb2 (upd H2 l (.lst (vs ++ ws))) := ⟨g2.a, g2.b.trans (ex_upd hl), g2.c.trans (ex_upd hl), g2.d⟩
  exact fin_own I k w2.2 g3 (none_of_ex g2.b hl) (none_of_ex g2.c hl) upd_same (dpa_append f3 r2)
theorem t_iff {xs ys : List Stmt} {sa sb : Ss} {p : Pos} (hc : ST X G c z) (ha : SSs X G sa xs) (hb : SSs X G sb ys) : SS X G (.iff c sa sb) (.If z xs ys p) := by
  intro M Hb0 H0 Hb H σ ρ P D I w k
  refine ⟨_, ps_if pt_W pss_W pss_W, ?_⟩
  refine hc _ _ _ _ (fun d => wBool d fun c => (c = true → wSs G sa ρ P) ∧ (c = false → wSs G sb ρ P)) _ I.en w fun b Hb1 H1 w1 g1 => ?_
  cases b with
  | true =>
    rw [if_pos rfl]
    exact ha _ _ _ _ _ _ _ _ _ (I.mono g1) (w1.1 rfl) k
  | false =>
    rw [if_neg (by decide)]
    exact hb _ _ _ _ _ _ _ _ _ (I.mono g1) (w1.2 rfl) k
theorem t_ret {p : Pos} (he : SE X G t e) : SS X G (.ret t) (.Return (some e) p) := by
  intro M Hb0 H0 Hb H σ ρ P D I w k
  refine ⟨_, ps_ret pe_W, ?_⟩
  exact he _ _ _ _ _ _ I.en w fun d v Hb1 H1 w1 g1 r1 => (k _ w1) _ _ _ (I.gr.trans g1) r1
theorem t_for (ok : XOK X cf G) (fn : ∀ n, X.fn n = true) {i : Nat} {n : Str} {body : List Stmt} {sb : Ss} {p pos : Pos} (hn : chkN cf i n = true) (hns : notSet iter = true) (hsrc : SI X G src (.Name n p) iter) (hb : SSs X G sb body) :
    SS X G (.fo i src sb) (.For (.Name n p) iter body [] pos) := by
  intro M Hb0 H0 Hb H σ ρ P D I w k
  obtain ⟨c1, c2⟩ := chkN_of hn
  refine ⟨_, ps_for (by rw [ok.xe]; exact PassesOwn.never) ok.calm pi_W (pg_name (nd' ok) (ix' ok c1) (lo' ok c2) (.inl (fn _))) pss_W (notSet_f hns), ?_⟩
  refine hsrc _ _ _ _ _ _ I.en w fun xs J Hb1 H1 w1 g1 it => ?_
  have Ig := I.mono g1
  have I1 : EnS X.K Hb1 Hb0 H0 Hb1 H1 σ ρ := ⟨Ig.en, Ig.gr, Same.refl _, Ig.nw⟩
  have back : ∀ {Hb2 H2 : Hp} {σ2 : L2.St} {ρ2 : Rho}, EnS X.K Hb1 Hb0 H0 Hb2 H2 σ2 ρ2 → EnS X.K M Hb0 H0 Hb2 H2 σ2 ρ2 := fun y => ⟨y.en, y.gr, Ig.mx.trans y.mx, y.nw⟩
  refine ⟨fun j m σ2 H2 => m = xs.length - j ∧ j ≤ xs.length ∧ ∃ Hb2 ρ2, EnS X.K Hb1 Hb0 H0 Hb2 H2 σ2 ρ2 ∧ forW (fun x ρ R => wSs G sb (ρ.set i (some (.dat x))) R) (xs.drop j) ρ2 P,
    ⟨_, rfl, Nat.zero_le _, Hb1, ρ, I1, w1⟩, ?_⟩
  rintro j m σ2 H2 ⟨rfl, hj, Hb2, ρ2, I2, w2⟩
  have e2 := I2.mx
  by_cases hlt : j < xs.length
  · refine .inr ⟨it.go j Hb2 H2 e2 I2.en.ex hlt, fun σ' H' => ∃ Hb2 ρ2, EnS X.K Hb1 Hb0 H0 Hb2 H' σ' ρ2 ∧ forW (fun x ρ R => wSs G sb (ρ.set i (some (.dat x))) R) (xs.drop (j + 1)) ρ2 P, fun σ' H' h => ⟨_, by omega, rfl, hlt, h⟩, fun v H' y => ?_⟩
    obtain ⟨e, d, hd, rd⟩ := it.yld j v Hb2 H2 H' e2 I2.en.ex hlt y
    subst e
    have ed : xs.drop j = d :: xs.drop (j + 1) := by
      rw [List.drop_eq_getElem_cons hlt]
      rw [List.getElem?_eq_getElem hlt] at hd
      cases hd
      rfl
    rw [ed] at w2
    have I3 := I2.setD (i := i) rd
    refine hb _ _ _ _ _ _ _ (fun o => match o with
      | .nx ρ' => forW (fun x ρ R => wSs G sb (ρ.set i (some (.dat x))) R) (xs.drop (j + 1)) ρ' P
      | .ct ρ' => forW (fun x ρ R => wSs G sb (ρ.set i (some (.dat x))) R) (xs.drop (j + 1)) ρ' P
      | .bk ρ' => P (.nx ρ')
      | .rt d => P (.rt d)) _ I3 ?_ ?_
    · exact w2
    · intro o ho
      cases o with
      | nx ρ' => exact fun σ Hb H y => ⟨Hb, ρ', y, ho⟩
      | ct ρ' => exact fun σ Hb H y => ⟨Hb, ρ', y, ho⟩
      | bk ρ' => exact fun σ Hb H y => k _ ho σ Hb H (back y)
      | rt d => exact fun v Hb H g r => k _ ho v Hb H g r
  · have ej : j = xs.length := by omega
    subst ej
    rw [List.drop_length] at w2
    exact .inl ⟨it.stop Hb2 H2 e2 I2.en.ex, (k _ w2) _ _ _ (back I2)⟩
/-! ### written dicts -/
theorem setAllW_en {K : PySem.W.Frag} : ∀ {is : List Nat} {ds : List PyData} {vs : List V} {ρ ρ' : Rho} {σ : L2.St} {Hb H : Hp}, EnS K M Hb0 H0 Hb H σ ρ → WrAll K vs ds → setAllW is ds ρ = some ρ' →
    EnS K M Hb0 H0 Hb H ((is.zip vs).foldl (fun σ p => σ.set p.1 (some p.2)) σ) ρ'
  | [], [], [], _, _, _, _, _, I, _, e => by
    cases e
    exact I
  | i :: is, d :: ds, v :: vs, ρ, ρ', σ, _, _, I, .cons r t, e => setAllW_en (is := is) (ds := ds) (vs := vs) (I.setW r) t e
  | [], _ :: _, _, _, _, _, _, _, _, _, e => by cases e
  | _ :: _, [], _, _, _, _, _, _, _, _, e => by cases e
theorem setAllW_len : ∀ (is : List Nat) (ds : List PyData) (ρ ρ' : Rho), setAllW is ds ρ = some ρ' → ds.length = is.length
  | [], [], _, _, _ => rfl
  | [], _ :: _, _, _, h => by cases h
  | _ :: _, [], _, _, h => by cases h
  | _ :: is, _ :: ds, _, _, h => congrArg (· + 1) (setAllW_len is ds _ _ h)
theorem setAll_len : ∀ (is : List Nat) (ds : List PyData) (ρ ρ' : Rho), setAll is ds ρ = some ρ' → ds.length = is.length
  | [], [], _, _, _ => rfl
  | [], _ :: _, _, _, h => by cases h
  | _ :: _, [], _, _, h => by cases h
  | _ :: is, _ :: ds, _, _, h => congrArg (· + 1) (setAll_len is ds _ _ h)
/-- a key's value, by its data -/
inductive KeyIs (H : Hp) (K : PySem.W.Frag) : V → PyData → Prop where
  | int (k : Int) : KeyIs H K (.int k) (.int k)
  | tup (p : Addr) (ks : List Int) : SqT K H p ((ks.map (Sum.inl : Int → Key)).map kV) → KeyIs H K (.ref p) (.tuple (ks.map PyData.int))
theorem isKey_ints : ∀ {ds : List PyData}, (ds.all fun d => match d with | .int _ => true | _ => false) = true → ∃ ks : List Int, ds = ks.map PyData.int
  | [], _ => ⟨[], rfl⟩
  | d :: ds, h => by
    rw [List.all_cons, Bool.and_eq_true] at h
    obtain ⟨ks, e⟩ := isKey_ints h.2
    cases d <;> first | (cases h.1; done) | skip
    rename_i k
    exact ⟨k :: ks, by rw [e]; rfl⟩
theorem keyIs_of {K : PySem.W.Frag} {v : V} {x : PyData} (r : Dp K H v x) (h : isKey x = true) : KeyIs H K v x := by
  cases x <;> first | (cases h; done) | skip
  · cases Dp.int_inv r
    exact .int _
  · obtain ⟨ks, rfl⟩ := isKey_ints h
    obtain ⟨p, vs, rfl, h1, h2⟩ := Dp.tup_inv r
    cases dpa_ints h2
    refine .tup p ks ?_
    rw [List.map_map]
    exact h1
theorem tupKey {pins : List (Addr × Obj)} {s : Shared} {p : Addr} {ks : List Key} (I : Inv X pins σ H s) (h : SqT X.K H p (ks.map kV)) : (tupleKind (mixKind X.prog X.w)).is s.heap ks p := by
  obtain ⟨its, r, ⟨o, h1, h2, n, h3⟩, _⟩ := I.tuple h
  exact ⟨o, its.toArray, n, h1, h2, h3, by simpa using items_are r⟩
/-- d[k] of a written dict -/
theorem tab_get {pins : List (Addr × Obj)} {s : Shared} {aa : Addr} {get : PyData → Option PyData} {v : V} {x d : PyData} {u : Value} {A : Around} {E : Value → Shared → Prop} {Q : Value → Shared → Prop} (hu : A.units + 1 < cLine) (tb : TabOK X.prog X.w X.K aa get)
    (I : Inv X pins σ H s) (k : KeyIs H X.K v x) (ru : RelV v u) (hg : get x = some d) (q : ∀ v' u' s', Inv X pins σ H s' → RelV v' u' → WrD X.K v' d → Q u' s') : wpAny (model X.prog X.w) A (getItem (.ref aa) u) Q E s := by
  cases k with
  | int n =>
    rcases tb.body with ⟨kvs, h1, h2, _⟩ | ⟨_, h2⟩
    · obtain ⟨u', v', e1, e2, e3⟩ := (h2 n).2 d hg
      exact wpAny_getItem_of (kV_is (k := Sum.inl n) ru) (h1 _ I.kIn).mapOf e1 (q v' u' _ (I.tok _) e2 e3)
    · rw [h2] at hg
      cases hg
  | tup p ks hs =>
    rcases tb.body with ⟨_, _, _, h2⟩ | ⟨⟨xs, h1, h2⟩, _⟩
    · rw [h2] at hg
      cases hg
    · obtain ⟨p', v', e1, e2, e3⟩ := (h2 ks).2 d hg
      obtain rfl : u = Value.ref p := ru
      exact wpAny_getItem_heap (tupleKind_room_in1 hu) (tupKey I hs) (h1 _ I.kIn) e1 (q v' _ _ (I.tok _) e2 e3)
/-- d.get(k, z) of a written dict -/
theorem tab_getD {pins : List (Addr × Obj)} {s : Shared} {aa : Addr} {get : PyData → Option PyData} {v z : V} {x : PyData} {u r : Value} {A : Around} {E : Value → Shared → Prop} {Q : Value → Shared → Prop} (hu : A.units + 1 < cLine) (tb : TabOK X.prog X.w X.K aa get)
    (I : Inv X pins σ H s) (k : KeyIs H X.K v x) (ru : RelV v u) (rz : RelV z r) (hk : ∃ x' d', get x' = some d' ∧ kindB x x' = true) (q : ∀ v' u' s', Inv X pins σ H s' → RelV v' u' → (∀ d, get x = some d → WrD X.K v' d) → (get x = none → v' = z) → Q u' s') :
    wpAny (model X.prog X.w) A (call (.builtin "dict.get") [.ref aa, u, r]) Q E s := by
  cases k with
  | int n =>
    rcases tb.body with ⟨kvs, h1, h2, _⟩ | ⟨⟨xs, h1, _⟩, h2⟩
    · have dd := h1 _ I.kIn
      refine call_meetsIn PySem.F.slot_dict_get dd.typeIs PySem.F.entry_dict_get (PySem.F.args_dict_get_3 _ _ _) (meets_dict_get_default (mixKind X.prog X.w) aa (kV_is (k := Sum.inl n) ru) tb.low r) ⟨_, dd.mapOf, ?_⟩
      cases hg : get (.int n) with
      | none =>
        rw [(h2 n).1 hg]
        exact q z r _ (I.tok _) rz (fun d e => by rw [hg] at e; cases e) fun _ => rfl
      | some d =>
        obtain ⟨u', v', e1, e2, e3⟩ := (h2 n).2 d hg
        rw [e1]
        exact q v' u' _ (I.tok _) e2 (fun d' e => by rw [hg] at e; cases e; exact e3) fun e => by rw [hg] at e; cases e
    · obtain ⟨x', d', g1, g2⟩ := hk
      cases x' <;> first | (cases g2; done) | skip
      rw [h2] at g1
      cases g1
  | tup p ks hs =>
    obtain rfl : u = Value.ref p := ru
    rcases tb.body with ⟨kvs, h1, _, h2⟩ | ⟨⟨xs, h1, h2⟩, _⟩
    · obtain ⟨x', d', g1, g2⟩ := hk
      cases x' <;> first | (cases g2; done) | skip
      rw [h2] at g1
      cases g1
    · have dd := h1 _ I.kIn
      refine call_meetsIn PySem.F.slot_dict_get dd.typeIs PySem.F.entry_dict_get (PySem.F.args_dict_get_3 _ _ _) (meetsH_dict_get_default (tupleKind (mixKind X.prog X.w)) aa p tb.low r) ⟨tupleKind_room_in1 hu, ks.map Sum.inl, xs, tupKey I hs, dd, ?_⟩
      cases hg : get (.tuple (ks.map PyData.int)) with
      | none =>
        rw [(h2 ks).1 hg]
        exact q z r _ (I.tok _) rz (fun d e => by rw [hg] at e; cases e) fun _ => rfl
      | some d =>
        obtain ⟨p', v', e1, e2, e3⟩ := (h2 ks).2 d hg
        rw [e1]
        exact q v' _ _ (I.tok _) e2 (fun d' e => by rw [hg] at e; cases e; exact e3) fun e => by rw [hg] at e; cases e
theorem noSl_of (h : notSlice y = true) : NoSl y := notSlice_ix h
/-- the store of a tuple's items in names, from a written or a plain tuple -/
theorem unp_end (ok : XOK X cf G) {is : List Nat} {es : List Expr} {tt : TGs} {kk : Nat} {pt : Pos} {x : V} {ds : List PyData} {p : Addr} {vs : List V} {Q : L2.St → Hp → Prop} (hl : ds.length = is.length) (h1 : SqT X.K H p vs) (hv : vs.length = ds.length)
    (p4 : ∀ (vs : List V) (σ : L2.St) (H : Hp) (Q : L2.St → Hp → Prop), vs.length = is.length → Q ((is.zip vs).foldl (fun σ p => σ.set p.1 (some p.2)) σ) H → tt vs σ H Q) (q : Q ((is.zip vs).foldl (fun σ p => σ.set p.1 (some p.2)) σ) H) :
    gTup X.K is.length tt (.ref p) σ H Q := ⟨p, vs, rfl, h1, hv.trans hl, p4 vs _ _ _ (hv.trans hl) q⟩
theorem wrd_sq {K : PySem.W.Frag} {v : V} {ds : List PyData} (h : WrD K v (.tuple ds)) : ∃ p vs, v = .ref p ∧ (∀ H, SqT K H p vs) ∧ WrAll K vs ds ∧ vs.length = ds.length := by
  obtain ⟨a, o, its, n, xs, rfl, c1, c2, c3, c4, c5, c6, c7⟩ := WrD.tup_inv h
  exact ⟨a, xs, rfl, fun H => .inr ⟨o, its, n, c1, c2, c4, c5, c6⟩, c7, dpa_len (WrAll.dp (H := fun _ => none) _ _ c7)⟩
theorem t_unpw (ok : XOK X cf G) (fn : ∀ n, X.fn n = true) {is : List Nat} {es : List Expr} {n kk : Nat} {m : Str} {p p2 pt pos : Pos} (hn : chkTg cf is es = true) (hf : chkF cf n m = true) (hs : notSlice y = true) (ha : SE X G a y) :
    SS X G (.unpw is n a) (.Assign [.Tuple es kk pt] (.Subscript (.Name m p) y p2) pos) := by
  intro M Hb0 H0 Hb H σ ρ P D I w k
  obtain ⟨c1, c2, c3⟩ := chkF_of hf
  obtain ⟨w0, w⟩ := w
  obtain ⟨aa, hm, tb⟩ := ok.glb.tab n m c1 w0
  obtain ⟨tt, p1, p2', p3, p4⟩ := pgs_of ok fn hn
  have hu : X.A.units + 1 < cLine := by have := hu64 ok; omega
  have he : PE X (.Subscript (.Name m p) y p2) (fun σ H Q => WE X y σ H fun v H1 => ∃ x d, KeyIs H1 X.K v x ∧ G.tab n x = some d ∧ ∀ v', WrD X.K v' d → Q v' H1) := by
    refine ⟨fun pn s0 σ0 H0 Q J h => ?_⟩
    refine subD_of PySem.F.slot_dict_getitem.lookup (noSl_of hs) (ld_glob J (gl_of ok c2) hm (thn (pe_W.run pn s0 σ0 H0 _ J h) fun u s2 ⟨v, H2, J2, rv, x, d, k1, k2, q⟩ => ?_) (nm1 c3))
    obtain ⟨o, ol, oc, od⟩ := tb.ob
    exact ⟨⟨o, J2.kIn _ _ ol, oc⟩, tab_get hu tb J2 k1 rv k2 fun v' u' s3 J3 r3 wr => ⟨v', H2, J3, r3, q v' wr⟩⟩
  refine ⟨_, ps_asg he (pg_tup ok.calm p1 p2' p3) (sws_no fun _ _ q => by cases q) rfl, ?_⟩
  refine ha _ _ _ _ _ _ I.en w fun x v Hb' H' w1 g r => ?_
  obtain ⟨d, hg, w2⟩ := w1
  refine ⟨x, d, keyIs_of (dp_mono g.c _ _ r) (tb.key x d hg), hg, fun v' wr => ?_⟩
  obtain ⟨ds, rfl, ρ', h1, w3⟩ := wTup_inv w2
  obtain ⟨q, vs, rfl, e1, e2, e3⟩ := wrd_sq wr
  exact unp_end ok (x := .non) (kk := 0) (pt := p) (es := []) (setAllW_len _ _ _ _ h1) (e1 _) e3 p4 ((k _ w3) _ _ _ (setAllW_en (I.mono g) e2 h1))
theorem t_unpg (ok : XOK X cf G) (fn : ∀ n, X.fn n = true) {is : List Nat} {es : List Expr} {n kk : Nat} {m me : Str} {p p2 pt apos pos : Pos} (hn : chkTg cf is es = true) (hf : chkF cf n m = true) (hme : me = ("get" : Str)) (hs : notStar y = true) (hs' : notStar z = true) (hl : (apos.endLine == p2.line) = true)
    (ha : SE X G a y) (hb : SE X G b z) : SS X G (.unpg is n a b) (.Assign [.Tuple es kk pt] (.Call (.Attribute (.Name m p) me apos) [y, z] [] p2) pos) := by
  subst hme
  intro M Hb0 H0 Hb H σ ρ P D I w k
  obtain ⟨c1, c2, c3⟩ := chkF_of hf
  obtain ⟨w0, w⟩ := w
  obtain ⟨aa, hm, tb⟩ := ok.glb.tab n m c1 w0
  obtain ⟨tt, p1, p2', p3, p4⟩ := pgs_of ok fn hn
  have hu : X.A.units + 1 < cLine := by have := hu64 ok; omega
  have e1 : starEach [z] X.env = [(false, eval z X.env)] := notStar_eq hs'
  have e2 : starEach [y, z] X.env = [(false, eval y X.env), (false, eval z X.env)] := by rw [notStar_eq hs, e1]
  have mm : L2.M2 X (.Name m p) ("get" : Str) apos y z p2 := ⟨rfl, by rw [e2]; rfl, hl, by rw [e2]; rfl⟩
  have he : PE X (.Call (.Attribute (.Name m p) ("get" : Str) apos) [y, z] [] p2) (fun σ H Q => WE X y σ H fun v H1 => WE X z σ H1 fun v2 H2 => ∃ x, KeyIs H2 X.K v x ∧ (∃ x' d', G.tab n x' = some d' ∧ kindB x x' = true) ∧
      ∀ v', (∀ d, G.tab n x = some d → WrD X.K v' d) → (G.tab n x = none → v' = v2) → Q v' H2) := by
    refine ⟨fun pn s0 σ0 H0 Q J h => ?_⟩
    refine wpAny_Call_method mm.base mm.few mm.line PySem.F.plainAttrs_dict PySem.F.slot_dict_get PySem.F.type_dict_get (ld_glob J (gl_of ok c2) hm ?_ (nm1 c3))
    obtain ⟨o, ol, oc, od⟩ := tb.ob
    refine ⟨⟨o, J.kIn _ _ ol, oc⟩, fun b q => by cases q; exact ⟨o, J.kIn _ _ ol, od⟩, ?_⟩
    rw [mm.trees]
    refine Calls.callWith_builtin rfl (Calls.evalArgs_plain (Calls.spliced_cons (thn (pe_W.run pn s0 σ0 H0 _ J h) fun u s2 ⟨v, H2, J2, rv, q2⟩ =>
      Calls.spliced_cons (thn (pe_W.run pn s2 σ0 H2 _ J2 q2) fun r s3 ⟨v2, H3, J3, r2, x, k1, k2, q3⟩ => Calls.spliced_nil ?_))))
    exact tab_getD hu tb J3 k1 rv r2 k2 fun v' u' s4 J4 r4 a1 a2 => ⟨v', H3, J4, r4, q3 v' a1 a2⟩
  refine ⟨_, ps_asg he (pg_tup ok.calm p1 p2' p3) (sws_no fun _ _ q => by cases q) rfl, ?_⟩
  refine two ha hb I.en w fun x d v u Hb' H' w1 g r1 r2 => ?_
  obtain ⟨k1, k2, w2, w3⟩ := w1
  refine ⟨x, keyIs_of (dp_mono g.c _ _ r1) k1, k2, fun v' a1 a2 => ?_⟩
  cases hg : G.tab n x with
  | some e =>
    obtain ⟨ds, rfl, ρ', h1, w4⟩ := wTup_inv (w2 e hg)
    obtain ⟨q, vs, rfl, f1, f2, f3⟩ := wrd_sq (a1 _ hg)
    exact unp_end ok (x := .non) (kk := 0) (pt := p) (es := []) (setAllW_len _ _ _ _ h1) (f1 _) f3 p4 ((k _ w4) _ _ _ (setAllW_en (I.mono g) f2 h1))
  | none =>
    obtain ⟨ds, rfl, ρ', h1, w4⟩ := wTup_inv (w3 hg)
    cases a2 hg
    obtain ⟨q, vs, rfl, f1, f2⟩ := Dp.tup_inv r2
    exact unp_end ok (x := .non) (kk := 0) (pt := p) (es := []) (setAll_len _ _ _ _ h1) (sqt_mono g.c f1) (dpa_len f2) p4 ((k _ w4) _ _ _ (setAll_en (I.mono g) f2 h1))
end
end Pd

set_option Elab.async false
set_option linter.all false
set_option maxRecDepth 100000
set_option maxHeartbeats 4000000
namespace Pd
open PySem L2
section
variable {G : Ga} {cf : Cf} {X : Cx} {a b c t : T} {e : Expr} {s : S} {ss sa sb : Ss}
def OkS (G : Ga) (s : S) : Prop := ∀ cf X st, XOK X cf G → (∀ n, X.fn n = true) → chkS cf s st = true → SS X G s st
def OkSs (G : Ga) (ss : Ss) : Prop := ∀ cf X sts, XOK X cf G → (∀ n, X.fn n = true) → chkSs cf ss sts = true → SSs X G ss sts
def OkF (G : Ga) (s : S) : Prop := ∀ i, s = .fz i ∨ ∀ cf ss sts, chkSs cf (.cons s ss) sts = true → ∃ st r, sts = st :: r ∧ chkS cf s st = true ∧ chkSs cf ss r = true
theorem asg2 {tg g2 : Expr} {gs : List Expr} {p : Pos} : chkS cf s (.Assign (tg :: g2 :: gs) e p) = false := by
  cases s <;> cases tg <;> first | rfl | (rename_i v sl ps; cases v <;> rfl)
theorem q_set (i : Nat) (t : T) : OkS G (.set i t) := by
  intro cf X st ok fn h
  cases st <;> first | (simp only [chkS, Bool.false_eq_true] at h; done) | skip
  rename_i tgs e p
  rcases tgs with _ | ⟨tg, _ | ⟨g2, gs⟩⟩ <;> first | (rw [asg2] at h; exact no h) | (simp only [chkS, Bool.false_eq_true] at h; done) | skip
  · cases tg <;> first | (simp only [chkS, Bool.false_eq_true] at h; done) | skip
    simp only [chkS, Bool.and_eq_true, Bool.or_eq_true] at h
    obtain ⟨h1, h2 | h2⟩ := h
    · exact t_set ok fn h1 h2.2 ((okk G t).e _ _ _ ok h2.1)
    · intro M Hb0 H0 Hb H σ ρ P D I w k
      refine t_lc ok fn h1 h2 Hb H σ ρ (fun d => P (.nx (ρ.set i (some (.dat d))))) D I.en w fun ds p vs Hb' H' w1 g hp hb hl r => ?_
      by_cases hi : i < ρ.length
      · exact fin_new I k hi w1 g hp hb hl r
      · have e1 : ρ.set i (some (.dat (.list ds))) = ρ := List.set_eq_of_length_le (by omega)
        have e2 : σ.set i (some (V.ref p)) = σ := List.set_eq_of_length_le (by rw [I.en.len]; omega)
        rw [e1] at w1
        rw [e2]
        exact (k _ w1) _ _ _ (I.mono g)
theorem q_mk (i : Nat) (t : T) : OkS G (.mk i t) := by
  intro cf X st ok fn h
  cases st <;> first | (simp only [chkS, Bool.false_eq_true] at h; done) | skip
  rename_i tgs e p
  rcases tgs with _ | ⟨tg, _ | ⟨g2, gs⟩⟩ <;> first | (rw [asg2] at h; exact no h) | (simp only [chkS, Bool.false_eq_true] at h; done) | skip
  · cases tg <;> first | (simp only [chkS, Bool.false_eq_true] at h; done) | skip
    simp only [chkS, Bool.and_eq_true, Bool.or_eq_true] at h
    obtain ⟨⟨h1, h3⟩, h2 | h2⟩ := h
    · exact t_mk ok fn h1 h2.2 ((okk G t).f _ _ _ ok h2.1 h3)
    · intro M Hb0 H0 Hb H σ ρ P D I w k
      refine t_lc ok fn h1 h2 Hb H σ ρ (fun d => wList d fun ds => P (.nx (ρ.set i (some (.own ds))))) D I.en w fun ds p vs Hb' H' w1 g hp hb hl r => ?_
      exact fin_own I k w1 g hp hb hl r
theorem q_unp (is : List Nat) (t : T) : OkS G (.unp is t) := by
  intro cf X st ok fn h
  cases st <;> first | (simp only [chkS, Bool.false_eq_true] at h; done) | skip
  rename_i tgs e p
  rcases tgs with _ | ⟨tg, _ | ⟨g2, gs⟩⟩ <;> first | (rw [asg2] at h; exact no h) | (simp only [chkS, Bool.false_eq_true] at h; done) | skip
  · cases tg <;> first | (simp only [chkS, Bool.false_eq_true] at h; done) | skip
    simp only [chkS, Bool.and_eq_true] at h
    exact t_unp ok fn h.1.1.1 h.1.2 ((okk G t).e _ _ _ ok h.1.1.2)
theorem q_unpw (is : List Nat) (n : Nat) (t : T) : OkS G (.unpw is n t) := by
  intro cf X st ok fn h
  cases st <;> first | (simp only [chkS, Bool.false_eq_true] at h; done) | skip
  rename_i tgs e p
  rcases tgs with _ | ⟨tg, _ | ⟨g2, gs⟩⟩ <;> first | (rw [asg2] at h; exact no h) | (simp only [chkS, Bool.false_eq_true] at h; done) | skip
  · cases tg <;> first | (simp only [chkS, Bool.false_eq_true] at h; done) | skip
    cases e <;> first | (simp only [chkS, Bool.false_eq_true] at h; done) | skip
    rename_i o y p2
    cases o <;> first | (simp only [chkS, Bool.false_eq_true] at h; done) | skip
    simp only [chkS, Bool.and_eq_true] at h
    exact t_unpw ok fn h.1.1.1 h.1.1.2 h.2 ((okk G t).e _ _ _ ok h.1.2)
theorem q_unpg (is : List Nat) (n : Nat) (t d : T) : OkS G (.unpg is n t d) := by
  intro cf X st ok fn h
  cases st <;> first | (simp only [chkS, Bool.false_eq_true] at h; done) | skip
  rename_i tgs e p
  rcases tgs with _ | ⟨tg, _ | ⟨g2, gs⟩⟩ <;> first | (rw [asg2] at h; exact no h) | (simp only [chkS, Bool.false_eq_true] at h; done) | skip
  · cases tg <;> first | (simp only [chkS, Bool.false_eq_true] at h; done) | skip
    cases e <;> first | (simp only [chkS, Bool.false_eq_true] at h; done) | skip
    rename_i f args kws p2
    cases f <;> first | (simp only [chkS, Bool.false_eq_true] at h; done) | skip
    rename_i o m ap
    cases o <;> first | (simp only [chkS, Bool.false_eq_true] at h; done) | skip
    rcases args with _ | ⟨x, _ | ⟨x2, _ | ⟨x3, es⟩⟩⟩ <;> rcases kws with _ | ⟨kw, kws⟩ <;> first | (simp only [chkS, Bool.false_eq_true] at h; done) | skip
    simp only [chkS, Bool.and_eq_true, decide_eq_true_eq] at h
    exact t_unpg ok fn h.1.1.1.1.1.1.1 h.1.1.1.1.1.1.2 h.1.1.1.1.1.2 h.1.1.2 h.1.2 h.2 ((okk G t).e _ _ _ ok h.1.1.1.1.2) ((okk G d).e _ _ _ ok h.1.1.1.2)
theorem q_seti (i : Nat) (a b : T) : OkS G (.seti i a b) := by
  intro cf X st ok fn h
  cases st <;> first | (simp only [chkS, Bool.false_eq_true] at h; done) | skip
  rename_i tgs e p
  rcases tgs with _ | ⟨tg, _ | ⟨g2, gs⟩⟩ <;> first | (rw [asg2] at h; exact no h) | (simp only [chkS, Bool.false_eq_true] at h; done) | skip
  · cases tg <;> first | (simp only [chkS, Bool.false_eq_true] at h; done) | skip
    rename_i o y p2
    cases o <;> first | (simp only [chkS, Bool.false_eq_true] at h; done) | skip
    simp only [chkS, Bool.and_eq_true] at h
    exact t_seti ok h.1.1.1 h.1.2 ((okk G a).e _ _ _ ok h.1.1.2) ((okk G b).e _ _ _ ok h.2)
theorem q_augi (i : Nat) (o : BO) (a b : T) : OkS G (.augi i o a b) := by
  intro cf X st ok fn h
  cases st <;> first | (simp only [chkS, Bool.false_eq_true] at h; done) | skip
  rename_i tg op e p
  cases tg <;> first | (simp only [chkS, Bool.false_eq_true] at h; done) | skip
  rename_i ob y p2
  cases ob <;> first | (simp only [chkS, Bool.false_eq_true] at h; done) | skip
  simp only [chkS, Bool.and_eq_true] at h
  exact t_augi ok h.1.1.1.1.1 h.1.1.1.1.2 h.1.1.1.2 h.1.2 ((okk G a).e _ _ _ ok h.1.1.2) ((okk G b).e _ _ _ ok h.2)
theorem q_aug (i : Nat) (o : BO) (t : T) : OkS G (.aug i o t) := by
  intro cf X st ok fn h
  cases st <;> first | (simp only [chkS, Bool.false_eq_true] at h; done) | skip
  rename_i tg op e p
  cases tg <;> first | (simp only [chkS, Bool.false_eq_true] at h; done) | skip
  simp only [chkS, Bool.and_eq_true] at h
  exact t_aug ok fn h.1.1.1 h.1.1.2 h.1.2 ((okk G t).e _ _ _ ok h.2)
theorem q_app (i : Nat) (t : T) : OkS G (.app i t) := by
  intro cf X st ok fn h
  cases st <;> first | (simp only [chkS, Bool.false_eq_true] at h; done) | skip
  rename_i e p
  cases e <;> first | (simp only [chkS, Bool.false_eq_true] at h; done) | skip
  rename_i f args kws p
  cases f <;> first | (simp only [chkS, Bool.false_eq_true] at h; done) | skip
  rename_i o m ap
  cases o <;> first | (simp only [chkS, Bool.false_eq_true] at h; done) | skip
  rcases args with _ | ⟨x, _ | ⟨x2, es⟩⟩ <;> rcases kws with _ | ⟨kw, kws⟩ <;> first | (simp only [chkS, Bool.false_eq_true] at h; done) | skip
  simp only [chkS, Bool.and_eq_true, decide_eq_true_eq] at h
  exact t_app ok h.1.1.1.1 h.1.1.1.2 h.1.2 h.2 ((okk G t).e _ _ _ ok h.1.1.2)
theorem q_ext (i : Nat) (t : T) : OkS G (.ext i t) := by
  intro cf X st ok fn h
  cases st <;> first | (simp only [chkS, Bool.false_eq_true] at h; done) | skip
  rename_i e p
  cases e <;> first | (simp only [chkS, Bool.false_eq_true] at h; done) | skip
  rename_i f args kws p
  cases f <;> first | (simp only [chkS, Bool.false_eq_true] at h; done) | skip
  rename_i o m ap
  cases o <;> first | (simp only [chkS, Bool.false_eq_true] at h; done) | skip
  rcases args with _ | ⟨x, _ | ⟨x2, es⟩⟩ <;> rcases kws with _ | ⟨kw, kws⟩ <;> first | (simp only [chkS, Bool.false_eq_true] at h; done) | skip
  simp only [chkS, Bool.and_eq_true, decide_eq_true_eq] at h
  exact t_ext ok h.1.1.1.1.1 h.1.1.1.1.2 h.1.2 h.2 ((okk G t).f _ _ _ ok h.1.1.2 h.1.1.1.2)
theorem q_cati (i : Nat) (t : T) : OkS G (.cati i t) := by
  intro cf X st ok fn h
  cases st <;> first | (simp only [chkS, Bool.false_eq_true] at h; done) | skip
  rename_i tgs e p
  rcases tgs with _ | ⟨tg, _ | ⟨g2, gs⟩⟩ <;> first | (rw [asg2] at h; exact no h) | (simp only [chkS, Bool.false_eq_true] at h; done) | skip
  · cases tg <;> first | (simp only [chkS, Bool.false_eq_true] at h; done) | skip
    cases e <;> first | (simp only [chkS, Bool.false_eq_true] at h; done) | skip
    rename_i l op r p2
    cases l <;> first | (simp only [chkS, Bool.false_eq_true] at h; done) | skip
    simp only [chkS, Bool.and_eq_true] at h
    exact t_cati ok fn h.1.1.1.1 h.1.1.1.2 h.1.1.2 ((okk G t).f _ _ _ ok h.2 h.1.2)
theorem q_iff (c : T) (ha : OkSs G sa) (hb : OkSs G sb) : OkS G (.iff c sa sb) := by
  intro cf X st ok fn h
  cases st <;> first | (simp only [chkS, Bool.false_eq_true] at h; done) | skip
  simp only [chkS, Bool.and_eq_true] at h
  exact t_iff ((okk G c).c _ _ _ ok h.1.1) (ha _ _ _ ok fn h.1.2) (hb _ _ _ ok fn h.2)
theorem q_fo (i : Nat) (src : T) (hb : OkSs G sb) : OkS G (.fo i src sb) := by
  intro cf X st ok fn h
  cases st <;> first | (simp only [chkS, Bool.false_eq_true] at h; done) | skip
  rename_i tg iter body els p
  cases tg <;> first | (simp only [chkS, Bool.false_eq_true] at h; done) | skip
  cases els <;> first | (simp only [chkS, Bool.false_eq_true] at h; done) | skip
  simp only [chkS, Bool.and_eq_true] at h
  exact t_for ok fn h.1.1.1 h.1.2 ((okk G src).i _ _ _ _ ok h.1.1.2) (hb _ _ _ ok fn h.2)
theorem q_ret (t : T) : OkS G (.ret t) := by
  intro cf X st ok fn h
  cases st <;> first | (simp only [chkS, Bool.false_eq_true] at h; done) | skip
  rename_i v p
  cases v <;> first | (simp only [chkS, Bool.false_eq_true] at h; done) | skip
  simp only [chkS] at h
  exact t_ret ((okk G t).e _ _ _ ok h)
theorem q_brk : OkS G .brk := by
  intro cf X st ok fn h
  cases st <;> first | (simp only [chkS, Bool.false_eq_true] at h; done) | skip
  exact fun M Hb0 H0 Hb H σ ρ P D I w k => ⟨_, ps_break, (k _ w) _ _ _ I⟩
theorem q_cnt : OkS G .cnt := by
  intro cf X st ok fn h
  cases st <;> first | (simp only [chkS, Bool.false_eq_true] at h; done) | skip
  exact fun M Hb0 H0 Hb H σ ρ P D I w k => ⟨_, ps_continue, (k _ w) _ _ _ I⟩
theorem q_pas : OkS G .pas := by
  intro cf X st ok fn h
  cases st <;> first | (simp only [chkS, Bool.false_eq_true] at h; done) | skip
  exact fun M Hb0 H0 Hb H σ ρ P D I w k => ⟨_, ps_pass, (k _ w) _ _ _ I⟩
theorem q_fz (i : Nat) : OkS G (.fz i) := by
  intro cf X st ok fn h
  cases st <;> simp only [chkS, Bool.false_eq_true] at h
theorem q_nil : OkSs G .nil := by
  intro cf X sts ok fn h
  cases sts with
  | nil => exact fun M Hb0 H0 Hb H σ ρ P D I w k => ⟨_, pss_nil, (k _ w) _ _ _ I⟩
  | cons _ _ => simp only [chkSs, Bool.false_eq_true] at h
theorem q_cons (hs : OkS G s) (hr : OkSs G ss) : OkSs G (.cons s ss) := by
  intro cf X sts ok fn h
  have gen : (∀ sts, chkSs cf (.cons s ss) sts = true → ∃ st r, sts = st :: r ∧ chkS cf s st = true ∧ chkSs cf ss r = true) → SSs X G (.cons s ss) sts := fun f => by
    obtain ⟨st, r, rfl, h1, h2⟩ := f sts h
    intro M Hb0 H0 Hb H σ ρ P D I w k
    refine ⟨_, pss_cons ps_W pss_W, ?_⟩
    refine hs _ _ _ ok fn h1 M Hb0 H0 Hb H σ ρ _ _ I w ?_
    intro o ho
    cases o with
    | nx ρ' => exact fun σ' Hb' H' I' => hr _ _ _ ok fn h2 M Hb0 H0 Hb' H' σ' ρ' P D I' ho k
    | rt d => exact k _ ho
    | bk ρ' => exact k _ ho
    | ct ρ' => exact k _ ho
  have cut : ∀ {s : S}, (∀ i, s ≠ .fz i) → ∀ sts, chkSs cf (.cons s ss) sts = true → ∃ st r, sts = st :: r ∧ chkS cf s st = true ∧ chkSs cf ss r = true := fun {s} n sts h => by
    cases s <;> first | exact absurd rfl (n _) | skip
    all_goals (cases sts with
      | nil => simp only [chkSs, Bool.false_eq_true] at h
      | cons st r =>
        simp only [chkSs, Bool.and_eq_true] at h
        exact ⟨st, r, rfl, h.1, h.2⟩)
  by_cases z : ∃ i, s = .fz i
  · obtain ⟨i, rfl⟩ := z
    simp only [chkSs] at h
    intro M Hb0 H0 Hb H σ ρ P D I w k
    obtain ⟨ds, ho, w1⟩ := wOwn_inv (show wOwn ρ i (fun ds => wSs G ss (ρ.set i (some (.dat (.list ds)))) P) from w)
    obtain ⟨Hb', I'⟩ := I.froz ho
    exact hr _ _ _ ok fn h M Hb0 H0 Hb' H σ _ P D I' w1 k
  · exact gen (cut fun i e => z ⟨i, e⟩)
theorem okss (G : Ga) (ss : Ss) : OkSs G ss := by
  refine Ss.rec (motive_1 := fun s => OkS G s) (motive_2 := fun ss => OkSs G ss) ?_ ?_ ?_ ?_ ?_ ?_ ?_ ?_ ?_ ?_ ?_ ?_ ?_ ?_ ?_ ?_ ?_ ?_ ?_ ?_ ss
  · exact q_set
  · exact q_mk
  · exact q_unp
  · exact q_unpw
  · exact q_unpg
  · exact q_seti
  · exact q_augi
  · exact q_aug
  · exact q_app
  · exact q_ext
  · exact q_cati
  · exact fun c sa sb ha hb => q_iff c ha hb
  · exact fun i src sb hb => q_fo i src hb
  · exact q_ret
  · exact q_brk
  · exact q_cnt
  · exact q_pas
  · exact q_fz
  · exact q_nil
  · exact fun s ss hs hr => q_cons hs hr
end
/-! ### a def -/
def startR (N : List Str) (ds : List PyData) : Rho := ds.map (fun d => some (B.dat d)) ++ List.replicate (N.length - ds.length) none
theorem start_dat {K : PySem.W.Frag} {Hb : Hp} {N : List Str} : ∀ {vs : List V} {ds : List PyData} {i : Nat} {d : PyData}, DpAll K Hb vs ds → (startR N ds)[i]? = some (some (B.dat d)) → ∃ v, (L2.start N vs)[i]? = some (some v) ∧ Dp K Hb v d := fun {vs ds i d} r h => by
  unfold startR at h
  unfold L2.start
  by_cases l : i < ds.length
  · rw [List.getElem?_append_left (by rw [List.length_map]; exact l), List.getElem?_map] at h
    obtain ⟨e, e1, e2⟩ := Option.map_eq_some_iff.mp h
    cases e2
    obtain ⟨v, f1, f2⟩ := dpa_get r e1
    exact ⟨v, by rw [List.getElem?_append_left (by rw [List.length_map, dpa_len r]; exact l), List.getElem?_map, f1]; rfl, f2⟩
  · rw [List.getElem?_append_right (by rw [List.length_map]; omega)] at h
    obtain ⟨_, h2⟩ := List.getElem?_eq_some_iff.mp h
    rw [List.getElem_replicate] at h2
    cases h2
theorem start_own {N : List Str} {ds es : List PyData} {i : Nat} (h : (startR N ds)[i]? = some (some (B.own es))) : False := by
  unfold startR at h
  by_cases l : i < ds.length
  · rw [List.getElem?_append_left (by rw [List.length_map]; exact l), List.getElem?_map] at h
    obtain ⟨e, e1, e2⟩ := Option.map_eq_some_iff.mp h
    cases e2
  · rw [List.getElem?_append_right (by rw [List.length_map]; omega)] at h
    obtain ⟨_, h2⟩ := List.getElem?_eq_some_iff.mp h
    rw [List.getElem_replicate] at h2
    cases h2
theorem start_wri {N : List Str} {ds : List PyData} {e : PyData} {i : Nat} (h : (startR N ds)[i]? = some (some (B.wri e))) : False := by
  unfold startR at h
  by_cases l : i < ds.length
  · rw [List.getElem?_append_left (by rw [List.length_map]; exact l), List.getElem?_map] at h
    obtain ⟨e, e1, e2⟩ := Option.map_eq_some_iff.mp h
    cases e2
  · rw [List.getElem?_append_right (by rw [List.length_map]; omega)] at h
    obtain ⟨_, h2⟩ := List.getElem?_eq_some_iff.mp h
    rw [List.getElem_replicate] at h2
    cases h2
theorem fn_ok {P : Program} {w : World} {K : PySem.W.Frag} {mg : Str → Option Value} {base : Heap} {x qual : Str} {st : Stmt} {f : Addr} {fd : FuncData} {ps : List Str} {cf : Cf} {G : Ga} {body : Ss} {g : List PyData → Option PyData}
    (F : Fun K x qual st f fd) (S : FnScope cf.N ps (defScope st)) (hsc : cf.sc = defScope st) (gok : GOK cf P w K mg base G) (hc : chkSs cf body (defBody st) = true)
    (hw : ∀ ds d, g ds = some d → ds.length = ps.length ∧ wSs G body (startR cf.N ds) (fun o => match o with
      | .rt e => e = d
      | .nx _ => d = .none
      | _ => False)) : FnOk P w K mg base CX0 (cf.L + 1) f fd ps (spD K g) := by
  refine F.ok S (fun vs H Q E h => ?_) (fun cdv A outer s H vs Q E hr h => ?_)
  · obtain ⟨Hb, ds, d, _, h1, h2, _⟩ := h
    rw [dpa_len h1]
    exact (hw ds d h2).1
  · obtain ⟨Hb, ds, d, ex, h1, h2, q⟩ := h
    have ok : XOK (cxOf CX0 P w K mg base cf.N qual (defScope st) f cdv A outer s H E).nox cf G := ⟨rfl, S.nd, hsc.symm, rfl, hr, rfl, gok⟩
    have lens : (L2.start cf.N vs).length = (startR cf.N ds).length := by
      unfold L2.start startR
      rw [List.length_append, List.length_append, List.length_map, List.length_map, List.length_replicate, List.length_replicate, dpa_len h1]
    have I : EnS K Hb Hb H Hb H (L2.start cf.N vs) (startR cf.N ds) :=
      ⟨⟨lens, ex, fun i d e => start_dat h1 e, fun i es e => (start_own e).elim, fun i d e => (start_wri e).elim, fun i j p es fs e _ _ _ => (start_own e).elim⟩, Gr.refl ex, Same.refl _, fun i es p e _ => (start_own e).elim⟩
    have z := okss G body cf _ (defBody st) ok (fun _ => rfl) hc Hb Hb H Hb H (L2.start cf.N vs) (startR cf.N ds) _ { nx := fun _ H' => Q .non H', rt := Q } I (hw ds d h2).2 ?_
    · obtain ⟨t, z1, z2⟩ := z
      exact ⟨t, z1, z2⟩
    · intro o ho
      cases o with
      | nx ρ =>
        have ho : d = .none := ho
        subst ho
        exact fun σ Hb' H' I' => q _ Hb' H' I'.gr .non
      | rt e =>
        have ho : e = d := ho
        subst ho
        exact fun v Hb' H' g r => q v Hb' H' g r
      | bk ρ => exact ho.elim
      | ct ρ => exact ho.elim
theorem GOK.fn_mono {P : Program} {w : World} {K : PySem.W.Frag} {mg : Str → Option Value} {base : Heap} {j k : Nat} {f : Addr} {fd : FuncData} {ps : List Str} {sp : Sp} (h : FnOk P w K mg base CX0 j f fd ps sp) (l : j ≤ k) : FnOk P w K mg base CX0 k f fd ps sp := h.mono l
end Pd

set_option Elab.async false
set_option linter.all false
set_option maxRecDepth 100000
namespace Pd
open PySem L2
/-- the law's own promise: for every script of at most 63 ints the answer is True -/
def spLaw (K : PySem.W.Frag) : Sp := fun vs H Q _ => ∃ (a : Addr) (ns : List Int), vs = [.ref a] ∧ SqL K H a (ns.map V.int) ∧ ns.length ≤ 63 ∧ ∀ H', Q (.bl true) H'
theorem dpa_of_ints {K : PySem.W.Frag} {H : Hp} : ∀ ns : List Int, DpAll K H (ns.map V.int) (ns.map PyData.int)
  | [] => .nil
  | n :: ns => .cons (.int n) (dpa_of_ints ns)
theorem law_of {P : Program} {w : World} {K : PySem.W.Frag} {mg : Str → Option Value} {base : Heap} {k : Nat} {f : Addr} {fd : FuncData} {g : List PyData → Option PyData} (F : FnOk P w K mg base CX0 k f fd ["script"] (spD K g))
    (hg : ∀ ns : List Int, ns.length ≤ 63 → g [.list (ns.map PyData.int)] = some (.bool true)) : FnOk P w K mg base CX0 k f fd ["script"] (spLaw K) :=
  F.imp fun vs H Q E ⟨a, ns, e, hs, hl, q⟩ => by
    subst e
    exact ⟨H, [.list (ns.map PyData.int)], _, Same.refl _, .cons (.lst hs (dpa_of_ints ns)) .nil, hg ns hl, fun v Hb' H' _ r => by
      cases Dp.bl_inv r
      exact q H'⟩
theorem walk {l : PySem.W.OpenLaw} {q : Program} {loose : List Str} {XP : (Str → Option Value) → Heap → Prop} {YP : World → Heap → Prop} {d : DefRec} {K : Params → PySem.W.Frag} (hn : l.most = some 63) (hdf : d.params.defaults = [])
    (hY : ∀ (w : World) (h : Heap), YP w h → (K w.params).In h)
    (F : ∀ (w : World) (mg : Str → Option Value) (fa : Addr) (h : Heap), (K w.params).In h → h.Ns mainGlobals mg → mg d.name = some (.ref fa) →
      ∃ fd : FuncData, (∀ (s : Shared) (u : Value), BindsTo s fd ⟨[u], []⟩ [("script", u)]) ∧ ∀ base : Heap, (K w.params).In base → base.Ns mainGlobals mg → FnOk l.prog w (K w.params) mg base CX0 30 fa fd ["script"] (spLaw (K w.params))) :
    PySem.W.WalkO q loose XP YP l.row.toRowW d [] (fun f vs => PySem.call f vs) :=
  L2.walk_of (n := 63) (k := 30) (x := "script") (CX := fun _ => CX0) (sp := fun w => spLaw (K w.params)) hn (by decide) hdf ⟨rfl, by decide, by decide⟩ hY F (fun _ _ a ns hl _ hS => ⟨a, ns, rfl, hS, hl, fun _ => rfl⟩) fun _ _ _ _ _ z => z
end Pd

set_option Elab.async false
set_option linter.all false
set_option maxRecDepth 100000
set_option maxHeartbeats 4000000
/-! the head by one kernel run -/
namespace Pd
open PySem PySem.Spec PyProof.Rows L2
theorem ba {a b : Bool} (h : (a && b) = true) : a = true ∧ b = true := Bool.and_eq_true_iff.mp h
/-! ### the head -/
def refsP (o : Obj) : List Addr := He.refsD o ++ match o.data with
  | .dict es _ => es.toList.flatMap fun e => He.refV e.key
  | _ => []
def growP (g : Addr → Option Obj) (as : List Addr) : List Addr := (as ++ as.flatMap fun a => match g a with
  | some o => refsP o
  | none => []).eraseDups
def asP (g : Addr → Option Obj) : Nat → List Addr
  | 0 => [mainGlobals]
  | n + 1 => growP g (asP g n)
abbrev AlP : Type := Bool × List He.FnW
def obsP (fa : List He.Fa) (fn : List He.DefD) (ex : PySem.W.Frag → Bool) (K : PySem.W.Frag) : AlP := (((fa.all fun f => f.ok K) && fn.all fun d => d.ok K) && ex K, fn.map fun d => He.fnW K d.at_)
def valP (fn : List He.DefD) : AlP := (true, fn.map He.DefD.val)
def SaysP (fa : List He.Fa) (fn : List He.DefD) (ex : PySem.W.Frag → Bool) (K : PySem.W.Frag) : Prop := obsP fa fn ex K = valP fn
def obsPG (n : Nat) (fa : List He.Fa) (fn : List He.DefD) (ex : PySem.W.Frag → Bool) (g : Addr → Option Obj) : AlP := obsP fa fn ex (He.frG g (asP g n))
def hookP (n : Nat) (fa : List He.Fa) (fn : List He.DefD) (ex : PySem.W.Frag → Bool) : PySem.W.Hook where
  α := AlP
  obs := fun s => obsPG n fa fn ex s.heap.get?
  val := fun _ => valP fn
  says := fun _ h => ∃ K : PySem.W.Frag, K.In h ∧ SaysP fa fn ex K
  of := fun _ _ e => ⟨_, He.frG_in, e⟩
  keeps := fun _ _ _ ⟨K, hK, c⟩ k => ⟨K, PySem.W.Frag.In.keeps hK k, c⟩
theorem obsPG_eq {n : Nat} {fa : List He.Fa} {fn : List He.DefD} {ex : PySem.W.Frag → Bool} {g : Addr → Option Obj} {s : Shared} (h : ∀ a, g a = s.heap.get? a) : obsPG n fa fn ex g = (hookP n fa fn ex).obs s := by
  have e : g = s.heap.get? := funext h
  rw [e] <;> rfl
section
variable {fa : List He.Fa} {fn : List He.DefD} {ex : PySem.W.Frag → Bool} {K : PySem.W.Frag}
theorem SaysP.d (c : SaysP fa fn ex K) : He.SaysD fa fn K := by
  have h1 : (((fa.all fun f => f.ok K) && fn.all fun d => d.ok K) && ex K) = true := congrArg (fun z : AlP => z.1) c
  have h2 : (fn.map fun d => He.fnW K d.at_) = fn.map He.DefD.val := congrArg (fun z : AlP => z.2) c
  exact Prod.ext (ba h1).1 h2
theorem SaysP.more (c : SaysP fa fn ex K) : ex K = true := (ba (congrArg (fun z : AlP => z.1) c : (((fa.all fun f => f.ok K) && fn.all fun d => d.ok K) && ex K) = true)).2
end
/-- a def of the top, of no default -/
def defD (i : Str) (st : Stmt) : He.DefD := ⟨(i, none), i, i, defArgs st, defBody st, defScope st, [], []⟩
theorem funOf {K : PySem.W.Frag} {x q : Str} {st : Stmt} {f : Addr} {fd : FuncData} (F : FunD K x q (defArgs st) (defBody st) (defScope st) [] [] f fd) : Fun K x q st f fd := by
  obtain ⟨oc, od, dV, kV, doc, pm, an, cdv, ct, osl, rfl, lk, hcd, d1, d2⟩ := F.ex
  have e : dV = .none := by
    rcases d1 with ⟨_, e⟩ | ⟨e, _⟩
    · exact e
    · exact absurd rfl e
  subst e
  exact ⟨⟨oc, od, kV, doc, pm, an, cdv, ct, osl, rfl, lk, hcd⟩, F.kp⟩
end Pd

set_option Elab.async false
set_option linter.all false
set_option maxRecDepth 100000
set_option maxHeartbeats 4000000
/-! Pd: a weakest-precondition calculus over plain data for pure defs, checked against their text and sound over the hand layer. -/
namespace Qd
open PySem L2

inductive BO where
  | add | sub | mul | div | mod | pow
  deriving DecidableEq
inductive CO where
  | lt | le | gt | ge | eq | ne
  deriving DecidableEq
inductive Bl where
  | len | int | abs | divm | sum | tuple | list | min | max | sorted
  deriving DecidableEq

mutual
inductive T where
  | v (i : Nat)
  | k (c : PyData)
  | gl (n : Nat)
  | bin (o : BO) (a b : T)
  | neg (a : T)
  | cmp (o : CO) (a b : T)
  | chain (o o' : CO) (a b c : T)
  | isN (a : T)
  | notN (a : T)
  | isin (a b : T)
  | notin (a b : T)
  | and (a b : T)
  | or (a b : T)
  | not (a : T)
  | ite (c a b : T)
  | tup (ts : Ts)
  | lst (ts : Ts)
  | ix (a b : T)
  | sl (a : T) (lo hi : Option Int)
  | cat (a b : T)
  | call (f : Nat) (ts : Ts)
  | blt (b : Bl) (ts : Ts)
  | idx (a b : T)
  | tidx (i : Nat) (b : T)
  | lc (i : Nat) (src elt : T)
  | lci (i : Nat) (src c elt : T)
  | lco (i j : Nat) (elt : T)
  | rg1 (a : T)
  | rg2 (a b : T)
  | x (k : Nat) (a : T) (ts : Ts)
  | dc (i : Nat) (src key val : T)
inductive Ts where
  | nil
  | cons (t : T) (ts : Ts)
end

inductive B where
  | dat (d : PyData)
  | own (ds : List PyData)
  | wri (d : PyData)
  | odc (t : Nat) (ds : List (PyData × PyData))
def isOw : B → Bool
  | .own _ => true
  | .odc _ _ => true
  | _ => false
abbrev Rho := List (Option B)

/-- what the globals mean: constants, pure defs, written dicts -/
structure Ga where
  con : Nat → Option PyData
  isFn : Nat → Bool
  fn : Nat → List PyData → Option PyData
  isTab : Nat → Bool
  tab : Nat → PyData → Option PyData
  pre : Nat → PyData → Prop
  ext : Nat → List PyData → (PyData → Prop) → Prop

mutual
/-- no dict, no object within -/
def plainD : PyData → Bool
  | .none => true
  | .bool _ => true
  | .int _ => true
  | .str _ => true
  | .list ds => plainDs ds
  | .tuple ds => plainDs ds
  | .dict _ => false
termination_by structural d => d
def plainDs : List PyData → Bool
  | [] => true
  | d :: ds => plainD d && plainDs ds
termination_by structural d => d
end
def opI (o : BO) (i j : Int) (Q : PyData → Prop) : Prop := match o with
  | .add => Q (.int (i + j))
  | .sub => Q (.int (i - j))
  | .mul => CMul i j ∧ Q (.int (i * j))
  | .div => CDiv i j ∧ Q (.int (i / j))
  | .mod => 0 < j ∧ Q (.int (i % j))
  | .pow => CPow i j ∧ Q (.int (i ^ j.toNat))
def wBin (o : BO) (x y : PyData) (Q : PyData → Prop) : Prop := match x, y with
  | .int i, .int j => opI o i j Q
  | _, _ => False
def wNeg (x : PyData) (Q : PyData → Prop) : Prop := match x with
  | .int i => Q (.int (-i))
  | _ => False
def wCmp (o : CO) (x y : PyData) (Q : Bool → Prop) : Prop := match o with
  | .eq => (SeqAt.shaped x = true ∧ SeqAt.shaped y = true ∧ plainD x = true ∧ plainD y = true) ∧ Q (PyData.eqv x y)
  | .ne => (SeqAt.shaped x = true ∧ SeqAt.shaped y = true ∧ plainD x = true ∧ plainD y = true) ∧ Q (!PyData.eqv x y)
  | .lt => match x, y with
    | .int i, .int j => Q (decide (i < j))
    | _, _ => False
  | .le => match x, y with
    | .int i, .int j => Q (decide (i ≤ j))
    | _, _ => False
  | .gt => match x, y with
    | .int i, .int j => Q (decide (j < i))
    | _, _ => False
  | .ge => match x, y with
    | .int i, .int j => Q (decide (j ≤ i))
    | _, _ => False
def isNone : PyData → Bool
  | .none => true
  | _ => false
def wBool (x : PyData) (Q : Bool → Prop) : Prop := match x with
  | .bool b => Q b
  | _ => False
def flatD : PyData → Bool
  | .none => true
  | .bool _ => true
  | .int _ => true
  | .str _ => true
  | _ => false
/-- x in ys: a list of data, a tuple of flat things -/
def wIn (x y : PyData) (Q : Bool → Prop) : Prop := match y with
  | .list ds => (SeqAt.shaped x = true ∧ SeqAt.shaped (.list ds) = true ∧ plainD x = true ∧ plainDs ds = true) ∧ Q (ds.any fun z => PyData.eqv z x)
  | .tuple ds => flatD x = true ∧ ds.all flatD = true ∧ Q (ds.any fun z => PyData.eqv z x)
  | _ => False
def wIx (x y : PyData) (Q : PyData → Prop) : Prop := match x, y with
  | .list ds, .int i => ∃ d, atI ds i = some d ∧ Q d
  | .tuple ds, .int i => ∃ d, atI ds i = some d ∧ Q d
  | _, _ => False
def cutD (xs : List PyData) (lo hi : Option Int) : List PyData := (xs.drop (HT.sIx xs.length 0 lo)).take (HT.sIx xs.length xs.length hi - HT.sIx xs.length 0 lo)
def wSl (x : PyData) (lo hi : Option Int) (Q : PyData → Prop) : Prop := match x with
  | .list ds => Q (.list (cutD ds lo hi))
  | .tuple ds => ¬ (HT.sIx ds.length 0 lo = 0 ∧ HT.sIx ds.length ds.length hi = ds.length) ∧ Q (.tuple (cutD ds lo hi))
  | _ => False
def wCat (x y : PyData) (Q : PyData → Prop) : Prop := match x, y with
  | .tuple ds, .tuple es => ds ≠ [] ∧ es ≠ [] ∧ ds.length + es.length ≤ 100000 ∧ Q (.tuple (ds ++ es))
  | _, _ => False
def ints? : List PyData → Option (List Int)
  | [] => some []
  | .int i :: r => (ints? r).map (i :: ·)
  | _ :: _ => none
def w_len (ds : List PyData) (Q : PyData → Prop) : Prop := match ds with
  | [.list xs] => Q (.int xs.length)
  | [.tuple xs] => Q (.int xs.length)
  | _ => False
def w_int (ds : List PyData) (Q : PyData → Prop) : Prop := match ds with
  | [.int i] => Q (.int i)
  | [.bool c] => Q (.int (if c = true then 1 else 0))
  | _ => False
def w_abs (ds : List PyData) (Q : PyData → Prop) : Prop := match ds with
  | [.int i] => Q (.int (if i < 0 then -i else i))
  | _ => False
def w_divm (ds : List PyData) (Q : PyData → Prop) : Prop := match ds with
  | [.int i, .int j] => CDiv i j ∧ Q (.tuple [.int (i / j), .int (i % j)])
  | _ => False
def w_sum (ds : List PyData) (Q : PyData → Prop) : Prop := match ds with
  | [.list xs] => ∃ ns : List Int, xs = ns.map PyData.int ∧ Q (.int ns.sum)
  | _ => False
def w_tuple (ds : List PyData) (Q : PyData → Prop) : Prop := match ds with
  | [.list xs] => Q (.tuple xs)
  | [.tuple xs] => Q (.tuple xs)
  | _ => False
def w_list (ds : List PyData) (Q : PyData → Prop) : Prop := match ds with
  | [.list xs] => Q (.list xs)
  | [.tuple xs] => Q (.list xs)
  | _ => False
def w_min (ds : List PyData) (Q : PyData → Prop) : Prop := match ds with
  | [.int i, .int j] => Q (.int (if j < i then j else i))
  | _ => False
def w_max (ds : List PyData) (Q : PyData → Prop) : Prop := match ds with
  | [.int i, .int j] => Q (.int (if j > i then j else i))
  | _ => False
/-- sorted(xs) of data of one form -/
def w_sorted (ds : List PyData) (Q : PyData → Prop) : Prop := match ds with
  | [.list xs] => PySem.W.AllAlike xs ∧ PySem.W.Sortable xs ∧ xs.length ≤ 100000 ∧ (∀ d ∈ xs, d.depth ≤ 60) ∧ plainDs xs = true ∧ Q (.list (xs.mergeSort (PySem.W.dataLe false id)))
  | [.tuple xs] => PySem.W.AllAlike xs ∧ PySem.W.Sortable xs ∧ xs.length ≤ 100000 ∧ (∀ d ∈ xs, d.depth ≤ 60) ∧ plainDs xs = true ∧ Q (.list (xs.mergeSort (PySem.W.dataLe false id)))
  | _ => False
def wBl (b : Bl) (ds : List PyData) (Q : PyData → Prop) : Prop := match b with
  | .len => w_len ds Q
  | .int => w_int ds Q
  | .abs => w_abs ds Q
  | .divm => w_divm ds Q
  | .sum => w_sum ds Q
  | .tuple => w_tuple ds Q
  | .list => w_list ds Q
  | .min => w_min ds Q
  | .max => w_max ds Q
  | .sorted => w_sorted ds Q
def wList (x : PyData) (Q : List PyData → Prop) : Prop := match x with
  | .list ds => Q ds
  | _ => False
/-- xs.index(x): the first place -/
def wIdx (ds : List PyData) (y : PyData) (Q : PyData → Prop) : Prop :=
  (SeqAt.shaped (.list ds) = true ∧ SeqAt.shaped y = true ∧ plainDs ds = true ∧ plainD y = true) ∧ ∃ (j : Nat) (z : PyData), ds[j]? = some z ∧ PyData.eqv z y = true ∧ (∀ (m : Nat) (z' : PyData), m < j → ds[m]? = some z' → PyData.eqv z' y = false) ∧ Q (.int (j : Nat))
/-- t.index(n), t a written tuple of ints: the first place -/
def wTidx (x y : PyData) (Q : PyData → Prop) : Prop := match x with
  | .tuple ds => ∃ (ns : List Int) (n : Int) (j : Nat), ds = ns.map PyData.int ∧ y = .int n ∧ ns[j]? = some n ∧ (∀ m, m < j → ns[m]? ≠ some n) ∧ Q (.int (j : Nat))
  | _ => False
def wSeq (x : PyData) (Q : List PyData → Prop) : Prop := match x with
  | .list ds => Q ds
  | .tuple ds => Q ds
  | _ => False
def intsUp (lo : Int) (n : Nat) : List PyData := (List.range n).map fun (k : Nat) => PyData.int (lo + (k : Int))
def wRg (lo hi : Int) (Q : List PyData → Prop) : Prop := (-1000000 ≤ lo ∧ lo ≤ 1000000 ∧ -1000000 ≤ hi ∧ hi ≤ 1000000) ∧ Q (intsUp lo (hi - lo).toNat)
def lcW (step : PyData → (Option PyData → Prop) → Prop) : List PyData → List PyData → (List PyData → Prop) → Prop
  | [], acc, Q => Q acc
  | x :: xs, acc, Q => step x fun o => match o with
    | some y => acc.length < 100000 ∧ lcW step xs (acc ++ [y]) Q
    | none => lcW step xs acc Q

def dkey : PyData → Option (Int ⊕ Str)
  | .int i => some (.inl i)
  | .str x => some (.inr x)
  | _ => none
def putD (ds : List (PyData × PyData)) (k v : PyData) : List (PyData × PyData) :=
  if (ds.any fun p => decide (dkey p.1 = dkey k)) = true then ds.map (fun p => if dkey p.1 = dkey k then (p.1, v) else p) else ds ++ [(k, v)]
def dcW (step : PyData → (PyData → PyData → Prop) → Prop) : List PyData → List (PyData × PyData) → (List (PyData × PyData) → Prop) → Prop
  | [], acc, Q => Q acc
  | x :: xs, acc, Q => step x fun k y => (dkey k).isSome = true ∧ acc.length < 100000 ∧ dcW step xs (putD acc k y) Q

mutual
def wE (G : Ga) : T → Rho → (PyData → Prop) → Prop
  | .v i, ρ, Q => match ρ[i]? with
    | some (some (.dat d)) => Q d
    | some (some (.wri d)) => Q d
    | _ => False
  | .k c, _, Q => Q c
  | .gl n, _, Q => ∃ d, G.con n = some d ∧ Q d
  | .bin o a b, ρ, Q => wE G a ρ fun x => wE G b ρ fun y => wBin o x y Q
  | .neg a, ρ, Q => wE G a ρ fun x => wNeg x Q
  | .cmp o a b, ρ, Q => wE G a ρ fun x => wE G b ρ fun y => wCmp o x y fun c => Q (.bool c)
  | .chain o o' a b c, ρ, Q => wE G a ρ fun x => wE G b ρ fun y => wCmp o x y fun k => (k = true → wE G c ρ fun z => wCmp o' y z fun c => Q (.bool c)) ∧ (k = false → Q (.bool false))
  | .isN a, ρ, Q => wE G a ρ fun x => Q (.bool (isNone x))
  | .notN a, ρ, Q => wE G a ρ fun x => Q (.bool (!isNone x))
  | .isin a b, ρ, Q => wE G a ρ fun x => wE G b ρ fun y => wIn x y fun c => Q (.bool c)
  | .notin a b, ρ, Q => wE G a ρ fun x => wE G b ρ fun y => wIn x y fun c => Q (.bool (!c))
  | .and a b, ρ, Q => wE G a ρ fun x => wBool x fun c => (c = true → wE G b ρ fun y => wBool y fun d => Q (.bool d)) ∧ (c = false → Q (.bool false))
  | .or a b, ρ, Q => wE G a ρ fun x => wBool x fun c => (c = true → Q (.bool true)) ∧ (c = false → wE G b ρ fun y => wBool y fun d => Q (.bool d))
  | .not a, ρ, Q => wE G a ρ fun x => wBool x fun c => Q (.bool (!c))
  | .ite c a b, ρ, Q => wE G c ρ fun x => wBool x fun c => (c = true → wE G a ρ Q) ∧ (c = false → wE G b ρ Q)
  | .tup ts, ρ, Q => wEs G ts ρ fun ds => ds.length ≤ 100000 ∧ Q (.tuple ds)
  | .lst ts, ρ, Q => wEs G ts ρ fun ds => ds.length ≤ 100000 ∧ Q (.list ds)
  | .ix a b, ρ, Q => wE G a ρ fun x => wE G b ρ fun y => wIx x y Q
  | .sl a lo hi, ρ, Q => wE G a ρ fun x => wSl x lo hi Q
  | .cat a b, ρ, Q => wE G a ρ fun x => wE G b ρ fun y => wCat x y Q
  | .call f ts, ρ, Q => G.isFn f = true ∧ wEs G ts ρ fun ds => ∃ d, G.fn f ds = some d ∧ Q d
  | .blt b ts, ρ, Q => wEs G ts ρ fun ds => wBl b ds Q
  | .idx a b, ρ, Q => wE G a ρ fun x => wList x fun ds => wE G b ρ fun y => wIdx ds y Q
  | .tidx i b, ρ, Q => match ρ[i]? with
    | some (some (.wri (.tuple ds))) => wE G b ρ fun y => wTidx (.tuple ds) y Q
    | _ => False
  | .lc i src elt, ρ, Q => wI G src ρ fun xs => lcW (fun x R => wE G elt (ρ.set i (some (.dat x))) fun y => R (some y)) xs [] fun ys => Q (.list ys)
  | .lci i src c elt, ρ, Q => wI G src ρ fun xs => lcW (fun x R => wE G c (ρ.set i (some (.dat x))) fun z => wBool z fun k => (k = true → wE G elt (ρ.set i (some (.dat x))) fun y => R (some y)) ∧ (k = false → R none)) xs [] fun ys => Q (.list ys)
  | .lco i j elt, ρ, Q => match ρ[j]? with
    | some (some (.own ds)) => lcW (fun x R => wE G elt (ρ.set i (some (.dat x))) fun y => R (some y)) ds [] fun ys => Q (.list ys)
    | _ => False
  | .rg1 _, _, _ => False
  | .rg2 _ _, _, _ => False
  | .x k a ts, ρ, Q => wE G a ρ fun d => G.pre k d ∧ wEs G ts ρ fun ds => G.ext k (d :: ds) Q
  | .dc i src key val, ρ, Q => wI G src ρ fun xs => dcW (fun x R => wE G key (ρ.set i (some (.dat x))) fun k => wE G val (ρ.set i (some (.dat x))) fun y => R k y) xs [] fun ds => Q (.dict ((.none, .int 0) :: ds))
def wI (G : Ga) : T → Rho → (List PyData → Prop) → Prop
  | .rg1 a, ρ, Q => wE G a ρ fun x => match x with
    | .int n => wRg 0 n Q
    | _ => False
  | .rg2 a b, ρ, Q => wE G a ρ fun x => wE G b ρ fun y => match x, y with
    | .int m, .int n => wRg m n Q
    | _, _ => False
  | .v i, ρ, Q => match ρ[i]? with
    | some (some (.dat d)) => wSeq d Q
    | some (some (.wri d)) => wSeq d Q
    | _ => False
  | .gl n, _, Q => ∃ d, G.con n = some d ∧ wSeq d Q
  | .lst ts, ρ, Q => wEs G ts ρ fun ds => ds.length ≤ 100000 ∧ Q ds
  | .tup ts, ρ, Q => wEs G ts ρ fun ds => ds.length ≤ 100000 ∧ Q ds
  | .ix a b, ρ, Q => wE G a ρ fun x => wE G b ρ fun y => wIx x y fun d => wSeq d Q
  | .call f ts, ρ, Q => G.isFn f = true ∧ wEs G ts ρ fun ds => ∃ d, G.fn f ds = some d ∧ wSeq d Q
  | .x k a ts, ρ, Q => wE G a ρ fun d => G.pre k d ∧ wEs G ts ρ fun ds => G.ext k (d :: ds) fun d => wSeq d Q
  | _, _, _ => False
def wEs (G : Ga) : Ts → Rho → (List PyData → Prop) → Prop
  | .nil, _, Q => Q []
  | .cons t ts, ρ, Q => wE G t ρ fun d => wEs G ts ρ fun ds => Q (d :: ds)
end

mutual
inductive S where
  | set (i : Nat) (t : T)
  | mk (i : Nat) (t : T)
  | unp (is : List Nat) (t : T)
  | unpw (is : List Nat) (n : Nat) (k : T)
  | unpg (is : List Nat) (n : Nat) (k d : T)
  | seti (i : Nat) (a b : T)
  | augi (i : Nat) (o : BO) (a b : T)
  | aug (i : Nat) (o : BO) (t : T)
  | app (i : Nat) (t : T)
  | ext (i : Nat) (t : T)
  | cati (i : Nat) (t : T)
  | iff (c : T) (a b : Ss)
  | fo (i : Nat) (src : T) (b : Ss)
  | fou (is : List Nat) (src : T) (b : Ss)
  | ret (t : T)
  | brk
  | cnt
  | pas
  | fz (i : Nat)
  | dead
inductive Ss where
  | nil
  | cons (s : S) (ss : Ss)
end
inductive O where
  | nx (ρ : Rho)
  | rt (d : PyData)
  | bk (ρ : Rho)
  | ct (ρ : Rho)
def setAll : List Nat → List PyData → Rho → Option Rho
  | [], [], ρ => some ρ
  | i :: is, d :: ds, ρ => setAll is ds (ρ.set i (some (.dat d)))
  | _, _, _ => none
def setAllW : List Nat → List PyData → Rho → Option Rho
  | [], [], ρ => some ρ
  | i :: is, d :: ds, ρ => setAllW is ds (ρ.set i (some (.wri d)))
  | _, _, _ => none
def isKey : PyData → Bool
  | .int _ => true
  | .tuple ds => ds.all fun d => match d with
    | .int _ => true
    | _ => false
  | _ => false
def kindB : PyData → PyData → Bool
  | .int _, .int _ => true
  | .tuple _, .tuple _ => true
  | _, _ => false
def wOwn (ρ : Rho) (i : Nat) (Q : List PyData → Prop) : Prop := match ρ[i]? with
  | some (some (.own ds)) => Q ds
  | _ => False
def wDat (ρ : Rho) (i : Nat) (Q : PyData → Prop) : Prop := match ρ[i]? with
  | some (some (.dat d)) => Q d
  | _ => False
def forW (body : PyData → Rho → (O → Prop) → Prop) : List PyData → Rho → (O → Prop) → Prop
  | [], ρ, Q => Q (.nx ρ)
  | x :: xs, ρ, Q => body x ρ fun o => match o with
    | .nx ρ' => forW body xs ρ' Q
    | .ct ρ' => forW body xs ρ' Q
    | .bk ρ' => Q (.nx ρ')
    | .rt d => Q (.rt d)
def isFresh : T → Bool
  | .lst _ => true
  | .lc _ _ _ => true
  | .lci _ _ _ _ => true
  | .lco _ _ _ => true
  | .blt .list _ => true
  | _ => false
def wInt (x : PyData) (Q : Int → Prop) : Prop := match x with
  | .int i => Q i
  | _ => False
def wTup (x : PyData) (Q : List PyData → Prop) : Prop := match x with
  | .tuple ds => Q ds
  | _ => False
mutual
def wS (G : Ga) : S → Rho → (O → Prop) → Prop
  | .set i t, ρ, Q => wE G t ρ fun d => Q (.nx (ρ.set i (some (.dat d))))
  | .mk i t, ρ, Q => wE G t ρ fun d => wList d fun ds => Q (.nx (ρ.set i (some (.own ds))))
  | .unp is t, ρ, Q => wE G t ρ fun d => wTup d fun ds => ∃ ρ', setAll is ds ρ = some ρ' ∧ Q (.nx ρ')
  | .unpw is n k, ρ, Q => G.isTab n = true ∧ wE G k ρ fun x => ∃ d, G.tab n x = some d ∧ wTup d fun ds => ∃ ρ', setAllW is ds ρ = some ρ' ∧ Q (.nx ρ')
  | .unpg is n k d, ρ, Q => G.isTab n = true ∧ wE G k ρ fun x => wE G d ρ fun y => isKey x = true ∧ (∃ x' d', G.tab n x' = some d' ∧ kindB x x' = true) ∧ (∀ e, G.tab n x = some e → wTup e fun ds => ∃ ρ', setAllW is ds ρ = some ρ' ∧ Q (.nx ρ')) ∧ (G.tab n x = none → wTup y fun ds => ∃ ρ', setAll is ds ρ = some ρ' ∧ Q (.nx ρ'))
  | .seti i a b, ρ, Q => wE G b ρ fun y => wOwn ρ i fun ds => wE G a ρ fun x => wInt x fun k => ∃ j, ixN ds.length k = some j ∧ Q (.nx (ρ.set i (some (.own (ds.set j y)))))
  | .augi i o a b, ρ, Q => wOwn ρ i fun ds => wE G a ρ fun x => wInt x fun k => ∃ j d, ixN ds.length k = some j ∧ ds[j]? = some d ∧ wE G b ρ fun y => wBin o d y fun z => Q (.nx (ρ.set i (some (.own (ds.set j z)))))
  | .aug i o t, ρ, Q => wDat ρ i fun x => wE G t ρ fun y => wBin o x y fun z => Q (.nx (ρ.set i (some (.dat z))))
  | .app i t, ρ, Q => wOwn ρ i fun ds => wE G t ρ fun y => ds.length < 100000 ∧ Q (.nx (ρ.set i (some (.own (ds ++ [y])))))
  | .ext i t, ρ, Q => wOwn ρ i fun ds => wE G t ρ fun y => wList y fun es => ds.length + es.length ≤ 100000 ∧ Q (.nx (ρ.set i (some (.own (ds ++ es)))))
  | .cati i t, ρ, Q => wOwn ρ i fun ds => wE G t ρ fun y => wList y fun es => ds.length + es.length ≤ 100000 ∧ Q (.nx (ρ.set i (some (.own (ds ++ es)))))
  | .iff c a b, ρ, Q => wE G c ρ fun x => wBool x fun c => (c = true → wSs G a ρ Q) ∧ (c = false → wSs G b ρ Q)
  | .fo i src b, ρ, Q => wI G src ρ fun xs => forW (fun x ρ R => wSs G b (ρ.set i (some (.dat x))) R) xs ρ Q
  | .fou is src b, ρ, Q => wI G src ρ fun xs => forW (fun x ρ R => wTup x fun ds => ∃ ρ', setAll is ds ρ = some ρ' ∧ wSs G b ρ' R) xs ρ Q
  | .ret t, ρ, Q => wE G t ρ fun d => Q (.rt d)
  | .brk, ρ, Q => Q (.bk ρ)
  | .cnt, ρ, Q => Q (.ct ρ)
  | .pas, ρ, Q => Q (.nx ρ)
  | .fz i, ρ, Q => wOwn ρ i fun ds => Q (.nx (ρ.set i (some (.dat (.list ds)))))
  | .dead, _, _ => False
def wSs (G : Ga) : Ss → Rho → (O → Prop) → Prop
  | .nil, ρ, Q => Q (.nx ρ)
  | .cons s ss, ρ, Q => wS G s ρ fun o => match o with
    | .nx ρ' => wSs G ss ρ' Q
    | o => Q o
end
end Qd

set_option Elab.async false
set_option linter.all false
set_option maxRecDepth 100000
set_option maxHeartbeats 4000000
namespace Qd
open PySem L2

/-! ### the text against a term -/
structure Cf where
  N : List Str
  sc : Scope
  names : List Str
  L : Nat
  sub : Scope → Nat → Expr → Option (Expr × List Expr) := fun _ _ _ => none
def visB (sc : Scope) (x : Str) : Bool := match sc.names.lookup x with
  | some .local => true
  | some .cell => true
  | some .free => true
  | _ => false
def locB (sc : Scope) (x : Str) : Bool := match sc.names.lookup x with
  | some .local => true
  | some .cell => true
  | _ => false
def glB (sc : Scope) (x : Str) : Bool := match sc.names.lookup x with
  | some .globalImplicit => true
  | _ => false
def nameOk (x : Str) : Bool := !(x == ("__debug__" : Str)) && !(x == ("__classdict__" : Str))
def boP : BO → Operator
  | .add => .Add
  | .sub => .Sub
  | .mul => .Mult
  | .div => .FloorDiv
  | .mod => .Mod
  | .pow => .Pow
def coP : CO → CmpOp
  | .lt => .Lt
  | .le => .LtE
  | .gt => .Gt
  | .ge => .GtE
  | .eq => .Eq
  | .ne => .NotEq
def blN : Bl → Str
  | .len => "len"
  | .int => "int"
  | .abs => "abs"
  | .divm => "divmod"
  | .sum => "sum"
  | .tuple => "tuple"
  | .list => "list"
  | .min => "min"
  | .max => "max"
  | .sorted => "sorted"
def isOp (a b : Operator) : Bool := match a, b with
  | .Add, .Add => true
  | .Sub, .Sub => true
  | .Mult, .Mult => true
  | .FloorDiv, .FloorDiv => true
  | .Mod, .Mod => true
  | .Pow, .Pow => true
  | _, _ => false
def isCo (a b : CmpOp) : Bool := match a, b with
  | .Lt, .Lt => true
  | .LtE, .LtE => true
  | .Gt, .Gt => true
  | .GtE, .GtE => true
  | .Eq, .Eq => true
  | .NotEq, .NotEq => true
  | .Is, .Is => true
  | .IsNot, .IsNot => true
  | .In, .In => true
  | .NotIn, .NotIn => true
  | _, _ => false
theorem isOp_eq {a b : Operator} (h : isOp a b = true) : a = b := by
  cases a <;> cases b <;> first | rfl | cases h
theorem isCo_eq {a b : CmpOp} (h : isCo a b = true) : a = b := by
  cases a <;> cases b <;> first | rfl | cases h
def isConst (c : PyData) (e : Expr) : Bool := match c, e with
  | .none, .Constant .none _ _ => true
  | .bool b, .Constant (.bool b') _ _ => b == b'
  | .int i, .Constant (.int i') _ _ => decide (i = i')
  | .str x, .Constant (.str x') _ _ => decide (x = x')
  | _, _ => false
def isUn (a b : UnaryOp) : Bool := match a, b with
  | .USub, .USub => true
  | .Not, .Not => true
  | _, _ => false
theorem isUn_eq {a b : UnaryOp} (h : isUn a b = true) : a = b := by
  cases a <;> cases b <;> first | rfl | cases h
def isAnd : BoolOp → Bool
  | .And => true
  | _ => false
def isOr : BoolOp → Bool
  | .Or => true
  | _ => false
theorem isAnd_eq {a : BoolOp} (h : isAnd a = true) : a = .And := by
  cases a <;> first | rfl | cases h
theorem isOr_eq {a : BoolOp} (h : isOr a = true) : a = .Or := by
  cases a <;> first | rfl | cases h
def isNoneE : Expr → Bool
  | .Constant .none _ _ => true
  | _ => false
theorem isNoneE_eq {e : Expr} (h : isNoneE e = true) : ∃ j p, e = .Constant .none j p := by
  unfold isNoneE at h
  split at h
  · exact ⟨_, _, rfl⟩
  · cases h
def notStar : Expr → Bool
  | .Starred _ _ => false
  | _ => true
def notSet : Expr → Bool
  | .Set _ _ _ => false
  | _ => true
def notBool : Expr → Bool
  | .BoolOp _ _ _ => false
  | _ => true
def notComp : Expr → Bool
  | .ListComp _ _ _ _ => false
  | .SetComp _ _ _ _ => false
  | .DictComp _ _ _ _ _ => false
  | _ => true
def notTup : Expr → Bool
  | .Tuple _ _ _ => false
  | _ => true
def notSlice : Expr → Bool
  | .Slice _ _ _ _ => false
  | _ => true
def plainTest : Expr → Bool
  | .Name _ _ => true
  | .Call _ _ _ _ => true
  | .Subscript _ _ _ => true
  | .Constant _ _ _ => true
  | _ => false
def isPart (o : Option Int) (e : Option Expr) : Bool := match o, e with
  | none, none => true
  | some i, some (.Constant (.int j) _ _) => decide (i = j)
  | _, _ => false
def isName (x : Str) : Expr → Bool
  | .Name y _ => decide (y = x)
  | _ => false
def len0 {α : Type} : List α → Bool
  | [] => true
  | _ => false

def rel (scope sc : Scope) : Scope := { scope with names := scope.names.map fun (n, k) => if (k == NameKind.free && sc.kind == .function && sc.names.lookup n == some .cell) then (n, NameKind.cell) else (n, k) }
def chkV (cf : Cf) (i : Nat) (x : Str) : Bool := decide (cf.N[i]? = some x) && visB cf.sc x && nameOk x
def chkF (cf : Cf) (n : Nat) (x : Str) : Bool := decide (cf.names[n]? = some x) && glB cf.sc x && nameOk x
mutual
def chkE (cf : Cf) : T → Expr → Bool
  | .v i, .Name x _ => chkV cf i x
  | .k c, e => isConst c e
  | .gl n, .Name x _ => chkF cf n x
  | .bin o a b, .BinOp x op y _ => isOp op (boP o) && chkE cf a x && chkE cf b y
  | .neg a, .UnaryOp op x _ => isUn op .USub && chkE cf a x
  | .cmp o a b, .Compare x [op] [y] _ => isCo op (coP o) && chkE cf a x && chkE cf b y && !behindInMarks op y
  | .chain o o' a b c, .Compare x [op, op'] [y, z] _ => isCo op (coP o) && isCo op' (coP o') && chkE cf a x && chkE cf b y && chkE cf c z && !lastMarks [op, op'] [y, z]
  | .isN a, .Compare x [op] [y] _ => isCo op .Is && isNoneE y && chkE cf a x
  | .notN a, .Compare x [op] [y] _ => isCo op .IsNot && isNoneE y && chkE cf a x
  | .isin a b, .Compare x [op] [y] _ => isCo op .In && chkE cf a x && chkE cf b y && !behindInMarks .In y
  | .notin a b, .Compare x [op] [y] _ => isCo op .NotIn && chkE cf a x && chkE cf b y && !behindInMarks .NotIn y
  | .and a b, .BoolOp op (x :: y :: r) p => isAnd op && chkE cf a x && (if len0 r then chkE cf b y else chkE cf b (.BoolOp op (y :: r) p))
  | .or a b, .BoolOp op (x :: y :: r) p => isOr op && chkE cf a x && (if len0 r then chkE cf b y else chkE cf b (.BoolOp op (y :: r) p))
  | .not a, .UnaryOp op x _ => isUn op .Not && chkE cf a x
  | .ite c a b, .IfExp z x y _ => chkC cf c z && chkE cf a x && chkE cf b y
  | .tup ts, .Tuple es _ _ => chkEs cf ts es
  | .lst ts, .List es _ => chkEs cf ts es
  | .ix a b, .Subscript x y _ => chkE cf a x && chkE cf b y && notSlice y
  | .sl a lo hi, .Subscript x (.Slice l h none _) _ => chkE cf a x && isPart lo l && isPart hi h
  | .cat a b, .BinOp x op y _ => isOp op .Add && chkE cf a x && chkE cf b y
  | .call f (.cons t ts), .Call (.Name x _) (e :: es) [] _ => chkF cf f x && chkE cf t e && notStar e && chkEs cf ts es
  | .blt b (.cons t ts), .Call (.Name x _) (e :: es) [] _ => decide (x = blN b) && glB cf.sc x && nameOk x && chkE cf t e && notStar e && chkEs cf ts es
  | .idx a b, .Call (.Attribute (.Name y yp) m apos) [x] [] cpos => decide (m = ("index" : Str)) && chkE cf a (.Name y yp) && chkE cf b x && notStar x && (apos.endLine == cpos.line)
  | .tidx i b, .Call (.Attribute (.Name y yp) m apos) [x] [] cpos => decide (m = ("index" : Str)) && chkV cf i y && chkE cf b x && notStar x && (apos.endLine == cpos.line)
  | .x k a ts, e => (match cf.sub cf.sc k e with
    | some (e0, es) => chkE cf a e0 && chkEs cf ts es
    | none => false)
  | .dc i src key val, .DictComp e e2 [⟨.Name x _, iter, [], as⟩] scope _ => decide (as = 0) && decide (cf.N[i]? = some x) && locB scope x && blkC cf.N cf.sc scope [(x, i)] && chkI cf src iter && notSet iter && chkE { cf with sc := rel scope cf.sc } key e && chkE { cf with sc := rel scope cf.sc } val e2
  | .lc i src elt, .ListComp e [⟨.Name x _, iter, [], as⟩] scope _ => decide (as = 0) && decide (cf.N[i]? = some x) && locB scope x && blkC cf.N cf.sc scope [(x, i)] && chkI cf src iter && notSet iter && chkE { cf with sc := rel scope cf.sc } elt e
  | .lco i j elt, .ListComp e [⟨.Name x _, .Name y _, [], as⟩] scope _ => decide (as = 0) && decide (cf.N[i]? = some x) && locB scope x && blkC cf.N cf.sc scope [(x, i)] && chkV cf j y && chkE { cf with sc := rel scope cf.sc } elt e
  | .lci i src c elt, .ListComp e [⟨.Name x _, iter, [g], as⟩] scope _ => decide (as = 0) && decide (cf.N[i]? = some x) && locB scope x && blkC cf.N cf.sc scope [(x, i)] && chkI cf src iter && notSet iter && chkC { cf with sc := rel scope cf.sc } c g && chkE { cf with sc := rel scope cf.sc } elt e
  | _, _ => false
termination_by structural t => t
/-- a test -/
def chkC (cf : Cf) : T → Expr → Bool
  | .cmp o a b, .Compare x [op] [y] _ => isCo op (coP o) && chkE cf a x && chkE cf b y && !behindInMarks op y
  | .chain o o' a b c, .Compare x [op, op'] [y, z] _ => isCo op (coP o) && isCo op' (coP o') && chkE cf a x && chkE cf b y && chkE cf c z && !lastMarks [op, op'] [y, z]
  | .isN a, .Compare x [op] [y] _ => isCo op .Is && isNoneE y && chkE cf a x
  | .notN a, .Compare x [op] [y] _ => isCo op .IsNot && isNoneE y && chkE cf a x
  | .isin a b, .Compare x [op] [y] _ => isCo op .In && chkE cf a x && chkE cf b y && !behindInMarks .In y
  | .notin a b, .Compare x [op] [y] _ => isCo op .NotIn && chkE cf a x && chkE cf b y && !behindInMarks .NotIn y
  | .and a b, .BoolOp op (x :: y :: r) p => isAnd op && chkC cf a x && (if len0 r then chkC cf b y else chkC cf b (.BoolOp op (y :: r) p))
  | .or a b, .BoolOp op (x :: y :: r) p => isOr op && chkC cf a x && (if len0 r then chkC cf b y else chkC cf b (.BoolOp op (y :: r) p))
  | .not a, .UnaryOp op x _ => isUn op .Not && chkC cf a x
  | .v i, .Name x _ => chkV cf i x
  | .call f (.cons t ts), .Call (.Name x _) (e :: es) [] _ => chkF cf f x && chkE cf t e && notStar e && chkEs cf ts es
  | .ix a b, .Subscript x y _ => chkE cf a x && chkE cf b y && notSlice y
  | .x k a ts, e => notBool e && (match cf.sub cf.sc k e with
    | some (e0, es) => chkE cf a e0 && chkEs cf ts es
    | none => false)
  | _, _ => false
termination_by structural t => t
/-- what is walked -/
def chkI (cf : Cf) : T → Expr → Bool
  | .rg1 a, .Call (.Name x _) [e] [] _ => decide (x = ("range" : Str)) && glB cf.sc x && chkE cf a e && notStar e
  | .rg2 a b, .Call (.Name x _) [e, f] [] _ => decide (x = ("range" : Str)) && glB cf.sc x && chkE cf a e && notStar e && chkE cf b f && notStar f
  | .v i, .Name x _ => chkV cf i x
  | .gl n, .Name x _ => chkF cf n x
  | .lst ts, .List es _ => chkEs cf ts es
  | .tup ts, .Tuple es _ _ => chkEs cf ts es
  | .ix a b, .Subscript x y _ => chkE cf a x && chkE cf b y && notSlice y
  | .call f (.cons t ts), .Call (.Name x _) (e :: es) [] _ => chkF cf f x && chkE cf t e && notStar e && chkEs cf ts es
  | .x k a ts, e => notSet e && (match cf.sub cf.sc k e with
    | some (e0, es) => chkE cf a e0 && chkEs cf ts es
    | none => false)
  | _, _ => false
termination_by structural t => t
def chkEs (cf : Cf) : Ts → List Expr → Bool
  | .nil, [] => true
  | .cons t ts, e :: es => chkE cf t e && notStar e && chkEs cf ts es
  | _, _ => false
termination_by structural t => t
end
end Qd

set_option Elab.async false
set_option linter.all false
set_option maxRecDepth 100000
set_option maxHeartbeats 4000000
namespace Qd
open PySem L2

/-! ### data in the heap: plain ones, dicts (told by a first pair that no dict has), objects -/
mutual
/-- a key that is a tuple of ints and such tuples -/
def nkIn : PyData → Bool
  | .int _ => true
  | .tuple ds => nkIns ds
  | _ => false
termination_by structural d => d
def nkIns : List PyData → Bool
  | [] => true
  | d :: ds => nkIn d && nkIns ds
termination_by structural d => d
end
mutual
def nk : PyData → NestedKey
  | .int i => .num i
  | .tuple ds => .tup (nks ds)
  | _ => .none
termination_by structural d => d
def nks : List PyData → List NestedKey
  | [] => []
  | d :: ds => nk d :: nks ds
termination_by structural d => d
end
mutual
def hashN : PyData → Int
  | .int i => hashInt i
  | .tuple ds => reduceHash (Builtin.Tuple.tupleHashOf (hashNs ds))
  | _ => 0
termination_by structural d => d
def hashNs : List PyData → List Int
  | [] => []
  | d :: ds => hashN d :: hashNs ds
termination_by structural d => d
end
mutual
theorem hash_nk (w : World) : ∀ d : PyData, nkIn d = true → (nk d).hash w = hashN d
  | .int i, _ => by rw [nk, hashN]; rfl
  | .tuple ds, h => by
    rw [nkIn] at h
    rw [nk, hashN]
    show reduceHash (Builtin.Tuple.tupleHashOf (NestedKey.hashes w (nks ds))) = _
    rw [hash_nks w ds h]
  | .none, h => by rw [nkIn] at h <;> first | cases h | (intro z; intros; contradiction)
  | .bool _, h => by rw [nkIn] at h <;> first | cases h | (intro z; intros; contradiction)
  | .str _, h => by rw [nkIn] at h <;> first | cases h | (intro z; intros; contradiction)
  | .list _, h => by rw [nkIn] at h <;> first | cases h | (intro z; intros; contradiction)
  | .dict _, h => by rw [nkIn] at h <;> first | cases h | (intro z; intros; contradiction)
theorem hash_nks (w : World) : ∀ ds : List PyData, nkIns ds = true → NestedKey.hashes w (nks ds) = hashNs ds
  | [], _ => by rw [nks, hashNs]; rfl
  | d :: ds, h => by
    rw [nkIns, Bool.and_eq_true] at h
    rw [nks, hashNs]
    show NestedKey.hash w (nk d) :: NestedKey.hashes w (nks ds) = _
    rw [hash_nk w d h.1, hash_nks w ds h.2]
end
/-- a key of a dict of tuples -/
def nkOk (d : PyData) : Bool := nkIn d && (match d with
  | .tuple _ => true
  | _ => false) && decide ((nk d).depth ≤ 8)
/-- the dict at a has these entries -/
def DnO (a : Addr) (ents : List DictEntry) : HO := .ext fun h => (a == sysModules) = false ∧ ents.length ≤ sizeLine ∧ ∃ o ep es, h.get? a = some o ∧ o.ExactDict ∧ o.data = .dict es ep ∧ es.toList = ents
mutual
inductive Dp (K : PySem.W.Frag) (H : Hp) : V → PyData → Prop
  | non : Dp K H .non .none
  | bl (b : Bool) : Dp K H (.bl b) (.bool b)
  | int (i : Int) : Dp K H (.int i) (.int i)
  | str (x : Str) : Dp K H (.str x) (.str x)
  | lst {a : Addr} {xs : List V} {ds : List PyData} : SqL K H a xs → DpAll K H xs ds → Dp K H (.ref a) (.list ds)
  | tup {a : Addr} {xs : List V} {ds : List PyData} : SqT K H a xs → DpAll K H xs ds → Dp K H (.ref a) (.tuple ds)
  | dk {a : Addr} {kvs : List (Key × V)} {ds : List (PyData × PyData)} : Rd H a (.dK kvs) → DkAll K H kvs ds → Dp K H (.ref a) (.dict ((.none, .int 0) :: ds))
  | dn {a : Addr} {ents : List DictEntry} {ds : List (PyData × PyData)} : H a = some (DnO a ents) → DnAll K H ents ds → (ds.map fun p => nk p.1).Nodup → Dp K H (.ref a) (.dict ((.none, .int 2) :: ds))
  | ob {a dx : Addr} {nm : Str} {fs : List (Str × V)} {ds : List (PyData × PyData)} : H a = some (.ins (He.ga K nm) dx fs) → FsAll K H fs ds → Dp K H (.ref a) (.dict ((.none, .str nm) :: ds))
  | adr (a : Addr) : Dp K H (.ref a) (.dict [(.none, .none), (.int (a : Nat), .none)])
inductive DpAll (K : PySem.W.Frag) (H : Hp) : List V → List PyData → Prop
  | nil : DpAll K H [] []
  | cons {v : V} {vs : List V} {d : PyData} {ds : List PyData} : Dp K H v d → DpAll K H vs ds → DpAll K H (v :: vs) (d :: ds)
inductive DkAll (K : PySem.W.Frag) (H : Hp) : List (Key × V) → List (PyData × PyData) → Prop
  | nil : DkAll K H [] []
  | int {i : Int} {v : V} {kvs : List (Key × V)} {d : PyData} {ds : List (PyData × PyData)} : Dp K H v d → DkAll K H kvs ds → DkAll K H ((.inl i, v) :: kvs) ((.int i, d) :: ds)
  | str {i : Str} {v : V} {kvs : List (Key × V)} {d : PyData} {ds : List (PyData × PyData)} : Dp K H v d → DkAll K H kvs ds → DkAll K H ((.inr i, v) :: kvs) ((.str i, d) :: ds)
inductive DnAll (K : PySem.W.Frag) (H : Hp) : List DictEntry → List (PyData × PyData) → Prop
  | nil : DnAll K H [] []
  | cons {e : DictEntry} {es : List DictEntry} {b : Addr} {v : V} {k d : PyData} {ds : List (PyData × PyData)} : e.key = .ref b → Dp K H (.ref b) k → nkOk k = true → e.hash = hashN k → RelV v e.val → Dp K H v d → DnAll K H es ds → DnAll K H (e :: es) ((k, d) :: ds)
inductive FsAll (K : PySem.W.Frag) (H : Hp) : List (Str × V) → List (PyData × PyData) → Prop
  | nil : FsAll K H [] []
  | cons {x : Str} {v : V} {fs : List (Str × V)} {d : PyData} {ds : List (PyData × PyData)} : Dp K H v d → FsAll K H fs ds → FsAll K H ((x, v) :: fs) ((.str x, d) :: ds)
end
mutual
theorem Dp.l2 {K : PySem.W.Frag} {H : Hp} : ∀ (d : PyData) (v : V), plainD d = true → Dp K H v d → L2.Dp K H v d
  | .none, v, _, h => by cases h; exact .non
  | .bool b, v, _, h => by cases h; exact .bl b
  | .int i, v, _, h => by cases h; exact .int i
  | .str x, v, _, h => by cases h; exact .str x
  | .list ds, v, p, h => by
    rw [plainD] at p
    cases h with
    | lst a b => exact .lst a (DpAll.l2 ds _ p b)
  | .tuple ds, v, p, h => by
    rw [plainD] at p
    cases h with
    | tup a b => exact .tup a (DpAll.l2 ds _ p b)
  | .dict _, v, p, _ => by
    rw [plainD] at p
    cases p
theorem DpAll.l2 {K : PySem.W.Frag} {H : Hp} : ∀ (ds : List PyData) (vs : List V), plainDs ds = true → DpAll K H vs ds → L2.DpAll K H vs ds
  | [], vs, _, h => by cases h; exact .nil
  | d :: ds, vs, p, h => by
    rw [plainDs, Bool.and_eq_true] at p
    cases h with
    | cons a t => exact .cons (Dp.l2 d _ p.1 a) (DpAll.l2 ds _ p.2 t)
end
mutual
theorem Dp.of2 {K : PySem.W.Frag} {H : Hp} : ∀ (d : PyData) (v : V), L2.Dp K H v d → Dp K H v d
  | .none, v, h => by cases h; exact .non
  | .bool b, v, h => by cases h; exact .bl b
  | .int i, v, h => by cases h; exact .int i
  | .str x, v, h => by cases h; exact .str x
  | .list ds, v, h => by
    cases h with
    | lst a b => exact .lst a (DpAll.of2 ds _ b)
  | .tuple ds, v, h => by
    cases h with
    | tup a b => exact .tup a (DpAll.of2 ds _ b)
  | .dict _, v, h => nomatch h
theorem DpAll.of2 {K : PySem.W.Frag} {H : Hp} : ∀ (ds : List PyData) (vs : List V), L2.DpAll K H vs ds → DpAll K H vs ds
  | [], vs, h => by cases h; exact .nil
  | d :: ds, vs, h => by
    cases h with
    | cons a t => exact .cons (Dp.of2 d _ a) (DpAll.of2 ds _ t)
end
def WE (X : Cx) (e : Expr) : TE := fun σ H Q => ∃ t, PE X e t ∧ t σ H Q
theorem pe_W {X : Cx} {e : Expr} : PE X e (WE X e) := ⟨fun pins s σ H Q I ⟨_, h, q⟩ => h.run pins s σ H Q I q⟩
def WT (X : Cx) (e : Expr) : TT := fun σ H Q => ∃ t, PT X e t ∧ t σ H Q
theorem pt_W {X : Cx} {e : Expr} : PT X e (WT X e) := ⟨fun pins s σ H Q I ⟨_, h, q⟩ => h.run pins s σ H Q I q⟩
def WW (X : Cx) (e : Expr) : TT := fun σ H Q => ∃ t, PW X e t ∧ t σ H Q
theorem pw_W {X : Cx} {e : Expr} : PW X e (WW X e) := ⟨fun wh pins s σ H Q I ⟨_, h, q⟩ => h.run wh pins s σ H Q I q⟩
def WA (X : Cx) (es : List Expr) : TA := fun σ H Q => ∃ t, PA X es t ∧ t σ H Q
theorem pa_W {X : Cx} {es : List Expr} : PA X es (WA X es) := ⟨fun pos pins s σ H Q I ⟨_, h, q⟩ => h.run pos pins s σ H Q I q⟩
/-- pieces one behind the other -/
def WN (X : Cx) : List Expr → L2.St → Hp → (List V → Hp → Prop) → Prop
  | [], _, H, Q => Q [] H
  | e :: es, σ, H, Q => WE X e σ H fun v H1 => WN X es σ H1 fun vs H2 => Q (v :: vs) H2
def WI (X : Cx) (tg e : Expr) : TI := fun σ H R => ∃ wi, PI X tg e wi ∧ wi σ H R

/-! ### heaps -/
abbrev Ex := Same
structure Gr (Hb H Hb' H' : Hp) : Prop where
  a : Ex Hb Hb'
  b : Ex H H'
  c : Ex Hb' H'
  d : ∀ p o, H p = some o → Hb p = none → Hb' p = none
theorem Gr.trans {Hb H Hb1 H1 Hb2 H2 : Hp} (x : Gr Hb H Hb1 H1) (y : Gr Hb1 H1 Hb2 H2) : Gr Hb H Hb2 H2 :=
  ⟨x.a.trans y.a, x.b.trans y.b, y.c, fun p o h n => y.d p o (x.b p o h) (x.d p o h n)⟩
theorem Gr.refl {Hb H : Hp} (e : Ex Hb H) : Gr Hb H Hb H := ⟨Same.refl _, Same.refl _, e, fun _ _ _ n => n⟩
theorem none_of_ex {Hb H : Hp} (e : Ex Hb H) {p : Addr} (h : H p = none) : Hb p = none := e.free h
theorem ex_upd {H : Hp} {p : Addr} {o : HO} (h : H p = none) : Ex H (upd H p o) := fun a u e => by
  rw [upd_ne (ne_of_none e h)]
  exact e
/-- a new object goes into both -/
theorem Gr.new {Hb H : Hp} (e : Ex Hb H) {p : Addr} (h : H p = none) (o : HO) : Gr Hb H (upd Hb p o) (upd H p o) := by
  refine ⟨ex_upd (none_of_ex e h), ex_upd h, fun a u q => ?_, fun a u q n => ?_⟩
  · by_cases z : a = p
    · rw [z, upd_same] at q ⊢
      exact q
    · rw [upd_ne z] at q ⊢
      exact e a u q
  · have z : a ≠ p := ne_of_none q h
    rw [upd_ne z]
    exact n

theorem rd_mono {H H' : Hp} {a : Addr} {u : HO} (e : Ex H H') (h : Rd H a u) : Rd H' a u := by
  rcases h with h | ⟨o, h⟩
  · exact Or.inl (e a _ h)
  · exact Or.inr ⟨o, e a _ h⟩
theorem sqt_mono {K : PySem.W.Frag} {H H' : Hp} {a : Addr} {xs : List V} (e : Ex H H') (h : SqT K H a xs) : SqT K H' a xs := by
  rcases h with h | h
  · exact Or.inl (rd_mono e h)
  · exact Or.inr h
theorem sql_mono {K : PySem.W.Frag} {H H' : Hp} {a : Addr} {xs : List V} (e : Ex H H') (h : SqL K H a xs) : SqL K H' a xs := e.seq h
theorem dpr_mono {K : PySem.W.Frag} {H H' : Hp} (e : Ex H H') {v : V} {d : PyData} (h : Dp K H v d) : Dp K H' v d := by
  refine Dp.rec (motive_1 := fun v d _ => Dp K H' v d) (motive_2 := fun vs ds _ => DpAll K H' vs ds) (motive_3 := fun a b _ => DkAll K H' a b) (motive_4 := fun a b _ => DnAll K H' a b) (motive_5 := fun a b _ => FsAll K H' a b)
    .non (fun b => .bl b) (fun i => .int i) (fun x => .str x) (fun a _ r => .lst (sql_mono e a) r) (fun a _ r => .tup (sqt_mono e a) r) (fun a _ r => .dk (rd_mono e a) r) (fun a _ n r => .dn (e _ _ a) r n) (fun a _ r => .ob (e _ _ a) r) (fun a => .adr a)
    .nil (fun _ _ r t => .cons r t) .nil (fun _ _ r t => .int r t) (fun _ _ r t => .str r t) .nil (fun a _ k hs rv _ _ r1 r2 r3 => .cons a r1 k hs rv r2 r3) .nil (fun _ _ r t => .cons r t) h
theorem dp_mono {K : PySem.W.Frag} {H H' : Hp} (e : Ex H H') (d : PyData) (v : V) (h : Dp K H v d) : Dp K H' v d := dpr_mono e h
theorem dpa_mono {K : PySem.W.Frag} {H H' : Hp} (e : Ex H H') : ∀ (ds : List PyData) (vs : List V), DpAll K H vs ds → DpAll K H' vs ds
  | [], vs, h => by cases h; exact .nil
  | d :: ds, vs, h => by
    cases h with
    | cons a b => exact .cons (dpr_mono e a) (dpa_mono e _ _ b)
section
variable {K : PySem.W.Frag} {H : Hp} {v : V} {vs : List V} {ds : List PyData} {d : PyData}
theorem Dp.int_inv {i : Int} (h : Dp K H v (.int i)) : v = .int i := by cases h; rfl
theorem Dp.bl_inv {i : Bool} (h : Dp K H v (.bool i)) : v = .bl i := by cases h; rfl
theorem Dp.non_inv (h : Dp K H v .none) : v = .non := by cases h; rfl
theorem Dp.adr_inv {a : Addr} (h : Dp K H v (.dict [(.none, .none), (.int (a : Nat), .none)])) : v = .ref a := by
  generalize hd : PyData.dict [(.none, .none), (.int (a : Nat), .none)] = d at h
  cases h <;> simp only [PyData.dict.injEq, List.cons.injEq, Prod.mk.injEq, reduceCtorEq, PyData.int.injEq, false_and, and_false, and_true, true_and, Int.natCast_inj] at hd
  rw [hd]
theorem Dp.str_inv {i : Str} (h : Dp K H v (.str i)) : v = .str i := by cases h; rfl
theorem Dp.lst_inv (h : Dp K H v (.list ds)) : ∃ a xs, v = .ref a ∧ SqL K H a xs ∧ DpAll K H xs ds := by
  cases h with
  | lst a b => exact ⟨_, _, rfl, a, b⟩
theorem Dp.tup_inv (h : Dp K H v (.tuple ds)) : ∃ a xs, v = .ref a ∧ SqT K H a xs ∧ DpAll K H xs ds := by
  cases h with
  | tup a b => exact ⟨_, _, rfl, a, b⟩
theorem dpa_len : ∀ {vs : List V} {ds : List PyData}, DpAll K H vs ds → vs.length = ds.length
  | _, _, .nil => rfl
  | _, _, .cons _ t => congrArg (· + 1) (dpa_len t)
theorem dpa_get : ∀ {vs : List V} {ds : List PyData} {i : Nat} {d : PyData}, DpAll K H vs ds → ds[i]? = some d → ∃ v, vs[i]? = some v ∧ Dp K H v d
  | _, _, _, _, .nil, e => by simp at e
  | _, _, 0, _, .cons r _, e => by simp at e; subst e; exact ⟨_, rfl, r⟩
  | _, _, i + 1, x, .cons _ t, e => by
    obtain ⟨u, h1, h2⟩ := dpa_get (i := i) (d := x) t (by simpa using e)
    exact ⟨u, by simpa using h1, h2⟩
theorem dpa_getv : ∀ {vs : List V} {ds : List PyData} {i : Nat} {v : V}, DpAll K H vs ds → vs[i]? = some v → ∃ d, ds[i]? = some d ∧ Dp K H v d
  | _, _, _, _, .nil, e => by simp at e
  | _, _, 0, _, .cons r _, e => by simp at e; subst e; exact ⟨_, rfl, r⟩
  | _, _, i + 1, x, .cons _ t, e => by
    obtain ⟨u, h1, h2⟩ := dpa_getv (i := i) (v := x) t (by simpa using e)
    exact ⟨u, by simpa using h1, h2⟩
theorem dpa_append : ∀ {vs ws : List V} {ds es : List PyData}, DpAll K H vs ds → DpAll K H ws es → DpAll K H (vs ++ ws) (ds ++ es)
  | _, _, _, _, .nil, s => s
  | _, _, _, _, .cons r t, s => .cons r (dpa_append t s)
theorem dpa_take : ∀ {vs : List V} {ds : List PyData} (n : Nat), DpAll K H vs ds → DpAll K H (vs.take n) (ds.take n)
  | _, _, 0, _ => .nil
  | _, _, _ + 1, .nil => .nil
  | _, _, n + 1, .cons r t => .cons r (dpa_take n t)
theorem dpa_drop : ∀ {vs : List V} {ds : List PyData} (n : Nat), DpAll K H vs ds → DpAll K H (vs.drop n) (ds.drop n)
  | _, _, 0, r => r
  | _, _, _ + 1, .nil => .nil
  | _, _, n + 1, .cons _ t => dpa_drop n t
theorem dpa_set {x : V} {u : PyData} (r : Dp K H x u) : ∀ {xs : List V} {us : List PyData} (i : Nat), DpAll K H xs us → DpAll K H (xs.set i x) (us.set i u)
  | _, _, _, .nil => .nil
  | _, _, 0, .cons _ t => .cons r t
  | _, _, i + 1, .cons q t => .cons q (dpa_set r i t)
theorem dpa_ints : ∀ {vs : List V} {ns : List Int}, DpAll K H vs (ns.map PyData.int) → vs = ns.map V.int
  | _, [], .nil => rfl
  | _, n :: ns, .cons a b => by rw [Dp.int_inv a, dpa_ints b]; rfl
theorem dpa_cut (lo hi : Option Int) (h : DpAll K H vs ds) : DpAll K H (cutV vs lo hi) (cutD ds lo hi) := by
  unfold cutV cutD
  rw [dpa_len h]
  exact dpa_take _ (dpa_drop _ h)
theorem atI_dp {i : Int} (h : DpAll K H vs ds) (e : atI ds i = some d) : ∃ v, atI vs i = some v ∧ Dp K H v d := by
  unfold atI at e ⊢
  rw [dpa_len h]
  cases q : ixN ds.length i with
  | none => rw [q] at e; cases e
  | some j =>
    rw [q] at e
    exact dpa_get h e
end

/-! ### what is written in the module -/
mutual
inductive WrD (K : PySem.W.Frag) : V → PyData → Prop
  | non : WrD K .non .none
  | bl (b : Bool) : WrD K (.bl b) (.bool b)
  | int (i : Int) : WrD K (.int i) (.int i)
  | str (x : Str) : WrD K (.str x) (.str x)
  | tup {a : Addr} {o : Obj} {its : Array Value} {n : Nat} {xs : List V} {ds : List PyData} : K.lookup a = some o → o.cls = .type "tuple" → o.dict = none → o.data = .seq its n → its.size ≤ sizeLine → Vals xs its.toList → WrAll K xs ds → WrD K (.ref a) (.tuple ds)
inductive WrAll (K : PySem.W.Frag) : List V → List PyData → Prop
  | nil : WrAll K [] []
  | cons {v : V} {vs : List V} {d : PyData} {ds : List PyData} : WrD K v d → WrAll K vs ds → WrAll K (v :: vs) (d :: ds)
end
mutual
theorem WrD.dp {K : PySem.W.Frag} {H : Hp} : ∀ (d : PyData) (v : V), WrD K v d → Dp K H v d
  | .none, v, h => by cases h; exact .non
  | .bool b, v, h => by cases h; exact .bl b
  | .int i, v, h => by cases h; exact .int i
  | .str x, v, h => by cases h; exact .str x
  | .list ds, v, h => nomatch h
  | .tuple ds, v, h => by
    cases h with
    | tup a b c d e f g => exact .tup (.inr ⟨_, _, _, a, b, d, e, f⟩) (WrAll.dp _ _ g)
  | .dict _, v, h => nomatch h
theorem WrAll.dp {K : PySem.W.Frag} {H : Hp} : ∀ (ds : List PyData) (vs : List V), WrAll K vs ds → DpAll K H vs ds
  | [], vs, h => by cases h; exact .nil
  | d :: ds, vs, h => by
    cases h with
    | cons a b => exact .cons (WrD.dp _ _ a) (WrAll.dp _ _ b)
end
theorem WrD.tup_inv {K : PySem.W.Frag} {v : V} {ds : List PyData} (h : WrD K v (.tuple ds)) : ∃ a o its n xs, v = .ref a ∧ K.lookup a = some o ∧ o.cls = .type "tuple" ∧ o.dict = none ∧ o.data = .seq its n ∧ its.size ≤ sizeLine ∧ Vals xs its.toList ∧ WrAll K xs ds := by
  cases h with
  | tup a b c d e f g => exact ⟨_, _, _, _, _, rfl, a, b, c, d, e, f, g⟩
/-- a written dict, by what it holds -/
def KeyV (K : PySem.W.Frag) (H : Hp) (v : V) (x : PyData) : Prop := Dp K H v x ∧ isKey x = true
structure TabOK (P : Program) (w : World) (K : PySem.W.Frag) (a : Addr) (get : PyData → Option PyData) : Prop where
  low : (a == sysModules) = false
  ob : ∃ o, K.lookup a = some o ∧ o.cls = .type "dict" ∧ o.dict = none
  body : (∃ kvs : List (Key × Value), (∀ h : Heap, K.In h → h.DictOf (mixKind P w) a kvs) ∧ (∀ k : Int, (get (.int k) = none → valueAt kvs (.inl k) = none) ∧ ∀ d, get (.int k) = some d → ∃ u v, valueAt kvs (.inl k) = some u ∧ RelV v u ∧ WrD K v d) ∧ ∀ ds, get (.tuple ds) = none) ∨
    ((∃ xs : List (List Key × Addr × Value), (∀ h : Heap, K.In h → h.DictOfH (tupleKind (mixKind P w)) a xs) ∧ (∀ ks : List Int, (get (.tuple (ks.map PyData.int)) = none → atKey xs (ks.map Sum.inl) = none) ∧ ∀ d, get (.tuple (ks.map PyData.int)) = some d → ∃ p v, atKey xs (ks.map Sum.inl) = some p ∧ RelV v p.2 ∧ WrD K v d)) ∧ ∀ k, get (.int k) = none)
  key : ∀ x d, get x = some d → isKey x = true

/-! ### the state -/
theorem dk_mono {K : PySem.W.Frag} {H H' : Hp} (e : Ex H H') : ∀ {kvs : List (Key × V)} {ds : List (PyData × PyData)}, DkAll K H kvs ds → DkAll K H' kvs ds
  | _, _, .nil => .nil
  | _, _, .int r t => .int (dpr_mono e r) (dk_mono e t)
  | _, _, .str r t => .str (dpr_mono e r) (dk_mono e t)
theorem dn_mono {K : PySem.W.Frag} {H H' : Hp} (e : Ex H H') : ∀ {ents : List DictEntry} {ds : List (PyData × PyData)}, DnAll K H ents ds → DnAll K H' ents ds
  | _, _, .nil => .nil
  | _, _, .cons a r1 k hs rv r2 t => .cons a (dpr_mono e r1) k hs rv (dpr_mono e r2) (dn_mono e t)
/-- what is this def's own, and what stands there -/
inductive OwR (K : PySem.W.Frag) (Hb : Hp) (p : Addr) : B → HO → Prop
  | l {vs : List V} {ds : List PyData} : DpAll K Hb vs ds → OwR K Hb p (.own ds) (.lst vs)
  | k {kvs : List (Key × V)} {ds : List (PyData × PyData)} : DkAll K Hb kvs ds → OwR K Hb p (.odc 0 ds) (.dK kvs)
  | n {ents : List DictEntry} {ds : List (PyData × PyData)} : DnAll K Hb ents ds → (ds.map fun p => nk p.1).Nodup → OwR K Hb p (.odc 2 ds) (DnO p ents)
theorem OwR.mono {K : PySem.W.Frag} {Hb Hb' : Hp} {p : Addr} {b : B} {u : HO} (e : Ex Hb Hb') (h : OwR K Hb p b u) : OwR K Hb' p b u := by
  cases h with
  | l r => exact .l (dpa_mono e _ _ r)
  | k r => exact .k (dk_mono e r)
  | n r d => exact .n (dn_mono e r) d
structure En (K : PySem.W.Frag) (Hb H : Hp) (σ : L2.St) (ρ : Rho) : Prop where
  len : σ.length = ρ.length
  ex : Ex Hb H
  dat : ∀ (i : Nat) (d : PyData), ρ[i]? = some (some (B.dat d)) → ∃ v, σ[i]? = some (some v) ∧ Dp K Hb v d
  ow : ∀ (i : Nat) (b : B), isOw b = true → ρ[i]? = some (some b) → ∃ (p : Addr) (u : HO), σ[i]? = some (some (V.ref p)) ∧ Hb p = none ∧ H p = some u ∧ OwR K Hb p b u
  wri : ∀ (i : Nat) (d : PyData), ρ[i]? = some (some (B.wri d)) → ∃ v, σ[i]? = some (some v) ∧ WrD K v d
  dis : ∀ (i j : Nat) (p : Addr) (b c : B), isOw b = true → isOw c = true → ρ[i]? = some (some b) → ρ[j]? = some (some c) → σ[i]? = some (some (V.ref p)) → σ[j]? = some (some (V.ref p)) → i = j
theorem En.own {K : PySem.W.Frag} {Hb H : Hp} {σ : L2.St} {ρ : Rho} (x : En K Hb H σ ρ) (i : Nat) (ds : List PyData) (h : ρ[i]? = some (some (B.own ds))) : ∃ (p : Addr) (vs : List V), σ[i]? = some (some (V.ref p)) ∧ Hb p = none ∧ H p = some (.lst vs) ∧ DpAll K Hb vs ds := by
  obtain ⟨p, u, a, b, c, d⟩ := x.ow i _ rfl h
  cases d with
  | l r => exact ⟨p, _, a, b, c, r⟩
theorem own_set {ρ : Rho} {i j : Nat} {b x : B} (hx : isOw x = false) (hb : isOw b = true) (h : (ρ.set i (some x))[j]? = some (some b)) : i ≠ j ∧ ρ[j]? = some (some b) := by
  by_cases z : i = j
  · subst z
    by_cases l : i < ρ.length
    · rw [List.getElem?_set_self l] at h
      cases h
      rw [hx] at hb
      cases hb
    · rw [List.getElem?_eq_none (by rw [List.length_set]; omega)] at h
      cases h
  · rw [List.getElem?_set_ne z] at h
    exact ⟨z, h⟩
theorem En.mono {K : PySem.W.Frag} {Hb H Hb' H' : Hp} {σ : L2.St} {ρ : Rho} (x : En K Hb H σ ρ) (g : Gr Hb H Hb' H') : En K Hb' H' σ ρ := by
  refine ⟨x.len, g.c, fun i d e => ?_, fun i b hb e => ?_, x.wri, x.dis⟩
  · obtain ⟨v, h1, h2⟩ := x.dat i d e
    exact ⟨v, h1, dp_mono g.a _ _ h2⟩
  · obtain ⟨p, u, h1, h2, h3, h4⟩ := x.ow i b hb e
    exact ⟨p, u, h1, g.d p _ h3 h2, g.b _ _ h3, h4.mono g.a⟩
/-- a slot gets data -/
theorem En.setD {K : PySem.W.Frag} {Hb H : Hp} {σ : L2.St} {ρ : Rho} {i : Nat} {v : V} {d : PyData} (x : En K Hb H σ ρ) (h : Dp K Hb v d) : En K Hb H (σ.set i (some v)) (ρ.set i (some (.dat d))) := by
  refine ⟨by rw [List.length_set, List.length_set]; exact x.len, x.ex, fun j e h1 => ?_, fun j b hb h1 => ?_, fun j e h1 => ?_, fun j k p b c hb hc h1 h2 h3 h4 => ?_⟩
  · by_cases z : i = j
    · subst z
      by_cases l : i < ρ.length
      · rw [List.getElem?_set_self l] at h1
        cases h1
        exact ⟨v, by rw [List.getElem?_set_self (by rw [x.len]; exact l)], h⟩
      · rw [List.getElem?_eq_none (by rw [List.length_set]; omega)] at h1
        cases h1
    · rw [List.getElem?_set_ne z] at h1
      rw [List.getElem?_set_ne z]
      exact x.dat j e h1
  · obtain ⟨z, h1⟩ := own_set rfl hb h1
    rw [List.getElem?_set_ne z]
    exact x.ow j b hb h1
  · by_cases z : i = j
    · subst z
      by_cases l : i < ρ.length
      · rw [List.getElem?_set_self l] at h1
        cases h1
      · rw [List.getElem?_eq_none (by rw [List.length_set]; omega)] at h1
        cases h1
    · rw [List.getElem?_set_ne z] at h1
      rw [List.getElem?_set_ne z]
      exact x.wri j e h1
  · obtain ⟨zj, h1⟩ := own_set rfl hb h1
    obtain ⟨zk, h2⟩ := own_set rfl hc h2
    rw [List.getElem?_set_ne zj] at h3
    rw [List.getElem?_set_ne zk] at h4
    exact x.dis j k p b c hb hc h1 h2 h3 h4
/-- a slot gets a written datum -/
theorem En.setW {K : PySem.W.Frag} {Hb H : Hp} {σ : L2.St} {ρ : Rho} {i : Nat} {v : V} {d : PyData} (x : En K Hb H σ ρ) (h : WrD K v d) : En K Hb H (σ.set i (some v)) (ρ.set i (some (.wri d))) := by
  refine ⟨by rw [List.length_set, List.length_set]; exact x.len, x.ex, fun j e h1 => ?_, fun j b hb h1 => ?_, fun j e h1 => ?_, fun j k p b c hb hc h1 h2 h3 h4 => ?_⟩
  · by_cases z : i = j
    · subst z
      by_cases l : i < ρ.length
      · rw [List.getElem?_set_self l] at h1
        cases h1
      · rw [List.getElem?_eq_none (by rw [List.length_set]; omega)] at h1
        cases h1
    · rw [List.getElem?_set_ne z] at h1
      rw [List.getElem?_set_ne z]
      exact x.dat j e h1
  · obtain ⟨z, h1⟩ := own_set rfl hb h1
    rw [List.getElem?_set_ne z]
    exact x.ow j b hb h1
  · by_cases z : i = j
    · subst z
      by_cases l : i < ρ.length
      · rw [List.getElem?_set_self l] at h1
        cases h1
        exact ⟨v, by rw [List.getElem?_set_self (by rw [x.len]; exact l)], h⟩
      · rw [List.getElem?_eq_none (by rw [List.length_set]; omega)] at h1
        cases h1
    · rw [List.getElem?_set_ne z] at h1
      rw [List.getElem?_set_ne z]
      exact x.wri j e h1
  · obtain ⟨zj, h1⟩ := own_set rfl hb h1
    obtain ⟨zk, h2⟩ := own_set rfl hc h2
    rw [List.getElem?_set_ne zj] at h3
    rw [List.getElem?_set_ne zk] at h4
    exact x.dis j k p b c hb hc h1 h2 h3 h4
/-- a slot forgotten, a slot gets data -/
theorem En.wipe1 {K : PySem.W.Frag} {Hb H : Hp} {σ : L2.St} {ρ : Rho} {i : Nat} {v : V} {d : PyData} (x : En K Hb H σ ρ) (h : Dp K Hb v d) : En K Hb H ((wipe σ [i]).set i (some v)) (ρ.set i (some (.dat d))) := by
  have e : (wipe σ [i]).set i (some v) = σ.set i (some v) := by
    show (σ.set i none).set i (some v) = _
    rw [List.set_set]
  rw [e]
  exact x.setD h

/-! ### what a context must say -/
def spD (K : PySem.W.Frag) (g : List PyData → Option PyData) : Sp := fun vs H Q _ => ∃ (Hb : Hp) (ds : List PyData) (d : PyData), Ex Hb H ∧ DpAll K Hb vs ds ∧ g ds = some d ∧
  ∀ v Hb' H', Gr Hb H Hb' H' → Dp K Hb' v d → Q v H'
/-- what is known of the other parts -/
abbrev PreR (X : Cx) (E : List PyData → (PyData → Prop) → Prop) (es : List Expr) (d : PyData) (Hb1 H1 : Hp) (σ : L2.St) (Q : VK) : Prop :=
  ∀ R : List V → Hp → Prop, (∀ (Hb2 H2 : Hp) (vs : List V) (ds : List PyData) (P : PyData → Prop), Gr Hb1 H1 Hb2 H2 → DpAll X.K Hb2 vs ds → E (d :: ds) P → (∀ d v Hb' H', P d → Gr Hb2 H2 Hb' H' → Dp X.K Hb' v d → Q v H') → R vs H2) → WN X es σ H1 R
abbrev PreE (X : Cx) (p : PyData → Prop) (E : List PyData → (PyData → Prop) → Prop) (e0 : Expr) (es : List Expr) (Hb H : Hp) (σ : L2.St) (Q : VK) : Prop :=
  ∀ S : V → Hp → Prop, (∀ (Hb1 H1 : Hp) (v : V) (d : PyData), Gr Hb H Hb1 H1 → Dp X.K Hb1 v d → p d → PreR X E es d Hb1 H1 σ Q → S v H1) → WE X e0 σ H S
abbrev PreRT (X : Cx) (E : List PyData → (PyData → Prop) → Prop) (es : List Expr) (d : PyData) (Hb1 H1 : Hp) (σ : L2.St) (Q : Bool → Hp → Prop) : Prop :=
  ∀ R : List V → Hp → Prop, (∀ (Hb2 H2 : Hp) (vs : List V) (ds : List PyData) (P : Bool → Prop), Gr Hb1 H1 Hb2 H2 → DpAll X.K Hb2 vs ds → E (d :: ds) (fun d => wBool d P) → (∀ b Hb' H', P b → Gr Hb2 H2 Hb' H' → Q b H') → R vs H2) → WN X es σ H1 R
abbrev PreT (X : Cx) (p : PyData → Prop) (E : List PyData → (PyData → Prop) → Prop) (e0 : Expr) (es : List Expr) (Hb H : Hp) (σ : L2.St) (Q : Bool → Hp → Prop) : Prop :=
  ∀ S : V → Hp → Prop, (∀ (Hb1 H1 : Hp) (v : V) (d : PyData), Gr Hb H Hb1 H1 → Dp X.K Hb1 v d → p d → PreRT X E es d Hb1 H1 σ Q → S v H1) → WE X e0 σ H S
/-- a strict piece of syntax by what it does with its parts' data -/
structure XR (X : Cx) (p : PyData → Prop) (E : List PyData → (PyData → Prop) → Prop) (e e0 : Expr) (es : List Expr) : Prop where
  ev : ∀ (Hb H : Hp) (σ : L2.St) (Q : VK), PreE X p E e0 es Hb H σ Q → WE X e σ H Q
  ct : (∀ whole : Sem Value, isTrue e X.env whole = (do let v ← whole; standAt e.pos; holding [v] (truthy v))) ∨
    (∀ (Hb H : Hp) (σ : L2.St) (Q : Bool → Hp → Prop), PreT X p E e0 es Hb H σ Q → WT X e σ H Q)
/-- the context that a piece of syntax may ask for -/
structure XC (X : Cx) (P : Program) (w : World) (K : PySem.W.Frag) (mg : Str → Option Value) (base : Heap) (L : Nat) (sc : Scope) : Prop where
  prog : X.prog = P
  w : X.w = w
  K : X.K = K
  mg : X.mg = mg
  base : X.base = base
  calm : X.calm = true
  room : Room L X.A
  sc : X.env.scope = sc
structure GOK (cf : Cf) (P : Program) (w : World) (K : PySem.W.Frag) (mg : Str → Option Value) (base : Heap) (G : Ga) : Prop where
  blt : ∀ b : Bl, mg (blN b) = none
  rng : mg "range" = none
  con : ∀ n x, cf.names[n]? = some x → ∀ d, G.con n = some d → ∃ v u, mg x = some u ∧ RelV v u ∧ ∀ H, Dp K H v d
  fn : ∀ n x, cf.names[n]? = some x → G.isFn n = true → ∃ f fd ps, mg x = some (.ref f) ∧ PySem.W.keepIn K (.ref f) = true ∧ Binds K fd ps [] ∧ FnOk P w K mg base CX0 cf.L f fd ps (spD K (G.fn n))
  tab : ∀ n x, cf.names[n]? = some x → G.isTab n = true → ∃ a, mg x = some (.ref a) ∧ TabOK P w K a (G.tab n)
  ext : ∀ (X : Cx) (sc : Scope) (k : Nat) (e e0 : Expr) (es : List Expr), XC X P w K mg base cf.L sc → cf.sub sc k e = some (e0, es) → XR X (G.pre k) (G.ext k) e e0 es
structure XOK (X : Cx) (cf : Cf) (G : Ga) : Prop where
  N : X.N = cf.N
  nd : cf.N.Nodup
  sc : X.env.scope = cf.sc
  calm : X.calm = true
  room : Room cf.L X.A
  xe : X.xe = fun _ _ => False
  glb : GOK cf X.prog X.w X.K X.mg X.base G
end Qd

set_option Elab.async false
set_option linter.all false
set_option maxRecDepth 100000
set_option maxHeartbeats 4000000
namespace Qd
open PySem L2
/-! dicts with int and text keys -/
theorem dkey_dp {K : PySem.W.Frag} {H : Hp} {v : V} {d : PyData} {k : Key} (r : Dp K H v d) (h : dkey d = some k) : v = kV k := by
  unfold dkey at h
  split at h
  · cases h
    exact Dp.int_inv r
  · cases h
    exact Dp.str_inv r
  · cases h
theorem dk_any {K : PySem.W.Frag} {H : Hp} (k : Key) : ∀ {kvs : List (Key × V)} {ds : List (PyData × PyData)}, DkAll K H kvs ds → (kvs.any fun kv => decide (kv.1 = k)) = ds.any fun p => decide (dkey p.1 = some k)
  | _, _, .nil => rfl
  | _, _, .int (i := i) r t => by
    rw [List.any_cons, List.any_cons, dk_any k t]
    congr 1
    simp [dkey]
  | _, _, .str (i := i) r t => by
    rw [List.any_cons, List.any_cons, dk_any k t]
    congr 1
    simp [dkey]
theorem dk_map {K : PySem.W.Frag} {H : Hp} (k : Key) {v : V} {d : PyData} (rv : Dp K H v d) : ∀ {kvs : List (Key × V)} {ds : List (PyData × PyData)}, DkAll K H kvs ds → DkAll K H (kvs.map fun kv => if kv.1 = k then (kv.1, v) else kv) (ds.map fun p => if dkey p.1 = some k then (p.1, d) else p)
  | _, _, .nil => .nil
  | _, _, .int (i := i) r t => by
    rw [List.map_cons, List.map_cons]
    by_cases h : (Sum.inl i : Key) = k
    · rw [if_pos h, if_pos (by rw [← h]; rfl)]
      exact .int rv (dk_map k rv t)
    · rw [if_neg h, if_neg (show ¬ dkey (PyData.int i) = some k from fun z => h (Option.some.inj z))]
      exact .int r (dk_map k rv t)
  | _, _, .str (i := i) r t => by
    rw [List.map_cons, List.map_cons]
    by_cases h : (Sum.inr i : Key) = k
    · rw [if_pos h, if_pos (by rw [← h]; rfl)]
      exact .str rv (dk_map k rv t)
    · rw [if_neg h, if_neg (show ¬ dkey (PyData.str i) = some k from fun z => h (Option.some.inj z))]
      exact .str r (dk_map k rv t)
theorem dk_app {K : PySem.W.Frag} {H : Hp} {v : V} {k d : PyData} {kk : Key} (hk : dkey k = some kk) (rv : Dp K H v d) : ∀ {kvs : List (Key × V)} {ds : List (PyData × PyData)}, DkAll K H kvs ds → DkAll K H (kvs ++ [(kk, v)]) (ds ++ [(k, d)])
  | _, _, .nil => by
    unfold dkey at hk
    split at hk
    · cases hk
      exact .int rv .nil
    · cases hk
      exact .str rv .nil
    · cases hk
  | _, _, .int r t => .int r (dk_app hk rv t)
  | _, _, .str r t => .str r (dk_app hk rv t)
theorem dk_put {K : PySem.W.Frag} {H : Hp} {v : V} {k d : PyData} {kk : Key} (hk : dkey k = some kk) (rv : Dp K H v d) {kvs : List (Key × V)} {ds : List (PyData × PyData)} (t : DkAll K H kvs ds) : DkAll K H (putK kvs kk v) (putD ds k d) := by
  unfold putK putD
  rw [dk_any kk t, hk]
  split
  · exact dk_map kk rv t
  · exact dk_app hk rv t
theorem Gr.lock {Hb H Hb' H' : Hp} {D : Addr} {o : HO} (g : Gr Hb H Hb' H') (hD : H D = none) (hb : Hb' D = none) : Gr Hb H (upd Hb' D o) (upd H' D o) := by
  have nb : Hb D = none := none_of_ex g.a hb
  refine ⟨g.a.trans (ex_upd hb), fun p u e => ?_, fun p u e => ?_, fun p u e n => ?_⟩
  · rw [upd_ne (ne_of_none e hD)]
    exact g.b p u e
  · by_cases z : p = D
    · rw [z, upd_same] at e ⊢
      exact e
    · rw [upd_ne z] at e ⊢
      exact g.c p u e
  · rw [upd_ne (ne_of_none e hD)]
    exact g.d p u e n
end Qd

set_option Elab.async false
set_option linter.all false
set_option maxRecDepth 100000
set_option maxHeartbeats 4000000
namespace Qd
open PySem L2

/-- a walk over plain data -/
structure ItOk (K : PySem.W.Frag) (J : It) (Hb : Hp) (xs : List PyData) : Prop where
  go : ∀ i Hb2 H2, Ex Hb Hb2 → Ex Hb2 H2 → i < xs.length → J.go i H2
  stop : ∀ Hb2 H2, Ex Hb Hb2 → Ex Hb2 H2 → J.stop xs.length H2
  yld : ∀ i x Hb2 H2 H3, Ex Hb Hb2 → Ex Hb2 H2 → i < xs.length → J.yld i H2 x H3 → H3 = H2 ∧ ∃ d, xs[i]? = some d ∧ Dp K Hb2 x d

def SE (X : Cx) (G : Ga) (t : T) (e : Expr) : Prop := ∀ (Hb H : Hp) (σ : L2.St) (ρ : Rho) (P : PyData → Prop) (Q : VK), En X.K Hb H σ ρ → wE G t ρ P → (∀ d v Hb' H', P d → Gr Hb H Hb' H' → Dp X.K Hb' v d → Q v H') → WE X e σ H Q
def ST (X : Cx) (G : Ga) (t : T) (e : Expr) : Prop := ∀ (Hb H : Hp) (σ : L2.St) (ρ : Rho) (P : PyData → Prop) (Q : Bool → Hp → Prop), En X.K Hb H σ ρ → wE G t ρ (fun d => wBool d fun b => P (.bool b)) → (∀ b Hb' H', P (.bool b) → Gr Hb H Hb' H' → Q b H') → WT X e σ H Q
def SI (X : Cx) (G : Ga) (t : T) (tg e : Expr) : Prop := ∀ (Hb H : Hp) (σ : L2.St) (ρ : Rho) (P : List PyData → Prop) (R : It → Hp → Prop), En X.K Hb H σ ρ → wI G t ρ P → (∀ xs J Hb' H', P xs → Gr Hb H Hb' H' → ItOk X.K J Hb' xs → R J H') → WI X tg e σ H R
def SA (X : Cx) (G : Ga) (ts : Ts) (es : List Expr) : Prop := ∀ (Hb H : Hp) (σ : L2.St) (ρ : Rho) (P : List PyData → Prop) (Q : List V → Hp → Prop), En X.K Hb H σ ρ → wEs G ts ρ P → (∀ ds vs Hb' H', P ds → Gr Hb H Hb' H' → DpAll X.K Hb' vs ds → Q vs H') → WA X es σ H Q
def SN (X : Cx) (G : Ga) (ts : Ts) (es : List Expr) : Prop := ∀ (Hb H : Hp) (σ : L2.St) (ρ : Rho) (P : List PyData → Prop) (Q : List V → Hp → Prop), En X.K Hb H σ ρ → wEs G ts ρ P → (∀ ds vs Hb' H', P ds → Gr Hb H Hb' H' → DpAll X.K Hb' vs ds → Q vs H') → WN X es σ H Q
def M1 (G : Ga) (t : T) : Prop := (∀ cf X e, XOK X cf G → chkE cf t e = true → SE X G t e) ∧ (∀ cf X e, XOK X cf G → chkC cf t e = true → ST X G t e) ∧ (∀ cf X e tg, XOK X cf G → chkI cf t e = true → SI X G t tg e)
def M2 (G : Ga) (ts : Ts) : Prop := ∀ cf X es, XOK X cf G → chkEs cf ts es = true → SA X G ts es

section
variable {X : Cx} {G : Ga} {cf : Cf} {a b c : T} {x y z : Expr} {Hb H : Hp} {σ : L2.St} {ρ : Rho}

theorem two (ha : SE X G a x) (hb : SE X G b y) {R : PyData → PyData → Prop} {Q : V → V → Hp → Prop} (I : En X.K Hb H σ ρ) (w : wE G a ρ fun d => wE G b ρ fun e => R d e)
    (q : ∀ d e v u Hb' H', R d e → Gr Hb H Hb' H' → Dp X.K Hb' v d → Dp X.K Hb' u e → Q v u H') : WE X x σ H fun v H1 => WE X y σ H1 fun u H2 => Q v u H2 :=
  ha _ _ _ _ _ _ I w fun d v Hb1 H1 w1 g1 r1 => hb _ _ _ _ _ _ (I.mono g1) w1 fun e u Hb2 H2 w2 g2 r2 => q d e v u Hb2 H2 w2 (g1.trans g2) (dp_mono g2.a _ _ r1) r2

theorem notStar_eq {e : Expr} {es : List Expr} {env : Env} (h : notStar e = true) : starEach (e :: es) env = (false, eval e env) :: starEach es env := by
  cases e <;> first | rfl | cases h
theorem vis_of {sc : Scope} {x : Str} (h : visB sc x = true) : Vis sc x := by
  unfold visB at h
  split at h
  · exact .inl ‹_›
  · exact .inr (.inl ‹_›)
  · exact .inr (.inr ‹_›)
  · cases h
theorem loc_of {sc : Scope} {x : Str} (h : locB sc x = true) : Loc sc x := by
  unfold locB at h
  split at h
  · exact .inl ‹_›
  · exact .inr ‹_›
  · cases h
theorem gl_of (ok : XOK X cf G) {x : Str} (h : glB cf.sc x = true) : Gl X x := by
  unfold glB at h
  split at h
  · show X.env.scope.names.lookup x = _
    rw [ok.sc]
    assumption
  · cases h
theorem nm1 {x : Str} (h : nameOk x = true) : (x == ("__debug__" : Str)) = false := by
  unfold nameOk at h
  rw [Bool.and_eq_true] at h
  have := h.1
  cases q : (x == ("__debug__" : Str)) with
  | true => rw [q] at this; cases this
  | false => rfl
theorem nm2 {x : Str} (h : nameOk x = true) : (x == ("__classdict__" : Str)) = false := by
  unfold nameOk at h
  rw [Bool.and_eq_true] at h
  have := h.2
  cases q : (x == ("__classdict__" : Str)) with
  | true => rw [q] at this; cases this
  | false => rfl
theorem chkV_of {i : Nat} {x : Str} (h : chkV cf i x = true) : cf.N[i]? = some x ∧ visB cf.sc x = true ∧ nameOk x = true := by
  unfold chkV at h
  rw [Bool.and_eq_true, Bool.and_eq_true, decide_eq_true_eq] at h
  exact ⟨h.1.1, h.1.2, h.2⟩
theorem chkF_of {i : Nat} {x : Str} (h : chkF cf i x = true) : cf.names[i]? = some x ∧ glB cf.sc x = true ∧ nameOk x = true := by
  unfold chkF at h
  rw [Bool.and_eq_true, Bool.and_eq_true, decide_eq_true_eq] at h
  exact ⟨h.1.1, h.1.2, h.2⟩
theorem hu64 (ok : XOK X cf G) : X.A.units + 65 < cLine := by
  have := ok.room.un
  omega

theorem sv (ok : XOK X cf G) {i : Nat} {n : Str} {p : Pos} (h : chkV cf i n = true) : SE X G (.v i) (.Name n p) := by
  intro Hb H σ ρ P Q I w q
  obtain ⟨h1, h2, h3⟩ := chkV_of h
  refine ⟨_, pe_var (i := i) (by rw [ok.N]; exact h1) (vis_of (by rw [ok.sc]; exact h2)) (nm1 h3) (nm2 h3), ?_⟩
  unfold wE at w
  split at w
  · rename_i d e
    obtain ⟨v, e1, e2⟩ := I.dat i d e
    exact ⟨v, e1, q d v Hb H w (Gr.refl I.ex) e2⟩
  · rename_i d e
    obtain ⟨v, e1, e2⟩ := I.wri i d e
    exact ⟨v, e1, q d v Hb H w (Gr.refl I.ex) (WrD.dp _ _ e2)⟩
  · exact w.elim
theorem sk {d : PyData} {e : Expr} (h : isConst d e = true) : SE X G (.k d) e := by
  intro Hb H σ ρ P Q I w q
  unfold isConst at h
  split at h
  · exact ⟨_, pe_non, q _ _ _ _ w (Gr.refl I.ex) .non⟩
  · have e := eq_of_beq h
    subst e
    exact ⟨_, pe_bl, q _ _ _ _ w (Gr.refl I.ex) (.bl _)⟩
  · have e := of_decide_eq_true h
    subst e
    exact ⟨_, pe_int, q _ _ _ _ w (Gr.refl I.ex) (.int _)⟩
  · have e := of_decide_eq_true h
    subst e
    exact ⟨_, pe_str, q _ _ _ _ w (Gr.refl I.ex) (.str _)⟩
  · cases h
theorem sgl (ok : XOK X cf G) {n : Nat} {s : Str} {p : Pos} (h : chkF cf n s = true) : SE X G (.gl n) (.Name s p) := by
  intro Hb H σ ρ P Q I w q
  obtain ⟨h1, h2, h3⟩ := chkF_of h
  obtain ⟨d, e0, w⟩ := w
  obtain ⟨v, u, e1, e2, e3⟩ := ok.glb.con n s h1 d e0
  exact ⟨_, pe_glob (gl_of ok h2) e1 e2 (nm1 h3), q _ v Hb H w (Gr.refl I.ex) (e3 _)⟩
theorem sbin {o : BO} {op : Operator} {p : Pos} (e : isOp op (boP o) = true) (ha : SE X G a x) (hb : SE X G b y) : SE X G (.bin o a b) (.BinOp x op y p) := by
  intro Hb H σ ρ P Q I w q
  cases isOp_eq e
  have key : ∀ {r : R2}, OpR X (binaryOp (boP o)) r → (∀ i j H', (opI o i j fun d => ∃ k, d = .int k ∧ Q (.int k) H') → r (.int i) (.int j) H' Q) → WE X (.BinOp x (boP o) y p) σ H Q := fun {r} ho hr => by
    refine ⟨_, pe_op ho pe_W pe_W, ?_⟩
    refine two ha hb I w fun d e v u Hb' H' w' g r1 r2 => ?_
    unfold wBin at w'
    split at w'
    · rename_i i j
      cases Dp.int_inv r1
      cases Dp.int_inv r2
      refine hr i j H' ?_
      cases o
      all_goals (first | exact ⟨_, rfl, q _ _ Hb' H' w' g (.int _)⟩ | exact ⟨w'.1, _, rfl, q _ _ Hb' H' w'.2 g (.int _)⟩)
    · exact w'.elim
  cases o
  · exact key op_add fun i j H' ⟨k, e, z⟩ => ⟨i, j, rfl, rfl, by cases e; exact z⟩
  · exact key op_sub fun i j H' ⟨k, e, z⟩ => ⟨i, j, rfl, rfl, by cases e; exact z⟩
  · exact key op_mul fun i j H' ⟨c, k, e, z⟩ => ⟨i, j, rfl, rfl, c, by cases e; exact z⟩
  · exact key op_fdiv fun i j H' ⟨c, k, e, z⟩ => ⟨i, j, rfl, rfl, c, by cases e; exact z⟩
  · exact key op_mod fun i j H' ⟨c, k, e, z⟩ => ⟨i, j, rfl, rfl, c, by cases e; exact z⟩
  · exact key op_pow fun i j H' ⟨c, k, e, z⟩ => ⟨i, j, rfl, rfl, c, by cases e; exact z⟩
theorem sneg {p : Pos} (ha : SE X G a x) : SE X G (.neg a) (.UnaryOp .USub x p) := by
  intro Hb H σ ρ P Q I w q
  refine ⟨_, pe_un un_neg pe_W, ?_⟩
  refine ha _ _ _ _ _ _ I w fun d v Hb' H' w' g r => ?_
  unfold wNeg at w'
  split at w'
  · cases Dp.int_inv r
    exact ⟨_, rfl, q _ _ Hb' H' w' g (.int _)⟩
  · exact w'.elim
/-- comparisons by values -/
theorem cmpR (ok : XOK X cf G) {o : CO} : ∃ r : R2, OpR X (compareOp (coP o)) r ∧ ∀ d e v u (Hb H : Hp) (R : Bool → Prop) (Q : VK), wCmp o d e R → Ex Hb H → Dp X.K Hb v d → Dp X.K Hb u e → (∀ b, R b → Q (.bl b) H) → r v u H Q := by
  have hint : ∀ {p : Int → Int → Bool} {d e : PyData} {v u : V} {Hb H : Hp} {R : Bool → Prop} {Q : VK}, (match d, e with | .int i, .int j => R (p i j) | _, _ => False) → Dp X.K Hb v d → Dp X.K Hb u e → (∀ b, R b → Q (.bl b) H) →
      ∃ i j, v = .int i ∧ u = .int j ∧ Q (.bl (p i j)) H := fun {p d e v u Hb H R Q} w r1 r2 q => by
    split at w
    · cases Dp.int_inv r1
      cases Dp.int_inv r2
      exact ⟨_, _, rfl, rfl, q _ w⟩
    · exact w.elim
  cases o
  · exact ⟨_, op_lt, fun d e v u Hb H R Q w ex r1 r2 q => hint (p := fun i j => decide (i < j)) w r1 r2 q⟩
  · exact ⟨_, op_le, fun d e v u Hb H R Q w ex r1 r2 q => hint (p := fun i j => decide (i ≤ j)) w r1 r2 q⟩
  · exact ⟨_, op_gt, fun d e v u Hb H R Q w ex r1 r2 q => hint (p := fun i j => decide (j < i)) w r1 r2 q⟩
  · exact ⟨_, op_ge, fun d e v u Hb H R Q w ex r1 r2 q => hint (p := fun i j => decide (j ≤ i)) w r1 r2 q⟩
  · exact ⟨_, op_eqD (by have := hu64 ok; omega), fun d e v u Hb H R Q w ex r1 r2 q => ⟨d, e, Dp.l2 _ _ w.1.2.2.1 (dp_mono ex _ _ r1), Dp.l2 _ _ w.1.2.2.2 (dp_mono ex _ _ r2), w.1.1, w.1.2.1, q _ w.2⟩⟩
  · exact ⟨_, op_neD (by have := hu64 ok; omega), fun d e v u Hb H R Q w ex r1 r2 q => ⟨d, e, Dp.l2 _ _ w.1.2.2.1 (dp_mono ex _ _ r1), Dp.l2 _ _ w.1.2.2.2 (dp_mono ex _ _ r2), w.1.1, w.1.2.1, q _ w.2⟩⟩
theorem not_t {b : Bool} (h : (!b) = true) : b = false := by
  cases b
  · rfl
  · cases h
theorem scmp (ok : XOK X cf G) {o : CO} {op : CmpOp} {p : Pos} (e : isCo op (coP o) = true) (hm : (!behindInMarks op y) = true) (ha : SE X G a x) (hb : SE X G b y) : SE X G (.cmp o a b) (.Compare x [op] [y] p) := by
  intro Hb H σ ρ P Q I w q
  cases isCo_eq e
  obtain ⟨r, ho, hr⟩ := cmpR ok (o := o)
  refine ⟨_, pe_cmpR ho pe_W pe_W (not_t hm), ?_⟩
  exact two ha hb I w fun d e v u Hb' H' w' g r1 r2 => hr d e v u Hb' H' _ _ w' g.c r1 r2 fun b z => q _ _ Hb' H' z g (.bl b)
theorem tcmp (ok : XOK X cf G) {o : CO} {op : CmpOp} {p : Pos} (e : isCo op (coP o) = true) (hm : (!behindInMarks op y) = true) (ha : SE X G a x) (hb : SE X G b y) : ST X G (.cmp o a b) (.Compare x [op] [y] p) := by
  intro Hb H σ ρ P Q I w q
  cases isCo_eq e
  obtain ⟨r, ho, hr⟩ := cmpR ok (o := o)
  refine ⟨_, pt_cmpR ho pe_W pe_W (not_t hm), ?_⟩
  refine two ha hb I w fun d e v u Hb' H' w' g r1 r2 => hr d e v u Hb' H' _ _ w' g.c r1 r2 fun b z => ⟨b, rfl, q b Hb' H' z g⟩
theorem schain (ok : XOK X cf G) {o o' : CO} {op op' : CmpOp} {p : Pos} (e : isCo op (coP o) = true) (e' : isCo op' (coP o') = true) (hm : (!lastMarks [op, op'] [y, z]) = true) (ha : SE X G a x) (hb : SE X G b y) (hc : SE X G c z) :
    SE X G (.chain o o' a b c) (.Compare x [op, op'] [y, z] p) := by
  intro Hb H σ ρ P Q I w q
  cases isCo_eq e
  cases isCo_eq e'
  obtain ⟨r, ho, hr⟩ := cmpR ok (o := o)
  obtain ⟨r', ho', hr'⟩ := cmpR ok (o := o')
  refine ⟨_, pe_chain ho ho' pe_W pe_W pe_W (not_t hm), ?_⟩
  refine two ha hb I w fun d e v u Hb' H' w' g r1 r2 => hr d e v u Hb' H' _ _ w' g.c r1 r2 fun k z => ⟨k, rfl, ?_⟩
  cases k with
  | true =>
    rw [if_pos rfl]
    exact hc _ _ _ _ _ _ (I.mono g) (z.1 rfl) fun f t Hb2 H2 w2 g2 r3 => hr' e f u t Hb2 H2 _ _ w2 g2.c (dp_mono g2.a _ _ r2) r3 fun b z => q _ _ Hb2 H2 z (g.trans g2) (.bl b)
  | false =>
    rw [if_neg (by decide)]
    exact q _ _ Hb' H' (z.2 rfl) g (.bl false)
theorem tchain (ok : XOK X cf G) {o o' : CO} {op op' : CmpOp} {p : Pos} (e : isCo op (coP o) = true) (e' : isCo op' (coP o') = true) (hm : (!lastMarks [op, op'] [y, z]) = true) (ha : SE X G a x) (hb : SE X G b y) (hc : SE X G c z) :
    ST X G (.chain o o' a b c) (.Compare x [op, op'] [y, z] p) := by
  intro Hb H σ ρ P Q I w q
  cases isCo_eq e
  cases isCo_eq e'
  obtain ⟨r, ho, hr⟩ := cmpR ok (o := o)
  obtain ⟨r', ho', hr'⟩ := cmpR ok (o := o')
  refine ⟨_, pt_chain ho ho' pe_W pe_W pe_W (not_t hm), ?_⟩
  refine two ha hb I w fun d e v u Hb' H' w' g r1 r2 => hr d e v u Hb' H' _ _ w' g.c r1 r2 fun k z => ⟨k, rfl, ?_⟩
  cases k with
  | true =>
    rw [if_pos rfl]
    exact hc _ _ _ _ _ _ (I.mono g) (z.1 rfl) fun f t Hb2 H2 w2 g2 r3 => hr' e f u t Hb2 H2 _ _ w2 g2.c (dp_mono g2.a _ _ r2) r3 fun b z => ⟨b, rfl, q b Hb2 H2 z (g.trans g2)⟩
  | false =>
    rw [if_neg (by decide)]
    exact ⟨false, rfl, q _ Hb' H' (z.2 rfl) g⟩
theorem isNone_dp {K : PySem.W.Frag} {v : V} {d : PyData} (r : Dp K H v d) : decide (v = .non) = isNone d := by
  cases r <;> rfl
theorem sisN {p p' : Pos} {j : Nat} (ha : SE X G a x) : SE X G (.isN a) (.Compare x [.Is] [.Constant .none j p'] p) := by
  intro Hb H σ ρ P Q I w q
  refine ⟨_, pe_cmpR op_isN pe_W pe_non rfl, ?_⟩
  exact ha _ _ _ _ _ _ I w fun d v Hb' H' w' g r => ⟨rfl, by rw [isNone_dp r]; exact q _ _ Hb' H' w' g (.bl _)⟩
theorem tisN {p p' : Pos} {j : Nat} (ha : SE X G a x) : ST X G (.isN a) (.Compare x [.Is] [.Constant .none j p'] p) := by
  intro Hb H σ ρ P Q I w q
  refine ⟨_, pt_cmpR op_isN pe_W pe_non rfl, ?_⟩
  exact ha _ _ _ _ _ _ I w fun d v Hb' H' w' g r => ⟨rfl, _, rfl, by rw [isNone_dp r]; exact q _ Hb' H' w' g⟩
theorem snotN {p p' : Pos} {j : Nat} (ha : SE X G a x) : SE X G (.notN a) (.Compare x [.IsNot] [.Constant .none j p'] p) := by
  intro Hb H σ ρ P Q I w q
  refine ⟨_, pe_cmpR op_notN pe_W pe_non rfl, ?_⟩
  exact ha _ _ _ _ _ _ I w fun d v Hb' H' w' g r => ⟨rfl, by rw [isNone_dp r]; exact q _ _ Hb' H' w' g (.bl _)⟩
theorem tnotN {p p' : Pos} {j : Nat} (ha : SE X G a x) : ST X G (.notN a) (.Compare x [.IsNot] [.Constant .none j p'] p) := by
  intro Hb H σ ρ P Q I w q
  refine ⟨_, pt_cmpR op_notN pe_W pe_non rfl, ?_⟩
  exact ha _ _ _ _ _ _ I w fun d v Hb' H' w' g r => ⟨rfl, _, rfl, by rw [isNone_dp r]; exact q _ Hb' H' w' g⟩
end
end Qd

set_option Elab.async false
set_option linter.all false
set_option maxRecDepth 100000
set_option maxHeartbeats 4000000
namespace Qd
open PySem L2
section
variable {X : Cx} {G : Ga} {cf : Cf} {a b c : T} {x y z : Expr} {Hb H : Hp} {σ : L2.St} {ρ : Rho}

theorem flat_dp {K : PySem.W.Frag} {v : V} {d : PyData} (r : Dp K H v d) (f : flatD d = true) : flatV v = true := by
  cases r <;> first | rfl | cases f
theorem eqv_dp {K : PySem.W.Frag} {v u : V} {d e : PyData} (r : Dp K H v d) (r' : Dp K H u e) (f : flatD d = true) (f' : flatD e = true) : eqV v u = PyData.eqv d e := by
  cases r <;> cases r' <;> first | rfl | cases f | cases f' | (simp [eqV, PyData.eqv])
theorem all_flat {K : PySem.W.Frag} : ∀ {vs : List V} {ds : List PyData}, DpAll K H vs ds → ds.all flatD = true → vs.all flatV = true
  | _, _, .nil, _ => rfl
  | _, _, .cons r t, f => by
    rw [List.all_cons, Bool.and_eq_true] at f ⊢
    exact ⟨flat_dp r f.1, all_flat t f.2⟩
theorem any_dp {K : PySem.W.Frag} {v : V} {d : PyData} (r : Dp K H v d) (f : flatD d = true) : ∀ {vs : List V} {ds : List PyData}, DpAll K H vs ds → ds.all flatD = true → inV v vs = ds.any fun z => PyData.eqv z d
  | _, _, .nil, _ => rfl
  | _, _, .cons r' t, g => by
    rw [List.all_cons, Bool.and_eq_true] at g
    have ih := any_dp r f t g.2
    unfold inV at ih ⊢
    rw [List.any_cons, List.any_cons, eqv_dp r' r g.1 f, ih]
/-- membership, both readings at once -/
def rInB (K : PySem.W.Frag) (neg : Bool) : R2 := fun x y H Q => rIn K neg x y H Q ∨ (if neg = true then rNotInD K x y H Q else rInD K x y H Q)
theorem op_inB (ok : XOK X cf G) : OpR X (compareOp .In) (rInB X.K false) := by
  intro pins s σ H x y v u Q I rx ry h
  rcases h with h | h
  · exact op_in_seq pins s σ H x y v u Q I rx ry h
  · exact op_inD (hu64 ok) pins s σ H x y v u Q I rx ry h
theorem op_niB (ok : XOK X cf G) : OpR X (compareOp .NotIn) (rInB X.K true) := by
  intro pins s σ H x y v u Q I rx ry h
  rcases h with h | h
  · exact op_notIn_seq pins s σ H x y v u Q I rx ry h
  · exact op_notInD (hu64 ok) pins s σ H x y v u Q I rx ry h
theorem in_of {K : PySem.W.Frag} {neg : Bool} {d e : PyData} {v u : V} {Hb H : Hp} {R : Bool → Prop} {Q : VK} (w : wIn d e R) (ex : Ex Hb H) (r1 : Dp K Hb v d) (r2 : Dp K Hb u e) (q : ∀ b, R b → Q (.bl (if neg then !b else b)) H) : rInB K neg v u H Q := by
  cases e with
  | list ds =>
    right
    cases neg with
    | true => exact ⟨d, ds, Dp.l2 _ _ w.1.2.2.1 (dp_mono ex _ _ r1), Dp.l2 (.list ds) _ (by rw [plainD]; exact w.1.2.2.2) (dp_mono ex _ _ r2), w.1.1, w.1.2.1, q _ w.2⟩
    | false => exact ⟨d, ds, Dp.l2 _ _ w.1.2.2.1 (dp_mono ex _ _ r1), Dp.l2 (.list ds) _ (by rw [plainD]; exact w.1.2.2.2) (dp_mono ex _ _ r2), w.1.1, w.1.2.1, q _ w.2⟩
  | tuple ds =>
    left
    obtain ⟨p, xs, rfl, h1, h2⟩ := Dp.tup_inv r2
    refine ⟨p, xs, rfl, Or.inr (sqt_mono ex h1), flat_dp r1 w.1, all_flat h2 w.2.1, ?_⟩
    rw [any_dp r1 w.1 h2 w.2.1]
    exact q _ w.2.2
  | _ => exact (show False from w).elim
theorem sisin (ok : XOK X cf G) {p : Pos} (hm : (!behindInMarks .In y) = true) (ha : SE X G a x) (hb : SE X G b y) : SE X G (.isin a b) (.Compare x [.In] [y] p) := by
  intro Hb H σ ρ P Q I w q
  refine ⟨_, pe_cmpR (op_inB ok) pe_W pe_W (not_t hm), ?_⟩
  exact two ha hb I w fun d e v u Hb' H' w' g r1 r2 => in_of w' g.c r1 r2 fun b z => q _ _ Hb' H' z g (.bl b)
theorem tisin (ok : XOK X cf G) {p : Pos} (hm : (!behindInMarks .In y) = true) (ha : SE X G a x) (hb : SE X G b y) : ST X G (.isin a b) (.Compare x [.In] [y] p) := by
  intro Hb H σ ρ P Q I w q
  refine ⟨_, pt_cmpR (op_inB ok) pe_W pe_W (not_t hm), ?_⟩
  exact two ha hb I w fun d e v u Hb' H' w' g r1 r2 => in_of w' g.c r1 r2 fun b z => ⟨b, rfl, q b Hb' H' z g⟩
theorem snotin (ok : XOK X cf G) {p : Pos} (hm : (!behindInMarks .NotIn y) = true) (ha : SE X G a x) (hb : SE X G b y) : SE X G (.notin a b) (.Compare x [.NotIn] [y] p) := by
  intro Hb H σ ρ P Q I w q
  refine ⟨_, pe_cmpR (op_niB ok) pe_W pe_W (not_t hm), ?_⟩
  exact two ha hb I w fun d e v u Hb' H' w' g r1 r2 => in_of w' g.c r1 r2 fun b z => q _ _ Hb' H' z g (.bl (!b))
theorem tnotin (ok : XOK X cf G) {p : Pos} (hm : (!behindInMarks .NotIn y) = true) (ha : SE X G a x) (hb : SE X G b y) : ST X G (.notin a b) (.Compare x [.NotIn] [y] p) := by
  intro Hb H σ ρ P Q I w q
  refine ⟨_, pt_cmpR (op_niB ok) pe_W pe_W (not_t hm), ?_⟩
  exact two ha hb I w fun d e v u Hb' H' w' g r1 r2 => in_of w' g.c r1 r2 fun b z => ⟨!b, rfl, q _ Hb' H' z g⟩
theorem wBool_inv {d : PyData} {R : Bool → Prop} (w : wBool d R) : ∃ b, d = .bool b ∧ R b := by
  unfold wBool at w
  split at w
  · exact ⟨_, rfl, w⟩
  · exact w.elim
theorem len0_nil {α : Type} {r : List α} (h : len0 r = true) : r = [] := by
  cases r with
  | nil => rfl
  | cons _ _ => cases h
theorem sand {r : List Expr} {p : Pos} (ha : SE X G a x) (hb : (if len0 r = true then SE X G b y else SE X G b (.BoolOp .And (y :: r) p))) : SE X G (.and a b) (.BoolOp .And (x :: y :: r) p) := by
  intro Hb H σ ρ P Q I w q
  have hb' : PE X (.BoolOp .And (y :: r) p) (if len0 r = true then WE X y else WE X (.BoolOp .And (y :: r) p)) := by
    by_cases h : len0 r = true
    · cases len0_nil h
      exact pe_one pe_W
    · rw [if_neg h]
      exact pe_W
  refine ⟨_, pe_and pe_W hb', ?_⟩
  refine ha _ _ _ _ _ _ I w fun d v Hb1 H1 w1 g1 r1 => ?_
  obtain ⟨k, rfl, w2⟩ := wBool_inv w1
  refine ⟨k, Dp.bl_inv r1, ?_⟩
  cases k with
  | false =>
    rw [if_neg (by decide)]
    exact q _ _ Hb1 H1 (w2.2 rfl) g1 (.bl false)
  | true =>
    rw [if_pos rfl]
    have fin : ∀ d v Hb' H', (wBool d fun b => P (.bool b)) → Gr Hb1 H1 Hb' H' → Dp X.K Hb' v d → Q v H' := fun d v Hb' H' w' g r => by
      obtain ⟨b, rfl, w3⟩ := wBool_inv w'
      exact q _ _ Hb' H' w3 (g1.trans g) r
    by_cases h : len0 r = true
    · rw [if_pos h] at hb ⊢
      exact hb _ _ _ _ _ _ (I.mono g1) (w2.1 rfl) fin
    · rw [if_neg h] at hb ⊢
      exact hb _ _ _ _ _ _ (I.mono g1) (w2.1 rfl) fin
theorem sor {r : List Expr} {p : Pos} (ha : SE X G a x) (hb : (if len0 r = true then SE X G b y else SE X G b (.BoolOp .Or (y :: r) p))) : SE X G (.or a b) (.BoolOp .Or (x :: y :: r) p) := by
  intro Hb H σ ρ P Q I w q
  have hb' : PE X (.BoolOp .Or (y :: r) p) (if len0 r = true then WE X y else WE X (.BoolOp .Or (y :: r) p)) := by
    by_cases h : len0 r = true
    · cases len0_nil h
      exact pe_one pe_W
    · rw [if_neg h]
      exact pe_W
  refine ⟨_, pe_or pe_W hb', ?_⟩
  refine ha _ _ _ _ _ _ I w fun d v Hb1 H1 w1 g1 r1 => ?_
  obtain ⟨k, rfl, w2⟩ := wBool_inv w1
  refine ⟨k, Dp.bl_inv r1, ?_⟩
  cases k with
  | true =>
    rw [if_pos rfl]
    exact q _ _ Hb1 H1 (w2.1 rfl) g1 (.bl true)
  | false =>
    rw [if_neg (by decide)]
    have fin : ∀ d v Hb' H', (wBool d fun b => P (.bool b)) → Gr Hb1 H1 Hb' H' → Dp X.K Hb' v d → Q v H' := fun d v Hb' H' w' g r => by
      obtain ⟨b, rfl, w3⟩ := wBool_inv w'
      exact q _ _ Hb' H' w3 (g1.trans g) r
    by_cases h : len0 r = true
    · rw [if_pos h] at hb ⊢
      exact hb _ _ _ _ _ _ (I.mono g1) (w2.2 rfl) fin
    · rw [if_neg h] at hb ⊢
      exact hb _ _ _ _ _ _ (I.mono g1) (w2.2 rfl) fin
theorem snot {p : Pos} (ha : SE X G a x) : SE X G (.not a) (.UnaryOp .Not x p) := by
  intro Hb H σ ρ P Q I w q
  refine ⟨_, pe_not pe_W, ?_⟩
  refine ha _ _ _ _ _ _ I w fun d v Hb1 H1 w1 g1 r1 => ?_
  obtain ⟨k, rfl, w2⟩ := wBool_inv w1
  exact ⟨k, Dp.bl_inv r1, q _ _ Hb1 H1 w2 g1 (.bl _)⟩
theorem tnot {p : Pos} (ha : ST X G a x) : ST X G (.not a) (.UnaryOp .Not x p) := by
  intro Hb H σ ρ P Q I w q
  refine ⟨_, pt_not pt_W, ?_⟩
  refine ha _ _ _ _ (fun d => wBool d fun c => P (.bool (!c))) _ I ?_ fun k Hb1 H1 w1 g1 => q _ Hb1 H1 w1 g1
  exact w
/-- tests as chains: the weak form of a BoolOp test -/
def SW (X : Cx) (G : Ga) (t : T) (e : Expr) : Prop := ∀ (Hb H : Hp) (σ : L2.St) (ρ : Rho) (P : PyData → Prop) (Q : Bool → Hp → Prop), En X.K Hb H σ ρ → wE G t ρ (fun d => wBool d fun b => P (.bool b)) → (∀ b Hb' H', P (.bool b) → Gr Hb H Hb' H' → Q b H') → WW X e σ H Q
theorem ST.of_sw {t : T} {e : Expr} (h : SW X G t e) : ST X G t e := fun Hb H σ ρ P Q I w q => by
  obtain ⟨tt, h1, h2⟩ := h Hb H σ ρ P Q I w q
  exact ⟨tt, h1.pt, h2⟩
end
end Qd

set_option Elab.async false
set_option linter.all false
set_option maxRecDepth 100000
set_option maxHeartbeats 4000000
namespace Qd
open PySem L2
section
variable {X : Cx} {G : Ga} {cf : Cf} {a b c : T} {x y z : Expr} {Hb H : Hp} {σ : L2.St} {ρ : Rho} {ts : Ts} {es : List Expr}

theorem tand {r : List Expr} {p : Pos} (ha : ST X G a x) (hb : (if len0 r = true then ST X G b y else SW X G b (.BoolOp .And (y :: r) p))) : SW X G (.and a b) (.BoolOp .And (x :: y :: r) p) := by
  intro Hb H σ ρ P Q I w q
  have hb' : PW X (.BoolOp .And (y :: r) p) (if len0 r = true then WT X y else WW X (.BoolOp .And (y :: r) p)) := by
    by_cases h : len0 r = true
    · cases len0_nil h
      exact pw_and1 pt_W
    · rw [if_neg h]
      exact pw_W
  refine ⟨_, pw_and pt_W hb', ?_⟩
  refine ha _ _ _ _ (fun d => wBool d fun k => (k = true → wE G b ρ fun y => wBool y fun d => P (.bool d)) ∧ (k = false → P (.bool false))) _ I ?_ fun k Hb1 H1 w2 g1 => ?_
  · have e : ∀ d, (wBool d fun c => (c = true → wE G b ρ fun y => wBool y fun d => wBool (.bool d) fun b => P (.bool b)) ∧ (c = false → wBool (.bool false) fun b => P (.bool b))) = (wBool d fun b_1 => wBool (PyData.bool b_1) fun k => (k = true → wE G b ρ fun y => wBool y fun d => P (.bool d)) ∧ (k = false → P (.bool false))) := fun d => rfl
    have w : wE G a ρ (fun d => wBool d fun c => (c = true → wE G b ρ fun y => wBool y fun d => wBool (.bool d) fun b => P (.bool b)) ∧ (c = false → wBool (.bool false) fun b => P (.bool b))) := w
    exact w
  cases k with
  | false =>
    show (if false = true then _ else _)
    rw [if_neg (by decide)]
    exact q _ Hb1 H1 (w2.2 rfl) g1
  | true =>
    show (if true = true then _ else _)
    rw [if_pos rfl]
    by_cases h : len0 r = true
    · rw [if_pos h] at hb ⊢
      exact hb _ _ _ _ P _ (I.mono g1) (w2.1 rfl) fun b Hb2 H2 w3 g2 => q b Hb2 H2 w3 (g1.trans g2)
    · rw [if_neg h] at hb ⊢
      exact hb _ _ _ _ P _ (I.mono g1) (w2.1 rfl) fun b Hb2 H2 w3 g2 => q b Hb2 H2 w3 (g1.trans g2)
theorem tor {r : List Expr} {p : Pos} (ha : ST X G a x) (hb : (if len0 r = true then ST X G b y else SW X G b (.BoolOp .Or (y :: r) p))) : SW X G (.or a b) (.BoolOp .Or (x :: y :: r) p) := by
  intro Hb H σ ρ P Q I w q
  have hb' : PW X (.BoolOp .Or (y :: r) p) (if len0 r = true then WT X y else WW X (.BoolOp .Or (y :: r) p)) := by
    by_cases h : len0 r = true
    · cases len0_nil h
      exact pw_or1 pt_W
    · rw [if_neg h]
      exact pw_W
  refine ⟨_, pw_or pt_W hb', ?_⟩
  refine ha _ _ _ _ (fun d => wBool d fun k => (k = true → P (.bool true)) ∧ (k = false → wE G b ρ fun y => wBool y fun d => P (.bool d))) _ I ?_ fun k Hb1 H1 w2 g1 => ?_
  · have w : wE G a ρ (fun d => wBool d fun c => (c = true → wBool (.bool true) fun b => P (.bool b)) ∧ (c = false → wE G b ρ fun y => wBool y fun d => wBool (.bool d) fun b => P (.bool b))) := w
    exact w
  cases k with
  | true =>
    show (if true = true then _ else _)
    rw [if_pos rfl]
    exact q _ Hb1 H1 (w2.1 rfl) g1
  | false =>
    show (if false = true then _ else _)
    rw [if_neg (by decide)]
    by_cases h : len0 r = true
    · rw [if_pos h] at hb ⊢
      exact hb _ _ _ _ P _ (I.mono g1) (w2.2 rfl) fun b Hb2 H2 w3 g2 => q b Hb2 H2 w3 (g1.trans g2)
    · rw [if_neg h] at hb ⊢
      exact hb _ _ _ _ P _ (I.mono g1) (w2.2 rfl) fun b Hb2 H2 w3 g2 => q b Hb2 H2 w3 (g1.trans g2)
theorem site {p : Pos} (hc : ST X G c z) (ha : SE X G a x) (hb : SE X G b y) : SE X G (.ite c a b) (.IfExp z x y p) := by
  intro Hb H σ ρ P Q I w q
  refine ⟨_, pe_ifExp pt_W pe_W pe_W, ?_⟩
  refine hc _ _ _ _ (fun d => wBool d fun k => (k = true → wE G a ρ P) ∧ (k = false → wE G b ρ P)) _ I w fun k Hb1 H1 w1 g1 => ?_
  cases k with
  | true =>
    rw [if_pos rfl]
    exact ha _ _ _ _ _ _ (I.mono g1) (w1.1 rfl) fun d v Hb2 H2 w2 g2 r2 => q d v Hb2 H2 w2 (g1.trans g2) r2
  | false =>
    rw [if_neg (by decide)]
    exact hb _ _ _ _ _ _ (I.mono g1) (w1.2 rfl) fun d v Hb2 H2 w2 g2 r2 => q d v Hb2 H2 w2 (g1.trans g2) r2
theorem sz_of {n : Nat} (h : n ≤ 100000) : n ≤ sizeLine := Nat.le_trans h (by decide)
theorem sz_lt {n : Nat} (h : n < 100000) : n < sizeLine := Nat.lt_of_lt_of_le h (by decide)
theorem stup {k : Nat} {p : Pos} (h : SA X G ts es) : SE X G (.tup ts) (.Tuple es k p) := by
  intro Hb H σ ρ P Q I w q
  refine ⟨_, pe_tup pa_W, ?_⟩
  refine h _ _ _ _ _ _ I w fun ds vs Hb1 H1 w1 g1 r1 => ⟨sz_of (by rw [dpa_len r1]; exact w1.1), fun t ht => ?_⟩
  have g2 := Gr.new g1.c ht (.tup vs)
  exact q _ _ _ _ w1.2 (g1.trans g2) (.tup (SqT.of upd_same) (dpa_mono g2.a _ _ r1))
/-- a new list, not yet data -/
def SF (X : Cx) (G : Ga) (t : T) (e : Expr) : Prop := ∀ (Hb H : Hp) (σ : L2.St) (ρ : Rho) (P : PyData → Prop) (Q : VK), En X.K Hb H σ ρ → wE G t ρ P → (∀ ds p vs Hb' H', P (.list ds) → Gr Hb H Hb' H' → H p = none → Hb' p = none → H' p = some (.lst vs) → DpAll X.K Hb' vs ds → Q (.ref p) H') → WE X e σ H Q
theorem SF.se {t : T} {e : Expr} (h : SF X G t e) : SE X G t e := fun Hb H σ ρ P Q I w q =>
  h Hb H σ ρ P Q I w fun ds p vs Hb' H' w1 g hp hb hl r => by
    have e1 : Ex Hb' (upd Hb' p (.lst vs)) := ex_upd hb
    refine q _ _ (upd Hb' p (.lst vs)) H' w1 ⟨g.a.trans e1, g.b, fun a o z => ?_, fun a o z n => ?_⟩ (.lst (SqL.of upd_same) (dpa_mono e1 _ _ r))
    · by_cases k : a = p
      · rw [k, upd_same] at z
        rw [k, hl]
        exact z
      · rw [upd_ne k] at z
        exact g.c a o z
    · rw [upd_ne (ne_of_none z hp)]
      exact g.d a o z n
theorem flst {p : Pos} (h : SA X G ts es) : SF X G (.lst ts) (.List es p) := by
  intro Hb H σ ρ P Q I w q
  refine ⟨_, pe_lst pa_W, ?_⟩
  refine h _ _ _ _ _ _ I w fun ds vs Hb1 H1 w1 g1 r1 => ⟨sz_of (by rw [dpa_len r1]; exact w1.1), fun t ht => ?_⟩
  exact q _ t vs Hb1 _ w1.2 ⟨g1.a, g1.b.trans (ex_upd ht), g1.c.trans (ex_upd ht), g1.d⟩ (none_of_ex g1.b ht) (none_of_ex g1.c ht) upd_same r1
theorem notSlice_ix {e : Expr} (h : notSlice e = true) : PlainIx e := by
  intro o i
  cases e <;> first | rfl | cases h
theorem six {p : Pos} (hs : notSlice y = true) (ha : SE X G a x) (hb : SE X G b y) : SE X G (.ix a b) (.Subscript x y p) := by
  intro Hb H σ ρ P Q I w q
  refine ⟨_, pe_ix ix_seq pe_W pe_W (notSlice_ix hs), ?_⟩
  refine two ha hb I w fun d e v u Hb' H' w' g r1 r2 => ?_
  unfold wIx at w'
  split at w'
  · obtain ⟨d, h1, h2⟩ := w'
    obtain ⟨p, xs, rfl, h3, h4⟩ := Dp.lst_inv r1
    cases Dp.int_inv r2
    obtain ⟨v, h5, h6⟩ := atI_dp h4 h1
    exact .inl ⟨p, xs, _, v, rfl, rfl, sql_mono g.c h3, h5, q _ _ Hb' H' h2 g h6⟩
  · obtain ⟨d, h1, h2⟩ := w'
    obtain ⟨p, xs, rfl, h3, h4⟩ := Dp.tup_inv r1
    cases Dp.int_inv r2
    obtain ⟨v, h5, h6⟩ := atI_dp h4 h1
    exact .inr (.inl ⟨p, xs, _, v, rfl, rfl, sqt_mono g.c h3, h5, q _ _ Hb' H' h2 g h6⟩)
  · exact w'.elim
theorem po_of {o : Option Int} {e : Option Expr} (h : isPart o e = true) : ∃ t : TO, PO X e t ∧ ∀ σ H Q, Q o H → t σ H Q := by
  unfold isPart at h
  split at h
  · exact ⟨_, po_none, fun _ _ _ q => q⟩
  · cases of_decide_eq_true h
    exact ⟨_, po_some pe_int, fun _ _ _ q => ⟨_, rfl, q⟩⟩
  · cases h
theorem ssl {lo hi : Option Int} {l h : Option Expr} {p p2 : Pos} (hl : isPart lo l = true) (hh : isPart hi h = true) (ha : SE X G a x) : SE X G (.sl a lo hi) (.Subscript x (.Slice l h none p2) p) := by
  intro Hb H σ ρ P Q I w q
  obtain ⟨t1, p1, q1⟩ := po_of (X := X) hl
  obtain ⟨t2, p2, q2⟩ := po_of (X := X) hh
  refine ⟨_, pe_slice (sl_list.or sl_tup) pe_W p1 p2, ?_⟩
  refine ha _ _ _ _ _ _ I w fun d v Hb1 H1 w1 g1 r1 => q1 _ _ _ (q2 _ _ _ ?_)
  unfold wSl at w1
  split at w1
  · obtain ⟨p, xs, rfl, h3, h4⟩ := Dp.lst_inv r1
    refine .inl ⟨p, xs, rfl, sql_mono g1.c h3, fun t ht => ?_⟩
    have g2 := Gr.new g1.c ht (.lst (cutV xs lo hi))
    exact q _ _ _ _ w1 (g1.trans g2) (.lst (SqL.of upd_same) (dpa_mono g2.a _ _ (dpa_cut _ _ h4)))
  · obtain ⟨p, xs, rfl, h3, h4⟩ := Dp.tup_inv r1
    refine .inr ⟨p, xs, rfl, sqt_mono g1.c h3, by rw [dpa_len h4]; exact w1.1, fun t ht => ?_⟩
    have g2 := Gr.new g1.c ht (.tup (cutV xs lo hi))
    exact q _ _ _ _ w1.2 (g1.trans g2) (.tup (SqT.of upd_same) (dpa_mono g2.a _ _ (dpa_cut _ _ h4)))
  · exact w1.elim
theorem OpR.or {f : Value → Value → Sem Value} {r r' : R2} (h : OpR X f r) (h' : OpR X f r') : OpR X f (fun x y H Q => r x y H Q ∨ r' x y H Q) := by
  intro pins s σ H x y v u Q I rx ry q
  rcases q with q | q
  · exact h pins s σ H x y v u Q I rx ry q
  · exact h' pins s σ H x y v u Q I rx ry q
theorem scat_t {p : Pos} (ha : SE X G a x) (hb : SE X G b y) : SE X G (.cat a b) (.BinOp x .Add y p) := by
  intro Hb H σ ρ P Q I w q
  refine ⟨_, pe_op op_catT pe_W pe_W, ?_⟩
  refine two ha hb I w fun d e v u Hb' H' w' g r1 r2 => ?_
  unfold wCat at w'
  split at w'
  · obtain ⟨p, xs, rfl, h3, h4⟩ := Dp.tup_inv r1
    obtain ⟨p', ys, rfl, h5, h6⟩ := Dp.tup_inv r2
    obtain ⟨n1, n2, n3, w'⟩ := w'
    have l1 := dpa_len h4
    have l2 := dpa_len h6
    refine ⟨p, p', xs, ys, rfl, rfl, sqt_mono g.c h3, sqt_mono g.c h5, fun z => n1 ?_, by rw [l1, l2]; exact sz_of n3, fun z => absurd ?_ n2, fun _ t ht => ?_⟩
    · rw [z] at l1
      exact List.eq_nil_of_length_eq_zero l1.symm
    · rw [z] at l2
      exact List.eq_nil_of_length_eq_zero l2.symm
    · have g2 := Gr.new g.c ht (.tup (xs ++ ys))
      exact q _ _ _ _ w' (g.trans g2) (.tup (SqT.of upd_same) (dpa_mono g2.a _ _ (dpa_append h4 h6)))
  · exact w'.elim
theorem chkEs_ns : ∀ {ts : Ts} {es : List Expr} {env : Env} {pos : Pos}, chkEs cf ts es = true → (backTo pos (starEach es env)).any (·.1) = false
  | .nil, [], _, _, _ => rfl
  | .nil, _ :: _, _, _, h => by cases h
  | .cons _ _, [], _, _, h => by cases h
  | .cons t ts, e :: es, env, pos, h => by
    simp only [chkEs, Bool.and_eq_true] at h
    rw [notStar_eq h.1.2]
    show (false || (backTo pos (starEach es env)).any (·.1)) = false
    rw [chkEs_ns h.2]
    rfl
theorem scall (ok : XOK X cf G) {f : Nat} {n : Str} {p pos : Pos} (hf : chkF cf f n = true) (hs : notStar x = true) (hc : chkEs cf ts es = true) (h : SA X G (.cons a ts) (x :: es)) :
    SE X G (.call f (.cons a ts)) (.Call (.Name n p) (x :: es) [] pos) := by
  intro Hb H σ ρ P Q I w q
  obtain ⟨h1, h2, h3⟩ := chkF_of hf
  obtain ⟨w0, w⟩ := w
  obtain ⟨fa, fd, ps, e1, e2, e3, F⟩ := ok.glb.fn f n h1 w0
  refine ⟨_, pe_call F ok.room (gl_of ok h2) e1 e2 e3 .nil (E := E0) pass0 pa_W (nm1 h3) (notStar_eq hs) (chkEs_ns hc), ?_⟩
  refine h _ _ _ _ _ _ I w fun ds vs Hb1 H1 w1 g1 r1 => ?_
  obtain ⟨d, w2, w3⟩ := w1
  refine ⟨Hb1, ds, d, g1.c, by rw [List.append_nil]; exact r1, w2, fun v Hb2 H2 g2 r2 => q d v Hb2 H2 w3 (g1.trans g2) r2⟩
end
end Qd

set_option Elab.async false
set_option linter.all false
set_option maxRecDepth 100000
set_option maxHeartbeats 4000000
namespace Qd
open PySem L2
section
variable {X : Cx} {G : Ga} {cf : Cf} {a b c : T} {x y z : Expr} {Hb H : Hp} {σ : L2.St} {ρ : Rho} {ts : Ts} {es : List Expr}

theorem dpa1 {K : PySem.W.Frag} {vs : List V} {d : PyData} (r : DpAll K H vs [d]) : ∃ v, vs = [v] ∧ Dp K H v d := by
  cases r with
  | cons a t =>
    cases t
    exact ⟨_, rfl, a⟩
theorem dpa2 {K : PySem.W.Frag} {vs : List V} {d e : PyData} (r : DpAll K H vs [d, e]) : ∃ v u, vs = [v, u] ∧ Dp K H v d ∧ Dp K H u e := by
  cases r with
  | cons a t =>
    obtain ⟨u, rfl, h⟩ := dpa1 t
    exact ⟨_, u, rfl, a, h⟩
theorem CallR.or {f : Value} {r r' : List V → Hp → VK → Prop} (h : CallR X f r) (h' : CallR X f r') : CallR X f (fun xs H Q => r xs H Q ∨ r' xs H Q) := by
  intro pins s σ H xs us Q I rs q
  rcases q with q | q
  · exact h pins s σ H xs us Q I rs q
  · exact h' pins s σ H xs us Q I rs q
/-- a built-in by its data -/
theorem blt_fin (ok : XOK X cf G) {bb : Bl} {p pos : Pos} {r : List V → Hp → VK → Prop} (hpe : ∀ {t : TA}, PA X (x :: es) t → PE X (.Call (.Name (blN bb) p) (x :: es) [] pos) (tCB r t)) (h : SA X G (.cons a ts) (x :: es))
    (hr : ∀ ds vs Hb H (P : PyData → Prop) (Q : VK), wBl bb ds P → Ex Hb H → DpAll X.K Hb vs ds → (∀ d v Hb' H', P d → Gr Hb H Hb' H' → Dp X.K Hb' v d → Q v H') → r vs H Q) : SE X G (.blt bb (.cons a ts)) (.Call (.Name (blN bb) p) (x :: es) [] pos) := by
  intro Hb H σ ρ P Q I w q
  refine ⟨_, hpe pa_W, ?_⟩
  exact h _ _ _ _ _ _ I w fun ds vs Hb1 H1 w1 g1 r1 => hr ds vs Hb1 H1 P Q w1 g1.c r1 fun d v Hb2 H2 w2 g2 r2 => q d v Hb2 H2 w2 (g1.trans g2) r2
theorem sblt (ok : XOK X cf G) {bb : Bl} {n : Str} {p pos : Pos} (hn : n = blN bb) (hg : glB cf.sc n = true) (hs : notStar x = true) (hc : chkEs cf ts es = true) (h : SA X G (.cons a ts) (x :: es)) :
    SE X G (.blt bb (.cons a ts)) (.Call (.Name n p) (x :: es) [] pos) := by
  subst hn
  have gl := gl_of ok hg
  have mg := ok.glb.blt bb
  cases bb
  · refine blt_fin ok (fun hp => pe_callB call_len_seq gl mg PySem.boot_len hp (by decide) (by decide) (notStar_eq hs) (chkEs_ns hc)) h fun ds vs Hb H P Q w ex r q => ?_
    have w : w_len ds P := w
    unfold w_len at w
    split at w
    · obtain ⟨v, rfl, r1⟩ := dpa1 r
      obtain ⟨p, ys, rfl, h1, h2⟩ := Dp.lst_inv r1
      exact ⟨p, ys, rfl, .inl (sql_mono ex h1), by rw [dpa_len h2]; exact q _ _ Hb H w (Gr.refl ex) (.int _)⟩
    · obtain ⟨v, rfl, r1⟩ := dpa1 r
      obtain ⟨p, ys, rfl, h1, h2⟩ := Dp.tup_inv r1
      exact ⟨p, ys, rfl, .inr (sqt_mono ex h1), by rw [dpa_len h2]; exact q _ _ Hb H w (Gr.refl ex) (.int _)⟩
    · exact w.elim
  · refine blt_fin ok (fun hp => pe_callTy call_int1 gl mg (by decide +kernel) hp (by decide) (by decide) (notStar_eq hs) (chkEs_ns hc)) h fun ds vs Hb H P Q w ex r q => ?_
    have w : w_int ds P := w
    unfold w_int at w
    split at w
    · obtain ⟨v, rfl, r1⟩ := dpa1 r
      cases Dp.int_inv r1
      exact .inl ⟨_, rfl, q _ _ Hb H w (Gr.refl ex) (.int _)⟩
    · obtain ⟨v, rfl, r1⟩ := dpa1 r
      cases Dp.bl_inv r1
      exact .inr ⟨_, rfl, q _ _ Hb H w (Gr.refl ex) (.int _)⟩
    · exact w.elim
  · refine blt_fin ok (fun hp => pe_callB call_abs gl mg (by decide +kernel) hp (by decide) (by decide) (notStar_eq hs) (chkEs_ns hc)) h fun ds vs Hb H P Q w ex r q => ?_
    have w : w_abs ds P := w
    unfold w_abs at w
    split at w
    · obtain ⟨v, rfl, r1⟩ := dpa1 r
      cases Dp.int_inv r1
      exact ⟨_, rfl, q _ _ Hb H w (Gr.refl ex) (.int _)⟩
    · exact w.elim
  · refine blt_fin ok (fun hp => pe_callB call_divmod gl mg (by decide +kernel) hp (by decide) (by decide) (notStar_eq hs) (chkEs_ns hc)) h fun ds vs Hb H P Q w ex r q => ?_
    have w : w_divm ds P := w
    unfold w_divm at w
    split at w
    · obtain ⟨v, u, rfl, r1, r2⟩ := dpa2 r
      cases Dp.int_inv r1
      cases Dp.int_inv r2
      refine ⟨_, _, rfl, w.1, fun t ht => ?_⟩
      exact q _ _ _ _ w.2 (Gr.new ex ht _) (.tup (SqT.of upd_same) (.cons (.int _) (.cons (.int _) .nil)))
    · exact w.elim
  · refine blt_fin ok (fun hp => pe_callB (cr_sum ok.calm) gl mg (by decide +kernel) hp (by decide) (by decide) (notStar_eq hs) (chkEs_ns hc)) h fun ds vs Hb H P Q w ex r q => ?_
    have w : w_sum ds P := w
    unfold w_sum at w
    split at w
    · obtain ⟨ns, rfl, w2⟩ := w
      obtain ⟨v, rfl, r1⟩ := dpa1 r
      obtain ⟨p, ys, rfl, h1, h2⟩ := Dp.lst_inv r1
      cases dpa_ints h2
      exact ⟨p, ns, rfl, sql_mono ex h1, q _ _ Hb H w2 (Gr.refl ex) (.int _)⟩
    · exact w.elim
  · refine blt_fin ok (fun hp => pe_callTy call_tuple_of gl mg (by decide +kernel) hp (by decide) (by decide) (notStar_eq hs) (chkEs_ns hc)) h fun ds vs Hb H P Q w ex r q => ?_
    have w : w_tuple ds P := w
    unfold w_tuple at w
    split at w
    · obtain ⟨v, rfl, r1⟩ := dpa1 r
      obtain ⟨p, ys, rfl, h1, h2⟩ := Dp.lst_inv r1
      refine ⟨p, ys, rfl, .inl ⟨sql_mono ex h1, fun t ht => ?_⟩⟩
      have g2 := Gr.new ex ht (.tup ys)
      exact q _ _ _ _ w g2 (.tup (SqT.of upd_same) (dpa_mono g2.a _ _ h2))
    · obtain ⟨v, rfl, r1⟩ := dpa1 r
      obtain ⟨p, ys, rfl, h1, h2⟩ := Dp.tup_inv r1
      exact ⟨p, ys, rfl, .inr ⟨sqt_mono ex h1, q _ _ Hb H w (Gr.refl ex) r1⟩⟩
    · exact w.elim
  · refine blt_fin ok (fun hp => pe_callTy call_list_of gl mg (by decide +kernel) hp (by decide) (by decide) (notStar_eq hs) (chkEs_ns hc)) h fun ds vs Hb H P Q w ex r q => ?_
    have w : w_list ds P := w
    unfold w_list at w
    split at w
    · obtain ⟨v, rfl, r1⟩ := dpa1 r
      obtain ⟨p, ys, rfl, h1, h2⟩ := Dp.lst_inv r1
      refine ⟨p, ys, rfl, .inl (sql_mono ex h1), fun t ht => ?_⟩
      have g2 := Gr.new ex ht (.lst ys)
      exact q _ _ _ _ w g2 (.lst (SqL.of upd_same) (dpa_mono g2.a _ _ h2))
    · obtain ⟨v, rfl, r1⟩ := dpa1 r
      obtain ⟨p, ys, rfl, h1, h2⟩ := Dp.tup_inv r1
      refine ⟨p, ys, rfl, .inr (sqt_mono ex h1), fun t ht => ?_⟩
      have g2 := Gr.new ex ht (.lst ys)
      exact q _ _ _ _ w g2 (.lst (SqL.of upd_same) (dpa_mono g2.a _ _ h2))
    · exact w.elim
  · refine blt_fin ok (fun hp => pe_callB (call_min2 ok.calm) gl mg (by decide +kernel) hp (by decide) (by decide) (notStar_eq hs) (chkEs_ns hc)) h fun ds vs Hb H P Q w ex r q => ?_
    have w : w_min ds P := w
    unfold w_min at w
    split at w
    · obtain ⟨v, u, rfl, r1, r2⟩ := dpa2 r
      cases Dp.int_inv r1
      cases Dp.int_inv r2
      exact ⟨_, _, rfl, q _ _ Hb H w (Gr.refl ex) (.int _)⟩
    · exact w.elim
  · refine blt_fin ok (fun hp => pe_callB (call_max2 ok.calm) gl mg (by decide +kernel) hp (by decide) (by decide) (notStar_eq hs) (chkEs_ns hc)) h fun ds vs Hb H P Q w ex r q => ?_
    have w : w_max ds P := w
    unfold w_max at w
    split at w
    · obtain ⟨v, u, rfl, r1, r2⟩ := dpa2 r
      cases Dp.int_inv r1
      cases Dp.int_inv r2
      exact ⟨_, _, rfl, q _ _ Hb H w (Gr.refl ex) (.int _)⟩
    · exact w.elim
  · refine blt_fin ok (fun hp => pe_callB (Pd.cr_sortD (cf := ⟨cf.N, cf.sc, cf.names, cf.L⟩) ok.room) gl mg (by decide +kernel) hp (by decide) (by decide) (notStar_eq hs) (chkEs_ns hc)) h fun ds vs Hb H P Q w ex r q => ?_
    have w : w_sorted ds P := w
    unfold w_sorted at w
    split at w
    · obtain ⟨v, rfl, r1⟩ := dpa1 r
      obtain ⟨p, ys, rfl, h1, h2⟩ := Dp.lst_inv r1
      refine ⟨Hb, p, ys, _, ex, rfl, .inl (sql_mono ex h1), DpAll.l2 _ _ w.2.2.2.2.1 h2, w.1, w.2.1, w.2.2.1, w.2.2.2.1, fun l zs hl r3 => ?_⟩
      have g2 := Gr.new ex hl (.lst zs)
      exact q _ _ _ _ w.2.2.2.2.2 g2 (.lst (SqL.of upd_same) (dpa_mono g2.a _ _ (DpAll.of2 _ _ r3)))
    · obtain ⟨v, rfl, r1⟩ := dpa1 r
      obtain ⟨p, ys, rfl, h1, h2⟩ := Dp.tup_inv r1
      refine ⟨Hb, p, ys, _, ex, rfl, .inr (sqt_mono ex h1), DpAll.l2 _ _ w.2.2.2.2.1 h2, w.1, w.2.1, w.2.2.1, w.2.2.2.1, fun l zs hl r3 => ?_⟩
      have g2 := Gr.new ex hl (.lst zs)
      exact q _ _ _ _ w.2.2.2.2.2 g2 (.lst (SqL.of upd_same) (dpa_mono g2.a _ _ (DpAll.of2 _ _ r3)))
    · exact w.elim
/-- list(..): new -/
theorem flist (ok : XOK X cf G) {n : Str} {p pos : Pos} (hn : n = blN .list) (hg : glB cf.sc n = true) (hs : notStar x = true) (hc : chkEs cf ts es = true) (h : SA X G (.cons a ts) (x :: es)) :
    SF X G (.blt .list (.cons a ts)) (.Call (.Name n p) (x :: es) [] pos) := by
  subst hn
  intro Hb H σ ρ P Q I w q
  refine ⟨_, pe_callTy call_list_of (gl_of ok hg) (ok.glb.blt .list) (by decide +kernel) pa_W (by decide) (by decide) (notStar_eq hs) (chkEs_ns hc), ?_⟩
  refine h _ _ _ _ _ _ I w fun ds vs Hb1 H1 w1 g1 r => ?_
  have w1 : w_list ds P := w1
  unfold w_list at w1
  split at w1
  · obtain ⟨v, rfl, r1⟩ := dpa1 r
    obtain ⟨p, ys, rfl, h1, h2⟩ := Dp.lst_inv r1
    refine ⟨p, ys, rfl, .inl (sql_mono g1.c h1), fun t ht => ?_⟩
    exact q _ t ys Hb1 _ w1 ⟨g1.a, g1.b.trans (ex_upd ht), g1.c.trans (ex_upd ht), g1.d⟩ (none_of_ex g1.b ht) (none_of_ex g1.c ht) upd_same h2
  · obtain ⟨v, rfl, r1⟩ := dpa1 r
    obtain ⟨p, ys, rfl, h1, h2⟩ := Dp.tup_inv r1
    refine ⟨p, ys, rfl, .inr (sqt_mono g1.c h1), fun t ht => ?_⟩
    exact q _ t ys Hb1 _ w1 ⟨g1.a, g1.b.trans (ex_upd ht), g1.c.trans (ex_upd ht), g1.d⟩ (none_of_ex g1.b ht) (none_of_ex g1.c ht) upd_same h2
  · exact w1.elim
theorem sidx (ok : XOK X cf G) {n m : Str} {p apos cpos : Pos} (hm : m = ("index" : Str)) (hs : notStar y = true) (hl : (apos.endLine == cpos.line) = true) (ha : SE X G a (.Name n p)) (hb : SE X G b y) :
    SE X G (.idx a b) (.Call (.Attribute (.Name n p) m apos) [y] [] cpos) := by
  subst hm
  intro Hb H σ ρ P Q I w q
  have hst : starEach [y] X.env = [(false, eval y X.env)] := notStar_eq hs
  refine ⟨_, pe_bm PySem.F.plainAttrs_list PySem.F.slot_list_index PySem.F.type_list_index (mt_indexD (hu64 ok)) pe_W (pa_cons pe_W pa_nil hst) rfl (by rw [hst]; rfl) hl hst rfl, ?_⟩
  refine ha _ _ _ _ _ _ I w fun d v Hb1 H1 w1 g1 r1 => ?_
  have key : ∀ ds, d = .list ds → tyV X.K "list" v H1 := fun ds e => by
    subst e
    obtain ⟨p, ys, rfl, h1, h2⟩ := Dp.lst_inv r1
    exact .inl ⟨rfl, _, sql_mono g1.c h1⟩
  have hd : ∃ ds, d = .list ds ∧ wE G b ρ fun y => wIdx ds y P := by
    unfold wList at w1
    split at w1
    · exact ⟨_, rfl, w1⟩
    · exact w1.elim
  obtain ⟨ds, rfl, w1⟩ := hd
  refine ⟨key ds rfl, ?_⟩
  refine hb _ _ _ _ _ _ (I.mono g1) w1 fun e u Hb2 H2 w2 g2 r2 => ?_
  obtain ⟨⟨s1, s2, pl1, pl2⟩, j, z, h1, h2, h3, w3⟩ := w2
  obtain ⟨p, ys, rfl, h4, h5⟩ := Dp.lst_inv r1
  exact ⟨p, u, e, ds, j, z, rfl, rfl, Dp.l2 (.list ds) _ (by rw [plainD]; exact pl1) (dp_mono (g2.a.trans g2.c) _ _ r1), Dp.l2 _ _ pl2 (dp_mono g2.c _ _ r2), s1, s2, h1, h2, h3, q _ _ Hb2 H2 w3 (g1.trans g2) (.int _)⟩
/-- t.index(n) of a tuple of ints -/
theorem mt_tidx : MtR X "tuple.index" (fun x xs H Q => ∃ p, ∃ ys : List Int, ∃ z j, x = .ref p ∧ xs = [.int z] ∧ SqT X.K H p (ys.map V.int) ∧ ys[j]? = some z ∧ (∀ m, m < j → ys[m]? ≠ some z) ∧ Q (.int (j : Nat)) H) := by
  intro pn s0 σ0 H0 x0 xs0 v0 us0 Q0 I0 rx rs h0
  obtain ⟨p, ys, z, j, rfl, rfl, hq, hy, hno, q⟩ := h0
  cases rx
  obtain ⟨u, rfl, t, rfl⟩ := vals1 rs
  obtain ⟨its, r, pl, hz⟩ := I0.tuple hq
  obtain ⟨⟨cls, dd, dt, sl⟩, ho, hc, n, hd⟩ := pl
  simp only at hc hd
  subst hc
  subst hd
  have flat : (ys.map V.int).all flatV = true := by
    rw [List.all_map]
    exact List.all_eq_true.mpr fun _ _ => rfl
  have hl : its.toArray.size = ys.length := by rw [List.size_toArray, ← r.length, List.length_map]
  have hj : j < its.toArray.size := by rw [hl]; exact (List.getElem?_eq_some_iff.mp hy).1
  have at' : ∀ (m : Nat) (hm : m < its.toArray.size), ∃ y t', ys[m]? = some y ∧ its.toArray[m] = Value.int y t' := fun m hm => by
    have hm' : m < ys.length := by rw [← hl]; exact hm
    obtain ⟨w, hw, t', hw'⟩ := r.get (i := m) (x := .int ys[m]) (by simp [hm'])
    refine ⟨ys[m], t', List.getElem?_eq_getElem hm', ?_⟩
    have e := (List.getElem?_eq_some_iff.mp hw).2
    rw [← hw', ← e]
    simp
  refine call_meets PySem.F.slot_tuple_index ⟨_, ho, rfl⟩ PySem.F.entry_tuple_index (PySem.F.args_tuple_index_2 _ _)
    (TI.tuple_indexAt p its.toArray n dd sl (.int z t) (eqU (.int z)) j hj ?_ ?_)
    ⟨ho, fun w hw => mem_eqAt (x := .int z) ⟨t, rfl⟩ rfl r flat w (by simpa using hw), ⟨.int (j : Nat), H0, I0.tok _, ⟨_, rfl⟩, q⟩⟩
  · obtain ⟨y, t', h1, h2⟩ := at' j hj
    rw [hy] at h1
    cases h1
    rw [h2]
    show (z == z) = true
    exact beq_self_eq_true z
  · intro m hm hmj
    obtain ⟨y, t', h1, h2⟩ := at' m hm
    rw [h2]
    show (y == z) = false
    exact beq_eq_false_iff_ne.mpr fun e => hno m hmj (e ▸ h1)
theorem stidx (ok : XOK X cf G) {i : Nat} {n m : Str} {p apos cpos : Pos} (hm : m = ("index" : Str)) (hn : chkV cf i n = true) (hs : notStar y = true) (hl : (apos.endLine == cpos.line) = true) (hb : SE X G b y) :
    SE X G (.tidx i b) (.Call (.Attribute (.Name n p) m apos) [y] [] cpos) := by
  subst hm
  intro Hb H σ ρ P Q I w q
  have hst : starEach [y] X.env = [(false, eval y X.env)] := notStar_eq hs
  obtain ⟨h1, h2, h3⟩ := chkV_of hn
  refine ⟨_, pe_bm PySem.F.plainAttrs_tuple PySem.F.slot_tuple_index PySem.F.type_tuple_index mt_tidx (pe_var (i := i) (by rw [ok.N]; exact h1) (vis_of (by rw [ok.sc]; exact h2)) (nm1 h3) (nm2 h3)) (pa_cons pe_W pa_nil hst) rfl (by rw [hst]; rfl) hl hst rfl, ?_⟩
  unfold wE at w
  split at w
  · rename_i ds e
    obtain ⟨v, e1, e2⟩ := I.wri i _ e
    refine ⟨v, e1, ?_⟩
    obtain ⟨a, o, its, nn, xs, rfl, c1, c2, c3, c4, c5, c6, c7⟩ := WrD.tup_inv e2
    refine ⟨.inr (.inl ⟨rfl, o, c1, c2, c3⟩), ?_⟩
    refine hb _ _ _ _ _ _ I w fun f u Hb2 H2 w2 g2 r2 => ?_
    obtain ⟨ns, k, j, rfl, rfl, h5, h6, w3⟩ := w2
    cases Dp.int_inv r2
    have hx : xs = ns.map V.int := dpa_ints (WrAll.dp (H := H2) _ _ c7)
    subst hx
    exact ⟨a, ns, k, j, rfl, rfl, .inr ⟨o, its, nn, c1, c2, c4, c5, c6⟩, h5, h6, q _ _ Hb2 H2 w3 g2 (.int _)⟩
  · exact w.elim
theorem tplain (he : ∀ whole, isTrue x X.env whole = (do let v ← whole; standAt x.pos; holding [v] (truthy v))) (h : SE X G a x) : ST X G a x := by
  intro Hb H σ ρ P Q I w q
  refine ⟨_, pt_val pe_W he, ?_⟩
  refine h _ _ _ _ _ _ I w fun d v Hb1 H1 w1 g1 r1 => ?_
  obtain ⟨k, rfl, w2⟩ := wBool_inv w1
  exact ⟨k, Dp.bl_inv r1, q k Hb1 H1 w2 g1⟩
theorem sx {k : Nat} {e e0 : Expr} (r : XR X (G.pre k) (G.ext k) e e0 es) (h0 : SE X G a e0) (h : SN X G ts es) : SE X G (.x k a ts) e := by
  intro Hb H σ ρ P Q I w q
  exact r.ev Hb H σ Q fun S hs => h0 _ _ _ _ _ _ I w fun d v Hb1 H1 w1 g1 r1 => hs Hb1 H1 v d g1 r1 w1.1 fun R hr => h _ _ _ _ _ _ (I.mono g1) w1.2 fun ds vs Hb2 H2 w2 g2 r2 => hr Hb2 H2 vs ds P g2 r2 w2 fun d v Hb' H' w3 g3 r3 => q d v Hb' H' w3 ((g1.trans g2).trans g3) r3
theorem tx {k : Nat} {e e0 : Expr} (r : XR X (G.pre k) (G.ext k) e e0 es) (h0 : SE X G a e0) (h : SN X G ts es) : ST X G (.x k a ts) e := by
  rcases r.ct with he | ct
  · exact tplain he (sx r h0 h)
  · intro Hb H σ ρ P Q I w q
    exact ct Hb H σ Q fun S hs => h0 _ _ _ _ _ _ I w fun d v Hb1 H1 w1 g1 r1 => hs Hb1 H1 v d g1 r1 w1.1 fun R hr => h _ _ _ _ _ _ (I.mono g1) w1.2 fun ds vs Hb2 H2 w2 g2 r2 => hr Hb2 H2 vs ds (fun b => P (.bool b)) g2 r2 w2 fun b Hb' H' w3 g3 => q b Hb' H' w3 ((g1.trans g2).trans g3)
theorem ix_x {k : Nat} {e e0 : Expr} {tg : Expr} (r : XR X (G.pre k) (G.ext k) e e0 es) (h0 : SE X G a e0) (h : SN X G ts es) : ∀ (Hb H : Hp) (σ : L2.St) (ρ : Rho) (P : List PyData → Prop) (Q : VK), En X.K Hb H σ ρ → wI G (.x k a ts) ρ P → (∀ d v Hb' H', wSeq d P → Gr Hb H Hb' H' → Dp X.K Hb' v d → Q v H') → WE X e σ H Q := by
  intro Hb H σ ρ P Q I w q
  exact sx r h0 h _ _ _ _ (fun d => wSeq d P) Q I w q
theorem xc_of (ok : XOK X cf G) : XC X X.prog X.w X.K X.mg X.base cf.L cf.sc := ⟨rfl, rfl, rfl, rfl, rfl, ok.calm, ok.room, ok.sc⟩
theorem anil : SA X G .nil [] := fun Hb H σ ρ P Q I w q => ⟨_, pa_nil, q [] [] Hb H w (Gr.refl I.ex) .nil⟩
theorem nnil : SN X G .nil [] := fun Hb H σ ρ P Q I w q => q [] [] Hb H w (Gr.refl I.ex) .nil
theorem ncons (ha : SE X G a x) (h : SN X G ts es) : SN X G (.cons a ts) (x :: es) := by
  intro Hb H σ ρ P Q I w q
  refine ha _ _ _ _ _ _ I w fun d v Hb1 H1 w1 g1 r1 => ?_
  exact h _ _ _ _ _ _ (I.mono g1) w1 fun ds vs Hb2 H2 w2 g2 r2 => q _ _ Hb2 H2 w2 (g1.trans g2) (.cons (dp_mono g2.a _ _ r1) r2)
theorem acons (hs : notStar x = true) (ha : SE X G a x) (h : SA X G ts es) : SA X G (.cons a ts) (x :: es) := by
  intro Hb H σ ρ P Q I w q
  refine ⟨_, pa_cons pe_W pa_W (notStar_eq hs), ?_⟩
  refine ha _ _ _ _ _ _ I w fun d v Hb1 H1 w1 g1 r1 => ?_
  exact h _ _ _ _ _ _ (I.mono g1) w1 fun ds vs Hb2 H2 w2 g2 r2 => q _ _ Hb2 H2 w2 (g1.trans g2) (.cons (dp_mono g2.a _ _ r1) r2)

/-! ### walks -/
theorem itl {K : PySem.W.Frag} {p : Addr} {vs : List V} {ds : List PyData} (h : SqL K Hb p vs) (r : DpAll K Hb vs ds) : ItOk K (Itl K p) Hb ds := by
  refine ⟨fun i Hb2 H2 ga gc hi => ?_, fun Hb2 H2 ga gc => ⟨vs, sql_mono (ga.trans gc) h, by rw [dpa_len r]; exact Nat.le_refl _⟩, fun i x Hb2 H2 H3 ga gc hi y => ?_⟩
  · have hi' : i < vs.length := by rw [dpa_len r]; exact hi
    exact ⟨vs, vs[i], sql_mono (ga.trans gc) h, List.getElem?_eq_getElem hi'⟩
  · obtain ⟨e, y⟩ := y
    obtain ⟨d, h1, h2⟩ := dpa_getv r (y vs (sql_mono (ga.trans gc) h))
    exact ⟨e, d, h1, dp_mono ga _ _ h2⟩
theorem itt {K : PySem.W.Frag} {p : Addr} {vs : List V} {ds : List PyData} (h : SqT K Hb p vs) (r : DpAll K Hb vs ds) : ItOk K (Itt K p) Hb ds := by
  refine ⟨fun i Hb2 H2 ga gc hi => ?_, fun Hb2 H2 ga gc => ⟨vs, sqt_mono (ga.trans gc) h, by rw [dpa_len r]; exact Nat.le_refl _⟩, fun i x Hb2 H2 H3 ga gc hi y => ?_⟩
  · have hi' : i < vs.length := by rw [dpa_len r]; exact hi
    exact ⟨vs, vs[i], sqt_mono (ga.trans gc) h, List.getElem?_eq_getElem hi'⟩
  · obtain ⟨e, y⟩ := y
    obtain ⟨d, h1, h2⟩ := dpa_getv r (y vs (sqt_mono (ga.trans gc) h))
    exact ⟨e, d, h1, dp_mono ga _ _ h2⟩
theorem itr {K : PySem.W.Frag} {lo : Int} {n : Nat} : ItOk K (Itr lo n) Hb (intsUp lo n) := by
  have hl : (intsUp lo n).length = n := by unfold intsUp; rw [List.length_map, List.length_range]
  refine ⟨fun i Hb2 H2 ga gc hi => by rw [hl] at hi; exact hi, fun Hb2 H2 ga gc => by rw [hl]; exact Nat.le_refl n, fun i x Hb2 H2 H3 ga gc hi y => ?_⟩
  obtain ⟨e, y⟩ := y
  rw [hl] at hi
  refine ⟨e, .int (lo + i), ?_, by rw [y]; exact .int _⟩
  unfold intsUp
  rw [List.getElem?_map, List.getElem?_range hi]
  rfl
/-- a list or a tuple is walked -/
def iSeq (K : PySem.W.Frag) (te : TE) : TI := fun σ H R => te σ H fun u G1 =>
  ∃ p, u = .ref p ∧ (((∃ ws, SqL K G1 p ws) ∧ R (Itl K p) G1) ∨ ((∃ ws, SqT K G1 p ws) ∧ R (Itt K p) G1))
theorem pi_seq {tg l : Expr} {te : TE} (he : PE X l te) : PI X tg l (iSeq X.K te) := by
  refine ⟨fun pn s0 σ0 H0 R J0 w => ?_⟩
  refine thn (he.run pn s0 σ0 H0 _ J0 w) fun v s1 ⟨u, G1, J1, rel, p, eu, k⟩ => ?_
  subst eu
  cases rel
  have fp : ∀ b ∈ [s1.heap.objs.size], FpOk X pn G1 b := fun b hb => by
    cases List.mem_singleton.mp hb
    exact J1.fpOk (Nat.le_refl _) (J1.hok.fresh (Nat.le_refl _))
  have more : ∀ {o : Obj}, Inv X pn σ0 G1 { s1 with heap := s1.heap.push o, toks := s1.toks } := fun {o} =>
    J1.kept (t' := s1.toks) fun b z e => Heap.get?_push_of_some _ e
  rcases k with ⟨⟨ws, hw⟩, k⟩ | ⟨⟨ws, hw⟩, k⟩
  · obtain ⟨its, rv, il, hz⟩ := J1.list hw
    exact wpAny_pyIter_list il.isList ⟨_, [_], _, _, G1, rfl, more, turn_list p _, ⟨_, Heap.get?_push_size _ rfl, rfl, rfl⟩, fp, k⟩
  · obtain ⟨its, rv, il, hz⟩ := J1.tuple hw
    exact wpAny_pyIter_tuple (show s1.heap.IsTuple p its.toArray from il) ⟨_, [_], _, _, G1, rfl, more, turn_tuple p _, ⟨_, Heap.get?_push_size _ rfl, rfl, rfl⟩, fp, k⟩
theorem wSeq_inv {d : PyData} {R : List PyData → Prop} (w : wSeq d R) : ∃ ds, (d = .list ds ∨ d = .tuple ds) ∧ R ds := by
  unfold wSeq at w
  split at w
  · exact ⟨_, .inl rfl, w⟩
  · exact ⟨_, .inr rfl, w⟩
  · exact w.elim
/-- what gives data gives a walk over it -/
theorem si_of {tg : Expr} {P : List PyData → Prop} {R : It → Hp → Prop} (h : ∀ (Q : VK), (∀ d v Hb' H', wSeq d P → Gr Hb H Hb' H' → Dp X.K Hb' v d → Q v H') → WE X x σ H Q)
    (q : ∀ xs J Hb' H', P xs → Gr Hb H Hb' H' → ItOk X.K J Hb' xs → R J H') : WI X tg x σ H R := by
  refine ⟨_, pi_seq pe_W, h _ fun d v Hb' H' w g r => ?_⟩
  obtain ⟨ds, e, w⟩ := wSeq_inv w
  rcases e with rfl | rfl
  · obtain ⟨p, vs, rfl, h1, h2⟩ := Dp.lst_inv r
    exact ⟨p, rfl, .inl ⟨⟨vs, sql_mono g.c h1⟩, q ds _ Hb' H' w g (itl h1 h2)⟩⟩
  · obtain ⟨p, vs, rfl, h1, h2⟩ := Dp.tup_inv r
    exact ⟨p, rfl, .inr ⟨⟨vs, sqt_mono g.c h1⟩, q ds _ Hb' H' w g (itt h1 h2)⟩⟩
theorem ixx {k : Nat} {e e0 : Expr} {tg : Expr} (r : XR X (G.pre k) (G.ext k) e e0 es) (h0 : SE X G a e0) (h : SN X G ts es) : SI X G (.x k a ts) tg e := by
  intro Hb H σ ρ P R I w q
  exact si_of (fun Q z => ix_x (tg := tg) r h0 h Hb H σ ρ P Q I w z) q
theorem iv (ok : XOK X cf G) {i : Nat} {n : Str} {p : Pos} {tg : Expr} (h : chkV cf i n = true) : SI X G (.v i) tg (.Name n p) := by
  intro Hb H σ ρ P R I w q
  refine si_of (fun Q k => sv ok h Hb H σ ρ (fun d => wSeq d P) Q I w k) q
theorem igl (ok : XOK X cf G) {n : Nat} {s : Str} {p : Pos} {tg : Expr} (h : chkF cf n s = true) : SI X G (.gl n) tg (.Name s p) := by
  intro Hb H σ ρ P R I w q
  refine si_of (fun Q k => sgl ok h Hb H σ ρ (fun d => wSeq d P) Q I w k) q
theorem iix {p : Pos} {tg : Expr} (hs : notSlice y = true) (ha : SE X G a x) (hb : SE X G b y) : SI X G (.ix a b) tg (.Subscript x y p) := by
  intro Hb H σ ρ P R I w q
  refine si_of (fun Q k => six hs ha hb Hb H σ ρ (fun d => wSeq d P) Q I w k) q
theorem icall (ok : XOK X cf G) {f : Nat} {n : Str} {p pos : Pos} {tg : Expr} (hf : chkF cf f n = true) (hs : notStar x = true) (hc : chkEs cf ts es = true) (h : SA X G (.cons a ts) (x :: es)) :
    SI X G (.call f (.cons a ts)) tg (.Call (.Name n p) (x :: es) [] pos) := by
  intro Hb H σ ρ P R I w q
  refine si_of (fun Q k => scall ok hf hs hc h Hb H σ ρ (fun d => wSeq d P) Q I w k) q
theorem ilst {p : Pos} {tg : Expr} (h : SA X G ts es) : SI X G (.lst ts) tg (.List es p) := by
  intro Hb H σ ρ P R I w q
  refine si_of (fun Q k => (flst h).se Hb H σ ρ (fun d => wSeq d P) Q I w k) q
theorem itup {k : Nat} {p : Pos} {tg : Expr} (h : SA X G ts es) : SI X G (.tup ts) tg (.Tuple es k p) := by
  intro Hb H σ ρ P R I w q
  refine si_of (fun Q k => stup h Hb H σ ρ (fun d => wSeq d P) Q I w k) q
theorem wRg_inv {lo hi : Int} {P : List PyData → Prop} (w : wRg lo hi P) : (-(2 ^ 62) ≤ lo ∧ lo < 2 ^ 62 ∧ -(2 ^ 62) ≤ hi ∧ hi < 2 ^ 62) ∧ P (intsUp lo (hi - lo).toNat) := by
  obtain ⟨⟨h1, h2, h3, h4⟩, h⟩ := w
  exact ⟨⟨by omega, by omega, by omega, by omega⟩, h⟩
theorem irg1 (ok : XOK X cf G) {n : Str} {p pos : Pos} {tg : Expr} (hn : n = ("range" : Str)) (hg : glB cf.sc n = true) (hs : notStar x = true) (ha : SE X G a x) : SI X G (.rg1 a) tg (.Call (.Name n p) [x] [] pos) := by
  subst hn
  intro Hb H σ ρ P R I w q
  refine ⟨_, pi_range1 (gl_of ok hg) ok.glb.rng (pa_cons pe_W pa_nil (notStar_eq hs)) (notStar_eq hs), ?_⟩
  refine ha _ _ _ _ _ _ I w fun d v Hb1 H1 w1 g1 r1 => ?_
  split at w1
  · rename_i i
    cases Dp.int_inv r1
    obtain ⟨⟨h1, h2, h3, h4⟩, w2⟩ := wRg_inv w1
    rw [Int.sub_zero] at w2
    exact ⟨i, rfl, h3, h4, q _ _ Hb1 H1 w2 g1 itr⟩
  · exact w1.elim
theorem irg2 (ok : XOK X cf G) {n : Str} {p pos : Pos} {tg : Expr} (hn : n = ("range" : Str)) (hg : glB cf.sc n = true) (hs : notStar x = true) (hs' : notStar y = true) (ha : SE X G a x) (hb : SE X G b y) : SI X G (.rg2 a b) tg (.Call (.Name n p) [x, y] [] pos) := by
  subst hn
  intro Hb H σ ρ P R I w q
  have e1 : starEach [y] X.env = [(false, eval y X.env)] := notStar_eq hs'
  have e2 : starEach [x, y] X.env = [(false, eval x X.env), (false, eval y X.env)] := by rw [notStar_eq hs, e1]
  refine ⟨_, pi_range2 (gl_of ok hg) ok.glb.rng (pa_cons pe_W (pa_cons pe_W pa_nil e1) (notStar_eq hs)) e2 e1, ?_⟩
  refine two ha hb I w fun d e v u Hb1 H1 w1 g1 r1 r2 => ?_
  split at w1
  · cases Dp.int_inv r1
    cases Dp.int_inv r2
    obtain ⟨h, w2⟩ := wRg_inv w1
    exact ⟨_, _, rfl, h, q _ _ Hb1 H1 w2 g1 itr⟩
  · exact w1.elim
end
end Qd

set_option Elab.async false
set_option linter.all false
set_option maxRecDepth 100000
set_option maxHeartbeats 4000000
namespace Qd
open PySem L2
section
variable {X : Cx} {G : Ga} {cf : Cf} {a b c src elt : T} {x y z iter e : Expr} {Hb H : Hp} {σ : L2.St} {ρ : Rho} {ts : Ts} {es : List Expr}

theorem pi_W {tg : Expr} : PI X tg e (WI X tg e) := ⟨fun pins s σ H R I ⟨_, h, q⟩ => h.run pins s σ H R I q⟩
def WB (X : Cx) (scope : Scope) (e : Expr) : TE := fun σ H Q => ∀ (s0 : Shared) (H0 : Hp) (C : Addr) (cl : List (Str × Addr)) (fp : List Addr), WE (X.blk s0 H0 scope (compEnvC scope cl C X.env) fp) e σ H Q
def WBT (X : Cx) (scope : Scope) (e : Expr) : TT := fun σ H Q => ∀ (s0 : Shared) (H0 : Hp) (C : Addr) (cl : List (Str × Addr)) (fp : List Addr), WT (X.blk s0 H0 scope (compEnvC scope cl C X.env) fp) e σ H Q
theorem pe_WB {scope : Scope} (s : Shared) (H : Hp) (C : Addr) (cl : List (Str × Addr)) (fp : List Addr) : PE (X.blk s H scope (compEnvC scope cl C X.env) fp) e (WB X scope e) :=
  ⟨fun pins s' σ H' Q I h => pe_W.run pins s' σ H' Q I (h s H C cl fp)⟩
theorem pt_WB {scope : Scope} (s : Shared) (H : Hp) (C : Addr) (cl : List (Str × Addr)) (fp : List Addr) : PT (X.blk s H scope (compEnvC scope cl C X.env) fp) e (WBT X scope e) :=
  ⟨fun pins s' σ H' Q I h => pt_W.run pins s' σ H' Q I (h s H C cl fp)⟩
theorem blk_ok (ok : XOK X cf G) {scope : Scope} (s : Shared) (H : Hp) (C : Addr) (cl : List (Str × Addr)) (fp : List Addr) : XOK (X.blk s H scope (compEnvC scope cl C X.env) fp) { cf with sc := rel scope cf.sc } G := by
  refine ⟨ok.N, ok.nd, ?_, ok.calm, ok.room, rfl, ⟨ok.glb.blt, ok.glb.rng, ok.glb.con, ok.glb.fn, ok.glb.tab, ok.glb.ext⟩⟩
  show relabel scope X.env = rel scope cf.sc
  unfold relabel rel
  rw [← ok.sc]
  rfl
theorem lookup_map {f : Str × NameKind → Str × NameKind} (hf : ∀ p, (f p).1 = p.1) (hk : ∀ p, p.2 ≠ .free → f p = p) {n : Str} {k : NameKind} (h : k ≠ .free) : ∀ {l : List (Str × NameKind)}, l.lookup n = some k → (l.map f).lookup n = some k
  | [], e => by cases e
  | (m, j) :: l, e => by
    rw [List.map_cons]
    have e1 := hf (m, j)
    by_cases q : n = m
    · subst q
      have e2 : j = k := by
        rw [List.lookup_cons] at e
        simpa using e
      subst e2
      rw [hk _ h, List.lookup_cons]
      simp
    · have e2 : List.lookup n l = some k := by
        rw [List.lookup_cons] at e
        have : (n == m) = false := by simpa using q
        rw [this] at e
        exact e
      have e3 : f (m, j) = (m, (f (m, j)).2) := Prod.ext e1 rfl
      rw [e3, List.lookup_cons]
      have : (n == m) = false := by simpa using q
      rw [this]
      exact lookup_map hf hk h e2
theorem relabel_loc {scope : Scope} {env : Env} {n : Str} {k : NameKind} (h : scope.names.lookup n = some k) (hk : k ≠ .free) : (relabel scope env).names.lookup n = some k := by
  unfold relabel
  refine lookup_map (fun p => ?_) (fun p hp => ?_) hk h
  · obtain ⟨m, j⟩ := p
    dsimp only
    split <;> rfl
  · obtain ⟨m, j⟩ := p
    dsimp only
    have : (j == NameKind.free) = false := by
      cases j <;> first | rfl | exact absurd rfl hp
    rw [this]
    rfl
theorem blk_name (ok : XOK X cf G) {scope : Scope} {i : Nat} {n : Str} {p : Pos} (hi : cf.N[i]? = some n) (hl : locB scope n = true) (s : Shared) (H : Hp) (C : Addr) (cl : List (Str × Addr)) (fp : List Addr) :
    PG (X.blk s H scope (compEnvC scope cl C X.env) fp) (.Name n p) (gName i) := by
  have hN : X.N = cf.N := ok.N
  rcases loc_of hl with q | q
  · have q' : (relabel scope X.env).names.lookup n = some .local := relabel_loc q (by decide)
    exact pg_name (by rw [show (X.blk s H scope (compEnvC scope cl C X.env) fp).N = cf.N from hN]; exact ok.nd) (by rw [show (X.blk s H scope (compEnvC scope cl C X.env) fp).N = cf.N from hN]; exact hi) (.inl q') (.inr q')
  · have q' : (relabel scope X.env).names.lookup n = some .cell := relabel_loc q (by decide)
    exact pg_name (by rw [show (X.blk s H scope (compEnvC scope cl C X.env) fp).N = cf.N from hN]; exact ok.nd) (by rw [show (X.blk s H scope (compEnvC scope cl C X.env) fp).N = cf.N from hN]; exact hi) (.inr q') (.inl (by show (scope.names.lookup n == some .cell) = true; rw [q]; rfl))
theorem Gr.mut {Hb' H' : Hp} {D : Addr} {o : HO} (g : Gr Hb H Hb' H') (hD : H D = none) (hb : Hb' D = none) : Gr Hb H Hb' (upd H' D o) := by
  refine ⟨g.a, fun p u e => ?_, fun p u e => ?_, g.d⟩
  · rw [upd_ne (ne_of_none e hD)]
    exact g.b p u e
  · rw [upd_ne (ne_of_none e hb)]
    exact g.c p u e
structure ItG (K : PySem.W.Frag) (J : It) (Hb H : Hp) (xs : List PyData) : Prop where
  go : ∀ i Hb2 H2, Gr Hb H Hb2 H2 → i < xs.length → J.go i H2
  stop : ∀ Hb2 H2, Gr Hb H Hb2 H2 → J.stop xs.length H2
  yld : ∀ i x Hb2 H2 H3, Gr Hb H Hb2 H2 → i < xs.length → J.yld i H2 x H3 → H3 = H2 ∧ ∃ d, xs[i]? = some d ∧ Dp K Hb2 x d
theorem ItOk.g {K : PySem.W.Frag} {J : It} {xs : List PyData} (it : ItOk K J Hb xs) : ItG K J Hb H xs :=
  ⟨fun i _ _ g => it.go i _ _ g.a g.c, fun _ _ g => it.stop _ _ g.a g.c, fun i x _ _ _ g => it.yld i x _ _ _ g.a g.c⟩
theorem ito {K : PySem.W.Frag} {p : Addr} {vs : List V} {ds : List PyData} (h : H p = some (.lst vs)) (r : DpAll K Hb vs ds) : ItG K (Itl K p) Hb H ds := by
  refine ⟨fun i Hb2 H2 g hi => ?_, fun Hb2 H2 g => ⟨vs, SqL.of (g.b _ _ h), by rw [dpa_len r]; exact Nat.le_refl _⟩, fun i x Hb2 H2 H3 g hi y => ?_⟩
  · have hi' : i < vs.length := by rw [dpa_len r]; exact hi
    exact ⟨vs, vs[i], SqL.of (g.b _ _ h), List.getElem?_eq_getElem hi'⟩
  · obtain ⟨e, y⟩ := y
    obtain ⟨d, h1, h2⟩ := dpa_getv r (y vs (SqL.of (g.b _ _ h)))
    exact ⟨e, d, h1, dp_mono g.a _ _ h2⟩
/-- the loop of a comprehension -/
theorem lc_run {step : PyData → (Option PyData → Prop) → Prop} {i : Nat} {J : It} {Hb1 H1 : Hp} {xs : List PyData} {tt : TT} {te : TE} {P : List PyData → Prop} {Q : VK} {D : Addr} (ex : Ex Hb1 H1) (it : ItG X.K J Hb1 H1 xs) (hD : H1 D = none) (w : lcW step xs [] P)
    (hs : ∀ d v Hb2 H2 R (A : VK) (N : Hp → Prop), Dp X.K Hb2 v d → Gr Hb1 H1 Hb2 H2 → step d R → (∀ y u Hb4 H4, R (some y) → Gr Hb2 H2 Hb4 H4 → Dp X.K Hb4 u y → A u H4) → (∀ Hb4 H4, R none → Gr Hb2 H2 Hb4 H4 → N H4) →
      tt ((wipe σ [i]).set i (some v)) H2 fun b H3 => if b = true then te ((wipe σ [i]).set i (some v)) H3 A else N H3)
    (q : ∀ ds vs Hb' H', P ds → Gr Hb1 H1 Hb' H' → Hb' D = none → H' D = some (.lst vs) → DpAll X.K Hb' vs ds → Q (.ref D) H') :
    ∃ W : Nat → Nat → Hp → Prop, (∃ m, W 0 m (upd H1 D (.lst []))) ∧ ∀ k m H, W k m H →
      (J.stop k H ∧ Q (.ref D) H) ∨ (J.go k H ∧ ∃ Nx : Hp → Prop, (∀ H', Nx H' → ∃ m', m' < m ∧ W (k + 1) m' H') ∧ ∀ x H', J.yld k H x H' → gName i x (wipe σ [i]) H' fun σ2 H2 => wipe σ2 [i] = wipe σ [i] ∧ tt σ2 H2 fun b H3 =>
        if b = true then te σ2 H3 fun y H4 => ∃ acc, H4 D = some (.lst acc) ∧ acc.length < sizeLine ∧ Nx (upd H4 D (.lst (acc ++ [y]))) else Nx H3) := by
  refine ⟨fun k m H2 => m = xs.length - k ∧ k ≤ xs.length ∧ ∃ Hb2 acc vs, Gr Hb1 H1 Hb2 H2 ∧ Hb2 D = none ∧ H2 D = some (.lst vs) ∧ DpAll X.K Hb2 vs acc ∧ lcW step (xs.drop k) acc P,
    ⟨_, rfl, Nat.zero_le _, Hb1, [], [], (Gr.refl ex).mut hD (none_of_ex ex hD), none_of_ex ex hD, upd_same, .nil, w⟩, ?_⟩
  rintro k m H2 ⟨rfl, hk, Hb2, acc, vs, g, hb, hl, r, w⟩
  by_cases hlt : k < xs.length
  · refine .inr ⟨it.go k Hb2 H2 g hlt, fun H' => ∃ Hb2 acc vs, Gr Hb1 H1 Hb2 H' ∧ Hb2 D = none ∧ H' D = some (.lst vs) ∧ DpAll X.K Hb2 vs acc ∧ lcW step (xs.drop (k + 1)) acc P, fun H' h => ⟨_, by omega, rfl, hlt, h⟩, fun v H' y => ?_⟩
    obtain ⟨e, d, hd, rd⟩ := it.yld k v Hb2 H2 H' g hlt y
    subst e
    have ed : xs.drop k = d :: xs.drop (k + 1) := by
      rw [List.drop_eq_getElem_cons hlt]
      rw [List.getElem?_eq_getElem hlt] at hd
      cases hd
      rfl
    rw [ed] at w
    refine ⟨?_, ?_⟩
    · show (((σ.set i none).set i (some v)).set i none) = σ.set i none
      rw [List.set_set, List.set_set]
    refine hs d v Hb2 H' _ _ _ rd g w (fun y u Hb4 H4 w2 g2 r2 => ?_) fun Hb4 H4 w2 g2 => ?_
    · refine ⟨vs, g2.b _ _ hl, ?_, Hb4, acc ++ [y], vs ++ [u], (g.trans g2).mut hD (g2.d _ _ hl hb), g2.d _ _ hl hb, upd_same, dpa_append (dpa_mono g2.a _ _ r) (.cons r2 .nil), w2.2⟩
      rw [dpa_len r]
      exact sz_lt w2.1
    · exact ⟨Hb4, acc, vs, g.trans g2, g2.d _ _ hl hb, g2.b _ _ hl, dpa_mono g2.a _ _ r, w2⟩
  · have ek : k = xs.length := by omega
    subst ek
    refine .inl ⟨it.stop Hb2 H2 g, ?_⟩
    rw [List.drop_length] at w
    exact q acc vs Hb2 H2 w g hb hl r
theorem notSet_f {env : Env} (h : notSet iter = true) : ∀ u, foldedSetIterable iter env u = pure u := by
  intro u
  cases iter <;> first | rfl | cases h
theorem flc0 (ok : XOK X cf G) {scope : Scope} {i : Nat} {n : Str} {p : Pos} (hsrc : SI X G src (.Name n p) iter)
    (he : ∀ X', XOK X' { cf with sc := rel scope cf.sc } G → SE X' G elt e) {P : PyData → Prop} {Q : VK} (I : En X.K Hb H σ ρ) (w : wE G (.lc i src elt) ρ P)
    (q : ∀ ds p vs Hb' H', P (.list ds) → Gr Hb H Hb' H' → H p = none → Hb' p = none → H' p = some (.lst vs) → DpAll X.K Hb' vs ds → Q (.ref p) H') : tLc (WI X (.Name n p) iter) (gName i) tYes (WB X scope e) [i] σ H Q := by
  refine hsrc _ _ _ _ _ _ I w fun xs J Hb1 H1 w1 g1 it => fun D hD => ?_
  refine lc_run g1.c it.g hD w1 (fun d v Hb2 H2 R A N rd g st hA hN => ?_) fun ds vs Hb' H' w2 g hb' hl' r => q ds D vs Hb' H' w2 (g1.trans g) (none_of_ex g1.b hD) hb' hl' r
  show (if true = true then WB X scope e ((wipe σ [i]).set i (some v)) H2 A else N H2)
  rw [if_pos rfl]
  intro s0 H0 C cl fp
  have I2 : En X.K Hb2 H2 ((wipe σ [i]).set i (some v)) (ρ.set i (some (.dat d))) := (I.mono (g1.trans g)).wipe1 rd
  exact he _ (blk_ok ok s0 H0 C cl fp) _ _ _ _ _ _ I2 st fun y u Hb4 H4 w3 g3 r3 => hA y u Hb4 H4 w3 g3 r3
theorem flci0 (ok : XOK X cf G) {scope : Scope} {i : Nat} {n : Str} {p : Pos} (hsrc : SI X G src (.Name n p) iter)
    (ht : ∀ X', XOK X' { cf with sc := rel scope cf.sc } G → ST X' G c z)
    (he : ∀ X', XOK X' { cf with sc := rel scope cf.sc } G → SE X' G elt e) {P : PyData → Prop} {Q : VK} (I : En X.K Hb H σ ρ) (w : wE G (.lci i src c elt) ρ P)
    (q : ∀ ds p vs Hb' H', P (.list ds) → Gr Hb H Hb' H' → H p = none → Hb' p = none → H' p = some (.lst vs) → DpAll X.K Hb' vs ds → Q (.ref p) H') : tLc (WI X (.Name n p) iter) (gName i) (WBT X scope z) (WB X scope e) [i] σ H Q := by
  refine hsrc _ _ _ _ _ _ I w fun xs J Hb1 H1 w1 g1 it => fun D hD => ?_
  refine lc_run g1.c it.g hD w1 (fun d v Hb2 H2 R A N rd g st hA hN => ?_) fun ds vs Hb' H' w2 g hb' hl' r => q ds D vs Hb' H' w2 (g1.trans g) (none_of_ex g1.b hD) hb' hl' r
  intro s0 H0 C cl fp
  have I2 : En X.K Hb2 H2 ((wipe σ [i]).set i (some v)) (ρ.set i (some (.dat d))) := (I.mono (g1.trans g)).wipe1 rd
  refine ht _ (blk_ok ok s0 H0 C cl fp) Hb2 H2 _ _ (fun z => wBool z fun k => (k = true → wE G elt (ρ.set i (some (.dat d))) fun y => R (some y)) ∧ (k = false → R none)) _ I2 ?_ fun k Hb3 H3 w3 g3 => ?_
  · exact st
  cases k with
  | true =>
    rw [if_pos rfl]
    intro s0 H0 C cl fp
    exact he _ (blk_ok ok s0 H0 C cl fp) _ _ _ _ _ _ (I2.mono g3) (w3.1 rfl) fun y u Hb4 H4 w4 g4 r4 => hA y u Hb4 H4 w4 (g3.trans g4) r4
  | false =>
    rw [if_neg (by decide)]
    exact hN Hb3 H3 (w3.2 rfl) g3
theorem flco0 (ok : XOK X cf G) {scope : Scope} {i j : Nat} {n m : Str} {p p2 : Pos} (hv : chkV cf j m = true)
    (he : ∀ X', XOK X' { cf with sc := rel scope cf.sc } G → SE X' G elt e) {P : PyData → Prop} {Q : VK} (I : En X.K Hb H σ ρ) (w : wE G (.lco i j elt) ρ P)
    (q : ∀ ds p vs Hb' H', P (.list ds) → Gr Hb H Hb' H' → H p = none → Hb' p = none → H' p = some (.lst vs) → DpAll X.K Hb' vs ds → Q (.ref p) H') : tLc (WI X (.Name n p) (.Name m p2)) (gName i) tYes (WB X scope e) [i] σ H Q := by
  obtain ⟨c1, c2, c3⟩ := chkV_of hv
  unfold wE at w
  split at w
  · rename_i ds ho
    obtain ⟨a, vs, e1, e2, e3, e4⟩ := I.own j ds ho
    refine ⟨_, pi_list (pe_var (i := j) (by rw [ok.N]; exact c1) (vis_of (by rw [ok.sc]; exact c2)) (nm1 c3) (nm2 c3)), .ref a, e1, a, rfl, ⟨vs, SqL.of e3⟩, fun D hD => ?_⟩
    refine lc_run I.ex (ito e3 e4) hD w (fun d v Hb2 H2 R A N rd g st hA hN => ?_) fun ds vs Hb' H' w2 g hb' hl' r => q ds D vs Hb' H' w2 g hD hb' hl' r
    show (if true = true then WB X scope e ((wipe σ [i]).set i (some v)) H2 A else N H2)
    rw [if_pos rfl]
    intro s0 H0 C cl fp
    have I2 : En X.K Hb2 H2 ((wipe σ [i]).set i (some v)) (ρ.set i (some (.dat d))) := (I.mono g).wipe1 rd
    exact he _ (blk_ok ok s0 H0 C cl fp) _ _ _ _ _ _ I2 st fun y u Hb4 H4 w3 g3 r3 => hA y u Hb4 H4 w3 g3 r3
  · exact w.elim
theorem flco (ok : XOK X cf G) {scope : Scope} {i j : Nat} {n m : Str} {p p2 pos : Pos} (hi : cf.N[i]? = some n) (hl : locB scope n = true) (hb : blkC cf.N cf.sc scope [(n, i)] = true) (hv : chkV cf j m = true)
    (he : ∀ X', XOK X' { cf with sc := rel scope cf.sc } G → SE X' G elt e) : SF X G (.lco i j elt) (.ListComp e [⟨.Name n p, .Name m p2, [], 0⟩] scope pos) := by
  intro Hb H σ ρ P Q I w q
  exact ⟨_, pe_lc (own := [(n, i)]) (g := gName i) (tt := tYes) (te := WB X scope e) ok.calm (by rw [ok.N]; exact ok.nd) pi_W (by rw [ok.N, ok.sc]; exact blkOk_by hb) (blk_name ok hi hl) (fun _ _ _ _ _ => pts_nil) pe_WB (fun _ => rfl), flco0 ok hv he I w q⟩
theorem flc (ok : XOK X cf G) {scope : Scope} {i : Nat} {n : Str} {p pos : Pos} (hi : cf.N[i]? = some n) (hl : locB scope n = true) (hb : blkC cf.N cf.sc scope [(n, i)] = true) (hns : notSet iter = true) (hsrc : SI X G src (.Name n p) iter)
    (he : ∀ X', XOK X' { cf with sc := rel scope cf.sc } G → SE X' G elt e) : SF X G (.lc i src elt) (.ListComp e [⟨.Name n p, iter, [], 0⟩] scope pos) := by
  intro Hb H σ ρ P Q I w q
  exact ⟨_, pe_lc (own := [(n, i)]) (g := gName i) (tt := tYes) (te := WB X scope e) ok.calm (by rw [ok.N]; exact ok.nd) pi_W (by rw [ok.N, ok.sc]; exact blkOk_by hb) (blk_name ok hi hl) (fun _ _ _ _ _ => pts_nil) pe_WB (notSet_f hns), flc0 ok hsrc he I w q⟩
theorem flci (ok : XOK X cf G) {scope : Scope} {i : Nat} {n : Str} {p pos : Pos} (hi : cf.N[i]? = some n) (hl : locB scope n = true) (hb : blkC cf.N cf.sc scope [(n, i)] = true) (hns : notSet iter = true) (hsrc : SI X G src (.Name n p) iter)
    (ht : ∀ X', XOK X' { cf with sc := rel scope cf.sc } G → ST X' G c z)
    (he : ∀ X', XOK X' { cf with sc := rel scope cf.sc } G → SE X' G elt e) : SF X G (.lci i src c elt) (.ListComp e [⟨.Name n p, iter, [z], 0⟩] scope pos) := by
  intro Hb H σ ρ P Q I w q
  exact ⟨_, pe_lc (own := [(n, i)]) (g := gName i) (tt := WBT X scope z) (te := WB X scope e) ok.calm (by rw [ok.N]; exact ok.nd) pi_W (by rw [ok.N, ok.sc]; exact blkOk_by hb) (blk_name ok hi hl) (fun s H C cl fp => pts_one (pt_WB s H C cl fp)) pe_WB (notSet_f hns), flci0 ok hsrc ht he I w q⟩
/-- the loop of a dict comprehension -/
theorem dc_run {step : PyData → (PyData → PyData → Prop) → Prop} {i : Nat} {J : It} {Hb1 H1 : Hp} {xs : List PyData} {tt : TT} {tk tv : TE} {P : List (PyData × PyData) → Prop} {Q : VK} {D : Addr} (ex : Ex Hb1 H1) (it : ItG X.K J Hb1 H1 xs) (hD : H1 D = none) (w : dcW step xs [] P)
    (hs : ∀ d v Hb2 H2 R (A : V → V → Hp → Prop) (N : Hp → Prop), Dp X.K Hb2 v d → Gr Hb1 H1 Hb2 H2 → step d R → (∀ k y u w Hb4 H4, R k y → Gr Hb2 H2 Hb4 H4 → Dp X.K Hb4 u k → Dp X.K Hb4 w y → A u w H4) →
      tt ((wipe σ [i]).set i (some v)) H2 fun b H3 => if b = true then tk ((wipe σ [i]).set i (some v)) H3 fun u H4 => tv ((wipe σ [i]).set i (some v)) H4 fun w H5 => A u w H5 else N H3)
    (q : ∀ ds kvs Hb' H', P ds → Gr Hb1 H1 Hb' H' → Hb' D = none → H' D = some (.dK kvs) → DkAll X.K Hb' kvs ds → Q (.ref D) H') :
    ∃ W : Nat → Nat → Hp → Prop, (∃ m, W 0 m (upd H1 D (.dK []))) ∧ ∀ k m H, W k m H →
      (J.stop k H ∧ Q (.ref D) H) ∨ (J.go k H ∧ ∃ Nx : Hp → Prop, (∀ H', Nx H' → ∃ m', m' < m ∧ W (k + 1) m' H') ∧ ∀ x H', J.yld k H x H' → gName i x (wipe σ [i]) H' fun σ2 H2 => wipe σ2 [i] = wipe σ [i] ∧ tt σ2 H2 fun b H3 =>
        if b = true then tk σ2 H3 fun y H4 => tv σ2 H4 fun z H5 => ∃ kvs k, y = kV k ∧ H5 D = some (.dK kvs) ∧ kvs.length < sizeLine ∧ Nx (upd H5 D (.dK (putK kvs k z))) else Nx H3) := by
  have inv : ∀ {kvs : List (Key × V)} {ds : List (PyData × PyData)} {Hb : Hp}, DkAll X.K Hb kvs ds → kvs.length = ds.length := fun {kvs ds Hb} t => by
    refine DkAll.rec (motive_1 := fun _ _ _ => True) (motive_2 := fun _ _ _ => True) (motive_3 := fun a b _ => a.length = b.length) (motive_4 := fun _ _ _ => True) (motive_5 := fun _ _ _ => True) ?_ ?_ ?_ ?_ ?_ ?_ ?_ ?_ ?_ ?_ ?_ ?_ ?_ ?_ ?_ ?_ ?_ ?_ ?_ t <;> intros <;> first | trivial | rfl | (rw [List.length_cons, List.length_cons]; omega)
  refine ⟨fun k m H2 => m = xs.length - k ∧ k ≤ xs.length ∧ ∃ Hb2 acc kvs, Gr Hb1 H1 Hb2 H2 ∧ Hb2 D = none ∧ H2 D = some (.dK kvs) ∧ DkAll X.K Hb2 kvs acc ∧ dcW step (xs.drop k) acc P,
    ⟨_, rfl, Nat.zero_le _, Hb1, [], [], (Gr.refl ex).mut hD (none_of_ex ex hD), none_of_ex ex hD, upd_same, .nil, w⟩, ?_⟩
  rintro k m H2 ⟨rfl, hk, Hb2, acc, vs, g, hb, hl, r, w⟩
  by_cases hlt : k < xs.length
  · refine .inr ⟨it.go k Hb2 H2 g hlt, fun H' => ∃ Hb2 acc kvs, Gr Hb1 H1 Hb2 H' ∧ Hb2 D = none ∧ H' D = some (.dK kvs) ∧ DkAll X.K Hb2 kvs acc ∧ dcW step (xs.drop (k + 1)) acc P, fun H' h => ⟨_, by omega, rfl, hlt, h⟩, fun v H' y => ?_⟩
    obtain ⟨e, d, hd, rd⟩ := it.yld k v Hb2 H2 H' g hlt y
    subst e
    have ed : xs.drop k = d :: xs.drop (k + 1) := by
      rw [List.drop_eq_getElem_cons hlt]
      rw [List.getElem?_eq_getElem hlt] at hd
      cases hd
      rfl
    rw [ed] at w
    refine ⟨?_, ?_⟩
    · show (((σ.set i none).set i (some v)).set i none) = σ.set i none
      rw [List.set_set, List.set_set]
    refine hs d v Hb2 H' _ (fun y z H5 => ∃ kvs k_1, y = kV k_1 ∧ H5 D = some (.dK kvs) ∧ kvs.length < sizeLine ∧ ∃ Hb2 acc ks, Gr Hb1 H1 Hb2 (upd H5 D (.dK (putK kvs k_1 z))) ∧ Hb2 D = none ∧ upd H5 D (.dK (putK kvs k_1 z)) D = some (.dK ks) ∧ DkAll X.K Hb2 ks acc ∧ dcW step (xs.drop (k + 1)) acc P) _ rd g w fun ky y u z Hb4 H4 w2 g2 r1 r2 => ?_
    obtain ⟨w1, w3, w4⟩ := w2
    obtain ⟨kk, ek⟩ := Option.isSome_iff_exists.mp w1
    refine ⟨vs, kk, dkey_dp r1 ek, g2.b _ _ hl, ?_, Hb4, putD acc ky y, putK vs kk z, (g.trans g2).mut hD (g2.d _ _ hl hb), g2.d _ _ hl hb, upd_same, dk_put ek r2 (dk_mono g2.a r), w4⟩
    rw [inv r]
    exact sz_lt w3
  · have ek : k = xs.length := by omega
    subst ek
    refine .inl ⟨it.stop Hb2 H2 g, ?_⟩
    rw [List.drop_length] at w
    exact q acc vs Hb2 H2 w g hb hl r
theorem pe_frz {X : Cx} {e : Expr} {t : TE} (h : PE X e t) : PE X e (fun σ H Q => t σ H fun v H1 => ∃ p u, v = .ref p ∧ H1 p = some u ∧ Mut (some u) ∧ ∀ od, Q v (upd H1 p (.frz od u))) :=
  ⟨fun pins s σ H Q I q => thn (h.run pins s σ H _ I q) fun v s1 ⟨x, H1, I1, rx, p, u, e1, e2, e3, q1⟩ => by
    obtain ⟨od, I2⟩ := I1.lock e2 e3
    exact ⟨x, _, I2, rx, q1 od⟩⟩
theorem sdc (ok : XOK X cf G) {key val : T} {e2 : Expr} {scope : Scope} {i : Nat} {n : Str} {p pos : Pos} (hi : cf.N[i]? = some n) (hl : locB scope n = true) (hb : blkC cf.N cf.sc scope [(n, i)] = true) (hns : notSet iter = true) (hsrc : SI X G src (.Name n p) iter)
    (hk : ∀ X', XOK X' { cf with sc := rel scope cf.sc } G → SE X' G key e) (he : ∀ X', XOK X' { cf with sc := rel scope cf.sc } G → SE X' G val e2) : SE X G (.dc i src key val) (.DictComp e e2 [⟨.Name n p, iter, [], 0⟩] scope pos) := by
  intro Hb H σ ρ P Q I w q
  refine ⟨_, pe_frz (pe_dc (own := [(n, i)]) (g := gName i) (tt := tYes) (tk := WB X scope e) (tv := WB X scope e2) ok.calm (by rw [ok.N]; exact ok.nd) pi_W (by rw [ok.N, ok.sc]; exact blkOk_by hb) (blk_name ok hi hl) (fun _ _ _ _ _ => pts_nil) pe_WB pe_WB (notSet_f hns)), ?_⟩
  show tDc (WI X (.Name n p) iter) (gName i) tYes (WB X scope e) (WB X scope e2) [i] σ H fun v H1 => ∃ p u, v = .ref p ∧ H1 p = some u ∧ Mut (some u) ∧ ∀ od, Q v (upd H1 p (.frz od u))
  refine hsrc _ _ _ _ _ _ I w fun xs J Hb1 H1 w1 g1 it => fun D hD => ?_
  refine dc_run (Q := fun v H1 => ∃ p u, v = .ref p ∧ H1 p = some u ∧ Mut (some u) ∧ ∀ od, Q v (upd H1 p (.frz od u))) g1.c it.g hD w1 (fun d v Hb2 H2 R A N rd g st hA => ?_) fun ds kvs Hb' H' w2 g hb' hl' r => ⟨D, _, rfl, hl', trivial, fun od => ?_⟩
  · show (if true = true then WB X scope e ((wipe σ [i]).set i (some v)) H2 _ else N H2)
    rw [if_pos rfl]
    intro s0 H0 C cl fp
    have I2 : En X.K Hb2 H2 ((wipe σ [i]).set i (some v)) (ρ.set i (some (.dat d))) := (I.mono (g1.trans g)).wipe1 rd
    refine hk _ (blk_ok ok s0 H0 C cl fp) _ _ _ _ _ _ I2 st fun y u Hb4 H4 w3 g3 r3 => ?_
    intro s0 H0 C cl fp
    exact he _ (blk_ok ok s0 H0 C cl fp) _ _ _ _ _ _ (I2.mono g3) w3 fun z u2 Hb5 H5 w4 g4 r4 => hA y z u u2 Hb5 H5 w4 (g3.trans g4) (dpr_mono g4.a r3) r4
  · have gl := g.lock hD hb' (o := .frz od (.dK kvs))
    exact q _ _ (upd Hb' D (.frz od (.dK kvs))) _ w2 (g1.trans gl) (.dk (.inr ⟨_, upd_same⟩) (dk_mono (ex_upd hb') r))
end
end Qd

set_option Elab.async false
set_option linter.all false
set_option maxRecDepth 100000
set_option maxHeartbeats 4000000
namespace Qd
open PySem L2
section
variable {G : Ga} {cf : Cf} {X : Cx} {a b c : T} {ts : Ts} {e : Expr}
def isBool : Expr → Bool
  | .BoolOp _ _ _ => true
  | _ => false
structure Okk (G : Ga) (t : T) : Prop where
  e : ∀ cf X e, XOK X cf G → chkE cf t e = true → SE X G t e
  c : ∀ cf X e, XOK X cf G → chkC cf t e = true → ST X G t e
  w : ∀ cf X e, XOK X cf G → chkC cf t e = true → isBool e = true → SW X G t e
  i : ∀ cf X e tg, XOK X cf G → chkI cf t e = true → SI X G t tg e
  f : ∀ cf X e, XOK X cf G → chkE cf t e = true → isFresh t = true → SF X G t e
structure Okks (G : Ga) (ts : Ts) : Prop where
  s : ∀ cf X es, XOK X cf G → chkEs cf ts es = true → SA X G ts es
  n : ∀ cf X es, XOK X cf G → chkEs cf ts es = true → SN X G ts es
theorem no {α : Prop} (h : false = true) : α := by cases h
/-- a term that is neither test nor walk nor new -/
theorem Okk.of_e {t : T} (he : ∀ cf X e, XOK X cf G → chkE cf t e = true → SE X G t e) (hc : ∀ cf e, chkC cf t e = false) (hi : ∀ cf e, chkI cf t e = false) (hf : isFresh t = false) : Okk G t :=
  ⟨he, fun cf X e _ h => by rw [hc] at h; exact no h, fun cf X e _ h => by rw [hc] at h; exact no h, fun cf X e tg _ h => by rw [hi] at h; exact no h, fun cf X e _ _ h => by rw [hf] at h; exact no h⟩
theorem o_v (i : Nat) : Okk G (.v i) := by
  refine ⟨fun cf X e ok h => ?_, fun cf X e ok h => ?_, fun cf X e ok h hq => ?_, fun cf X e tg ok h => ?_, fun cf X e ok h hf => no hf⟩
  · cases e <;> simp only [chkE, Bool.false_eq_true] at h
    exact sv ok h
  · cases e <;> simp only [chkC, Bool.false_eq_true] at h
    exact tplain (fun _ => rfl) (sv ok h)
  · cases e <;> first | exact no hq | (simp only [chkC, Bool.false_eq_true] at h)
  · cases e <;> simp only [chkI, Bool.false_eq_true] at h
    exact iv ok h
theorem o_k (d : PyData) : Okk G (.k d) :=
  .of_e (fun cf X e ok h => by simp only [chkE] at h; exact sk h) (fun cf e => by cases e <;> simp only [chkC]) (fun cf e => by cases e <;> simp only [chkI]) rfl
theorem o_gl (n : Nat) : Okk G (.gl n) := by
  refine ⟨fun cf X e ok h => ?_, fun cf X e ok h => ?_, fun cf X e ok h hq => ?_, fun cf X e tg ok h => ?_, fun cf X e ok h hf => no hf⟩
  · cases e <;> simp only [chkE, Bool.false_eq_true] at h
    exact sgl ok h
  · cases e <;> simp only [chkC, Bool.false_eq_true] at h
  · cases e <;> simp only [chkC, Bool.false_eq_true] at h
  · cases e <;> simp only [chkI, Bool.false_eq_true] at h
    exact igl ok h
theorem o_bin (o : BO) (ha : Okk G a) (hb : Okk G b) : Okk G (.bin o a b) :=
  .of_e (fun cf X e ok h => by
    cases e <;> simp only [chkE, Bool.false_eq_true, Bool.and_eq_true] at h
    exact sbin h.1.1 (ha.e _ _ _ ok h.1.2) (hb.e _ _ _ ok h.2)) (fun cf e => by cases e <;> simp only [chkC]) (fun cf e => by cases e <;> simp only [chkI]) rfl
theorem o_neg (ha : Okk G a) : Okk G (.neg a) :=
  .of_e (fun cf X e ok h => by
    cases e <;> simp only [chkE, Bool.false_eq_true, Bool.and_eq_true] at h
    cases isUn_eq h.1
    exact sneg (ha.e _ _ _ ok h.2)) (fun cf e => by cases e <;> simp only [chkC]) (fun cf e => by cases e <;> simp only [chkI]) rfl
theorem o_cmp (o : CO) (ha : Okk G a) (hb : Okk G b) : Okk G (.cmp o a b) := by
  refine ⟨fun cf X e ok h => ?_, fun cf X e ok h => ?_, fun cf X e ok h hq => ?_, fun cf X e tg ok h => ?_, fun cf X e ok h hf => ?_⟩
  · cases e <;> first | (simp only [chkE, Bool.false_eq_true] at h; done) | skip
    rename_i x ops ys p
    rcases ops with _ | ⟨op, _ | ⟨op2, ops⟩⟩ <;> rcases ys with _ | ⟨y, _ | ⟨y2, ys⟩⟩ <;> first | (simp only [chkE, Bool.false_eq_true] at h; done) | skip
    simp only [chkE, Bool.and_eq_true] at h
    exact scmp ok h.1.1.1 h.2 (ha.e _ _ _ ok h.1.1.2) (hb.e _ _ _ ok h.1.2)
  · cases e <;> first | (simp only [chkC, Bool.false_eq_true] at h; done) | skip
    rename_i x ops ys p
    rcases ops with _ | ⟨op, _ | ⟨op2, ops⟩⟩ <;> rcases ys with _ | ⟨y, _ | ⟨y2, ys⟩⟩ <;> first | (simp only [chkC, Bool.false_eq_true] at h; done) | skip
    simp only [chkC, Bool.and_eq_true] at h
    exact tcmp ok h.1.1.1 h.2 (ha.e _ _ _ ok h.1.1.2) (hb.e _ _ _ ok h.1.2)
  · cases e <;> first | exact no hq | (simp only [chkC, Bool.false_eq_true] at h; done)
  · cases e <;> simp only [chkI, Bool.false_eq_true] at h
  · exact no hf
theorem o_chain (o o' : CO) (ha : Okk G a) (hb : Okk G b) (hc : Okk G c) : Okk G (.chain o o' a b c) := by
  refine ⟨fun cf X e ok h => ?_, fun cf X e ok h => ?_, fun cf X e ok h hq => ?_, fun cf X e tg ok h => ?_, fun cf X e ok h hf => ?_⟩
  · cases e <;> first | (simp only [chkE, Bool.false_eq_true] at h; done) | skip
    rename_i x ops ys p
    rcases ops with _ | ⟨op, _ | ⟨op2, _ | ⟨op3, ops⟩⟩⟩ <;> rcases ys with _ | ⟨y, _ | ⟨y2, _ | ⟨y3, ys⟩⟩⟩ <;> first | (simp only [chkE, Bool.false_eq_true] at h; done) | skip
    simp only [chkE, Bool.and_eq_true] at h
    exact schain ok h.1.1.1.1.1 h.1.1.1.1.2 h.2 (ha.e _ _ _ ok h.1.1.1.2) (hb.e _ _ _ ok h.1.1.2) (hc.e _ _ _ ok h.1.2)
  · cases e <;> first | (simp only [chkC, Bool.false_eq_true] at h; done) | skip
    rename_i x ops ys p
    rcases ops with _ | ⟨op, _ | ⟨op2, _ | ⟨op3, ops⟩⟩⟩ <;> rcases ys with _ | ⟨y, _ | ⟨y2, _ | ⟨y3, ys⟩⟩⟩ <;> first | (simp only [chkC, Bool.false_eq_true] at h; done) | skip
    simp only [chkC, Bool.and_eq_true] at h
    exact tchain ok h.1.1.1.1.1 h.1.1.1.1.2 h.2 (ha.e _ _ _ ok h.1.1.1.2) (hb.e _ _ _ ok h.1.1.2) (hc.e _ _ _ ok h.1.2)
  · cases e <;> first | exact no hq | (simp only [chkC, Bool.false_eq_true] at h; done)
  · cases e <;> simp only [chkI, Bool.false_eq_true] at h
  · exact no hf
theorem o_isN (ha : Okk G a) : Okk G (.isN a) := by
  refine ⟨fun cf X e ok h => ?_, fun cf X e ok h => ?_, fun cf X e ok h hq => ?_, fun cf X e tg ok h => ?_, fun cf X e ok h hf => ?_⟩
  · cases e <;> first | (simp only [chkE, Bool.false_eq_true] at h; done) | skip
    rename_i x ops ys p
    rcases ops with _ | ⟨op, _ | ⟨op2, ops⟩⟩ <;> rcases ys with _ | ⟨y, _ | ⟨y2, ys⟩⟩ <;> first | (simp only [chkE, Bool.false_eq_true] at h; done) | skip
    simp only [chkE, Bool.and_eq_true] at h
    cases isCo_eq h.1.1
    obtain ⟨j, p', rfl⟩ := isNoneE_eq h.1.2
    exact sisN (ha.e _ _ _ ok h.2)
  · cases e <;> first | (simp only [chkC, Bool.false_eq_true] at h; done) | skip
    rename_i x ops ys p
    rcases ops with _ | ⟨op, _ | ⟨op2, ops⟩⟩ <;> rcases ys with _ | ⟨y, _ | ⟨y2, ys⟩⟩ <;> first | (simp only [chkC, Bool.false_eq_true] at h; done) | skip
    simp only [chkC, Bool.and_eq_true] at h
    cases isCo_eq h.1.1
    obtain ⟨j, p', rfl⟩ := isNoneE_eq h.1.2
    exact tisN (ha.e _ _ _ ok h.2)
  · cases e <;> first | exact no hq | (simp only [chkC, Bool.false_eq_true] at h; done)
  · cases e <;> simp only [chkI, Bool.false_eq_true] at h
  · exact no hf
theorem o_notN (ha : Okk G a) : Okk G (.notN a) := by
  refine ⟨fun cf X e ok h => ?_, fun cf X e ok h => ?_, fun cf X e ok h hq => ?_, fun cf X e tg ok h => ?_, fun cf X e ok h hf => ?_⟩
  · cases e <;> first | (simp only [chkE, Bool.false_eq_true] at h; done) | skip
    rename_i x ops ys p
    rcases ops with _ | ⟨op, _ | ⟨op2, ops⟩⟩ <;> rcases ys with _ | ⟨y, _ | ⟨y2, ys⟩⟩ <;> first | (simp only [chkE, Bool.false_eq_true] at h; done) | skip
    simp only [chkE, Bool.and_eq_true] at h
    cases isCo_eq h.1.1
    obtain ⟨j, p', rfl⟩ := isNoneE_eq h.1.2
    exact snotN (ha.e _ _ _ ok h.2)
  · cases e <;> first | (simp only [chkC, Bool.false_eq_true] at h; done) | skip
    rename_i x ops ys p
    rcases ops with _ | ⟨op, _ | ⟨op2, ops⟩⟩ <;> rcases ys with _ | ⟨y, _ | ⟨y2, ys⟩⟩ <;> first | (simp only [chkC, Bool.false_eq_true] at h; done) | skip
    simp only [chkC, Bool.and_eq_true] at h
    cases isCo_eq h.1.1
    obtain ⟨j, p', rfl⟩ := isNoneE_eq h.1.2
    exact tnotN (ha.e _ _ _ ok h.2)
  · cases e <;> first | exact no hq | (simp only [chkC, Bool.false_eq_true] at h; done)
  · cases e <;> simp only [chkI, Bool.false_eq_true] at h
  · exact no hf
theorem o_isin (ha : Okk G a) (hb : Okk G b) : Okk G (.isin a b) := by
  refine ⟨fun cf X e ok h => ?_, fun cf X e ok h => ?_, fun cf X e ok h hq => ?_, fun cf X e tg ok h => ?_, fun cf X e ok h hf => ?_⟩
  · cases e <;> first | (simp only [chkE, Bool.false_eq_true] at h; done) | skip
    rename_i x ops ys p
    rcases ops with _ | ⟨op, _ | ⟨op2, ops⟩⟩ <;> rcases ys with _ | ⟨y, _ | ⟨y2, ys⟩⟩ <;> first | (simp only [chkE, Bool.false_eq_true] at h; done) | skip
    simp only [chkE, Bool.and_eq_true] at h
    cases isCo_eq h.1.1.1
    exact sisin ok h.2 (ha.e _ _ _ ok h.1.1.2) (hb.e _ _ _ ok h.1.2)
  · cases e <;> first | (simp only [chkC, Bool.false_eq_true] at h; done) | skip
    rename_i x ops ys p
    rcases ops with _ | ⟨op, _ | ⟨op2, ops⟩⟩ <;> rcases ys with _ | ⟨y, _ | ⟨y2, ys⟩⟩ <;> first | (simp only [chkC, Bool.false_eq_true] at h; done) | skip
    simp only [chkC, Bool.and_eq_true] at h
    cases isCo_eq h.1.1.1
    exact tisin ok h.2 (ha.e _ _ _ ok h.1.1.2) (hb.e _ _ _ ok h.1.2)
  · cases e <;> first | exact no hq | (simp only [chkC, Bool.false_eq_true] at h; done)
  · cases e <;> simp only [chkI, Bool.false_eq_true] at h
  · exact no hf
theorem o_notin (ha : Okk G a) (hb : Okk G b) : Okk G (.notin a b) := by
  refine ⟨fun cf X e ok h => ?_, fun cf X e ok h => ?_, fun cf X e ok h hq => ?_, fun cf X e tg ok h => ?_, fun cf X e ok h hf => ?_⟩
  · cases e <;> first | (simp only [chkE, Bool.false_eq_true] at h; done) | skip
    rename_i x ops ys p
    rcases ops with _ | ⟨op, _ | ⟨op2, ops⟩⟩ <;> rcases ys with _ | ⟨y, _ | ⟨y2, ys⟩⟩ <;> first | (simp only [chkE, Bool.false_eq_true] at h; done) | skip
    simp only [chkE, Bool.and_eq_true] at h
    cases isCo_eq h.1.1.1
    exact snotin ok h.2 (ha.e _ _ _ ok h.1.1.2) (hb.e _ _ _ ok h.1.2)
  · cases e <;> first | (simp only [chkC, Bool.false_eq_true] at h; done) | skip
    rename_i x ops ys p
    rcases ops with _ | ⟨op, _ | ⟨op2, ops⟩⟩ <;> rcases ys with _ | ⟨y, _ | ⟨y2, ys⟩⟩ <;> first | (simp only [chkC, Bool.false_eq_true] at h; done) | skip
    simp only [chkC, Bool.and_eq_true] at h
    cases isCo_eq h.1.1.1
    exact tnotin ok h.2 (ha.e _ _ _ ok h.1.1.2) (hb.e _ _ _ ok h.1.2)
  · cases e <;> first | exact no hq | (simp only [chkC, Bool.false_eq_true] at h; done)
  · cases e <;> simp only [chkI, Bool.false_eq_true] at h
  · exact no hf
theorem o_and (ha : Okk G a) (hb : Okk G b) : Okk G (.and a b) := by
  refine ⟨fun cf X e ok h => ?_, fun cf X e ok h => ?_, fun cf X e ok h hq => ?_, fun cf X e tg ok h => ?_, fun cf X e ok h hf => ?_⟩
  · cases e <;> first | (simp only [chkE, Bool.false_eq_true] at h; done) | skip
    rename_i op vs p
    rcases vs with _ | ⟨x, _ | ⟨y, r⟩⟩ <;> first | (simp only [chkE, Bool.false_eq_true] at h; done) | skip
    simp only [chkE, Bool.and_eq_true] at h
    cases isAnd_eq h.1.1
    refine sand (ha.e _ _ _ ok h.1.2) ?_
    have h2 := h.2
    by_cases q : len0 r = true
    · rw [if_pos q] at h2 ⊢
      exact hb.e _ _ _ ok h2
    · rw [if_neg q] at h2 ⊢
      exact hb.e _ _ _ ok h2
  · cases e <;> first | (simp only [chkC, Bool.false_eq_true] at h; done) | skip
    rename_i op vs p
    rcases vs with _ | ⟨x, _ | ⟨y, r⟩⟩ <;> first | (simp only [chkC, Bool.false_eq_true] at h; done) | skip
    simp only [chkC, Bool.and_eq_true] at h
    cases isAnd_eq h.1.1
    refine ST.of_sw (tand (ha.c _ _ _ ok h.1.2) ?_)
    have h2 := h.2
    by_cases q : len0 r = true
    · rw [if_pos q] at h2 ⊢
      exact hb.c _ _ _ ok h2
    · rw [if_neg q] at h2 ⊢
      exact hb.w _ _ _ ok h2 rfl
  · cases e <;> first | (simp only [chkC, Bool.false_eq_true] at h; done) | skip
    rename_i op vs p
    rcases vs with _ | ⟨x, _ | ⟨y, r⟩⟩ <;> first | (simp only [chkC, Bool.false_eq_true] at h; done) | skip
    simp only [chkC, Bool.and_eq_true] at h
    cases isAnd_eq h.1.1
    refine tand (ha.c _ _ _ ok h.1.2) ?_
    have h2 := h.2
    by_cases q : len0 r = true
    · rw [if_pos q] at h2 ⊢
      exact hb.c _ _ _ ok h2
    · rw [if_neg q] at h2 ⊢
      exact hb.w _ _ _ ok h2 rfl
  · cases e <;> simp only [chkI, Bool.false_eq_true] at h
  · exact no hf
theorem o_or (ha : Okk G a) (hb : Okk G b) : Okk G (.or a b) := by
  refine ⟨fun cf X e ok h => ?_, fun cf X e ok h => ?_, fun cf X e ok h hq => ?_, fun cf X e tg ok h => ?_, fun cf X e ok h hf => ?_⟩
  · cases e <;> first | (simp only [chkE, Bool.false_eq_true] at h; done) | skip
    rename_i op vs p
    rcases vs with _ | ⟨x, _ | ⟨y, r⟩⟩ <;> first | (simp only [chkE, Bool.false_eq_true] at h; done) | skip
    simp only [chkE, Bool.and_eq_true] at h
    cases isOr_eq h.1.1
    refine sor (ha.e _ _ _ ok h.1.2) ?_
    have h2 := h.2
    by_cases q : len0 r = true
    · rw [if_pos q] at h2 ⊢
      exact hb.e _ _ _ ok h2
    · rw [if_neg q] at h2 ⊢
      exact hb.e _ _ _ ok h2
  · cases e <;> first | (simp only [chkC, Bool.false_eq_true] at h; done) | skip
    rename_i op vs p
    rcases vs with _ | ⟨x, _ | ⟨y, r⟩⟩ <;> first | (simp only [chkC, Bool.false_eq_true] at h; done) | skip
    simp only [chkC, Bool.and_eq_true] at h
    cases isOr_eq h.1.1
    refine ST.of_sw (tor (ha.c _ _ _ ok h.1.2) ?_)
    have h2 := h.2
    by_cases q : len0 r = true
    · rw [if_pos q] at h2 ⊢
      exact hb.c _ _ _ ok h2
    · rw [if_neg q] at h2 ⊢
      exact hb.w _ _ _ ok h2 rfl
  · cases e <;> first | (simp only [chkC, Bool.false_eq_true] at h; done) | skip
    rename_i op vs p
    rcases vs with _ | ⟨x, _ | ⟨y, r⟩⟩ <;> first | (simp only [chkC, Bool.false_eq_true] at h; done) | skip
    simp only [chkC, Bool.and_eq_true] at h
    cases isOr_eq h.1.1
    refine tor (ha.c _ _ _ ok h.1.2) ?_
    have h2 := h.2
    by_cases q : len0 r = true
    · rw [if_pos q] at h2 ⊢
      exact hb.c _ _ _ ok h2
    · rw [if_neg q] at h2 ⊢
      exact hb.w _ _ _ ok h2 rfl
  · cases e <;> simp only [chkI, Bool.false_eq_true] at h
  · exact no hf
theorem o_not (ha : Okk G a) : Okk G (.not a) := by
  refine ⟨fun cf X e ok h => ?_, fun cf X e ok h => ?_, fun cf X e ok h hq => ?_, fun cf X e tg ok h => ?_, fun cf X e ok h hf => ?_⟩
  · cases e <;> first | (simp only [chkE, Bool.false_eq_true] at h; done) | skip
    simp only [chkE, Bool.and_eq_true] at h
    cases isUn_eq h.1
    exact snot (ha.e _ _ _ ok h.2)
  · cases e <;> first | (simp only [chkC, Bool.false_eq_true] at h; done) | skip
    simp only [chkC, Bool.and_eq_true] at h
    cases isUn_eq h.1
    exact tnot (ha.c _ _ _ ok h.2)
  · cases e <;> first | exact no hq | (simp only [chkC, Bool.false_eq_true] at h; done)
  · cases e <;> simp only [chkI, Bool.false_eq_true] at h
  · exact no hf
theorem o_ite (hc : Okk G c) (ha : Okk G a) (hb : Okk G b) : Okk G (.ite c a b) := by
  refine ⟨fun cf X e ok h => ?_, fun cf X e ok h => ?_, fun cf X e ok h hq => ?_, fun cf X e tg ok h => ?_, fun cf X e ok h hf => ?_⟩
  · cases e <;> first | (simp only [chkE, Bool.false_eq_true] at h; done) | skip
    simp only [chkE, Bool.and_eq_true] at h
    exact site (hc.c _ _ _ ok h.1.1) (ha.e _ _ _ ok h.1.2) (hb.e _ _ _ ok h.2)
  · cases e <;> simp only [chkC, Bool.false_eq_true] at h
  · cases e <;> simp only [chkC, Bool.false_eq_true] at h
  · cases e <;> simp only [chkI, Bool.false_eq_true] at h
  · exact no hf
theorem o_tup (ha : Okks G ts) : Okk G (.tup ts) := by
  refine ⟨fun cf X e ok h => ?_, fun cf X e ok h => ?_, fun cf X e ok h hq => ?_, fun cf X e tg ok h => ?_, fun cf X e ok h hf => ?_⟩
  · cases e <;> first | (simp only [chkE, Bool.false_eq_true] at h; done) | skip
    simp only [chkE] at h
    exact stup (ha.s _ _ _ ok h)
  · cases e <;> simp only [chkC, Bool.false_eq_true] at h
  · cases e <;> simp only [chkC, Bool.false_eq_true] at h
  · cases e <;> first | (simp only [chkI, Bool.false_eq_true] at h; done) | skip
    simp only [chkI] at h
    exact itup (ha.s _ _ _ ok h)
  · exact no hf
theorem o_lst (ha : Okks G ts) : Okk G (.lst ts) := by
  refine ⟨fun cf X e ok h => ?_, fun cf X e ok h => ?_, fun cf X e ok h hq => ?_, fun cf X e tg ok h => ?_, fun cf X e ok h hf => ?_⟩
  · cases e <;> first | (simp only [chkE, Bool.false_eq_true] at h; done) | skip
    simp only [chkE] at h
    exact (flst (ha.s _ _ _ ok h)).se
  · cases e <;> simp only [chkC, Bool.false_eq_true] at h
  · cases e <;> simp only [chkC, Bool.false_eq_true] at h
  · cases e <;> first | (simp only [chkI, Bool.false_eq_true] at h; done) | skip
    simp only [chkI] at h
    exact ilst (ha.s _ _ _ ok h)
  · cases e <;> first | (simp only [chkE, Bool.false_eq_true] at h; done) | skip
    simp only [chkE] at h
    exact flst (ha.s _ _ _ ok h)
theorem o_ix (ha : Okk G a) (hb : Okk G b) : Okk G (.ix a b) := by
  refine ⟨fun cf X e ok h => ?_, fun cf X e ok h => ?_, fun cf X e ok h hq => ?_, fun cf X e tg ok h => ?_, fun cf X e ok h hf => ?_⟩
  · cases e <;> first | (simp only [chkE, Bool.false_eq_true] at h; done) | skip
    simp only [chkE, Bool.and_eq_true] at h
    exact six h.2 (ha.e _ _ _ ok h.1.1) (hb.e _ _ _ ok h.1.2)
  · cases e <;> first | (simp only [chkC, Bool.false_eq_true] at h; done) | skip
    simp only [chkC, Bool.and_eq_true] at h
    exact tplain (fun _ => rfl) (six h.2 (ha.e _ _ _ ok h.1.1) (hb.e _ _ _ ok h.1.2))
  · cases e <;> first | exact no hq | (simp only [chkC, Bool.false_eq_true] at h; done)
  · cases e <;> first | (simp only [chkI, Bool.false_eq_true] at h; done) | skip
    simp only [chkI, Bool.and_eq_true] at h
    exact iix h.2 (ha.e _ _ _ ok h.1.1) (hb.e _ _ _ ok h.1.2)
  · exact no hf
theorem o_sl (lo hi : Option Int) (ha : Okk G a) : Okk G (.sl a lo hi) := by
  refine ⟨fun cf X e ok h => ?_, fun cf X e ok h => ?_, fun cf X e ok h hq => ?_, fun cf X e tg ok h => ?_, fun cf X e ok h hf => ?_⟩
  · cases e <;> first | (simp only [chkE, Bool.false_eq_true] at h; done) | skip
    rename_i x y p
    cases y <;> first | (simp only [chkE, Bool.false_eq_true] at h; done) | skip
    rename_i l u st p2
    cases st <;> first | (simp only [chkE, Bool.false_eq_true] at h; done) | skip
    simp only [chkE, Bool.and_eq_true] at h
    exact ssl h.1.2 h.2 (ha.e _ _ _ ok h.1.1)
  · cases e <;> simp only [chkC, Bool.false_eq_true] at h
  · cases e <;> simp only [chkC, Bool.false_eq_true] at h
  · cases e <;> simp only [chkI, Bool.false_eq_true] at h
  · exact no hf
theorem o_cat (ha : Okk G a) (hb : Okk G b) : Okk G (.cat a b) := by
  refine ⟨fun cf X e ok h => ?_, fun cf X e ok h => ?_, fun cf X e ok h hq => ?_, fun cf X e tg ok h => ?_, fun cf X e ok h hf => ?_⟩
  · cases e <;> first | (simp only [chkE, Bool.false_eq_true] at h; done) | skip
    simp only [chkE, Bool.and_eq_true] at h
    cases isOp_eq h.1.1
    exact scat_t (ha.e _ _ _ ok h.1.2) (hb.e _ _ _ ok h.2)
  · cases e <;> simp only [chkC, Bool.false_eq_true] at h
  · cases e <;> simp only [chkC, Bool.false_eq_true] at h
  · cases e <;> simp only [chkI, Bool.false_eq_true] at h
  · exact no hf
theorem o_call (f : Nat) (ha : Okk G a) (hs : Okks G ts) : Okk G (.call f (.cons a ts)) := by
  refine ⟨fun cf X e ok h => ?_, fun cf X e ok h => ?_, fun cf X e ok h hq => ?_, fun cf X e tg ok h => ?_, fun cf X e ok h hf => ?_⟩
  · cases e <;> first | (simp only [chkE, Bool.false_eq_true] at h; done) | skip
    rename_i fe args kws p
    cases fe <;> first | (simp only [chkE, Bool.false_eq_true] at h; done) | skip
    rename_i n p'
    rcases args with _ | ⟨x, es⟩ <;> rcases kws with _ | ⟨kw, kws⟩ <;> first | (simp only [chkE, Bool.false_eq_true] at h; done) | skip
    simp only [chkE, Bool.and_eq_true, decide_eq_true_eq] at h
    exact scall ok h.1.1.1 h.1.2 h.2 (acons h.1.2 (ha.e _ _ _ ok h.1.1.2) (hs.s _ _ _ ok h.2))
  · cases e <;> first | (simp only [chkC, Bool.false_eq_true] at h; done) | skip
    rename_i fe args kws p
    cases fe <;> first | (simp only [chkC, Bool.false_eq_true] at h; done) | skip
    rename_i n p'
    rcases args with _ | ⟨x, es⟩ <;> rcases kws with _ | ⟨kw, kws⟩ <;> first | (simp only [chkC, Bool.false_eq_true] at h; done) | skip
    simp only [chkC, Bool.and_eq_true, decide_eq_true_eq] at h
    exact tplain (fun _ => rfl) (scall ok h.1.1.1 h.1.2 h.2 (acons h.1.2 (ha.e _ _ _ ok h.1.1.2) (hs.s _ _ _ ok h.2)))
  · cases e <;> first | exact no hq | (simp only [chkC, Bool.false_eq_true] at h; done)
  · cases e <;> first | (simp only [chkI, Bool.false_eq_true] at h; done) | skip
    rename_i fe args kws p
    cases fe <;> first | (simp only [chkI, Bool.false_eq_true] at h; done) | skip
    rename_i n p'
    rcases args with _ | ⟨x, es⟩ <;> rcases kws with _ | ⟨kw, kws⟩ <;> first | (simp only [chkI, Bool.false_eq_true] at h; done) | skip
    simp only [chkI, Bool.and_eq_true, decide_eq_true_eq] at h
    exact icall ok h.1.1.1 h.1.2 h.2 (acons h.1.2 (ha.e _ _ _ ok h.1.1.2) (hs.s _ _ _ ok h.2))
  · exact no hf
theorem o_call0 (f : Nat) : Okk G (.call f .nil) := by
  refine ⟨fun cf X e ok h => ?_, fun cf X e ok h => ?_, fun cf X e ok h hq => ?_, fun cf X e tg ok h => ?_, fun cf X e ok h hf => ?_⟩
  · cases e <;> simp only [chkE, Bool.false_eq_true] at h
  · cases e <;> simp only [chkC, Bool.false_eq_true] at h
  · cases e <;> simp only [chkC, Bool.false_eq_true] at h
  · cases e <;> simp only [chkI, Bool.false_eq_true] at h
  · exact no hf
theorem o_blt (bb : Bl) (ha : Okk G a) (hs : Okks G ts) : Okk G (.blt bb (.cons a ts)) := by
  refine ⟨fun cf X e ok h => ?_, fun cf X e ok h => ?_, fun cf X e ok h hq => ?_, fun cf X e tg ok h => ?_, fun cf X e ok h hf => ?_⟩
  · cases e <;> first | (simp only [chkE, Bool.false_eq_true] at h; done) | skip
    rename_i f args kws p
    cases f <;> first | (simp only [chkE, Bool.false_eq_true] at h; done) | skip
    rename_i n p'
    rcases args with _ | ⟨x, es⟩ <;> rcases kws with _ | ⟨kw, kws⟩ <;> first | (simp only [chkE, Bool.false_eq_true] at h; done) | skip
    simp only [chkE, Bool.and_eq_true, decide_eq_true_eq] at h
    exact sblt ok h.1.1.1.1.1 h.1.1.1.1.2 h.1.2 h.2 (acons h.1.2 (ha.e _ _ _ ok h.1.1.2) (hs.s _ _ _ ok h.2))
  · cases e <;> simp only [chkC, Bool.false_eq_true] at h
  · cases e <;> simp only [chkC, Bool.false_eq_true] at h
  · cases e <;> simp only [chkI, Bool.false_eq_true] at h
  · cases bb <;> first | exact no hf | skip
    cases e <;> first | (simp only [chkE, Bool.false_eq_true] at h; done) | skip
    rename_i f args kws p
    cases f <;> first | (simp only [chkE, Bool.false_eq_true] at h; done) | skip
    rename_i n p'
    rcases args with _ | ⟨x, es⟩ <;> rcases kws with _ | ⟨kw, kws⟩ <;> first | (simp only [chkE, Bool.false_eq_true] at h; done) | skip
    simp only [chkE, Bool.and_eq_true, decide_eq_true_eq] at h
    exact flist ok h.1.1.1.1.1 h.1.1.1.1.2 h.1.2 h.2 (acons h.1.2 (ha.e _ _ _ ok h.1.1.2) (hs.s _ _ _ ok h.2))
theorem o_blt0 (bb : Bl) : Okk G (.blt bb .nil) := by
  refine ⟨fun cf X e ok h => ?_, fun cf X e ok h => ?_, fun cf X e ok h hq => ?_, fun cf X e tg ok h => ?_, fun cf X e ok h hf => ?_⟩
  · cases e <;> simp only [chkE, Bool.false_eq_true] at h
  · cases e <;> simp only [chkC, Bool.false_eq_true] at h
  · cases e <;> simp only [chkC, Bool.false_eq_true] at h
  · cases e <;> simp only [chkI, Bool.false_eq_true] at h
  · cases e <;> simp only [chkE, Bool.false_eq_true] at h
theorem o_idx (ha : Okk G a) (hb : Okk G b) : Okk G (.idx a b) := by
  refine ⟨fun cf X e ok h => ?_, fun cf X e ok h => ?_, fun cf X e ok h hq => ?_, fun cf X e tg ok h => ?_, fun cf X e ok h hf => ?_⟩
  · cases e <;> first | (simp only [chkE, Bool.false_eq_true] at h; done) | skip
    rename_i f args kws p
    cases f <;> first | (simp only [chkE, Bool.false_eq_true] at h; done) | skip
    rename_i o m ap
    cases o <;> first | (simp only [chkE, Bool.false_eq_true] at h; done) | skip
    rcases args with _ | ⟨x, _ | ⟨x2, es⟩⟩ <;> rcases kws with _ | ⟨kw, kws⟩ <;> first | (simp only [chkE, Bool.false_eq_true] at h; done) | skip
    simp only [chkE, Bool.and_eq_true, decide_eq_true_eq] at h
    exact sidx ok h.1.1.1.1 h.1.2 h.2 (ha.e _ _ _ ok h.1.1.1.2) (hb.e _ _ _ ok h.1.1.2)
  · cases e <;> simp only [chkC, Bool.false_eq_true] at h
  · cases e <;> simp only [chkC, Bool.false_eq_true] at h
  · cases e <;> simp only [chkI, Bool.false_eq_true] at h
  · exact no hf
theorem o_tidx (i : Nat) (hb : Okk G b) : Okk G (.tidx i b) := by
  refine ⟨fun cf X e ok h => ?_, fun cf X e ok h => ?_, fun cf X e ok h hq => ?_, fun cf X e tg ok h => ?_, fun cf X e ok h hf => ?_⟩
  · cases e <;> first | (simp only [chkE, Bool.false_eq_true] at h; done) | skip
    rename_i f args kws p
    cases f <;> first | (simp only [chkE, Bool.false_eq_true] at h; done) | skip
    rename_i o m ap
    cases o <;> first | (simp only [chkE, Bool.false_eq_true] at h; done) | skip
    rcases args with _ | ⟨x, _ | ⟨x2, es⟩⟩ <;> rcases kws with _ | ⟨kw, kws⟩ <;> first | (simp only [chkE, Bool.false_eq_true] at h; done) | skip
    simp only [chkE, Bool.and_eq_true, decide_eq_true_eq] at h
    exact stidx ok h.1.1.1.1 h.1.1.1.2 h.1.2 h.2 (hb.e _ _ _ ok h.1.1.2)
  · cases e <;> simp only [chkC, Bool.false_eq_true] at h
  · cases e <;> simp only [chkC, Bool.false_eq_true] at h
  · cases e <;> simp only [chkI, Bool.false_eq_true] at h
  · exact no hf
theorem o_lc (i : Nat) (hs : Okk G a) (he : Okk G b) : Okk G (.lc i a b) := by
  refine ⟨fun cf X e ok h => ?_, fun cf X e ok h => ?_, fun cf X e ok h hq => ?_, fun cf X e tg ok h => ?_, fun cf X e ok h hf => ?_⟩
  · cases e <;> first | (simp only [chkE, Bool.false_eq_true] at h; done) | skip
    rename_i el gens scope p
    rcases gens with _ | ⟨⟨tg, iter, ifs, as⟩, _ | ⟨g2, gens⟩⟩ <;> first | (simp only [chkE, Bool.false_eq_true] at h; done) | skip
    cases tg <;> first | (simp only [chkE, Bool.false_eq_true] at h; done) | skip
    rename_i n p'
    rcases ifs with _ | ⟨z, _ | ⟨z2, ifs⟩⟩ <;> first | (simp only [chkE, Bool.false_eq_true] at h; done) | skip
    simp only [chkE, Bool.and_eq_true, decide_eq_true_eq] at h
    obtain rfl := h.1.1.1.1.1.1
    exact (flc ok h.1.1.1.1.1.2 h.1.1.1.1.2 h.1.1.1.2 h.1.2 (hs.i _ _ _ _ ok h.1.1.2) (fun X' ok' => he.e _ _ _ ok' h.2)).se
  · cases e <;> simp only [chkC, Bool.false_eq_true] at h
  · cases e <;> simp only [chkC, Bool.false_eq_true] at h
  · cases e <;> simp only [chkI, Bool.false_eq_true] at h
  · cases e <;> first | (simp only [chkE, Bool.false_eq_true] at h; done) | skip
    rename_i el gens scope p
    rcases gens with _ | ⟨⟨tg, iter, ifs, as⟩, _ | ⟨g2, gens⟩⟩ <;> first | (simp only [chkE, Bool.false_eq_true] at h; done) | skip
    cases tg <;> first | (simp only [chkE, Bool.false_eq_true] at h; done) | skip
    rename_i n p'
    rcases ifs with _ | ⟨z, _ | ⟨z2, ifs⟩⟩ <;> first | (simp only [chkE, Bool.false_eq_true] at h; done) | skip
    simp only [chkE, Bool.and_eq_true, decide_eq_true_eq] at h
    obtain rfl := h.1.1.1.1.1.1
    exact (flc ok h.1.1.1.1.1.2 h.1.1.1.1.2 h.1.1.1.2 h.1.2 (hs.i _ _ _ _ ok h.1.1.2) (fun X' ok' => he.e _ _ _ ok' h.2))
theorem o_lci (i : Nat) (hs : Okk G a) (hc : Okk G c) (he : Okk G b) : Okk G (.lci i a c b) := by
  refine ⟨fun cf X e ok h => ?_, fun cf X e ok h => ?_, fun cf X e ok h hq => ?_, fun cf X e tg ok h => ?_, fun cf X e ok h hf => ?_⟩
  · cases e <;> first | (simp only [chkE, Bool.false_eq_true] at h; done) | skip
    rename_i el gens scope p
    rcases gens with _ | ⟨⟨tg, iter, ifs, as⟩, _ | ⟨g2, gens⟩⟩ <;> first | (simp only [chkE, Bool.false_eq_true] at h; done) | skip
    cases tg <;> first | (simp only [chkE, Bool.false_eq_true] at h; done) | skip
    rename_i n p'
    rcases ifs with _ | ⟨z, _ | ⟨z2, ifs⟩⟩ <;> first | (simp only [chkE, Bool.false_eq_true] at h; done) | skip
    simp only [chkE, Bool.and_eq_true, decide_eq_true_eq] at h
    obtain rfl := h.1.1.1.1.1.1.1
    exact (flci ok h.1.1.1.1.1.1.2 h.1.1.1.1.1.2 h.1.1.1.1.2 h.1.1.2 (hs.i _ _ _ _ ok h.1.1.1.2) (fun X' ok' => hc.c _ _ _ ok' h.1.2) (fun X' ok' => he.e _ _ _ ok' h.2)).se
  · cases e <;> simp only [chkC, Bool.false_eq_true] at h
  · cases e <;> simp only [chkC, Bool.false_eq_true] at h
  · cases e <;> simp only [chkI, Bool.false_eq_true] at h
  · cases e <;> first | (simp only [chkE, Bool.false_eq_true] at h; done) | skip
    rename_i el gens scope p
    rcases gens with _ | ⟨⟨tg, iter, ifs, as⟩, _ | ⟨g2, gens⟩⟩ <;> first | (simp only [chkE, Bool.false_eq_true] at h; done) | skip
    cases tg <;> first | (simp only [chkE, Bool.false_eq_true] at h; done) | skip
    rename_i n p'
    rcases ifs with _ | ⟨z, _ | ⟨z2, ifs⟩⟩ <;> first | (simp only [chkE, Bool.false_eq_true] at h; done) | skip
    simp only [chkE, Bool.and_eq_true, decide_eq_true_eq] at h
    obtain rfl := h.1.1.1.1.1.1.1
    exact (flci ok h.1.1.1.1.1.1.2 h.1.1.1.1.1.2 h.1.1.1.1.2 h.1.1.2 (hs.i _ _ _ _ ok h.1.1.1.2) (fun X' ok' => hc.c _ _ _ ok' h.1.2) (fun X' ok' => he.e _ _ _ ok' h.2))
theorem o_lco (i j : Nat) (he : Okk G b) : Okk G (.lco i j b) := by
  refine ⟨fun cf X e ok h => ?_, fun cf X e ok h => ?_, fun cf X e ok h hq => ?_, fun cf X e tg ok h => ?_, fun cf X e ok h hf => ?_⟩
  · cases e <;> first | (simp only [chkE, Bool.false_eq_true] at h; done) | skip
    rename_i el gens scope p
    rcases gens with _ | ⟨⟨tg, iter, ifs, as⟩, _ | ⟨g2, gens⟩⟩ <;> first | (simp only [chkE, Bool.false_eq_true] at h; done) | skip
    cases tg <;> first | (simp only [chkE, Bool.false_eq_true] at h; done) | skip
    rename_i n p'
    cases iter <;> first | (simp only [chkE, Bool.false_eq_true] at h; done) | skip
    rename_i m p2
    rcases ifs with _ | ⟨z, _ | ⟨z2, ifs⟩⟩ <;> first | (simp only [chkE, Bool.false_eq_true] at h; done) | skip
    simp only [chkE, Bool.and_eq_true, decide_eq_true_eq] at h
    obtain rfl := h.1.1.1.1.1
    exact (flco ok h.1.1.1.1.2 h.1.1.1.2 h.1.1.2 h.1.2 (fun X' ok' => he.e _ _ _ ok' h.2)).se
  · cases e <;> simp only [chkC, Bool.false_eq_true] at h
  · cases e <;> simp only [chkC, Bool.false_eq_true] at h
  · cases e <;> simp only [chkI, Bool.false_eq_true] at h
  · cases e <;> first | (simp only [chkE, Bool.false_eq_true] at h; done) | skip
    rename_i el gens scope p
    rcases gens with _ | ⟨⟨tg, iter, ifs, as⟩, _ | ⟨g2, gens⟩⟩ <;> first | (simp only [chkE, Bool.false_eq_true] at h; done) | skip
    cases tg <;> first | (simp only [chkE, Bool.false_eq_true] at h; done) | skip
    rename_i n p'
    cases iter <;> first | (simp only [chkE, Bool.false_eq_true] at h; done) | skip
    rename_i m p2
    rcases ifs with _ | ⟨z, _ | ⟨z2, ifs⟩⟩ <;> first | (simp only [chkE, Bool.false_eq_true] at h; done) | skip
    simp only [chkE, Bool.and_eq_true, decide_eq_true_eq] at h
    obtain rfl := h.1.1.1.1.1
    exact (flco ok h.1.1.1.1.2 h.1.1.1.2 h.1.1.2 h.1.2 (fun X' ok' => he.e _ _ _ ok' h.2))
theorem o_rg1 (ha : Okk G a) : Okk G (.rg1 a) := by
  refine ⟨fun cf X e ok h => ?_, fun cf X e ok h => ?_, fun cf X e ok h hq => ?_, fun cf X e tg ok h => ?_, fun cf X e ok h hf => ?_⟩
  · cases e <;> simp only [chkE, Bool.false_eq_true] at h
  · cases e <;> simp only [chkC, Bool.false_eq_true] at h
  · cases e <;> simp only [chkC, Bool.false_eq_true] at h
  · cases e <;> first | (simp only [chkI, Bool.false_eq_true] at h; done) | skip
    rename_i f args kws p
    cases f <;> first | (simp only [chkI, Bool.false_eq_true] at h; done) | skip
    rcases args with _ | ⟨x, _ | ⟨x2, es⟩⟩ <;> rcases kws with _ | ⟨kw, kws⟩ <;> first | (simp only [chkI, Bool.false_eq_true] at h; done) | skip
    simp only [chkI, Bool.and_eq_true, decide_eq_true_eq] at h
    exact irg1 ok h.1.1.1 h.1.1.2 h.2 (ha.e _ _ _ ok h.1.2)
  · exact no hf
theorem o_rg2 (ha : Okk G a) (hb : Okk G b) : Okk G (.rg2 a b) := by
  refine ⟨fun cf X e ok h => ?_, fun cf X e ok h => ?_, fun cf X e ok h hq => ?_, fun cf X e tg ok h => ?_, fun cf X e ok h hf => ?_⟩
  · cases e <;> simp only [chkE, Bool.false_eq_true] at h
  · cases e <;> simp only [chkC, Bool.false_eq_true] at h
  · cases e <;> simp only [chkC, Bool.false_eq_true] at h
  · cases e <;> first | (simp only [chkI, Bool.false_eq_true] at h; done) | skip
    rename_i f args kws p
    cases f <;> first | (simp only [chkI, Bool.false_eq_true] at h; done) | skip
    rcases args with _ | ⟨x, _ | ⟨x2, _ | ⟨x3, es⟩⟩⟩ <;> rcases kws with _ | ⟨kw, kws⟩ <;> first | (simp only [chkI, Bool.false_eq_true] at h; done) | skip
    simp only [chkI, Bool.and_eq_true, decide_eq_true_eq] at h
    exact irg2 ok h.1.1.1.1.1 h.1.1.1.1.2 h.1.1.2 h.2 (ha.e _ _ _ ok h.1.1.1.2) (hb.e _ _ _ ok h.1.2)
  · exact no hf
theorem o_x (k : Nat) (ha : Okk G a) (hs : Okks G ts) : Okk G (.x k a ts) := by
  have key : ∀ {cf : Cf} {X : Cx} {e : Expr}, XOK X cf G → (match cf.sub cf.sc k e with | some (e0, es) => chkE cf a e0 && chkEs cf ts es | none => false) = true → ∃ e0 es, XR X (G.pre k) (G.ext k) e e0 es ∧ SE X G a e0 ∧ SN X G ts es := fun {cf X e} ok h => by
    cases q : cf.sub cf.sc k e with
    | none =>
      rw [q] at h
      exact no h
    | some p =>
      obtain ⟨e0, es⟩ := p
      rw [q] at h
      have h : (chkE cf a e0 && chkEs cf ts es) = true := h
      rw [Bool.and_eq_true] at h
      exact ⟨e0, es, ok.glb.ext X cf.sc k e e0 es (xc_of ok) q, ha.e _ _ _ ok h.1, hs.n _ _ _ ok h.2⟩
  refine ⟨fun cf X e ok h => ?_, fun cf X e ok h => ?_, fun cf X e ok h hq => ?_, fun cf X e tg ok h => ?_, fun cf X e ok h hf => no hf⟩
  · have h' : (match cf.sub cf.sc k e with | some (e0, es) => chkE cf a e0 && chkEs cf ts es | none => false) = true := by
      cases e <;> (simp only [chkE] at h; exact h)
    obtain ⟨e0, es, r, se, sa⟩ := key ok h'
    exact sx r se sa
  · have h' : (notBool e && (match cf.sub cf.sc k e with | some (e0, es) => chkE cf a e0 && chkEs cf ts es | none => false)) = true := by
      cases e <;> (simp only [chkC] at h; exact h)
    rw [Bool.and_eq_true] at h'
    obtain ⟨e0, es, r, se, sa⟩ := key ok h'.2
    exact tx r se sa
  · have h' : (notBool e && (match cf.sub cf.sc k e with | some (e0, es) => chkE cf a e0 && chkEs cf ts es | none => false)) = true := by
      cases e <;> (simp only [chkC] at h; exact h)
    rw [Bool.and_eq_true] at h'
    cases e <;> first | exact no hq | exact no h'.1
  · have h' : (notSet e && (match cf.sub cf.sc k e with | some (e0, es) => chkE cf a e0 && chkEs cf ts es | none => false)) = true := by
      cases e <;> (simp only [chkI] at h; exact h)
    rw [Bool.and_eq_true] at h'
    obtain ⟨e0, es, r, se, sa⟩ := key ok h'.2
    exact ixx r se sa
theorem o_dc {key val : T} (i : Nat) (hs : Okk G a) (hk : Okk G key) (he : Okk G val) : Okk G (.dc i a key val) := by
  refine ⟨fun cf X e ok h => ?_, fun cf X e ok h => ?_, fun cf X e ok h hq => ?_, fun cf X e tg ok h => ?_, fun cf X e ok h hf => no hf⟩
  · cases e <;> first | (simp only [chkE, Bool.false_eq_true] at h; done) | skip
    rename_i el e2 gens scope p
    rcases gens with _ | ⟨⟨tg, iter, ifs, as⟩, _ | ⟨g2, gens⟩⟩ <;> first | (simp only [chkE, Bool.false_eq_true] at h; done) | skip
    cases tg <;> first | (simp only [chkE, Bool.false_eq_true] at h; done) | skip
    rename_i n p'
    rcases ifs with _ | ⟨z, ifs⟩ <;> first | (simp only [chkE, Bool.false_eq_true] at h; done) | skip
    simp only [chkE, Bool.and_eq_true, decide_eq_true_eq] at h
    obtain rfl := h.1.1.1.1.1.1.1
    exact sdc ok h.1.1.1.1.1.1.2 h.1.1.1.1.1.2 h.1.1.1.1.2 h.1.1.2 (hs.i _ _ _ _ ok h.1.1.1.2) (fun X' ok' => hk.e _ _ _ ok' h.1.2) (fun X' ok' => he.e _ _ _ ok' h.2)
  · cases e <;> simp only [chkC, Bool.false_eq_true] at h
  · cases e <;> simp only [chkC, Bool.false_eq_true] at h
  · cases e <;> simp only [chkI, Bool.false_eq_true] at h
theorem o_nil : Okks G .nil := ⟨fun cf X es ok h => by
  cases es with
  | nil => exact anil
  | cons e es => simp only [chkEs, Bool.false_eq_true] at h, fun cf X es ok h => by
  cases es with
  | nil => exact nnil
  | cons e es => simp only [chkEs, Bool.false_eq_true] at h⟩
theorem o_cons (ha : Okk G a) (hs : Okks G ts) : Okks G (.cons a ts) := ⟨fun cf X es ok h => by
  cases es with
  | nil => simp only [chkEs, Bool.false_eq_true] at h
  | cons e es =>
    simp only [chkEs, Bool.and_eq_true] at h
    exact acons h.1.2 (ha.e _ _ _ ok h.1.1) (hs.s _ _ _ ok h.2), fun cf X es ok h => by
  cases es with
  | nil => simp only [chkEs, Bool.false_eq_true] at h
  | cons e es =>
    simp only [chkEs, Bool.and_eq_true] at h
    exact ncons (ha.e _ _ _ ok h.1.1) (hs.n _ _ _ ok h.2)⟩
/-- the rules are sound -/
theorem okk (G : Ga) (t : T) : Okk G t := by
  refine T.rec (motive_1 := fun t => Okk G t) (motive_2 := fun ts => Okks G ts ∧ (∀ f, Okk G (.call f ts)) ∧ (∀ bb, Okk G (.blt bb ts))) ?_ ?_ ?_ ?_ ?_ ?_ ?_ ?_ ?_ ?_ ?_ ?_ ?_ ?_ ?_ ?_ ?_ ?_ ?_ ?_ ?_ ?_ ?_ ?_ ?_ ?_ ?_ ?_ ?_ ?_ ?_ ?_ ?_ t
  · exact o_v
  · exact o_k
  · exact o_gl
  · exact fun o a b ha hb => o_bin o ha hb
  · exact fun a ha => o_neg ha
  · exact fun o a b ha hb => o_cmp o ha hb
  · exact fun o o' a b c ha hb hc => o_chain o o' ha hb hc
  · exact fun a ha => o_isN ha
  · exact fun a ha => o_notN ha
  · exact fun a b ha hb => o_isin ha hb
  · exact fun a b ha hb => o_notin ha hb
  · exact fun a b ha hb => o_and ha hb
  · exact fun a b ha hb => o_or ha hb
  · exact fun a ha => o_not ha
  · exact fun c a b hc ha hb => o_ite hc ha hb
  · exact fun ts h => o_tup h.1
  · exact fun ts h => o_lst h.1
  · exact fun a b ha hb => o_ix ha hb
  · exact fun a lo hi ha => o_sl lo hi ha
  · exact fun a b ha hb => o_cat ha hb
  · exact fun f ts h => h.2.1 f
  · exact fun bb ts h => h.2.2 bb
  · exact fun a b ha hb => o_idx ha hb
  · exact fun i b hb => o_tidx i hb
  · exact fun i a b ha hb => o_lc i ha hb
  · exact fun i a c b ha hc hb => o_lci i ha hc hb
  · exact fun i j b hb => o_lco i j hb
  · exact fun a ha => o_rg1 ha
  · exact fun a b ha hb => o_rg2 ha hb
  · exact fun k a ts ha h => o_x k ha h.1
  · exact fun i a b c ha hb hc => o_dc i ha hb hc
  · exact ⟨o_nil, o_call0, o_blt0⟩
  · exact fun a ts ha h => ⟨o_cons ha h.1, fun f => o_call f ha h.1, fun bb => o_blt bb ha h.1⟩
end
end Qd

set_option Elab.async false
set_option linter.all false
set_option maxRecDepth 100000
set_option maxHeartbeats 4000000
namespace Qd
open PySem L2

/-! ### statements against the text -/
def swB (sc : Scope) (y : Str) (py : Pos) (scope : Scope) (pos : Pos) : Bool := (sc.names.lookup y == some NameKind.local) && (py.line == pos.line) && !(scope.names.any fun (n, k) => n == y && (k == NameKind.local || k == NameKind.cell))
def chkN (cf : Cf) (i : Nat) (x : Str) : Bool := decide (cf.N[i]? = some x) && locB cf.sc x
def chkTg (cf : Cf) : List Nat → List Expr → Bool
  | [], [] => true
  | i :: is, .Name x _ :: es => chkN cf i x && chkTg cf is es
  | _, _ => false
def isPm : BO → Bool
  | .add => true
  | .sub => true
  | _ => false
def isFnS (sc : Scope) : Bool := match sc.kind with
  | .function => true
  | _ => false
/-- a comprehension given to a name -/
def chkLC (cf : Cf) (x : Str) : T → Expr → Bool
  | .lc j src elt, .ListComp e [⟨.Name n _, iter, [], as⟩] scope _ => isFnS cf.sc && decide (as = 0) && decide (cf.N[j]? = some n) && locB scope n && blkC cf.N cf.sc scope [(n, j)] && chkI cf src iter && notSet iter && chkE { cf with sc := rel scope cf.sc } elt e
  | .lci j src c elt, .ListComp e [⟨.Name n _, iter, [g], as⟩] scope _ => isFnS cf.sc && decide (as = 0) && decide (cf.N[j]? = some n) && locB scope n && blkC cf.N cf.sc scope [(n, j)] && chkI cf src iter && notSet iter && chkC { cf with sc := rel scope cf.sc } c g && chkE { cf with sc := rel scope cf.sc } elt e
  | .lco i j elt, .ListComp e [⟨.Name n _, .Name y _, [], as⟩] scope _ => isFnS cf.sc && decide (as = 0) && decide (cf.N[i]? = some n) && locB scope n && blkC cf.N cf.sc scope [(n, i)] && chkV cf j y && chkE { cf with sc := rel scope cf.sc } elt e
  | _, _ => false
mutual
def chkS (cf : Cf) : S → Stmt → Bool
  | .set i t, .Assign [.Name x py] e _ => chkN cf i x && ((chkE cf t e && notComp e) || chkLC cf x t e)
  | .mk i t, .Assign [.Name x py] e _ => chkN cf i x && isFresh t && ((chkE cf t e && notComp e) || chkLC cf x t e)
  | .unp is t, .Assign [.Tuple es _ _] e _ => chkTg cf is es && chkE cf t e && notTup e && decide (es.length = is.length)
  | .unpw is n k, .Assign [.Tuple es _ _] (.Subscript (.Name x _) y _) _ => chkTg cf is es && chkF cf n x && chkE cf k y && notSlice y
  | .unpg is n k d, .Assign [.Tuple es _ _] (.Call (.Attribute (.Name x _) m apos) [y, z] [] cpos) _ => chkTg cf is es && chkF cf n x && decide (m = ("get" : Str)) && chkE cf k y && chkE cf d z && notStar y && notStar z && (apos.endLine == cpos.line)
  | .seti i a b, .Assign [.Subscript (.Name x p) y _] e _ => chkV cf i x && chkE cf a y && notSlice y && chkE cf b e
  | .augi i o a b, .AugAssign (.Subscript (.Name x p) y _) op e _ => chkV cf i x && isPm o && isOp op (boP o) && chkE cf a y && notSlice y && chkE cf b e
  | .aug i o t, .AugAssign (.Name x p) op e _ => chkN cf i x && isPm o && isOp op (boP o) && chkE cf t e
  | .app i t, .Expr (.Call (.Attribute (.Name x p) m apos) [e] [] cpos) _ => chkV cf i x && decide (m = ("append" : Str)) && chkE cf t e && notStar e && (apos.endLine == cpos.line)
  | .ext i t, .Expr (.Call (.Attribute (.Name x p) m apos) [e] [] cpos) _ => chkV cf i x && decide (m = ("extend" : Str)) && isFresh t && chkE cf t e && notStar e && (apos.endLine == cpos.line)
  | .cati i t, .Assign [.Name x py] (.BinOp (.Name y p) op e _) _ => chkN cf i x && chkV cf i y && isOp op .Add && isFresh t && chkE cf t e
  | .iff c a b, .If z x y _ => chkC cf c z && chkSs cf a x && chkSs cf b y
  | .fo i src b, .For (.Name x p) iter body [] _ => chkN cf i x && chkI cf src iter && notSet iter && chkSs cf b body
  | .fou is src b, .For (.Tuple es _ _) iter body [] _ => chkTg cf is es && chkI cf src iter && notSet iter && chkSs cf b body
  | .ret t, .Return (some e) _ => chkE cf t e
  | .brk, .Break _ => true
  | .cnt, .Continue _ => true
  | .pas, .Pass _ => true
  | .dead, .Raise _ _ _ => true
  | _, _ => false
termination_by structural s => s
def chkSs (cf : Cf) : Ss → List Stmt → Bool
  | .nil, [] => true
  | .cons (.fz _) ss, sts => chkSs cf ss sts
  | .cons s ss, st :: sts => chkS cf s st && chkSs cf ss sts
  | _, _ => false
termination_by structural s => s
end

def WS (X : Cx) (st : Stmt) : TS := fun D σ H => ∃ t, PS X st t ∧ t D σ H
theorem ps_W {X : Cx} {st : Stmt} : PS X st (WS X st) := ⟨fun pins s σ H D I ⟨_, h, q⟩ => h.run pins s σ H D I q⟩
def WSs (X : Cx) (sts : List Stmt) : TS := fun D σ H => ∃ t, PSs X sts t ∧ t D σ H
theorem pss_W {X : Cx} {sts : List Stmt} : PSs X sts (WSs X sts) := ⟨fun pins s σ H D I ⟨_, h, q⟩ => h.run pins s σ H D I q⟩

/-- the state in a def's body: from the entry on -/
structure EnS (K : PySem.W.Frag) (M Hb0 H0 Hb H : Hp) (σ : L2.St) (ρ : Rho) : Prop where
  en : En K Hb H σ ρ
  gr : Gr Hb0 H0 Hb H
  mx : Ex M Hb
  nw : ∀ (i : Nat) (b : B) (p : Addr), isOw b = true → ρ[i]? = some (some b) → σ[i]? = some (some (V.ref p)) → H0 p = none
def Fin (K : PySem.W.Frag) (M Hb0 H0 : Hp) (P : O → Prop) (D : Ends) : Prop := ∀ o, P o → match o with
  | .nx ρ => ∀ σ Hb H, EnS K M Hb0 H0 Hb H σ ρ → D.nx σ H
  | .rt d => ∀ v Hb H, Gr Hb0 H0 Hb H → Dp K Hb v d → D.rt v H
  | .bk ρ => ∀ σ Hb H, EnS K M Hb0 H0 Hb H σ ρ → D.bk σ H
  | .ct ρ => ∀ σ Hb H, EnS K M Hb0 H0 Hb H σ ρ → D.ct σ H
def SS (X : Cx) (G : Ga) (s : S) (st : Stmt) : Prop := ∀ (M Hb0 H0 Hb H : Hp) (σ : L2.St) (ρ : Rho) (P : O → Prop) (D : Ends), EnS X.K M Hb0 H0 Hb H σ ρ → wS G s ρ P → Fin X.K M Hb0 H0 P D → WS X st D σ H
def SSs (X : Cx) (G : Ga) (ss : Ss) (sts : List Stmt) : Prop := ∀ (M Hb0 H0 Hb H : Hp) (σ : L2.St) (ρ : Rho) (P : O → Prop) (D : Ends), EnS X.K M Hb0 H0 Hb H σ ρ → wSs G ss ρ P → Fin X.K M Hb0 H0 P D → WSs X sts D σ H

section
variable {K : PySem.W.Frag} {M Hb0 H0 Hb H Hb' H' : Hp} {σ : L2.St} {ρ : Rho} {i : Nat} {v : V} {d : PyData} {ds : List PyData} {vs : List V} {p : Addr}
theorem EnS.mono (x : EnS K M Hb0 H0 Hb H σ ρ) (g : Gr Hb H Hb' H') : EnS K M Hb0 H0 Hb' H' σ ρ := ⟨x.en.mono g, x.gr.trans g, x.mx.trans g.a, x.nw⟩
theorem set_none {α : Type} {l : List α} {i j : Nat} {a : α} (h : ¬ i < l.length) : (l.set i a)[j]? = l[j]? := by
  rw [List.set_eq_of_length_le (by omega)]
theorem EnS.setD (x : EnS K M Hb0 H0 Hb H σ ρ) (h : Dp K Hb v d) : EnS K M Hb0 H0 Hb H (σ.set i (some v)) (ρ.set i (some (.dat d))) := by
  refine ⟨x.en.setD h, x.gr, x.mx, fun j b p hb h1 h2 => ?_⟩
  obtain ⟨z, h1⟩ := own_set rfl hb h1
  rw [List.getElem?_set_ne z] at h2
  exact x.nw j b p hb h1 h2
theorem EnS.setW (x : EnS K M Hb0 H0 Hb H σ ρ) (h : WrD K v d) : EnS K M Hb0 H0 Hb H (σ.set i (some v)) (ρ.set i (some (.wri d))) := by
  refine ⟨x.en.setW h, x.gr, x.mx, fun j b p hb h1 h2 => ?_⟩
  obtain ⟨z, h1⟩ := own_set rfl hb h1
  rw [List.getElem?_set_ne z] at h2
  exact x.nw j b p hb h1 h2
/-- a slot holds something of its own: new, or another content at the same place -/
theorem EnS.setO {b : B} {u : HO} (x : EnS K M Hb0 H0 Hb H σ ρ) (hb : Hb p = none) (h0 : H0 p = none) (bw : isOw b = true) (r : OwR K Hb p b u) (other : ∀ (j : Nat) (c : B), j ≠ i → isOw c = true → ρ[j]? = some (some c) → σ[j]? = some (some (V.ref p)) → False) :
    EnS K M Hb0 H0 Hb (upd H p u) (σ.set i (some (.ref p))) (ρ.set i (some b)) := by
  have g : Gr Hb0 H0 Hb (upd H p u) := x.gr.mut h0 hb
  have ex : Ex Hb (upd H p u) := g.c
  refine ⟨⟨by rw [List.length_set, List.length_set]; exact x.en.len, ex, fun j e h1 => ?_, fun j c hc h1 => ?_, fun j e h1 => ?_, fun j k q c d hc hd h1 h2 h3 h4 => ?_⟩, g, x.mx, fun j c q hc h1 h2 => ?_⟩
  · by_cases z : i = j
    · subst z
      by_cases l : i < ρ.length
      · rw [List.getElem?_set_self l] at h1
        cases h1
        cases bw
      · rw [List.getElem?_eq_none (by rw [List.length_set]; omega)] at h1
        cases h1
    · rw [List.getElem?_set_ne z] at h1 ⊢
      exact x.en.dat j e h1
  · by_cases z : i = j
    · subst z
      by_cases l : i < ρ.length
      · rw [List.getElem?_set_self l] at h1
        cases h1
        exact ⟨p, u, by rw [List.getElem?_set_self (by rw [x.en.len]; exact l)], hb, upd_same, r⟩
      · rw [List.getElem?_eq_none (by rw [List.length_set]; omega)] at h1
        cases h1
    · rw [List.getElem?_set_ne z] at h1
      obtain ⟨q, w, e1, e2, e3, e4⟩ := x.en.ow j c hc h1
      have nq : q ≠ p := fun e => by
        subst e
        exact other j c (fun e => z e.symm) hc h1 e1
      exact ⟨q, w, by rw [List.getElem?_set_ne z]; exact e1, e2, by rw [upd_ne nq]; exact e3, e4⟩
  · by_cases z : i = j
    · subst z
      by_cases l : i < ρ.length
      · rw [List.getElem?_set_self l] at h1
        cases h1
        cases bw
      · rw [List.getElem?_eq_none (by rw [List.length_set]; omega)] at h1
        cases h1
    · rw [List.getElem?_set_ne z] at h1 ⊢
      exact x.en.wri j e h1
  · by_cases zj : i = j
    · by_cases zk : i = k
      · rw [← zj, ← zk]
      · rw [List.getElem?_set_ne zk] at h2 h4
        subst zj
        by_cases l : i < ρ.length
        · rw [List.getElem?_set_self (by rw [x.en.len]; exact l)] at h3
          cases h3
          exact (other k d (fun e => zk e.symm) hd h2 h4).elim
        · rw [List.getElem?_eq_none (by rw [List.length_set]; omega)] at h1
          cases h1
    · rw [List.getElem?_set_ne zj] at h1 h3
      by_cases zk : i = k
      · subst zk
        by_cases l : i < ρ.length
        · rw [List.getElem?_set_self (by rw [x.en.len]; exact l)] at h4
          cases h4
          exact (other j c (fun e => zj e.symm) hc h1 h3).elim
        · rw [List.getElem?_eq_none (by rw [List.length_set]; omega)] at h2
          cases h2
      · rw [List.getElem?_set_ne zk] at h2 h4
        exact x.en.dis j k q c d hc hd h1 h2 h3 h4
  · by_cases z : i = j
    · subst z
      by_cases l : i < ρ.length
      · rw [List.getElem?_set_self (by rw [x.en.len]; exact l)] at h2
        cases h2
        exact h0
      · rw [List.getElem?_eq_none (by rw [List.length_set]; omega)] at h1
        cases h1
    · rw [List.getElem?_set_ne z] at h1 h2
      exact x.nw j c q hc h1 h2
/-- a new thing of its own goes into a slot -/
theorem EnS.newU {b : B} {u : HO} (x : EnS K M Hb0 H0 Hb H σ ρ) (g : Gr Hb H Hb' H') (hp : H p = none) (hb : Hb' p = none) (hl : H' p = some u) (bw : isOw b = true) (r : OwR K Hb' p b u) : EnS K M Hb0 H0 Hb' H' (σ.set i (some (.ref p))) (ρ.set i (some b)) := by
  have y := (x.mono g).setO (i := i) (p := p) hb (none_of_ex x.gr.b hp) bw r fun j c _ hc h1 h2 => by
    obtain ⟨q, w, e1, e2, e3, e4⟩ := x.en.ow j c hc h1
    rw [h2] at e1
    cases e1
    rw [hp] at e3
    cases e3
  have e : upd H' p u = H' := by
    funext a
    by_cases z : a = p
    · rw [z, upd_same, hl]
    · rw [upd_ne z]
  rw [e] at y
  exact y
theorem EnS.newO (x : EnS K M Hb0 H0 Hb H σ ρ) (g : Gr Hb H Hb' H') (hp : H p = none) (hb : Hb' p = none) (hl : H' p = some (.lst vs)) (r : DpAll K Hb' vs ds) : EnS K M Hb0 H0 Hb' H' (σ.set i (some (.ref p))) (ρ.set i (some (.own ds))) := x.newU g hp hb hl rfl (.l r)
/-- the thing in a slot, another content -/
theorem EnS.mutU {b c : B} {u : HO} (x : EnS K M Hb0 H0 Hb H σ ρ) (cw : isOw c = true) (h : ρ[i]? = some (some c)) (hs : σ[i]? = some (some (.ref p))) (hb : Hb p = none) (bw : isOw b = true) (r : OwR K Hb p b u) : EnS K M Hb0 H0 Hb (upd H p u) σ (ρ.set i (some b)) := by
  have y := x.setO (i := i) (p := p) hb (x.nw i c p cw h hs) bw r fun j d n hd h1 h2 => n (x.en.dis j i p d c hd cw h1 h h2 hs)
  have e : σ.set i (some (.ref p)) = σ := by
    apply List.ext_getElem?
    intro j
    by_cases z : i = j
    · subst z
      have l : i < σ.length := (List.getElem?_eq_some_iff.mp hs).1
      rw [List.getElem?_set_self l, hs]
    · rw [List.getElem?_set_ne z]
  rw [e] at y
  exact y
theorem EnS.mutO (x : EnS K M Hb0 H0 Hb H σ ρ) {es : List PyData} (h : ρ[i]? = some (some (.own es))) (hs : σ[i]? = some (some (.ref p))) (hb : Hb p = none) (r : DpAll K Hb vs ds) : EnS K M Hb0 H0 Hb (upd H p (.lst vs)) σ (ρ.set i (some (.own ds))) := x.mutU rfl h hs hb rfl (.l r)
/-- something of its own becomes data -/
theorem EnS.frozU {b : B} (x : EnS K M Hb0 H0 Hb H σ ρ) (bw : isOw b = true) (h : ρ[i]? = some (some b)) (hd : ∀ p u, OwR K Hb p b u → H p = some u → Hb p = none → Dp K (upd Hb p u) (.ref p) d) : ∃ Hb', EnS K M Hb0 H0 Hb' H σ (ρ.set i (some (.dat d))) := by
  obtain ⟨p, u, e1, e2, e3, e4⟩ := x.en.ow i b bw h
  have ex : Ex Hb (upd Hb p u) := ex_upd e2
  have exH : Ex (upd Hb p u) H := fun a o e => by
    by_cases z : a = p
    · rw [z, upd_same] at e
      rw [z, e3]
      exact e
    · rw [upd_ne z] at e
      exact x.en.ex a o e
  have lt : i < ρ.length := (List.getElem?_eq_some_iff.mp h).1
  refine ⟨upd Hb p u, ⟨by rw [List.length_set]; exact x.en.len, exH, fun j e h1 => ?_, fun j c hc h1 => ?_, fun j e h1 => ?_, fun j k q c c' hc hc' h1 h2 h3 h4 => ?_⟩, ⟨x.gr.a.trans ex, x.gr.b, exH, fun a o q n => ?_⟩, x.mx.trans ex, fun j c q hc h1 h2 => ?_⟩
  · by_cases z : i = j
    · subst z
      rw [List.getElem?_set_self lt] at h1
      cases h1
      exact ⟨.ref p, e1, hd p u e4 e3 e2⟩
    · rw [List.getElem?_set_ne z] at h1
      obtain ⟨v, a, b⟩ := x.en.dat j e h1
      exact ⟨v, a, dp_mono ex _ _ b⟩
  · obtain ⟨z, h1⟩ := own_set rfl hc h1
    obtain ⟨q, w, f1, f2, f3, f4⟩ := x.en.ow j c hc h1
    have nq : q ≠ p := fun e => by
      subst e
      exact z (x.en.dis i j q b c bw hc h h1 e1 f1)
    exact ⟨q, w, f1, by rw [upd_ne nq]; exact f2, f3, f4.mono ex⟩
  · by_cases z : i = j
    · subst z
      rw [List.getElem?_set_self lt] at h1
      cases h1
    · rw [List.getElem?_set_ne z] at h1
      exact x.en.wri j e h1
  · obtain ⟨_, h1⟩ := own_set rfl hc h1
    obtain ⟨_, h2⟩ := own_set rfl hc' h2
    exact x.en.dis j k q c c' hc hc' h1 h2 h3 h4
  · have na : a ≠ p := fun e => by
      subst e
      rw [x.nw i b a bw h e1] at q
      cases q
    rw [upd_ne na]
    exact x.gr.d a o q n
  · obtain ⟨_, h1⟩ := own_set rfl hc h1
    exact x.nw j c q hc h1 h2
theorem EnS.froz (x : EnS K M Hb0 H0 Hb H σ ρ) (h : ρ[i]? = some (some (.own ds))) : ∃ Hb', EnS K M Hb0 H0 Hb' H σ (ρ.set i (some (.dat (.list ds)))) := x.frozU rfl h fun p u r e n => by
  cases r with
  | l r => exact .lst (SqL.of upd_same) (dpa_mono (ex_upd n) _ _ r)
theorem EnS.frozK {t : Nat} {kds : List (PyData × PyData)} (x : EnS K M Hb0 H0 Hb H σ ρ) (h : ρ[i]? = some (some (.odc t kds))) : ∃ Hb', EnS K M Hb0 H0 Hb' H σ (ρ.set i (some (.dat (.dict ((.none, .int t) :: kds))))) := x.frozU rfl h fun p u r e n => by
  cases r with
  | k r => exact .dk (.inl upd_same) (dk_mono (ex_upd n) r)
  | n r d => exact .dn upd_same (dn_mono (ex_upd n) r) d
end
end Qd

set_option Elab.async false
set_option linter.all false
set_option maxRecDepth 100000
set_option maxHeartbeats 4000000
namespace Qd
open PySem L2
section
variable {X : Cx} {G : Ga} {cf : Cf} {a b c t src elt : T} {x y z e iter : Expr} {M Hb0 H0 Hb H : Hp} {σ : L2.St} {ρ : Rho} {P : O → Prop} {D : Ends}

theorem chkN_of {i : Nat} {n : Str} (h : chkN cf i n = true) : cf.N[i]? = some n ∧ locB cf.sc n = true := by
  unfold chkN at h
  rw [Bool.and_eq_true, decide_eq_true_eq] at h
  exact h
theorem sw_no (h : notComp e = true) {tg : Expr} {l : Nat} {env : Env} : swapsWith e (some tg) l env = pure false := by
  cases e <;> first | rfl | cases h
theorem nd' (ok : XOK X cf G) : X.N.Nodup := by rw [ok.N]; exact ok.nd
theorem ix' (ok : XOK X cf G) {i : Nat} {n : Str} (h : cf.N[i]? = some n) : X.N[i]? = some n := by rw [ok.N]; exact h
theorem lo' (ok : XOK X cf G) {n : Str} (h : locB cf.sc n = true) : Loc X.env.scope n := by rw [ok.sc]; exact loc_of h
/-- what is wanted behind a store of data -/
theorem fin_dat {i : Nat} {d : PyData} {v : V} {Hb' H' : Hp} (I : EnS X.K M Hb0 H0 Hb H σ ρ) (k : Fin X.K M Hb0 H0 P D) (w : P (.nx (ρ.set i (some (.dat d))))) (g : Gr Hb H Hb' H') (r : Dp X.K Hb' v d) : D.nx (σ.set i (some v)) H' :=
  (k _ w) _ _ _ ((I.mono g).setD r)
theorem fin_own {i : Nat} {ds : List PyData} {p : Addr} {vs : List V} {Hb' H' : Hp} (I : EnS X.K M Hb0 H0 Hb H σ ρ) (k : Fin X.K M Hb0 H0 P D) (w : P (.nx (ρ.set i (some (.own ds))))) (g : Gr Hb H Hb' H') (hp : H p = none) (hb : Hb' p = none) (hl : H' p = some (.lst vs)) (r : DpAll X.K Hb' vs ds) : D.nx (σ.set i (some (.ref p))) H' :=
  (k _ w) _ _ _ (I.newO g hp hb hl r)
theorem fin_new {i : Nat} {ds : List PyData} {p : Addr} {vs : List V} {Hb' H' : Hp} (I : EnS X.K M Hb0 H0 Hb H σ ρ) (k : Fin X.K M Hb0 H0 P D) (hi : i < ρ.length) (w : P (.nx (ρ.set i (some (.dat (.list ds)))))) (g : Gr Hb H Hb' H') (hp : H p = none) (hb : Hb' p = none) (hl : H' p = some (.lst vs)) (r : DpAll X.K Hb' vs ds) : D.nx (σ.set i (some (.ref p))) H' := by
  obtain ⟨Hb2, q⟩ := (I.newO (i := i) g hp hb hl r).froz (i := i) (ds := ds) (List.getElem?_set_self hi)
  rw [List.set_set] at q
  exact (k _ w) _ _ _ q
theorem wList_inv {d : PyData} {R : List PyData → Prop} (w : wList d R) : ∃ ds, d = .list ds ∧ R ds := by
  unfold wList at w
  split at w
  · exact ⟨_, rfl, w⟩
  · exact w.elim
theorem wTup_inv {d : PyData} {R : List PyData → Prop} (w : wTup d R) : ∃ ds, d = .tuple ds ∧ R ds := by
  unfold wTup at w
  split at w
  · exact ⟨_, rfl, w⟩
  · exact w.elim
theorem wInt_inv {d : PyData} {R : Int → Prop} (w : wInt d R) : ∃ n, d = .int n ∧ R n := by
  unfold wInt at w
  split at w
  · exact ⟨_, rfl, w⟩
  · exact w.elim
theorem wOwn_inv {i : Nat} {R : List PyData → Prop} (w : wOwn ρ i R) : ∃ ds, ρ[i]? = some (some (.own ds)) ∧ R ds := by
  unfold wOwn at w
  split at w
  · rename_i ds e
    exact ⟨ds, e, w⟩
  · exact w.elim
theorem wDat_inv {i : Nat} {R : PyData → Prop} (w : wDat ρ i R) : ∃ d, ρ[i]? = some (some (.dat d)) ∧ R d := by
  unfold wDat at w
  split at w
  · rename_i d e
    exact ⟨d, e, w⟩
  · exact w.elim
theorem wBin_inv {o : BO} {d f : PyData} {R : PyData → Prop} (w : wBin o d f R) : ∃ i j, d = .int i ∧ f = .int j ∧ opI o i j R := by
  unfold wBin at w
  split at w
  · exact ⟨_, _, rfl, rfl, w⟩
  · exact w.elim
theorem t_set (ok : XOK X cf G) (fn : ∀ n, X.fn n = true) {i : Nat} {n : Str} {py pos : Pos} (hn : chkN cf i n = true) (hc : notComp e = true) (he : SE X G t e) : SS X G (.set i t) (.Assign [.Name n py] e pos) := by
  intro M Hb0 H0 Hb H σ ρ P D I w k
  obtain ⟨h1, h2⟩ := chkN_of hn
  refine ⟨_, ps_set (nd' ok) (ix' ok h1) (lo' ok h2) pe_W (sw_no hc) (.inl (fn _)), ?_⟩
  exact he _ _ _ _ _ _ I.en w fun d v Hb' H' w1 g r => fin_dat I k w1 g r
theorem t_mk (ok : XOK X cf G) (fn : ∀ n, X.fn n = true) {i : Nat} {n : Str} {py pos : Pos} (hn : chkN cf i n = true) (hc : notComp e = true) (he : SF X G t e) : SS X G (.mk i t) (.Assign [.Name n py] e pos) := by
  intro M Hb0 H0 Hb H σ ρ P D I w k
  obtain ⟨h1, h2⟩ := chkN_of hn
  refine ⟨_, ps_set (nd' ok) (ix' ok h1) (lo' ok h2) pe_W (sw_no hc) (.inl (fn _)), ?_⟩
  exact he _ _ _ _ _ _ I.en w fun ds p vs Hb' H' w1 g hp hb hl r => fin_own I k w1 g hp hb hl r
theorem kind_of (ok : XOK X cf G) (h : isFnS cf.sc = true) : X.env.scope.kind = .function := by
  rw [ok.sc]
  unfold isFnS at h
  split at h
  · assumption
  · cases h
theorem sw_lc (hk : X.env.scope.kind = .function) {elt : Expr} {gs : List Comprehension} {scope : Scope} {n : Str} {py pos : Pos} {l : Nat} : swapsWith (.ListComp elt gs scope pos) (some (.Name n py)) l X.env = pure (swB X.env.scope n py scope pos) := by
  have hb : X.env.blockKind = .function := by unfold Env.blockKind; rw [hk]; rfl
  unfold swapsWith
  simp only [hb]
  rfl
/-- a comprehension given to a name: the store -/
theorem t_lc (ok : XOK X cf G) (fn : ∀ n, X.fn n = true) {i : Nat} {n : Str} {py pos : Pos} (hn : chkN cf i n = true) (hc : chkLC cf n t e = true) : 
    ∀ (Hb H : Hp) (σ : L2.St) (ρ : Rho) (R : PyData → Prop) (D : Ends), En X.K Hb H σ ρ → wE G t ρ R →
      (∀ ds p vs Hb' H', R (.list ds) → Gr Hb H Hb' H' → H p = none → Hb' p = none → H' p = some (.lst vs) → DpAll X.K Hb' vs ds → D.nx (σ.set i (some (.ref p))) H') → WS X (.Assign [.Name n py] e pos) D σ H := by
  obtain ⟨h1, h2⟩ := chkN_of hn
  intro Hb H σ ρ R D I w q
  unfold chkLC at hc
  split at hc
  · rename_i j src elt e m pm iter as scope ps
    simp only [Bool.and_eq_true, decide_eq_true_eq] at hc
    obtain ⟨⟨⟨⟨⟨⟨⟨c1, c2⟩, c3⟩, c4⟩, c5⟩, c6⟩, c7⟩, c8⟩ := hc
    subst c2
    have hk := kind_of ok c1
    have hsrc : SI X G src (.Name m pm) iter := (okk G src).i _ _ _ _ ok c6
    have he : ∀ X', XOK X' { cf with sc := rel scope cf.sc } G → SE X' G elt e := fun X' ok' => (okk G elt).e _ _ _ ok' c8
    cases hs : swB X.env.scope n py scope ps with
    | true =>
      have hl : X.env.scope.names.lookup n = some .local := by
        unfold swB at hs
        rw [Bool.and_eq_true, Bool.and_eq_true] at hs
        exact eq_of_beq hs.1.1
      exact ⟨_, ps_setLc (i := i) (own := [(m, j)]) (g := gName j) (tt := tYes) (te := WB X scope e) ok.calm (nd' ok) (ix' ok h1) hl ((sw_lc hk).trans (by rw [hs])) pi_W (by rw [ok.N, ok.sc]; exact blkOk_by c5) (blk_name ok c3 c4) (fun _ _ _ _ _ => pts_nil) pe_WB (notSet_f c7),
        flc0 ok hsrc he I w q⟩
    | false =>
      refine ⟨_, ps_set (nd' ok) (ix' ok h1) (lo' ok h2) pe_W ((sw_lc hk).trans (by rw [hs])) (.inl (fn _)), ?_⟩
      exact flc ok c3 c4 c5 c7 hsrc he _ _ _ _ _ _ I w q
  · rename_i j src c elt e m pm iter z as scope ps
    simp only [Bool.and_eq_true, decide_eq_true_eq] at hc
    obtain ⟨⟨⟨⟨⟨⟨⟨⟨c1, c2⟩, c3⟩, c4⟩, c5⟩, c6⟩, c7⟩, c9⟩, c8⟩ := hc
    subst c2
    have hk := kind_of ok c1
    have hsrc : SI X G src (.Name m pm) iter := (okk G src).i _ _ _ _ ok c6
    have ht : ∀ X', XOK X' { cf with sc := rel scope cf.sc } G → ST X' G c z := fun X' ok' => (okk G c).c _ _ _ ok' c9
    have he : ∀ X', XOK X' { cf with sc := rel scope cf.sc } G → SE X' G elt e := fun X' ok' => (okk G elt).e _ _ _ ok' c8
    cases hs : swB X.env.scope n py scope ps with
    | true =>
      have hl : X.env.scope.names.lookup n = some .local := by
        unfold swB at hs
        rw [Bool.and_eq_true, Bool.and_eq_true] at hs
        exact eq_of_beq hs.1.1
      exact ⟨_, ps_setLc (i := i) (own := [(m, j)]) (g := gName j) (tt := WBT X scope z) (te := WB X scope e) ok.calm (nd' ok) (ix' ok h1) hl ((sw_lc hk).trans (by rw [hs])) pi_W (by rw [ok.N, ok.sc]; exact blkOk_by c5) (blk_name ok c3 c4) (fun s H C cl fp => pts_one (pt_WB s H C cl fp)) pe_WB (notSet_f c7),
        flci0 ok hsrc ht he I w q⟩
    | false =>
      refine ⟨_, ps_set (nd' ok) (ix' ok h1) (lo' ok h2) pe_W ((sw_lc hk).trans (by rw [hs])) (.inl (fn _)), ?_⟩
      exact flci ok c3 c4 c5 c7 hsrc ht he _ _ _ _ _ _ I w q
  · rename_i j jj elt e m pm y py2 as scope ps
    simp only [Bool.and_eq_true, decide_eq_true_eq] at hc
    obtain ⟨⟨⟨⟨⟨⟨c1, c2⟩, c3⟩, c4⟩, c5⟩, c6⟩, c8⟩ := hc
    subst c2
    have hk := kind_of ok c1
    have he : ∀ X', XOK X' { cf with sc := rel scope cf.sc } G → SE X' G elt e := fun X' ok' => (okk G elt).e _ _ _ ok' c8
    cases hs : swB X.env.scope n py scope ps with
    | true =>
      have hl : X.env.scope.names.lookup n = some .local := by
        unfold swB at hs
        rw [Bool.and_eq_true, Bool.and_eq_true] at hs
        exact eq_of_beq hs.1.1
      exact ⟨_, ps_setLc (i := i) (own := [(m, j)]) (g := gName j) (tt := tYes) (te := WB X scope e) ok.calm (nd' ok) (ix' ok h1) hl ((sw_lc hk).trans (by rw [hs])) pi_W (by rw [ok.N, ok.sc]; exact blkOk_by c5) (blk_name ok c3 c4) (fun _ _ _ _ _ => pts_nil) pe_WB (fun _ => rfl),
        flco0 ok c6 he I w q⟩
    | false =>
      refine ⟨_, ps_set (nd' ok) (ix' ok h1) (lo' ok h2) pe_W ((sw_lc hk).trans (by rw [hs])) (.inl (fn _)), ?_⟩
      exact flco ok c3 c4 c5 c6 he _ _ _ _ _ _ I w q
  · cases hc
theorem setAll_en {K : PySem.W.Frag} : ∀ {is : List Nat} {ds : List PyData} {vs : List V} {ρ ρ' : Rho} {σ : L2.St} {Hb H : Hp}, EnS K M Hb0 H0 Hb H σ ρ → DpAll K Hb vs ds → setAll is ds ρ = some ρ' →
    EnS K M Hb0 H0 Hb H ((is.zip vs).foldl (fun σ p => σ.set p.1 (some p.2)) σ) ρ'
  | [], [], [], _, _, _, _, _, I, _, e => by
    cases e
    exact I
  | i :: is, d :: ds, v :: vs, ρ, ρ', σ, _, _, I, .cons r t, e => setAll_en (is := is) (ds := ds) (vs := vs) (I.setD r) t e
  | [], _ :: _, _, _, _, _, _, _, _, _, e => by cases e
  | _ :: _, [], _, _, _, _, _, _, _, _, e => by cases e
theorem pgs_of (ok : XOK X cf G) (fn : ∀ n, X.fn n = true) : ∀ {is : List Nat} {es : List Expr}, chkTg cf is es = true → ∃ t : TGs, PGs X es t ∧ (assignEach es X.env).length = is.length ∧ (assignEach es X.env).findIdx? (·.1) = none ∧
    ∀ (vs : List V) (σ : L2.St) (H : Hp) (Q : L2.St → Hp → Prop), vs.length = is.length → Q ((is.zip vs).foldl (fun σ p => σ.set p.1 (some p.2)) σ) H → t vs σ H Q
  | [], [], _ => ⟨_, pgs_nil, rfl, rfl, fun vs σ H Q h q => by
    cases vs with
    | nil => exact ⟨rfl, q⟩
    | cons _ _ => cases h⟩
  | [], _ :: _, h => by cases h
  | i :: is, [], h => by cases h
  | i :: is, e :: es, h => by
    cases e <;> first | (simp only [chkTg, Bool.false_eq_true] at h; done) | skip
    rename_i n p
    simp only [chkTg, Bool.and_eq_true] at h
    obtain ⟨h1, h2⟩ := chkN_of h.1
    obtain ⟨t, p1, p2, p3, p4⟩ := pgs_of ok fn h.2
    refine ⟨_, pgs_cons (pg_name (nd' ok) (ix' ok h1) (lo' ok h2) (.inl (fn _))) p1, ?_, ?_, fun vs σ H Q hl q => ?_⟩
    · show (assignEach es X.env).length + 1 = is.length + 1
      rw [p2]
    · show ((false, _) :: assignEach es X.env).findIdx? (·.1) = none
      rw [List.findIdx?_cons]
      simp [p3]
    · cases vs with
      | nil => cases hl
      | cons v vs => exact ⟨v, vs, rfl, p4 vs _ H Q (Nat.succ.inj hl) q⟩
theorem sws_no {tg : Expr} (h : ∀ n p, tg ≠ .Name n p) {l : Nat} {env : Env} : swapsWithSole [tg] e l env = pure false := by
  show swapsWith e (some tg) l env = pure false
  cases e <;> first | rfl | (cases tg <;> first | rfl | exact absurd rfl (h _ _))
theorem t_unp (ok : XOK X cf G) (fn : ∀ n, X.fn n = true) {is : List Nat} {es : List Expr} {kk : Nat} {pt pos : Pos} (hn : chkTg cf is es = true) (hc : notTup e = true) (he : SE X G t e) : SS X G (.unp is t) (.Assign [.Tuple es kk pt] e pos) := by
  intro M Hb0 H0 Hb H σ ρ P D I w k
  obtain ⟨tt, p1, p2, p3, p4⟩ := pgs_of ok fn hn
  refine ⟨_, ps_asg pe_W (pg_tup ok.calm p1 p2 p3) (sws_no fun _ _ q => by cases q) (by cases e <;> first | rfl | cases hc) rfl, ?_⟩
  refine he _ _ _ _ _ _ I.en w fun d v Hb' H' w1 g r => ?_
  obtain ⟨ds, rfl, ρ', h1, w2⟩ := wTup_inv w1
  obtain ⟨p, vs, rfl, h2, h3⟩ := Dp.tup_inv r
  have hl : ds.length = is.length := by
    clear w2 h3 w1 r
    have : ∀ (is : List Nat) (ds : List PyData) (ρ ρ' : Rho), setAll is ds ρ = some ρ' → ds.length = is.length := by
      intro is
      induction is with
      | nil => intro ds ρ ρ' h; cases ds <;> first | rfl | cases h
      | cons i is ih => intro ds ρ ρ' h; cases ds with
        | nil => cases h
        | cons d ds => exact congrArg (· + 1) (ih ds _ _ h)
    exact this _ _ _ _ h1
  refine ⟨p, vs, rfl, sqt_mono g.c h2, by rw [dpa_len h3]; exact hl, p4 vs _ _ _ (by rw [dpa_len h3]; exact hl) ?_⟩
  exact (k _ w2) _ _ _ (setAll_en (I.mono g) h3 h1)
theorem pv' (ok : XOK X cf G) {i : Nat} {n : Str} {p : Pos} (h : chkV cf i n = true) : PE X (.Name n p) (tVar i) := by
  obtain ⟨h1, h2, h3⟩ := chkV_of h
  exact pe_var (i := i) (ix' ok h1) (vis_of (by rw [ok.sc]; exact h2)) (nm1 h3) (nm2 h3)
theorem asg_sub {n : Str} {p ps : Pos} {v : Value} (h : notSlice y = true) : assign (.Subscript (.Name n p) y ps) X.env v = (do
      let ov ← holding [v] (eval (.Name n p) X.env)
      let iv ← holding [v, ov] (eval y X.env)
      standAt ps
      holding [v, ov, iv] (setItem ov iv v)
      release [v, ov, iv] []) := by
  cases y <;> first | rfl | cases h
theorem ixN_dp {K : PySem.W.Frag} {vs : List V} {ds : List PyData} {n : Int} {j : Nat} (r : DpAll K Hb vs ds) (h : ixN ds.length n = some j) : ixN vs.length n = some j := by rw [dpa_len r]; exact h
/-- the list of its own that stands in a slot, wherever the heap has gone since -/
theorem own_at {i : Nat} {ds : List PyData} (I : EnS X.K M Hb0 H0 Hb H σ ρ) (h : ρ[i]? = some (some (.own ds))) : ∃ p vs, σ[i]? = some (some (V.ref p)) ∧ Hb p = none ∧ H p = some (.lst vs) ∧ DpAll X.K Hb vs ds ∧
    ∀ Hb' H', Gr Hb H Hb' H' → Hb' p = none ∧ H' p = some (.lst vs) ∧ DpAll X.K Hb' vs ds := by
  obtain ⟨p, vs, e1, e2, e3, e4⟩ := I.en.own i ds h
  exact ⟨p, vs, e1, e2, e3, e4, fun Hb' H' g => ⟨g.d p _ e3 e2, g.b _ _ e3, dpa_mono g.a _ _ e4⟩⟩
theorem t_seti (ok : XOK X cf G) {i : Nat} {n : Str} {p ps pos : Pos} (hn : chkV cf i n = true) (hs : notSlice y = true) (ha : SE X G a y) (hb : SE X G b e) : SS X G (.seti i a b) (.Assign [.Subscript (.Name n p) y ps] e pos) := by
  intro M Hb0 H0 Hb H σ ρ P D I w k
  refine ⟨_, ps_asg pe_W (pg_sub (pv' ok hn) pe_W set_list (fun v => asg_sub hs)) (sws_no fun _ _ q => by cases q) rfl rfl, ?_⟩
  refine hb _ _ _ _ _ _ I.en w fun d v Hb1 H1 w1 g1 r1 => ?_
  have I1 := I.mono g1
  obtain ⟨ds, ho, w1⟩ := wOwn_inv w1
  obtain ⟨q, vs, e1, _, _, _, e2⟩ := own_at I1 ho
  refine ⟨_, e1, ?_⟩
  refine ha _ _ _ _ _ _ I1.en w1 fun d2 u Hb2 H2 w2 g2 r2 => ?_
  obtain ⟨n, rfl, j, h1, w3⟩ := wInt_inv w2
  obtain ⟨f1, f2, f3⟩ := e2 _ _ g2
  cases Dp.int_inv r2
  refine ⟨q, vs, n, j, rfl, rfl, f2, ixN_dp f3 h1, ?_⟩
  exact (k _ w3) _ _ _ ((I1.mono g2).mutO ho e1 f1 (dpa_set (dp_mono g2.a _ _ r1) j f3))
theorem pget_list : PGet X (rIxL X.K) := by
  intro pins s σ H o i ov iv Q I ro ri h
  obtain ⟨p, xs, n, z, rfl, rfl, hq, he, q⟩ := h
  cases ro
  obtain ⟨t, rfl⟩ := ri
  obtain ⟨its, r, pl, hz⟩ := I.list hq
  obtain ⟨j, h1, h2, h3, h4, h5⟩ := atI_get he
  obtain ⟨u, eu, ru⟩ := r.get h2
  have hl := r.length
  have hn := line63
  have done : EP X pins σ Q u s := ⟨z, H, I, ru, q⟩
  by_cases h0 : 0 ≤ n
  · have hj : n.toNat = j := by
      rw [seqIndex_of h0 h5] at h1
      exact Option.some.inj h1
    exact wpAny_getItem_list pl.isList h0 (by omega) (by rw [hj]; simpa using eu) done
  · have hj : (n + (its.toArray.size : Int)).toNat = j := by
      rw [seqIndex_neg (by omega) h4] at h1
      rw [List.size_toArray, ← hl]
      exact Option.some.inj h1
    exact wpAny_getItem_list_neg pl.isList (by omega) (by rw [List.size_toArray] <;> omega) (by omega) (by rw [hj]; simpa using eu) done
theorem ip_of {o : BO} {op : Operator} (h1 : isPm o = true) (h2 : isOp op (boP o) = true) : ∃ t : TIp, PIp X op t ∧ ∀ (d f : PyData) (v u : V) (Hb H : Hp) (R : PyData → Prop) (Q : VK), wBin o d f R → Dp X.K Hb v d → Dp X.K Hb u f → (∀ m, R (.int m) → Q (.int m) H) → t v u H Q := by
  cases isOp_eq h2
  cases o <;> first | (cases h1; done) | skip
  · refine ⟨_, ip_add, fun d f v u Hb H R Q w r1 r2 q => ?_⟩
    obtain ⟨i, j, rfl, rfl, w⟩ := wBin_inv w
    cases Dp.int_inv r1
    cases Dp.int_inv r2
    exact ⟨i, j, rfl, rfl, q _ w⟩
  · refine ⟨_, ip_sub, fun d f v u Hb H R Q w r1 r2 q => ?_⟩
    obtain ⟨i, j, rfl, rfl, w⟩ := wBin_inv w
    cases Dp.int_inv r1
    cases Dp.int_inv r2
    exact ⟨i, j, rfl, rfl, q _ w⟩
theorem bin_int {o : BO} {d f : PyData} {R : PyData → Prop} (w : wBin o d f R) : wBin o d f fun z => R z ∧ ∃ m, z = .int m := by
  obtain ⟨i, j, rfl, rfl, w⟩ := wBin_inv w
  cases o
  · exact ⟨w, _, rfl⟩
  · exact ⟨w, _, rfl⟩
  · exact ⟨w.1, w.2, _, rfl⟩
  · exact ⟨w.1, w.2, _, rfl⟩
  · exact ⟨w.1, w.2, _, rfl⟩
  · exact ⟨w.1, w.2, _, rfl⟩
theorem t_aug (ok : XOK X cf G) (fn : ∀ n, X.fn n = true) {i : Nat} {o : BO} {op : Operator} {n : Str} {p pos : Pos} (hn : chkN cf i n = true) (h1 : isPm o = true) (h2 : isOp op (boP o) = true) (he : SE X G t e) : SS X G (.aug i o t) (.AugAssign (.Name n p) op e pos) := by
  intro M Hb0 H0 Hb H σ ρ P D I w k
  obtain ⟨c1, c2⟩ := chkN_of hn
  obtain ⟨tt, hp, hq⟩ := ip_of (X := X) h1 h2
  refine ⟨_, ps_aug (nd' ok) (ix' ok c1) (lo' ok c2) pe_W hp (.inl (fn _)), ?_⟩
  obtain ⟨d, hd, w⟩ := wDat_inv w
  obtain ⟨v, e1, e2⟩ := I.en.dat i d hd
  refine ⟨v, e1, ?_⟩
  refine he _ _ _ _ _ _ I.en w fun f u Hb1 H1 w1 g1 r1 => ?_
  exact hq d f v u Hb1 H1 _ _ w1 (dp_mono g1.a _ _ e2) r1 fun m w2 => fin_dat I k w2 g1 (.int m)
theorem t_augi (ok : XOK X cf G) {i : Nat} {o : BO} {op : Operator} {n : Str} {p ps pos : Pos} (hn : chkV cf i n = true) (h1 : isPm o = true) (h2 : isOp op (boP o) = true) (hs : notSlice y = true) (ha : SE X G a y) (hb : SE X G b e) :
    SS X G (.augi i o a b) (.AugAssign (.Subscript (.Name n p) y ps) op e pos) := by
  intro M Hb0 H0 Hb H σ ρ P D I w k
  obtain ⟨tt, hp, hq⟩ := ip_of (X := X) h1 h2
  refine ⟨_, ps_augS (pv' ok hn) pe_W pget_list pe_W hp set_list (fun ov iv new => by cases y <;> first | rfl | cases hs), ?_⟩
  obtain ⟨ds, ho, w⟩ := wOwn_inv w
  obtain ⟨q, vs, e1, _, _, _, e2⟩ := own_at I ho
  refine ⟨_, e1, ?_⟩
  refine ha _ _ _ _ _ _ I.en w fun d2 u Hb2 H2 w2 g2 r2 => ?_
  obtain ⟨m, rfl, j, d, c1, c2, w3⟩ := wInt_inv w2
  obtain ⟨f1, f2, f3⟩ := e2 _ _ g2
  cases Dp.int_inv r2
  obtain ⟨v, c3, c4⟩ := dpa_get f3 c2
  refine ⟨q, vs, m, v, rfl, rfl, SqL.of f2, by unfold atI; rw [ixN_dp f3 c1]; exact c3, ?_⟩
  refine hb _ _ _ _ _ _ (I.mono g2).en w3 fun f x Hb3 H3 w4 g3 r3 => ?_
  obtain ⟨k1, k2, k3⟩ := e2 _ _ (g2.trans g3)
  refine hq d f v x Hb3 H3 _ _ w4 (dp_mono g3.a _ _ c4) r3 fun m' w5 => ?_
  refine ⟨q, vs, m, j, rfl, rfl, k2, ixN_dp k3 c1, ?_⟩
  exact (k _ w5) _ _ _ ((I.mono (g2.trans g3)).mutO ho e1 k1 (dpa_set (.int m') j k3))
theorem t_app (ok : XOK X cf G) {i : Nat} {n m : Str} {p apos cpos pos : Pos} (hn : chkV cf i n = true) (hm : m = ("append" : Str)) (hs : notStar e = true) (hl : (apos.endLine == cpos.line) = true) (he : SE X G t e) :
    SS X G (.app i t) (.Expr (.Call (.Attribute (.Name n p) m apos) [e] [] cpos) pos) := by
  subst hm
  intro M Hb0 H0 Hb H σ ρ P D I w k
  have hst : starEach [e] X.env = [(false, eval e X.env)] := notStar_eq hs
  refine ⟨_, ps_expr (pe_bm PySem.F.plainAttrs_list PySem.F.slot_list_append PySem.F.type_list_append mt_append (pv' ok hn) (pa_cons pe_W pa_nil hst) rfl (by rw [hst]; rfl) hl hst rfl) rfl, ?_⟩
  obtain ⟨ds, ho, w⟩ := wOwn_inv w
  obtain ⟨q, vs, e1, _, e3, _, e2⟩ := own_at I ho
  refine ⟨_, e1, .inl ⟨rfl, _, SqL.of e3⟩, ?_⟩
  refine he _ _ _ _ _ _ I.en w fun d u Hb2 H2 w2 g2 r2 => ?_
  obtain ⟨f1, f2, f3⟩ := e2 _ _ g2
  refine ⟨q, vs, u, rfl, rfl, f2, by rw [dpa_len f3]; exact sz_lt w2.1, ?_⟩
  exact (k _ w2.2) _ _ _ ((I.mono g2).mutO ho e1 f1 (dpa_append f3 (.cons r2 .nil)))
theorem t_ext (ok : XOK X cf G) {i : Nat} {n m : Str} {p apos cpos pos : Pos} (hn : chkV cf i n = true) (hm : m = ("extend" : Str)) (hs : notStar e = true) (hl : (apos.endLine == cpos.line) = true) (he : SF X G t e) :
    SS X G (.ext i t) (.Expr (.Call (.Attribute (.Name n p) m apos) [e] [] cpos) pos) := by
  subst hm
  intro M Hb0 H0 Hb H σ ρ P D I w k
  have hst : starEach [e] X.env = [(false, eval e X.env)] := notStar_eq hs
  refine ⟨_, ps_expr (pe_bm PySem.F.plainAttrs_list PySem.F.slot_list_extend PySem.F.type_list_extend mt_extend (pv' ok hn) (pa_cons pe_W pa_nil hst) rfl (by rw [hst]; rfl) hl hst rfl) rfl, ?_⟩
  obtain ⟨ds, ho, w⟩ := wOwn_inv w
  obtain ⟨q, vs, e1, _, e3, _, e2⟩ := own_at I ho
  refine ⟨_, e1, .inl ⟨rfl, _, SqL.of e3⟩, ?_⟩
  refine he _ _ _ _ _ _ I.en w fun es p2 ws Hb2 H2 w2 g2 n1 n2 n3 r2 => ?_
  obtain ⟨f1, f2, f3⟩ := e2 _ _ g2
  refine ⟨q, p2, vs, ws, rfl, rfl, f2, n3, by rw [dpa_len f3, dpa_len r2]; exact sz_of w2.1, ?_⟩
  exact (k _ w2.2) _ _ _ ((I.mono g2).mutO ho e1 f1 (dpa_append f3 r2))
theorem t_cati (ok : XOK X cf G) (fn : ∀ n, X.fn n = true) {i : Nat} {n m : Str} {op : Operator} {p p2 p3 pos : Pos} (hn : chkN cf i n = true) (hm : chkV cf i m = true) (ho : isOp op .Add = true) (he : SF X G t e) :
    SS X G (.cati i t) (.Assign [.Name n p] (.BinOp (.Name m p2) op e p3) pos) := by
  cases isOp_eq ho
  intro M Hb0 H0 Hb H σ ρ P D I w k
  obtain ⟨c1, c2⟩ := chkN_of hn
  refine ⟨_, ps_set (nd' ok) (ix' ok c1) (lo' ok c2) (pe_op op_cat (pv' ok hm) pe_W) rfl (.inl (fn _)), ?_⟩
  obtain ⟨ds, ho, w⟩ := wOwn_inv w
  obtain ⟨q, vs, e1, _, e3, _, e2⟩ := own_at I ho
  refine ⟨_, e1, ?_⟩
  refine he _ _ _ _ _ _ I.en w fun es p2 ws Hb2 H2 w2 g2 n1 n2 n3 r2 => ?_
  obtain ⟨f1, f2, f3⟩ := e2 _ _ g2
  refine ⟨q, p2, vs, ws, rfl, rfl, f2, n3, by rw [dpa_len f3, dpa_len r2]; exact sz_of w2.1, fun l hl => ?_⟩
  have g3 : Gr Hb H Hb2 (upd H2 l (.lst (vs ++ ws))) := ⟨g2.a, g2.b.trans (ex_upd hl), g2.c.trans (ex_upd hl), g2.d⟩
  exact fin_own I k w2.2 g3 (none_of_ex g2.b hl) (none_of_ex g2.c hl) upd_same (dpa_append f3 r2)
theorem t_iff {xs ys : List Stmt} {sa sb : Ss} {p : Pos} (hc : ST X G c z) (ha : SSs X G sa xs) (hb : SSs X G sb ys) : SS X G (.iff c sa sb) (.If z xs ys p) := by
  intro M Hb0 H0 Hb H σ ρ P D I w k
  refine ⟨_, ps_if pt_W pss_W pss_W, ?_⟩
  refine hc _ _ _ _ (fun d => wBool d fun c => (c = true → wSs G sa ρ P) ∧ (c = false → wSs G sb ρ P)) _ I.en w fun b Hb1 H1 w1 g1 => ?_
  cases b with
  | true =>
    rw [if_pos rfl]
    exact ha _ _ _ _ _ _ _ _ _ (I.mono g1) (w1.1 rfl) k
  | false =>
    rw [if_neg (by decide)]
    exact hb _ _ _ _ _ _ _ _ _ (I.mono g1) (w1.2 rfl) k
theorem t_ret {p : Pos} (he : SE X G t e) : SS X G (.ret t) (.Return (some e) p) := by
  intro M Hb0 H0 Hb H σ ρ P D I w k
  refine ⟨_, ps_ret pe_W, ?_⟩
  exact he _ _ _ _ _ _ I.en w fun d v Hb1 H1 w1 g1 r1 => (k _ w1) _ _ _ (I.gr.trans g1) r1
theorem t_for (ok : XOK X cf G) (fn : ∀ n, X.fn n = true) {i : Nat} {n : Str} {body : List Stmt} {sb : Ss} {p pos : Pos} (hn : chkN cf i n = true) (hns : notSet iter = true) (hsrc : SI X G src (.Name n p) iter) (hb : SSs X G sb body) :
    SS X G (.fo i src sb) (.For (.Name n p) iter body [] pos) := by
  intro M Hb0 H0 Hb H σ ρ P D I w k
  obtain ⟨c1, c2⟩ := chkN_of hn
  refine ⟨_, ps_for (by rw [ok.xe]; exact PassesOwn.never) ok.calm pi_W (pg_name (nd' ok) (ix' ok c1) (lo' ok c2) (.inl (fn _))) pss_W (notSet_f hns), ?_⟩
  refine hsrc _ _ _ _ _ _ I.en w fun xs J Hb1 H1 w1 g1 it => ?_
  have Ig := I.mono g1
  have I1 : EnS X.K Hb1 Hb0 H0 Hb1 H1 σ ρ := ⟨Ig.en, Ig.gr, Same.refl _, Ig.nw⟩
  have back : ∀ {Hb2 H2 : Hp} {σ2 : L2.St} {ρ2 : Rho}, EnS X.K Hb1 Hb0 H0 Hb2 H2 σ2 ρ2 → EnS X.K M Hb0 H0 Hb2 H2 σ2 ρ2 := fun y => ⟨y.en, y.gr, Ig.mx.trans y.mx, y.nw⟩
  refine ⟨fun j m σ2 H2 => m = xs.length - j ∧ j ≤ xs.length ∧ ∃ Hb2 ρ2, EnS X.K Hb1 Hb0 H0 Hb2 H2 σ2 ρ2 ∧ forW (fun x ρ R => wSs G sb (ρ.set i (some (.dat x))) R) (xs.drop j) ρ2 P,
    ⟨_, rfl, Nat.zero_le _, Hb1, ρ, I1, w1⟩, ?_⟩
  rintro j m σ2 H2 ⟨rfl, hj, Hb2, ρ2, I2, w2⟩
  have e2 := I2.mx
  by_cases hlt : j < xs.length
  · refine .inr ⟨it.go j Hb2 H2 e2 I2.en.ex hlt, fun σ' H' => ∃ Hb2 ρ2, EnS X.K Hb1 Hb0 H0 Hb2 H' σ' ρ2 ∧ forW (fun x ρ R => wSs G sb (ρ.set i (some (.dat x))) R) (xs.drop (j + 1)) ρ2 P, fun σ' H' h => ⟨_, by omega, rfl, hlt, h⟩, fun v H' y => ?_⟩
    obtain ⟨e, d, hd, rd⟩ := it.yld j v Hb2 H2 H' e2 I2.en.ex hlt y
    subst e
    have ed : xs.drop j = d :: xs.drop (j + 1) := by
      rw [List.drop_eq_getElem_cons hlt]
      rw [List.getElem?_eq_getElem hlt] at hd
      cases hd
      rfl
    rw [ed] at w2
    have I3 := I2.setD (i := i) rd
    refine hb _ _ _ _ _ _ _ (fun o => match o with
      | .nx ρ' => forW (fun x ρ R => wSs G sb (ρ.set i (some (.dat x))) R) (xs.drop (j + 1)) ρ' P
      | .ct ρ' => forW (fun x ρ R => wSs G sb (ρ.set i (some (.dat x))) R) (xs.drop (j + 1)) ρ' P
      | .bk ρ' => P (.nx ρ')
      | .rt d => P (.rt d)) _ I3 ?_ ?_
    · exact w2
    · intro o ho
      cases o with
      | nx ρ' => exact fun σ Hb H y => ⟨Hb, ρ', y, ho⟩
      | ct ρ' => exact fun σ Hb H y => ⟨Hb, ρ', y, ho⟩
      | bk ρ' => exact fun σ Hb H y => k _ ho σ Hb H (back y)
      | rt d => exact fun v Hb H g r => k _ ho v Hb H g r
  · have ej : j = xs.length := by omega
    subst ej
    rw [List.drop_length] at w2
    exact .inl ⟨it.stop Hb2 H2 e2 I2.en.ex, (k _ w2) _ _ _ (back I2)⟩
theorem setAll_l : ∀ (is : List Nat) (ds : List PyData) (ρ ρ' : Rho), setAll is ds ρ = some ρ' → ds.length = is.length
  | [], [], _, _, _ => rfl
  | [], _ :: _, _, _, h => by cases h
  | _ :: _, [], _, _, h => by cases h
  | _ :: is, _ :: ds, _, _, h => congrArg (· + 1) (setAll_l is ds _ _ h)
theorem t_fou (ok : XOK X cf G) (fn : ∀ n, X.fn n = true) {is : List Nat} {es : List Expr} {kk : Nat} {body : List Stmt} {sb : Ss} {p pos : Pos} (hn : chkTg cf is es = true) (hns : notSet iter = true) (hsrc : SI X G src (.Tuple es kk p) iter) (hb : SSs X G sb body) :
    SS X G (.fou is src sb) (.For (.Tuple es kk p) iter body [] pos) := by
  intro M Hb0 H0 Hb H σ ρ P D I w k
  obtain ⟨tt, p1, p2, p3, p4⟩ := pgs_of ok fn hn
  refine ⟨_, ps_for (by rw [ok.xe]; exact PassesOwn.never) ok.calm pi_W (pg_tup ok.calm p1 p2 p3) pss_W (notSet_f hns), ?_⟩
  refine hsrc _ _ _ _ _ _ I.en w fun xs J Hb1 H1 w1 g1 it => ?_
  have Ig := I.mono g1
  have I1 : EnS X.K Hb1 Hb0 H0 Hb1 H1 σ ρ := ⟨Ig.en, Ig.gr, Same.refl _, Ig.nw⟩
  have back : ∀ {Hb2 H2 : Hp} {σ2 : L2.St} {ρ2 : Rho}, EnS X.K Hb1 Hb0 H0 Hb2 H2 σ2 ρ2 → EnS X.K M Hb0 H0 Hb2 H2 σ2 ρ2 := fun y => ⟨y.en, y.gr, Ig.mx.trans y.mx, y.nw⟩
  have e0 : ∀ ys ρ2, forW (fun x ρ R => wTup x fun ds => ∃ ρ', setAll is ds ρ = some ρ' ∧ wSs G sb ρ' R) ys ρ2 P = forW (fun x ρ R => wTup x fun ds => ∃ ρ', setAll is ds ρ = some ρ' ∧ wSs G sb ρ' R) ys ρ2 P := fun _ _ => rfl
  refine ⟨fun j m σ2 H2 => m = xs.length - j ∧ j ≤ xs.length ∧ ∃ Hb2 ρ2, EnS X.K Hb1 Hb0 H0 Hb2 H2 σ2 ρ2 ∧ forW (fun x ρ R => wTup x fun ds => ∃ ρ', setAll is ds ρ = some ρ' ∧ wSs G sb ρ' R) (xs.drop j) ρ2 P,
    ⟨_, rfl, Nat.zero_le _, Hb1, ρ, I1, w1⟩, ?_⟩
  rintro j m σ2 H2 ⟨rfl, hj, Hb2, ρ2, I2, w2⟩
  have e2 := I2.mx
  by_cases hlt : j < xs.length
  · refine .inr ⟨it.go j Hb2 H2 e2 I2.en.ex hlt, fun σ' H' => ∃ Hb2 ρ2, EnS X.K Hb1 Hb0 H0 Hb2 H' σ' ρ2 ∧ forW (fun x ρ R => wTup x fun ds => ∃ ρ', setAll is ds ρ = some ρ' ∧ wSs G sb ρ' R) (xs.drop (j + 1)) ρ2 P, fun σ' H' h => ⟨_, by omega, rfl, hlt, h⟩, fun v H' y => ?_⟩
    obtain ⟨e, d, hd, rd⟩ := it.yld j v Hb2 H2 H' e2 I2.en.ex hlt y
    subst e
    have ed : xs.drop j = d :: xs.drop (j + 1) := by
      rw [List.drop_eq_getElem_cons hlt]
      rw [List.getElem?_eq_getElem hlt] at hd
      cases hd
      rfl
    rw [ed] at w2
    have w2' : wTup d fun ds => ∃ ρ', setAll is ds ρ2 = some ρ' ∧ wSs G sb ρ' fun o => match o with
      | .nx ρ' => forW (fun x ρ R => wTup x fun ds => ∃ ρ', setAll is ds ρ = some ρ' ∧ wSs G sb ρ' R) (xs.drop (j + 1)) ρ' P
      | .ct ρ' => forW (fun x ρ R => wTup x fun ds => ∃ ρ', setAll is ds ρ = some ρ' ∧ wSs G sb ρ' R) (xs.drop (j + 1)) ρ' P
      | .bk ρ' => P (.nx ρ')
      | .rt d => P (.rt d) := w2
    obtain ⟨ds, rfl, ρ', h1, w3⟩ := wTup_inv w2'
    obtain ⟨q, vs, rfl, h2, h3⟩ := Dp.tup_inv rd
    have hl : ds.length = is.length := setAll_l _ _ _ _ h1
    refine ⟨q, vs, rfl, sqt_mono I2.en.ex h2, by rw [dpa_len h3]; exact hl, p4 vs _ _ _ (by rw [dpa_len h3]; exact hl) ?_⟩
    have I3 := setAll_en I2 h3 h1
    refine hb _ _ _ _ _ _ _ (fun o => match o with
      | .nx ρ' => forW (fun x ρ R => wTup x fun ds => ∃ ρ', setAll is ds ρ = some ρ' ∧ wSs G sb ρ' R) (xs.drop (j + 1)) ρ' P
      | .ct ρ' => forW (fun x ρ R => wTup x fun ds => ∃ ρ', setAll is ds ρ = some ρ' ∧ wSs G sb ρ' R) (xs.drop (j + 1)) ρ' P
      | .bk ρ' => P (.nx ρ')
      | .rt d => P (.rt d)) _ I3 w3 ?_
    · intro o ho
      cases o with
      | nx ρ' => exact fun σ Hb H y => ⟨Hb, ρ', y, ho⟩
      | ct ρ' => exact fun σ Hb H y => ⟨Hb, ρ', y, ho⟩
      | bk ρ' => exact fun σ Hb H y => k _ ho σ Hb H (back y)
      | rt d => exact fun v Hb H g r => k _ ho v Hb H g r
  · have ej : j = xs.length := by omega
    subst ej
    rw [List.drop_length] at w2
    exact .inl ⟨it.stop Hb2 H2 e2 I2.en.ex, (k _ w2) _ _ _ (back I2)⟩
/-! ### written dicts -/
theorem setAllW_en {K : PySem.W.Frag} : ∀ {is : List Nat} {ds : List PyData} {vs : List V} {ρ ρ' : Rho} {σ : L2.St} {Hb H : Hp}, EnS K M Hb0 H0 Hb H σ ρ → WrAll K vs ds → setAllW is ds ρ = some ρ' →
    EnS K M Hb0 H0 Hb H ((is.zip vs).foldl (fun σ p => σ.set p.1 (some p.2)) σ) ρ'
  | [], [], [], _, _, _, _, _, I, _, e => by
    cases e
    exact I
  | i :: is, d :: ds, v :: vs, ρ, ρ', σ, _, _, I, .cons r t, e => setAllW_en (is := is) (ds := ds) (vs := vs) (I.setW r) t e
  | [], _ :: _, _, _, _, _, _, _, _, _, e => by cases e
  | _ :: _, [], _, _, _, _, _, _, _, _, e => by cases e
theorem setAllW_len : ∀ (is : List Nat) (ds : List PyData) (ρ ρ' : Rho), setAllW is ds ρ = some ρ' → ds.length = is.length
  | [], [], _, _, _ => rfl
  | [], _ :: _, _, _, h => by cases h
  | _ :: _, [], _, _, h => by cases h
  | _ :: is, _ :: ds, _, _, h => congrArg (· + 1) (setAllW_len is ds _ _ h)
theorem setAll_len : ∀ (is : List Nat) (ds : List PyData) (ρ ρ' : Rho), setAll is ds ρ = some ρ' → ds.length = is.length
  | [], [], _, _, _ => rfl
  | [], _ :: _, _, _, h => by cases h
  | _ :: _, [], _, _, h => by cases h
  | _ :: is, _ :: ds, _, _, h => congrArg (· + 1) (setAll_len is ds _ _ h)
/-- a key's value, by its data -/
inductive KeyIs (H : Hp) (K : PySem.W.Frag) : V → PyData → Prop where
  | int (k : Int) : KeyIs H K (.int k) (.int k)
  | tup (p : Addr) (ks : List Int) : SqT K H p ((ks.map (Sum.inl : Int → Key)).map kV) → KeyIs H K (.ref p) (.tuple (ks.map PyData.int))
theorem isKey_ints : ∀ {ds : List PyData}, (ds.all fun d => match d with | .int _ => true | _ => false) = true → ∃ ks : List Int, ds = ks.map PyData.int
  | [], _ => ⟨[], rfl⟩
  | d :: ds, h => by
    rw [List.all_cons, Bool.and_eq_true] at h
    obtain ⟨ks, e⟩ := isKey_ints h.2
    cases d <;> first | (cases h.1; done) | skip
    rename_i k
    exact ⟨k :: ks, by rw [e]; rfl⟩
theorem keyIs_of {K : PySem.W.Frag} {v : V} {x : PyData} (r : Dp K H v x) (h : isKey x = true) : KeyIs H K v x := by
  cases x <;> first | (cases h; done) | skip
  · cases Dp.int_inv r
    exact .int _
  · obtain ⟨ks, rfl⟩ := isKey_ints h
    obtain ⟨p, vs, rfl, h1, h2⟩ := Dp.tup_inv r
    cases dpa_ints h2
    refine .tup p ks ?_
    rw [List.map_map]
    exact h1
theorem tupKey {pins : List (Addr × Obj)} {s : Shared} {p : Addr} {ks : List Key} (I : Inv X pins σ H s) (h : SqT X.K H p (ks.map kV)) : (tupleKind (mixKind X.prog X.w)).is s.heap ks p := by
  obtain ⟨its, r, ⟨o, h1, h2, n, h3⟩, _⟩ := I.tuple h
  exact ⟨o, its.toArray, n, h1, h2, h3, by simpa using items_are r⟩
/-- d[k] of a written dict -/
theorem tab_get {pins : List (Addr × Obj)} {s : Shared} {aa : Addr} {get : PyData → Option PyData} {v : V} {x d : PyData} {u : Value} {A : Around} {E : Value → Shared → Prop} {Q : Value → Shared → Prop} (hu : A.units + 1 < cLine) (tb : TabOK X.prog X.w X.K aa get)
    (I : Inv X pins σ H s) (k : KeyIs H X.K v x) (ru : RelV v u) (hg : get x = some d) (q : ∀ v' u' s', Inv X pins σ H s' → RelV v' u' → WrD X.K v' d → Q u' s') : wpAny (model X.prog X.w) A (getItem (.ref aa) u) Q E s := by
  cases k with
  | int n =>
    rcases tb.body with ⟨kvs, h1, h2, _⟩ | ⟨_, h2⟩
    · obtain ⟨u', v', e1, e2, e3⟩ := (h2 n).2 d hg
      exact wpAny_getItem_of (kV_is (k := Sum.inl n) ru) (h1 _ I.kIn).mapOf e1 (q v' u' _ (I.tok _) e2 e3)
    · rw [h2] at hg
      cases hg
  | tup p ks hs =>
    rcases tb.body with ⟨_, _, _, h2⟩ | ⟨⟨xs, h1, h2⟩, _⟩
    · rw [h2] at hg
      cases hg
    · obtain ⟨p', v', e1, e2, e3⟩ := (h2 ks).2 d hg
      obtain rfl : u = Value.ref p := ru
      exact wpAny_getItem_heap (tupleKind_room_in1 hu) (tupKey I hs) (h1 _ I.kIn) e1 (q v' _ _ (I.tok _) e2 e3)
/-- d.get(k, z) of a written dict -/
theorem tab_getD {pins : List (Addr × Obj)} {s : Shared} {aa : Addr} {get : PyData → Option PyData} {v z : V} {x : PyData} {u r : Value} {A : Around} {E : Value → Shared → Prop} {Q : Value → Shared → Prop} (hu : A.units + 1 < cLine) (tb : TabOK X.prog X.w X.K aa get)
    (I : Inv X pins σ H s) (k : KeyIs H X.K v x) (ru : RelV v u) (rz : RelV z r) (hk : ∃ x' d', get x' = some d' ∧ kindB x x' = true) (q : ∀ v' u' s', Inv X pins σ H s' → RelV v' u' → (∀ d, get x = some d → WrD X.K v' d) → (get x = none → v' = z) → Q u' s') :
    wpAny (model X.prog X.w) A (call (.builtin "dict.get") [.ref aa, u, r]) Q E s := by
  cases k with
  | int n =>
    rcases tb.body with ⟨kvs, h1, h2, _⟩ | ⟨⟨xs, h1, _⟩, h2⟩
    · have dd := h1 _ I.kIn
      refine call_meetsIn PySem.F.slot_dict_get dd.typeIs PySem.F.entry_dict_get (PySem.F.args_dict_get_3 _ _ _) (meets_dict_get_default (mixKind X.prog X.w) aa (kV_is (k := Sum.inl n) ru) tb.low r) ⟨_, dd.mapOf, ?_⟩
      cases hg : get (.int n) with
      | none =>
        rw [(h2 n).1 hg]
        exact q z r _ (I.tok _) rz (fun d e => by rw [hg] at e; cases e) fun _ => rfl
      | some d =>
        obtain ⟨u', v', e1, e2, e3⟩ := (h2 n).2 d hg
        rw [e1]
        exact q v' u' _ (I.tok _) e2 (fun d' e => by rw [hg] at e; cases e; exact e3) fun e => by rw [hg] at e; cases e
    · obtain ⟨x', d', g1, g2⟩ := hk
      cases x' <;> first | (cases g2; done) | skip
      rw [h2] at g1
      cases g1
  | tup p ks hs =>
    obtain rfl : u = Value.ref p := ru
    rcases tb.body with ⟨kvs, h1, _, h2⟩ | ⟨⟨xs, h1, h2⟩, _⟩
    · obtain ⟨x', d', g1, g2⟩ := hk
      cases x' <;> first | (cases g2; done) | skip
      rw [h2] at g1
      cases g1
    · have dd := h1 _ I.kIn
      refine call_meetsIn PySem.F.slot_dict_get dd.typeIs PySem.F.entry_dict_get (PySem.F.args_dict_get_3 _ _ _) (meetsH_dict_get_default (tupleKind (mixKind X.prog X.w)) aa p tb.low r) ⟨tupleKind_room_in1 hu, ks.map Sum.inl, xs, tupKey I hs, dd, ?_⟩
      cases hg : get (.tuple (ks.map PyData.int)) with
      | none =>
        rw [(h2 ks).1 hg]
        exact q z r _ (I.tok _) rz (fun d e => by rw [hg] at e; cases e) fun _ => rfl
      | some d =>
        obtain ⟨p', v', e1, e2, e3⟩ := (h2 ks).2 d hg
        rw [e1]
        exact q v' _ _ (I.tok _) e2 (fun d' e => by rw [hg] at e; cases e; exact e3) fun e => by rw [hg] at e; cases e
theorem noSl_of (h : notSlice y = true) : NoSl y := notSlice_ix h
/-- the store of a tuple's items in names, from a written or a plain tuple -/
theorem unp_end (ok : XOK X cf G) {is : List Nat} {es : List Expr} {tt : TGs} {kk : Nat} {pt : Pos} {x : V} {ds : List PyData} {p : Addr} {vs : List V} {Q : L2.St → Hp → Prop} (hl : ds.length = is.length) (h1 : SqT X.K H p vs) (hv : vs.length = ds.length)
    (p4 : ∀ (vs : List V) (σ : L2.St) (H : Hp) (Q : L2.St → Hp → Prop), vs.length = is.length → Q ((is.zip vs).foldl (fun σ p => σ.set p.1 (some p.2)) σ) H → tt vs σ H Q) (q : Q ((is.zip vs).foldl (fun σ p => σ.set p.1 (some p.2)) σ) H) :
    gTup X.K is.length tt (.ref p) σ H Q := ⟨p, vs, rfl, h1, hv.trans hl, p4 vs _ _ _ (hv.trans hl) q⟩
theorem wrd_sq {K : PySem.W.Frag} {v : V} {ds : List PyData} (h : WrD K v (.tuple ds)) : ∃ p vs, v = .ref p ∧ (∀ H, SqT K H p vs) ∧ WrAll K vs ds ∧ vs.length = ds.length := by
  obtain ⟨a, o, its, n, xs, rfl, c1, c2, c3, c4, c5, c6, c7⟩ := WrD.tup_inv h
  exact ⟨a, xs, rfl, fun H => .inr ⟨o, its, n, c1, c2, c4, c5, c6⟩, c7, dpa_len (WrAll.dp (H := fun _ => none) _ _ c7)⟩
theorem t_unpw (ok : XOK X cf G) (fn : ∀ n, X.fn n = true) {is : List Nat} {es : List Expr} {n kk : Nat} {m : Str} {p p2 pt pos : Pos} (hn : chkTg cf is es = true) (hf : chkF cf n m = true) (hs : notSlice y = true) (ha : SE X G a y) :
    SS X G (.unpw is n a) (.Assign [.Tuple es kk pt] (.Subscript (.Name m p) y p2) pos) := by
  intro M Hb0 H0 Hb H σ ρ P D I w k
  obtain ⟨c1, c2, c3⟩ := chkF_of hf
  obtain ⟨w0, w⟩ := w
  obtain ⟨aa, hm, tb⟩ := ok.glb.tab n m c1 w0
  obtain ⟨tt, p1, p2', p3, p4⟩ := pgs_of ok fn hn
  have hu : X.A.units + 1 < cLine := by have := hu64 ok; omega
  have he : PE X (.Subscript (.Name m p) y p2) (fun σ H Q => WE X y σ H fun v H1 => ∃ x d, KeyIs H1 X.K v x ∧ G.tab n x = some d ∧ ∀ v', WrD X.K v' d → Q v' H1) := by
    refine ⟨fun pn s0 σ0 H0 Q J h => ?_⟩
    refine subD_of PySem.F.slot_dict_getitem.lookup (noSl_of hs) (ld_glob J (gl_of ok c2) hm (thn (pe_W.run pn s0 σ0 H0 _ J h) fun u s2 ⟨v, H2, J2, rv, x, d, k1, k2, q⟩ => ?_) (nm1 c3))
    obtain ⟨o, ol, oc, od⟩ := tb.ob
    exact ⟨⟨o, J2.kIn _ _ ol, oc⟩, tab_get hu tb J2 k1 rv k2 fun v' u' s3 J3 r3 wr => ⟨v', H2, J3, r3, q v' wr⟩⟩
  refine ⟨_, ps_asg he (pg_tup ok.calm p1 p2' p3) (sws_no fun _ _ q => by cases q) rfl, ?_⟩
  refine ha _ _ _ _ _ _ I.en w fun x v Hb' H' w1 g r => ?_
  obtain ⟨d, hg, w2⟩ := w1
  refine ⟨x, d, keyIs_of (dp_mono g.c _ _ r) (tb.key x d hg), hg, fun v' wr => ?_⟩
  obtain ⟨ds, rfl, ρ', h1, w3⟩ := wTup_inv w2
  obtain ⟨q, vs, rfl, e1, e2, e3⟩ := wrd_sq wr
  exact unp_end ok (x := .non) (kk := 0) (pt := p) (es := []) (setAllW_len _ _ _ _ h1) (e1 _) e3 p4 ((k _ w3) _ _ _ (setAllW_en (I.mono g) e2 h1))
theorem t_unpg (ok : XOK X cf G) (fn : ∀ n, X.fn n = true) {is : List Nat} {es : List Expr} {n kk : Nat} {m me : Str} {p p2 pt apos pos : Pos} (hn : chkTg cf is es = true) (hf : chkF cf n m = true) (hme : me = ("get" : Str)) (hs : notStar y = true) (hs' : notStar z = true) (hl : (apos.endLine == p2.line) = true)
    (ha : SE X G a y) (hb : SE X G b z) : SS X G (.unpg is n a b) (.Assign [.Tuple es kk pt] (.Call (.Attribute (.Name m p) me apos) [y, z] [] p2) pos) := by
  subst hme
  intro M Hb0 H0 Hb H σ ρ P D I w k
  obtain ⟨c1, c2, c3⟩ := chkF_of hf
  obtain ⟨w0, w⟩ := w
  obtain ⟨aa, hm, tb⟩ := ok.glb.tab n m c1 w0
  obtain ⟨tt, p1, p2', p3, p4⟩ := pgs_of ok fn hn
  have hu : X.A.units + 1 < cLine := by have := hu64 ok; omega
  have e1 : starEach [z] X.env = [(false, eval z X.env)] := notStar_eq hs'
  have e2 : starEach [y, z] X.env = [(false, eval y X.env), (false, eval z X.env)] := by rw [notStar_eq hs, e1]
  have mm : L2.M2 X (.Name m p) ("get" : Str) apos y z p2 := ⟨rfl, by rw [e2]; rfl, hl, by rw [e2]; rfl⟩
  have he : PE X (.Call (.Attribute (.Name m p) ("get" : Str) apos) [y, z] [] p2) (fun σ H Q => WE X y σ H fun v H1 => WE X z σ H1 fun v2 H2 => ∃ x, KeyIs H2 X.K v x ∧ (∃ x' d', G.tab n x' = some d' ∧ kindB x x' = true) ∧
      ∀ v', (∀ d, G.tab n x = some d → WrD X.K v' d) → (G.tab n x = none → v' = v2) → Q v' H2) := by
    refine ⟨fun pn s0 σ0 H0 Q J h => ?_⟩
    refine wpAny_Call_method mm.base mm.few mm.line PySem.F.plainAttrs_dict PySem.F.slot_dict_get PySem.F.type_dict_get (ld_glob J (gl_of ok c2) hm ?_ (nm1 c3))
    obtain ⟨o, ol, oc, od⟩ := tb.ob
    refine ⟨⟨o, J.kIn _ _ ol, oc⟩, fun b q => by cases q; exact ⟨o, J.kIn _ _ ol, od⟩, ?_⟩
    rw [mm.trees]
    refine Calls.callWith_builtin rfl (Calls.evalArgs_plain (Calls.spliced_cons (thn (pe_W.run pn s0 σ0 H0 _ J h) fun u s2 ⟨v, H2, J2, rv, q2⟩ =>
      Calls.spliced_cons (thn (pe_W.run pn s2 σ0 H2 _ J2 q2) fun r s3 ⟨v2, H3, J3, r2, x, k1, k2, q3⟩ => Calls.spliced_nil ?_))))
    exact tab_getD hu tb J3 k1 rv r2 k2 fun v' u' s4 J4 r4 a1 a2 => ⟨v', H3, J4, r4, q3 v' a1 a2⟩
  refine ⟨_, ps_asg he (pg_tup ok.calm p1 p2' p3) (sws_no fun _ _ q => by cases q) rfl, ?_⟩
  refine two ha hb I.en w fun x d v u Hb' H' w1 g r1 r2 => ?_
  obtain ⟨k1, k2, w2, w3⟩ := w1
  refine ⟨x, keyIs_of (dp_mono g.c _ _ r1) k1, k2, fun v' a1 a2 => ?_⟩
  cases hg : G.tab n x with
  | some e =>
    obtain ⟨ds, rfl, ρ', h1, w4⟩ := wTup_inv (w2 e hg)
    obtain ⟨q, vs, rfl, f1, f2, f3⟩ := wrd_sq (a1 _ hg)
    exact unp_end ok (x := .non) (kk := 0) (pt := p) (es := []) (setAllW_len _ _ _ _ h1) (f1 _) f3 p4 ((k _ w4) _ _ _ (setAllW_en (I.mono g) f2 h1))
  | none =>
    obtain ⟨ds, rfl, ρ', h1, w4⟩ := wTup_inv (w3 hg)
    cases a2 hg
    obtain ⟨q, vs, rfl, f1, f2⟩ := Dp.tup_inv r2
    exact unp_end ok (x := .non) (kk := 0) (pt := p) (es := []) (setAll_len _ _ _ _ h1) (sqt_mono g.c f1) (dpa_len f2) p4 ((k _ w4) _ _ _ (setAll_en (I.mono g) f2 h1))
end
end Qd

set_option Elab.async false
set_option linter.all false
set_option maxRecDepth 100000
set_option maxHeartbeats 4000000
namespace Qd
open PySem L2
section
variable {G : Ga} {cf : Cf} {X : Cx} {a b c t : T} {e : Expr} {s : S} {ss sa sb : Ss}
def OkS (G : Ga) (s : S) : Prop := ∀ cf X st, XOK X cf G → (∀ n, X.fn n = true) → chkS cf s st = true → SS X G s st
def OkSs (G : Ga) (ss : Ss) : Prop := ∀ cf X sts, XOK X cf G → (∀ n, X.fn n = true) → chkSs cf ss sts = true → SSs X G ss sts
def OkF (G : Ga) (s : S) : Prop := ∀ i, s = .fz i ∨ ∀ cf ss sts, chkSs cf (.cons s ss) sts = true → ∃ st r, sts = st :: r ∧ chkS cf s st = true ∧ chkSs cf ss r = true
theorem asg2 {tg g2 : Expr} {gs : List Expr} {p : Pos} : chkS cf s (.Assign (tg :: g2 :: gs) e p) = false := by
  cases s <;> cases tg <;> first | rfl | (rename_i v sl ps; cases v <;> rfl)
theorem q_set (i : Nat) (t : T) : OkS G (.set i t) := by
  intro cf X st ok fn h
  cases st <;> first | (simp only [chkS, Bool.false_eq_true] at h; done) | skip
  rename_i tgs e p
  rcases tgs with _ | ⟨tg, _ | ⟨g2, gs⟩⟩ <;> first | (rw [asg2] at h; exact no h) | (simp only [chkS, Bool.false_eq_true] at h; done) | skip
  · cases tg <;> first | (simp only [chkS, Bool.false_eq_true] at h; done) | skip
    simp only [chkS, Bool.and_eq_true, Bool.or_eq_true] at h
    obtain ⟨h1, h2 | h2⟩ := h
    · exact t_set ok fn h1 h2.2 ((okk G t).e _ _ _ ok h2.1)
    · intro M Hb0 H0 Hb H σ ρ P D I w k
      refine t_lc ok fn h1 h2 Hb H σ ρ (fun d => P (.nx (ρ.set i (some (.dat d))))) D I.en w fun ds p vs Hb' H' w1 g hp hb hl r => ?_
      by_cases hi : i < ρ.length
      · exact fin_new I k hi w1 g hp hb hl r
      · have e1 : ρ.set i (some (.dat (.list ds))) = ρ := List.set_eq_of_length_le (by omega)
        have e2 : σ.set i (some (V.ref p)) = σ := List.set_eq_of_length_le (by rw [I.en.len]; omega)
        rw [e1] at w1
        rw [e2]
        exact (k _ w1) _ _ _ (I.mono g)
theorem q_mk (i : Nat) (t : T) : OkS G (.mk i t) := by
  intro cf X st ok fn h
  cases st <;> first | (simp only [chkS, Bool.false_eq_true] at h; done) | skip
  rename_i tgs e p
  rcases tgs with _ | ⟨tg, _ | ⟨g2, gs⟩⟩ <;> first | (rw [asg2] at h; exact no h) | (simp only [chkS, Bool.false_eq_true] at h; done) | skip
  · cases tg <;> first | (simp only [chkS, Bool.false_eq_true] at h; done) | skip
    simp only [chkS, Bool.and_eq_true, Bool.or_eq_true] at h
    obtain ⟨⟨h1, h3⟩, h2 | h2⟩ := h
    · exact t_mk ok fn h1 h2.2 ((okk G t).f _ _ _ ok h2.1 h3)
    · intro M Hb0 H0 Hb H σ ρ P D I w k
      refine t_lc ok fn h1 h2 Hb H σ ρ (fun d => wList d fun ds => P (.nx (ρ.set i (some (.own ds))))) D I.en w fun ds p vs Hb' H' w1 g hp hb hl r => ?_
      exact fin_own I k w1 g hp hb hl r
theorem q_unp (is : List Nat) (t : T) : OkS G (.unp is t) := by
  intro cf X st ok fn h
  cases st <;> first | (simp only [chkS, Bool.false_eq_true] at h; done) | skip
  rename_i tgs e p
  rcases tgs with _ | ⟨tg, _ | ⟨g2, gs⟩⟩ <;> first | (rw [asg2] at h; exact no h) | (simp only [chkS, Bool.false_eq_true] at h; done) | skip
  · cases tg <;> first | (simp only [chkS, Bool.false_eq_true] at h; done) | skip
    simp only [chkS, Bool.and_eq_true] at h
    exact t_unp ok fn h.1.1.1 h.1.2 ((okk G t).e _ _ _ ok h.1.1.2)
theorem q_unpw (is : List Nat) (n : Nat) (t : T) : OkS G (.unpw is n t) := by
  intro cf X st ok fn h
  cases st <;> first | (simp only [chkS, Bool.false_eq_true] at h; done) | skip
  rename_i tgs e p
  rcases tgs with _ | ⟨tg, _ | ⟨g2, gs⟩⟩ <;> first | (rw [asg2] at h; exact no h) | (simp only [chkS, Bool.false_eq_true] at h; done) | skip
  · cases tg <;> first | (simp only [chkS, Bool.false_eq_true] at h; done) | skip
    cases e <;> first | (simp only [chkS, Bool.false_eq_true] at h; done) | skip
    rename_i o y p2
    cases o <;> first | (simp only [chkS, Bool.false_eq_true] at h; done) | skip
    simp only [chkS, Bool.and_eq_true] at h
    exact t_unpw ok fn h.1.1.1 h.1.1.2 h.2 ((okk G t).e _ _ _ ok h.1.2)
theorem q_unpg (is : List Nat) (n : Nat) (t d : T) : OkS G (.unpg is n t d) := by
  intro cf X st ok fn h
  cases st <;> first | (simp only [chkS, Bool.false_eq_true] at h; done) | skip
  rename_i tgs e p
  rcases tgs with _ | ⟨tg, _ | ⟨g2, gs⟩⟩ <;> first | (rw [asg2] at h; exact no h) | (simp only [chkS, Bool.false_eq_true] at h; done) | skip
  · cases tg <;> first | (simp only [chkS, Bool.false_eq_true] at h; done) | skip
    cases e <;> first | (simp only [chkS, Bool.false_eq_true] at h; done) | skip
    rename_i f args kws p2
    cases f <;> first | (simp only [chkS, Bool.false_eq_true] at h; done) | skip
    rename_i o m ap
    cases o <;> first | (simp only [chkS, Bool.false_eq_true] at h; done) | skip
    rcases args with _ | ⟨x, _ | ⟨x2, _ | ⟨x3, es⟩⟩⟩ <;> rcases kws with _ | ⟨kw, kws⟩ <;> first | (simp only [chkS, Bool.false_eq_true] at h; done) | skip
    simp only [chkS, Bool.and_eq_true, decide_eq_true_eq] at h
    exact t_unpg ok fn h.1.1.1.1.1.1.1 h.1.1.1.1.1.1.2 h.1.1.1.1.1.2 h.1.1.2 h.1.2 h.2 ((okk G t).e _ _ _ ok h.1.1.1.1.2) ((okk G d).e _ _ _ ok h.1.1.1.2)
theorem q_seti (i : Nat) (a b : T) : OkS G (.seti i a b) := by
  intro cf X st ok fn h
  cases st <;> first | (simp only [chkS, Bool.false_eq_true] at h; done) | skip
  rename_i tgs e p
  rcases tgs with _ | ⟨tg, _ | ⟨g2, gs⟩⟩ <;> first | (rw [asg2] at h; exact no h) | (simp only [chkS, Bool.false_eq_true] at h; done) | skip
  · cases tg <;> first | (simp only [chkS, Bool.false_eq_true] at h; done) | skip
    rename_i o y p2
    cases o <;> first | (simp only [chkS, Bool.false_eq_true] at h; done) | skip
    simp only [chkS, Bool.and_eq_true] at h
    exact t_seti ok h.1.1.1 h.1.2 ((okk G a).e _ _ _ ok h.1.1.2) ((okk G b).e _ _ _ ok h.2)
theorem q_augi (i : Nat) (o : BO) (a b : T) : OkS G (.augi i o a b) := by
  intro cf X st ok fn h
  cases st <;> first | (simp only [chkS, Bool.false_eq_true] at h; done) | skip
  rename_i tg op e p
  cases tg <;> first | (simp only [chkS, Bool.false_eq_true] at h; done) | skip
  rename_i ob y p2
  cases ob <;> first | (simp only [chkS, Bool.false_eq_true] at h; done) | skip
  simp only [chkS, Bool.and_eq_true] at h
  exact t_augi ok h.1.1.1.1.1 h.1.1.1.1.2 h.1.1.1.2 h.1.2 ((okk G a).e _ _ _ ok h.1.1.2) ((okk G b).e _ _ _ ok h.2)
theorem q_aug (i : Nat) (o : BO) (t : T) : OkS G (.aug i o t) := by
  intro cf X st ok fn h
  cases st <;> first | (simp only [chkS, Bool.false_eq_true] at h; done) | skip
  rename_i tg op e p
  cases tg <;> first | (simp only [chkS, Bool.false_eq_true] at h; done) | skip
  simp only [chkS, Bool.and_eq_true] at h
  exact t_aug ok fn h.1.1.1 h.1.1.2 h.1.2 ((okk G t).e _ _ _ ok h.2)
theorem q_app (i : Nat) (t : T) : OkS G (.app i t) := by
  intro cf X st ok fn h
  cases st <;> first | (simp only [chkS, Bool.false_eq_true] at h; done) | skip
  rename_i e p
  cases e <;> first | (simp only [chkS, Bool.false_eq_true] at h; done) | skip
  rename_i f args kws p
  cases f <;> first | (simp only [chkS, Bool.false_eq_true] at h; done) | skip
  rename_i o m ap
  cases o <;> first | (simp only [chkS, Bool.false_eq_true] at h; done) | skip
  rcases args with _ | ⟨x, _ | ⟨x2, es⟩⟩ <;> rcases kws with _ | ⟨kw, kws⟩ <;> first | (simp only [chkS, Bool.false_eq_true] at h; done) | skip
  simp only [chkS, Bool.and_eq_true, decide_eq_true_eq] at h
  exact t_app ok h.1.1.1.1 h.1.1.1.2 h.1.2 h.2 ((okk G t).e _ _ _ ok h.1.1.2)
theorem q_ext (i : Nat) (t : T) : OkS G (.ext i t) := by
  intro cf X st ok fn h
  cases st <;> first | (simp only [chkS, Bool.false_eq_true] at h; done) | skip
  rename_i e p
  cases e <;> first | (simp only [chkS, Bool.false_eq_true] at h; done) | skip
  rename_i f args kws p
  cases f <;> first | (simp only [chkS, Bool.false_eq_true] at h; done) | skip
  rename_i o m ap
  cases o <;> first | (simp only [chkS, Bool.false_eq_true] at h; done) | skip
  rcases args with _ | ⟨x, _ | ⟨x2, es⟩⟩ <;> rcases kws with _ | ⟨kw, kws⟩ <;> first | (simp only [chkS, Bool.false_eq_true] at h; done) | skip
  simp only [chkS, Bool.and_eq_true, decide_eq_true_eq] at h
  exact t_ext ok h.1.1.1.1.1 h.1.1.1.1.2 h.1.2 h.2 ((okk G t).f _ _ _ ok h.1.1.2 h.1.1.1.2)
theorem q_cati (i : Nat) (t : T) : OkS G (.cati i t) := by
  intro cf X st ok fn h
  cases st <;> first | (simp only [chkS, Bool.false_eq_true] at h; done) | skip
  rename_i tgs e p
  rcases tgs with _ | ⟨tg, _ | ⟨g2, gs⟩⟩ <;> first | (rw [asg2] at h; exact no h) | (simp only [chkS, Bool.false_eq_true] at h; done) | skip
  · cases tg <;> first | (simp only [chkS, Bool.false_eq_true] at h; done) | skip
    cases e <;> first | (simp only [chkS, Bool.false_eq_true] at h; done) | skip
    rename_i l op r p2
    cases l <;> first | (simp only [chkS, Bool.false_eq_true] at h; done) | skip
    simp only [chkS, Bool.and_eq_true] at h
    exact t_cati ok fn h.1.1.1.1 h.1.1.1.2 h.1.1.2 ((okk G t).f _ _ _ ok h.2 h.1.2)
theorem q_iff (c : T) (ha : OkSs G sa) (hb : OkSs G sb) : OkS G (.iff c sa sb) := by
  intro cf X st ok fn h
  cases st <;> first | (simp only [chkS, Bool.false_eq_true] at h; done) | skip
  simp only [chkS, Bool.and_eq_true] at h
  exact t_iff ((okk G c).c _ _ _ ok h.1.1) (ha _ _ _ ok fn h.1.2) (hb _ _ _ ok fn h.2)
theorem q_fo (i : Nat) (src : T) (hb : OkSs G sb) : OkS G (.fo i src sb) := by
  intro cf X st ok fn h
  cases st <;> first | (simp only [chkS, Bool.false_eq_true] at h; done) | skip
  rename_i tg iter body els p
  cases tg <;> first | (simp only [chkS, Bool.false_eq_true] at h; done) | skip
  cases els <;> first | (simp only [chkS, Bool.false_eq_true] at h; done) | skip
  simp only [chkS, Bool.and_eq_true] at h
  exact t_for ok fn h.1.1.1 h.1.2 ((okk G src).i _ _ _ _ ok h.1.1.2) (hb _ _ _ ok fn h.2)
theorem q_fou (is : List Nat) (src : T) (hb : OkSs G sb) : OkS G (.fou is src sb) := by
  intro cf X st ok fn h
  cases st <;> first | (simp only [chkS, Bool.false_eq_true] at h; done) | skip
  rename_i tg iter body els pos
  cases tg <;> first | (simp only [chkS, Bool.false_eq_true] at h; done) | skip
  cases els <;> first | (simp only [chkS, Bool.false_eq_true] at h; done) | skip
  simp only [chkS, Bool.and_eq_true] at h
  exact t_fou ok fn h.1.1.1 h.1.2 ((okk G src).i _ _ _ _ ok h.1.1.2) (hb _ _ _ ok fn h.2)
theorem q_ret (t : T) : OkS G (.ret t) := by
  intro cf X st ok fn h
  cases st <;> first | (simp only [chkS, Bool.false_eq_true] at h; done) | skip
  rename_i v p
  cases v <;> first | (simp only [chkS, Bool.false_eq_true] at h; done) | skip
  simp only [chkS] at h
  exact t_ret ((okk G t).e _ _ _ ok h)
theorem q_brk : OkS G .brk := by
  intro cf X st ok fn h
  cases st <;> first | (simp only [chkS, Bool.false_eq_true] at h; done) | skip
  exact fun M Hb0 H0 Hb H σ ρ P D I w k => ⟨_, ps_break, (k _ w) _ _ _ I⟩
theorem q_cnt : OkS G .cnt := by
  intro cf X st ok fn h
  cases st <;> first | (simp only [chkS, Bool.false_eq_true] at h; done) | skip
  exact fun M Hb0 H0 Hb H σ ρ P D I w k => ⟨_, ps_continue, (k _ w) _ _ _ I⟩
theorem q_pas : OkS G .pas := by
  intro cf X st ok fn h
  cases st <;> first | (simp only [chkS, Bool.false_eq_true] at h; done) | skip
  exact fun M Hb0 H0 Hb H σ ρ P D I w k => ⟨_, ps_pass, (k _ w) _ _ _ I⟩
theorem q_fz (i : Nat) : OkS G (.fz i) := by
  intro cf X st ok fn h
  cases st <;> simp only [chkS, Bool.false_eq_true] at h
theorem q_dead : OkS G .dead := by
  intro cf X st ok fn h
  exact fun M Hb0 H0 Hb H σ ρ P D I w k => (show False from w).elim
theorem q_nil : OkSs G .nil := by
  intro cf X sts ok fn h
  cases sts with
  | nil => exact fun M Hb0 H0 Hb H σ ρ P D I w k => ⟨_, pss_nil, (k _ w) _ _ _ I⟩
  | cons _ _ => simp only [chkSs, Bool.false_eq_true] at h
theorem q_cons (hs : OkS G s) (hr : OkSs G ss) : OkSs G (.cons s ss) := by
  intro cf X sts ok fn h
  have gen : (∀ sts, chkSs cf (.cons s ss) sts = true → ∃ st r, sts = st :: r ∧ chkS cf s st = true ∧ chkSs cf ss r = true) → SSs X G (.cons s ss) sts := fun f => by
    obtain ⟨st, r, rfl, h1, h2⟩ := f sts h
    intro M Hb0 H0 Hb H σ ρ P D I w k
    refine ⟨_, pss_cons ps_W pss_W, ?_⟩
    refine hs _ _ _ ok fn h1 M Hb0 H0 Hb H σ ρ _ _ I w ?_
    intro o ho
    cases o with
    | nx ρ' => exact fun σ' Hb' H' I' => hr _ _ _ ok fn h2 M Hb0 H0 Hb' H' σ' ρ' P D I' ho k
    | rt d => exact k _ ho
    | bk ρ' => exact k _ ho
    | ct ρ' => exact k _ ho
  have cut : ∀ {s : S}, (∀ i, s ≠ .fz i) → ∀ sts, chkSs cf (.cons s ss) sts = true → ∃ st r, sts = st :: r ∧ chkS cf s st = true ∧ chkSs cf ss r = true := fun {s} n sts h => by
    cases s <;> first | exact absurd rfl (n _) | skip
    all_goals (cases sts with
      | nil => simp only [chkSs, Bool.false_eq_true] at h
      | cons st r =>
        simp only [chkSs, Bool.and_eq_true] at h
        exact ⟨st, r, rfl, h.1, h.2⟩)
  by_cases z : ∃ i, s = .fz i
  · obtain ⟨i, rfl⟩ := z
    simp only [chkSs] at h
    intro M Hb0 H0 Hb H σ ρ P D I w k
    obtain ⟨ds, ho, w1⟩ := wOwn_inv (show wOwn ρ i (fun ds => wSs G ss (ρ.set i (some (.dat (.list ds)))) P) from w)
    obtain ⟨Hb', I'⟩ := I.froz ho
    exact hr _ _ _ ok fn h M Hb0 H0 Hb' H σ _ P D I' w1 k
  · exact gen (cut fun i e => z ⟨i, e⟩)
theorem okss (G : Ga) (ss : Ss) : OkSs G ss := by
  refine Ss.rec (motive_1 := fun s => OkS G s) (motive_2 := fun ss => OkSs G ss) ?_ ?_ ?_ ?_ ?_ ?_ ?_ ?_ ?_ ?_ ?_ ?_ ?_ ?_ ?_ ?_ ?_ ?_ ?_ ?_ ?_ ?_ ss
  · exact q_set
  · exact q_mk
  · exact q_unp
  · exact q_unpw
  · exact q_unpg
  · exact q_seti
  · exact q_augi
  · exact q_aug
  · exact q_app
  · exact q_ext
  · exact q_cati
  · exact fun c sa sb ha hb => q_iff c ha hb
  · exact fun i src sb hb => q_fo i src hb
  · exact fun is src sb hb => q_fou is src hb
  · exact q_ret
  · exact q_brk
  · exact q_cnt
  · exact q_pas
  · exact q_fz
  · exact q_dead
  · exact q_nil
  · exact fun s ss hs hr => q_cons hs hr
end
/-! ### a def -/
def startR (N : List Str) (ds : List PyData) : Rho := ds.map (fun d => some (B.dat d)) ++ List.replicate (N.length - ds.length) none
theorem start_dat {K : PySem.W.Frag} {Hb : Hp} {N : List Str} : ∀ {vs : List V} {ds : List PyData} {i : Nat} {d : PyData}, DpAll K Hb vs ds → (startR N ds)[i]? = some (some (B.dat d)) → ∃ v, (L2.start N vs)[i]? = some (some v) ∧ Dp K Hb v d := fun {vs ds i d} r h => by
  unfold startR at h
  unfold L2.start
  by_cases l : i < ds.length
  · rw [List.getElem?_append_left (by rw [List.length_map]; exact l), List.getElem?_map] at h
    obtain ⟨e, e1, e2⟩ := Option.map_eq_some_iff.mp h
    cases e2
    obtain ⟨v, f1, f2⟩ := dpa_get r e1
    exact ⟨v, by rw [List.getElem?_append_left (by rw [List.length_map, dpa_len r]; exact l), List.getElem?_map, f1]; rfl, f2⟩
  · rw [List.getElem?_append_right (by rw [List.length_map]; omega)] at h
    obtain ⟨_, h2⟩ := List.getElem?_eq_some_iff.mp h
    rw [List.getElem_replicate] at h2
    cases h2
theorem start_own {N : List Str} {ds : List PyData} {b : B} {i : Nat} (hb : isOw b = true) (h : (startR N ds)[i]? = some (some b)) : False := by
  unfold startR at h
  by_cases l : i < ds.length
  · rw [List.getElem?_append_left (by rw [List.length_map]; exact l), List.getElem?_map] at h
    obtain ⟨e, e1, e2⟩ := Option.map_eq_some_iff.mp h
    cases e2
    cases hb
  · rw [List.getElem?_append_right (by rw [List.length_map]; omega)] at h
    obtain ⟨_, h2⟩ := List.getElem?_eq_some_iff.mp h
    rw [List.getElem_replicate] at h2
    cases h2
theorem start_wri {N : List Str} {ds : List PyData} {e : PyData} {i : Nat} (h : (startR N ds)[i]? = some (some (B.wri e))) : False := by
  unfold startR at h
  by_cases l : i < ds.length
  · rw [List.getElem?_append_left (by rw [List.length_map]; exact l), List.getElem?_map] at h
    obtain ⟨e, e1, e2⟩ := Option.map_eq_some_iff.mp h
    cases e2
  · rw [List.getElem?_append_right (by rw [List.length_map]; omega)] at h
    obtain ⟨_, h2⟩ := List.getElem?_eq_some_iff.mp h
    rw [List.getElem_replicate] at h2
    cases h2
theorem fn_ok {P : Program} {w : World} {K : PySem.W.Frag} {mg : Str → Option Value} {base : Heap} {x qual : Str} {st : Stmt} {f : Addr} {fd : FuncData} {ps : List Str} {cf : Cf} {G : Ga} {body : Ss} {g : List PyData → Option PyData}
    (F : Fun K x qual st f fd) (S : FnScope cf.N ps (defScope st)) (hsc : cf.sc = defScope st) (gok : GOK cf P w K mg base G) (hc : chkSs cf body (defBody st) = true)
    (hw : ∀ ds d, g ds = some d → ds.length = ps.length ∧ wSs G body (startR cf.N ds) (fun o => match o with
      | .rt e => e = d
      | .nx _ => d = .none
      | _ => False)) : FnOk P w K mg base CX0 (cf.L + 1) f fd ps (spD K g) := by
  refine F.ok S (fun vs H Q E h => ?_) (fun cdv A outer s H vs Q E hr h => ?_)
  · obtain ⟨Hb, ds, d, _, h1, h2, _⟩ := h
    rw [dpa_len h1]
    exact (hw ds d h2).1
  · obtain ⟨Hb, ds, d, ex, h1, h2, q⟩ := h
    have ok : XOK (cxOf CX0 P w K mg base cf.N qual (defScope st) f cdv A outer s H E).nox cf G := ⟨rfl, S.nd, hsc.symm, rfl, hr, rfl, gok⟩
    have lens : (L2.start cf.N vs).length = (startR cf.N ds).length := by
      unfold L2.start startR
      rw [List.length_append, List.length_append, List.length_map, List.length_map, List.length_replicate, List.length_replicate, dpa_len h1]
    have I : EnS K Hb Hb H Hb H (L2.start cf.N vs) (startR cf.N ds) :=
      ⟨⟨lens, ex, fun i d e => start_dat h1 e, fun i b hb e => (start_own hb e).elim, fun i d e => (start_wri e).elim, fun i j p b c hb _ e _ _ _ => (start_own hb e).elim⟩, Gr.refl ex, Same.refl _, fun i b p hb e _ => (start_own hb e).elim⟩
    have z := okss G body cf _ (defBody st) ok (fun _ => rfl) hc Hb Hb H Hb H (L2.start cf.N vs) (startR cf.N ds) _ { nx := fun _ H' => Q .non H', rt := Q } I (hw ds d h2).2 ?_
    · obtain ⟨t, z1, z2⟩ := z
      exact ⟨t, z1, z2⟩
    · intro o ho
      cases o with
      | nx ρ =>
        have ho : d = .none := ho
        subst ho
        exact fun σ Hb' H' I' => q _ Hb' H' I'.gr .non
      | rt e =>
        have ho : e = d := ho
        subst ho
        exact fun v Hb' H' g r => q v Hb' H' g r
      | bk ρ => exact ho.elim
      | ct ρ => exact ho.elim
theorem GOK.fn_mono {P : Program} {w : World} {K : PySem.W.Frag} {mg : Str → Option Value} {base : Heap} {j k : Nat} {f : Addr} {fd : FuncData} {ps : List Str} {sp : Sp} (h : FnOk P w K mg base CX0 j f fd ps sp) (l : j ≤ k) : FnOk P w K mg base CX0 k f fd ps sp := h.mono l
end Qd

set_option Elab.async false
set_option linter.all false
set_option maxRecDepth 100000
namespace Qd
open PySem L2
/-- the law's own promise: for every script of at most 63 ints the answer is True -/
def spLaw (K : PySem.W.Frag) : Sp := fun vs H Q _ => ∃ (a : Addr) (ns : List Int), vs = [.ref a] ∧ SqL K H a (ns.map V.int) ∧ ns.length ≤ 63 ∧ ∀ H', Q (.bl true) H'
theorem dpa_of_ints {K : PySem.W.Frag} {H : Hp} : ∀ ns : List Int, DpAll K H (ns.map V.int) (ns.map PyData.int)
  | [] => .nil
  | n :: ns => .cons (.int n) (dpa_of_ints ns)
theorem law_of {P : Program} {w : World} {K : PySem.W.Frag} {mg : Str → Option Value} {base : Heap} {k : Nat} {f : Addr} {fd : FuncData} {g : List PyData → Option PyData} (F : FnOk P w K mg base CX0 k f fd ["script"] (spD K g))
    (hg : ∀ ns : List Int, ns.length ≤ 63 → g [.list (ns.map PyData.int)] = some (.bool true)) : FnOk P w K mg base CX0 k f fd ["script"] (spLaw K) :=
  F.imp fun vs H Q E ⟨a, ns, e, hs, hl, q⟩ => by
    subst e
    exact ⟨H, [.list (ns.map PyData.int)], _, Same.refl _, .cons (.lst hs (dpa_of_ints ns)) .nil, hg ns hl, fun v Hb' H' _ r => by
      cases Dp.bl_inv r
      exact q H'⟩
theorem walk {l : PySem.W.OpenLaw} {q : Program} {loose : List Str} {XP : (Str → Option Value) → Heap → Prop} {YP : World → Heap → Prop} {d : DefRec} {K : Params → PySem.W.Frag} (hn : l.most = some 63) (hdf : d.params.defaults = [])
    (hY : ∀ (w : World) (h : Heap), YP w h → (K w.params).In h)
    (F : ∀ (w : World) (mg : Str → Option Value) (fa : Addr) (h : Heap), (K w.params).In h → h.Ns mainGlobals mg → mg d.name = some (.ref fa) →
      ∃ fd : FuncData, (∀ (s : Shared) (u : Value), BindsTo s fd ⟨[u], []⟩ [("script", u)]) ∧ ∀ base : Heap, (K w.params).In base → base.Ns mainGlobals mg → FnOk l.prog w (K w.params) mg base CX0 30 fa fd ["script"] (spLaw (K w.params))) :
    PySem.W.WalkO q loose XP YP l.row.toRowW d [] (fun f vs => PySem.call f vs) :=
  L2.walk_of (n := 63) (k := 30) (x := "script") (CX := fun _ => CX0) (sp := fun w => spLaw (K w.params)) hn (by decide) hdf ⟨rfl, by decide, by decide⟩ hY F (fun _ _ a ns hl _ hS => ⟨a, ns, rfl, hS, hl, fun _ => rfl⟩) fun _ _ _ _ _ z => z
end Qd

set_option Elab.async false
set_option linter.all false
set_option maxRecDepth 100000
set_option maxHeartbeats 4000000
/-! PdN: the head by one kernel run; what the top has written, told by a Bool: defs, constants, written dicts. -/
namespace Qd
open PySem PySem.Spec PyProof.Rows L2
theorem ba {a b : Bool} (h : (a && b) = true) : a = true ∧ b = true := Bool.and_eq_true_iff.mp h
/-! ### constants -/
def isIntV (i : Int) : Value → Bool
  | .int j _ => decide (j = i)
  | _ => false
def isStrV (x : Str) : Value → Bool
  | .str y _ => decide (y = x)
  | _ => false
def isBoolV (b : Bool) : Value → Bool
  | .bool c => b == c
  | _ => false
def isNonV : Value → Bool
  | .none => true
  | _ => false
/-- the items of a written tuple -/
def tupItsO : Option Obj → Option (List Value)
  | some ⟨.type c, none, .seq its _, _⟩ => if decide (c = "tuple") && decide (its.size ≤ sizeLine) then some its.toList else none
  | _ => none
def tupIts (K : PySem.W.Frag) : Value → Option (List Value)
  | .ref a => tupItsO (K.lookup a)
  | _ => none
theorem isIntV_ok {i : Int} {u : Value} (h : isIntV i u = true) : ∃ t, u = .int i t := by
  unfold isIntV at h
  split at h
  · exact ⟨_, by rw [of_decide_eq_true h]⟩
  · cases h
theorem isStrV_ok {i : Str} {u : Value} (h : isStrV i u = true) : ∃ t, u = .str i t := by
  unfold isStrV at h
  split at h
  · exact ⟨_, by rw [of_decide_eq_true h]⟩
  · cases h
theorem isBoolV_ok {i : Bool} {u : Value} (h : isBoolV i u = true) : u = .bool i := by
  unfold isBoolV at h
  split at h
  · rw [eq_of_beq h]
  · cases h
theorem isNonV_ok {u : Value} (h : isNonV u = true) : u = .none := by
  unfold isNonV at h
  split at h
  · rfl
  · cases h
theorem tupItsO_ok {oo : Option Obj} {us : List Value} (h : tupItsO oo = some us) : ∃ o its n, oo = some o ∧ o.cls = .type "tuple" ∧ o.dict = none ∧ o.data = .seq its n ∧ its.size ≤ sizeLine ∧ its.toList = us := by
  unfold tupItsO at h
  split at h
  · rename_i c its n sl
    split at h
    · rename_i hc
      obtain ⟨h1, h2⟩ := ba hc
      cases h
      exact ⟨_, its, n, rfl, congrArg Value.type (of_decide_eq_true h1), rfl, rfl, of_decide_eq_true h2, rfl⟩
    · cases h
  · cases h
theorem tupIts_ok {K : PySem.W.Frag} {u : Value} {us : List Value} (h : tupIts K u = some us) : ∃ a o its n, u = .ref a ∧ K.lookup a = some o ∧ o.cls = .type "tuple" ∧ o.dict = none ∧ o.data = .seq its n ∧ its.size ≤ sizeLine ∧ its.toList = us := by
  unfold tupIts at h
  split at h
  · rename_i a
    obtain ⟨o, its, n, r⟩ := tupItsO_ok h
    exact ⟨a, o, its, n, rfl, r⟩
  · cases h
mutual
def wrB (K : PySem.W.Frag) : PyData → Value → Bool
  | .none, u => isNonV u
  | .bool b, u => isBoolV b u
  | .int i, u => isIntV i u
  | .str x, u => isStrV x u
  | .tuple ds, u => (match tupIts K u with
    | some us => wrBs K ds us
    | none => false)
  | .list _, _ => false
  | .dict _, _ => false
termination_by structural d => d
def wrBs (K : PySem.W.Frag) : List PyData → List Value → Bool
  | [], us => us.isEmpty
  | d :: ds, us => (match us with
    | [] => false
    | u :: us => wrB K d u && wrBs K ds us)
termination_by structural ds => ds
end
mutual
theorem wrB_ok {K : PySem.W.Frag} : ∀ (d : PyData) (u : Value), wrB K d u = true → ∃ v, RelV v u ∧ WrD K v d
  | .none, u, h => by
    rw [wrB] at h
    cases isNonV_ok h
    exact ⟨.non, rfl, .non⟩
  | .bool b, u, h => by
    rw [wrB] at h
    cases isBoolV_ok h
    exact ⟨.bl b, rfl, .bl _⟩
  | .int i, u, h => by
    rw [wrB] at h
    obtain ⟨t, rfl⟩ := isIntV_ok h
    exact ⟨.int i, ⟨_, rfl⟩, .int _⟩
  | .str x, u, h => by
    rw [wrB] at h
    obtain ⟨t, rfl⟩ := isStrV_ok h
    exact ⟨.str x, ⟨_, rfl⟩, .str _⟩
  | .list _, u, h => by
    rw [wrB] at h
    cases h
  | .dict _, u, h => by
    rw [wrB] at h
    cases h
  | .tuple ds, u, h => by
    rw [wrB] at h
    cases q : tupIts K u with
    | none =>
      rw [q] at h
      cases h
    | some us =>
      rw [q] at h
      have h : wrBs K ds us = true := h
      obtain ⟨a, o, its, n, rfl, e1, e2, e3, e4, e5, rfl⟩ := tupIts_ok q
      obtain ⟨xs, f1, f2⟩ := wrBs_ok ds _ h
      exact ⟨.ref a, rfl, .tup e1 e2 e3 e4 e5 f1 f2⟩
theorem wrBs_ok {K : PySem.W.Frag} : ∀ (ds : List PyData) (us : List Value), wrBs K ds us = true → ∃ vs, Vals vs us ∧ WrAll K vs ds
  | [], us, h => by
    rw [wrBs] at h
    cases us with
    | nil => exact ⟨[], .nil, .nil⟩
    | cons _ _ => cases h
  | d :: ds, us, h => by
    cases us with
    | nil => cases h
    | cons u us =>
      obtain ⟨h1, h2⟩ := ba (show (wrB K d u && wrBs K ds us) = true from h)
      obtain ⟨v, e1, e2⟩ := wrB_ok d u h1
      obtain ⟨vs, f1, f2⟩ := wrBs_ok ds us h2
      exact ⟨v :: vs, .cons e1 f1, .cons e2 f2⟩
end
def conB (K : PySem.W.Frag) (x : Str) (d : PyData) : Bool := match PySem.W.nsIn K mainGlobals x with
  | some (some u) => wrB K d u
  | _ => false
def ConAt (K : PySem.W.Frag) (mg : Str → Option Value) (x : Str) (d : PyData) : Prop := ∃ v u, mg x = some u ∧ RelV v u ∧ ∀ H, Dp K H v d
theorem conB_ok {K : PySem.W.Frag} {h : Heap} {mg : Str → Option Value} {x : Str} {d : PyData} (X : K.In h) (G : h.Ns mainGlobals mg) (c : conB K x d = true) : ConAt K mg x d := by
  unfold conB at c
  split at c
  · rename_i u q
    obtain ⟨v, e1, e2⟩ := wrB_ok d u c
    exact ⟨v, u, PySem.W.mg_of X G q, e1, fun H => e2.dp⟩
  · cases c
/-! ### written dicts, int keys -/
def lookI (kds : List (Int × PyData)) (k : Int) : Option PyData := (kds.find? fun p => decide (p.1 = k)).map (·.2)
def nodI : List Int → Bool
  | [] => true
  | k :: r => (r.all fun j => decide (j ≠ k)) && nodI r
theorem nodI_ok : ∀ {ks : List Int}, nodI ks = true → ks.Nodup
  | [], _ => List.nodup_nil
  | k :: r, h => by
    obtain ⟨h1, h2⟩ := ba h
    refine List.nodup_cons.mpr ⟨fun m => ?_, nodI_ok h2⟩
    exact of_decide_eq_true (List.all_eq_true.mp h1 k m) rfl
def entI (K : PySem.W.Frag) : List DictEntry → List (Int × PyData) → Bool
  | [], [] => true
  | e :: es, kd :: r => isIntV kd.1 e.key && (decide (e.hash = hashInt kd.1) && (wrB K kd.2 e.val && entI K es r))
  | _, _ => false
def dictO : Option Obj → Option (List DictEntry)
  | some ⟨.type c, none, .dict es _, sl⟩ => if decide (c = "dict") && decide (sl.size = 0) then some es.toList else none
  | _ => none
theorem dictO_ok {oo : Option Obj} {us : List DictEntry} (h : dictO oo = some us) : ∃ o es ep, oo = some o ∧ o.ExactDict ∧ o.data = .dict es ep ∧ es.toList = us := by
  unfold dictO at h
  split at h
  · rename_i c es ep sl
    split at h
    · rename_i hc
      obtain ⟨h1, h2⟩ := ba hc
      cases h
      exact ⟨_, es, ep, rfl, ⟨congrArg Value.type (of_decide_eq_true h1), rfl, Array.eq_empty_of_size_eq_zero (of_decide_eq_true h2)⟩, rfl, rfl⟩
    · cases h
  · cases h
def tabI (K : PySem.W.Frag) (a : Addr) (kds : List (Int × PyData)) : Bool := match dictO (K.lookup a) with
  | some es => !(a == sysModules) && (nodI (kds.map (·.1)) && entI K es kds)
  | none => false
theorem entI_ok {P : Program} {w : World} {K : PySem.W.Frag} : ∀ {es : List DictEntry} {kds : List (Int × PyData)}, entI K es kds = true →
    ∃ kvs : List (Key × Value), Pairs (mixKind P w) es kvs ∧ kvs.map (·.1) = kds.map (fun p => (Sum.inl p.1 : Key)) ∧ (∀ e ∈ es, ∃ k, (mixKind P w).is k e.key = true ∧ e.hash = (mixKind P w).hash k) ∧
      (∀ k : Int, (lookI kds k = none → valueAt kvs (.inl k) = none) ∧ ∀ d, lookI kds k = some d → ∃ u v, valueAt kvs (.inl k) = some u ∧ RelV v u ∧ WrD K v d)
  | [], [], _ => ⟨[], .nil, rfl, fun e h => by simp at h, fun k => ⟨fun _ => rfl, fun d h => by cases h⟩⟩
  | [], _ :: _, h => by cases h
  | _ :: _, [], h => by cases h
  | ⟨hs, ky, vl⟩ :: es, (i, d) :: r, h => by
    have h : (isIntV i ky && (decide (hs = hashInt i) && (wrB K d vl && entI K es r))) = true := h
    obtain ⟨h1, h⟩ := ba h
    obtain ⟨h2, h⟩ := ba h
    obtain ⟨h3, h4⟩ := ba h
    obtain ⟨kvs, p1, p2, p3, p4⟩ := entI_ok (P := P) (w := w) h4
    obtain ⟨t, rfl⟩ := isIntV_ok h1
    have e2 := of_decide_eq_true h2
    obtain ⟨v, f1, f2⟩ := wrB_ok d vl h3
    have is : (mixKind P w).is (.inl i) (.int i t) = true := by
      show Value.isInt i (.int i t) = true
      simp [Value.isInt]
    refine ⟨(.inl i, vl) :: kvs, .cons is rfl p1, by rw [List.map_cons, List.map_cons, p2], fun e he => ?_, fun k => ?_⟩
    · rcases List.mem_cons.mp he with rfl | he
      · exact ⟨.inl i, is, e2⟩
      · exact p3 e he
    · by_cases hk : i = k
      · subst hk
        have a1 : lookI ((i, d) :: r) i = some d := by
          unfold lookI
          rw [List.find?_cons_of_pos (by exact decide_eq_true rfl)] <;> rfl
        have a2 : valueAt ((Sum.inl i, vl) :: kvs : List (Key × Value)) (.inl i) = some vl := by
          unfold valueAt
          rw [List.find?_cons_of_pos (by exact decide_eq_true rfl)] <;> rfl
        rw [a1, a2]
        refine ⟨fun z => (by cases z), fun d' z => ?_⟩
        cases z
        exact ⟨vl, v, rfl, f1, f2⟩
      · have a1 : lookI ((i, d) :: r) k = lookI r k := by
          unfold lookI
          rw [List.find?_cons_of_neg (by
            simp only [decide_eq_true_eq]
            exact hk)]
        have a2 : valueAt ((Sum.inl i, vl) :: kvs : List (Key × Value)) (.inl k) = valueAt kvs (.inl k) := by
          unfold valueAt
          rw [List.find?_cons_of_neg (by
            simp only [decide_eq_true_eq]
            exact fun e => hk (Sum.inl.inj e))]
        rw [a1, a2]
        exact p4 k
theorem tabI_ok {P : Program} {w : World} {K : PySem.W.Frag} {a : Addr} {kds : List (Int × PyData)} {get : PyData → Option PyData} (h : tabI K a kds = true) (hg : ∀ k, get (.int k) = lookI kds k) (hn : ∀ ds, get (.tuple ds) = none) (hk : ∀ x d, get x = some d → isKey x = true) : TabOK P w K a get := by
  unfold tabI at h
  cases q : dictO (K.lookup a) with
  | none =>
    rw [q] at h
    cases h
  | some us =>
    rw [q] at h
    obtain ⟨o, es, ep, lk, xd, od, rfl⟩ := dictO_ok q
    obtain ⟨h3, h⟩ := ba (show (!(a == sysModules) && (nodI (kds.map (·.1)) && entI K es.toList kds)) = true from h)
    obtain ⟨h4, h5⟩ := ba h
    obtain ⟨kvs, p1, p2, p3, p4⟩ := entI_ok (P := P) (w := w) h5
    refine ⟨Bool.not_eq_true' _ ▸ h3, ⟨o, lk, xd.1, xd.2.1⟩, .inl ⟨kvs, fun h X => ⟨o, es, ep, X _ _ lk, xd, od, fun e he => p3 e (Array.mem_toList_iff.mpr he), p1, ?_⟩, fun k => ?_, hn⟩, hk⟩
    · rw [p2]
      have := nodI_ok h4
      rw [show (kds.map fun p => (Sum.inl p.1 : Key)) = (kds.map (·.1)).map Sum.inl by rw [List.map_map]; rfl]
      rw [List.Nodup, List.pairwise_map]
      exact List.Pairwise.imp (fun ne e => ne (Sum.inl.inj e)) this
    · rw [hg k]
      exact p4 k
/-! ### written dicts, keys that are tuples of ints -/
theorem inl_inj : ∀ {a b : List Int}, (a.map (Sum.inl : Int → Key)) = b.map Sum.inl → a = b
  | [], [], _ => rfl
  | [], _ :: _, e => nomatch e
  | _ :: _, [], e => nomatch e
  | x :: a, y :: b, e => by
    have e' := List.cons.inj e
    rw [Sum.inl.inj e'.1, inl_inj e'.2]
def lookT (kds : List (List Int × PyData)) (k : List Int) : Option PyData := (kds.find? fun p => decide (p.1 = k)).map (·.2)
def nodT : List (List Int) → Bool
  | [] => true
  | k :: r => (r.all fun j => decide (j ≠ k)) && nodT r
theorem nodT_ok : ∀ {ks : List (List Int)}, nodT ks = true → ks.Nodup
  | [], _ => List.nodup_nil
  | k :: r, h => by
    obtain ⟨h1, h2⟩ := ba h
    refine List.nodup_cons.mpr ⟨fun m => ?_, nodT_ok h2⟩
    exact of_decide_eq_true (List.all_eq_true.mp h1 k m) rfl
def intsB : List Value → List Int → Bool
  | [], [] => true
  | u :: us, k :: ks => isIntV k u && intsB us ks
  | _, _ => false
theorem intsB_ok {P : Program} {w : World} : ∀ {us : List Value} {ks : List Int}, intsB us ks = true → ItemsAre (mixKind P w) (ks.map Sum.inl) us
  | [], [], _ => .nil
  | [], _ :: _, h => by cases h
  | _ :: _, [], h => by cases h
  | u :: us, k :: ks, h => by
    obtain ⟨h1, h2⟩ := ba (show (isIntV k u && intsB us ks) = true from h)
    obtain ⟨t, rfl⟩ := isIntV_ok h1
    refine .cons ?_ (intsB_ok h2)
    show Value.isInt k (.int k t) = true
    simp [Value.isInt]
def tupIB (K : PySem.W.Frag) (p : Value) (ks : List Int) : Bool := match tupIts K p with
  | some us => intsB us ks
  | none => false
theorem tupIB_ok {P : Program} {w : World} {K : PySem.W.Frag} {u : Value} {ks : List Int} (h : tupIB K u ks = true) : ∃ p, u = .ref p ∧ ∀ hp : Heap, K.In hp → IsTupleKey (mixKind P w) hp (ks.map Sum.inl) p := by
  unfold tupIB at h
  cases q : tupIts K u with
  | none =>
    rw [q] at h
    cases h
  | some us =>
    rw [q] at h
    have h : intsB us ks = true := h
    obtain ⟨a, o, its, n, rfl, e1, e2, e3, e4, e5, rfl⟩ := tupIts_ok q
    exact ⟨a, rfl, fun hp X => ⟨o, its, n, X _ _ e1, e2, e4, intsB_ok h⟩⟩
def entT (K : PySem.W.Frag) : List DictEntry → List (List Int × PyData) → Bool
  | [], [] => true
  | e :: es, kd :: r => tupIB K e.key kd.1 && (decide (e.hash = reduceHash (Builtin.Tuple.tupleHashOf (kd.1.map hashInt))) && (wrB K kd.2 e.val && entT K es r))
  | _, _ => false
def tabT (K : PySem.W.Frag) (a : Addr) (kds : List (List Int × PyData)) : Bool := match dictO (K.lookup a) with
  | some es => !(a == sysModules) && (nodT (kds.map (·.1)) && entT K es kds)
  | none => false
theorem entT_ok {P : Program} {w : World} {K : PySem.W.Frag} : ∀ {es : List DictEntry} {kds : List (List Int × PyData)}, entT K es kds = true →
    ∃ xs : List (List Key × Addr × Value), es = xs.map (entryOfKey (tupleKind (mixKind P w))) ∧ xs.map (·.1) = kds.map (fun p => (p.1.map Sum.inl : List Key)) ∧ (∀ h : Heap, K.In h → ∀ x ∈ xs, (tupleKind (mixKind P w)).is h x.1 x.2.1) ∧
      (∀ k : List Int, (lookT kds k = none → atKey xs (k.map Sum.inl) = none) ∧ ∀ d, lookT kds k = some d → ∃ p v, atKey xs (k.map Sum.inl) = some p ∧ RelV v p.2 ∧ WrD K v d)
  | [], [], _ => ⟨[], rfl, rfl, fun h _ x hx => by simp at hx, fun k => ⟨fun _ => rfl, fun d h => by cases h⟩⟩
  | [], _ :: _, h => by cases h
  | _ :: _, [], h => by cases h
  | ⟨hs, ky, vl⟩ :: es, (i, d) :: r, h => by
    have h : (tupIB K ky i && (decide (hs = reduceHash (Builtin.Tuple.tupleHashOf (i.map hashInt))) && (wrB K d vl && entT K es r))) = true := h
    obtain ⟨h1, h⟩ := ba h
    obtain ⟨h2, h⟩ := ba h
    obtain ⟨h3, h4⟩ := ba h
    obtain ⟨xs, p1, p2, p3, p4⟩ := entT_ok (P := P) (w := w) h4
    obtain ⟨p, rfl, hp⟩ := tupIB_ok (P := P) (w := w) h1
    have e2 := of_decide_eq_true h2
    obtain ⟨v, f1, f2⟩ := wrB_ok d vl h3
    refine ⟨(i.map Sum.inl, p, vl) :: xs, ?_, by rw [List.map_cons, List.map_cons, p2], fun h X x hx => ?_, fun k => ?_⟩
    · have e3 : tupleKeyHash (mixKind P w) (i.map Sum.inl) = reduceHash (Builtin.Tuple.tupleHashOf (i.map hashInt)) := by
        unfold tupleKeyHash
        rw [List.map_map]
        rfl
      rw [List.map_cons, ← p1]
      exact congrArg (· :: es) (show DictEntry.mk hs (.ref p) vl = ⟨tupleKeyHash (mixKind P w) (i.map Sum.inl), .ref p, vl⟩ by rw [e2, e3])
    · rcases List.mem_cons.mp hx with rfl | hx
      · exact hp h X
      · exact p3 h X x hx
    · by_cases hk : i = k
      · subst hk
        have a1 : lookT ((i, d) :: r) i = some d := by
          unfold lookT
          rw [List.find?_cons_of_pos (by exact decide_eq_true rfl)] <;> rfl
        have a2 : atKey ((i.map Sum.inl, p, vl) :: xs : List (List Key × Addr × Value)) (i.map Sum.inl) = some (p, vl) := by
          unfold atKey
          rw [List.find?_cons_of_pos (by exact decide_eq_true rfl)] <;> rfl
        rw [a1, a2]
        refine ⟨fun z => (by cases z), fun d' z => ?_⟩
        cases z
        exact ⟨(p, vl), v, rfl, f1, f2⟩
      · have a1 : lookT ((i, d) :: r) k = lookT r k := by
          unfold lookT
          rw [List.find?_cons_of_neg (by
            simp only [decide_eq_true_eq]
            exact hk)]
        have a2 : atKey ((i.map Sum.inl, p, vl) :: xs : List (List Key × Addr × Value)) (k.map Sum.inl) = atKey xs (k.map Sum.inl) := by
          unfold atKey
          rw [List.find?_cons_of_neg (by
            simp only [decide_eq_true_eq]
            exact fun e => hk (inl_inj e))]
        rw [a1, a2]
        exact p4 k
theorem tabT_ok {P : Program} {w : World} {K : PySem.W.Frag} {a : Addr} {kds : List (List Int × PyData)} {get : PyData → Option PyData} (h : tabT K a kds = true) (hg : ∀ k : List Int, get (.tuple (k.map PyData.int)) = lookT kds k) (hn : ∀ k, get (.int k) = none) (hk : ∀ x d, get x = some d → isKey x = true) : TabOK P w K a get := by
  unfold tabT at h
  cases q : dictO (K.lookup a) with
  | none =>
    rw [q] at h
    cases h
  | some us =>
    rw [q] at h
    obtain ⟨o, es, ep, lk, xd, od, rfl⟩ := dictO_ok q
    obtain ⟨h3, h⟩ := ba (show (!(a == sysModules) && (nodT (kds.map (·.1)) && entT K es.toList kds)) = true from h)
    obtain ⟨h4, h5⟩ := ba h
    obtain ⟨kvs, p1, p2, p3, p4⟩ := entT_ok (P := P) (w := w) h5
    refine ⟨Bool.not_eq_true' _ ▸ h3, ⟨o, lk, xd.1, xd.2.1⟩, .inr ⟨⟨kvs, fun h X => ⟨o, es, ep, X _ _ lk, xd, od, p1, p3 h X, ?_⟩, fun k => ?_⟩, hn⟩, hk⟩
    · rw [p2]
      have := nodT_ok h4
      rw [show (kds.map fun p => (p.1.map Sum.inl : List Key)) = (kds.map (·.1)).map (fun l => l.map Sum.inl) by rw [List.map_map]; rfl]
      rw [List.Nodup, List.pairwise_map]
      exact List.Pairwise.imp (fun ne e => ne (inl_inj e)) this
    · rw [hg k]
      exact p4 k
def FnAt (P : Program) (w : World) (K : PySem.W.Frag) (mg : Str → Option Value) (base : Heap) (L : Nat) (x : Str) (g : List PyData → Option PyData) : Prop :=
  ∃ f fd ps, mg x = some (.ref f) ∧ PySem.W.keepIn K (.ref f) = true ∧ Binds K fd ps [] ∧ FnOk P w K mg base CX0 L f fd ps (spD K g)
theorem FnAt.mono {P : Program} {w : World} {K : PySem.W.Frag} {mg : Str → Option Value} {base : Heap} {j k : Nat} {x : Str} {g : List PyData → Option PyData} (h : FnAt P w K mg base j x g) (l : j ≤ k) : FnAt P w K mg base k x g :=
  let ⟨f, fd, ps, a, b, c, d⟩ := h
  ⟨f, fd, ps, a, b, c, d.mono l⟩
def TabAt (P : Program) (w : World) (K : PySem.W.Frag) (mg : Str → Option Value) (x : Str) (get : PyData → Option PyData) : Prop := ∃ a, mg x = some (.ref a) ∧ TabOK P w K a get
end Qd

set_option Elab.async false
set_option linter.all false
set_option maxRecDepth 100000
set_option maxHeartbeats 400000
/-! strict pieces: attributes, methods, new objects, dicts -/
namespace Qd
open PySem L2
def noSuper : Expr → Bool
  | .Call _ _ _ _ => false
  | _ => true
theorem base_of {o : Expr} {f : Str} {env : Env} (h : noSuper o = true) (w : Sem Value) : attributeBase o f env w = w := by
  cases o <;> first | rfl | cases h
theorem pa_N {X : Cx} : ∀ {es : List Expr}, (es.all notStar) = true → PA X es (WN X es)
  | [], _ => pa_nil
  | e :: es, h => by
    rw [List.all_cons, Bool.and_eq_true] at h
    exact pa_cons pe_W (pa_N h.2) (notStar_eq h.1)
theorem star_all {env : Env} : ∀ {es : List Expr}, (es.all notStar) = true → starEach es env = es.map fun e => (false, eval e env)
  | [], _ => rfl
  | e :: es, h => by
    rw [List.all_cons, Bool.and_eq_true] at h
    rw [notStar_eq h.1, star_all h.2] <;> rfl
section
variable {X : Cx} {p : PyData → Prop} {E : List PyData → (PyData → Prop) → Prop} {e0 : Expr} {es : List Expr} {Hb H Hb1 H1 : Hp} {σ : L2.St} {Q : VK} {d : PyData}
theorem r0 (pr : PreR X E [] d Hb1 H1 σ Q) {S : Hp → Prop} (hs : ∀ Hb2 H2 P, Gr Hb1 H1 Hb2 H2 → E [d] P → (∀ d v Hb' H', P d → Gr Hb2 H2 Hb' H' → Dp X.K Hb' v d → Q v H') → S H2) (hE : ∀ ds P, E (d :: ds) P → ds = []) : S H1 :=
  pr (fun _ H => S H) fun Hb2 H2 vs ds P g r w q => by
    cases hE ds P w
    exact hs Hb2 H2 P g w q
theorem r1 {b : Expr} (pr : PreR X E [b] d Hb1 H1 σ Q) {S : V → Hp → Prop} (hs : ∀ Hb2 H2 u e P, Gr Hb1 H1 Hb2 H2 → Dp X.K Hb2 u e → E [d, e] P → (∀ d v Hb' H', P d → Gr Hb2 H2 Hb' H' → Dp X.K Hb' v d → Q v H') → S u H2) (hE : ∀ ds P, E (d :: ds) P → ∃ e, ds = [e]) : WE X b σ H1 S :=
  pr (fun vs H => match vs with | [u] => S u H | _ => True) fun Hb2 H2 vs ds P g r w q => by
    obtain ⟨e, rfl⟩ := hE ds P w
    obtain ⟨u, rfl, r'⟩ := dpa1 r
    exact hs Hb2 H2 u e P g r' w q
theorem r1t {b : Expr} {Q : Bool → Hp → Prop} (pr : PreRT X E [b] d Hb1 H1 σ Q) {S : V → Hp → Prop} (hs : ∀ Hb2 H2 u e (P : Bool → Prop), Gr Hb1 H1 Hb2 H2 → Dp X.K Hb2 u e → E [d, e] (fun d => wBool d P) → (∀ b Hb' H', P b → Gr Hb2 H2 Hb' H' → Q b H') → S u H2) (hE : ∀ ds P, E (d :: ds) P → ∃ e, ds = [e]) : WE X b σ H1 S :=
  pr (fun vs H => match vs with | [u] => S u H | _ => True) fun Hb2 H2 vs ds P g r w q => by
    obtain ⟨e, rfl⟩ := hE ds _ w
    obtain ⟨u, rfl, r'⟩ := dpa1 r
    exact hs Hb2 H2 u e P g r' w q
end
/-! ### o.f -/
def lookF (f : Str) : List (PyData × PyData) → Option PyData
  | [] => none
  | (.str x, d) :: r => if x = f then some d else lookF f r
  | _ :: r => lookF f r
theorem lookF_ok {K : PySem.W.Frag} {H : Hp} {f : Str} {d : PyData} : ∀ {fs : List (Str × V)} {ds : List (PyData × PyData)}, FsAll K H fs ds → lookF f ds = some d → ∃ v, fs.lookup f = some v ∧ Dp K H v d
  | _, _, .nil, e => by cases e
  | _, _, .cons (x := x) (v := v) (fs := fs) (d := d') r t, e => by
    unfold lookF at e
    by_cases h : x = f
    · rw [if_pos h] at e
      cases e
      refine ⟨v, ?_, r⟩
      rw [List.lookup_cons, h]
      simp
    · rw [if_neg h] at e
      obtain ⟨u, e1, e2⟩ := lookF_ok t e
      refine ⟨u, ?_, e2⟩
      rw [List.lookup_cons]
      have : (f == x) = false := by
        simp only [beq_eq_false_iff_ne, ne_eq]
        exact fun q => h q.symm
      rw [this]
      exact e1
theorem lookF_none {K : PySem.W.Frag} {H : Hp} {f : Str} : ∀ {fs : List (Str × V)} {ds : List (PyData × PyData)}, FsAll K H fs ds → lookF f ds = none → fs.lookup f = none
  | _, _, .nil, e => rfl
  | _, _, .cons (x := x) (v := v) (fs := fs) (d := d') r t, e => by
    unfold lookF at e
    by_cases h : x = f
    · rw [if_pos h] at e
      cases e
    · rw [if_neg h] at e
      rw [List.lookup_cons]
      have : (f == x) = false := by
        simp only [beq_eq_false_iff_ne, ne_eq]
        exact fun q => h q.symm
      rw [this]
      exact lookF_none t e
def preAny : PyData → Prop := fun _ => True
def extFld (nm f : Str) : List PyData → (PyData → Prop) → Prop
  | [.dict ((.none, .str x) :: fs)], Q => x = nm ∧ ∃ d, lookF f fs = some d ∧ Q d
  | _, _ => False
def subFld (f : Str) : Expr → Option (Expr × List Expr)
  | .Attribute o f' _ => if decide (f' = f) && noSuper o then some (o, []) else none
  | _ => none
theorem Dp.ob_inv {K : PySem.W.Frag} {H : Hp} {v : V} {nm : Str} {ds : List (PyData × PyData)} (h : Dp K H v (.dict ((.none, .str nm) :: ds))) : ∃ a dx fs, v = .ref a ∧ H a = some (.ins (He.ga K nm) dx fs) ∧ FsAll K H fs ds := by
  cases h with
  | ob a b => exact ⟨_, _, _, rfl, a, b⟩
theorem xr_fld {X : Cx} {nm f : Str} {e e0 : Expr} {es : List Expr} (c : Cls X.K (He.ga X.K nm)) (n : NoAttr X.K (He.ga X.K nm) f) (he : subFld f e = some (e0, es)) : XR X preAny (extFld nm f) e e0 es := by
  unfold subFld at he
  split at he
  · rename_i o f' pos
    split at he
    · rename_i hc
      cases he
      rw [Bool.and_eq_true, decide_eq_true_eq] at hc
      obtain ⟨rfl, hc⟩ := hc
      refine ⟨fun Hb H σ Q h => ⟨_, pe_fld pe_W (base_of hc _), ?_⟩, .inl fun _ => rfl⟩
      refine h _ fun Hb1 H1 v d g1 r _ pr => ?_
      refine r0 pr (S := fun H2 => ∃ a C dx fs v', v = .ref a ∧ H2 a = some (.ins C dx fs) ∧ Cls X.K C ∧ NoAttr X.K C f' ∧ fs.lookup f' = some v' ∧ Q v' H2) (fun Hb2 H2 P g w q => ?_) fun ds P w => ?_
      · unfold extFld at w
        split at w
        · rename_i x fs Q' e
          cases e
          obtain ⟨rfl, d, e1, w⟩ := w
          obtain ⟨a, dx, fs', rfl, h1, h2⟩ := Dp.ob_inv (dpr_mono g.a r)
          obtain ⟨u, e2, r2⟩ := lookF_ok h2 e1
          exact ⟨a, _, dx, fs', u, rfl, g.c _ _ h1, c, n, e2, q d u Hb2 H2 w (Gr.refl g.c) r2⟩
        · exact w.elim
      · unfold extFld at w
        split at w
        · rename_i e
          cases e
          rfl
        · exact w.elim
    · cases he
  · cases he
/-! ### o.m(..) -/
theorem ht_of {X : Cx} {o : Expr} {m : Str} {apos pos : Pos} {es : List Expr} (hb : noSuper o = true) (hl : (apos.endLine == pos.line) = true) (hf : methodCallForm (es.length + ([] : List Keyword).length) (backTo pos (starEach es X.env)) (backToKw pos (keywordEach [] X.env)) = true) :
    eval (.Call (.Attribute o m apos) es [] pos) X.env = (do
      let ov ← eval o X.env
      standAt apos.atName
      let (f, first) ← holding [ov] (getMethod ov m (plainOf o X.env))
      callWith pos f first (backTo pos (starEach es X.env)) (backToKw pos (keywordEach [] X.env))) := by
  rw [arm_eval_Call, base_of hb]
  congr 1
  funext ov
  congr 1
  funext _
  exact mcall_line hf hl
/-- a method of an own class, told by data -/
def MetAt (P : Program) (w : World) (K : PySem.W.Frag) (mg : Str → Option Value) (base : Heap) (L : Nat) (nm m : Str) (g : List PyData → Option PyData) : Prop :=
  ∃ f fd ps, Cls K (He.ga K nm) ∧ Meth K (He.ga K nm) m f ∧ Binds K fd ps [] ∧ FnOk P w K mg base CX0 L f fd ps (spD K g)
def preMet (nm m : Str) : PyData → Prop
  | .dict ((.none, .str x) :: fs) => x = nm ∧ lookF m fs = none
  | _ => False
def extFn (g : List PyData → Option PyData) : List PyData → (PyData → Prop) → Prop := fun ds Q => ∃ d, g ds = some d ∧ Q d
def subMet (m : Str) : Expr → Option (Expr × List Expr)
  | .Call (.Attribute o m' apos) es [] pos => if decide (m' = m) && noSuper o && (apos.endLine == pos.line) && es.all notStar && decide (es.length < 20) then some (o, es) else none
  | _ => none
theorem few_of {env : Env} {pos : Pos} {es : List Expr} (hs : es.all notStar = true) (hl : es.length < 20) : methodCallForm (es.length + ([] : List Keyword).length) (backTo pos (starEach es env)) (backToKw pos (keywordEach [] env)) = true := by
  rw [star_all hs]
  unfold methodCallForm
  have : ((backTo pos (es.map fun e => (false, eval e env))).all fun x => !x.1) = true := by
    clear hs hl
    induction es with
    | nil => rfl
    | cons e es ih => exact ih
  rw [this]
  show (true && true && decide (es.length + 0 + 0 < 30)) = true
  rw [Bool.and_self, Bool.true_and, decide_eq_true_eq]
  omega
theorem ns_any {env : Env} {pos : Pos} {es : List Expr} (hs : es.all notStar = true) : (backTo pos (starEach es env)).any (·.1) = false := by
  rw [star_all hs]
  clear hs
  induction es with
  | nil => rfl
  | cons e es ih => exact ih
theorem xr_met {X : Cx} {P : Program} {w : World} {K : PySem.W.Frag} {mg : Str → Option Value} {base : Heap} {L : Nat} {sc : Scope} {nm m : Str} {g : List PyData → Option PyData} {e e0 : Expr} {es : List Expr} (xc : XC X P w K mg base L sc) (c : MetAt P w K mg base L nm m g) (he : subMet m e = some (e0, es)) : XR X (preMet nm m) (extFn g) e e0 es := by
  obtain ⟨rfl, rfl, rfl, rfl, rfl, calm, room, sc'⟩ := xc
  obtain ⟨f, fd, ps, cl, mt, bd, F⟩ := c
  unfold subMet at he
  split at he
  · rename_i o m' apos es' pos
    split at he
    · rename_i hc
      cases he
      simp only [Bool.and_eq_true, decide_eq_true_eq] at hc
      obtain ⟨⟨⟨⟨rfl, hb⟩, hl⟩, hs⟩, hn⟩ := hc
      have ht := ht_of (X := X) (m := m') hb hl (few_of (env := X.env) (pos := pos) hs hn)
      refine ⟨fun Hb H σ Q h => ?_, .inl fun _ => rfl⟩
      have key : WE X e0 σ H fun x H1 => ∃ a dx fs, x = .ref a ∧ H1 a = some (.ins (He.ga X.K nm) dx fs) ∧ fs.lookup m' = none ∧ WN X es σ H1 fun vs H2 => spD X.K g (x :: (vs ++ [])) H2 Q E0 := by
        refine h _ fun Hb1 H1 v d g1 r pm pr => ?_
        unfold preMet at pm
        split at pm
        · rename_i x fs
          obtain ⟨rfl, e1⟩ := pm
          obtain ⟨a, dx, fs', rfl, h1, h2⟩ := Dp.ob_inv r
          refine ⟨a, dx, fs', rfl, g1.c _ _ h1, lookF_none h2 e1, ?_⟩
          refine pr _ fun Hb2 H2 vs ds P g2 r2 w q => ?_
          obtain ⟨d, e2, w⟩ := w
          exact ⟨Hb2, _, d, g2.c, .cons (dpr_mono g2.a r) (by rw [List.append_nil]; exact r2), e2, fun v Hb' H' g3 r3 => q d v Hb' H' w g3 r3⟩
        · exact pm.elim
      cases es with
      | nil => exact ⟨_, pe_meth0 (dvs := []) (pl := plainOf e0 X.env) pe_W cl mt F room bd .nil pass0 ht, key⟩
      | cons b es =>
        have hs' := hs
        rw [List.all_cons, Bool.and_eq_true] at hs'
        exact ⟨_, pe_meth (dvs := []) (pl := plainOf e0 X.env) pe_W cl mt F room bd .nil pass0 (pa_N hs) (notStar_eq hs'.1) (ns_any hs'.2) ht, key⟩
    · cases he
  · cases he
end Qd

set_option Elab.async false
set_option linter.all false
set_option maxRecDepth 100000
set_option maxHeartbeats 400000
namespace Qd
open PySem L2
/-! ### C(..) -/
def spMk (K : PySem.W.Frag) (nm : Str) (g : List PyData → Option PyData) : Sp := fun vs H Q _ => ∃ (Hb : Hp) (x dx : Addr) (vs' : List V) (ds : List PyData) (d : PyData), vs = .ref x :: vs' ∧ Ex Hb H ∧ Hb x = none ∧ Hb dx = none ∧ dx ≠ x ∧ H dx = some (.own x) ∧ H x = some (.ins (He.ga K nm) dx []) ∧ DpAll K Hb vs' ds ∧ g ds = some d ∧
  ∀ Hb' H', Ex Hb Hb' → Ex Hb' H' → (∀ b o, H b = some o → b ≠ x → H' b = some o) → (∀ q o, H q = some o → q ≠ x → q ≠ dx → Hb q = none → Hb' q = none) → Dp K Hb' (.ref x) d → Q .non H'
def MkAt (P : Program) (w : World) (K : PySem.W.Frag) (mg : Str → Option Value) (base : Heap) (L : Nat) (nm : Str) (g : List PyData → Option PyData) : Prop :=
  ∃ f fd ps, mg nm = some (.ref (He.ga K nm)) ∧ Mk K (He.ga K nm) f ∧ Binds K fd ps [] ∧ FnOk P w K mg base CX0 L f fd ps (spMk K nm g)
def subNew (nm : Str) (sc : Scope) : Expr → Option (Expr × List Expr)
  | .Call (.Name n _) (a :: es) [] _ => if decide (n = nm) && glB sc n && nameOk n && (a :: es).all notStar then some (a, es) else none
  | _ => none
theorem gl_sc {X : Cx} {sc : Scope} {x : Str} (e : X.env.scope = sc) (h : glB sc x = true) : Gl X x := by
  unfold glB at h
  split at h
  · show X.env.scope.names.lookup x = _
    rw [e]
    assumption
  · cases h
theorem xr_new {X : Cx} {P : Program} {w : World} {K : PySem.W.Frag} {mg : Str → Option Value} {base : Heap} {L L' : Nat} {sc : Scope} {nm : Str} {g : List PyData → Option PyData} {e e0 : Expr} {es : List Expr} (xc : XC X P w K mg base L sc) (c : MkAt P w K mg base L' nm g) (hL : L' + 1 ≤ L) (he : subNew nm sc e = some (e0, es)) : XR X preAny (extFn g) e e0 es := by
  obtain ⟨rfl, rfl, rfl, rfl, rfl, calm, room, sc'⟩ := xc
  obtain ⟨f, fd, ps, gm, mk, bd, F⟩ := c
  unfold subNew at he
  split at he
  · rename_i n np a es' pos
    split at he
    · rename_i hc
      cases he
      simp only [Bool.and_eq_true, decide_eq_true_eq] at hc
      obtain ⟨⟨⟨rfl, hg⟩, hn⟩, hs⟩ := hc
      have hs' := hs
      rw [List.all_cons, Bool.and_eq_true] at hs'
      refine ⟨fun Hb H σ Q h => ⟨_, pe_make (dvs := []) mk F (room.mono hL) (gl_sc sc' hg) gm bd .nil pass0 (pa_N hs) (nm1 hn) (notStar_eq hs'.1) (ns_any hs'.2), ?_⟩, .inl fun _ => rfl⟩
      refine h _ fun Hb1 H1 v d g1 r _ pr => pr _ fun Hb2 H2 vs ds P g2 r2 w q => ?_
      obtain ⟨d', e2, w⟩ := w
      intro x dx nx ndx ne
      have nbx : Hb2 x = none := none_of_ex g2.c nx
      have nbd : Hb2 dx = none := none_of_ex g2.c ndx
      have same : Same H2 (upd (upd H2 dx (.own x)) x (.ins (He.ga X.K n) dx [])) := fun b o z => by
        rw [upd_ne (ne_of_none z nx), upd_ne (ne_of_none z ndx)]
        exact z
      refine ⟨Hb2, x, dx, v :: vs, d :: ds, d', by rw [List.append_nil], g2.c.trans same, nbx, nbd, ne, by rw [upd_ne ne, upd_same], upd_same, .cons (dpr_mono g2.a r) r2, e2, fun Hb' H' e3 e4 fr nw r3 => ⟨rfl, ?_⟩⟩
      refine q d' _ Hb' H' w ⟨e3, fun b o z => fr b o (same b o z) (ne_of_none z nx), e4, fun p o z z2 => nw p o (same p o z) (ne_of_none z nx) (ne_of_none z ndx) z2⟩ r3
    · cases he
  · cases he
/-! ### keys -/
def lookD (ds : List (PyData × PyData)) (k : Key) : Option PyData := (ds.find? fun p => decide (dkey p.1 = some k)).map (·.2)
theorem dk_val {K : PySem.W.Frag} {H : Hp} (k : Key) : ∀ {kvs : List (Key × V)} {ds : List (PyData × PyData)}, DkAll K H kvs ds → (lookD ds k = none → valV kvs k = none) ∧ ∀ d, lookD ds k = some d → ∃ v, valV kvs k = some v ∧ Dp K H v d
  | _, _, .nil => ⟨fun _ => rfl, fun d h => by cases h⟩
  | _, _, .int (i := i) (v := v) (kvs := kvs) (d := d) (ds := ds) r t => by
    by_cases h : (Sum.inl i : Key) = k
    · have a1 : lookD ((.int i, d) :: ds) k = some d := by
        unfold lookD
        rw [List.find?_cons_of_pos (by exact decide_eq_true (congrArg some h))] <;> rfl
      rw [a1]
      exact ⟨fun z => (by cases z), fun d' z => by cases z; exact ⟨v, valV_pos (p := (Sum.inl i, v)) h, r⟩⟩
    · have a1 : lookD ((.int i, d) :: ds) k = lookD ds k := by
        unfold lookD
        rw [List.find?_cons_of_neg (by
          simp only [dkey, Option.some.injEq, decide_eq_true_eq]
          exact h)]
      rw [a1, valV_neg (p := (Sum.inl i, v)) h]
      exact dk_val k t
  | _, _, .str (i := i) (v := v) (kvs := kvs) (d := d) (ds := ds) r t => by
    by_cases h : (Sum.inr i : Key) = k
    · have a1 : lookD ((.str i, d) :: ds) k = some d := by
        unfold lookD
        rw [List.find?_cons_of_pos (by exact decide_eq_true (congrArg some h))] <;> rfl
      rw [a1]
      exact ⟨fun z => (by cases z), fun d' z => by cases z; exact ⟨v, valV_pos (p := (Sum.inr i, v)) h, r⟩⟩
    · have a1 : lookD ((.str i, d) :: ds) k = lookD ds k := by
        unfold lookD
        rw [List.find?_cons_of_neg (by
          simp only [dkey, Option.some.injEq, decide_eq_true_eq]
          exact h)]
      rw [a1, valV_neg (p := (Sum.inr i, v)) h]
      exact dk_val k t
def lookN (ds : List (PyData × PyData)) (k : PyData) : Option PyData := (ds.find? fun p => decide (nk p.1 = nk k)).map (·.2)
mutual
theorem nested_of {X : Cx} {pins : List (Addr × Obj)} {σ : L2.St} {H : Hp} {s : Shared} (I : Inv X pins σ H s) : ∀ (d : PyData) (v : V) (u : Value), nkIn d = true → Dp X.K H v d → RelV v u → NestedIs s.heap (nk d) u
  | .int i, v, u, _, r, ru => by
    cases Dp.int_inv r
    obtain ⟨t, rfl⟩ := ru
    rw [nk]
    exact .int i t
  | .tuple ds, v, u, h, r, ru => by
    rw [nkIn] at h
    rw [nk]
    obtain ⟨p, vs, rfl, h1, h2⟩ := Dp.tup_inv r
    obtain ⟨its, rv, ⟨o, ho, hc, n, hd⟩, _⟩ := I.tuple h1
    cases ru
    exact .tup ho hc hd (by simpa using nested_all I ds vs its h h2 rv)
  | .none, _, _, h, _, _ => by simp only [nkIn, Bool.false_eq_true] at h
  | .bool _, _, _, h, _, _ => by simp only [nkIn, Bool.false_eq_true] at h
  | .str _, _, _, h, _, _ => by simp only [nkIn, Bool.false_eq_true] at h
  | .list _, _, _, h, _, _ => by simp only [nkIn, Bool.false_eq_true] at h
  | .dict _, _, _, h, _, _ => by simp only [nkIn, Bool.false_eq_true] at h
theorem nested_all {X : Cx} {pins : List (Addr × Obj)} {σ : L2.St} {H : Hp} {s : Shared} (I : Inv X pins σ H s) : ∀ (ds : List PyData) (vs : List V) (us : List Value), nkIns ds = true → DpAll X.K H vs ds → Vals vs us → NestedAll s.heap (nks ds) us
  | [], vs, us, _, r, ru => by
    cases r
    cases ru
    rw [nks]
    exact .nil
  | d :: ds, vs, us, h, r, ru => by
    rw [nkIns, Bool.and_eq_true] at h
    cases r with
    | cons a b =>
      cases ru with
      | cons c e =>
        rw [nks]
        exact .cons (nested_of I d _ _ h.1 a c) (nested_all I ds _ _ h.2 b e)
end
theorem nkOk_in {d : PyData} (h : nkOk d = true) : nkIn d = true ∧ (nk d).depth ≤ 8 := by
  unfold nkOk at h
  simp only [Bool.and_eq_true, decide_eq_true_eq] at h
  exact ⟨h.1.1, h.2⟩
/-- the entries as the library tells them -/
theorem dn_entries {X : Cx} {pins : List (Addr × Obj)} {σ : L2.St} {H : Hp} {s : Shared} (I : Inv X pins σ H s) : ∀ {ents : List DictEntry} {ds : List (PyData × PyData)}, DnAll X.K H ents ds →
    ∃ xs : List (NestedKey × Addr × Value), ents = xs.map (entryOfKey (nestedKind X.prog X.w)) ∧ xs.map (·.1) = ds.map (fun p => nk p.1) ∧ (∀ x ∈ xs, (nestedKind X.prog X.w).is s.heap x.1 x.2.1) ∧ Paired (fun (x : NestedKey × Addr × Value) (p : PyData × PyData) => ∃ v, RelV v x.2.2 ∧ Dp X.K H v p.2) xs ds
  | _, _, .nil => ⟨[], rfl, rfl, fun x h => by simp at h, .nil⟩
  | _, _, .cons (e := e) (b := b) (v := v) (k := k) (d := d) e1 r1 hk hh rv r2 t => by
    obtain ⟨xs, p1, p2, p3, p4⟩ := dn_entries I t
    obtain ⟨hi, hd⟩ := nkOk_in hk
    refine ⟨(nk k, b, e.val) :: xs, ?_, by rw [List.map_cons, List.map_cons, p2], fun x hx => ?_, .cons ⟨v, rv, r2⟩ p4⟩
    · rw [List.map_cons, p1]
      have : e = entryOfKey (nestedKind X.prog X.w) (nk k, b, e.val) := by
        obtain ⟨h1, h2, h3⟩ := e
        have e1 : h2 = .ref b := e1
        have hh : h1 = hashN k := hh
        show DictEntry.mk h1 h2 h3 = ⟨(nk k).hash X.w, .ref b, h3⟩
        rw [hash_nk X.w k hi, e1, hh]
      rw [this] <;> rfl
    · rcases List.mem_cons.mp hx with rfl | hx
      · exact ⟨nested_of I k _ _ hi r1 rfl, hd⟩
      · exact p3 x hx
theorem atKey_look {α : Type} {F : α → (PyData × PyData) → Prop} (k : PyData) : ∀ {xs : List (NestedKey × Addr × Value)} {ds : List (PyData × PyData)}, xs.map (·.1) = ds.map (fun p => nk p.1) → (atKey xs (nk k)).isSome = (lookN ds k).isSome
  | [], [], _ => rfl
  | [], _ :: _, h => by cases h
  | _ :: _, [], h => by cases h
  | x :: xs, p :: ds, h => by
    rw [List.map_cons, List.map_cons] at h
    obtain ⟨h1, h2⟩ := List.cons.inj h
    have ih := atKey_look (F := F) k h2
    unfold atKey lookN at ih ⊢
    rw [Option.isSome_map, Option.isSome_map] at ih ⊢
    rw [List.find?_cons, List.find?_cons, h1]
    by_cases q : nk p.1 = nk k
    · rw [decide_eq_true q]
      rfl
    · rw [decide_eq_false q]
      exact ih
/-! ### in -/
def rInX (K : PySem.W.Frag) : R2 := fun x y H Q => (∃ a o, y = .ref a ∧ DGet H a x o ∧ Q (.bl o.isSome) H) ∨
  ∃ b a ents ds k, x = .ref b ∧ y = .ref a ∧ H a = some (DnO a ents) ∧ DnAll K H ents ds ∧ (ds.map fun p => nk p.1).Nodup ∧ Dp K H (.ref b) k ∧ nkOk k = true ∧ Q (.bl (lookN ds k).isSome) H
theorem op_inX {X : Cx} (hu : X.A.units + 65 < cLine) : OpR X (compareOp .In) (rInX X.K) := by
  intro pins s σ H x y v u Q I rx ry h
  rcases h with ⟨a, o, rfl, g, q⟩ | ⟨b, a, ents, ds, k, rfl, rfl, ha, hd, hn, hb, hk, q⟩
  · cases ry
    exact d_in (by omega) I g rx fun s' I' => ⟨.bl _, H, I', rfl, q⟩
  · cases rx
    cases ry
    obtain ⟨⟨lo, _, oo, ep, es, e1, e2, e3, e4⟩, _, _⟩ := I.hok a _ ha
    obtain ⟨xs, p1, p2, p3, p4⟩ := dn_entries I hd
    obtain ⟨hi, hdp⟩ := nkOk_in hk
    refine wpAny_in_heap (knd := nestedKind X.prog X.w) (k := nk k) (xs := xs) (by show X.A.units + 1 + 8 < cLine; omega) ⟨nested_of I k _ _ hi hb rfl, hdp⟩ lo ⟨oo, es, ep, e1, e2, e3, by rw [e4, p1], p3, by rw [p2]; exact hn⟩ ?_
    rw [atKey_look (F := fun _ _ => True) (α := Unit) k p2]
    exact ⟨.bl _, H, I.tok _, rfl, q⟩
def extIn : List PyData → (PyData → Prop) → Prop
  | [k, .dict ((.none, .int t) :: ds)], Q => (t = 0 ∧ ∃ kk, dkey k = some kk ∧ Q (.bool (lookD ds kk).isSome)) ∨ (t = 2 ∧ nkOk k = true ∧ Q (.bool (lookN ds k).isSome))
  | _, _ => False
def subIn : Expr → Option (Expr × List Expr)
  | .Compare a [op] [b] _ => if isCo op .In && !behindInMarks .In b then some (a, [b]) else none
  | _ => none
theorem Dp.dk_inv {K : PySem.W.Frag} {H : Hp} {v : V} {ds : List (PyData × PyData)} (h : Dp K H v (.dict ((.none, .int 0) :: ds))) : ∃ a kvs, v = .ref a ∧ Rd H a (.dK kvs) ∧ DkAll K H kvs ds := by
  cases h with
  | dk a b => exact ⟨_, _, rfl, a, b⟩
theorem Dp.dn_inv {K : PySem.W.Frag} {H : Hp} {v : V} {ds : List (PyData × PyData)} (h : Dp K H v (.dict ((.none, .int 2) :: ds))) : ∃ a ents, v = .ref a ∧ H a = some (DnO a ents) ∧ DnAll K H ents ds ∧ (ds.map fun p => nk p.1).Nodup := by
  cases h with
  | dn a b c => exact ⟨_, _, rfl, a, b, c⟩
theorem nkOk_tup {k : PyData} (hk : nkOk k = true) : ∃ ts, k = .tuple ts := by
  unfold nkOk at hk
  simp only [Bool.and_eq_true] at hk
  have := hk.1.2
  split at this
  · exact ⟨_, rfl⟩
  · cases this
theorem extIn_inv {d e : PyData} {P : PyData → Prop} (w : extIn [d, e] P) : ∃ ds, (e = .dict ((.none, .int 0) :: ds) ∧ ∃ kk, dkey d = some kk ∧ P (.bool (lookD ds kk).isSome)) ∨ (e = .dict ((.none, .int 2) :: ds) ∧ nkOk d = true ∧ P (.bool (lookN ds d).isSome)) := by
  unfold extIn at w
  split at w
  · rename_i k t ds Q' e'
    cases e'
    rcases w with ⟨rfl, w⟩ | ⟨rfl, w⟩
    · exact ⟨_, .inl ⟨rfl, w⟩⟩
    · exact ⟨_, .inr ⟨rfl, w⟩⟩
  · exact w.elim
theorem extIn_two {d : PyData} {ds : List PyData} {P : PyData → Prop} (w : extIn (d :: ds) P) : ∃ e, ds = [e] := by
  unfold extIn at w
  split at w
  · rename_i e'
    cases e'
    exact ⟨_, rfl⟩
  · exact w.elim
theorem in_x {K : PySem.W.Frag} {Hb H : Hp} {v u : V} {d e : PyData} {P : PyData → Prop} {Q : VK} (ex : Ex Hb H) (r1 : Dp K Hb v d) (r2 : Dp K Hb u e) (w : extIn [d, e] P) (q : ∀ b, P (.bool b) → Q (.bl b) H) : rInX K v u H Q := by
  obtain ⟨ds, ⟨rfl, kk, hk, w⟩ | ⟨rfl, hk, w⟩⟩ := extIn_inv w
  · obtain ⟨a, kvs, rfl, h1, h2⟩ := Dp.dk_inv r2
    have hv := dkey_dp r1 hk
    subst hv
    refine .inl ⟨a, valV kvs kk, rfl, .inl ⟨kvs, kk, rd_mono ex h1, rfl, rfl⟩, ?_⟩
    have hs : (valV kvs kk).isSome = (lookD ds kk).isSome := by
      obtain ⟨z1, z2⟩ := dk_val kk h2
      cases ql : lookD ds kk with
      | none => rw [z1 ql] <;> rfl
      | some d =>
        obtain ⟨v, e1, _⟩ := z2 d ql
        rw [e1] <;> rfl
    rw [hs]
    exact q _ w
  · obtain ⟨a, ents, rfl, h1, h2, h3⟩ := Dp.dn_inv r2
    obtain ⟨ts, rfl⟩ := nkOk_tup hk
    obtain ⟨b, xs, rfl, h4, h5⟩ := Dp.tup_inv r1
    exact .inr ⟨b, a, ents, ds, .tuple ts, rfl, rfl, ex _ _ h1, dn_mono ex h2, h3, dpr_mono ex (.tup h4 h5), hk, q _ w⟩
theorem xr_in {X : Cx} {P : Program} {w : World} {K : PySem.W.Frag} {mg : Str → Option Value} {base : Heap} {L : Nat} {sc : Scope} {e e0 : Expr} {es : List Expr} (xc : XC X P w K mg base L sc) (he : subIn e = some (e0, es)) : XR X preAny extIn e e0 es := by
  have hu : X.A.units + 65 < cLine := by
    have := xc.room.un
    omega
  unfold subIn at he
  split at he
  · rename_i a op b pos
    split at he
    · rename_i hc
      cases he
      rw [Bool.and_eq_true] at hc
      obtain ⟨h1, h2⟩ := hc
      cases isCo_eq h1
      refine ⟨fun Hb H σ Q h => ⟨_, pe_cmpR (op_inX hu) pe_W pe_W (not_t h2), ?_⟩, .inr fun Hb H σ Q h => ⟨_, pt_cmpR (op_inX hu) pe_W pe_W (not_t h2), ?_⟩⟩
      · refine h _ fun Hb1 H1 v d g1 r _ pr => ?_
        exact r1 pr (S := fun u H2 => rInX X.K v u H2 Q) (fun Hb2 H2 u e P g r2 w q => in_x g.c (dpr_mono g.a r) r2 w fun b z => q _ _ Hb2 H2 z (Gr.refl g.c) (.bl b)) fun ds P w => extIn_two w
      · refine h _ fun Hb1 H1 v d g1 r _ pr => ?_
        exact r1t pr (S := fun u H2 => rInX X.K v u H2 fun x H' => ∃ k, x = .bl k ∧ Q k H') (fun Hb2 H2 u e P g r2 w q => in_x (P := fun d => wBool d P) g.c (dpr_mono g.a r) r2 w fun b z => ⟨b, rfl, q b Hb2 H2 z (Gr.refl g.c)⟩) fun ds P w => extIn_two w
    · cases he
  · cases he
end Qd

set_option Elab.async false
set_option linter.all false
set_option maxRecDepth 100000
set_option maxHeartbeats 400000
namespace Qd
open PySem L2
/-! ### dict(pairs), int and text keys -/
def pairsK : List PyData → Option (List (PyData × PyData))
  | [] => some []
  | .tuple [k, v] :: r => if (dkey k).isSome = true then (pairsK r).map ((k, v) :: ·) else none
  | _ :: _ => none
def mergeD (ds more : List (PyData × PyData)) : List (PyData × PyData) := more.foldl (fun acc p => putD acc p.1 p.2) ds
theorem dk_merge {K : PySem.W.Frag} {H : Hp} : ∀ {more : List (Key × V)} {dm : List (PyData × PyData)}, DkAll K H more dm → ∀ {kvs : List (Key × V)} {ds : List (PyData × PyData)}, DkAll K H kvs ds → DkAll K H (mergeK kvs more) (mergeD ds dm)
  | _, _, .nil, _, _, t => t
  | _, _, .int (i := i) r t', _, _, t => dk_merge t' (dk_put (k := .int i) (kk := .inl i) rfl r t)
  | _, _, .str (i := i) r t', _, _, t => dk_merge t' (dk_put (k := .str i) (kk := .inr i) rfl r t)
/-- the rows of a list of pairs -/
theorem rowsK {K : PySem.W.Frag} {H : Hp} : ∀ {prs : List PyData} {kds : List (PyData × PyData)} {xs : List V}, pairsK prs = some kds → DpAll K H xs prs →
    ∃ (ps : List Addr) (kvs : List (Key × V)), xs = ps.map V.ref ∧ Paired (fun p kv => SqT K H p [kV kv.1, kv.2]) ps kvs ∧ DkAll K H kvs kds
  | [], kds, xs, h, r => by
    cases h
    cases r
    exact ⟨[], [], rfl, .nil, .nil⟩
  | d :: prs, kds, xs, h, r => by
    unfold pairsK at h
    split at h
    · rename_i h' 
      cases h'
    · rename_i k v rr h'
      cases h'
      split at h
      · rename_i hk
        obtain ⟨kds', h1, h2⟩ := Option.map_eq_some_iff.mp h
        subst h2
        cases r with
        | cons a t =>
          obtain ⟨ps, kvs, e1, e2, e3⟩ := rowsK h1 t
          obtain ⟨p, vs, rfl, q1, q2⟩ := Dp.tup_inv a
          obtain ⟨u, w, rfl, u1, w1⟩ := dpa2 q2
          obtain ⟨kk, ek⟩ := Option.isSome_iff_exists.mp hk
          have := dkey_dp u1 ek
          subst this
          refine ⟨p :: ps, (kk, w) :: kvs, by rw [e1] <;> rfl, .cons q1 e2, ?_⟩
          unfold dkey at ek
          split at ek
          · cases ek
            exact .int w1 e3
          · cases ek
            exact .str w1 e3
          · cases ek
      · cases h
    · cases h
theorem call_frz {X : Cx} {f : Value} {r : List V → Hp → VK → Prop} (h : CallR X f r) : CallR X f (fun xs H Q => r xs H fun v H1 => ∃ p u, v = .ref p ∧ H1 p = some u ∧ Mut (some u) ∧ ∀ od, Q v (upd H1 p (.frz od u))) := by
  intro pins s σ H xs us Q I rs q
  refine thn (h pins s σ H xs us _ I rs q) fun v s1 ⟨x, H1, I1, rx, p, u, e1, e2, e3, q1⟩ => ?_
  obtain ⟨od, I2⟩ := I1.lock e2 e3
  exact ⟨x, _, I2, rx, q1 od⟩
/-! ### dict(pairs), keys that are tuples -/
def pairsN : List PyData → Option (List (PyData × PyData))
  | [] => some []
  | .tuple [k, v] :: r => if nkOk k = true then (pairsN r).map ((k, v) :: ·) else none
  | _ :: _ => none
def putN (ds : List (PyData × PyData)) (k v : PyData) : List (PyData × PyData) :=
  if (ds.any fun p => decide (nk p.1 = nk k)) = true then ds.map (fun p => if nk p.1 = nk k then (p.1, v) else p) else ds ++ [(k, v)]
def mergeN (ds more : List (PyData × PyData)) : List (PyData × PyData) := more.foldl (fun acc p => putN acc p.1 p.2) ds
def RelN (K : PySem.W.Frag) (H : Hp) (x : NestedKey × Addr × Value) (p : PyData × PyData) : Prop := x.1 = nk p.1 ∧ Dp K H (.ref x.2.1) p.1 ∧ nkOk p.1 = true ∧ ∃ v, RelV v x.2.2 ∧ Dp K H v p.2
theorem rn_any {K : PySem.W.Frag} {H : Hp} (k : NestedKey) : ∀ {xs : List (NestedKey × Addr × Value)} {ds : List (PyData × PyData)}, Paired (RelN K H) xs ds → (xs.any fun x => decide (x.1 = k)) = ds.any fun p => decide (nk p.1 = k)
  | _, _, .nil => rfl
  | _, _, .cons r t => by rw [List.any_cons, List.any_cons, rn_any k t, r.1]
theorem rn_app {K : PySem.W.Frag} {H : Hp} {x : NestedKey × Addr × Value} {p : PyData × PyData} (r : RelN K H x p) : ∀ {xs : List (NestedKey × Addr × Value)} {ds : List (PyData × PyData)}, Paired (RelN K H) xs ds → Paired (RelN K H) (xs ++ [x]) (ds ++ [p])
  | _, _, .nil => .cons r .nil
  | _, _, .cons q t => .cons q (rn_app r t)
theorem rn_map {K : PySem.W.Frag} {H : Hp} {k : PyData} {u : Value} {v : V} {d : PyData} (rv : RelV v u) (rd : Dp K H v d) : ∀ {xs : List (NestedKey × Addr × Value)} {ds : List (PyData × PyData)}, Paired (RelN K H) xs ds → Paired (RelN K H) (xs.map (putAt (nk k) u)) (ds.map fun p => if nk p.1 = nk k then (p.1, d) else p)
  | _, _, .nil => .nil
  | _, _, .cons (a := x) (b := p) r t => by
    rw [List.map_cons, List.map_cons]
    refine .cons ?_ (rn_map rv rd t)
    unfold putAt
    by_cases h : nk p.1 = nk k
    · rw [if_pos (by rw [r.1]; exact h), if_pos h]
      exact ⟨r.1, r.2.1, r.2.2.1, v, rv, rd⟩
    · rw [if_neg (by rw [r.1]; exact h), if_neg h]
      exact r
theorem rn_put {K : PySem.W.Frag} {H : Hp} {x : NestedKey × Addr × Value} {p : PyData × PyData} (r : RelN K H x p) {xs : List (NestedKey × Addr × Value)} {ds : List (PyData × PyData)} (t : Paired (RelN K H) xs ds) : Paired (RelN K H) (storedH xs x.1 x.2.1 x.2.2) (putN ds p.1 p.2) := by
  have ha : ((atKey xs x.1).isSome = true) = ((ds.any fun q => decide (nk q.1 = nk p.1)) = true) := by
    rw [← r.1, ← rn_any x.1 t, atKey, Option.isSome_map, List.isSome_find?]
  unfold storedH putN
  by_cases h : (ds.any fun q => decide (nk q.1 = nk p.1)) = true
  · rw [if_pos h, if_pos (by rw [ha]; exact h), r.1]
    obtain ⟨v, rv, rd⟩ := r.2.2.2
    exact rn_map rv rd t
  · rw [if_neg h, if_neg (by rw [ha]; exact h)]
    exact rn_app r t
theorem rn_merge {K : PySem.W.Frag} {H : Hp} : ∀ {ps : List (NestedKey × Addr × Value)} {dm : List (PyData × PyData)}, Paired (RelN K H) ps dm → ∀ {xs : List (NestedKey × Addr × Value)} {ds : List (PyData × PyData)}, Paired (RelN K H) xs ds → Paired (RelN K H) (storedAllH xs ps) (mergeN ds dm)
  | _, _, .nil, _, _, t => t
  | _, _, .cons r t', _, _, t => rn_merge t' (rn_put r t)
theorem rn_mono {K : PySem.W.Frag} {H H' : Hp} (e : Ex H H') {xs : List (NestedKey × Addr × Value)} {ds : List (PyData × PyData)} (t : Paired (RelN K H) xs ds) : Paired (RelN K H') xs ds := by
  induction t with
  | nil => exact .nil
  | cons r t ih =>
    obtain ⟨a, b, c, v, d1, d2⟩ := r
    exact .cons ⟨a, dpr_mono e b, c, v, d1, dpr_mono e d2⟩ ih
theorem dn_of {P : Program} {w : World} {K : PySem.W.Frag} {H : Hp} {xs : List (NestedKey × Addr × Value)} {ds : List (PyData × PyData)} (t : Paired (RelN K H) xs ds) : DnAll K H (xs.map (entryOfKey (nestedKind P w))) ds := by
  induction t with
  | nil => exact .nil
  | cons r t ih =>
    rename_i x p xs ds
    obtain ⟨a, b, c, v, d1, d2⟩ := r
    refine .cons rfl b c ?_ d1 d2 ih
    show (x.1).hash w = _
    rw [a, hash_nk w p.1 (nkOk_in c).1]
theorem rn_keys {K : PySem.W.Frag} {H : Hp} {xs : List (NestedKey × Addr × Value)} {ds : List (PyData × PyData)} (t : Paired (RelN K H) xs ds) : xs.map (·.1) = ds.map fun p => nk p.1 := by
  induction t with
  | nil => rfl
  | cons r t ih => rw [List.map_cons, List.map_cons, ih, r.1]
theorem rn_len {K : PySem.W.Frag} {H : Hp} {xs : List (NestedKey × Addr × Value)} {ds : List (PyData × PyData)} (t : Paired (RelN K H) xs ds) : xs.length = ds.length := by
  induction t with
  | nil => rfl
  | cons r t ih => rw [List.length_cons, List.length_cons, ih]
theorem rn_is {X : Cx} {pins : List (Addr × Obj)} {σ : L2.St} {H : Hp} {s : Shared} (I : Inv X pins σ H s) {xs : List (NestedKey × Addr × Value)} {ds : List (PyData × PyData)} (t : Paired (RelN X.K H) xs ds) : ∀ x ∈ xs, (nestedKind X.prog X.w).is s.heap x.1 x.2.1 := by
  induction t with
  | nil => exact fun x h => nomatch h
  | cons r t ih =>
    intro x hx
    rcases List.mem_cons.mp hx with rfl | hx
    · obtain ⟨a, b, c, _⟩ := r
      obtain ⟨hi, hd⟩ := nkOk_in c
      rw [a]
      exact ⟨nested_of I _ _ _ hi b rfl, hd⟩
    · exact ih x hx
/-- the rows of a list of pairs (tuple of ints, value) -/
theorem rowsN {X : Cx} {pins : List (Addr × Obj)} {σ : L2.St} {Hb H : Hp} {s : Shared} (ex : Ex Hb H) (I : Inv X pins σ H s) : ∀ {prs : List PyData} {kds : List (PyData × PyData)} {xs : List V}, pairsN prs = some kds → DpAll X.K Hb xs prs →
    ∃ (ps : List Addr) (ys : List (NestedKey × Addr × Value)), xs = ps.map V.ref ∧ ys.length = ps.length ∧ Paired (RelN X.K Hb) ys kds ∧ ∀ (j : Nat) (y : NestedKey × Addr × Value), ys[j]? = some y → ∃ b, ps[j]? = some b ∧ PyProof.Rows.IsTup s.heap b #[.ref y.2.1, y.2.2]
  | [], kds, xs, h, r => by
    cases h
    cases r
    exact ⟨[], [], rfl, rfl, .nil, fun j y e => by simp at e⟩
  | d :: prs, kds, xs, h, r => by
    unfold pairsN at h
    split at h
    · rename_i h'
      cases h'
    · rename_i k v rr h'
      cases h'
      split at h
      · rename_i hk
        obtain ⟨kds', h1, h2⟩ := Option.map_eq_some_iff.mp h
        subst h2
        cases r with
        | cons a t =>
          obtain ⟨ps, ys, e1, e2, e3, e4⟩ := rowsN ex I h1 t
          obtain ⟨p, vs, rfl, q1, q2⟩ := Dp.tup_inv a
          obtain ⟨u, w, rfl, u1, w1⟩ := dpa2 q2
          obtain ⟨ts, rfl⟩ := nkOk_tup hk
          obtain ⟨b, bs, rfl, b1, b2⟩ := Dp.tup_inv u1
          obtain ⟨its, rv, ht, _⟩ := I.tuple (sqt_mono ex q1)
          obtain ⟨u', w', rfl, ru, rw'⟩ := vals2 rv
          cases ru
          refine ⟨p :: ps, (nk (.tuple ts), b, w') :: ys, by rw [e1] <;> rfl, by rw [List.length_cons, List.length_cons, e2], .cons ⟨rfl, .tup b1 b2, hk, w, rw', w1⟩ e3, fun j y e => ?_⟩
          cases j with
          | zero =>
            have e' : (nk (.tuple ts), b, w') = y := Option.some.inj e
            subst e'
            exact ⟨p, rfl, ht⟩
          | succ j =>
            obtain ⟨c, c1, c2⟩ := e4 j y (by simpa using e)
            exact ⟨c, by simpa using c1, c2⟩
      · cases h
    · cases h
theorem call_dictN {X : Cx} (hcalm : X.calm = true) (hu : X.A.units + 80 < cLine) : CallR X (.type "dict") (fun xs H Q => ∃ (Hb : Hp) (a : Addr) (vs : List V) (prs : List PyData) (kds : List (PyData × PyData)), Ex Hb H ∧ xs = [.ref a] ∧ SqL X.K H a vs ∧ DpAll X.K Hb vs prs ∧ pairsN prs = some kds ∧
    ∀ p ents, H p = none → DnAll X.K Hb ents (mergeN [] kds) → ((mergeN [] kds).map fun p => nk p.1).Nodup → Q (.ref p) (upd H p (DnO p ents))) := by
  intro pins s σ H xs us Q I r q
  obtain ⟨Hb, a, vs, prs, kds, exx, ex, hq, hd, hp, q⟩ := q
  subst ex
  obtain ⟨u, eu, rx⟩ := vals1 r
  subst eu
  cases rx
  obtain ⟨its, rv, pl, hz⟩ := I.list hq
  obtain ⟨ps, ys, rfl, e2, e3, e4⟩ := rowsN exx I hp hd
  have ei := refs_at rv
  subst ei
  rw [List.length_map] at hz
  obtain ⟨o, n, ho, hc, hdd, hdat⟩ := pl
  have P := PairArg.list (prog := X.prog) (w := X.w) a (ps.map Value.ref).toArray (fun j => (ps[j]?).getD 0) (ys.map fun y => (.ref y.2.1, y.2.2))
  have his := rn_is I (rn_mono exx e3)
  refine call_dict_pairsH (knd := nestedKind X.prog X.w) (ps := ys) P (I.ok.hd hcalm) ?_ ⟨⟨o, n, ho, hc, hdd, hdat⟩, by simp [e2], fun j k v e => ?_⟩ ⟨by simp, fun i key v e => ?_⟩ (fun h' hk x hx => ?_) (by simpa [e2] using hz) fun h' tk hd' hk => ?_
  · show X.A.units + 1 + 1 + 8 < cLine
    omega
  · rw [List.getElem?_map] at e
    obtain ⟨y, e5, e6⟩ := Option.map_eq_some_iff.mp e
    cases e6
    obtain ⟨b, b1, b2⟩ := e4 j y e5
    refine ⟨by simp [b1], ?_⟩
    show PairAt s.heap ((ps[j]?).getD 0) _ _
    rw [b1]
    exact .inl b2
  · rw [PairRel, List.getElem?_map] at e
    obtain ⟨y, e5, e6⟩ := Option.map_eq_some_iff.mp e
    cases e6
    exact ⟨y.1, y.2.1, e5, rfl⟩
  · exact nestedKind_stays.stays (fun b o _ _ e _ => hk b o (Nat.ne_of_lt (Heap.lt_size e)) (fun z => nomatch z) e) (his x hx)
  · have hm : (s.heap.objs.size == sysModules) = false := beq_eq_false_iff_ne.mpr (Nat.ne_of_gt I.big)
    have pr := rn_merge e3 (xs := []) (ds := []) .nil
    obtain ⟨oo, es, ep, h1, h2, h3, h4, h5, h6⟩ := hd'
    have nh : H s.heap.objs.size = none := I.hok.fresh (Nat.le_refl _)
    have hlen : ((storedAllH [] ys).map (entryOfKey (nestedKind X.prog X.w))).length ≤ sizeLine := by
      rw [List.length_map]
      refine Nat.le_trans (storedAllH_length ys []) ?_
      rw [List.length_nil, Nat.zero_add, e2]
      exact hz
    refine ⟨.ref s.heap.objs.size, upd H s.heap.objs.size (DnO s.heap.objs.size ((storedAllH [] ys).map (entryOfKey (nestedKind X.prog X.w)))), I.laid (t' := tk) (fun b u e => hk b u (fun z => nomatch z) e) (Nat.le_refl _) ?_, rfl, q _ _ nh ?_ ?_⟩
    · refine ⟨⟨hm, hlen, oo, ep, es, h1, h2, h3, h4⟩, ⟨_, h1⟩, fun g1 g2 f1 k => ?_⟩
      obtain ⟨x1, x2, o', ep', es', y1, y2, y3, y4⟩ := f1
      exact ⟨x1, x2, o', ep', es', k _ y1, y2, y3, y4⟩
    · exact dn_of pr
    · rw [← rn_keys pr]
      exact h6
theorem call_or {X : Cx} {f : Value} {r r' : List V → Hp → VK → Prop} (h : CallR X f r) (h' : CallR X f r') : CallR X f (fun xs H Q => r xs H Q ∨ r' xs H Q) := by
  intro pins s σ H xs us Q I rs q
  rcases q with q | q
  · exact h pins s σ H xs us Q I rs q
  · exact h' pins s σ H xs us Q I rs q
def rDict (K : PySem.W.Frag) : List V → Hp → VK → Prop := fun xs H Q =>
  (∃ (a : Addr) (ps : List Addr) (kvs : List (Key × V)), xs = [.ref a] ∧ SqL K H a (ps.map V.ref) ∧ Paired (fun p kv => SqT K H p [kV kv.1, kv.2]) ps kvs ∧
    ∀ p, H p = none → ∃ p' u, V.ref p = .ref p' ∧ upd H p (.dK (mergeK [] kvs)) p' = some u ∧ Mut (some u) ∧ ∀ od, Q (.ref p) (upd (upd H p (.dK (mergeK [] kvs))) p' (.frz od u))) ∨
  (∃ (Hb : Hp) (a : Addr) (vs : List V) (prs : List PyData) (kds : List (PyData × PyData)), Ex Hb H ∧ xs = [.ref a] ∧ SqL K H a vs ∧ DpAll K Hb vs prs ∧ pairsN prs = some kds ∧
    ∀ p ents, H p = none → DnAll K Hb ents (mergeN [] kds) → ((mergeN [] kds).map fun p => nk p.1).Nodup → Q (.ref p) (upd H p (DnO p ents)))
def extDict : List PyData → (PyData → Prop) → Prop
  | [.list prs], Q => (∃ kds, pairsK prs = some kds ∧ Q (.dict ((.none, .int 0) :: mergeD [] kds))) ∨ (∃ kds, pairsN prs = some kds ∧ Q (.dict ((.none, .int 2) :: mergeN [] kds)))
  | _, _ => False
def subDict (sc : Scope) : Expr → Option (Expr × List Expr)
  | .Call (.Name n _) [a] [] _ => if decide (n = ("dict" : Str)) && glB sc n && notStar a then some (a, []) else none
  | _ => none
theorem extDict_inv {d : PyData} {P : PyData → Prop} (w : extDict [d] P) : ∃ prs, d = .list prs ∧ ((∃ kds, pairsK prs = some kds ∧ P (.dict ((.none, .int 0) :: mergeD [] kds))) ∨ (∃ kds, pairsN prs = some kds ∧ P (.dict ((.none, .int 2) :: mergeN [] kds)))) := by
  unfold extDict at w
  split at w
  · rename_i prs Q' e'
    cases e'
    exact ⟨_, rfl, w⟩
  · exact w.elim
theorem extDict_one {d : PyData} {ds : List PyData} {P : PyData → Prop} (w : extDict (d :: ds) P) : ds = [] := by
  unfold extDict at w
  split at w
  · rename_i e'
    cases e'
    rfl
  · exact w.elim
theorem xr_dict {X : Cx} {P : Program} {w : World} {K : PySem.W.Frag} {mg : Str → Option Value} {base : Heap} {L : Nat} {sc : Scope} {e e0 : Expr} {es : List Expr} (xc : XC X P w K mg base L sc) (hm : mg ("dict" : Str) = none) (he : subDict sc e = some (e0, es)) : XR X preAny extDict e e0 es := by
  have hu : X.A.units + 80 < cLine := by
    have := xc.room.un
    omega
  obtain ⟨rfl, rfl, rfl, rfl, rfl, calm, room, sc'⟩ := xc
  unfold subDict at he
  split at he
  · rename_i n np a pos
    split at he
    · rename_i hc
      cases he
      simp only [Bool.and_eq_true, decide_eq_true_eq] at hc
      obtain ⟨⟨rfl, hg⟩, hs⟩ := hc
      refine ⟨fun Hb H σ Q h => ⟨_, pe_callTy (r := rDict X.K) (call_or (call_frz (call_dictP calm)) (call_dictN calm hu)) (gl_sc sc' hg) hm rfl (pa_N (es := [_]) (by rw [List.all_cons, hs] <;> rfl)) (he := notStar_eq hs), ?_⟩, .inl fun _ => rfl⟩
      refine h _ fun Hb1 H1 v d g1 r _ pr => ?_
      refine r0 pr (S := fun H2 => rDict X.K [v] H2 Q) (fun Hb2 H2 P g w q => ?_) fun ds P w => extDict_one w
      obtain ⟨prs, rfl, ⟨kds, hk, w⟩ | ⟨kds, hk, w⟩⟩ := extDict_inv w
      · obtain ⟨b, xs, rfl, h1, h2⟩ := Dp.lst_inv (dpr_mono g.a r)
        obtain ⟨ps, kvs, rfl, k1, k2⟩ := rowsK hk h2
        refine .inl ⟨b, ps, kvs, rfl, sql_mono g.c h1, Paired.mapP k1 fun p kv z => sqt_mono g.c z, fun p np => ⟨p, _, rfl, upd_same, trivial, fun od => ?_⟩⟩
        rw [upd_upd]
        have gn := Gr.new g.c np (.frz od (.dK (mergeK [] kvs)))
        exact q _ _ (upd Hb2 p (.frz od (.dK (mergeK [] kvs)))) _ w gn (.dk (.inr ⟨_, upd_same⟩) (dk_mono gn.a (dk_merge k2 .nil)))
      · obtain ⟨b, xs, rfl, h1, h2⟩ := Dp.lst_inv (dpr_mono g.a r)
        refine .inr ⟨Hb2, b, xs, prs, kds, g.c, rfl, sql_mono g.c h1, h2, hk, fun p ents np dn nd => ?_⟩
        have gn := Gr.new g.c np (DnO p ents)
        exact q _ _ (upd Hb2 p (DnO p ents)) _ w gn (.dn upd_same (dn_mono gn.a dn) nd)
    · cases he
  · cases he
end Qd

set_option Elab.async false
set_option linter.all false
set_option maxRecDepth 100000
set_option maxHeartbeats 4000000
/-! an evaluator of the terms: what it gives, the calculus proves -/
namespace Qd
open PySem L2
instance (i j : Int) : Decidable (CMul i j) := by unfold CMul; exact inferInstance
instance (i j : Int) : Decidable (CDiv i j) := by unfold CDiv; exact inferInstance
instance (i j : Int) : Decidable (CPow i j) := by unfold CPow; exact inferInstance
structure FG where
  con : Nat → Option PyData := fun _ => none
  isFn : Nat → Bool := fun _ => false
  fn : Nat → List PyData → Option PyData := fun _ _ => none
  isTab : Nat → Bool := fun _ => false
  tab : Nat → PyData → Option PyData := fun _ _ => none
  tk : Nat → PyData := fun _ => .none
  xp : Nat → PyData → Bool := fun _ _ => true
  xf : Nat → List PyData → Option PyData := fun _ _ => none
def FG.ga (F : FG) : Ga := ⟨F.con, F.isFn, F.fn, F.isTab, F.tab, fun k d => F.xp k d = true, fun k ds Q => ∃ d, F.xf k ds = some d ∧ Q d⟩
def e_bin (o : BO) (x y : PyData) : Option PyData := match x, y with
  | .int i, .int j => match o with
    | .add => some (.int (i + j))
    | .sub => some (.int (i - j))
    | .mul => if CMul i j then some (.int (i * j)) else none
    | .div => if CDiv i j then some (.int (i / j)) else none
    | .mod => if 0 < j then some (.int (i % j)) else none
    | .pow => if CPow i j then some (.int (i ^ j.toNat)) else none
  | _, _ => none
theorem e_bin_ok {o : BO} {x y d : PyData} {Q : PyData → Prop} (h : e_bin o x y = some d) (q : Q d) : wBin o x y Q := by
  unfold e_bin at h
  split at h
  · unfold wBin opI
    cases o <;> dsimp only at h ⊢ <;> first | (cases h; exact q) | (split at h <;> first | (cases h; done) | (cases h; exact ⟨by assumption, q⟩))
  · cases h
def e_neg : PyData → Option PyData
  | .int i => some (.int (-i))
  | _ => none
theorem e_neg_ok {x d : PyData} {Q : PyData → Prop} (h : e_neg x = some d) (q : Q d) : wNeg x Q := by
  unfold e_neg at h
  split at h
  · cases h
    exact q
  · cases h
def e_cmp (o : CO) (x y : PyData) : Option Bool := match o with
  | .eq => if SeqAt.shaped x && SeqAt.shaped y && plainD x && plainD y then some (PyData.eqv x y) else none
  | .ne => if SeqAt.shaped x && SeqAt.shaped y && plainD x && plainD y then some (!PyData.eqv x y) else none
  | .lt => match x, y with
    | .int i, .int j => some (decide (i < j))
    | _, _ => none
  | .le => match x, y with
    | .int i, .int j => some (decide (i ≤ j))
    | _, _ => none
  | .gt => match x, y with
    | .int i, .int j => some (decide (j < i))
    | _, _ => none
  | .ge => match x, y with
    | .int i, .int j => some (decide (j ≤ i))
    | _, _ => none
theorem e_cmp_ok {o : CO} {x y : PyData} {b : Bool} {Q : Bool → Prop} (h : e_cmp o x y = some b) (q : Q b) : wCmp o x y Q := by
  unfold e_cmp at h
  unfold wCmp
  cases o <;> dsimp only at h ⊢
  iterate 4 (split at h <;> first | (cases h; done) | (cases h; exact q))
  all_goals (
    split at h
    · rename_i c
      simp only [Bool.and_eq_true] at c
      cases h
      exact ⟨⟨c.1.1.1, c.1.1.2, c.1.2, c.2⟩, q⟩
    · cases h)
def e_bool : PyData → Option Bool
  | .bool b => some b
  | _ => none
theorem e_bool_ok {x : PyData} {b : Bool} {Q : Bool → Prop} (h : e_bool x = some b) (q : Q b) : wBool x Q := by
  unfold e_bool at h
  split at h
  · cases h
    exact q
  · cases h
def e_in (x y : PyData) : Option Bool := match y with
  | .list ds => if SeqAt.shaped x && SeqAt.shaped (.list ds) && plainD x && plainDs ds then some (ds.any fun z => PyData.eqv z x) else none
  | .tuple ds => if flatD x && ds.all flatD then some (ds.any fun z => PyData.eqv z x) else none
  | _ => none
theorem e_in_ok {x y : PyData} {b : Bool} {Q : Bool → Prop} (h : e_in x y = some b) (q : Q b) : wIn x y Q := by
  unfold e_in at h
  unfold wIn
  split at h
  · split at h
    · rename_i c
      simp only [Bool.and_eq_true] at c
      cases h
      exact ⟨⟨c.1.1.1, c.1.1.2, c.1.2, c.2⟩, q⟩
    · cases h
  · split at h
    · rename_i c
      simp only [Bool.and_eq_true] at c
      cases h
      exact ⟨c.1, c.2, q⟩
    · cases h
  · cases h
def e_ix (x y : PyData) : Option PyData := match x, y with
  | .list ds, .int i => atI ds i
  | .tuple ds, .int i => atI ds i
  | _, _ => none
theorem e_ix_ok {x y d : PyData} {Q : PyData → Prop} (h : e_ix x y = some d) (q : Q d) : wIx x y Q := by
  unfold e_ix at h
  split at h
  · exact ⟨d, h, q⟩
  · exact ⟨d, h, q⟩
  · cases h
def e_sl (x : PyData) (lo hi : Option Int) : Option PyData := match x with
  | .list ds => some (.list (cutD ds lo hi))
  | .tuple ds => if HT.sIx ds.length 0 lo = 0 ∧ HT.sIx ds.length ds.length hi = ds.length then none else some (.tuple (cutD ds lo hi))
  | _ => none
theorem e_sl_ok {x d : PyData} {lo hi : Option Int} {Q : PyData → Prop} (h : e_sl x lo hi = some d) (q : Q d) : wSl x lo hi Q := by
  unfold e_sl at h
  unfold wSl
  split at h
  · cases h
    exact q
  · split at h
    · cases h
    · rename_i c
      cases h
      exact ⟨c, q⟩
  · cases h
def e_cat (x y : PyData) : Option PyData := match x, y with
  | .tuple (a :: ds), .tuple (b :: es) => if (a :: ds).length + (b :: es).length ≤ 100000 then some (.tuple ((a :: ds) ++ (b :: es))) else none
  | _, _ => none
theorem e_cat_ok {x y d : PyData} {Q : PyData → Prop} (h : e_cat x y = some d) (q : Q d) : wCat x y Q := by
  unfold e_cat at h
  split at h
  · split at h
    · rename_i c
      cases h
      exact ⟨by simp, by simp, c, q⟩
    · cases h
  · cases h
theorem ints_ok : ∀ {xs : List PyData} {ns : List Int}, ints? xs = some ns → xs = ns.map PyData.int
  | [], ns, h => by
    cases h
    rfl
  | x :: xs, ns, h => by
    unfold ints? at h
    split at h
    · rename_i e
      cases e
    · rename_i i r e
      cases e
      obtain ⟨ms, h1, h2⟩ := Option.map_eq_some_iff.mp h
      subst h2
      rw [List.map_cons, ← ints_ok h1]
    · cases h
def e_seq (k : List PyData → Option PyData) : List PyData → Option PyData
  | [.list xs] => k xs
  | [.tuple xs] => k xs
  | _ => none
/-- sorted: of ints, or of tuples of ints of one length -/
def intB : PyData → Bool
  | .int _ => true
  | _ => false
def rowB (n : Nat) : PyData → Bool
  | .tuple ds => ds.all intB && decide (ds.length = n)
  | _ => false
def sortOk (xs : List PyData) : Bool := match xs with
  | [] => true
  | .int _ :: r => r.all intB
  | .tuple ds :: r => decide (0 < ds.length) && ds.all intB && r.all (rowB ds.length)
  | _ => false
def e_sorted (xs : List PyData) : Option PyData := if sortOk xs && decide (xs.length ≤ 100000) then some (.list (xs.mergeSort (PySem.W.dataLe false id))) else none
def e_bl (b : Bl) (ds : List PyData) : Option PyData := match b with
  | .len => e_seq (fun xs => some (.int xs.length)) ds
  | .int => match ds with
    | [.int i] => some (.int i)
    | [.bool c] => some (.int (if c = true then 1 else 0))
    | _ => none
  | .abs => match ds with
    | [.int i] => some (.int (if i < 0 then -i else i))
    | _ => none
  | .divm => match ds with
    | [.int i, .int j] => if CDiv i j then some (.tuple [.int (i / j), .int (i % j)]) else none
    | _ => none
  | .sum => match ds with
    | [.list xs] => (ints? xs).map fun ns => .int ns.sum
    | _ => none
  | .tuple => e_seq (fun xs => some (.tuple xs)) ds
  | .list => e_seq (fun xs => some (.list xs)) ds
  | .min => match ds with
    | [.int i, .int j] => some (.int (if j < i then j else i))
    | _ => none
  | .max => match ds with
    | [.int i, .int j] => some (.int (if j > i then j else i))
    | _ => none
  | .sorted => e_seq e_sorted ds
theorem intB_ex {d : PyData} (h : intB d = true) : ∃ i, d = .int i := by
  unfold intB at h
  split at h
  · exact ⟨_, rfl⟩
  · cases h
theorem alike_ints : ∀ {ds es : List PyData}, ds.all intB = true → es.all intB = true → PySem.W.alikeAll ds es = true
  | [], _, _, _ => by simp [PySem.W.alikeAll]
  | d :: ds, [], _, _ => by simp [PySem.W.alikeAll]
  | d :: ds, e :: es, h, k => by
    rw [List.all_cons, Bool.and_eq_true] at h k
    obtain ⟨i, rfl⟩ := intB_ex h.1
    obtain ⟨j, rfl⟩ := intB_ex k.1
    simp [PySem.W.alikeAll, PySem.W.alike, alike_ints h.2 k.2]
theorem depth_ints : ∀ {ds : List PyData}, ds.all intB = true → PyData.depthAll ds = 0
  | [], _ => by simp [PyData.depthAll]
  | d :: ds, h => by
    rw [List.all_cons, Bool.and_eq_true] at h
    obtain ⟨i, rfl⟩ := intB_ex h.1
    simp [PyData.depthAll, PyData.depth, depth_ints h.2]
theorem plain_ints : ∀ {ds : List PyData}, ds.all intB = true → plainDs ds = true
  | [], _ => by rw [plainDs]
  | d :: ds, h => by
    rw [List.all_cons, Bool.and_eq_true] at h
    obtain ⟨i, rfl⟩ := intB_ex h.1
    rw [plainDs, plain_ints h.2, plainD]
    rfl
theorem rowB_ex {n : Nat} {d : PyData} (h : rowB n d = true) : ∃ ds, d = .tuple ds ∧ ds.all intB = true ∧ ds.length = n := by
  unfold rowB at h
  split at h
  · rw [Bool.and_eq_true, decide_eq_true_eq] at h
    exact ⟨_, rfl, h.1, h.2⟩
  · cases h
theorem plain_rows {n : Nat} : ∀ {ds : List PyData}, ds.all (rowB n) = true → plainDs ds = true
  | [], _ => by rw [plainDs]
  | d :: ds, h => by
    rw [List.all_cons, Bool.and_eq_true] at h
    obtain ⟨i, rfl, a, b⟩ := rowB_ex h.1
    rw [plainDs, plain_rows h.2, plainD, plain_ints a]
    rfl
theorem sort_ints {xs : List PyData} (h : xs.all intB = true) : PySem.W.AllAlike xs ∧ PySem.W.Sortable xs ∧ (∀ d ∈ xs, d.depth ≤ 60) ∧ plainDs xs = true := by
  have f : ∀ d ∈ xs, ∃ i, d = .int i := fun d hd => intB_ex (List.all_eq_true.mp h d hd)
  refine ⟨fun d hd e he => ?_, .inr fun d hd => ?_, fun d hd => ?_, plain_ints h⟩
  · obtain ⟨i, rfl⟩ := f d hd
    obtain ⟨j, rfl⟩ := f e he
    simp [PySem.W.alike]
  · obtain ⟨i, rfl⟩ := f d hd
    exact ⟨fun z => (by cases z), fun xs z => (by cases z)⟩
  · obtain ⟨i, rfl⟩ := f d hd
    simp [PyData.depth]
theorem sort_rows {n : Nat} (hn : 0 < n) {xs : List PyData} (h : xs.all (rowB n) = true) : PySem.W.AllAlike xs ∧ PySem.W.Sortable xs ∧ (∀ d ∈ xs, d.depth ≤ 60) ∧ plainDs xs = true := by
  have f : ∀ d ∈ xs, ∃ ds, d = .tuple ds ∧ ds.all intB = true ∧ ds.length = n := fun d hd => rowB_ex (List.all_eq_true.mp h d hd)
  refine ⟨fun d hd e he => ?_, .inl fun d hd => ?_, fun d hd => ?_, plain_rows h⟩
  · obtain ⟨i, rfl, a, b⟩ := f d hd
    obtain ⟨j, rfl, a', b'⟩ := f e he
    simp [PySem.W.alike, alike_ints a a']
  · obtain ⟨i, rfl, a, b⟩ := f d hd
    cases i with
    | nil =>
      rw [List.length_nil] at b
      omega
    | cons x r => exact ⟨x, r, rfl⟩
  · obtain ⟨i, rfl, a, b⟩ := f d hd
    simp [PyData.depth, depth_ints a]
theorem sort_ok {xs : List PyData} (h : sortOk xs = true) : PySem.W.AllAlike xs ∧ PySem.W.Sortable xs ∧ (∀ d ∈ xs, d.depth ≤ 60) ∧ plainDs xs = true := by
  unfold sortOk at h
  split at h
  · exact sort_ints rfl
  · exact sort_ints (by rw [List.all_cons, h]; rfl)
  · rename_i ds r
    simp only [Bool.and_eq_true, decide_eq_true_eq] at h
    exact sort_rows h.1.1 (by rw [List.all_cons, h.2]; simp [rowB, h.1.2])
  · cases h
theorem e_seq_ok {k : List PyData → Option PyData} {ds : List PyData} {d : PyData} (h : e_seq k ds = some d) : ∃ xs, (ds = [.list xs] ∨ ds = [.tuple xs]) ∧ k xs = some d := by
  unfold e_seq at h
  split at h
  · exact ⟨_, .inl rfl, h⟩
  · exact ⟨_, .inr rfl, h⟩
  · cases h
theorem e_bl_ok {b : Bl} {ds : List PyData} {d : PyData} {Q : PyData → Prop} (h : e_bl b ds = some d) (q : Q d) : wBl b ds Q := by
  unfold e_bl at h
  cases b <;> dsimp only at h
  · obtain ⟨xs, rfl | rfl, e⟩ := e_seq_ok h <;> (cases e; exact q)
  · split at h <;> first | (cases h; done) | (cases h; exact q)
  · split at h <;> first | (cases h; done) | (cases h; exact q)
  · split at h
    · split at h
      · cases h
        exact ⟨by assumption, q⟩
      · cases h
    · cases h
  · split at h
    · obtain ⟨ns, h1, h2⟩ := Option.map_eq_some_iff.mp h
      subst h2
      exact ⟨ns, ints_ok h1, q⟩
    · cases h
  · obtain ⟨xs, rfl | rfl, e⟩ := e_seq_ok h <;> (cases e; exact q)
  · obtain ⟨xs, rfl | rfl, e⟩ := e_seq_ok h <;> (cases e; exact q)
  · split at h <;> first | (cases h; done) | (cases h; exact q)
  · split at h <;> first | (cases h; done) | (cases h; exact q)
  · obtain ⟨xs, h0, e⟩ := e_seq_ok h
    unfold e_sorted at e
    split at e
    · rename_i c
      rw [Bool.and_eq_true, decide_eq_true_eq] at c
      obtain ⟨s1, s2, s3, s4⟩ := sort_ok c.1
      cases e
      rcases h0 with rfl | rfl <;> exact ⟨s1, s2, c.2, s3, s4, q⟩
    · cases e
end Qd

set_option Elab.async false
set_option linter.all false
set_option maxRecDepth 100000
set_option maxHeartbeats 4000000
namespace Qd
open PySem L2
def lcF (step : PyData → Option (Option PyData)) : List PyData → List PyData → Option (List PyData)
  | [], acc => some acc
  | x :: xs, acc => (step x).bind fun o => match o with
    | some y => if acc.length < 100000 then lcF step xs (acc ++ [y]) else none
    | none => lcF step xs acc
def dcF (step : PyData → Option (PyData × PyData)) : List PyData → List (PyData × PyData) → Option (List (PyData × PyData))
  | [], acc => some acc
  | x :: xs, acc => (step x).bind fun p => if (dkey p.1).isSome && decide (acc.length < 100000) then dcF step xs (putD acc p.1 p.2) else none
def e_var (ρ : Rho) (i : Nat) : Option PyData := match ρ[i]? with
  | some (some (.dat d)) => some d
  | some (some (.wri d)) => some d
  | _ => none
def e_own (ρ : Rho) (i : Nat) : Option (List PyData) := match ρ[i]? with
  | some (some (.own ds)) => some ds
  | _ => none
def e_dat (ρ : Rho) (i : Nat) : Option PyData := match ρ[i]? with
  | some (some (.dat d)) => some d
  | _ => none
def e_wt (ρ : Rho) (i : Nat) : Option (List PyData) := match ρ[i]? with
  | some (some (.wri (.tuple ds))) => some ds
  | _ => none
def e_list : PyData → Option (List PyData)
  | .list ds => some ds
  | _ => none
def e_tup : PyData → Option (List PyData)
  | .tuple ds => some ds
  | _ => none
def e_sq : PyData → Option (List PyData)
  | .list ds => some ds
  | .tuple ds => some ds
  | _ => none
def e_int : PyData → Option Int
  | .int i => some i
  | _ => none
def e_idx (ds : List PyData) (y : PyData) : Option PyData := if SeqAt.shaped (.list ds) && SeqAt.shaped y && plainDs ds && plainD y then (ds.findIdx? fun z => PyData.eqv z y).map fun (j : Nat) => .int j else none
def e_tidx (ds : List PyData) (y : PyData) : Option PyData := (ints? ds).bind fun ns => (e_int y).bind fun n => if n ∈ ns then some (.int (ns.idxOf n : Nat)) else none
def e_rg (lo hi : Int) : Option (List PyData) := if -1000000 ≤ lo ∧ lo ≤ 1000000 ∧ -1000000 ≤ hi ∧ hi ≤ 1000000 then some (intsUp lo (hi - lo).toNat) else none
def few (ds : List PyData) : Option (List PyData) := if ds.length ≤ 100000 then some ds else none
mutual
def evE (F : FG) : T → Rho → Option PyData
  | .v i, ρ => e_var ρ i
  | .k c, _ => some c
  | .gl n, _ => F.con n
  | .bin o a b, ρ => (evE F a ρ).bind fun x => (evE F b ρ).bind fun y => e_bin o x y
  | .neg a, ρ => (evE F a ρ).bind e_neg
  | .cmp o a b, ρ => (evE F a ρ).bind fun x => (evE F b ρ).bind fun y => (e_cmp o x y).map .bool
  | .chain o o' a b c, ρ => (evE F a ρ).bind fun x => (evE F b ρ).bind fun y => (e_cmp o x y).bind fun k => match k with
    | true => (evE F c ρ).bind fun z => (e_cmp o' y z).map .bool
    | false => some (.bool false)
  | .isN a, ρ => (evE F a ρ).map fun x => .bool (isNone x)
  | .notN a, ρ => (evE F a ρ).map fun x => .bool (!isNone x)
  | .isin a b, ρ => (evE F a ρ).bind fun x => (evE F b ρ).bind fun y => (e_in x y).map .bool
  | .notin a b, ρ => (evE F a ρ).bind fun x => (evE F b ρ).bind fun y => (e_in x y).map fun c => .bool (!c)
  | .and a b, ρ => (evE F a ρ).bind fun x => (e_bool x).bind fun c => match c with
    | true => (evE F b ρ).bind fun y => (e_bool y).map .bool
    | false => some (.bool false)
  | .or a b, ρ => (evE F a ρ).bind fun x => (e_bool x).bind fun c => match c with
    | true => some (.bool true)
    | false => (evE F b ρ).bind fun y => (e_bool y).map .bool
  | .not a, ρ => (evE F a ρ).bind fun x => (e_bool x).map fun c => .bool (!c)
  | .ite c a b, ρ => (evE F c ρ).bind fun x => (e_bool x).bind fun c => match c with
    | true => evE F a ρ
    | false => evE F b ρ
  | .tup ts, ρ => ((evEs F ts ρ).bind few).map .tuple
  | .lst ts, ρ => ((evEs F ts ρ).bind few).map .list
  | .ix a b, ρ => (evE F a ρ).bind fun x => (evE F b ρ).bind fun y => e_ix x y
  | .sl a lo hi, ρ => (evE F a ρ).bind fun x => e_sl x lo hi
  | .cat a b, ρ => (evE F a ρ).bind fun x => (evE F b ρ).bind fun y => e_cat x y
  | .call f ts, ρ => if F.isFn f = true then (evEs F ts ρ).bind fun ds => F.fn f ds else none
  | .blt b ts, ρ => (evEs F ts ρ).bind fun ds => e_bl b ds
  | .idx a b, ρ => (evE F a ρ).bind fun x => (e_list x).bind fun ds => (evE F b ρ).bind fun y => e_idx ds y
  | .tidx i b, ρ => (e_wt ρ i).bind fun ds => (evE F b ρ).bind fun y => e_tidx ds y
  | .lc i src elt, ρ => (evI F src ρ).bind fun xs => (lcF (fun x => (evE F elt (ρ.set i (some (.dat x)))).map some) xs []).map .list
  | .lci i src c elt, ρ => (evI F src ρ).bind fun xs => (lcF (fun x => (evE F c (ρ.set i (some (.dat x)))).bind fun z => (e_bool z).bind fun k => match k with
    | true => (evE F elt (ρ.set i (some (.dat x)))).map some
    | false => some none) xs []).map .list
  | .lco i j elt, ρ => (e_own ρ j).bind fun xs => (lcF (fun x => (evE F elt (ρ.set i (some (.dat x)))).map some) xs []).map .list
  | .rg1 _, _ => none
  | .rg2 _ _, _ => none
  | .x k a ts, ρ => (evE F a ρ).bind fun d => if F.xp k d = true then (evEs F ts ρ).bind fun ds => F.xf k (d :: ds) else none
  | .dc i src key val, ρ => (evI F src ρ).bind fun xs => (dcF (fun x => (evE F key (ρ.set i (some (.dat x)))).bind fun k => (evE F val (ρ.set i (some (.dat x)))).map fun y => (k, y)) xs []).map fun ds => .dict ((.none, .int 0) :: ds)
termination_by structural t => t
def evI (F : FG) : T → Rho → Option (List PyData)
  | .rg1 a, ρ => (evE F a ρ).bind fun x => (e_int x).bind fun n => e_rg 0 n
  | .rg2 a b, ρ => (evE F a ρ).bind fun x => (evE F b ρ).bind fun y => (e_int x).bind fun m => (e_int y).bind fun n => e_rg m n
  | .v i, ρ => (e_var ρ i).bind e_sq
  | .gl n, _ => (F.con n).bind e_sq
  | .lst ts, ρ => (evEs F ts ρ).bind few
  | .tup ts, ρ => (evEs F ts ρ).bind few
  | .ix a b, ρ => (evE F a ρ).bind fun x => (evE F b ρ).bind fun y => (e_ix x y).bind e_sq
  | .call f ts, ρ => if F.isFn f = true then (evEs F ts ρ).bind fun ds => (F.fn f ds).bind e_sq else none
  | .x k a ts, ρ => (evE F a ρ).bind fun d => if F.xp k d = true then (evEs F ts ρ).bind fun ds => (F.xf k (d :: ds)).bind e_sq else none
  | _, _ => none
termination_by structural t => t
def evEs (F : FG) : Ts → Rho → Option (List PyData)
  | .nil, _ => some []
  | .cons t ts, ρ => (evE F t ρ).bind fun d => (evEs F ts ρ).map fun ds => d :: ds
termination_by structural t => t
end
theorem lcF_ok {step : PyData → (Option PyData → Prop) → Prop} {sf : PyData → Option (Option PyData)} (hs : ∀ x o R, sf x = some o → R o → step x R) : ∀ {xs acc ys : List PyData} {Q : List PyData → Prop}, lcF sf xs acc = some ys → Q ys → lcW step xs acc Q
  | [], acc, ys, Q, h, q => by
    cases h
    exact q
  | x :: xs, acc, ys, Q, h, q => by
    obtain ⟨o, h1, h2⟩ := Option.bind_eq_some_iff.mp h
    refine hs x o _ h1 ?_
    cases o with
    | some y =>
      dsimp only at h2
      split at h2
      · exact ⟨by assumption, lcF_ok hs h2 q⟩
      · cases h2
    | none => exact lcF_ok hs h2 q
theorem dcF_ok {step : PyData → (PyData → PyData → Prop) → Prop} {sf : PyData → Option (PyData × PyData)} (hs : ∀ x p (R : PyData → PyData → Prop), sf x = some p → R p.1 p.2 → step x R) : ∀ {xs : List PyData} {acc ys : List (PyData × PyData)} {Q : List (PyData × PyData) → Prop}, dcF sf xs acc = some ys → Q ys → dcW step xs acc Q
  | [], acc, ys, Q, h, q => by
    cases h
    exact q
  | x :: xs, acc, ys, Q, h, q => by
    obtain ⟨o, h1, h2⟩ := Option.bind_eq_some_iff.mp h
    split at h2
    · rename_i c
      rw [Bool.and_eq_true, decide_eq_true_eq] at c
      exact hs x o _ h1 ⟨c.1, c.2, dcF_ok hs h2 q⟩
    · cases h2
theorem e_var_ok {ρ : Rho} {i : Nat} {d : PyData} {G : Ga} {Q : PyData → Prop} (h : e_var ρ i = some d) (q : Q d) : wE G (.v i) ρ Q := by
  unfold e_var at h
  rw [wE]
  split at h <;> first | (cases h; done) | skip
  · rename_i e
    cases h
    try rw [e]
    exact q
  · rename_i e
    cases h
    try rw [e]
    exact q
theorem e_own_ok {ρ : Rho} {i : Nat} {ds : List PyData} (h : e_own ρ i = some ds) : ρ[i]? = some (some (.own ds)) := by
  unfold e_own at h
  split at h
  · rename_i e
    cases h
    exact e
  · cases h
theorem e_dat_ok {ρ : Rho} {i : Nat} {d : PyData} (h : e_dat ρ i = some d) : ρ[i]? = some (some (.dat d)) := by
  unfold e_dat at h
  split at h
  · rename_i e
    cases h
    exact e
  · cases h
theorem e_wt_ok {ρ : Rho} {i : Nat} {ds : List PyData} (h : e_wt ρ i = some ds) : ρ[i]? = some (some (.wri (.tuple ds))) := by
  unfold e_wt at h
  split at h
  · rename_i e
    cases h
    exact e
  · cases h
theorem e_list_ok {x : PyData} {ds : List PyData} (h : e_list x = some ds) : x = .list ds := by
  unfold e_list at h
  split at h <;> cases h <;> rfl
theorem e_tup_ok {x : PyData} {ds : List PyData} (h : e_tup x = some ds) : x = .tuple ds := by
  unfold e_tup at h
  split at h <;> cases h <;> rfl
theorem e_int_ok {x : PyData} {i : Int} (h : e_int x = some i) : x = .int i := by
  unfold e_int at h
  split at h <;> cases h <;> rfl
theorem e_sq_ok {x : PyData} {ds : List PyData} {Q : List PyData → Prop} (h : e_sq x = some ds) (q : Q ds) : wSeq x Q := by
  unfold e_sq at h
  split at h <;> cases h <;> exact q
theorem e_idx_ok {ds : List PyData} {y d : PyData} {Q : PyData → Prop} (h : e_idx ds y = some d) (q : Q d) : wIdx ds y Q := by
  unfold e_idx at h
  split at h
  · rename_i c
    simp only [Bool.and_eq_true] at c
    obtain ⟨j, h1, h2⟩ := Option.map_eq_some_iff.mp h
    subst h2
    rw [List.findIdx?_eq_some_iff_getElem] at h1
    obtain ⟨hl, he, hno⟩ := h1
    refine ⟨⟨c.1.1.1, c.1.1.2, c.1.2, c.2⟩, j, ds[j], List.getElem?_eq_getElem hl, he, fun m z' hm hz => ?_, q⟩
    have := hno m hm
    rw [List.getElem?_eq_getElem (Nat.lt_trans hm hl)] at hz
    cases hz
    simpa using this
  · cases h
theorem idxOf_no' {k : Int} : ∀ {al : List Int} {m : Nat}, m < al.idxOf k → al[m]? ≠ some k
  | [], m, h => by simp
  | a :: al, m, h => by
    rw [List.idxOf_cons] at h
    by_cases e : a = k
    · simp [e] at h
    · have e' : (a == k) = false := by simpa using e
      rw [e'] at h
      cases m with
      | zero => simpa using e
      | succ m =>
        have h' : m < al.idxOf k := by simpa using h
        simpa using idxOf_no' h'
theorem e_tidx_ok {ds : List PyData} {y d : PyData} {Q : PyData → Prop} (h : e_tidx ds y = some d) (q : Q d) : wTidx (.tuple ds) y Q := by
  obtain ⟨ns, h1, h⟩ := Option.bind_eq_some_iff.mp h
  obtain ⟨n, h2, h⟩ := Option.bind_eq_some_iff.mp h
  split at h
  · rename_i c
    cases h
    have hl : ns.idxOf n < ns.length := List.idxOf_lt_length_iff.mpr c
    exact ⟨ns, n, ns.idxOf n, ints_ok h1, e_int_ok h2, by rw [List.getElem?_eq_getElem hl, List.getElem_idxOf], fun m hm => idxOf_no' hm, q⟩
  · cases h
theorem e_rg_ok {lo hi : Int} {xs : List PyData} {Q : List PyData → Prop} (h : e_rg lo hi = some xs) (q : Q xs) : wRg lo hi Q := by
  unfold e_rg at h
  split at h
  · cases h
    exact ⟨by assumption, q⟩
  · cases h
theorem few_ok {ds es : List PyData} (h : few ds = some es) : ds = es ∧ ds.length ≤ 100000 := by
  unfold few at h
  split at h
  · cases h
    exact ⟨rfl, by assumption⟩
  · cases h
structure VOk (F : FG) (t : T) : Prop where
  e : ∀ (ρ : Rho) (d : PyData) (Q : PyData → Prop), evE F t ρ = some d → Q d → wE F.ga t ρ Q
  i : ∀ (ρ : Rho) (xs : List PyData) (Q : List PyData → Prop), evI F t ρ = some xs → Q xs → wI F.ga t ρ Q
def VOks (F : FG) (ts : Ts) : Prop := ∀ (ρ : Rho) (ds : List PyData) (Q : List PyData → Prop), evEs F ts ρ = some ds → Q ds → wEs F.ga ts ρ Q
theorem noI {F : FG} {t : T} (h : ∀ ρ, evI F t ρ = none) : ∀ (ρ : Rho) (xs : List PyData) (Q : List PyData → Prop), evI F t ρ = some xs → Q xs → wI F.ga t ρ Q := fun ρ xs Q e q => by
  rw [h ρ] at e
  cases e
theorem vok (F : FG) (t : T) : VOk F t := by
  refine T.rec (motive_1 := fun t => VOk F t) (motive_2 := fun ts => VOks F ts) ?_ ?_ ?_ ?_ ?_ ?_ ?_ ?_ ?_ ?_ ?_ ?_ ?_ ?_ ?_ ?_ ?_ ?_ ?_ ?_ ?_ ?_ ?_ ?_ ?_ ?_ ?_ ?_ ?_ ?_ ?_ ?_ ?_ t
  -- v
  · intro i
    refine ⟨fun ρ d Q h q => e_var_ok h q, fun ρ xs Q h q => ?_⟩
    obtain ⟨d, h1, h2⟩ := Option.bind_eq_some_iff.mp (show (e_var ρ i).bind e_sq = some xs from h)
    unfold e_var at h1
    rw [wI]
    split at h1 <;> first | (cases h1; done) | skip
    · rename_i e
      cases h1
      try rw [e]
      exact e_sq_ok h2 q
    · rename_i e
      cases h1
      try rw [e]
      exact e_sq_ok h2 q
  -- k
  · intro c
    refine ⟨fun ρ d Q h q => ?_, noI fun ρ => rfl⟩
    cases (show some c = some d from h)
    exact q
  -- gl
  · intro n
    refine ⟨fun ρ d Q h q => ⟨d, h, q⟩, fun ρ xs Q h q => ?_⟩
    obtain ⟨d, h1, h2⟩ := Option.bind_eq_some_iff.mp (show (F.con n).bind e_sq = some xs from h)
    exact ⟨d, h1, e_sq_ok h2 q⟩
  -- bin
  · intro o a b ha hb
    refine ⟨fun ρ d Q h q => ?_, noI fun ρ => rfl⟩
    obtain ⟨x, h1, h⟩ := Option.bind_eq_some_iff.mp (show (evE F a ρ).bind (fun x => (evE F b ρ).bind fun y => e_bin o x y) = some d from h)
    obtain ⟨y, h2, h⟩ := Option.bind_eq_some_iff.mp h
    exact ha.e _ _ _ h1 (hb.e _ _ _ h2 (e_bin_ok h q))
  -- neg
  · intro a ha
    refine ⟨fun ρ d Q h q => ?_, noI fun ρ => rfl⟩
    obtain ⟨x, h1, h⟩ := Option.bind_eq_some_iff.mp (show (evE F a ρ).bind e_neg = some d from h)
    exact ha.e _ _ _ h1 (e_neg_ok h q)
  -- cmp
  · intro o a b ha hb
    refine ⟨fun ρ d Q h q => ?_, noI fun ρ => rfl⟩
    obtain ⟨x, h1, h⟩ := Option.bind_eq_some_iff.mp (show (evE F a ρ).bind (fun x => (evE F b ρ).bind fun y => (e_cmp o x y).map .bool) = some d from h)
    obtain ⟨y, h2, h⟩ := Option.bind_eq_some_iff.mp h
    obtain ⟨c, h3, h⟩ := Option.map_eq_some_iff.mp h
    subst h
    exact ha.e _ _ _ h1 (hb.e _ _ _ h2 (e_cmp_ok h3 q))
  -- chain
  · intro o o' a b c ha hb hc
    refine ⟨fun ρ d Q h q => ?_, noI fun ρ => rfl⟩
    unfold evE at h
    obtain ⟨x, h1, h⟩ := Option.bind_eq_some_iff.mp h
    obtain ⟨y, h2, h⟩ := Option.bind_eq_some_iff.mp h
    obtain ⟨k, h3, h⟩ := Option.bind_eq_some_iff.mp h
    refine ha.e _ _ _ h1 (hb.e _ _ _ h2 (e_cmp_ok h3 ⟨fun z => ?_, fun z => ?_⟩))
    · subst z
      obtain ⟨z, h4, h⟩ := Option.bind_eq_some_iff.mp h
      obtain ⟨c', h5, h⟩ := Option.map_eq_some_iff.mp h
      subst h
      exact hc.e _ _ _ h4 (e_cmp_ok h5 q)
    · subst z
      cases h
      exact q
  -- isN
  · intro a ha
    refine ⟨fun ρ d Q h q => ?_, noI fun ρ => rfl⟩
    unfold evE at h
    obtain ⟨x, h1, h⟩ := Option.map_eq_some_iff.mp h
    subst h
    exact ha.e _ _ _ h1 q
  -- notN
  · intro a ha
    refine ⟨fun ρ d Q h q => ?_, noI fun ρ => rfl⟩
    unfold evE at h
    obtain ⟨x, h1, h⟩ := Option.map_eq_some_iff.mp h
    subst h
    exact ha.e _ _ _ h1 q
  -- isin
  · intro a b ha hb
    refine ⟨fun ρ d Q h q => ?_, noI fun ρ => rfl⟩
    unfold evE at h
    obtain ⟨x, h1, h⟩ := Option.bind_eq_some_iff.mp h
    obtain ⟨y, h2, h⟩ := Option.bind_eq_some_iff.mp h
    obtain ⟨c, h3, h⟩ := Option.map_eq_some_iff.mp h
    subst h
    exact ha.e _ _ _ h1 (hb.e _ _ _ h2 (e_in_ok h3 q))
  -- notin
  · intro a b ha hb
    refine ⟨fun ρ d Q h q => ?_, noI fun ρ => rfl⟩
    unfold evE at h
    obtain ⟨x, h1, h⟩ := Option.bind_eq_some_iff.mp h
    obtain ⟨y, h2, h⟩ := Option.bind_eq_some_iff.mp h
    obtain ⟨c, h3, h⟩ := Option.map_eq_some_iff.mp h
    subst h
    exact ha.e _ _ _ h1 (hb.e _ _ _ h2 (e_in_ok h3 q))
  -- and
  · intro a b ha hb
    refine ⟨fun ρ d Q h q => ?_, noI fun ρ => rfl⟩
    unfold evE at h
    obtain ⟨x, h1, h⟩ := Option.bind_eq_some_iff.mp h
    obtain ⟨c, h2, h⟩ := Option.bind_eq_some_iff.mp h
    refine ha.e _ _ _ h1 (e_bool_ok h2 ⟨fun z => ?_, fun z => ?_⟩)
    · subst z
      obtain ⟨y, h3, h⟩ := Option.bind_eq_some_iff.mp h
      obtain ⟨k, h4, h⟩ := Option.map_eq_some_iff.mp h
      subst h
      exact hb.e _ _ _ h3 (e_bool_ok h4 q)
    · subst z
      cases h
      exact q
  -- or
  · intro a b ha hb
    refine ⟨fun ρ d Q h q => ?_, noI fun ρ => rfl⟩
    unfold evE at h
    obtain ⟨x, h1, h⟩ := Option.bind_eq_some_iff.mp h
    obtain ⟨c, h2, h⟩ := Option.bind_eq_some_iff.mp h
    refine ha.e _ _ _ h1 (e_bool_ok h2 ⟨fun z => ?_, fun z => ?_⟩)
    · subst z
      cases h
      exact q
    · subst z
      obtain ⟨y, h3, h⟩ := Option.bind_eq_some_iff.mp h
      obtain ⟨k, h4, h⟩ := Option.map_eq_some_iff.mp h
      subst h
      exact hb.e _ _ _ h3 (e_bool_ok h4 q)
  -- not
  · intro a ha
    refine ⟨fun ρ d Q h q => ?_, noI fun ρ => rfl⟩
    unfold evE at h
    obtain ⟨x, h1, h⟩ := Option.bind_eq_some_iff.mp h
    obtain ⟨c, h2, h⟩ := Option.map_eq_some_iff.mp h
    subst h
    exact ha.e _ _ _ h1 (e_bool_ok h2 q)
  -- ite
  · intro c a b hc ha hb
    refine ⟨fun ρ d Q h q => ?_, noI fun ρ => rfl⟩
    unfold evE at h
    obtain ⟨x, h1, h⟩ := Option.bind_eq_some_iff.mp h
    obtain ⟨c, h2, h⟩ := Option.bind_eq_some_iff.mp h
    refine hc.e _ _ _ h1 (e_bool_ok h2 ⟨fun z => ?_, fun z => ?_⟩)
    · subst z
      exact ha.e _ _ _ h q
    · subst z
      exact hb.e _ _ _ h q
  -- tup
  · intro ts hs
    refine ⟨fun ρ d Q h q => ?_, fun ρ xs Q h q => ?_⟩
    · unfold evE at h
      obtain ⟨x, g0, g⟩ := Option.map_eq_some_iff.mp h
      subst g
      obtain ⟨ds, g1, g2⟩ := Option.bind_eq_some_iff.mp g0
      obtain ⟨g4, g3⟩ := few_ok g2
      subst g4
      exact hs _ _ _ g1 ⟨g3, q⟩
    · unfold evI at h
      obtain ⟨ds, h1, h2⟩ := Option.bind_eq_some_iff.mp h
      obtain ⟨rfl, h3⟩ := few_ok h2
      exact hs _ _ _ h1 ⟨h3, q⟩
  -- lst
  · intro ts hs
    refine ⟨fun ρ d Q h q => ?_, fun ρ xs Q h q => ?_⟩
    · unfold evE at h
      obtain ⟨x, g0, g⟩ := Option.map_eq_some_iff.mp h
      subst g
      obtain ⟨ds, g1, g2⟩ := Option.bind_eq_some_iff.mp g0
      obtain ⟨g4, g3⟩ := few_ok g2
      subst g4
      exact hs _ _ _ g1 ⟨g3, q⟩
    · unfold evI at h
      obtain ⟨ds, h1, h2⟩ := Option.bind_eq_some_iff.mp h
      obtain ⟨rfl, h3⟩ := few_ok h2
      exact hs _ _ _ h1 ⟨h3, q⟩
  -- ix
  · intro a b ha hb
    refine ⟨fun ρ d Q h q => ?_, fun ρ xs Q h q => ?_⟩
    · unfold evE at h
      obtain ⟨x, h1, h⟩ := Option.bind_eq_some_iff.mp h
      obtain ⟨y, h2, h⟩ := Option.bind_eq_some_iff.mp h
      exact ha.e _ _ _ h1 (hb.e _ _ _ h2 (e_ix_ok h q))
    · unfold evI at h
      obtain ⟨x, h1, h⟩ := Option.bind_eq_some_iff.mp h
      obtain ⟨y, h2, h⟩ := Option.bind_eq_some_iff.mp h
      obtain ⟨z, h3, h⟩ := Option.bind_eq_some_iff.mp h
      exact ha.e _ _ _ h1 (hb.e _ _ _ h2 (e_ix_ok h3 (e_sq_ok h q)))
  -- sl
  · intro a lo hi ha
    refine ⟨fun ρ d Q h q => ?_, noI fun ρ => rfl⟩
    unfold evE at h
    obtain ⟨x, h1, h⟩ := Option.bind_eq_some_iff.mp h
    exact ha.e _ _ _ h1 (e_sl_ok h q)
  -- cat
  · intro a b ha hb
    refine ⟨fun ρ d Q h q => ?_, noI fun ρ => rfl⟩
    unfold evE at h
    obtain ⟨x, h1, h⟩ := Option.bind_eq_some_iff.mp h
    obtain ⟨y, h2, h⟩ := Option.bind_eq_some_iff.mp h
    exact ha.e _ _ _ h1 (hb.e _ _ _ h2 (e_cat_ok h q))
  -- call
  · intro f ts hs
    refine ⟨fun ρ d Q h q => ?_, fun ρ xs Q h q => ?_⟩
    · unfold evE at h
      split at h
      · rename_i hf
        obtain ⟨ds, h1, h2⟩ := Option.bind_eq_some_iff.mp h
        exact ⟨hf, hs _ _ _ h1 ⟨d, h2, q⟩⟩
      · cases h
    · unfold evI at h
      split at h
      · rename_i hf
        obtain ⟨ds, h1, h2⟩ := Option.bind_eq_some_iff.mp h
        obtain ⟨d, h2, h3⟩ := Option.bind_eq_some_iff.mp h2
        exact ⟨hf, hs _ _ _ h1 ⟨d, h2, e_sq_ok h3 q⟩⟩
      · cases h
  -- blt
  · intro b ts hs
    refine ⟨fun ρ d Q h q => ?_, noI fun ρ => rfl⟩
    unfold evE at h
    obtain ⟨ds, h1, h2⟩ := Option.bind_eq_some_iff.mp h
    exact hs _ _ _ h1 (e_bl_ok h2 q)
  -- idx
  · intro a b ha hb
    refine ⟨fun ρ d Q h q => ?_, noI fun ρ => rfl⟩
    unfold evE at h
    obtain ⟨x, g1, g⟩ := Option.bind_eq_some_iff.mp h
    obtain ⟨ds, g2, k⟩ := Option.bind_eq_some_iff.mp g
    obtain ⟨y, g3, l⟩ := Option.bind_eq_some_iff.mp k
    have e := e_list_ok g2
    subst e
    exact ha.e _ _ _ g1 (hb.e _ _ _ g3 (e_idx_ok l q))
  -- tidx
  · intro i b hb
    refine ⟨fun ρ d Q h q => ?_, noI fun ρ => rfl⟩
    unfold evE at h
    obtain ⟨ds, h1, h⟩ := Option.bind_eq_some_iff.mp h
    obtain ⟨y, h2, h⟩ := Option.bind_eq_some_iff.mp h
    rw [wE, e_wt_ok h1]
    exact hb.e _ _ _ h2 (e_tidx_ok h q)
  -- lc
  · intro i src elt hs he
    refine ⟨fun ρ d Q h q => ?_, noI fun ρ => rfl⟩
    unfold evE at h
    obtain ⟨xs, h1, h⟩ := Option.bind_eq_some_iff.mp h
    obtain ⟨ys, h2, h⟩ := Option.map_eq_some_iff.mp h
    subst h
    refine hs.i _ _ _ h1 (lcF_ok (fun x o R hx r => ?_) h2 q)
    obtain ⟨y, h3, h4⟩ := Option.map_eq_some_iff.mp hx
    subst h4
    exact he.e _ _ _ h3 r
  -- lci
  · intro i src c elt hs hc he
    refine ⟨fun ρ d Q h q => ?_, noI fun ρ => rfl⟩
    unfold evE at h
    obtain ⟨xs, h1, h⟩ := Option.bind_eq_some_iff.mp h
    obtain ⟨ys, h2, h⟩ := Option.map_eq_some_iff.mp h
    subst h
    refine hs.i _ _ _ h1 (lcF_ok (fun x o R hx r => ?_) h2 q)
    obtain ⟨z, h3, hx⟩ := Option.bind_eq_some_iff.mp hx
    obtain ⟨k, h4, hx⟩ := Option.bind_eq_some_iff.mp hx
    refine hc.e _ _ _ h3 (e_bool_ok h4 ⟨fun e => ?_, fun e => ?_⟩)
    · subst e
      obtain ⟨y, h5, h6⟩ := Option.map_eq_some_iff.mp hx
      subst h6
      exact he.e _ _ _ h5 r
    · subst e
      cases hx
      exact r
  -- lco
  · intro i j elt he
    refine ⟨fun ρ d Q h q => ?_, noI fun ρ => rfl⟩
    unfold evE at h
    obtain ⟨xs, h1, h⟩ := Option.bind_eq_some_iff.mp h
    obtain ⟨ys, h2, h⟩ := Option.map_eq_some_iff.mp h
    subst h
    rw [wE, e_own_ok h1]
    refine lcF_ok (fun x o R hx r => ?_) h2 q
    obtain ⟨y, h3, h4⟩ := Option.map_eq_some_iff.mp hx
    subst h4
    exact he.e _ _ _ h3 r
  -- rg1
  · intro a ha
    refine ⟨fun ρ d Q h q => (nomatch (show (none : Option PyData) = some d from h)), fun ρ xs Q h q => ?_⟩
    unfold evI at h
    obtain ⟨x, h1, h⟩ := Option.bind_eq_some_iff.mp h
    obtain ⟨n, h2, h⟩ := Option.bind_eq_some_iff.mp h
    cases e_int_ok h2
    exact ha.e _ _ _ h1 (e_rg_ok h q)
  -- rg2
  · intro a b ha hb
    refine ⟨fun ρ d Q h q => (nomatch (show (none : Option PyData) = some d from h)), fun ρ xs Q h q => ?_⟩
    unfold evI at h
    obtain ⟨x, h1, h⟩ := Option.bind_eq_some_iff.mp h
    obtain ⟨y, h2, h⟩ := Option.bind_eq_some_iff.mp h
    obtain ⟨m, h3, h⟩ := Option.bind_eq_some_iff.mp h
    obtain ⟨n, h4, h⟩ := Option.bind_eq_some_iff.mp h
    cases e_int_ok h3
    cases e_int_ok h4
    exact ha.e _ _ _ h1 (hb.e _ _ _ h2 (e_rg_ok h q))
  -- x
  · intro k a ts ha hs
    refine ⟨fun ρ d Q h q => ?_, fun ρ xs Q h q => ?_⟩
    · unfold evE at h
      obtain ⟨x, h1, h⟩ := Option.bind_eq_some_iff.mp h
      split at h
      · rename_i hp
        obtain ⟨ds, h2, h⟩ := Option.bind_eq_some_iff.mp h
        exact ha.e _ _ _ h1 ⟨hp, hs _ _ _ h2 ⟨d, h, q⟩⟩
      · cases h
    · unfold evI at h
      obtain ⟨x, h1, h⟩ := Option.bind_eq_some_iff.mp h
      split at h
      · rename_i hp
        obtain ⟨ds, h2, h⟩ := Option.bind_eq_some_iff.mp h
        obtain ⟨d, h3, h⟩ := Option.bind_eq_some_iff.mp h
        exact ha.e _ _ _ h1 ⟨hp, hs _ _ _ h2 ⟨d, h3, e_sq_ok h q⟩⟩
      · cases h
  -- dc
  · intro i src key val hs hk hv
    refine ⟨fun ρ d Q h q => ?_, noI fun ρ => rfl⟩
    unfold evE at h
    obtain ⟨xs, h1, h⟩ := Option.bind_eq_some_iff.mp h
    obtain ⟨ys, h2, h⟩ := Option.map_eq_some_iff.mp h
    subst h
    refine hs.i _ _ _ h1 (dcF_ok (fun x o R hx r => ?_) h2 q)
    obtain ⟨y, h3, hx⟩ := Option.bind_eq_some_iff.mp hx
    obtain ⟨z, h4, h5⟩ := Option.map_eq_some_iff.mp hx
    subst h5
    exact hk.e _ _ _ h3 (hv.e _ _ _ h4 r)
  · intro ρ ds Q h q
    cases (show some [] = some ds from h)
    exact q
  · intro t ts ht hs ρ ds Q h q
    unfold evEs at h
    obtain ⟨d, h1, h⟩ := Option.bind_eq_some_iff.mp h
    obtain ⟨es, h2, h⟩ := Option.map_eq_some_iff.mp h
    subst h
    exact ht.e _ _ _ h1 (hs _ _ _ h2 q)
end Qd

set_option Elab.async false
set_option linter.all false
set_option maxRecDepth 100000
set_option maxHeartbeats 4000000
namespace Qd
open PySem L2
def forF (body : PyData → Rho → Option O) : List PyData → Rho → Option O
  | [], ρ => some (.nx ρ)
  | x :: xs, ρ => (body x ρ).bind fun o => match o with
    | .nx ρ' => forF body xs ρ'
    | .ct ρ' => forF body xs ρ'
    | .bk ρ' => some (.nx ρ')
    | .rt d => some (.rt d)
theorem forF_ok {body : PyData → Rho → (O → Prop) → Prop} {bf : PyData → Rho → Option O} (hs : ∀ x ρ o R, bf x ρ = some o → R o → body x ρ R) : ∀ {xs : List PyData} {ρ : Rho} {o : O} {Q : O → Prop}, forF bf xs ρ = some o → Q o → forW body xs ρ Q
  | [], ρ, o, Q, h, q => by
    cases h
    exact q
  | x :: xs, ρ, o, Q, h, q => by
    obtain ⟨o', h1, h2⟩ := Option.bind_eq_some_iff.mp h
    refine hs x ρ o' _ h1 ?_
    cases o' with
    | nx ρ' => exact forF_ok hs h2 q
    | ct ρ' => exact forF_ok hs h2 q
    | bk ρ' =>
      cases h2
      exact q
    | rt d =>
      cases h2
      exact q
mutual
def evS (F : FG) : S → Rho → Option O
  | .set i t, ρ => (evE F t ρ).map fun d => .nx (ρ.set i (some (.dat d)))
  | .mk i t, ρ => (evE F t ρ).bind fun d => (e_list d).map fun ds => .nx (ρ.set i (some (.own ds)))
  | .unp is t, ρ => (evE F t ρ).bind fun d => (e_tup d).bind fun ds => (setAll is ds ρ).map .nx
  | .unpw is n k, ρ => if F.isTab n = true then (evE F k ρ).bind fun x => (F.tab n x).bind fun d => (e_tup d).bind fun ds => (setAllW is ds ρ).map .nx else none
  | .unpg is n k d, ρ => if F.isTab n = true then (evE F k ρ).bind fun x => (evE F d ρ).bind fun y =>
      if isKey x && (F.tab n (F.tk n)).isSome && kindB x (F.tk n) then (match F.tab n x with
        | some e => (e_tup e).bind fun ds => (setAllW is ds ρ).map .nx
        | none => (e_tup y).bind fun ds => (setAll is ds ρ).map .nx) else none else none
  | .seti i a b, ρ => (evE F b ρ).bind fun y => (e_own ρ i).bind fun ds => (evE F a ρ).bind fun x => (e_int x).bind fun k => (ixN ds.length k).map fun j => .nx (ρ.set i (some (.own (ds.set j y))))
  | .augi i o a b, ρ => (e_own ρ i).bind fun ds => (evE F a ρ).bind fun x => (e_int x).bind fun k => (ixN ds.length k).bind fun j => (ds[j]?).bind fun d => (evE F b ρ).bind fun y => (e_bin o d y).map fun z => .nx (ρ.set i (some (.own (ds.set j z))))
  | .aug i o t, ρ => (e_dat ρ i).bind fun x => (evE F t ρ).bind fun y => (e_bin o x y).map fun z => .nx (ρ.set i (some (.dat z)))
  | .app i t, ρ => (e_own ρ i).bind fun ds => (evE F t ρ).bind fun y => if ds.length < 100000 then some (.nx (ρ.set i (some (.own (ds ++ [y]))))) else none
  | .ext i t, ρ => (e_own ρ i).bind fun ds => (evE F t ρ).bind fun y => (e_list y).bind fun es => if ds.length + es.length ≤ 100000 then some (.nx (ρ.set i (some (.own (ds ++ es))))) else none
  | .cati i t, ρ => (e_own ρ i).bind fun ds => (evE F t ρ).bind fun y => (e_list y).bind fun es => if ds.length + es.length ≤ 100000 then some (.nx (ρ.set i (some (.own (ds ++ es))))) else none
  | .iff c a b, ρ => (evE F c ρ).bind fun x => (e_bool x).bind fun k => match k with
    | true => evSs F a ρ
    | false => evSs F b ρ
  | .fo i src b, ρ => (evI F src ρ).bind fun xs => forF (fun x ρ => evSs F b (ρ.set i (some (.dat x)))) xs ρ
  | .fou is src b, ρ => (evI F src ρ).bind fun xs => forF (fun x ρ => (e_tup x).bind fun ds => (setAll is ds ρ).bind fun ρ' => evSs F b ρ') xs ρ
  | .ret t, ρ => (evE F t ρ).map .rt
  | .brk, ρ => some (.bk ρ)
  | .cnt, ρ => some (.ct ρ)
  | .pas, ρ => some (.nx ρ)
  | .fz i, ρ => (e_own ρ i).map fun ds => .nx (ρ.set i (some (.dat (.list ds))))
  | .dead, _ => none
termination_by structural s => s
def evSs (F : FG) : Ss → Rho → Option O
  | .nil, ρ => some (.nx ρ)
  | .cons s ss, ρ => (evS F s ρ).bind fun o => match o with
    | .nx ρ' => evSs F ss ρ'
    | o => some o
termination_by structural s => s
end
theorem wOwn_of {ρ : Rho} {i : Nat} {ds : List PyData} {Q : List PyData → Prop} (h : e_own ρ i = some ds) (q : Q ds) : wOwn ρ i Q := by
  unfold wOwn
  rw [e_own_ok h]
  exact q
theorem wDat_of {ρ : Rho} {i : Nat} {d : PyData} {Q : PyData → Prop} (h : e_dat ρ i = some d) (q : Q d) : wDat ρ i Q := by
  unfold wDat
  rw [e_dat_ok h]
  exact q
theorem wTup_of {x : PyData} {ds : List PyData} {Q : List PyData → Prop} (h : e_tup x = some ds) (q : Q ds) : wTup x Q := by
  rw [e_tup_ok h]
  exact q
theorem wList_of {x : PyData} {ds : List PyData} {Q : List PyData → Prop} (h : e_list x = some ds) (q : Q ds) : wList x Q := by
  rw [e_list_ok h]
  exact q
theorem wInt_of {x : PyData} {i : Int} {Q : Int → Prop} (h : e_int x = some i) (q : Q i) : wInt x Q := by
  rw [e_int_ok h]
  exact q
def VOkS (F : FG) (s : S) : Prop := ∀ (ρ : Rho) (o : O) (Q : O → Prop), evS F s ρ = some o → Q o → wS F.ga s ρ Q
def VOkSs (F : FG) (ss : Ss) : Prop := ∀ (ρ : Rho) (o : O) (Q : O → Prop), evSs F ss ρ = some o → Q o → wSs F.ga ss ρ Q
theorem voks (F : FG) (ss : Ss) : VOkSs F ss := by
  refine Ss.rec (motive_1 := fun s => VOkS F s) (motive_2 := fun ss => VOkSs F ss) ?_ ?_ ?_ ?_ ?_ ?_ ?_ ?_ ?_ ?_ ?_ ?_ ?_ ?_ ?_ ?_ ?_ ?_ ?_ ?_ ?_ ?_ ss
  -- set
  · intro i t ρ o Q h q
    unfold evS at h
    obtain ⟨d, g1, g⟩ := Option.map_eq_some_iff.mp h
    subst g
    exact (vok F t).e _ _ _ g1 q
  -- mk
  · intro i t ρ o Q h q
    unfold evS at h
    obtain ⟨d, g1, g⟩ := Option.bind_eq_some_iff.mp h
    obtain ⟨ds, g2, k⟩ := Option.map_eq_some_iff.mp g
    subst k
    exact (vok F t).e _ _ _ g1 (wList_of g2 q)
  -- unp
  · intro is t ρ o Q h q
    unfold evS at h
    obtain ⟨d, g1, g⟩ := Option.bind_eq_some_iff.mp h
    obtain ⟨ds, g2, k⟩ := Option.bind_eq_some_iff.mp g
    obtain ⟨ρ', g3, l⟩ := Option.map_eq_some_iff.mp k
    subst l
    exact (vok F t).e _ _ _ g1 (wTup_of g2 ⟨ρ', g3, q⟩)
  -- unpw
  · intro is n t ρ o Q h q
    unfold evS at h
    split at h
    · rename_i ht
      obtain ⟨x, g1, g⟩ := Option.bind_eq_some_iff.mp h
      obtain ⟨d, g2, g⟩ := Option.bind_eq_some_iff.mp g
      obtain ⟨ds, g3, k⟩ := Option.bind_eq_some_iff.mp g
      obtain ⟨ρ', g4, l⟩ := Option.map_eq_some_iff.mp k
      subst l
      exact ⟨ht, (vok F t).e _ _ _ g1 ⟨d, g2, wTup_of g3 ⟨ρ', g4, q⟩⟩⟩
    · cases h
  -- unpg
  · intro is n t t2 ρ o Q h q
    unfold evS at h
    split at h
    · rename_i ht
      obtain ⟨x, g1, g⟩ := Option.bind_eq_some_iff.mp h
      obtain ⟨y, g2, g⟩ := Option.bind_eq_some_iff.mp g
      split at g
      · rename_i hk
        rw [Bool.and_eq_true, Bool.and_eq_true] at hk
        obtain ⟨d', hd'⟩ := Option.isSome_iff_exists.mp hk.1.2
        refine ⟨ht, (vok F t).e _ _ _ g1 ((vok F t2).e _ _ _ g2 ⟨hk.1.1, ⟨_, d', hd', hk.2⟩, fun e he => ?_, fun he => ?_⟩)⟩
        · have he : F.tab n x = some e := he
          rw [he] at g
          obtain ⟨ds, g3, k⟩ := Option.bind_eq_some_iff.mp g
          obtain ⟨ρ', g4, l⟩ := Option.map_eq_some_iff.mp k
          subst l
          exact wTup_of g3 ⟨ρ', g4, q⟩
        · have he : F.tab n x = none := he
          rw [he] at g
          obtain ⟨ds, g3, k⟩ := Option.bind_eq_some_iff.mp g
          obtain ⟨ρ', g4, l⟩ := Option.map_eq_some_iff.mp k
          subst l
          exact wTup_of g3 ⟨ρ', g4, q⟩
      · cases g
    · cases h
  -- seti
  · intro i a b ρ o Q h q
    unfold evS at h
    obtain ⟨y, g1, g⟩ := Option.bind_eq_some_iff.mp h
    obtain ⟨ds, g2, g⟩ := Option.bind_eq_some_iff.mp g
    obtain ⟨x, g3, g⟩ := Option.bind_eq_some_iff.mp g
    obtain ⟨k, g4, g⟩ := Option.bind_eq_some_iff.mp g
    obtain ⟨j, g5, g⟩ := Option.map_eq_some_iff.mp g
    subst g
    exact (vok F b).e _ _ _ g1 (wOwn_of g2 ((vok F a).e _ _ _ g3 (wInt_of g4 ⟨j, g5, q⟩)))
  -- augi
  · intro i op a b ρ o Q h q
    unfold evS at h
    obtain ⟨ds, g2, g⟩ := Option.bind_eq_some_iff.mp h
    obtain ⟨x, g3, g⟩ := Option.bind_eq_some_iff.mp g
    obtain ⟨k, g4, g⟩ := Option.bind_eq_some_iff.mp g
    obtain ⟨j, g5, g⟩ := Option.bind_eq_some_iff.mp g
    obtain ⟨d, g6, g⟩ := Option.bind_eq_some_iff.mp g
    obtain ⟨y, g7, g⟩ := Option.bind_eq_some_iff.mp g
    obtain ⟨z, g8, g⟩ := Option.map_eq_some_iff.mp g
    subst g
    exact wOwn_of g2 ((vok F a).e _ _ _ g3 (wInt_of g4 ⟨j, d, g5, g6, (vok F b).e _ _ _ g7 (e_bin_ok g8 q)⟩))
  -- aug
  · intro i op t ρ o Q h q
    unfold evS at h
    obtain ⟨x, g3, g⟩ := Option.bind_eq_some_iff.mp h
    obtain ⟨y, g7, g⟩ := Option.bind_eq_some_iff.mp g
    obtain ⟨z, g8, g⟩ := Option.map_eq_some_iff.mp g
    subst g
    exact wDat_of g3 ((vok F t).e _ _ _ g7 (e_bin_ok g8 q))
  -- app
  · intro i t ρ o Q h q
    unfold evS at h
    obtain ⟨ds, g3, g⟩ := Option.bind_eq_some_iff.mp h
    obtain ⟨y, g7, g⟩ := Option.bind_eq_some_iff.mp g
    split at g
    · rename_i hl
      cases g
      exact wOwn_of g3 ((vok F t).e _ _ _ g7 ⟨hl, q⟩)
    · cases g
  -- ext
  · intro i t ρ o Q h q
    unfold evS at h
    obtain ⟨ds, g3, g⟩ := Option.bind_eq_some_iff.mp h
    obtain ⟨y, g7, g⟩ := Option.bind_eq_some_iff.mp g
    obtain ⟨es, g8, g⟩ := Option.bind_eq_some_iff.mp g
    split at g
    · rename_i hl
      cases g
      exact wOwn_of g3 ((vok F t).e _ _ _ g7 (wList_of g8 ⟨hl, q⟩))
    · cases g
  -- cati
  · intro i t ρ o Q h q
    unfold evS at h
    obtain ⟨ds, g3, g⟩ := Option.bind_eq_some_iff.mp h
    obtain ⟨y, g7, g⟩ := Option.bind_eq_some_iff.mp g
    obtain ⟨es, g8, g⟩ := Option.bind_eq_some_iff.mp g
    split at g
    · rename_i hl
      cases g
      exact wOwn_of g3 ((vok F t).e _ _ _ g7 (wList_of g8 ⟨hl, q⟩))
    · cases g
  -- iff
  · intro c a b ha hb ρ o Q h q
    unfold evS at h
    obtain ⟨x, g1, g⟩ := Option.bind_eq_some_iff.mp h
    obtain ⟨k, g2, g⟩ := Option.bind_eq_some_iff.mp g
    refine (vok F c).e _ _ _ g1 (e_bool_ok g2 ⟨fun z => ?_, fun z => ?_⟩)
    · subst z
      exact ha _ _ _ g q
    · subst z
      exact hb _ _ _ g q
  -- fo
  · intro i src b hb ρ o Q h q
    unfold evS at h
    obtain ⟨xs, g1, g⟩ := Option.bind_eq_some_iff.mp h
    exact (vok F src).i _ _ _ g1 (forF_ok (body := fun x ρ R => wSs F.ga b (ρ.set i (some (.dat x))) R) (fun x ρ o R hx r => hb (ρ.set i (some (.dat x))) o R hx r) g q)
  -- fou
  · intro is src b hb ρ o Q h q
    unfold evS at h
    obtain ⟨xs, g1, g⟩ := Option.bind_eq_some_iff.mp h
    refine (vok F src).i _ _ _ g1 (forF_ok (fun x ρ o R hx r => ?_) g q)
    obtain ⟨ds, g3, k⟩ := Option.bind_eq_some_iff.mp hx
    obtain ⟨ρ', g4, l⟩ := Option.bind_eq_some_iff.mp k
    exact wTup_of g3 ⟨ρ', g4, hb _ _ _ l r⟩
  -- ret
  · intro t ρ o Q h q
    unfold evS at h
    obtain ⟨d, g1, g⟩ := Option.map_eq_some_iff.mp h
    subst g
    exact (vok F t).e _ _ _ g1 q
  · intro ρ o Q h q
    cases (show some (O.bk ρ) = some o from h)
    exact q
  · intro ρ o Q h q
    cases (show some (O.ct ρ) = some o from h)
    exact q
  · intro ρ o Q h q
    cases (show some (O.nx ρ) = some o from h)
    exact q
  -- fz
  · intro i ρ o Q h q
    unfold evS at h
    obtain ⟨ds, g1, g⟩ := Option.map_eq_some_iff.mp h
    subst g
    exact wOwn_of g1 q
  · intro ρ o Q h q
    cases (show (none : Option O) = some o from h)
  · intro ρ o Q h q
    cases (show some (O.nx ρ) = some o from h)
    exact q
  -- cons
  · intro s ss hs hss ρ o Q h q
    unfold evSs at h
    obtain ⟨o', g1, g⟩ := Option.bind_eq_some_iff.mp h
    refine hs _ _ _ g1 ?_
    cases o' with
    | nx ρ' => exact hss _ _ _ g q
    | rt d =>
      cases g
      exact q
    | bk ρ' =>
      cases g
      exact q
    | ct ρ' =>
      cases g
      exact q
/-- a def by its evaluation -/
def runD (F : FG) (b : Ss) (N : List Str) (n : Nat) : List PyData → Option PyData := fun ds => if ds.length = n then (match evSs F b (startR N ds) with
  | some (.rt d) => some d
  | some (.nx _) => some .none
  | _ => none) else none
theorem runD_ok {F : FG} {b : Ss} {N : List Str} {n : Nat} {ds : List PyData} {d : PyData} (h : runD F b N n ds = some d) : ds.length = n ∧ wSs F.ga b (startR N ds) (fun o => match o with
      | .rt e => e = d
      | .nx _ => d = .none
      | _ => False) := by
  unfold runD at h
  split at h
  · rename_i hl
    refine ⟨hl, ?_⟩
    split at h
    · rename_i e
      cases h
      exact voks F b _ _ _ e rfl
    · rename_i e
      cases h
      exact voks F b _ _ _ e rfl
    · cases h
  · cases h
theorem fnE {P : Program} {w : World} {K : PySem.W.Frag} {mg : Str → Option Value} {base : Heap} {x qual : Str} {st : Stmt} {f : Addr} {fd : FuncData} {ps : List Str} {cf : Cf} {F : FG} {body : Ss}
    (D : Fun K x qual st f fd) (S : FnScope cf.N ps (defScope st)) (hsc : cf.sc = defScope st) (gok : GOK cf P w K mg base F.ga) (hc : chkSs cf body (defBody st) = true) : FnOk P w K mg base CX0 (cf.L + 1) f fd ps (spD K (runD F body cf.N ps.length)) :=
  fn_ok D S hsc gok hc fun ds d h => runD_ok h
end Qd

set_option Elab.async false
set_option linter.all false
set_option maxRecDepth 100000
set_option maxHeartbeats 4000000
/-! the strict pieces as functions of their parts' data -/
namespace Qd
open PySem L2
def EF (g : List PyData → Option PyData) : List PyData → (PyData → Prop) → Prop := fun ds Q => ∃ d, g ds = some d ∧ Q d
theorem XR.mono {X : Cx} {p p' : PyData → Prop} {E E' : List PyData → (PyData → Prop) → Prop} {e e0 : Expr} {es : List Expr} (x : XR X p E e e0 es) (hp : ∀ d, p' d → p d) (hE : ∀ ds Q, E' ds Q → E ds Q) : XR X p' E' e e0 es := by
  refine ⟨fun Hb H σ Q h => x.ev Hb H σ Q fun S hS => h S fun Hb1 H1 v d g r pd pr => hS Hb1 H1 v d g r (hp d pd) fun R hR => pr R fun Hb2 H2 vs ds P g2 r2 w q => hR Hb2 H2 vs ds P g2 r2 (hE _ _ w) q, ?_⟩
  rcases x.ct with c | c
  · exact .inl c
  · exact .inr fun Hb H σ Q h => c Hb H σ Q fun S hS => h S fun Hb1 H1 v d g r pd pr => hS Hb1 H1 v d g r (hp d pd) fun R hR => pr R fun Hb2 H2 vs ds P g2 r2 w q => hR Hb2 H2 vs ds P g2 r2 (hE _ _ w) q
def f_dict : List PyData → Option PyData
  | [.list prs] => match pairsK prs with
    | some kds => some (.dict ((.none, .int 0) :: mergeD [] kds))
    | none => (pairsN prs).map fun kds => .dict ((.none, .int 2) :: mergeN [] kds)
  | _ => none
theorem f_dict_ext (ds : List PyData) (Q : PyData → Prop) (h : EF f_dict ds Q) : extDict ds Q := by
  obtain ⟨d, e, q⟩ := h
  unfold f_dict at e
  split at e
  · rename_i prs
    cases k : pairsK prs with
    | some kds =>
      rw [k] at e
      cases e
      exact .inl ⟨kds, k, q⟩
    | none =>
      rw [k] at e
      obtain ⟨kds, h1, h2⟩ := Option.map_eq_some_iff.mp e
      subst h2
      exact .inr ⟨kds, h1, q⟩
  · cases e
def f_dictN : List PyData → Option PyData
  | [.list prs] => (pairsN prs).map fun kds => .dict ((.none, .int 2) :: mergeN [] kds)
  | _ => none
theorem f_dictN_ext (ds : List PyData) (Q : PyData → Prop) (h : EF f_dictN ds Q) : extDict ds Q := by
  obtain ⟨d, e, q⟩ := h
  unfold f_dictN at e
  split at e
  · obtain ⟨kds, h1, h2⟩ := Option.map_eq_some_iff.mp e
    subst h2
    exact .inr ⟨kds, h1, q⟩
  · cases e
def f_in : List PyData → Option PyData
  | [k, .dict ((.none, .int t) :: ds)] => if t = 0 then (dkey k).map fun kk => .bool (lookD ds kk).isSome else if t = 2 then (if nkOk k = true then some (.bool (lookN ds k).isSome) else none) else none
  | _ => none
theorem f_in_ext (ds : List PyData) (Q : PyData → Prop) (h : EF f_in ds Q) : extIn ds Q := by
  obtain ⟨d, e, q⟩ := h
  unfold f_in at e
  split at e
  · rename_i k t ds
    by_cases h0 : t = 0
    · rw [if_pos h0] at e
      obtain ⟨kk, h1, h2⟩ := Option.map_eq_some_iff.mp e
      subst h2
      exact .inl ⟨h0, kk, h1, q⟩
    · rw [if_neg h0] at e
      split at e
      · rename_i h2
        split at e
        · rename_i h3
          cases e
          exact .inr ⟨h2, h3, q⟩
        · cases e
      · cases e
  · cases e
def f_fld (nm f : Str) : List PyData → Option PyData
  | [.dict ((.none, .str x) :: fs)] => if x = nm then lookF f fs else none
  | _ => none
theorem f_fld_ext (nm f : Str) (ds : List PyData) (Q : PyData → Prop) (h : EF (f_fld nm f) ds Q) : extFld nm f ds Q := by
  obtain ⟨d, e, q⟩ := h
  unfold f_fld at e
  split at e
  · split at e
    · rename_i h
      exact ⟨h, d, e, q⟩
    · cases e
  · cases e
def p_met (nm m : Str) : PyData → Bool
  | .dict ((.none, .str x) :: fs) => decide (x = nm) && (lookF m fs).isNone
  | _ => false
theorem p_met_pre (nm m : Str) (d : PyData) (h : p_met nm m d = true) : preMet nm m d := by
  unfold p_met at h
  split at h
  · rw [Bool.and_eq_true, decide_eq_true_eq, Option.isNone_iff_eq_none] at h
    exact h
  · cases h
section
variable {X : Cx} {P : Program} {w : World} {K : PySem.W.Frag} {mg : Str → Option Value} {base : Heap} {L L' : Nat} {sc : Scope} {e e0 : Expr} {es : List Expr}
theorem xf_dict (xc : XC X P w K mg base L sc) (hm : mg ("dict" : Str) = none) (he : subDict sc e = some (e0, es)) : XR X (fun _ => true = true) (EF f_dict) e e0 es := (xr_dict xc hm he).mono (fun _ _ => True.intro) f_dict_ext
theorem xf_dictN (xc : XC X P w K mg base L sc) (hm : mg ("dict" : Str) = none) (he : subDict sc e = some (e0, es)) : XR X (fun _ => true = true) (EF f_dictN) e e0 es := (xr_dict xc hm he).mono (fun _ _ => True.intro) f_dictN_ext
theorem xf_in (xc : XC X P w K mg base L sc) (he : subIn e = some (e0, es)) : XR X (fun _ => true = true) (EF f_in) e e0 es := (xr_in xc he).mono (fun _ _ => True.intro) f_in_ext
theorem xf_fld {nm f : Str} (xc : XC X P w K mg base L sc) (c : Cls K (He.ga K nm)) (n : NoAttr K (He.ga K nm) f) (he : subFld f e = some (e0, es)) : XR X (fun _ => true = true) (EF (f_fld nm f)) e e0 es := by
  obtain ⟨rfl, rfl, rfl, rfl, rfl, calm, room, sc'⟩ := xc
  exact (xr_fld c n he).mono (fun _ _ => True.intro) (f_fld_ext nm f)
theorem xf_met {nm m : Str} {g : List PyData → Option PyData} (xc : XC X P w K mg base L sc) (c : MetAt P w K mg base L nm m g) (he : subMet m e = some (e0, es)) : XR X (fun d => p_met nm m d = true) (EF g) e e0 es := (xr_met xc c he).mono (p_met_pre nm m) fun _ _ h => h
theorem xf_new {nm : Str} {g : List PyData → Option PyData} (xc : XC X P w K mg base L sc) (c : MkAt P w K mg base L' nm g) (hL : L' + 1 ≤ L) (he : subNew nm sc e = some (e0, es)) : XR X (fun _ => true = true) (EF g) e e0 es := (xr_new xc c hL he).mono (fun _ _ => True.intro) fun _ _ h => h
end
theorem MetAt.mono {P : Program} {w : World} {K : PySem.W.Frag} {mg : Str → Option Value} {base : Heap} {L L' : Nat} {nm m : Str} {g : List PyData → Option PyData} (h : MetAt P w K mg base L nm m g) (l : L ≤ L') : MetAt P w K mg base L' nm m g := by
  obtain ⟨f, fd, ps, a, b, c, d⟩ := h
  exact ⟨f, fd, ps, a, b, c, d.mono l⟩
/-! ### written dicts as functions -/
def getI (kds : List (Int × PyData)) : PyData → Option PyData
  | .int k => lookI kds k
  | _ => none
theorem getI_key {kds : List (Int × PyData)} (x d : PyData) (h : getI kds x = some d) : isKey x = true := by
  unfold getI at h
  split at h
  · rfl
  · cases h
def getT (kds : List (List Int × PyData)) : PyData → Option PyData
  | .tuple ds => (ints? ds).bind (lookT kds)
  | _ => none
theorem ints_map : ∀ ns : List Int, ints? (ns.map PyData.int) = some ns
  | [] => rfl
  | n :: ns => by
    rw [List.map_cons, ints?, ints_map ns]
    rfl
theorem getT_look {kds : List (List Int × PyData)} (k : List Int) : getT kds (.tuple (k.map PyData.int)) = lookT kds k := by
  show (ints? _).bind _ = _
  rw [ints_map]
  rfl
theorem getT_key {kds : List (List Int × PyData)} (x d : PyData) (h : getT kds x = some d) : isKey x = true := by
  unfold getT at h
  split at h
  · obtain ⟨ns, h1, _⟩ := Option.bind_eq_some_iff.mp h
    rw [ints_ok h1]
    show ((ns.map PyData.int).all fun d => match d with
      | .int _ => true
      | _ => false) = true
    rw [List.all_map]
    exact List.all_eq_true.mpr fun _ _ => rfl
  · cases h
def metD (c m : Str) (q : Str) (st : Stmt) : He.DefD := ⟨(c, some m), m, q, defArgs st, defBody st, defScope st, [], []⟩
theorem runD_eq {F : FG} {b : Ss} {N : List Str} {n : Nat} {ds : List PyData} {d : PyData} (hl : ds.length = n) (h : evSs F b (startR N ds) = some (.rt d)) : runD F b N n ds = some d := by
  unfold runD
  rw [if_pos hl, h]
end Qd

set_option Elab.async false
set_option linter.all false
set_option maxRecDepth 100000
set_option maxHeartbeats 4000000
/-! the class of solids: its constructor -/
namespace Qd
open PySem L2
section
variable {G : Ga} {cf : Cf} {X : Cx}
theorem oks (G : Ga) (s : S) : OkS G s := by
  refine S.rec (motive_1 := fun s => OkS G s) (motive_2 := fun ss => OkSs G ss) ?_ ?_ ?_ ?_ ?_ ?_ ?_ ?_ ?_ ?_ ?_ ?_ ?_ ?_ ?_ ?_ ?_ ?_ ?_ ?_ ?_ ?_ s
  · exact q_set
  · exact q_mk
  · exact q_unp
  · exact q_unpw
  · exact q_unpg
  · exact q_seti
  · exact q_augi
  · exact q_aug
  · exact q_app
  · exact q_ext
  · exact q_cati
  · exact fun c sa sb ha hb => q_iff c ha hb
  · exact fun i src sb hb => q_fo i src hb
  · exact fun is src sb hb => q_fou is src hb
  · exact q_ret
  · exact q_brk
  · exact q_cnt
  · exact q_pas
  · exact q_fz
  · exact q_dead
  · exact q_nil
  · exact fun s ss hs hr => q_cons hs hr
def OkApp (G : Ga) (ss : Ss) : Prop := ∀ cf X sts, XOK X cf G → (∀ n, X.fn n = true) → chkSs cf ss sts = true → ∀ (M Hb0 H0 Hb H : Hp) (σ : L2.St) (ρ : Rho) (P : O → Prop) (D : Ends) (rest : List Stmt),
  EnS X.K M Hb0 H0 Hb H σ ρ → wSs G ss ρ P → Fin X.K M Hb0 H0 P { D with nx := fun σ H => WSs X rest D σ H } → WSs X (sts ++ rest) D σ H
theorem okapp (G : Ga) (ss : Ss) : OkApp G ss := by
  refine Ss.rec (motive_1 := fun s => True) (motive_2 := fun ss => OkApp G ss) ?_ ?_ ?_ ?_ ?_ ?_ ?_ ?_ ?_ ?_ ?_ ?_ ?_ ?_ ?_ ?_ ?_ ?_ ?_ ?_ ?_ ?_ ss
  case refine_21 =>
    intro cf X sts ok fn h M Hb0 H0 Hb H σ ρ P D rest I w k
    cases sts with
    | nil => exact (k _ w) _ _ _ I
    | cons _ _ => simp only [chkSs, Bool.false_eq_true] at h
  case refine_22 =>
    intro s ss _ hr cf X sts ok fn h M Hb0 H0 Hb H σ ρ P D rest I w k
    have cut : ∀ {s : S}, (∀ i, s ≠ .fz i) → ∀ sts, chkSs cf (.cons s ss) sts = true → ∃ st r, sts = st :: r ∧ chkS cf s st = true ∧ chkSs cf ss r = true := fun {s} n sts h => by
      cases s <;> first | exact absurd rfl (n _) | skip
      all_goals (cases sts with
        | nil => simp only [chkSs, Bool.false_eq_true] at h
        | cons st r =>
          simp only [chkSs, Bool.and_eq_true] at h
          exact ⟨st, r, rfl, h.1, h.2⟩)
    by_cases z : ∃ i, s = .fz i
    · obtain ⟨i, rfl⟩ := z
      simp only [chkSs] at h
      obtain ⟨ds, ho, w1⟩ := wOwn_inv (show wOwn ρ i (fun ds => wSs G ss (ρ.set i (some (.dat (.list ds)))) P) from w)
      obtain ⟨Hb', I'⟩ := I.froz ho
      exact hr _ _ _ ok fn h M Hb0 H0 Hb' H σ _ P D rest I' w1 k
    · obtain ⟨st, r, rfl, h1, h2⟩ := cut (fun i e => z ⟨i, e⟩) sts h
      refine ⟨_, pss_cons ps_W pss_W, ?_⟩
      refine oks G s _ _ _ ok fn h1 M Hb0 H0 Hb H σ ρ _ _ I w ?_
      intro o ho
      cases o with
      | nx ρ' => exact fun σ' Hb' H' I' => hr _ _ _ ok fn h2 M Hb0 H0 Hb' H' σ' ρ' P D rest I' ho k
      | rt d => exact k _ ho
      | bk ρ' => exact k _ ho
      | ct ρ' => exact k _ ho
  all_goals (intros; trivial)
end
def adr (a : Addr) : PyData := .dict [(.none, .none), (.int (a : Nat), .none)]
def thereD (gs : List PyData) : List (PyData × PyData) := gs.foldl (fun acc g => putD acc g (.bool true)) []
def solidD (n : Int) (gs : List PyData) : PyData := .dict [(.none, .str "Solid"), (.str "size", .int n), (.str "_there", .dict ((.none, .int 0) :: thereD gs)), (.str "_grains", .list (((thereD gs).map (·.1)).mergeSort (PySem.W.dataLe false id)))]
def inRng (n : Int) : PyData → Bool
  | .int k => decide (0 ≤ k) && decide (k < 24 * n ^ 3)
  | _ => false
def g_solid : List PyData → Option PyData
  | [.int n, .list gs] => if 2 ≤ n ∧ n ≤ 6 ∧ gs.length ≤ 100000 ∧ gs.all (inRng n) = true then some (solidD n gs) else none
  | _ => none
def b_init : Ss := (.cons (.iff (.not (.chain .le .le (.gl 0) (.v 1) (.gl 1))) (.cons .dead .nil) .nil) (.cons (.set 3 (.call 2 (.cons (.v 1) .nil))) (.cons (.fo 4 (.v 2) (.cons (.iff (.not (.chain .le .lt (.k (.int 0)) (.v 4) (.v 3))) (.cons .dead .nil) .nil) .nil)) .nil)))
theorem inRng_ex {n : Int} {d : PyData} (h : inRng n d = true) : ∃ k, d = .int k ∧ 0 ≤ k ∧ k < 24 * n ^ 3 := by
  unfold inRng at h
  split at h
  · rw [Bool.and_eq_true, decide_eq_true_eq, decide_eq_true_eq] at h
    exact ⟨_, rfl, h.1, h.2⟩
  · cases h
theorem init_loop {F : FG} {a : Addr} {n : Int} {gs0 : PyData} : ∀ {gs : List PyData} {c4 : Option B}, gs.all (inRng n) = true → (∀ b, isOw b = true → c4 ≠ some b) →
    ∃ c4', (∀ b, isOw b = true → c4' ≠ some b) ∧ forF (fun x ρ => evSs F (.cons (.iff (.not (.chain .le .lt (.k (.int 0)) (.v 4) (.v 3))) (.cons .dead .nil) .nil) .nil) (ρ.set 4 (some (.dat x)))) gs [some (.dat (adr a)), some (.dat (.int n)), some (.dat gs0), some (.dat (.int (24 * n ^ 3))), c4] =
      some (.nx [some (.dat (adr a)), some (.dat (.int n)), some (.dat gs0), some (.dat (.int (24 * n ^ 3))), c4'])
  | [], c4, _, hc => ⟨c4, hc, rfl⟩
  | g :: gs, c4, h, _ => by
    rw [List.all_cons, Bool.and_eq_true] at h
    obtain ⟨k, rfl, h1, h2⟩ := inRng_ex h.1
    obtain ⟨c5, hc, e⟩ := init_loop (F := F) (c4 := some (.dat (.int k))) h.2 (fun b hb z => by cases z <;> cases hb)
    refine ⟨c5, hc, ?_⟩
    rw [← e, forF]
    simp [evSs, evS, evE, e_var, e_cmp, e_bool, h1, h2]
theorem init_run {F : FG} {a : Addr} {n : Int} {gs : List PyData} (f0 : F.con 0 = some (.int 2)) (f1 : F.con 1 = some (.int 6)) (f2 : F.isFn 2 = true) (f3 : F.fn 2 [.int n] = some (.int (24 * n ^ 3))) (h : 2 ≤ n ∧ n ≤ 6 ∧ gs.length ≤ 100000 ∧ gs.all (inRng n) = true) :
    ∃ c4, (∀ b, isOw b = true → c4 ≠ some b) ∧ evSs F b_init [some (.dat (adr a)), some (.dat (.int n)), some (.dat (.list gs)), none, none] = some (.nx [some (.dat (adr a)), some (.dat (.int n)), some (.dat (.list gs)), some (.dat (.int (24 * n ^ 3))), c4]) := by
  obtain ⟨c4, hc, e⟩ := init_loop (F := F) (a := a) (n := n) (gs0 := .list gs) (c4 := none) h.2.2.2 (fun b hb z => by cases z <;> cases hb)
  refine ⟨c4, hc, ?_⟩
  unfold b_init
  simp [evSs, evS, evE, evI, evEs, e_var, e_cmp, e_bool, f0, f1, f2, f3, h.1, h.2.1, e_sq] at e ⊢
  rw [e]
  rfl
theorem putD_len (ds : List (PyData × PyData)) (k v : PyData) : (putD ds k v).length ≤ ds.length + 1 := by
  unfold putD
  split <;> simp
theorem dc_there {F : FG} {ρ : Rho} (hl : ρ.length = 5) {n : Int} : ∀ {gs : List PyData} {acc : List (PyData × PyData)}, gs.all (inRng n) = true → acc.length + gs.length ≤ 100000 →
    dcF (fun x => (evE F (.v 4) (ρ.set 4 (some (.dat x)))).bind fun k => (evE F (.k (.bool true)) (ρ.set 4 (some (.dat x)))).map fun y => (k, y)) gs acc = some (gs.foldl (fun acc g => putD acc g (.bool true)) acc)
  | [], acc, _, _ => rfl
  | g :: gs, acc, h, l => by
    rw [List.all_cons, Bool.and_eq_true] at h
    rw [List.length_cons] at l
    obtain ⟨k, rfl, h1, h2⟩ := inRng_ex h.1
    have e := dc_there (F := F) hl (n := n) (gs := gs) (acc := putD acc (.int k) (.bool true)) h.2 (by have := putD_len acc (.int k) (.bool true); omega)
    have v : e_var (ρ.set 4 (some (B.dat (.int k)))) 4 = some (.int k) := by
      unfold e_var
      rw [List.getElem?_set_self (by omega)]
    rw [dcF]
    simp only [evE, v, Option.bind_some, Option.map_some, dkey, Option.isSome_some, Bool.true_and]
    rw [if_pos (decide_eq_true (by omega))]
    simp only [evE] at e
    exact e
theorem dc_eval {F : FG} {a : Addr} {n : Int} {gs : List PyData} {c3 c4 : Option B} (h : gs.all (inRng n) = true) (l : gs.length ≤ 100000) :
    evE F (.dc 4 (.v 2) (.v 4) (.k (.bool true))) [some (.dat (adr a)), some (.dat (.int n)), some (.dat (.list gs)), c3, c4] = some (.dict ((.none, .int 0) :: thereD gs)) := by
  rw [evE]
  have e := dc_there (F := F) (ρ := [some (.dat (adr a)), some (.dat (.int n)), some (.dat (.list gs)), c3, c4]) rfl (acc := []) h (by simpa using l)
  show (some gs).bind _ = _
  rw [Option.bind_some, e]
  rfl
/-- the keys of there -/
theorem there_keys {n : Int} : ∀ {gs : List PyData} {acc : List (PyData × PyData)}, gs.all (inRng n) = true → (acc.map (·.1)).all intB = true → ((gs.foldl (fun acc g => putD acc g (.bool true)) acc).map (·.1)).all intB = true
  | [], acc, _, h => h
  | g :: gs, acc, h, k => by
    rw [List.all_cons, Bool.and_eq_true] at h
    rw [List.foldl_cons]
    refine there_keys (n := n) (gs := gs) h.2 ?_
    obtain ⟨i, rfl, _⟩ := inRng_ex h.1
    unfold putD
    split
    · rw [List.map_map]
      have : ((fun p : PyData × PyData => p.1) ∘ fun p => if dkey p.1 = dkey (.int i) then (p.1, PyData.bool true) else p) = fun p => p.1 := by
        funext p
        show (if _ then _ else p).1 = p.1
        split <;> rfl
      rw [this]
      exact k
    · rw [List.map_append, List.all_append, k]
      rfl
theorem fold_len : ∀ {gs : List PyData} {acc : List (PyData × PyData)}, (gs.foldl (fun acc g => putD acc g (.bool true)) acc).length ≤ acc.length + gs.length
  | [], acc => Nat.le_refl _
  | g :: gs, acc => by
    have := fold_len (gs := gs) (acc := putD acc g (.bool true))
    have := putD_len acc g (.bool true)
    rw [List.foldl_cons, List.length_cons]
    omega
theorem dk_keys {K : PySem.W.Frag} {H : Hp} : ∀ {kvs : List (Key × V)} {ds : List (PyData × PyData)}, DkAll K H kvs ds → DpAll K H (kvs.map fun kv => kV kv.1) (ds.map (·.1))
  | _, _, .nil => .nil
  | _, _, .int (i := i) r t => .cons (.int i) (dk_keys t)
  | _, _, .str (i := i) r t => .cons (.str i) (dk_keys t)
section
variable {P : Program} {w : World} {K : PySem.W.Frag} {mg : Str → Option Value} {base : Heap}
structure SolK (K : PySem.W.Frag) (mg : Str → Option Value) : Prop where
  cls : Cls K (He.ga K "Solid")
  n1 : NoAttr K (He.ga K "Solid") "size"
  n2 : NoAttr K (He.ga K "Solid") "_there"
  n3 : NoAttr K (He.ga K "Solid") "_grains"
  m1 : mg ("sorted" : Str) = none
  m2 : mg ("list" : Str) = none
theorem ok_solid {st : Stmt} {f : Addr} {fd : FuncData} {qn : Str} {cf : Cf} {F : FG} {e4 e5 : Expr} {p1 p2 p3 p4 p5 p6 p7 p8 p9 p10 p11 p12 p13 p14 p15 : Pos} (D : Fun K "__init__" qn st f fd) (S : FnScope cf.N ["self", "size", "grains"] (defScope st)) (hsc : cf.sc = defScope st) (gok : GOK cf P w K mg base F.ga)
    (hN : cf.N = (["self", "size", "grains", "many", "grain"] : List Str)) (hc : chkSs cf b_init ((defBody st).take 3) = true)
    (hd : (defBody st).drop 3 = [.Assign [.Attribute (.Name "self" p1) "size" p2] e4 p3, .Assign [.Attribute (.Name "self" p4) "_there" p5] e5 p6,
      .Assign [.Attribute (.Name "self" p7) "_grains" p8] (.Call (.Name "sorted" p9) [.Call (.Name "list" p10) [.Attribute (.Name "self" p11) "_there" p12] [] p13] [] p14) p15])
    (h4 : chkE cf (.v 1) e4 = true) (h5 : chkE cf (.dc 4 (.v 2) (.v 4) (.k (.bool true))) e5 = true) (hs : chkV cf 0 "self" = true) (hg1 : glB cf.sc "sorted" = true) (hg2 : glB cf.sc "list" = true)
    (w4 : ∀ env, swapsWith e4 (some (.Attribute (.Name "self" p1) "size" p2)) p3.line env = pure false) (w5 : ∀ env, swapsWith e5 (some (.Attribute (.Name "self" p4) "_there" p5)) p6.line env = pure false)
    (f0 : F.con 0 = some (.int 2)) (f1 : F.con 1 = some (.int 6)) (f2 : F.isFn 2 = true) (f3 : ∀ n : Int, 2 ≤ n → n ≤ 6 → F.fn 2 [.int n] = some (.int (24 * n ^ 3))) (kk : SolK K mg) :
    FnOk P w K mg base CX0 (cf.L + 1) f fd ["self", "size", "grains"] (spMk K "Solid" g_solid) := by
  refine D.ok S (fun vs H Q E h => ?_) (fun cdv A outer s H vs Q E hr h => ?_)
  · obtain ⟨Hb, x, dx, vs', ds, d, rfl, _, _, _, _, _, _, h1, h2, _⟩ := h
    unfold g_solid at h2
    split at h2
    · have := dpa_len h1
      simpa using this
    · cases h2
  · obtain ⟨Hb, x, dx, vs', ds, d, rfl, ex, nbx, nbd, ne, hdx, hx, h1, h2, q⟩ := h
    unfold g_solid at h2
    split at h2 <;> first | (cases h2; done) | skip
    rename_i n gs
    split at h2 <;> first | (cases h2; done) | skip
    rename_i hn
    cases h2
    have ok : XOK (cxOf CX0 P w K mg base cf.N qn (defScope st) f cdv A outer s H E).nox cf F.ga := ⟨rfl, S.nd, hsc.symm, rfl, hr, rfl, gok⟩
    obtain ⟨c4, hc4, er⟩ := init_run (F := F) (a := x) f0 f1 f2 (f3 n hn.1 hn.2.1) hn
    have ws := voks F b_init _ _ (fun o => o = .nx [some (.dat (adr x)), some (.dat (.int n)), some (.dat (.list gs)), some (.dat (.int (24 * n ^ 3))), c4]) er rfl
    obtain ⟨u1, u2, rfl, r1, r2⟩ := dpa2 h1
    have I : EnS K Hb Hb H Hb H (L2.start cf.N [.ref x, u1, u2]) [some (.dat (adr x)), some (.dat (.int n)), some (.dat (.list gs)), none, none] := by
      have es : startR cf.N [adr x, .int n, .list gs] = [some (.dat (adr x)), some (.dat (.int n)), some (.dat (.list gs)), none, none] := by
        rw [hN]
        rfl
      rw [← es]
      have hall : DpAll K Hb [.ref x, u1, u2] [adr x, .int n, .list gs] := .cons (.adr x) (.cons r1 (.cons r2 .nil))
      have lens : (L2.start cf.N [.ref x, u1, u2]).length = (startR cf.N [adr x, .int n, .list gs]).length := by
        rw [hN]
        rfl
      exact ⟨⟨lens, ex, fun i d e => start_dat hall e, fun i b hb e => (start_own hb e).elim, fun i d e => (start_wri e).elim, fun i j p b c hb _ e _ _ _ => (start_own hb e).elim⟩, Gr.refl ex, Same.refl _, fun i b p hb e _ => (start_own hb e).elim⟩
    have hdd : defBody st = (defBody st).take 3 ++ (defBody st).drop 3 := (List.take_append_drop 3 _).symm
    have key : WSs (cxOf CX0 P w K mg base cf.N qn (defScope st) f cdv A outer s H E).nox ((defBody st).take 3 ++ (defBody st).drop 3) { nx := fun _ H' => Q .non H', rt := Q } (L2.start cf.N [.ref x, u1, u2]) H := by
      refine okapp F.ga b_init cf _ _ ok (fun _ => rfl) hc Hb Hb H Hb H _ _ _ _ _ I ws ?_
      intro o ho
      cases ho
      intro σ1 Hb1 H1 I1
      show WSs _ ((defBody st).drop 3) _ σ1 H1
      rw [hd]
      obtain ⟨v0, sx, q0⟩ := I1.en.dat 0 (adr x) rfl
      cases Dp.adr_inv q0
      obtain ⟨c1, c2, c3⟩ := chkV_of hs
      have px : ∀ p, PE (cxOf CX0 P w K mg base cf.N qn (defScope st) f cdv A outer s H E).nox (.Name "self" p) (tVar 0) := fun p => pe_var (i := 0) (by rw [ok.N]; exact c1) (vis_of (by rw [ok.sc]; exact c2)) (nm1 c3) (nm2 c3)
      have pl := pe_callTy (X := (cxOf CX0 P w K mg base cf.N qn (defScope st) f cdv A outer s H E).nox) (p := p10) (pos := p13) (call_listD ok.calm) (gl_of ok hg2) kk.m2 (by decide +kernel) (pa_cons (pe_fld (f := "_there") (pos := p12) (px p11) rfl) pa_nil)
      have p6 := pe_callB (X := (cxOf CX0 P w K mg base cf.N qn (defScope st) f cdv A outer s H E).nox) (p := p9) (pos := p14) (Pd.cr_sortD (cf := ⟨cf.N, cf.sc, cf.names, cf.L⟩) ok.room) (gl_of ok hg1) kk.m1 (by decide +kernel) (pa_cons pl pa_nil)
      refine ⟨_, pss_cons (ps_fld (px _) pe_W (w4 _)) (pss_cons (ps_fld (px _) pe_W (w5 _)) (pss_one (ps_fld (px _) p6 rfl))), ?_⟩
      have no : ∀ (i : Nat) (b : B), isOw b = true → ([some (.dat (adr x)), some (.dat (.int n)), some (.dat (.list gs)), some (.dat (.int (24 * n ^ 3))), c4] : Rho)[i]? = some (some b) → False := fun i b hb e => by
        match i, e with
        | 0, e =>
          cases (show some (some (B.dat (adr x))) = some (some b) from e)
          cases hb
        | 1, e =>
          cases (show some (some (B.dat (.int n))) = some (some b) from e)
          cases hb
        | 2, e =>
          cases (show some (some (B.dat (.list gs))) = some (some b) from e)
          cases hb
        | 3, e =>
          cases (show some (some (B.dat (.int (24 * n ^ 3)))) = some (some b) from e)
          cases hb
        | 4, e => exact hc4 b hb (Option.some.inj (show some c4 = some (some b) from e))
        | i + 5, e => exact nomatch (show (none : Option (Option B)) = some (some b) from e)
      have b1x : Hb1 x = none := I1.gr.d x _ hx nbx
      have h1x := I1.gr.b x _ hx
      refine (okk F.ga (.v 1)).e cf _ e4 ok h4 Hb1 H1 σ1 _ (fun d => d = .int n) _ I1.en ((vok F (.v 1)).e _ (.int n) _ rfl rfl) fun d v Hb2 H2 ed g2 q2 => ?_
      subst ed
      cases Dp.int_inv q2
      have b2x : Hb2 x = none := g2.d x _ h1x b1x
      have h2x := g2.b x _ h1x
      refine ⟨.ref x, sx, x, _, dx, [], rfl, h2x, kk.cls, kk.n1, by decide, ?_⟩
      have I3 : En K Hb2 (upd H2 x (.ins (He.ga K "Solid") dx (putF "size" (.int n) []))) σ1 [some (.dat (adr x)), some (.dat (.int n)), some (.dat (.list gs)), some (.dat (.int (24 * n ^ 3))), c4] := by
        have z := I1.en.mono g2
        exact ⟨z.len, fun p u e => by rw [upd_ne (ne_of_none e b2x)]; exact z.ex p u e, z.dat, fun i b hb e => (no i b hb e).elim, z.wri, z.dis⟩
      refine (okk F.ga _).e cf _ e5 ok h5 Hb2 _ σ1 _ (fun d => d = .dict ((.none, .int 0) :: thereD gs)) _ I3 ((vok F _).e _ _ _ (dc_eval hn.2.2.2 hn.2.2.1) rfl) fun d v Hb3 H4 ed g3 q3 => ?_
      subst ed
      obtain ⟨a5, kvs, rfl, h5a, h5b⟩ := Dp.dk_inv q3
      have h3x : (upd H2 x (.ins (He.ga K "Solid") dx (putF "size" (.int n) []))) x = some (.ins (He.ga K "Solid") dx (putF "size" (.int n) [])) := upd_same
      have b3x : Hb3 x = none := g3.d x _ h3x b2x
      have h4x := g3.b x _ h3x
      refine ⟨.ref x, sx, x, _, dx, _, rfl, h4x, kk.cls, kk.n2, (by show (1 : Nat) < 1000; decide), ?_⟩
      refine ⟨.ref x, sx, x, _, dx, _, .ref a5, rfl, upd_same, kk.cls, kk.n2, rfl, ?_⟩
      have na5 : a5 ≠ x := by
        rcases h5a with z | ⟨o, z⟩ <;> exact ne_of_none z b3x
      have h4a := rd_mono g3.c h5a
      refine ⟨a5, kvs, rfl, ?_, fun p hp => ?_⟩
      · rcases h4a with z | ⟨o, z⟩
        · exact .inl (by rw [upd_ne na5]; exact z)
        · exact .inr ⟨o, by rw [upd_ne na5]; exact z⟩
      have npx : p ≠ x := fun z => by
        rw [z, upd_same] at hp
        cases hp
      have h4p : H4 p = none := by
        rw [upd_ne npx] at hp
        exact hp
      have b3p : Hb3 p = none := none_of_ex g3.c h4p
      have ek := there_keys (n := n) (gs := gs) (acc := []) hn.2.2.2 rfl
      obtain ⟨s1, s2, s3, s4⟩ := sort_ints ek
      have elen : ((thereD gs).map (·.1)).length ≤ 100000 := by
        have := fold_len (gs := gs) (acc := [])
        rw [List.length_map]
        exact Nat.le_trans this (by simpa using hn.2.2.1)
      refine ⟨Hb3, p, _, _, fun b o e => ?_, rfl, .inl (SqL.of upd_same), DpAll.l2 _ _ s4 (dk_keys h5b), s1, s2, elen, s3, fun l zs hl r3 => ?_⟩
      · rw [upd_ne (ne_of_none e b3p), upd_ne (ne_of_none e b3x)]
        exact g3.c _ _ e
      have nlp : l ≠ p := fun z => by
        rw [z, upd_same] at hl
        cases hl
      have nlx : l ≠ x := fun z => by
        rw [z, upd_ne npx.symm, upd_same] at hl
        cases hl
      have h4l : H4 l = none := by
        rw [upd_ne nlp, upd_ne nlx] at hl
        exact hl
      have b3l : Hb3 l = none := none_of_ex g3.c h4l
      refine ⟨.ref x, sx, x, _, dx, _, rfl, (by rw [upd_ne nlx.symm, upd_ne npx.symm, upd_same]), kk.cls, kk.n3, (by show (2 : Nat) < 1000; decide), ?_⟩
      have ebx : Ex Hb Hb3 := I1.gr.a.trans (g2.a.trans g3.a)
      have nbl : Hb l = none := none_of_ex ebx b3l
      have hup : ∀ (b : Addr) (o : HO), H b = some o → b ≠ x → H4 b = some o := fun b o e nb => g3.b _ _ (by rw [upd_ne nb]; exact g2.b _ _ (I1.gr.b _ _ e))
      refine q (upd (upd Hb3 l (.lst zs)) x (.ins (He.ga K "Solid") dx [("size", .int n), ("_there", .ref a5), ("_grains", .ref l)])) _ (fun b o e => ?_) (fun b o e => ?_) (fun b o e nb => ?_) (fun b o e nb ndx en => ?_) ?_
      · rw [upd_ne (ne_of_none e nbx), upd_ne (ne_of_none e nbl)]
        exact ebx _ _ e
      · by_cases z : b = x
        · rw [z, upd_same] at e ⊢
          exact e
        · rw [upd_ne z] at e ⊢
          by_cases z2 : b = l
          · rw [z2, upd_same] at e ⊢
            exact e
          · rw [upd_ne z2] at e ⊢
            rw [upd_ne (ne_of_none e b3p), upd_ne z]
            exact g3.c _ _ e
      · have e4 := hup b o e nb
        rw [upd_ne nb, upd_ne (ne_of_none e4 h4l), upd_ne (ne_of_none e4 h4p), upd_ne nb]
        exact e4
      · have e4 := hup b o e nb
        rw [upd_ne nb, upd_ne (ne_of_none e4 h4l)]
        have b1 := I1.gr.d _ _ e en
        have b2 := g2.d _ _ (I1.gr.b _ _ e) b1
        exact g3.d b o (by rw [upd_ne nb]; exact g2.b _ _ (I1.gr.b _ _ e)) b2
      · have exl : Ex Hb3 (upd (upd Hb3 l (.lst zs)) x (.ins (He.ga K "Solid") dx [("size", .int n), ("_there", .ref a5), ("_grains", .ref l)])) := (ex_upd b3l).trans (ex_upd (by rw [upd_ne nlx.symm]; exact b3x))
        exact .ob upd_same (.cons (.int n) (.cons (.dk (rd_mono exl h5a) (dk_mono exl h5b)) (.cons (.lst (SqL.of (by rw [upd_ne nlx]; exact upd_same)) (dpa_mono exl _ _ (DpAll.of2 _ _ r3))) .nil)))
    rw [← hdd] at key
    obtain ⟨t, z1, z2⟩ := key
    exact ⟨t, z1, z2⟩
end
end Qd

set_option Elab.async false
set_option linter.all false
set_option maxRecDepth 100000
set_option maxHeartbeats 4000000
namespace K17
open PySem L2 Qd
def topS (i : Nat) : Stmt := PySem.Challenge.pw_partloft_k17_sections.main.body.getD i (.Pass ⟨0, 0, 0, 0⟩)
def xsub : Scope → Nat → Expr → Option (Expr × List Expr)
  | sc, 0, e => subDict sc e
  | sc, 1, e => subIn e
  | sc, 2, e => subFld "size" e
  | sc, 3, e => subMet "has" e
  | sc, 4, e => subNew "Solid" sc e
  | sc, 5, e => subFld "_there" e
  | sc, 6, e => subDict sc e
  | _, _, _ => none
def xs (l : List Nat) : Scope → Nat → Expr → Option (Expr × List Expr) := fun sc k e => if l.contains k then xsub sc k e else none
abbrev s_grain_count : Stmt := topS 5
def N_grain_count : List Str := ["size"]
def g_grain_count : List Str := ["GRAINS_OF_CUBE"]
def b_grain_count : Ss := (.cons (.ret (.bin .mul (.gl 0) (.bin .pow (.v 0) (.k (.int 3))))) .nil)
def c_grain_count : Cf := { N := N_grain_count, sc := defScope s_grain_count, names := g_grain_count, L := 0, sub := xs [] }
theorem k_grain_count : chkSs c_grain_count b_grain_count (defBody s_grain_count) = true := by decide +kernel
theorem sc_grain_count : FnScope N_grain_count ["size"] (defScope s_grain_count) := ⟨rfl, rfl, rfl, by decide +kernel, rfl, by decide +kernel, by decide +kernel⟩
abbrev s_grain_at : Stmt := topS 6
def N_grain_at : List Str := ["size", "x", "y", "z", "top", "square", "level", "row", "before", "along", "lower", "remainders"]
def g_grain_at : List Str := ["ROWS", "LEVELS", "GRAINS_OF_CUBE"]
def b_grain_at : Ss := (.cons (.set 4 (.bin .mul (.k (.int 8)) (.v 0))) (.cons (.iff (.not (.and (.chain .le .lt (.k (.int 0)) (.v 1) (.v 4)) (.and (.chain .le .lt (.k (.int 0)) (.v 2) (.v 4)) (.chain .le .lt (.k (.int 0)) (.v 3) (.v 4))))) (.cons (.ret (.k .none)) .nil) .nil) (.cons (.unpg [8, 9] 0 (.tup (.cons (.bin .mod (.v 3) (.k (.int 8))) (.cons (.bin .mod (.v 2) (.k (.int 8))) .nil))) (.tup (.cons (.k (.int 0)) (.cons (.tup .nil) .nil)))) (.cons (.iff (.notin (.bin .mod (.v 1) (.k (.int 8))) (.v 9)) (.cons (.ret (.k .none)) .nil) .nil) (.cons (.unpw [10, 11] 1 (.bin .mod (.v 3) (.k (.int 8)))) (.cons (.set 5 (.bin .mul (.v 0) (.v 0))) (.cons (.set 6 (.bin .add (.bin .mul (.bin .mul (.gl 2) (.v 5)) (.bin .div (.v 3) (.k (.int 8)))) (.bin .mul (.v 5) (.v 10)))) (.cons (.set 7 (.bin .add (.bin .mul (.bin .mul (.blt .len (.cons (.v 11) .nil)) (.v 0)) (.bin .div (.v 2) (.k (.int 8)))) (.bin .mul (.v 0) (.v 8)))) (.cons (.ret (.bin .add (.bin .add (.bin .add (.v 6) (.v 7)) (.bin .mul (.blt .len (.cons (.v 9) .nil)) (.bin .div (.v 1) (.k (.int 8))))) (.tidx 9 (.bin .mod (.v 1) (.k (.int 8)))))) .nil)))))))))
def c_grain_at : Cf := { N := N_grain_at, sc := defScope s_grain_at, names := g_grain_at, L := 0, sub := xs [] }
theorem k_grain_at : chkSs c_grain_at b_grain_at (defBody s_grain_at) = true := by decide +kernel
theorem sc_grain_at : FnScope N_grain_at ["size", "x", "y", "z"] (defScope s_grain_at) := ⟨rfl, rfl, rfl, by decide +kernel, rfl, by decide +kernel, by decide +kernel⟩
abbrev s_grain_beside : Stmt := topS 11
def N_grain_beside : List Str := ["size", "axis", "u", "v", "w", "middle", "first", "second"]
def g_grain_beside : List Str := ["OTHER_AXES", "grain_at"]
def b_grain_beside : Ss := (.cons (.mk 5 (.lst (.cons (.k (.int 0)) (.cons (.k (.int 0)) (.cons (.k (.int 0)) .nil))))) (.cons (.unp [6, 7] (.ix (.gl 0) (.v 1))) (.cons (.seti 5 (.v 6) (.v 2)) (.cons (.seti 5 (.v 7) (.v 3)) (.cons (.seti 5 (.v 1) (.v 4)) (.cons (.fz 5) (.cons (.ret (.call 1 (.cons (.v 0) (.cons (.ix (.v 5) (.k (.int 0))) (.cons (.ix (.v 5) (.k (.int 1))) (.cons (.ix (.v 5) (.k (.int 2))) .nil)))))) .nil)))))))
def c_grain_beside : Cf := { N := N_grain_beside, sc := defScope s_grain_beside, names := g_grain_beside, L := 1, sub := xs [] }
theorem k_grain_beside : chkSs c_grain_beside b_grain_beside (defBody s_grain_beside) = true := by decide +kernel
theorem sc_grain_beside : FnScope N_grain_beside ["size", "axis", "u", "v", "w"] (defScope s_grain_beside) := ⟨rfl, rfl, rfl, by decide +kernel, rfl, by decide +kernel, by decide +kernel⟩
abbrev s_Solid_init : Stmt := inClass (topS 20) 0
def N_Solid_init : List Str := ["self", "size", "grains", "many", "grain"]
def g_Solid_init : List Str := ["LEAST_SIZE", "LARGEST_SIZE", "grain_count"]
def b_Solid_init : Ss := (.cons (.iff (.not (.chain .le .le (.gl 0) (.v 1) (.gl 1))) (.cons .dead .nil) .nil) (.cons (.set 3 (.call 2 (.cons (.v 1) .nil))) (.cons (.fo 4 (.v 2) (.cons (.iff (.not (.chain .le .lt (.k (.int 0)) (.v 4) (.v 3))) (.cons .dead .nil) .nil) .nil)) .nil)))
def c_Solid_init : Cf := { N := N_Solid_init, sc := defScope s_Solid_init, names := g_Solid_init, L := 1, sub := xs [] }
theorem k_Solid_init : chkSs c_Solid_init b_Solid_init ((defBody s_Solid_init).take 3) = true := by decide +kernel
theorem sc_Solid_init : FnScope N_Solid_init ["self", "size", "grains"] (defScope s_Solid_init) := ⟨rfl, rfl, rfl, by decide +kernel, rfl, by decide +kernel, by decide +kernel⟩
abbrev s_Solid_has : Stmt := inClass (topS 20) 3
def N_Solid_has : List Str := ["self", "grain"]
def g_Solid_has : List Str := []
def b_Solid_has : Ss := (.cons (.ret (.x 1 (.v 1) (.cons (.x 5 (.v 0) .nil) .nil))) .nil)
def c_Solid_has : Cf := { N := N_Solid_has, sc := defScope s_Solid_has, names := g_Solid_has, L := 0, sub := xs [1, 5] }
theorem k_Solid_has : chkSs c_Solid_has b_Solid_has (defBody s_Solid_has) = true := by decide +kernel
theorem sc_Solid_has : FnScope N_Solid_has ["self", "grain"] (defScope s_Solid_has) := ⟨rfl, rfl, rfl, by decide +kernel, rfl, by decide +kernel, by decide +kernel⟩
abbrev s_section : Stmt := topS 10
def N_section : List Str := ["solid", "axis", "at", "counts", "u", "v", "du", "dv", "sides", "dw", "grain"]
def g_section : List Str := ["_grain_beside", "QUARTER_POINTS"]
def b_section : Ss := (.cons (.mk 3 (.lst (.cons (.k (.int 0)) (.cons (.k (.int 0)) (.cons (.k (.int 0)) .nil))))) (.cons (.fo 4 (.rg1 (.x 2 (.v 0) .nil)) (.cons (.fo 5 (.rg1 (.x 2 (.v 0) .nil)) (.cons (.fou [6, 7] (.gl 1) (.cons (.set 8 (.lc 9 (.tup (.cons (.neg (.k (.int 1))) (.cons (.k (.int 1)) .nil))) (.call 0 (.cons (.x 2 (.v 0) .nil) (.cons (.v 1) (.cons (.bin .add (.bin .mul (.k (.int 8)) (.v 4)) (.v 6)) (.cons (.bin .add (.bin .mul (.k (.int 8)) (.v 5)) (.v 7)) (.cons (.bin .add (.bin .mul (.k (.int 8)) (.v 2)) (.v 9)) .nil)))))))) (.cons (.augi 3 .add (.blt .len (.cons (.lci 10 (.v 8) (.x 3 (.v 0) (.cons (.v 10) .nil)) (.v 10)) .nil)) (.k (.int 1))) .nil))) .nil)) .nil)) (.cons (.fz 3) (.cons (.ret (.tup (.cons (.ix (.v 3) (.k (.int 2))) (.cons (.ix (.v 3) (.k (.int 1))) .nil)))) .nil))))
def c_section : Cf := { N := N_section, sc := defScope s_section, names := g_section, L := 2, sub := xs [2, 3] }
theorem k_section : chkSs c_section b_section (defBody s_section) = true := by decide +kernel
theorem sc_section : FnScope N_section ["solid", "axis", "at"] (defScope s_section) := ⟨rfl, rfl, rfl, by decide +kernel, rfl, by decide +kernel, by decide +kernel⟩
abbrev s_law_cell : Stmt := topS 22
def N_law_cell : List Str := ["script", "k"]
def g_law_cell : List Str := []
def b_law_cell : Ss := (.cons (.iff (.cmp .lt (.v 1) (.blt .len (.cons (.v 0) .nil))) (.cons (.ret (.blt .int (.cons (.ix (.v 0) (.v 1)) .nil))) .nil) .nil) (.cons (.ret (.k (.int 0))) .nil))
def c_law_cell : Cf := { N := N_law_cell, sc := defScope s_law_cell, names := g_law_cell, L := 0, sub := xs [] }
theorem k_law_cell : chkSs c_law_cell b_law_cell (defBody s_law_cell) = true := by decide +kernel
theorem sc_law_cell : FnScope N_law_cell ["script", "k"] (defScope s_law_cell) := ⟨rfl, rfl, rfl, by decide +kernel, rfl, by decide +kernel, by decide +kernel⟩
abbrev s_law_draws : Stmt := topS 23
def N_law_draws : List Str := ["cell", "many", "limit", "draws", "rest", "k", "mixed"]
def g_law_draws : List Str := []
def b_law_draws : Ss := (.cons (.mk 3 (.lst .nil)) (.cons (.set 4 (.blt .abs (.cons (.v 0) .nil))) (.cons (.fo 5 (.rg1 (.v 1)) (.cons (.iff (.and (.cmp .ge (.blt .abs (.cons (.v 0) .nil)) (.bin .pow (.k (.int 10)) (.k (.int 18)))) (.cmp .gt (.v 4) (.k (.int 0)))) (.cons (.app 3 (.bin .mod (.blt .int (.cons (.v 4) .nil)) (.v 2))) (.cons (.set 4 (.bin .div (.v 4) (.v 2))) .nil)) (.cons (.set 6 (.bin .mod (.blt .int (.cons (.bin .add (.bin .add (.bin .mul (.blt .abs (.cons (.v 0) .nil)) (.k (.int 48271))) (.bin .mul (.v 5) (.k (.int 69621)))) (.k (.int 7))) .nil)) (.k (.int 2147483647)))) (.cons (.set 6 (.bin .mod (.blt .int (.cons (.bin .add (.bin .add (.bin .mul (.v 6) (.k (.int 16807))) (.bin .div (.v 6) (.k (.int 127)))) (.bin .mul (.v 5) (.k (.int 31)))) .nil)) (.k (.int 2147483629)))) (.cons (.app 3 (.bin .mod (.bin .div (.v 6) (.k (.int 3))) (.v 2))) .nil)))) .nil)) (.cons (.fz 3) (.cons (.ret (.v 3)) .nil)))))
def c_law_draws : Cf := { N := N_law_draws, sc := defScope s_law_draws, names := g_law_draws, L := 0, sub := xs [] }
theorem k_law_draws : chkSs c_law_draws b_law_draws (defBody s_law_draws) = true := by decide +kernel
theorem sc_law_draws : FnScope N_law_draws ["cell", "many", "limit"] (defScope s_law_draws) := ⟨rfl, rfl, rfl, by decide +kernel, rfl, by decide +kernel, by decide +kernel⟩
abbrev s_law_middles : Stmt := topS 24
def N_law_middles : List Str := ["size", "found", "z", "y", "x", "rests", "one"]
def g_law_middles : List Str := []
def b_law_middles : Ss := (.cons (.mk 1 (.lst .nil)) (.cons (.fo 2 (.rg1 (.bin .mul (.k (.int 8)) (.v 0))) (.cons (.fo 3 (.rg1 (.bin .mul (.k (.int 8)) (.v 0))) (.cons (.fo 4 (.rg1 (.bin .mul (.k (.int 8)) (.v 0))) (.cons (.set 5 (.lc 6 (.lst (.cons (.v 4) (.cons (.v 3) (.cons (.v 2) .nil)))) (.bin .mod (.blt .int (.cons (.v 6) .nil)) (.k (.int 8))))) (.cons (.iff (.and (.isin (.k (.int 4)) (.v 5)) (.and (.or (.isin (.k (.int 2)) (.v 5)) (.isin (.k (.int 6)) (.v 5))) (.or (.isin (.k (.int 1)) (.v 5)) (.isin (.k (.int 7)) (.v 5))))) (.cons (.app 1 (.tup (.cons (.v 4) (.cons (.v 3) (.cons (.v 2) .nil))))) .nil) .nil) .nil))) .nil)) .nil)) (.cons (.fz 1) (.cons (.ret (.v 1)) .nil))))
def c_law_middles : Cf := { N := N_law_middles, sc := defScope s_law_middles, names := g_law_middles, L := 0, sub := xs [] }
theorem k_law_middles : chkSs c_law_middles b_law_middles (defBody s_law_middles) = true := by decide +kernel
theorem sc_law_middles : FnScope N_law_middles ["size"] (defScope s_law_middles) := ⟨rfl, rfl, rfl, by decide +kernel, rfl, by decide +kernel, by decide +kernel⟩
abbrev s_law : Stmt := topS 28
def N_law : List Str := ["script", "first", "size", "middles", "many", "drawn", "grains", "solid", "have", "axis", "at", "k", "both", "one", "middle", "other", "count"]
def g_law : List Str := ["_law_cell", "_law_middles", "_law_draws", "section"]
def b_law : Ss := (.cons (.set 1 (.blt .abs (.cons (.call 0 (.cons (.v 0) (.cons (.k (.int 0)) .nil))) .nil))) (.cons (.set 2 (.bin .add (.k (.int 2)) (.bin .mod (.v 1) (.k (.int 2))))) (.cons (.set 3 (.call 1 (.cons (.v 2) .nil))) (.cons (.set 4 (.ix (.lst (.cons (.k (.int 0)) (.cons (.k (.int 5)) (.cons (.k (.int 50)) (.cons (.k (.int 300)) .nil))))) (.bin .mod (.bin .div (.v 1) (.k (.int 2))) (.k (.int 4))))) (.cons (.set 5 (.x 0 (.lc 11 (.call 2 (.cons (.call 0 (.cons (.v 0) (.cons (.k (.int 1)) .nil))) (.cons (.v 4) (.cons (.blt .len (.cons (.v 3) .nil)) .nil)))) (.tup (.cons (.v 11) (.cons (.k (.bool true)) .nil)))) .nil)) (.cons (.set 6 (.lci 11 (.rg1 (.blt .len (.cons (.v 3) .nil))) (.cmp .eq (.x 1 (.v 11) (.cons (.v 5) .nil)) (.cmp .eq (.bin .mod (.bin .div (.v 1) (.k (.int 8))) (.k (.int 2))) (.k (.int 0)))) (.v 11))) (.cons (.set 7 (.x 4 (.v 2) (.cons (.v 6) .nil))) (.cons (.set 8 (.x 6 (.lc 11 (.v 6) (.tup (.cons (.ix (.v 3) (.v 11)) (.cons (.k (.bool true)) .nil)))) .nil)) (.cons (.fo 9 (.rg1 (.k (.int 3))) (.cons (.fo 10 (.rg2 (.k (.int 1)) (.v 2)) (.cons (.set 12 (.k (.int 0))) (.cons (.set 13 (.k (.int 0))) (.cons (.fo 14 (.v 3) (.cons (.iff (.cmp .eq (.ix (.v 14) (.v 9)) (.bin .sub (.bin .mul (.k (.int 8)) (.v 10)) (.k (.int 1)))) (.cons (.mk 15 (.blt .list (.cons (.v 14) .nil))) (.cons (.seti 15 (.v 9) (.bin .add (.bin .mul (.k (.int 8)) (.v 10)) (.k (.int 1)))) (.cons (.fz 15) (.cons (.set 16 (.bin .add (.blt .int (.cons (.x 1 (.v 14) (.cons (.v 8) .nil)) .nil)) (.blt .int (.cons (.x 1 (.blt .tuple (.cons (.v 15) .nil)) (.cons (.v 8) .nil)) .nil)))) (.cons (.aug 12 .add (.blt .int (.cons (.cmp .eq (.v 16) (.k (.int 2))) .nil))) (.cons (.aug 13 .add (.blt .int (.cons (.cmp .eq (.v 16) (.k (.int 1))) .nil))) .nil)))))) .nil) .nil)) (.cons (.iff (.cmp .ne (.call 3 (.cons (.v 7) (.cons (.v 9) (.cons (.v 10) .nil)))) (.tup (.cons (.v 12) (.cons (.v 13) .nil)))) (.cons (.ret (.k (.bool false))) .nil) .nil) .nil))))) .nil)) (.cons (.ret (.k (.bool true))) .nil))))))))))
def c_law : Cf := { N := N_law, sc := defScope s_law, names := g_law, L := 3, sub := xs [0, 1, 4, 6] }
theorem k_law : chkSs c_law b_law (defBody s_law) = true := by decide +kernel
theorem sc_law : FnScope N_law ["script"] (defScope s_law) := ⟨rfl, rfl, rfl, by decide +kernel, rfl, by decide +kernel, by decide +kernel⟩
-- ('grain_count', 'grain_count', 'topS 5', 0, ['size'], ['size'], ['GRAINS_OF_CUBE'], [])
-- ('grain_at', 'grain_at', 'topS 6', 0, ['size', 'x', 'y', 'z'], ['size', 'x', 'y', 'z', 'top', 'square', 'level', 'row', 'before', 'along', 'lower', 'remainders'], ['ROWS', 'LEVELS', 'GRAINS_OF_CUBE'], [])
-- ('_grain_beside', 'grain_beside', 'topS 11', 1, ['size', 'axis', 'u', 'v', 'w'], ['size', 'axis', 'u', 'v', 'w', 'middle', 'first', 'second'], ['OTHER_AXES', 'grain_at'], [])
-- ('Solid.__init__', 'Solid_init', 'inClass (topS 20) 0', 1, ['self', 'size', 'grains'], ['self', 'size', 'grains', 'many', 'grain'], ['LEAST_SIZE', 'LARGEST_SIZE', 'grain_count'], [])
-- ('Solid.has', 'Solid_has', 'inClass (topS 20) 3', 0, ['self', 'grain'], ['self', 'grain'], [], [1, 5])
-- ('section', 'section', 'topS 10', 2, ['solid', 'axis', 'at'], ['solid', 'axis', 'at', 'counts', 'u', 'v', 'du', 'dv', 'sides', 'dw', 'grain'], ['_grain_beside', 'QUARTER_POINTS'], [2, 3])
-- ('_law_cell', 'law_cell', 'topS 22', 0, ['script', 'k'], ['script', 'k'], [], [])
-- ('_law_draws', 'law_draws', 'topS 23', 0, ['cell', 'many', 'limit'], ['cell', 'many', 'limit', 'draws', 'rest', 'k', 'mixed'], [], [])
-- ('_law_middles', 'law_middles', 'topS 24', 0, ['size'], ['size', 'found', 'z', 'y', 'x', 'rests', 'one'], [], [])
-- ('law', 'law', 'topS 28', 3, ['script'], ['script', 'first', 'size', 'middles', 'many', 'drawn', 'grains', 'solid', 'have', 'axis', 'at', 'k', 'both', 'one', 'middle', 'other', 'count'], ['_law_cell', '_law_middles', '_law_draws', 'section'], [0, 1, 4, 6])
end K17

set_option Elab.async false
set_option linter.all false
set_option maxRecDepth 100000
set_option maxHeartbeats 4000000
namespace K17
open PySem L2 Qd
def kd_LEVELS : List (Int × PyData) := [(1, (.tuple [(.int 0), (.tuple [(.int 2), (.int 4), (.int 4), (.int 6)])])), (2, (.tuple [(.int 4), (.tuple [(.int 1), (.int 4), (.int 4), (.int 7)])])), (4, (.tuple [(.int 8), (.tuple [(.int 1), (.int 1), (.int 2), (.int 2), (.int 6), (.int 6), (.int 7), (.int 7)])])), (6, (.tuple [(.int 16), (.tuple [(.int 1), (.int 4), (.int 4), (.int 7)])])), (7, (.tuple [(.int 20), (.tuple [(.int 2), (.int 4), (.int 4), (.int 6)])]))]
def t_LEVELS : PyData → Option PyData := getI kd_LEVELS
def kd_ROWS : List (List Int × PyData) := [([1, 2], (.tuple [(.int 0), (.tuple [(.int 4)])])), ([1, 4], (.tuple [(.int 1), (.tuple [(.int 2), (.int 6)])])), ([1, 6], (.tuple [(.int 3), (.tuple [(.int 4)])])), ([2, 1], (.tuple [(.int 0), (.tuple [(.int 4)])])), ([2, 4], (.tuple [(.int 1), (.tuple [(.int 1), (.int 7)])])), ([2, 7], (.tuple [(.int 3), (.tuple [(.int 4)])])), ([4, 1], (.tuple [(.int 0), (.tuple [(.int 2), (.int 6)])])), ([4, 2], (.tuple [(.int 2), (.tuple [(.int 1), (.int 7)])])), ([4, 6], (.tuple [(.int 4), (.tuple [(.int 1), (.int 7)])])), ([4, 7], (.tuple [(.int 6), (.tuple [(.int 2), (.int 6)])])), ([6, 1], (.tuple [(.int 0), (.tuple [(.int 4)])])), ([6, 4], (.tuple [(.int 1), (.tuple [(.int 1), (.int 7)])])), ([6, 7], (.tuple [(.int 3), (.tuple [(.int 4)])])), ([7, 2], (.tuple [(.int 0), (.tuple [(.int 4)])])), ([7, 4], (.tuple [(.int 1), (.tuple [(.int 2), (.int 6)])])), ([7, 6], (.tuple [(.int 3), (.tuple [(.int 4)])]))]
def t_ROWS : PyData → Option PyData := getT kd_ROWS
def F_grain_count : FG := { con := (fun n => match n with | 0 => some (.int 24) | _ => none), isFn := (fun _ => false), fn := (fun _ => fun _ => none), isTab := (fun _ => false), tab := (fun _ => fun _ => none), tk := (fun _ => .none), xp := (fun _ _ => true), xf := (fun _ _ => none) }
def r_grain_count : List PyData → Option PyData := runD F_grain_count b_grain_count N_grain_count 1
def F_grain_at : FG := { con := (fun n => match n with | 2 => some (.int 24) | _ => none), isFn := (fun _ => false), fn := (fun _ => fun _ => none), isTab := (fun n => n == 0 || n == 1), tab := (fun n => match n with | 0 => t_ROWS | 1 => t_LEVELS | _ => fun _ => none), tk := (fun n => match n with | 0 => (.tuple [(.int 1), (.int 2)]) | 1 => (.int 1) | _ => .none), xp := (fun _ _ => true), xf := (fun _ _ => none) }
def r_grain_at : List PyData → Option PyData := runD F_grain_at b_grain_at N_grain_at 4
def F_Solid_has : FG := { con := (fun _ => none), isFn := (fun _ => false), fn := (fun _ => fun _ => none), isTab := (fun _ => false), tab := (fun _ => fun _ => none), tk := (fun _ => .none), xp := (fun _ _ => true), xf := (fun k => match k with | 1 => f_in | 5 => (f_fld "Solid" "_there") | _ => fun _ => none) }
def r_Solid_has : List PyData → Option PyData := runD F_Solid_has b_Solid_has N_Solid_has 2
def F_law_cell : FG := { con := (fun _ => none), isFn := (fun _ => false), fn := (fun _ => fun _ => none), isTab := (fun _ => false), tab := (fun _ => fun _ => none), tk := (fun _ => .none), xp := (fun _ _ => true), xf := (fun _ _ => none) }
def r_law_cell : List PyData → Option PyData := runD F_law_cell b_law_cell N_law_cell 2
def F_law_draws : FG := { con := (fun _ => none), isFn := (fun _ => false), fn := (fun _ => fun _ => none), isTab := (fun _ => false), tab := (fun _ => fun _ => none), tk := (fun _ => .none), xp := (fun _ _ => true), xf := (fun _ _ => none) }
def r_law_draws : List PyData → Option PyData := runD F_law_draws b_law_draws N_law_draws 3
def F_law_middles : FG := { con := (fun _ => none), isFn := (fun _ => false), fn := (fun _ => fun _ => none), isTab := (fun _ => false), tab := (fun _ => fun _ => none), tk := (fun _ => .none), xp := (fun _ _ => true), xf := (fun _ _ => none) }
def r_law_middles : List PyData → Option PyData := runD F_law_middles b_law_middles N_law_middles 1
def F_grain_beside : FG := { con := (fun n => match n with | 0 => some (.tuple [(.tuple [(.int 1), (.int 2)]), (.tuple [(.int 0), (.int 2)]), (.tuple [(.int 0), (.int 1)])]) | _ => none), isFn := (fun n => n == 1), fn := (fun n => match n with | 1 => r_grain_at | _ => fun _ => none), isTab := (fun _ => false), tab := (fun _ => fun _ => none), tk := (fun _ => .none), xp := (fun _ _ => true), xf := (fun _ _ => none) }
def r_grain_beside : List PyData → Option PyData := runD F_grain_beside b_grain_beside N_grain_beside 5
def F_Solid_init : FG := { con := (fun n => match n with | 0 => some (.int 2) | 1 => some (.int 6) | _ => none), isFn := (fun n => n == 2), fn := (fun n => match n with | 2 => r_grain_count | _ => fun _ => none), isTab := (fun _ => false), tab := (fun _ => fun _ => none), tk := (fun _ => .none), xp := (fun _ _ => true), xf := (fun _ _ => none) }
def F_section : FG := { con := (fun n => match n with | 1 => some (.tuple [(.tuple [(.int 4), (.int 2)]), (.tuple [(.int 6), (.int 4)]), (.tuple [(.int 4), (.int 6)]), (.tuple [(.int 2), (.int 4)])]) | _ => none), isFn := (fun n => n == 0), fn := (fun n => match n with | 0 => r_grain_beside | _ => fun _ => none), isTab := (fun _ => false), tab := (fun _ => fun _ => none), tk := (fun _ => .none), xp := (fun k => match k with | 3 => p_met "Solid" "has" | _ => fun _ => true), xf := (fun k => match k with | 2 => (f_fld "Solid" "size") | 3 => r_Solid_has | _ => fun _ => none) }
def r_section : List PyData → Option PyData := runD F_section b_section N_section 3
def F_law : FG := { con := (fun _ => none), isFn := (fun n => n == 0 || n == 1 || n == 2 || n == 3), fn := (fun n => match n with | 0 => r_law_cell | 1 => r_law_middles | 2 => r_law_draws | 3 => r_section | _ => fun _ => none), isTab := (fun _ => false), tab := (fun _ => fun _ => none), tk := (fun _ => .none), xp := (fun _ _ => true), xf := (fun k => match k with | 0 => f_dict | 1 => f_in | 4 => g_solid | 6 => f_dictN | _ => fun _ => none) }
def r_law : List PyData → Option PyData := runD F_law b_law N_law 1
section
variable {P : Program} {w : World} {K : PySem.W.Frag} {mg : Str → Option Value} {base : Heap}
theorem gok_grain_count (b0 : ∀ b : Bl, mg (blN b) = none) (b1 : mg "range" = none) (h0 : ConAt K mg "GRAINS_OF_CUBE" (.int 24)) : GOK c_grain_count P w K mg base F_grain_count.ga where
  blt := b0
  rng := b1
  con := fun n x h d e => by
    match n, h, e with
    | 0, h, e => cases h; cases e; exact h0
    | _ + 1, h, _ => exact nomatch (show (none : Option Str) = some x from h)
  fn := fun n x h e => by
    match n, h, e with
    | 0, _, e => exact nomatch (show false = true from e)
    | _ + 1, h, _ => exact nomatch (show (none : Option Str) = some x from h)
  tab := fun n x h e => by
    match n, h, e with
    | 0, _, e => exact nomatch (show false = true from e)
    | _ + 1, h, _ => exact nomatch (show (none : Option Str) = some x from h)
  ext := fun X sc k e e0 es xc h => by
    match k, h with
    | 0, h => exact nomatch (show (none : Option (Expr × List Expr)) = some (e0, es) from h)
    | 1, h => exact nomatch (show (none : Option (Expr × List Expr)) = some (e0, es) from h)
    | 2, h => exact nomatch (show (none : Option (Expr × List Expr)) = some (e0, es) from h)
    | 3, h => exact nomatch (show (none : Option (Expr × List Expr)) = some (e0, es) from h)
    | 4, h => exact nomatch (show (none : Option (Expr × List Expr)) = some (e0, es) from h)
    | 5, h => exact nomatch (show (none : Option (Expr × List Expr)) = some (e0, es) from h)
    | 6, h => exact nomatch (show (none : Option (Expr × List Expr)) = some (e0, es) from h)
    | _ + 7, h => exact nomatch (show (none : Option (Expr × List Expr)) = some (e0, es) from h)
theorem fn_grain_count (b0 : ∀ b : Bl, mg (blN b) = none) (b1 : mg "range" = none) (h0 : ConAt K mg "GRAINS_OF_CUBE" (.int 24)) {f : Addr} {fd : FuncData} (m : mg "grain_count" = some (.ref f)) (F : Fun K "grain_count" "grain_count" s_grain_count f fd) : FnAt P w K mg base 1 "grain_count" r_grain_count :=
  ⟨f, fd, ["size"], m, F.kp, F.binds (fun _ _ _ _ _ _ us hl => match us, hl with | [_], _ => rfl), fnE F sc_grain_count rfl (gok_grain_count b0 b1 h0) k_grain_count⟩
theorem gok_grain_at (b0 : ∀ b : Bl, mg (blN b) = none) (b1 : mg "range" = none) (h0 : TabAt P w K mg "ROWS" t_ROWS) (h1 : TabAt P w K mg "LEVELS" t_LEVELS) (h2 : ConAt K mg "GRAINS_OF_CUBE" (.int 24)) : GOK c_grain_at P w K mg base F_grain_at.ga where
  blt := b0
  rng := b1
  con := fun n x h d e => by
    match n, h, e with
    | 0, _, e => exact nomatch e
    | 1, _, e => exact nomatch e
    | 2, h, e => cases h; cases e; exact h2
    | _ + 3, h, _ => exact nomatch (show (none : Option Str) = some x from h)
  fn := fun n x h e => by
    match n, h, e with
    | 0, _, e => exact nomatch (show false = true from e)
    | 1, _, e => exact nomatch (show false = true from e)
    | 2, _, e => exact nomatch (show false = true from e)
    | _ + 3, h, _ => exact nomatch (show (none : Option Str) = some x from h)
  tab := fun n x h e => by
    match n, h, e with
    | 0, h, _ => cases h; exact h0
    | 1, h, _ => cases h; exact h1
    | 2, _, e => exact nomatch (show false = true from e)
    | _ + 3, h, _ => exact nomatch (show (none : Option Str) = some x from h)
  ext := fun X sc k e e0 es xc h => by
    match k, h with
    | 0, h => exact nomatch (show (none : Option (Expr × List Expr)) = some (e0, es) from h)
    | 1, h => exact nomatch (show (none : Option (Expr × List Expr)) = some (e0, es) from h)
    | 2, h => exact nomatch (show (none : Option (Expr × List Expr)) = some (e0, es) from h)
    | 3, h => exact nomatch (show (none : Option (Expr × List Expr)) = some (e0, es) from h)
    | 4, h => exact nomatch (show (none : Option (Expr × List Expr)) = some (e0, es) from h)
    | 5, h => exact nomatch (show (none : Option (Expr × List Expr)) = some (e0, es) from h)
    | 6, h => exact nomatch (show (none : Option (Expr × List Expr)) = some (e0, es) from h)
    | _ + 7, h => exact nomatch (show (none : Option (Expr × List Expr)) = some (e0, es) from h)
theorem fn_grain_at (b0 : ∀ b : Bl, mg (blN b) = none) (b1 : mg "range" = none) (h0 : TabAt P w K mg "ROWS" t_ROWS) (h1 : TabAt P w K mg "LEVELS" t_LEVELS) (h2 : ConAt K mg "GRAINS_OF_CUBE" (.int 24)) {f : Addr} {fd : FuncData} (m : mg "grain_at" = some (.ref f)) (F : Fun K "grain_at" "grain_at" s_grain_at f fd) : FnAt P w K mg base 1 "grain_at" r_grain_at :=
  ⟨f, fd, ["size", "x", "y", "z"], m, F.kp, F.binds (fun _ _ _ _ _ _ us hl => match us, hl with | [_, _, _, _], _ => rfl), fnE F sc_grain_at rfl (gok_grain_at b0 b1 h0 h1 h2) k_grain_at⟩
theorem gok_Solid_has (b0 : ∀ b : Bl, mg (blN b) = none) (b1 : mg "range" = none) (x5 : Cls K (He.ga K "Solid")) (y5 : NoAttr K (He.ga K "Solid") "_there") : GOK c_Solid_has P w K mg base F_Solid_has.ga where
  blt := b0
  rng := b1
  con := fun n x h d e => by
    match n, h, e with
    | _ + 0, h, _ => exact nomatch (show (none : Option Str) = some x from h)
  fn := fun n x h e => by
    match n, h, e with
    | _ + 0, h, _ => exact nomatch (show (none : Option Str) = some x from h)
  tab := fun n x h e => by
    match n, h, e with
    | _ + 0, h, _ => exact nomatch (show (none : Option Str) = some x from h)
  ext := fun X sc k e e0 es xc h => by
    match k, h with
    | 0, h => exact nomatch (show (none : Option (Expr × List Expr)) = some (e0, es) from h)
    | 1, h => exact xf_in xc h
    | 2, h => exact nomatch (show (none : Option (Expr × List Expr)) = some (e0, es) from h)
    | 3, h => exact nomatch (show (none : Option (Expr × List Expr)) = some (e0, es) from h)
    | 4, h => exact nomatch (show (none : Option (Expr × List Expr)) = some (e0, es) from h)
    | 5, h => exact xf_fld xc x5 y5 h
    | 6, h => exact nomatch (show (none : Option (Expr × List Expr)) = some (e0, es) from h)
    | _ + 7, h => exact nomatch (show (none : Option (Expr × List Expr)) = some (e0, es) from by simpa [xs, c_Solid_has] using h)
theorem gok_law_cell (b0 : ∀ b : Bl, mg (blN b) = none) (b1 : mg "range" = none)  : GOK c_law_cell P w K mg base F_law_cell.ga where
  blt := b0
  rng := b1
  con := fun n x h d e => by
    match n, h, e with
    | _ + 0, h, _ => exact nomatch (show (none : Option Str) = some x from h)
  fn := fun n x h e => by
    match n, h, e with
    | _ + 0, h, _ => exact nomatch (show (none : Option Str) = some x from h)
  tab := fun n x h e => by
    match n, h, e with
    | _ + 0, h, _ => exact nomatch (show (none : Option Str) = some x from h)
  ext := fun X sc k e e0 es xc h => by
    match k, h with
    | 0, h => exact nomatch (show (none : Option (Expr × List Expr)) = some (e0, es) from h)
    | 1, h => exact nomatch (show (none : Option (Expr × List Expr)) = some (e0, es) from h)
    | 2, h => exact nomatch (show (none : Option (Expr × List Expr)) = some (e0, es) from h)
    | 3, h => exact nomatch (show (none : Option (Expr × List Expr)) = some (e0, es) from h)
    | 4, h => exact nomatch (show (none : Option (Expr × List Expr)) = some (e0, es) from h)
    | 5, h => exact nomatch (show (none : Option (Expr × List Expr)) = some (e0, es) from h)
    | 6, h => exact nomatch (show (none : Option (Expr × List Expr)) = some (e0, es) from h)
    | _ + 7, h => exact nomatch (show (none : Option (Expr × List Expr)) = some (e0, es) from h)
theorem fn_law_cell (b0 : ∀ b : Bl, mg (blN b) = none) (b1 : mg "range" = none)  {f : Addr} {fd : FuncData} (m : mg "_law_cell" = some (.ref f)) (F : Fun K "_law_cell" "_law_cell" s_law_cell f fd) : FnAt P w K mg base 1 "_law_cell" r_law_cell :=
  ⟨f, fd, ["script", "k"], m, F.kp, F.binds (fun _ _ _ _ _ _ us hl => match us, hl with | [_, _], _ => rfl), fnE F sc_law_cell rfl (gok_law_cell b0 b1 ) k_law_cell⟩
theorem gok_law_draws (b0 : ∀ b : Bl, mg (blN b) = none) (b1 : mg "range" = none)  : GOK c_law_draws P w K mg base F_law_draws.ga where
  blt := b0
  rng := b1
  con := fun n x h d e => by
    match n, h, e with
    | _ + 0, h, _ => exact nomatch (show (none : Option Str) = some x from h)
  fn := fun n x h e => by
    match n, h, e with
    | _ + 0, h, _ => exact nomatch (show (none : Option Str) = some x from h)
  tab := fun n x h e => by
    match n, h, e with
    | _ + 0, h, _ => exact nomatch (show (none : Option Str) = some x from h)
  ext := fun X sc k e e0 es xc h => by
    match k, h with
    | 0, h => exact nomatch (show (none : Option (Expr × List Expr)) = some (e0, es) from h)
    | 1, h => exact nomatch (show (none : Option (Expr × List Expr)) = some (e0, es) from h)
    | 2, h => exact nomatch (show (none : Option (Expr × List Expr)) = some (e0, es) from h)
    | 3, h => exact nomatch (show (none : Option (Expr × List Expr)) = some (e0, es) from h)
    | 4, h => exact nomatch (show (none : Option (Expr × List Expr)) = some (e0, es) from h)
    | 5, h => exact nomatch (show (none : Option (Expr × List Expr)) = some (e0, es) from h)
    | 6, h => exact nomatch (show (none : Option (Expr × List Expr)) = some (e0, es) from h)
    | _ + 7, h => exact nomatch (show (none : Option (Expr × List Expr)) = some (e0, es) from h)
theorem fn_law_draws (b0 : ∀ b : Bl, mg (blN b) = none) (b1 : mg "range" = none)  {f : Addr} {fd : FuncData} (m : mg "_law_draws" = some (.ref f)) (F : Fun K "_law_draws" "_law_draws" s_law_draws f fd) : FnAt P w K mg base 1 "_law_draws" r_law_draws :=
  ⟨f, fd, ["cell", "many", "limit"], m, F.kp, F.binds (fun _ _ _ _ _ _ us hl => match us, hl with | [_, _, _], _ => rfl), fnE F sc_law_draws rfl (gok_law_draws b0 b1 ) k_law_draws⟩
theorem gok_law_middles (b0 : ∀ b : Bl, mg (blN b) = none) (b1 : mg "range" = none)  : GOK c_law_middles P w K mg base F_law_middles.ga where
  blt := b0
  rng := b1
  con := fun n x h d e => by
    match n, h, e with
    | _ + 0, h, _ => exact nomatch (show (none : Option Str) = some x from h)
  fn := fun n x h e => by
    match n, h, e with
    | _ + 0, h, _ => exact nomatch (show (none : Option Str) = some x from h)
  tab := fun n x h e => by
    match n, h, e with
    | _ + 0, h, _ => exact nomatch (show (none : Option Str) = some x from h)
  ext := fun X sc k e e0 es xc h => by
    match k, h with
    | 0, h => exact nomatch (show (none : Option (Expr × List Expr)) = some (e0, es) from h)
    | 1, h => exact nomatch (show (none : Option (Expr × List Expr)) = some (e0, es) from h)
    | 2, h => exact nomatch (show (none : Option (Expr × List Expr)) = some (e0, es) from h)
    | 3, h => exact nomatch (show (none : Option (Expr × List Expr)) = some (e0, es) from h)
    | 4, h => exact nomatch (show (none : Option (Expr × List Expr)) = some (e0, es) from h)
    | 5, h => exact nomatch (show (none : Option (Expr × List Expr)) = some (e0, es) from h)
    | 6, h => exact nomatch (show (none : Option (Expr × List Expr)) = some (e0, es) from h)
    | _ + 7, h => exact nomatch (show (none : Option (Expr × List Expr)) = some (e0, es) from h)
theorem fn_law_middles (b0 : ∀ b : Bl, mg (blN b) = none) (b1 : mg "range" = none)  {f : Addr} {fd : FuncData} (m : mg "_law_middles" = some (.ref f)) (F : Fun K "_law_middles" "_law_middles" s_law_middles f fd) : FnAt P w K mg base 1 "_law_middles" r_law_middles :=
  ⟨f, fd, ["size"], m, F.kp, F.binds (fun _ _ _ _ _ _ us hl => match us, hl with | [_], _ => rfl), fnE F sc_law_middles rfl (gok_law_middles b0 b1 ) k_law_middles⟩
theorem gok_grain_beside (b0 : ∀ b : Bl, mg (blN b) = none) (b1 : mg "range" = none) (h0 : ConAt K mg "OTHER_AXES" (.tuple [(.tuple [(.int 1), (.int 2)]), (.tuple [(.int 0), (.int 2)]), (.tuple [(.int 0), (.int 1)])])) (h1 : FnAt P w K mg base 1 "grain_at" r_grain_at) : GOK c_grain_beside P w K mg base F_grain_beside.ga where
  blt := b0
  rng := b1
  con := fun n x h d e => by
    match n, h, e with
    | 0, h, e => cases h; cases e; exact h0
    | 1, _, e => exact nomatch e
    | _ + 2, h, _ => exact nomatch (show (none : Option Str) = some x from h)
  fn := fun n x h e => by
    match n, h, e with
    | 0, _, e => exact nomatch (show false = true from e)
    | 1, h, _ => cases h; exact h1
    | _ + 2, h, _ => exact nomatch (show (none : Option Str) = some x from h)
  tab := fun n x h e => by
    match n, h, e with
    | 0, _, e => exact nomatch (show false = true from e)
    | 1, _, e => exact nomatch (show false = true from e)
    | _ + 2, h, _ => exact nomatch (show (none : Option Str) = some x from h)
  ext := fun X sc k e e0 es xc h => by
    match k, h with
    | 0, h => exact nomatch (show (none : Option (Expr × List Expr)) = some (e0, es) from h)
    | 1, h => exact nomatch (show (none : Option (Expr × List Expr)) = some (e0, es) from h)
    | 2, h => exact nomatch (show (none : Option (Expr × List Expr)) = some (e0, es) from h)
    | 3, h => exact nomatch (show (none : Option (Expr × List Expr)) = some (e0, es) from h)
    | 4, h => exact nomatch (show (none : Option (Expr × List Expr)) = some (e0, es) from h)
    | 5, h => exact nomatch (show (none : Option (Expr × List Expr)) = some (e0, es) from h)
    | 6, h => exact nomatch (show (none : Option (Expr × List Expr)) = some (e0, es) from h)
    | _ + 7, h => exact nomatch (show (none : Option (Expr × List Expr)) = some (e0, es) from h)
theorem fn_grain_beside (b0 : ∀ b : Bl, mg (blN b) = none) (b1 : mg "range" = none) (h0 : ConAt K mg "OTHER_AXES" (.tuple [(.tuple [(.int 1), (.int 2)]), (.tuple [(.int 0), (.int 2)]), (.tuple [(.int 0), (.int 1)])])) (h1 : FnAt P w K mg base 1 "grain_at" r_grain_at) {f : Addr} {fd : FuncData} (m : mg "_grain_beside" = some (.ref f)) (F : Fun K "_grain_beside" "_grain_beside" s_grain_beside f fd) : FnAt P w K mg base 2 "_grain_beside" r_grain_beside :=
  ⟨f, fd, ["size", "axis", "u", "v", "w"], m, F.kp, F.binds (fun _ _ _ _ _ _ us hl => match us, hl with | [_, _, _, _, _], _ => rfl), fnE F sc_grain_beside rfl (gok_grain_beside b0 b1 h0 h1) k_grain_beside⟩
theorem gok_Solid_init (b0 : ∀ b : Bl, mg (blN b) = none) (b1 : mg "range" = none) (h0 : ConAt K mg "LEAST_SIZE" (.int 2)) (h1 : ConAt K mg "LARGEST_SIZE" (.int 6)) (h2 : FnAt P w K mg base 1 "grain_count" r_grain_count) : GOK c_Solid_init P w K mg base F_Solid_init.ga where
  blt := b0
  rng := b1
  con := fun n x h d e => by
    match n, h, e with
    | 0, h, e => cases h; cases e; exact h0
    | 1, h, e => cases h; cases e; exact h1
    | 2, _, e => exact nomatch e
    | _ + 3, h, _ => exact nomatch (show (none : Option Str) = some x from h)
  fn := fun n x h e => by
    match n, h, e with
    | 0, _, e => exact nomatch (show false = true from e)
    | 1, _, e => exact nomatch (show false = true from e)
    | 2, h, _ => cases h; exact h2
    | _ + 3, h, _ => exact nomatch (show (none : Option Str) = some x from h)
  tab := fun n x h e => by
    match n, h, e with
    | 0, _, e => exact nomatch (show false = true from e)
    | 1, _, e => exact nomatch (show false = true from e)
    | 2, _, e => exact nomatch (show false = true from e)
    | _ + 3, h, _ => exact nomatch (show (none : Option Str) = some x from h)
  ext := fun X sc k e e0 es xc h => by
    match k, h with
    | 0, h => exact nomatch (show (none : Option (Expr × List Expr)) = some (e0, es) from h)
    | 1, h => exact nomatch (show (none : Option (Expr × List Expr)) = some (e0, es) from h)
    | 2, h => exact nomatch (show (none : Option (Expr × List Expr)) = some (e0, es) from h)
    | 3, h => exact nomatch (show (none : Option (Expr × List Expr)) = some (e0, es) from h)
    | 4, h => exact nomatch (show (none : Option (Expr × List Expr)) = some (e0, es) from h)
    | 5, h => exact nomatch (show (none : Option (Expr × List Expr)) = some (e0, es) from h)
    | 6, h => exact nomatch (show (none : Option (Expr × List Expr)) = some (e0, es) from h)
    | _ + 7, h => exact nomatch (show (none : Option (Expr × List Expr)) = some (e0, es) from h)
theorem gok_section (b0 : ∀ b : Bl, mg (blN b) = none) (b1 : mg "range" = none) (h0 : FnAt P w K mg base 2 "_grain_beside" r_grain_beside) (h1 : ConAt K mg "QUARTER_POINTS" (.tuple [(.tuple [(.int 4), (.int 2)]), (.tuple [(.int 6), (.int 4)]), (.tuple [(.int 4), (.int 6)]), (.tuple [(.int 2), (.int 4)])])) (x2 : Cls K (He.ga K "Solid")) (y2 : NoAttr K (He.ga K "Solid") "size") (x3 : MetAt P w K mg base 2 "Solid" "has" r_Solid_has) : GOK c_section P w K mg base F_section.ga where
  blt := b0
  rng := b1
  con := fun n x h d e => by
    match n, h, e with
    | 0, _, e => exact nomatch e
    | 1, h, e => cases h; cases e; exact h1
    | _ + 2, h, _ => exact nomatch (show (none : Option Str) = some x from h)
  fn := fun n x h e => by
    match n, h, e with
    | 0, h, _ => cases h; exact h0
    | 1, _, e => exact nomatch (show false = true from e)
    | _ + 2, h, _ => exact nomatch (show (none : Option Str) = some x from h)
  tab := fun n x h e => by
    match n, h, e with
    | 0, _, e => exact nomatch (show false = true from e)
    | 1, _, e => exact nomatch (show false = true from e)
    | _ + 2, h, _ => exact nomatch (show (none : Option Str) = some x from h)
  ext := fun X sc k e e0 es xc h => by
    match k, h with
    | 0, h => exact nomatch (show (none : Option (Expr × List Expr)) = some (e0, es) from h)
    | 1, h => exact nomatch (show (none : Option (Expr × List Expr)) = some (e0, es) from h)
    | 2, h => exact xf_fld xc x2 y2 h
    | 3, h => exact xf_met xc x3 h
    | 4, h => exact nomatch (show (none : Option (Expr × List Expr)) = some (e0, es) from h)
    | 5, h => exact nomatch (show (none : Option (Expr × List Expr)) = some (e0, es) from h)
    | 6, h => exact nomatch (show (none : Option (Expr × List Expr)) = some (e0, es) from h)
    | _ + 7, h => exact nomatch (show (none : Option (Expr × List Expr)) = some (e0, es) from by simpa [xs, c_section] using h)
theorem fn_section (b0 : ∀ b : Bl, mg (blN b) = none) (b1 : mg "range" = none) (h0 : FnAt P w K mg base 2 "_grain_beside" r_grain_beside) (h1 : ConAt K mg "QUARTER_POINTS" (.tuple [(.tuple [(.int 4), (.int 2)]), (.tuple [(.int 6), (.int 4)]), (.tuple [(.int 4), (.int 6)]), (.tuple [(.int 2), (.int 4)])])) (x2 : Cls K (He.ga K "Solid")) (y2 : NoAttr K (He.ga K "Solid") "size") (x3 : MetAt P w K mg base 2 "Solid" "has" r_Solid_has) {f : Addr} {fd : FuncData} (m : mg "section" = some (.ref f)) (F : Fun K "section" "section" s_section f fd) : FnAt P w K mg base 3 "section" r_section :=
  ⟨f, fd, ["solid", "axis", "at"], m, F.kp, F.binds (fun _ _ _ _ _ _ us hl => match us, hl with | [_, _, _], _ => rfl), fnE F sc_section rfl (gok_section b0 b1 h0 h1 x2 y2 x3) k_section⟩
theorem gok_law (b0 : ∀ b : Bl, mg (blN b) = none) (b1 : mg "range" = none) (h0 : FnAt P w K mg base 3 "_law_cell" r_law_cell) (h1 : FnAt P w K mg base 3 "_law_middles" r_law_middles) (h2 : FnAt P w K mg base 3 "_law_draws" r_law_draws) (h3 : FnAt P w K mg base 3 "section" r_section) (x0 : mg ("dict" : Str) = none) (x4 : MkAt P w K mg base 2 "Solid" g_solid) (x6 : mg ("dict" : Str) = none) : GOK c_law P w K mg base F_law.ga where
  blt := b0
  rng := b1
  con := fun n x h d e => by
    match n, h, e with
    | 0, _, e => exact nomatch e
    | 1, _, e => exact nomatch e
    | 2, _, e => exact nomatch e
    | 3, _, e => exact nomatch e
    | _ + 4, h, _ => exact nomatch (show (none : Option Str) = some x from h)
  fn := fun n x h e => by
    match n, h, e with
    | 0, h, _ => cases h; exact h0
    | 1, h, _ => cases h; exact h1
    | 2, h, _ => cases h; exact h2
    | 3, h, _ => cases h; exact h3
    | _ + 4, h, _ => exact nomatch (show (none : Option Str) = some x from h)
  tab := fun n x h e => by
    match n, h, e with
    | 0, _, e => exact nomatch (show false = true from e)
    | 1, _, e => exact nomatch (show false = true from e)
    | 2, _, e => exact nomatch (show false = true from e)
    | 3, _, e => exact nomatch (show false = true from e)
    | _ + 4, h, _ => exact nomatch (show (none : Option Str) = some x from h)
  ext := fun X sc k e e0 es xc h => by
    match k, h with
    | 0, h => exact xf_dict xc x0 h
    | 1, h => exact xf_in xc h
    | 2, h => exact nomatch (show (none : Option (Expr × List Expr)) = some (e0, es) from h)
    | 3, h => exact nomatch (show (none : Option (Expr × List Expr)) = some (e0, es) from h)
    | 4, h => exact xf_new xc x4 (by decide) h
    | 5, h => exact nomatch (show (none : Option (Expr × List Expr)) = some (e0, es) from h)
    | 6, h => exact xf_dictN xc x6 h
    | _ + 7, h => exact nomatch (show (none : Option (Expr × List Expr)) = some (e0, es) from by simpa [xs, c_law] using h)
theorem fn_law (b0 : ∀ b : Bl, mg (blN b) = none) (b1 : mg "range" = none) (h0 : FnAt P w K mg base 3 "_law_cell" r_law_cell) (h1 : FnAt P w K mg base 3 "_law_middles" r_law_middles) (h2 : FnAt P w K mg base 3 "_law_draws" r_law_draws) (h3 : FnAt P w K mg base 3 "section" r_section) (x0 : mg ("dict" : Str) = none) (x4 : MkAt P w K mg base 2 "Solid" g_solid) (x6 : mg ("dict" : Str) = none) {f : Addr} {fd : FuncData} (m : mg "law" = some (.ref f)) (F : Fun K "law" "law" s_law f fd) : FnAt P w K mg base 4 "law" r_law :=
  ⟨f, fd, ["script"], m, F.kp, F.binds (fun _ _ _ _ _ _ us hl => match us, hl with | [_], _ => rfl), fnE F sc_law rfl (gok_law b0 b1 h0 h1 h2 h3 x0 x4 x6) k_law⟩
end
end K17

set_option Elab.async false
set_option linter.all false
set_option maxRecDepth 100000
set_option maxHeartbeats 4000000
namespace K17
open PySem L2 Qd
theorem eqv_ii (a b : Int) : PyData.eqv (.int a) (.int b) = (a == b) := by simp [PyData.eqv]
def ptD (p : Int × Int × Int) : PyData := .tuple [.int p.1, .int p.2.1, .int p.2.2]
abbrev iD (k : Int) : Option B := some (.dat (.int k))
def hit (k x y z : Int) : Bool := x % 8 == k || (y % 8 == k || z % 8 == k)
def okB (x y z : Int) : Bool := hit 4 x y z && ((hit 2 x y z || hit 6 x y z) && (hit 1 x y z || hit 7 x y z))
def bX : Ss := (.cons (.set 5 (.lc 6 (.lst (.cons (.v 4) (.cons (.v 3) (.cons (.v 2) .nil)))) (.bin .mod (.blt .int (.cons (.v 6) .nil)) (.k (.int 8))))) (.cons (.iff (.and (.isin (.k (.int 4)) (.v 5)) (.and (.or (.isin (.k (.int 2)) (.v 5)) (.isin (.k (.int 6)) (.v 5))) (.or (.isin (.k (.int 1)) (.v 5)) (.isin (.k (.int 7)) (.v 5))))) (.cons (.app 1 (.tup (.cons (.v 4) (.cons (.v 3) (.cons (.v 2) .nil))))) .nil) .nil) .nil))
def rgT : T := .rg1 (.bin .mul (.k (.int 8)) (.v 0))
def bY : Ss := (.cons (.fo 4 rgT bX) .nil)
def bZ : Ss := (.cons (.fo 3 rgT bY) .nil)
theorem b_mid : b_law_middles = (.cons (.mk 1 (.lst .nil)) (.cons (.fo 2 rgT bZ) (.cons (.fz 1) (.cons (.ret (.v 1)) .nil)))) := rfl
def rs (x y z : Int) : Option B := some (.dat (.list [.int (x % 8), .int (y % 8), .int (z % 8)]))
theorem in_r (k x y z : Int) : e_in (.int k) (.list [.int (x % 8), .int (y % 8), .int (z % 8)]) = some (hit k x y z) := by
  have c : (SeqAt.shaped (.int k) && SeqAt.shaped (.list [.int (x % 8), .int (y % 8), .int (z % 8)]) && plainD (.int k) && plainDs [.int (x % 8), .int (y % 8), .int (z % 8)]) = true := by kernel_rfl
  show (if (SeqAt.shaped (.int k) && SeqAt.shaped (.list [.int (x % 8), .int (y % 8), .int (z % 8)]) && plainD (.int k) && plainDs [.int (x % 8), .int (y % 8), .int (z % 8)]) = true then some (([.int (x % 8), .int (y % 8), .int (z % 8)] : List PyData).any fun z => PyData.eqv z (.int k)) else none) = _
  rw [if_pos c]
  simp [eqv_ii, hit]
theorem step_x {F : FG} {n x y z : Int} {acc : List PyData} {c5 c6 : Option B} (hl : acc.length < 100000) :
    evSs F bX [iD n, some (.own acc), iD z, iD y, iD x, c5, c6] = some (.nx [iD n, some (.own (acc ++ if okB x y z = true then [ptD (x, y, z)] else [])), iD z, iD y, iD x, rs x y z, c6]) := by
  unfold bX
  cases e4 : hit 4 x y z <;> cases e2 : hit 2 x y z <;> cases e6 : hit 6 x y z <;> cases e1 : hit 1 x y z <;> cases e7 : hit 7 x y z <;>
  simp [evSs, evS, evE, evEs, evI, e_var, few, lcF, e_bin, e_bool, e_bl, e_own, in_r, e4, e2, e6, e1, e7, okB, rs, hl, ptD]
def one (x y z : Int) : List PyData := if okB x y z = true then [ptD (x, y, z)] else []
theorem len_one (y z : Int) : ∀ xs : List Int, (xs.flatMap fun x => one x y z).length ≤ xs.length
  | [] => Nat.le_refl _
  | x :: xs => by
    have := len_one y z xs
    have h : (one x y z).length ≤ 1 := by
      unfold one
      split <;> simp
    rw [List.flatMap_cons, List.length_append, List.length_cons]
    omega
theorem len_two (z : Int) (xs : List Int) : ∀ ys : List Int, (ys.flatMap fun y => xs.flatMap fun x => one x y z).length ≤ ys.length * xs.length
  | [] => by simp
  | y :: ys => by
    have := len_two z xs ys
    have h := len_one y z xs
    rw [List.flatMap_cons, List.length_append, List.length_cons, Nat.succ_mul]
    omega
section
variable {F : FG} {n : Int}
theorem loop_x {y z : Int} : ∀ {xs : List Int} {acc : List PyData} {c4 c5 c6 : Option B}, acc.length + xs.length ≤ 100000 →
    ∃ c4' c5', forF (fun x ρ => evSs F bX (ρ.set 4 (some (.dat x)))) (xs.map PyData.int) [iD n, some (.own acc), iD z, iD y, c4, c5, c6] = some (.nx [iD n, some (.own (acc ++ xs.flatMap fun x => one x y z)), iD z, iD y, c4', c5', c6])
  | [], acc, c4, c5, c6, _ => ⟨c4, c5, by simp [forF]⟩
  | x :: xs, acc, c4, c5, c6, h => by
    rw [List.length_cons] at h
    have ho : (one x y z).length ≤ 1 := by
      unfold one
      split <;> simp
    obtain ⟨c4', c5', e⟩ := loop_x (xs := xs) (acc := acc ++ one x y z) (c4 := iD x) (c5 := rs x y z) (c6 := c6) (y := y) (z := z) (by rw [List.length_append]; omega)
    refine ⟨c4', c5', ?_⟩
    rw [List.flatMap_cons, ← List.append_assoc, ← e, List.map_cons, forF]
    show (evSs F bX [iD n, some (.own acc), iD z, iD y, iD x, c5, c6]).bind _ = _
    rw [step_x (by omega)]
    rfl
theorem loop_y {z : Int} {xs : List Int} (hx : e_rg 0 (8 * n) = some (xs.map PyData.int)) : ∀ {ys : List Int} {acc : List PyData} {c3 c4 c5 c6 : Option B}, acc.length + ys.length * xs.length + xs.length ≤ 100000 →
    ∃ c3' c4' c5', forF (fun x ρ => evSs F bY (ρ.set 3 (some (.dat x)))) (ys.map PyData.int) [iD n, some (.own acc), iD z, c3, c4, c5, c6] = some (.nx [iD n, some (.own (acc ++ ys.flatMap fun y => xs.flatMap fun x => one x y z)), iD z, c3', c4', c5', c6])
  | [], acc, c3, c4, c5, c6, _ => ⟨c3, c4, c5, by simp [forF]⟩
  | y :: ys, acc, c3, c4, c5, c6, h => by
    rw [List.length_cons, Nat.succ_mul] at h
    have hl := len_one y z xs
    obtain ⟨a4, a5, e1⟩ := loop_x (F := F) (n := n) (y := y) (z := z) (xs := xs) (acc := acc) (c4 := c4) (c5 := c5) (c6 := c6) (by omega)
    obtain ⟨c3', c4', c5', e⟩ := loop_y hx (ys := ys) (acc := acc ++ xs.flatMap fun x => one x y z) (c3 := iD y) (c4 := a4) (c5 := a5) (c6 := c6) (z := z) (by rw [List.length_append]; omega)
    refine ⟨c3', c4', c5', ?_⟩
    rw [List.flatMap_cons, ← List.append_assoc, ← e, List.map_cons, forF]
    have er : evI F rgT [iD n, some (.own acc), iD z, iD y, c4, c5, c6] = some (xs.map PyData.int) := by
      rw [← hx]
      have m8 : CMul 8 n := .inl (by decide)
      simp [rgT, evI, evE, e_var, e_bin, m8, e_int]
    have e3 : evSs F bY [iD n, some (.own acc), iD z, iD y, c4, c5, c6] = some (.nx [iD n, some (.own (acc ++ xs.flatMap fun x => one x y z)), iD z, iD y, a4, a5, c6]) := by
      unfold bY
      rw [evSs, evS, er, Option.bind_some, e1]
      rfl
    show (evSs F bY [iD n, some (.own acc), iD z, iD y, c4, c5, c6]).bind _ = _
    rw [e3]
    rfl
theorem loop_z {xs : List Int} (hx : e_rg 0 (8 * n) = some (xs.map PyData.int)) : ∀ {zs : List Int} {acc : List PyData} {c2 c3 c4 c5 c6 : Option B}, acc.length + zs.length * (xs.length * xs.length) + (xs.length * xs.length + xs.length) ≤ 100000 →
    ∃ c2' c3' c4' c5', forF (fun x ρ => evSs F bZ (ρ.set 2 (some (.dat x)))) (zs.map PyData.int) [iD n, some (.own acc), c2, c3, c4, c5, c6] = some (.nx [iD n, some (.own (acc ++ zs.flatMap fun z => xs.flatMap fun y => xs.flatMap fun x => one x y z)), c2', c3', c4', c5', c6])
  | [], acc, c2, c3, c4, c5, c6, _ => ⟨c2, c3, c4, c5, by simp [forF]⟩
  | z :: zs, acc, c2, c3, c4, c5, c6, h => by
    rw [List.length_cons, Nat.succ_mul] at h
    have hl := len_two z xs xs
    obtain ⟨a3, a4, a5, e1⟩ := loop_y (F := F) (z := z) hx (ys := xs) (acc := acc) (c3 := c3) (c4 := c4) (c5 := c5) (c6 := c6) (by omega)
    obtain ⟨c2', c3', c4', c5', e⟩ := loop_z hx (zs := zs) (acc := acc ++ xs.flatMap fun y => xs.flatMap fun x => one x y z) (c2 := iD z) (c3 := a3) (c4 := a4) (c5 := a5) (c6 := c6) (by rw [List.length_append]; omega)
    refine ⟨c2', c3', c4', c5', ?_⟩
    rw [List.flatMap_cons, ← List.append_assoc, ← e, List.map_cons, forF]
    have er : evI F rgT [iD n, some (.own acc), iD z, c3, c4, c5, c6] = some (xs.map PyData.int) := by
      rw [← hx]
      have m8 : CMul 8 n := .inl (by decide)
      simp [rgT, evI, evE, e_var, e_bin, m8, e_int]
    have e3 : evSs F bZ [iD n, some (.own acc), iD z, c3, c4, c5, c6] = some (.nx [iD n, some (.own (acc ++ xs.flatMap fun y => xs.flatMap fun x => one x y z)), iD z, a3, a4, a5, c6]) := by
      unfold bZ
      rw [evSs, evS, er, Option.bind_some, e1]
      rfl
    show (evSs F bZ [iD n, some (.own acc), iD z, c3, c4, c5, c6]).bind _ = _
    rw [e3]
    rfl
end
def R (m : Nat) : List Int := (List.range m).map fun (k : Nat) => (k : Int)
def M (n : Nat) : List (Int × Int × Int) := (R (8 * n)).flatMap fun z => (R (8 * n)).flatMap fun y => (R (8 * n)).flatMap fun x => if okB x y z = true then [(x, y, z)] else []
theorem rg_R (m : Nat) (h : m ≤ 1000000) : e_rg 0 (m : Int) = some ((R m).map PyData.int) := by
  unfold e_rg
  rw [if_pos ⟨by decide, by decide, by omega, by omega⟩]
  unfold intsUp R
  rw [List.map_map]
  simp
theorem mid_ok (n : Nat) (h : n ≤ 5) : r_law_middles [.int (n : Int)] = some (.list ((M n).map ptD)) := by
  have hx : e_rg 0 (8 * (n : Int)) = some ((R (8 * n)).map PyData.int) := by
    rw [← rg_R (8 * n) (by omega)]
    simp
  have hl : (R (8 * n)).length = 8 * n := by simp [R]
  have hb : 8 * n * (8 * n * (8 * n)) + (8 * n * (8 * n) + 8 * n) ≤ 100000 := by
    have : n = 0 ∨ n = 1 ∨ n = 2 ∨ n = 3 ∨ n = 4 ∨ n = 5 := by omega
    rcases this with rfl | rfl | rfl | rfl | rfl | rfl <;> decide
  obtain ⟨c2, c3, c4, c5, e⟩ := loop_z (F := F_law_middles) hx (zs := R (8 * n)) (acc := []) (c2 := none) (c3 := none) (c4 := none) (c5 := none) (c6 := none) (by rw [hl]; simpa using hb)
  have er : evI F_law_middles rgT [iD n, some (.own []), none, none, none, none, none] = some ((R (8 * n)).map PyData.int) := by
    rw [← hx]
    have m8 : CMul 8 (n : Int) := .inl (by decide)
    simp [rgT, evI, evE, e_var, e_bin, m8, e_int]
  have em : (M n).map ptD = [] ++ (R (8 * n)).flatMap fun z => (R (8 * n)).flatMap fun y => (R (8 * n)).flatMap fun x => one x y z := by
    unfold M
    rw [List.nil_append, List.map_flatMap]
    congr 1
    funext z
    rw [List.map_flatMap]
    congr 1
    funext y
    rw [List.map_flatMap]
    congr 1
    funext x
    unfold one
    split <;> rfl
  refine runD_eq rfl ?_
  rw [b_mid, evSs, evS]
  show evSs F_law_middles _ [iD n, some (.own []), none, none, none, none, none] = _
  rw [evSs, evS, er, Option.bind_some, e, em]
  rfl
theorem M2_len : (M 2).length = 192 := by decide +kernel
theorem M3_len : (M 3).length = 648 := by decide +kernel
end K17

set_option Elab.async false
set_option linter.all false
set_option maxRecDepth 100000
set_option maxHeartbeats 4000000
namespace K17
open PySem L2 Qd
/-! dicts by their keys -/
theorem any_putD (ds : List (PyData × PyData)) (k v : PyData) (kk : Int ⊕ Str) : ((putD ds k v).any fun p => decide (dkey p.1 = some kk)) = ((ds.any fun p => decide (dkey p.1 = some kk)) || decide (dkey k = some kk)) := by
  unfold putD
  split
  · rename_i h
    rw [List.any_map]
    have e : ((fun p : PyData × PyData => decide (dkey p.1 = some kk)) ∘ fun p => if dkey p.1 = dkey k then (p.1, v) else p) = fun p => decide (dkey p.1 = some kk) := by
      funext p
      show decide (dkey (if _ then _ else p).1 = _) = _
      split <;> rfl
    rw [e]
    by_cases hk : dkey k = some kk
    · rw [decide_eq_true hk, Bool.or_true]
      rw [← hk]
      exact h
    · rw [decide_eq_false hk, Bool.or_false]
  · rw [List.any_append]
    simp
theorem any_fold (kk : Int ⊕ Str) : ∀ (gs : List PyData) (acc : List (PyData × PyData)), ((gs.foldl (fun acc g => putD acc g (.bool true)) acc).any fun p => decide (dkey p.1 = some kk)) = ((acc.any fun p => decide (dkey p.1 = some kk)) || gs.any fun g => decide (dkey g = some kk))
  | [], acc => by simp
  | g :: gs, acc => by rw [List.foldl_cons, any_fold kk gs, any_putD, List.any_cons, Bool.or_assoc]
theorem lookD_any (ds : List (PyData × PyData)) (kk : Int ⊕ Str) : (lookD ds kk).isSome = ds.any fun p => decide (dkey p.1 = some kk) := by
  unfold lookD
  rw [Option.isSome_map, List.isSome_find?]
theorem there_any (A : List Int) (k : Int) : (lookD (thereD (A.map PyData.int)) (.inl k)).isSome = decide (k ∈ A) := by
  rw [lookD_any, thereD, any_fold, List.any_nil, Bool.false_or, List.any_map]
  rw [Bool.eq_iff_iff, List.any_eq_true, decide_eq_true_eq]
  constructor
  · rintro ⟨x, hx, h⟩
    have := of_decide_eq_true h
    cases this
    exact hx
  · exact fun h => ⟨k, h, decide_eq_true rfl⟩
theorem any_putN (ds : List (PyData × PyData)) (k v : PyData) (kk : NestedKey) : ((putN ds k v).any fun p => decide (nk p.1 = kk)) = ((ds.any fun p => decide (nk p.1 = kk)) || decide (nk k = kk)) := by
  unfold putN
  split
  · rename_i h
    rw [List.any_map]
    have e : ((fun p : PyData × PyData => decide (nk p.1 = kk)) ∘ fun p => if nk p.1 = nk k then (p.1, v) else p) = fun p => decide (nk p.1 = kk) := by
      funext p
      show decide (nk (if _ then _ else p).1 = _) = _
      split <;> rfl
    rw [e]
    by_cases hk : nk k = kk
    · rw [decide_eq_true hk, Bool.or_true]
      rw [← hk]
      exact h
    · rw [decide_eq_false hk, Bool.or_false]
  · rw [List.any_append]
    simp
theorem any_mergeN (kk : NestedKey) : ∀ (more ds : List (PyData × PyData)), ((mergeN ds more).any fun p => decide (nk p.1 = kk)) = ((ds.any fun p => decide (nk p.1 = kk)) || more.any fun p => decide (nk p.1 = kk))
  | [], ds => by simp [mergeN]
  | p :: more, ds => by
    show ((mergeN (putN ds p.1 p.2) more).any _) = _
    rw [any_mergeN kk more, any_putN, List.any_cons, Bool.or_assoc]
theorem lookN_any (ds : List (PyData × PyData)) (k : PyData) : (lookN ds k).isSome = ds.any fun p => decide (nk p.1 = nk k) := by
  unfold lookN
  rw [Option.isSome_map, List.isSome_find?]
theorem nk_pt (a b : Int × Int × Int) : nk (ptD a) = nk (ptD b) ↔ a = b := by
  obtain ⟨x, y, z⟩ := a
  obtain ⟨x', y', z'⟩ := b
  simp [ptD, nk, nks]
theorem ok_pt (a : Int × Int × Int) : nkOk (ptD a) = true := by
  simp [nkOk, nkIn, nkIns, ptD, nk, nks, NestedKey.depth, NestedKey.depthAll]
/-! section -/
def bodyQ : Ss := (.cons (.set 8 (.lc 9 (.tup (.cons (.neg (.k (.int 1))) (.cons (.k (.int 1)) .nil))) (.call 0 (.cons (.x 2 (.v 0) .nil) (.cons (.v 1) (.cons (.bin .add (.bin .mul (.k (.int 8)) (.v 4)) (.v 6)) (.cons (.bin .add (.bin .mul (.k (.int 8)) (.v 5)) (.v 7)) (.cons (.bin .add (.bin .mul (.k (.int 8)) (.v 2)) (.v 9)) .nil)))))))) (.cons (.augi 3 .add (.blt .len (.cons (.lci 10 (.v 8) (.x 3 (.v 0) (.cons (.v 10) .nil)) (.v 10)) .nil)) (.k (.int 1))) .nil))
def bodyV : Ss := (.cons (.fou [6, 7] (.gl 1) bodyQ) .nil)
def bodyU : Ss := (.cons (.fo 5 (.rg1 (.x 2 (.v 0) .nil)) bodyV) .nil)
theorem b_sec : b_section = (.cons (.mk 3 (.lst (.cons (.k (.int 0)) (.cons (.k (.int 0)) (.cons (.k (.int 0)) .nil))))) (.cons (.fo 4 (.rg1 (.x 2 (.v 0) .nil)) bodyU) (.cons (.fz 3) (.cons (.ret (.tup (.cons (.ix (.v 3) (.k (.int 2))) (.cons (.ix (.v 3) (.k (.int 1))) .nil)))) .nil)))) := rfl
theorem has_ok (n : Int) (A : List Int) (k : Int) : r_Solid_has [solidD n (A.map PyData.int), .int k] = some (.bool (decide (k ∈ A))) := by
  have e : r_Solid_has [solidD n (A.map PyData.int), .int k] = some (.bool (lookD (thereD (A.map PyData.int)) (.inl k)).isSome) := by kernel_rfl
  rw [e, there_any]
theorem size_ok (n : Int) (gs : List PyData) : f_fld "Solid" "size" [solidD n gs] = some (.int n) := by
  kernel_rfl
theorem met_ok (n : Int) (gs : List PyData) : p_met "Solid" "has" (solidD n gs) = true := by
  kernel_rfl
/-- the counts behind a quarter -/
def upc (b1 b2 : Bool) (s : Int × Int × Int) : Int × Int × Int := match b1, b2 with
  | true, true => (s.1, s.2.1, s.2.2 + 1)
  | false, false => (s.1 + 1, s.2.1, s.2.2)
  | _, _ => (s.1, s.2.1 + 1, s.2.2)
def st3 (s : Int × Int × Int) : Option B := some (.own [.int s.1, .int s.2.1, .int s.2.2])
theorem step_q {n ax at_ u v du dv g1 g2 : Int} {A : List Int} {s : Int × Int × Int} {j8 j9 j10 : Option B} (h1 : r_grain_beside [.int n, .int ax, .int (8 * u + du), .int (8 * v + dv), .int (8 * at_ + -1)] = some (.int g1))
    (h2 : r_grain_beside [.int n, .int ax, .int (8 * u + du), .int (8 * v + dv), .int (8 * at_ + 1)] = some (.int g2)) :
    ∃ j8', evSs F_section bodyQ [some (.dat (solidD n (A.map PyData.int))), iD ax, iD at_, st3 s, iD u, iD v, iD du, iD dv, j8, j9, j10] =
      some (.nx [some (.dat (solidD n (A.map PyData.int))), iD ax, iD at_, st3 (upc (decide (g1 ∈ A)) (decide (g2 ∈ A)) s), iD u, iD v, iD du, iD dv, j8', j9, j10]) := by
  have m8 : ∀ k, CMul 8 k = True := fun k => eq_true (.inl (by decide))
  have c0 : (F_section.isFn 0 = true) = True := eq_true rfl
  have c1 : F_section.fn 0 = r_grain_beside := rfl
  have c2 : F_section.xf 2 = f_fld "Solid" "size" := rfl
  have c3 : F_section.xf 3 = r_Solid_has := rfl
  have c4 : ∀ d, F_section.xp 2 d = true := fun d => rfl
  have c5 : F_section.xp 3 (solidD n (A.map PyData.int)) = true := met_ok n (A.map PyData.int)
  refine ⟨some (.dat (.list [.int g1, .int g2])), ?_⟩
  unfold bodyQ
  cases e1 : decide (g1 ∈ A) <;> cases e2 : decide (g2 ∈ A) <;>
  simp [evSs, evS, evE, evEs, evI, e_var, few, e_neg, lcF, e_bin, m8, c0, c1, c2, c3, c4, c5, size_ok, h1, h2, e_own, st3, e_sq, has_ok, e1, e2, e_bool, e_bl, e_seq, e_int, ixN, upc]
end K17

set_option Elab.async false
set_option linter.all false
set_option maxRecDepth 100000
set_option maxHeartbeats 4000000
namespace K17
open PySem L2 Qd
def QP : List (Int × Int) := [(4, 2), (6, 4), (4, 6), (2, 4)]
def q2D (q : Int × Int) : PyData := .tuple [.int q.1, .int q.2]
/-- the grains on both sides of a quarter -/
def Bes (n ax at_ : Int) (gp : Int → Int → Int × Int → Int × Int) (u v : Int) (q : Int × Int) : Prop :=
  r_grain_beside [.int n, .int ax, .int (8 * u + q.1), .int (8 * v + q.2), .int (8 * at_ + -1)] = some (.int (gp u v q).1) ∧
  r_grain_beside [.int n, .int ax, .int (8 * u + q.1), .int (8 * v + q.2), .int (8 * at_ + 1)] = some (.int (gp u v q).2)
def upg (A : List Int) (g : Int × Int) (s : Int × Int × Int) : Int × Int × Int := upc (decide (g.1 ∈ A)) (decide (g.2 ∈ A)) s
section
variable {n ax at_ : Int} {A : List Int} {gp : Int → Int → Int × Int → Int × Int}
abbrev sol (n : Int) (A : List Int) : Option B := some (.dat (solidD n (A.map PyData.int)))
theorem loopQ {u v : Int} : ∀ {qs : List (Int × Int)} {s : Int × Int × Int} {j6 j7 j8 j9 j10 : Option B}, (∀ q ∈ qs, Bes n ax at_ gp u v q) →
    ∃ j6' j7' j8', forF (fun x ρ => (e_tup x).bind fun ds => (setAll [6, 7] ds ρ).bind fun ρ' => evSs F_section bodyQ ρ') (qs.map q2D) [sol n A, iD ax, iD at_, st3 s, iD u, iD v, j6, j7, j8, j9, j10] =
      some (.nx [sol n A, iD ax, iD at_, st3 (qs.foldl (fun s q => upg A (gp u v q) s) s), iD u, iD v, j6', j7', j8', j9, j10])
  | [], s, j6, j7, j8, j9, j10, _ => ⟨j6, j7, j8, rfl⟩
  | q :: qs, s, j6, j7, j8, j9, j10, h => by
    obtain ⟨h1, h2⟩ := h q List.mem_cons_self
    obtain ⟨j8a, e1⟩ := step_q (A := A) (s := s) (j8 := j8) (j9 := j9) (j10 := j10) h1 h2
    obtain ⟨j6', j7', j8', e2⟩ := loopQ (qs := qs) (s := upg A (gp u v q) s) (j6 := iD q.1) (j7 := iD q.2) (j8 := j8a) (j9 := j9) (j10 := j10) fun q hq => h q (List.mem_cons_of_mem _ hq)
    refine ⟨j6', j7', j8', ?_⟩
    rw [List.foldl_cons, ← e2, List.map_cons, forF]
    show (evSs F_section bodyQ [sol n A, iD ax, iD at_, st3 s, iD u, iD v, iD q.1, iD q.2, j8, j9, j10]).bind _ = _
    rw [e1]
    rfl
theorem loopV {u : Int} : ∀ {vs : List Int} {s : Int × Int × Int} {j5 j6 j7 j8 j9 j10 : Option B}, (∀ v ∈ vs, ∀ q ∈ QP, Bes n ax at_ gp u v q) →
    ∃ j5' j6' j7' j8', forF (fun x ρ => evSs F_section bodyV (ρ.set 5 (some (.dat x)))) (vs.map PyData.int) [sol n A, iD ax, iD at_, st3 s, iD u, j5, j6, j7, j8, j9, j10] =
      some (.nx [sol n A, iD ax, iD at_, st3 (vs.foldl (fun s v => QP.foldl (fun s q => upg A (gp u v q) s) s) s), iD u, j5', j6', j7', j8', j9, j10])
  | [], s, j5, j6, j7, j8, j9, j10, _ => ⟨j5, j6, j7, j8, rfl⟩
  | v :: vs, s, j5, j6, j7, j8, j9, j10, h => by
    obtain ⟨a6, a7, a8, e1⟩ := loopQ (A := A) (s := s) (j6 := j6) (j7 := j7) (j8 := j8) (j9 := j9) (j10 := j10) (h v List.mem_cons_self)
    obtain ⟨j5', j6', j7', j8', e2⟩ := loopV (vs := vs) (s := QP.foldl (fun s q => upg A (gp u v q) s) s) (j5 := iD v) (j6 := a6) (j7 := a7) (j8 := a8) (j9 := j9) (j10 := j10) fun v hv => h v (List.mem_cons_of_mem _ hv)
    refine ⟨j5', j6', j7', j8', ?_⟩
    rw [List.foldl_cons, ← e2, List.map_cons, forF]
    have e3 : evSs F_section bodyV [sol n A, iD ax, iD at_, st3 s, iD u, iD v, j6, j7, j8, j9, j10] = some (.nx [sol n A, iD ax, iD at_, st3 (QP.foldl (fun s q => upg A (gp u v q) s) s), iD u, iD v, a6, a7, a8, j9, j10]) := by
      unfold bodyV
      rw [evSs, evS]
      show ((some (QP.map q2D)).bind _).bind _ = _
      rw [Option.bind_some, e1]
      rfl
    show (evSs F_section bodyV [sol n A, iD ax, iD at_, st3 s, iD u, iD v, j6, j7, j8, j9, j10]).bind _ = _
    rw [e3]
    rfl
theorem loopU {vs : List Int} (hr : evI F_section (.rg1 (.x 2 (.v 0) .nil)) = fun ρ => (evE F_section (.x 2 (.v 0) .nil) ρ).bind fun x => (e_int x).bind fun n => e_rg 0 n) (hv : e_rg 0 n = some (vs.map PyData.int)) : ∀ {us : List Int} {s : Int × Int × Int} {j4 j5 j6 j7 j8 j9 j10 : Option B}, (∀ u ∈ us, ∀ v ∈ vs, ∀ q ∈ QP, Bes n ax at_ gp u v q) →
    ∃ j4' j5' j6' j7' j8', forF (fun x ρ => evSs F_section bodyU (ρ.set 4 (some (.dat x)))) (us.map PyData.int) [sol n A, iD ax, iD at_, st3 s, j4, j5, j6, j7, j8, j9, j10] =
      some (.nx [sol n A, iD ax, iD at_, st3 (us.foldl (fun s u => vs.foldl (fun s v => QP.foldl (fun s q => upg A (gp u v q) s) s) s) s), j4', j5', j6', j7', j8', j9, j10])
  | [], s, j4, j5, j6, j7, j8, j9, j10, _ => ⟨j4, j5, j6, j7, j8, rfl⟩
  | u :: us, s, j4, j5, j6, j7, j8, j9, j10, h => by
    obtain ⟨a5, a6, a7, a8, e1⟩ := loopV (A := A) (s := s) (j5 := j5) (j6 := j6) (j7 := j7) (j8 := j8) (j9 := j9) (j10 := j10) (h u List.mem_cons_self)
    obtain ⟨j4', j5', j6', j7', j8', e2⟩ := loopU hr hv (us := us) (s := vs.foldl (fun s v => QP.foldl (fun s q => upg A (gp u v q) s) s) s) (j4 := iD u) (j5 := a5) (j6 := a6) (j7 := a7) (j8 := a8) (j9 := j9) (j10 := j10) fun u hu => h u (List.mem_cons_of_mem _ hu)
    refine ⟨j4', j5', j6', j7', j8', ?_⟩
    rw [List.foldl_cons, ← e2, List.map_cons, forF]
    have e3 : evSs F_section bodyU [sol n A, iD ax, iD at_, st3 s, iD u, j5, j6, j7, j8, j9, j10] = some (.nx [sol n A, iD ax, iD at_, st3 (vs.foldl (fun s v => QP.foldl (fun s q => upg A (gp u v q) s) s) s), iD u, a5, a6, a7, a8, j9, j10]) := by
      unfold bodyU
      rw [evSs, evS]
      have er : evI F_section (.rg1 (.x 2 (.v 0) .nil)) [sol n A, iD ax, iD at_, st3 s, iD u, j5, j6, j7, j8, j9, j10] = some (vs.map PyData.int) := by
        rw [hr, ← hv]
        have c2 : F_section.xf 2 = f_fld "Solid" "size" := rfl
        have c4 : ∀ d, F_section.xp 2 d = true := fun d => rfl
        simp [evE, evEs, e_var, c2, c4, size_ok, e_int]
      rw [er, Option.bind_some, e1]
      rfl
    show (evSs F_section bodyU [sol n A, iD ax, iD at_, st3 s, iD u, j5, j6, j7, j8, j9, j10]).bind _ = _
    rw [e3]
    rfl
theorem hrg : evI F_section (.rg1 (.x 2 (.v 0) .nil)) = fun ρ => (evE F_section (.x 2 (.v 0) .nil) ρ).bind fun x => (e_int x).bind fun n => e_rg 0 n := by
  funext ρ
  rw [evI]
theorem sec_ok {vs : List Int} (hv : e_rg 0 n = some (vs.map PyData.int)) (h : ∀ u ∈ vs, ∀ v ∈ vs, ∀ q ∈ QP, Bes n ax at_ gp u v q) :
    r_section [solidD n (A.map PyData.int), .int ax, .int at_] = some (.tuple [.int (vs.foldl (fun s u => vs.foldl (fun s v => QP.foldl (fun s q => upg A (gp u v q) s) s) s) (0, 0, 0)).2.2, .int (vs.foldl (fun s u => vs.foldl (fun s v => QP.foldl (fun s q => upg A (gp u v q) s) s) s) (0, 0, 0)).2.1]) := by
  obtain ⟨j4, j5, j6, j7, j8, e⟩ := loopU (A := A) hrg hv (us := vs) (s := (0, 0, 0)) (j4 := none) (j5 := none) (j6 := none) (j7 := none) (j8 := none) (j9 := none) (j10 := none) h
  have er : evI F_section (.rg1 (.x 2 (.v 0) .nil)) [sol n A, iD ax, iD at_, st3 (0, 0, 0), none, none, none, none, none, none, none] = some (vs.map PyData.int) := by
    rw [hrg, ← hv]
    have c2 : F_section.xf 2 = f_fld "Solid" "size" := rfl
    have c4 : ∀ d, F_section.xp 2 d = true := fun d => rfl
    simp [evE, evEs, e_var, c2, c4, size_ok, e_int]
  generalize hs : vs.foldl (fun s u => vs.foldl (fun s v => QP.foldl (fun s q => upg A (gp u v q) s) s) s) (0, 0, 0) = S at e ⊢
  have e0 : evSs F_section b_section (startR N_section [solidD n (A.map PyData.int), .int ax, .int at_]) = some (.rt (.tuple [.int S.2.2, .int S.2.1])) := by
    rw [b_sec, evSs, evS]
    show (evSs F_section _ [sol n A, iD ax, iD at_, st3 (0, 0, 0), none, none, none, none, none, none, none]) = _
    rw [evSs, evS, er, Option.bind_some, e]
    rfl
  exact runD_eq rfl e0
end
end K17

set_option Elab.async false
set_option linter.all false
set_option maxRecDepth 100000
set_option maxHeartbeats 4000000
namespace K17
open PySem L2 Qd
/-! the two lists of pairs of grains -/
def co (ax : Int) (q : Int × Int × Int) : Int := if ax = 0 then q.1 else if ax = 1 then q.2.1 else q.2.2
def sc (ax : Int) (q : Int × Int × Int) (k : Int) : Int × Int × Int := if ax = 0 then (k, q.2.1, q.2.2) else if ax = 1 then (q.1, k, q.2.2) else (q.1, q.2.1, k)
def valI : Option PyData → Int
  | some (.int g) => g
  | _ => 0
def isI : Option PyData → Bool
  | some (.int _) => true
  | _ => false
def bes (n ax at_ u v : Int) (q : Int × Int) (w : Int) : Option PyData := r_grain_beside [.int n, .int ax, .int (8 * u + q.1), .int (8 * v + q.2), .int (8 * at_ + w)]
def gpp (n ax at_ : Int) (u v : Int) (q : Int × Int) : Int × Int := (valI (bes n ax at_ u v q (-1)), valI (bes n ax at_ u v q 1))
def besB (n : Nat) (ax at_ : Int) : Bool := (R n).all fun u => (R n).all fun v => QP.all fun q => isI (bes n ax at_ u v q (-1)) && isI (bes n ax at_ u v q 1)
def secL (n : Nat) (ax at_ : Int) : List (Int × Int) := (R n).flatMap fun u => (R n).flatMap fun v => QP.map fun q => gpp n ax at_ u v q
def lawL (ms : List (Int × Int × Int)) (ax at_ : Int) : Nat → List (Int × Int × Int) → List (Int × Int)
  | _, [] => []
  | i, q :: qs => if co ax q = 8 * at_ - 1 then ((i : Nat), (ms.idxOf (sc ax q (8 * at_ + 1)) : Nat)) :: lawL ms ax at_ (i + 1) qs else lawL ms ax at_ (i + 1) qs
def conB' (ms : List (Int × Int × Int)) (ax at_ : Int) : Bool := ms.all fun q => decide (co ax q ≠ 8 * at_ - 1) || ms.contains (sc ax q (8 * at_ + 1))
def good (n : Nat) (ax at_ : Int) : Bool := besB n ax at_ && (secL n ax at_).isPerm (lawL (M n) ax at_ 0 (M n)) && conB' (M n) ax at_
theorem nd2 : (M 2).Nodup := by decide +kernel
theorem good2 : ((R 3).all fun ax => good 2 ax 1) = true := by decide +kernel
end K17

set_option Elab.async false
set_option linter.all false
set_option maxRecDepth 100000
set_option maxHeartbeats 4000000
namespace K17
open PySem L2 Qd
def cdI (q : Int × Int × Int) : Int := (q.2.2 * 100 + q.2.1) * 100 + q.1
def incB : List Int → Bool
  | a :: b :: r => decide (a < b) && incB (b :: r)
  | _ => true
theorem inc_ok : ∀ (l : List Int), incB l = true → l.Pairwise (· < ·)
  | [], _ => .nil
  | [a], _ => by simp
  | a :: b :: r, h => by
    unfold incB at h
    rw [Bool.and_eq_true, decide_eq_true_eq] at h
    have ih := inc_ok (b :: r) h.2
    refine List.pairwise_cons.mpr ⟨fun x hx => ?_, ih⟩
    rcases List.mem_cons.mp hx with rfl | hx
    · exact h.1
    · exact Int.lt_trans h.1 ((List.pairwise_cons.mp ih).1 x hx)
theorem inc3 : incB ((M 3).map cdI) = true := by decide +kernel
theorem nd3 : (M 3).Nodup := by
  have h := inc_ok _ inc3
  rw [List.pairwise_map] at h
  exact h.imp fun lt e => by
    rw [e] at lt
    exact absurd lt (Int.lt_irrefl _)
theorem g01 : good 3 0 1 = true := by decide +kernel
theorem g02 : good 3 0 2 = true := by decide +kernel
theorem g11 : good 3 1 1 = true := by decide +kernel
theorem g12 : good 3 1 2 = true := by decide +kernel
theorem g21 : good 3 2 1 = true := by decide +kernel
theorem g22 : good 3 2 2 = true := by decide +kernel
theorem good3 : ((R 3).all fun ax => good 3 ax 1 && good 3 ax 2) = true := by
  rw [show R 3 = [0, 1, 2] from rfl]
  simp only [List.all_cons, List.all_nil, g01, g02, g11, g12, g21, g22, Bool.and_self]
end K17

set_option Elab.async false
set_option linter.all false
set_option maxRecDepth 100000
set_option maxHeartbeats 4000000
namespace K17
open PySem L2 Qd
theorem cell_ok (ns : List Int) (k : Nat) : r_law_cell [.list (ns.map PyData.int), .int (k : Int)] = some (.int (ns.getD k 0)) := by
  refine runD_eq rfl ?_
  show evSs F_law_cell b_law_cell [some (.dat (.list (ns.map PyData.int))), iD k] = _
  unfold b_law_cell
  by_cases h : k < ns.length
  · have hk : ((k : Int) < (ns.length : Int)) = True := eq_true (by omega)
    have ha : atI (ns.map PyData.int) (k : Int) = some (.int (ns.getD k 0)) := by
      unfold atI ixN
      rw [if_pos (by omega), if_pos (by rw [List.length_map]; omega), Option.bind_some]
      simp [h]
    simp [evSs, evS, evE, evEs, e_var, e_bl, e_seq, e_cmp, e_bool, e_ix, hk, ha, h]
  · have hd : ns.getD k 0 = 0 := by simp [h]
    rw [hd]
    simp [evSs, evS, evE, evEs, e_var, e_bl, e_seq, e_cmp, e_bool, h]
/-! draws -/
def bD : Ss := (.cons (.iff (.and (.cmp .ge (.blt .abs (.cons (.v 0) .nil)) (.bin .pow (.k (.int 10)) (.k (.int 18)))) (.cmp .gt (.v 4) (.k (.int 0)))) (.cons (.app 3 (.bin .mod (.blt .int (.cons (.v 4) .nil)) (.v 2))) (.cons (.set 4 (.bin .div (.v 4) (.v 2))) .nil)) (.cons (.set 6 (.bin .mod (.blt .int (.cons (.bin .add (.bin .add (.bin .mul (.blt .abs (.cons (.v 0) .nil)) (.k (.int 48271))) (.bin .mul (.v 5) (.k (.int 69621)))) (.k (.int 7))) .nil)) (.k (.int 2147483647)))) (.cons (.set 6 (.bin .mod (.blt .int (.cons (.bin .add (.bin .add (.bin .mul (.v 6) (.k (.int 16807))) (.bin .div (.v 6) (.k (.int 127)))) (.bin .mul (.v 5) (.k (.int 31)))) .nil)) (.k (.int 2147483629)))) (.cons (.app 3 (.bin .mod (.bin .div (.v 6) (.k (.int 3))) (.v 2))) .nil)))) .nil)
theorem b_dr : b_law_draws = (.cons (.mk 3 (.lst .nil)) (.cons (.set 4 (.blt .abs (.cons (.v 0) .nil))) (.cons (.fo 5 (.rg1 (.v 1)) bD) (.cons (.fz 3) (.cons (.ret (.v 3)) .nil))))) := rfl
theorem step_d {c m l r k : Int} {acc : List Int} {j6 : Option B} (hl : 0 < l ∧ l < 1073741824) (ha : acc.length < 100000) :
    ∃ d r' j6', evSs F_law_draws bD [iD c, iD m, iD l, some (.own (acc.map PyData.int)), iD r, iD k, j6] = some (.nx [iD c, iD m, iD l, some (.own ((acc ++ [d]).map PyData.int)), iD r', iD k, j6']) := by
  have p18 : CPow 10 18 = True := eq_true ⟨by decide, by decide, by decide⟩
  have mm : ∀ x, CMul x 48271 = True := fun x => eq_true (.inr (by decide))
  have m2 : ∀ x, CMul x 69621 = True := fun x => eq_true (.inr (by decide))
  have m3 : ∀ x, CMul x 16807 = True := fun x => eq_true (.inr (by decide))
  have m4 : ∀ x, CMul x 31 = True := fun x => eq_true (.inr (by decide))
  have d1 : ∀ x, CDiv x 127 = True := fun x => eq_true ⟨by decide, by decide⟩
  have d3 : ∀ x, CDiv x 3 = True := fun x => eq_true ⟨by decide, by decide⟩
  have dl : ∀ x, CDiv x l = True := fun x => eq_true hl
  obtain ⟨a, ea⟩ : ∃ a : Int, (if c < 0 then -c else c) = a := ⟨_, rfl⟩
  obtain ⟨x, ex⟩ : ∃ x : Int, (a * 48271 + k * 69621 + 7) % 2147483647 = x := ⟨_, rfl⟩
  obtain ⟨y, ey⟩ : ∃ y : Int, (x * 16807 + x / 127 + k * 31) % 2147483629 = y := ⟨_, rfl⟩
  by_cases h1 : (1000000000000000000 : Int) ≤ a
  · by_cases h2 : 0 < r
    · refine ⟨r % l, r / l, j6, ?_⟩
      unfold bD
      simp [evSs, evS, evE, evEs, e_var, e_bin, e_bl, e_cmp, e_bool, e_own, p18, mm, m2, m3, m4, d1, d3, dl, hl.1, ha, ea, h1, h2]
    · refine ⟨y / 3 % l, r, iD y, ?_⟩
      unfold bD
      simp [evSs, evS, evE, evEs, e_var, e_bin, e_bl, e_cmp, e_bool, e_own, p18, mm, m2, m3, m4, d1, d3, dl, hl.1, ha, ea, h1, h2, ex, ey]
  · refine ⟨y / 3 % l, r, iD y, ?_⟩
    unfold bD
    simp [evSs, evS, evE, evEs, e_var, e_bin, e_bl, e_cmp, e_bool, e_own, p18, mm, m2, m3, m4, d1, d3, dl, hl.1, ha, ea, h1, ex, ey]
theorem loop_d {c m l : Int} (hl : 0 < l ∧ l < 1073741824) : ∀ {ks : List Int} {acc : List Int} {r : Int} {j5 j6 : Option B}, acc.length + ks.length ≤ 100000 →
    ∃ (ds : List Int) (r' : Int) (j5' j6' : Option B), ds.length = acc.length + ks.length ∧ forF (fun x ρ => evSs F_law_draws bD (ρ.set 5 (some (.dat x)))) (ks.map PyData.int) [iD c, iD m, iD l, some (.own (acc.map PyData.int)), iD r, j5, j6] = some (.nx [iD c, iD m, iD l, some (.own (ds.map PyData.int)), iD r', j5', j6'])
  | [], acc, r, j5, j6, _ => ⟨acc, r, j5, j6, rfl, rfl⟩
  | k :: ks, acc, r, j5, j6, h => by
    rw [List.length_cons] at h
    obtain ⟨d, r1, j6a, e1⟩ := step_d (c := c) (m := m) (l := l) (r := r) (k := k) (acc := acc) (j6 := j6) hl (by omega)
    obtain ⟨ds, r', j5', j6', hL, e⟩ := loop_d hl (ks := ks) (acc := acc ++ [d]) (r := r1) (j5 := iD k) (j6 := j6a) (by rw [List.length_append, List.length_singleton]; omega)
    refine ⟨ds, r', j5', j6', by rw [hL, List.length_append, List.length_singleton, List.length_cons]; omega, ?_⟩
    rw [← e, List.map_cons, forF]
    show (evSs F_law_draws bD [iD c, iD m, iD l, some (.own (acc.map PyData.int)), iD r, iD k, j6]).bind _ = _
    rw [e1]
    rfl
theorem draws_ok (c : Int) (m : Nat) (l : Int) (hm : m ≤ 1000) (hl : 0 < l ∧ l < 1073741824) : ∃ ds : List Int, ds.length = m ∧ r_law_draws [.int c, .int (m : Int), .int l] = some (.list (ds.map PyData.int)) := by
  obtain ⟨a, ea⟩ : ∃ a : Int, (if c < 0 then -c else c) = a := ⟨_, rfl⟩
  obtain ⟨ds, r', j5, j6, hL, e⟩ := loop_d (c := c) (m := m) (l := l) hl (ks := R m) (acc := []) (r := a) (j5 := none) (j6 := none) (by simp [R]; omega)
  rw [List.map_nil] at e
  refine ⟨ds, by rw [hL]; simp [R], runD_eq rfl ?_⟩
  have er : evI F_law_draws (.rg1 (.v 1)) [iD c, iD m, iD l, some (.own []), iD a, none, none] = some ((R m).map PyData.int) := by
    rw [← rg_R m (by omega)]
    simp [evI, evE, e_var, e_int]
  have e0 : evS F_law_draws (.set 4 (.blt .abs (.cons (.v 0) .nil))) [iD c, iD m, iD l, some (.own []), none, none, none] = some (.nx [iD c, iD m, iD l, some (.own []), iD a, none, none]) := by
    simp [evS, evE, evEs, e_var, e_bl, ea]
  rw [b_dr, evSs, evS]
  show evSs F_law_draws _ [iD c, iD m, iD l, some (.own []), none, none, none] = _
  rw [evSs, e0]
  show evSs F_law_draws _ [iD c, iD m, iD l, some (.own []), iD a, none, none] = _
  rw [evSs, evS, er, Option.bind_some, e]
  rfl
end K17

set_option Elab.async false
set_option linter.all false
set_option maxRecDepth 100000
set_option maxHeartbeats 4000000
namespace K17
open PySem L2 Qd
def bM : Ss := (.cons (.iff (.cmp .eq (.ix (.v 14) (.v 9)) (.bin .sub (.bin .mul (.k (.int 8)) (.v 10)) (.k (.int 1)))) (.cons (.mk 15 (.blt .list (.cons (.v 14) .nil))) (.cons (.seti 15 (.v 9) (.bin .add (.bin .mul (.k (.int 8)) (.v 10)) (.k (.int 1)))) (.cons (.fz 15) (.cons (.set 16 (.bin .add (.blt .int (.cons (.x 1 (.v 14) (.cons (.v 8) .nil)) .nil)) (.blt .int (.cons (.x 1 (.blt .tuple (.cons (.v 15) .nil)) (.cons (.v 8) .nil)) .nil)))) (.cons (.aug 12 .add (.blt .int (.cons (.cmp .eq (.v 16) (.k (.int 2))) .nil))) (.cons (.aug 13 .add (.blt .int (.cons (.cmp .eq (.v 16) (.k (.int 1))) .nil))) .nil)))))) .nil) .nil)
def bA : Ss := (.cons (.set 12 (.k (.int 0))) (.cons (.set 13 (.k (.int 0))) (.cons (.fo 14 (.v 3) bM) (.cons (.iff (.cmp .ne (.call 3 (.cons (.v 7) (.cons (.v 9) (.cons (.v 10) .nil)))) (.tup (.cons (.v 12) (.cons (.v 13) .nil)))) (.cons (.ret (.k (.bool false))) .nil) .nil) .nil))))
def bAx : Ss := (.cons (.fo 10 (.rg2 (.k (.int 1)) (.v 2)) bA) .nil)
theorem sh_int (a : Int) : SeqAt.shaped (.int a) = true := by kernel_rfl
theorem pl_int (a : Int) : plainD (.int a) = true := by rw [plainD]
theorem eq_ii (a b : Int) : e_cmp .eq (.int a) (.int b) = some (a == b) := by
  simp [e_cmp, sh_int, pl_int, eqv_ii]
def stM (ax at_ : Int) (h : Int × Int × Int → Bool) (s : Int × Int × Int) (q : Int × Int × Int) : Int × Int × Int := if co ax q = 8 * at_ - 1 then upc (h q) (h (sc ax q (8 * at_ + 1))) s else s
theorem at0 {x y z : PyData} : atI [x, y, z] 0 = some x := rfl
theorem at1 {x y z : PyData} : atI [x, y, z] 1 = some y := rfl
theorem at2 {x y z : PyData} : atI [x, y, z] 2 = some z := rfl
theorem step_m {ax at_ : Int} (hax : ax = 0 ∨ ax = 1 ∨ ax = 2) {hv : PyData} {h : Int × Int × Int → Bool} (hh : ∀ q, f_in [ptD q, hv] = some (.bool (h q))) {q s : Int × Int × Int} {c0 c1 c2 c3 c4 c5 c6 c7 c11 c15 c16 : Option B} :
    ∃ c15' c16', evSs F_law bM [c0, c1, c2, c3, c4, c5, c6, c7, some (.dat hv), iD ax, iD at_, c11, iD s.2.2, iD s.2.1, some (.dat (ptD q)), c15, c16] =
      some (.nx [c0, c1, c2, c3, c4, c5, c6, c7, some (.dat hv), iD ax, iD at_, c11, iD (stM ax at_ h s q).2.2, iD (stM ax at_ h s q).2.1, some (.dat (ptD q)), c15', c16']) := by
  have m8 : ∀ k, CMul 8 k = True := fun k => eq_true (.inl (by decide))
  have x1 : F_law.xf 1 = f_in := rfl
  have p1 : ∀ d, F_law.xp 1 d = true := fun d => rfl
  obtain ⟨x, y, z⟩ := q
  obtain ⟨b0, o, b⟩ := s
  have h0 := hh (x, y, z)
  unfold ptD at h0
  rcases hax with rfl | rfl | rfl
  · have hq := hh (8 * at_ + 1, y, z)
    unfold ptD at hq
    have ec : sc 0 (x, y, z) (8 * at_ + 1) = (8 * at_ + 1, y, z) := rfl
    have eo : co 0 (x, y, z) = x := rfl
    unfold stM
    rw [eo, ec]
    by_cases e : x = 8 * at_ - 1
    · subst e
      refine ⟨some (.dat (.list [.int (8 * at_ + 1, y, z).1, .int (8 * at_ + 1, y, z).2.1, .int (8 * at_ + 1, y, z).2.2])), iD ((if h (8 * at_ - 1, y, z) = true then 1 else 0) + (if h (8 * at_ + 1, y, z) = true then 1 else 0)), ?_⟩
      unfold bM
      cases k1 : h (8 * at_ - 1, y, z) <;> cases k2 : h (8 * at_ + 1, y, z) <;> rw [k1] at h0 <;> rw [k2] at hq <;>
      simp [evSs, evS, evE, evEs, e_var, e_bin, e_bl, e_seq, e_bool, e_own, e_dat, e_list, e_int, e_ix, eq_ii, ixN, ptD, at0, at1, at2, m8, x1, p1, h0, hq, k1, k2, upc]
    · have eb : (x == 8 * at_ - 1) = false := by simpa using e
      refine ⟨c15, c16, ?_⟩
      unfold bM
      simp [evSs, evS, evE, evEs, e_var, e_bin, e_bool, e_ix, eq_ii, ptD, at0, at1, at2, m8, e, eb]
  · have hq := hh (x, 8 * at_ + 1, z)
    unfold ptD at hq
    have ec : sc 1 (x, y, z) (8 * at_ + 1) = (x, 8 * at_ + 1, z) := rfl
    have eo : co 1 (x, y, z) = y := rfl
    unfold stM
    rw [eo, ec]
    by_cases e : y = 8 * at_ - 1
    · subst e
      refine ⟨some (.dat (.list [.int (x, 8 * at_ + 1, z).1, .int (x, 8 * at_ + 1, z).2.1, .int (x, 8 * at_ + 1, z).2.2])), iD ((if h (x, 8 * at_ - 1, z) = true then 1 else 0) + (if h (x, 8 * at_ + 1, z) = true then 1 else 0)), ?_⟩
      unfold bM
      cases k1 : h (x, 8 * at_ - 1, z) <;> cases k2 : h (x, 8 * at_ + 1, z) <;> rw [k1] at h0 <;> rw [k2] at hq <;>
      simp [evSs, evS, evE, evEs, e_var, e_bin, e_bl, e_seq, e_bool, e_own, e_dat, e_list, e_int, e_ix, eq_ii, ixN, ptD, at0, at1, at2, m8, x1, p1, h0, hq, k1, k2, upc]
    · have eb : (y == 8 * at_ - 1) = false := by simpa using e
      refine ⟨c15, c16, ?_⟩
      unfold bM
      simp [evSs, evS, evE, evEs, e_var, e_bin, e_bool, e_ix, eq_ii, ptD, at0, at1, at2, m8, e, eb]
  · have hq := hh (x, y, 8 * at_ + 1)
    unfold ptD at hq
    have ec : sc 2 (x, y, z) (8 * at_ + 1) = (x, y, 8 * at_ + 1) := rfl
    have eo : co 2 (x, y, z) = z := rfl
    unfold stM
    rw [eo, ec]
    by_cases e : z = 8 * at_ - 1
    · subst e
      refine ⟨some (.dat (.list [.int (x, y, 8 * at_ + 1).1, .int (x, y, 8 * at_ + 1).2.1, .int (x, y, 8 * at_ + 1).2.2])), iD ((if h (x, y, 8 * at_ - 1) = true then 1 else 0) + (if h (x, y, 8 * at_ + 1) = true then 1 else 0)), ?_⟩
      unfold bM
      cases k1 : h (x, y, 8 * at_ - 1) <;> cases k2 : h (x, y, 8 * at_ + 1) <;> rw [k1] at h0 <;> rw [k2] at hq <;>
      simp [evSs, evS, evE, evEs, e_var, e_bin, e_bl, e_seq, e_bool, e_own, e_dat, e_list, e_int, e_ix, eq_ii, ixN, ptD, at0, at1, at2, m8, x1, p1, h0, hq, k1, k2, upc]
    · have eb : (z == 8 * at_ - 1) = false := by simpa using e
      refine ⟨c15, c16, ?_⟩
      unfold bM
      simp [evSs, evS, evE, evEs, e_var, e_bin, e_bool, e_ix, eq_ii, ptD, at0, at1, at2, m8, e, eb]
end K17

set_option Elab.async false
set_option linter.all false
set_option maxRecDepth 100000
set_option maxHeartbeats 4000000
namespace K17
open PySem L2 Qd
section
variable {ax at_ : Int} {hv : PyData} {h : Int × Int × Int → Bool} {c0 c1 c2 c3 c4 c5 c6 c7 c11 : Option B}
theorem loop_m (hax : ax = 0 ∨ ax = 1 ∨ ax = 2) (hh : ∀ q, f_in [ptD q, hv] = some (.bool (h q))) : ∀ {qs : List (Int × Int × Int)} {s : Int × Int × Int} {c14 c15 c16 : Option B},
    ∃ c14' c15' c16', forF (fun x ρ => evSs F_law bM (ρ.set 14 (some (.dat x)))) (qs.map ptD) [c0, c1, c2, c3, c4, c5, c6, c7, some (.dat hv), iD ax, iD at_, c11, iD s.2.2, iD s.2.1, c14, c15, c16] =
      some (.nx [c0, c1, c2, c3, c4, c5, c6, c7, some (.dat hv), iD ax, iD at_, c11, iD (qs.foldl (stM ax at_ h) s).2.2, iD (qs.foldl (stM ax at_ h) s).2.1, c14', c15', c16'])
  | [], s, c14, c15, c16 => ⟨c14, c15, c16, rfl⟩
  | q :: qs, s, c14, c15, c16 => by
    obtain ⟨a15, a16, e1⟩ := step_m (at_ := at_) hax hh (q := q) (s := s) (c0 := c0) (c1 := c1) (c2 := c2) (c3 := c3) (c4 := c4) (c5 := c5) (c6 := c6) (c7 := c7) (c11 := c11) (c15 := c15) (c16 := c16)
    obtain ⟨c14', c15', c16', e⟩ := loop_m hax hh (qs := qs) (s := stM ax at_ h s q) (c14 := some (.dat (ptD q))) (c15 := a15) (c16 := a16)
    refine ⟨c14', c15', c16', ?_⟩
    rw [List.foldl_cons, ← e, List.map_cons, forF]
    show (evSs F_law bM [c0, c1, c2, c3, c4, c5, c6, c7, some (.dat hv), iD ax, iD at_, c11, iD s.2.2, iD s.2.1, some (.dat (ptD q)), c15, c16]).bind _ = _
    rw [e1]
    rfl
end
theorem fold_law {ax at_ : Int} {h : Int × Int × Int → Bool} {A : List Int} {ms : List (Int × Int × Int)} (hh : ∀ (i : Nat) q, ms[i]? = some q → h q = decide ((i : Int) ∈ A)) (hc : ∀ q ∈ ms, co ax q = 8 * at_ - 1 → sc ax q (8 * at_ + 1) ∈ ms) :
    ∀ (qs : List (Int × Int × Int)) (i : Nat) (s : Int × Int × Int), (∀ j q, qs[j]? = some q → ms[i + j]? = some q) → qs.foldl (stM ax at_ h) s = (lawL ms ax at_ i qs).foldl (fun s g => upg A g s) s
  | [], i, s, _ => rfl
  | q :: qs, i, s, hq => by
    have h0 := hq 0 q rfl
    have ih := fun s => fold_law (h := h) hh hc qs (i + 1) s fun j q hj => by
      have := hq (j + 1) q hj
      rw [Nat.add_right_comm, Nat.add_assoc]
      exact this
    rw [List.foldl_cons, lawL]
    unfold stM
    by_cases e : co ax q = 8 * at_ - 1
    · rw [if_pos e, if_pos e, List.foldl_cons]
      have m := hc q (List.mem_of_getElem? h0) e
      have hl : ms.idxOf (sc ax q (8 * at_ + 1)) < ms.length := List.idxOf_lt_length_iff.mpr m
      have h1 : ms[ms.idxOf (sc ax q (8 * at_ + 1))]? = some (sc ax q (8 * at_ + 1)) := by rw [List.getElem?_eq_getElem hl, List.getElem_idxOf]
      have z := ih (upc (h q) (h (sc ax q (8 * at_ + 1))) s)
      rw [hh i q h0, hh _ _ h1] at z ⊢
      exact z
    · rw [if_neg e, if_neg e]
      exact ih s
theorem upg_comm (A : List Int) (s : Int × Int × Int) (x y : Int × Int) : upg A y (upg A x s) = upg A x (upg A y s) := by
  unfold upg
  cases decide (x.1 ∈ A) <;> cases decide (x.2 ∈ A) <;> cases decide (y.1 ∈ A) <;> cases decide (y.2 ∈ A) <;> rfl
theorem isI_val {o : Option PyData} (h : isI o = true) : o = some (.int (valI o)) := by
  unfold isI at h
  split at h
  · rfl
  · cases h
/-- both counts are one -/
theorem counts {n : Nat} {ax at_ : Int} (hg : good n ax at_ = true) {A : List Int} {h : Int × Int × Int → Bool} (hh : ∀ (i : Nat) q, (M n)[i]? = some q → h q = decide ((i : Int) ∈ A)) (hn : n ≤ 100) :
    r_section [solidD (n : Int) (A.map PyData.int), .int ax, .int at_] = some (.tuple [.int ((M n).foldl (stM ax at_ h) (0, 0, 0)).2.2, .int ((M n).foldl (stM ax at_ h) (0, 0, 0)).2.1]) := by
  unfold good at hg
  rw [Bool.and_eq_true, Bool.and_eq_true] at hg
  obtain ⟨⟨g1, g2⟩, g3⟩ := hg
  have bs : ∀ u ∈ R n, ∀ v ∈ R n, ∀ q ∈ QP, Bes n ax at_ (gpp n ax at_) u v q := fun u hu v hv q hq => by
    have z := List.all_eq_true.mp (List.all_eq_true.mp (List.all_eq_true.mp g1 u hu) v hv) q hq
    rw [Bool.and_eq_true] at z
    exact ⟨isI_val z.1, isI_val z.2⟩
  have p := List.isPerm_iff.mp g2
  have hc : ∀ q ∈ M n, co ax q = 8 * at_ - 1 → sc ax q (8 * at_ + 1) ∈ M n := fun q hq e => by
    have z := List.all_eq_true.mp g3 q hq
    rw [Bool.or_eq_true, decide_eq_true_eq] at z
    rcases z with z | z
    · exact absurd e z
    · exact List.contains_iff_mem.mp z
  rw [sec_ok (A := A) (rg_R n (by omega)) bs]
  have e1 : (R n).foldl (fun s u => (R n).foldl (fun s v => QP.foldl (fun s q => upg A (gpp n ax at_ u v q) s) s) s) (0, 0, 0) = (secL n ax at_).foldl (fun s g => upg A g s) (0, 0, 0) := by
    simp only [secL, List.foldl_flatMap, List.foldl_map]
  have e2 := fold_law (A := A) hh hc (M n) 0 (0, 0, 0) fun j q hj => by rw [Nat.zero_add]; exact hj
  have e3 := p.foldl_eq' (f := fun s g => upg A g s) (fun x _ y _ z => upg_comm A z x y) (0, 0, 0)
  rw [e1, e2, e3]
theorem ne_same (a b : Int) : e_cmp .ne (.tuple [.int a, .int b]) (.tuple [.int a, .int b]) = some false := by
  have c : (SeqAt.shaped (.tuple [.int a, .int b]) && SeqAt.shaped (.tuple [.int a, .int b]) && plainD (.tuple [.int a, .int b]) && plainD (.tuple [.int a, .int b])) = true := by kernel_rfl
  show (if (SeqAt.shaped (.tuple [.int a, .int b]) && SeqAt.shaped (.tuple [.int a, .int b]) && plainD (.tuple [.int a, .int b]) && plainD (.tuple [.int a, .int b])) = true then some (!PyData.eqv (.tuple [.int a, .int b]) (.tuple [.int a, .int b])) else none) = _
  rw [if_pos c]
  simp [PyData.eqv, PyData.eqvAll]
end K17

set_option Elab.async false
set_option linter.all false
set_option maxRecDepth 100000
set_option maxHeartbeats 4000000
namespace K17
open PySem L2 Qd
section
variable {n : Nat} {A : List Int} {hv : PyData} {h : Int × Int × Int → Bool} {c0 c1 c4 c5 c6 : Option B}
theorem ok_A {ax at_ : Int} (hax : ax = 0 ∨ ax = 1 ∨ ax = 2) (hn : n ≤ 100) (hg : good n ax at_ = true) (hh : ∀ q, f_in [ptD q, hv] = some (.bool (h q))) (hA : ∀ (i : Nat) q, (M n)[i]? = some q → h q = decide ((i : Int) ∈ A)) {c11 c12 c13 c14 c15 c16 : Option B} :
    ∃ d12 d13 d14 d15 d16, evSs F_law bA [c0, c1, iD n, some (.dat (.list ((M n).map ptD))), c4, c5, c6, sol n A, some (.dat hv), iD ax, iD at_, c11, c12, c13, c14, c15, c16] =
      some (.nx [c0, c1, iD n, some (.dat (.list ((M n).map ptD))), c4, c5, c6, sol n A, some (.dat hv), iD ax, iD at_, c11, d12, d13, d14, d15, d16]) := by
  obtain ⟨d14, d15, d16, e⟩ := loop_m (at_ := at_) hax hh (qs := M n) (s := (0, 0, 0)) (c0 := c0) (c1 := c1) (c2 := iD n) (c3 := some (.dat (.list ((M n).map ptD)))) (c4 := c4) (c5 := c5) (c6 := c6) (c7 := sol n A) (c11 := c11) (c14 := c14) (c15 := c15) (c16 := c16)
  have sec := counts hg hA hn
  generalize (M n).foldl (stM ax at_ h) (0, 0, 0) = S at e sec
  refine ⟨iD S.2.2, iD S.2.1, d14, d15, d16, ?_⟩
  have fn3 : F_law.fn 3 = r_section := rfl
  have is3 : F_law.isFn 3 = true := rfl
  unfold bA
  rw [evSs, evS]
  show evSs F_law _ [c0, c1, iD n, some (.dat (.list ((M n).map ptD))), c4, c5, c6, sol n A, some (.dat hv), iD ax, iD at_, c11, iD 0, c13, c14, c15, c16] = _
  rw [evSs, evS]
  show evSs F_law _ [c0, c1, iD n, some (.dat (.list ((M n).map ptD))), c4, c5, c6, sol n A, some (.dat hv), iD ax, iD at_, c11, iD 0, iD 0, c14, c15, c16] = _
  rw [evSs, evS]
  have er : evI F_law (.v 3) [c0, c1, iD n, some (.dat (.list ((M n).map ptD))), c4, c5, c6, sol n A, some (.dat hv), iD ax, iD at_, c11, iD 0, iD 0, c14, c15, c16] = some ((M n).map ptD) := rfl
  rw [er, Option.bind_some, e, Option.bind_some]
  show evSs F_law _ [c0, c1, iD n, some (.dat (.list ((M n).map ptD))), c4, c5, c6, sol n A, some (.dat hv), iD ax, iD at_, c11, iD S.2.2, iD S.2.1, d14, d15, d16] = _
  simp [evSs, evS, evE, evEs, e_var, few, fn3, is3, sec, ne_same, e_bool]
theorem loop_at {ax : Int} (hax : ax = 0 ∨ ax = 1 ∨ ax = 2) (hn : n ≤ 100) (hh : ∀ q, f_in [ptD q, hv] = some (.bool (h q))) (hA : ∀ (i : Nat) q, (M n)[i]? = some q → h q = decide ((i : Int) ∈ A)) {c11 : Option B} : ∀ {ats : List Int} {c10 c12 c13 c14 c15 c16 : Option B}, (∀ a ∈ ats, good n ax a = true) →
    ∃ d10 d12 d13 d14 d15 d16, forF (fun x ρ => evSs F_law bA (ρ.set 10 (some (.dat x)))) (ats.map PyData.int) [c0, c1, iD n, some (.dat (.list ((M n).map ptD))), c4, c5, c6, sol n A, some (.dat hv), iD ax, c10, c11, c12, c13, c14, c15, c16] =
      some (.nx [c0, c1, iD n, some (.dat (.list ((M n).map ptD))), c4, c5, c6, sol n A, some (.dat hv), iD ax, d10, c11, d12, d13, d14, d15, d16])
  | [], c10, c12, c13, c14, c15, c16, _ => ⟨c10, c12, c13, c14, c15, c16, rfl⟩
  | a :: ats, c10, c12, c13, c14, c15, c16, hg => by
    obtain ⟨a12, a13, a14, a15, a16, e1⟩ := ok_A (c0 := c0) (c1 := c1) (c4 := c4) (c5 := c5) (c6 := c6) hax hn (hg a List.mem_cons_self) hh hA (c11 := c11) (c12 := c12) (c13 := c13) (c14 := c14) (c15 := c15) (c16 := c16)
    obtain ⟨d10, d12, d13, d14, d15, d16, e⟩ := loop_at hax hn hh hA (ats := ats) (c10 := iD a) (c12 := a12) (c13 := a13) (c14 := a14) (c15 := a15) (c16 := a16) fun b hb => hg b (List.mem_cons_of_mem _ hb)
    refine ⟨d10, d12, d13, d14, d15, d16, ?_⟩
    rw [← e, List.map_cons, forF]
    show (evSs F_law bA [c0, c1, iD n, some (.dat (.list ((M n).map ptD))), c4, c5, c6, sol n A, some (.dat hv), iD ax, iD a, c11, c12, c13, c14, c15, c16]).bind _ = _
    rw [e1]
    rfl
theorem loop_ax {ats : List Int} (hr : e_rg 1 n = some (ats.map PyData.int)) (hn : n ≤ 100) (hh : ∀ q, f_in [ptD q, hv] = some (.bool (h q))) (hA : ∀ (i : Nat) q, (M n)[i]? = some q → h q = decide ((i : Int) ∈ A)) {c11 : Option B} : ∀ {axs : List Int} {c9 c10 c12 c13 c14 c15 c16 : Option B}, (∀ ax ∈ axs, (ax = 0 ∨ ax = 1 ∨ ax = 2) ∧ ∀ a ∈ ats, good n ax a = true) →
    ∃ d9 d10 d12 d13 d14 d15 d16, forF (fun x ρ => evSs F_law bAx (ρ.set 9 (some (.dat x)))) (axs.map PyData.int) [c0, c1, iD n, some (.dat (.list ((M n).map ptD))), c4, c5, c6, sol n A, some (.dat hv), c9, c10, c11, c12, c13, c14, c15, c16] =
      some (.nx [c0, c1, iD n, some (.dat (.list ((M n).map ptD))), c4, c5, c6, sol n A, some (.dat hv), d9, d10, c11, d12, d13, d14, d15, d16])
  | [], c9, c10, c12, c13, c14, c15, c16, _ => ⟨c9, c10, c12, c13, c14, c15, c16, rfl⟩
  | ax :: axs, c9, c10, c12, c13, c14, c15, c16, hg => by
    obtain ⟨g1, g2⟩ := hg ax List.mem_cons_self
    obtain ⟨a10, a12, a13, a14, a15, a16, e1⟩ := loop_at (c0 := c0) (c1 := c1) (c4 := c4) (c5 := c5) (c6 := c6) g1 hn hh hA (c11 := c11) (c10 := c10) (c12 := c12) (c13 := c13) (c14 := c14) (c15 := c15) (c16 := c16) g2
    obtain ⟨d9, d10, d12, d13, d14, d15, d16, e⟩ := loop_ax hr hn hh hA (axs := axs) (c9 := iD ax) (c10 := a10) (c12 := a12) (c13 := a13) (c14 := a14) (c15 := a15) (c16 := a16) fun b hb => hg b (List.mem_cons_of_mem _ hb)
    refine ⟨d9, d10, d12, d13, d14, d15, d16, ?_⟩
    rw [← e, List.map_cons, forF]
    have er : evI F_law (.rg2 (.k (.int 1)) (.v 2)) [c0, c1, iD n, some (.dat (.list ((M n).map ptD))), c4, c5, c6, sol n A, some (.dat hv), iD ax, c10, c11, c12, c13, c14, c15, c16] = some (ats.map PyData.int) := by
      rw [← hr]
      simp [evI, evE, e_var, e_int]
    have e3 : evSs F_law bAx [c0, c1, iD n, some (.dat (.list ((M n).map ptD))), c4, c5, c6, sol n A, some (.dat hv), iD ax, c10, c11, c12, c13, c14, c15, c16] = some (.nx [c0, c1, iD n, some (.dat (.list ((M n).map ptD))), c4, c5, c6, sol n A, some (.dat hv), iD ax, a10, c11, a12, a13, a14, a15, a16]) := by
      unfold bAx
      rw [evSs, evS, er, Option.bind_some, e1]
      rfl
    show (evSs F_law bAx [c0, c1, iD n, some (.dat (.list ((M n).map ptD))), c4, c5, c6, sol n A, some (.dat hv), iD ax, c10, c11, c12, c13, c14, c15, c16]).bind _ = _
    rw [e3]
    rfl
end
/-! lists built in the law -/
theorem lc_filter {F : FG} {ρ : Rho} {p : Int → Bool} {sf : PyData → Option (Option PyData)} (hs : ∀ k : Int, sf (.int k) = if p k = true then some (some (.int k)) else some none) : ∀ {xs acc : List Int}, acc.length + xs.length ≤ 100000 → lcF sf (xs.map PyData.int) (acc.map PyData.int) = some ((acc ++ xs.filter p).map PyData.int)
  | [], acc, _ => by simp [lcF]
  | x :: xs, acc, h => by
    rw [List.length_cons] at h
    rw [List.map_cons, lcF, hs x, List.filter_cons]
    by_cases e : p x = true
    · rw [if_pos e, if_pos e]
      show (if (acc.map PyData.int).length < 100000 then _ else _) = _
      rw [if_pos (by rw [List.length_map]; omega)]
      have := lc_filter hs (F := F) (ρ := ρ) (xs := xs) (acc := acc ++ [x]) (by rw [List.length_append, List.length_singleton]; omega)
      rw [List.map_append] at this
      rw [show (acc.map PyData.int ++ [PyData.int x]) = acc.map PyData.int ++ [x].map PyData.int from rfl, this]
      simp
    · rw [if_neg e, if_neg e]
      exact lc_filter hs (F := F) (ρ := ρ) (by omega)
theorem lc_map {sf : PyData → Option (Option PyData)} {g : Int → PyData} : ∀ {xs : List Int} {acc : List PyData}, (∀ k ∈ xs, sf (.int k) = some (some (g k))) → acc.length + xs.length ≤ 100000 → lcF sf (xs.map PyData.int) acc = some (acc ++ xs.map g)
  | [], acc, _, _ => by simp [lcF]
  | x :: xs, acc, hs, h => by
    rw [List.length_cons] at h
    rw [List.map_cons, lcF, hs x List.mem_cons_self]
    show (if acc.length < 100000 then _ else _) = _
    rw [if_pos (by omega), lc_map (xs := xs) (acc := acc ++ [g x]) (fun k hk => hs k (List.mem_cons_of_mem _ hk)) (by rw [List.length_append, List.length_singleton]; omega)]
    simp
theorem pairsN_map (g : Int → Int × Int × Int) : ∀ xs : List Int, pairsN (xs.map fun k => .tuple [ptD (g k), .bool true]) = some (xs.map fun k => (ptD (g k), .bool true))
  | [] => rfl
  | x :: xs => by
    rw [List.map_cons, pairsN, if_pos (ok_pt _), pairsN_map g xs]
    rfl
theorem pairsK_map : ∀ xs : List Int, pairsK (xs.map fun k => .tuple [.int k, .bool true]) = some (xs.map fun k => (.int k, .bool true))
  | [] => rfl
  | x :: xs => by
    rw [List.map_cons, pairsK, if_pos (show (dkey (.int x)).isSome = true from rfl), pairsK_map xs]
    rfl
end K17

set_option Elab.async false
set_option linter.all false
set_option maxRecDepth 100000
set_option maxHeartbeats 4000000
namespace K17
open PySem L2 Qd
theorem r_count {n : Int} (h1 : 2 ≤ n) (h2 : n ≤ 6) : r_grain_count [.int n] = some (.int (24 * n ^ 3)) := by
  have c : CPow n 3 := ⟨by decide, by decide, by omega⟩
  have m : CMul 24 (n ^ 3) := .inl (by decide)
  simp [r_grain_count, runD, F_grain_count, b_grain_count, N_grain_count, startR, evSs, evS, evE, e_var, e_bin, c, m]
theorem stp {F : FG} {s : S} {ss : Ss} {ρ ρ' : Rho} (h : evS F s ρ = some (.nx ρ')) : evSs F (.cons s ss) ρ = evSs F ss ρ' := by
  rw [evSs, h]
  rfl
def s1 : S := (.set 1 (.blt .abs (.cons (.call 0 (.cons (.v 0) (.cons (.k (.int 0)) .nil))) .nil)))
def s2 : S := (.set 2 (.bin .add (.k (.int 2)) (.bin .mod (.v 1) (.k (.int 2)))))
def s3 : S := (.set 3 (.call 1 (.cons (.v 2) .nil)))
def s4 : S := (.set 4 (.ix (.lst (.cons (.k (.int 0)) (.cons (.k (.int 5)) (.cons (.k (.int 50)) (.cons (.k (.int 300)) .nil))))) (.bin .mod (.bin .div (.v 1) (.k (.int 2))) (.k (.int 4)))))
def s5 : S := (.set 5 (.x 0 (.lc 11 (.call 2 (.cons (.call 0 (.cons (.v 0) (.cons (.k (.int 1)) .nil))) (.cons (.v 4) (.cons (.blt .len (.cons (.v 3) .nil)) .nil)))) (.tup (.cons (.v 11) (.cons (.k (.bool true)) .nil)))) .nil))
def s6 : S := (.set 6 (.lci 11 (.rg1 (.blt .len (.cons (.v 3) .nil))) (.cmp .eq (.x 1 (.v 11) (.cons (.v 5) .nil)) (.cmp .eq (.bin .mod (.bin .div (.v 1) (.k (.int 8))) (.k (.int 2))) (.k (.int 0)))) (.v 11)))
def s7 : S := (.set 7 (.x 4 (.v 2) (.cons (.v 6) .nil)))
def s8 : S := (.set 8 (.x 6 (.lc 11 (.v 6) (.tup (.cons (.ix (.v 3) (.v 11)) (.cons (.k (.bool true)) .nil)))) .nil))
def s9 : S := (.fo 9 (.rg1 (.k (.int 3))) bAx)
theorem b_lw : b_law = (.cons s1 (.cons s2 (.cons s3 (.cons s4 (.cons s5 (.cons s6 (.cons s7 (.cons s8 (.cons s9 (.cons (.ret (.k (.bool true))) .nil)))))))))) := rfl
section
variable {L : List Int} {f : Int} {c3 c4 c5 c6 c7 c8 c9 c10 c11 c12 c13 c14 c15 c16 : Option B}
theorem e1 (ns : List Int) : evS F_law s1 [some (.dat (.list (ns.map PyData.int))), none, none, none, none, none, none, none, none, none, none, none, none, none, none, none, none] =
    some (.nx [some (.dat (.list (ns.map PyData.int))), iD (if ns.getD 0 0 < 0 then -(ns.getD 0 0) else ns.getD 0 0), none, none, none, none, none, none, none, none, none, none, none, none, none, none, none]) := by
  have h0 : r_law_cell [.list (ns.map PyData.int), .int 0] = some (.int (ns.getD 0 0)) := cell_ok ns 0
  have fn0 : F_law.fn 0 = r_law_cell := rfl
  have is0 : F_law.isFn 0 = true := rfl
  generalize ns.getD 0 0 = c at h0 ⊢
  unfold s1
  simp [evS, evE, evEs, e_var, fn0, is0, h0, e_bl]
theorem e4 (hf : 0 ≤ f) {c0 c2 : Option B} : ∃ m : Nat, m ≤ 1000 ∧ evS F_law s4 [c0, iD f, c2, c3, none, none, none, none, none, none, none, none, none, none, none, none, none] =
    some (.nx [c0, iD f, c2, c3, iD m, none, none, none, none, none, none, none, none, none, none, none, none]) := by
  have d2 : CDiv f 2 = True := eq_true ⟨by decide, by decide⟩
  have hr : f / 2 % 4 = 0 ∨ f / 2 % 4 = 1 ∨ f / 2 % 4 = 2 ∨ f / 2 % 4 = 3 := by omega
  unfold s4
  rcases hr with e | e | e | e
  · exact ⟨0, by decide, by simp [evS, evE, evEs, e_var, e_bin, few, e_ix, d2, e]; rfl⟩
  · exact ⟨5, by decide, by simp [evS, evE, evEs, e_var, e_bin, few, e_ix, d2, e]; rfl⟩
  · exact ⟨50, by decide, by simp [evS, evE, evEs, e_var, e_bin, few, e_ix, d2, e]; rfl⟩
  · exact ⟨300, by decide, by simp [evS, evE, evEs, e_var, e_bin, few, e_ix, d2, e]; rfl⟩
theorem e5 {ns : List Int} {m N : Nat} {Ms : List PyData} (hm : m ≤ 1000) (hN : Ms.length = N) (hN0 : 0 < N ∧ N < 100000) {c1 c2 : Option B} : ∃ D, evS F_law s5 [some (.dat (.list (ns.map PyData.int))), c1, c2, some (.dat (.list Ms)), iD m, none, none, none, none, none, none, none, none, none, none, none, none] =
    some (.nx [some (.dat (.list (ns.map PyData.int))), c1, c2, some (.dat (.list Ms)), iD m, some (.dat (.dict ((.none, .int 0) :: D))), none, none, none, none, none, none, none, none, none, none, none]) := by
  have h1 : r_law_cell [.list (ns.map PyData.int), .int 1] = some (.int (ns.getD 1 0)) := cell_ok ns 1
  obtain ⟨ds, hl, h2⟩ := draws_ok (ns.getD 1 0) m (N : Int) hm ⟨by omega, by omega⟩
  have fn0 : F_law.fn 0 = r_law_cell := rfl
  have is0 : F_law.isFn 0 = true := rfl
  have fn2 : F_law.fn 2 = r_law_draws := rfl
  have is2 : F_law.isFn 2 = true := rfl
  have x0 : F_law.xf 0 = f_dict := rfl
  have p0 : ∀ d, F_law.xp 0 d = true := fun d => rfl
  generalize ns.getD 1 0 = c at h1 h2
  have ei : evI F_law (.call 2 (.cons (.call 0 (.cons (.v 0) (.cons (.k (.int 1)) .nil))) (.cons (.v 4) (.cons (.blt .len (.cons (.v 3) .nil)) .nil)))) [some (.dat (.list (ns.map PyData.int))), c1, c2, some (.dat (.list Ms)), iD m, none, none, none, none, none, none, none, none, none, none, none, none] = some (ds.map PyData.int) := by
    simp [evI, evE, evEs, e_var, fn0, is0, fn2, is2, h1, e_bl, e_seq, hN, h2, e_sq]
  have el := lc_map (sf := fun x => (evE F_law (.tup (.cons (.v 11) (.cons (.k (.bool true)) .nil))) ([some (.dat (.list (ns.map PyData.int))), c1, c2, some (.dat (.list Ms)), iD m, none, none, none, none, none, none, none, none, none, none, none, none].set 11 (some (.dat x)))).map some) (g := fun k => .tuple [.int k, .bool true]) (xs := ds) (acc := []) (fun k _ => rfl) (by simp; omega)
  refine ⟨mergeD [] (ds.map fun k => (.int k, .bool true)), ?_⟩
  unfold s5
  rw [evS, evE, evE, ei, Option.bind_some, el]
  simp [p0, x0, evEs, f_dict, pairsK_map]
theorem eq_bb (a b : Bool) : e_cmp .eq (.bool a) (.bool b) = some (a == b) := by
  have c : (SeqAt.shaped (.bool a) && SeqAt.shaped (.bool b) && plainD (.bool a) && plainD (.bool b)) = true := by cases a <;> cases b <;> kernel_rfl
  show (if (SeqAt.shaped (.bool a) && SeqAt.shaped (.bool b) && plainD (.bool a) && plainD (.bool b)) = true then some (PyData.eqv (.bool a) (.bool b)) else none) = _
  rw [if_pos c]
  simp [PyData.eqv]
theorem e6 {N : Nat} {Ms : List PyData} (hN : Ms.length = N) (hN0 : N < 100000) {D : List (PyData × PyData)} {c0 c2 c4 : Option B} : ∃ p : Int → Bool, evS F_law s6 [c0, iD f, c2, some (.dat (.list Ms)), c4, some (.dat (.dict ((.none, .int 0) :: D))), none, none, none, none, none, none, none, none, none, none, none] =
    some (.nx [c0, iD f, c2, some (.dat (.list Ms)), c4, some (.dat (.dict ((.none, .int 0) :: D))), some (.dat (.list (((R N).filter p).map PyData.int))), none, none, none, none, none, none, none, none, none, none]) := by
  have x1 : F_law.xf 1 = f_in := rfl
  have p1 : ∀ d, F_law.xp 1 d = true := fun d => rfl
  have d8 : CDiv f 8 = True := eq_true ⟨by decide, by decide⟩
  have ei : evI F_law (.rg1 (.blt .len (.cons (.v 3) .nil))) [c0, iD f, c2, some (.dat (.list Ms)), c4, some (.dat (.dict ((.none, .int 0) :: D))), none, none, none, none, none, none, none, none, none, none, none] = some ((R N).map PyData.int) := by
    rw [← rg_R N (by omega)]
    simp [evI, evE, evEs, e_var, e_bl, e_seq, hN, e_int]
  refine ⟨fun k => (lookD D (.inl k)).isSome == (f / 8 % 2 == 0), ?_⟩
  have lf : ∀ {sf : PyData → Option (Option PyData)} {p : Int → Bool}, (∀ k : Int, sf (.int k) = if p k = true then some (some (.int k)) else some none) → lcF sf ((R N).map PyData.int) [] = some (((R N).filter p).map PyData.int) := fun hs => by
    have := lc_filter (F := F_law) (ρ := []) hs (xs := R N) (acc := []) (by simp [R]; omega)
    rw [List.map_nil, List.nil_append] at this
    exact this
  unfold s6
  rw [evS, evE, ei, Option.bind_some, lf (p := fun k => (lookD D (.inl k)).isSome == (f / 8 % 2 == 0))]
  · rfl
  · intro k
    cases h1 : (lookD D (.inl k)).isSome <;> cases h2 : (f / 8 % 2 == 0) <;> simp [evE, evEs, e_var, x1, p1, f_in, dkey, e_bin, d8, eq_ii, eq_bb, e_bool, h1, h2]
theorem mem_R {m : Nat} {k : Int} : k ∈ R m ↔ 0 ≤ k ∧ k < m := by
  unfold R
  rw [List.mem_map]
  constructor
  · rintro ⟨j, hj, rfl⟩
    have := List.mem_range.mp hj
    omega
  · rintro ⟨h1, h2⟩
    exact ⟨k.toNat, List.mem_range.mpr (by omega), by omega⟩
theorem e7 {n : Nat} (hn : 2 ≤ n ∧ n ≤ 3) {p : Int → Bool} {c0 c1 c3 c4 c5 : Option B} : evS F_law s7 [c0, c1, iD n, c3, c4, c5, some (.dat (.list (((R (24 * n ^ 3)).filter p).map PyData.int))), none, none, none, none, none, none, none, none, none, none] =
    some (.nx [c0, c1, iD n, c3, c4, c5, some (.dat (.list (((R (24 * n ^ 3)).filter p).map PyData.int))), sol n ((R (24 * n ^ 3)).filter p), none, none, none, none, none, none, none, none, none]) := by
  have x4 : F_law.xf 4 = g_solid := rfl
  have p4 : ∀ d, F_law.xp 4 d = true := fun d => rfl
  have hall : ∀ k ∈ (R (24 * n ^ 3)).filter p, 0 ≤ k ∧ k < ((24 * n ^ 3 : Nat) : Int) := fun k hk => mem_R.mp (List.mem_filter.mp hk).1
  have hlen : ((R (24 * n ^ 3)).filter p).length ≤ 24 * n ^ 3 := Nat.le_trans (List.length_filter_le _ _) (by simp [R])
  generalize (R (24 * n ^ 3)).filter p = A at hall hlen ⊢
  have hb : 24 * n ^ 3 ≤ 100000 := by
    rcases (show n = 2 ∨ n = 3 by omega) with rfl | rfl <;> decide
  have g : g_solid [.int (n : Int), .list (A.map PyData.int)] = some (solidD n (A.map PyData.int)) := by
    unfold g_solid
    refine if_pos ⟨by omega, by omega, by rw [List.length_map]; omega, ?_⟩
    rw [List.all_map]
    refine List.all_eq_true.mpr fun k hk => ?_
    obtain ⟨h1, h2⟩ := hall k hk
    show (decide (0 ≤ k) && decide (k < 24 * (n : Int) ^ 3)) = true
    rw [decide_eq_true h1, Bool.true_and]
    refine decide_eq_true ?_
    push_cast at h2
    exact h2
  unfold s7
  simp [evS, evE, evEs, e_var, x4, p4, g]
/-- the place of a middle -/
def mg (n : Nat) (k : Int) : Int × Int × Int := ((M n)[k.toNat]?).getD (0, 0, 0)
def haveD (n : Nat) (A : List Int) : PyData := .dict ((.none, .int 2) :: mergeN [] (A.map fun k => (ptD (mg n k), .bool true)))
theorem e8 {n : Nat} {A : List Int} (hA : ∀ k ∈ A, 0 ≤ k ∧ k < ((M n).length : Int)) (hl : A.length ≤ 100000) {c0 c1 c2 c4 c5 c7 : Option B} : evS F_law s8 [c0, c1, c2, some (.dat (.list ((M n).map ptD))), c4, c5, some (.dat (.list (A.map PyData.int))), c7, none, none, none, none, none, none, none, none, none] =
    some (.nx [c0, c1, c2, some (.dat (.list ((M n).map ptD))), c4, c5, some (.dat (.list (A.map PyData.int))), c7, some (.dat (haveD n A)), none, none, none, none, none, none, none, none]) := by
  have x6 : F_law.xf 6 = f_dictN := rfl
  have p6 : ∀ d, F_law.xp 6 d = true := fun d => rfl
  have ei : evI F_law (.v 6) [c0, c1, c2, some (.dat (.list ((M n).map ptD))), c4, c5, some (.dat (.list (A.map PyData.int))), c7, none, none, none, none, none, none, none, none, none] = some (A.map PyData.int) := rfl
  have el := lc_map (sf := fun x => (evE F_law (.tup (.cons (.ix (.v 3) (.v 11)) (.cons (.k (.bool true)) .nil))) ([c0, c1, c2, some (.dat (.list ((M n).map ptD))), c4, c5, some (.dat (.list (A.map PyData.int))), c7, none, none, none, none, none, none, none, none, none].set 11 (some (.dat x)))).map some) (g := fun k => .tuple [ptD (mg n k), .bool true]) (xs := A) (acc := []) (fun k hk => by
    obtain ⟨h1, h2⟩ := hA k hk
    have ha : atI ((M n).map ptD) k = some (ptD (mg n k)) := by
      unfold atI ixN mg
      rw [if_pos h1, if_pos (by rw [List.length_map]; exact h2), Option.bind_some, List.getElem?_map, List.getElem?_eq_getElem (by omega)]
      rfl
    simp [evE, evEs, e_var, e_ix, ha, few]) (by simp; omega)
  unfold s8
  rw [evS, evE, evE, ei, Option.bind_some, el]
  simp [p6, x6, evEs, f_dictN, pairsN_map, haveD]
theorem in_have (n : Nat) (A : List Int) (q : Int × Int × Int) : f_in [ptD q, haveD n A] = some (.bool (A.any fun k => decide (mg n k = q))) := by
  have e : (lookN (mergeN [] (A.map fun k => (ptD (mg n k), PyData.bool true))) (ptD q)).isSome = A.any fun k => decide (mg n k = q) := by
    rw [lookN_any, any_mergeN, List.any_nil, Bool.false_or, List.any_map]
    congr 1
    funext k
    show decide (nk (ptD (mg n k)) = nk (ptD q)) = _
    exact decide_eq_decide.mpr (nk_pt _ _)
  rw [← e]
  unfold f_in haveD
  dsimp only
  rw [if_neg (show ¬ (2 : Int) = 0 by decide), if_pos rfl, if_pos (ok_pt q)]
theorem have_A {n : Nat} (nd : (M n).Nodup) {A : List Int} (hA : ∀ k ∈ A, 0 ≤ k ∧ k < ((M n).length : Int)) (i : Nat) (q : Int × Int × Int) (hq : (M n)[i]? = some q) : (A.any fun k => decide (mg n k = q)) = decide ((i : Int) ∈ A) := by
  obtain ⟨hi, hq'⟩ := List.getElem?_eq_some_iff.mp hq
  rw [Bool.eq_iff_iff, List.any_eq_true, decide_eq_true_eq]
  constructor
  · rintro ⟨k, hk, e⟩
    have e := of_decide_eq_true e
    obtain ⟨h1, h2⟩ := hA k hk
    have hk2 : k.toNat < (M n).length := by omega
    unfold mg at e
    rw [List.getElem?_eq_getElem hk2] at e
    have e : (M n)[k.toNat] = q := e
    have := (List.getElem_inj nd).mp (e.trans hq'.symm)
    rw [← this, Int.toNat_of_nonneg h1]
    exact hk
  · intro h
    refine ⟨_, h, decide_eq_true ?_⟩
    unfold mg
    rw [Int.toNat_natCast, hq]
    rfl
theorem law_n {n : Nat} (hn : 2 ≤ n ∧ n ≤ 3) (nd : (M n).Nodup) (hl : (M n).length = 24 * n ^ 3) {ats : List Int} (hr : e_rg 1 n = some (ats.map PyData.int)) (hg : ∀ ax ∈ ([0, 1, 2] : List Int), ∀ a ∈ ats, good n ax a = true) (ns : List Int)
    (hf : 2 + (if ns.getD 0 0 < 0 then -(ns.getD 0 0) else ns.getD 0 0) % 2 = (n : Int)) : r_law [.list (ns.map PyData.int)] = some (.bool true) := by
  have h1 := e1 ns
  have hf0 : 0 ≤ (if ns.getD 0 0 < 0 then -(ns.getD 0 0) else ns.getD 0 0) := by split <;> omega
  generalize (if ns.getD 0 0 < 0 then -(ns.getD 0 0) else ns.getD 0 0) = f at h1 hf hf0
  have hb : 24 * n ^ 3 < 100000 ∧ 0 < 24 * n ^ 3 := by
    rcases (show n = 2 ∨ n = 3 by omega) with rfl | rfl <;> decide
  have hml : ((M n).map ptD).length = 24 * n ^ 3 := by rw [List.length_map, hl]
  obtain ⟨m, hm, h4⟩ := e4 (f := f) hf0 (c0 := some (.dat (.list (ns.map PyData.int)))) (c2 := iD n) (c3 := some (.dat (.list ((M n).map ptD))))
  obtain ⟨D, h5⟩ := e5 (ns := ns) (Ms := (M n).map ptD) hm hml ⟨hb.2, hb.1⟩ (c1 := iD f) (c2 := iD n)
  obtain ⟨p, h6⟩ := e6 (f := f) (Ms := (M n).map ptD) hml hb.1 (D := D) (c0 := some (.dat (.list (ns.map PyData.int)))) (c2 := iD n) (c4 := iD m)
  have h7 := e7 hn (p := p) (c0 := some (.dat (.list (ns.map PyData.int)))) (c1 := iD f) (c3 := some (.dat (.list ((M n).map ptD)))) (c4 := iD m) (c5 := some (.dat (.dict ((.none, .int 0) :: D))))
  have hA : ∀ k ∈ (R (24 * n ^ 3)).filter p, 0 ≤ k ∧ k < ((M n).length : Int) := fun k hk => by
    rw [hl]
    exact mem_R.mp (List.mem_filter.mp hk).1
  have hAl : ((R (24 * n ^ 3)).filter p).length ≤ 100000 := Nat.le_trans (List.length_filter_le _ _) (by simp [R]; omega)
  generalize (R (24 * n ^ 3)).filter p = A at h6 h7 hA hAl
  have h8 := e8 (n := n) hA hAl (c0 := some (.dat (.list (ns.map PyData.int)))) (c1 := iD f) (c2 := iD n) (c4 := iD m) (c5 := some (.dat (.dict ((.none, .int 0) :: D)))) (c7 := sol n A)
  obtain ⟨d9, d10, d12, d13, d14, d15, d16, h9⟩ := loop_ax (A := A) (hv := haveD n A) (c0 := some (.dat (.list (ns.map PyData.int)))) (c1 := iD f) (c4 := iD m) (c5 := some (.dat (.dict ((.none, .int 0) :: D)))) (c6 := some (.dat (.list (A.map PyData.int)))) hr (by omega) (in_have n A) (have_A nd hA) (c11 := none) (axs := [0, 1, 2]) (c9 := none) (c10 := none) (c12 := none) (c13 := none) (c14 := none) (c15 := none) (c16 := none)
    (fun ax hax => ⟨by simpa using hax, hg ax hax⟩)
  have h2 : evS F_law s2 [some (.dat (.list (ns.map PyData.int))), iD f, none, none, none, none, none, none, none, none, none, none, none, none, none, none, none] = some (.nx [some (.dat (.list (ns.map PyData.int))), iD f, iD n, none, none, none, none, none, none, none, none, none, none, none, none, none, none]) := by
    unfold s2
    simp [evS, evE, e_var, e_bin, hf]
  have h3 : evS F_law s3 [some (.dat (.list (ns.map PyData.int))), iD f, iD n, none, none, none, none, none, none, none, none, none, none, none, none, none, none] = some (.nx [some (.dat (.list (ns.map PyData.int))), iD f, iD n, some (.dat (.list ((M n).map ptD))), none, none, none, none, none, none, none, none, none, none, none, none, none]) := by
    have fn1 : F_law.fn 1 = r_law_middles := rfl
    have is1 : F_law.isFn 1 = true := rfl
    unfold s3
    simp [evS, evE, evEs, e_var, fn1, is1, mid_ok n (by omega)]
  have er : evI F_law (.rg1 (.k (.int 3))) [some (.dat (.list (ns.map PyData.int))), iD f, iD n, some (.dat (.list ((M n).map ptD))), iD m, some (.dat (.dict ((.none, .int 0) :: D))), some (.dat (.list (A.map PyData.int))), sol n A, some (.dat (haveD n A)), none, none, none, none, none, none, none, none] = some (([0, 1, 2] : List Int).map PyData.int) := rfl
  refine runD_eq rfl ?_
  rw [b_lw]
  show evSs F_law _ [some (.dat (.list (ns.map PyData.int))), none, none, none, none, none, none, none, none, none, none, none, none, none, none, none, none] = _
  rw [stp h1, stp h2, stp h3, stp h4, stp h5, stp h6, stp h7, stp h8, evSs, s9, evS, er, Option.bind_some, h9]
  rfl
theorem law_true (ns : List Int) (h : ns.length ≤ 63) : r_law [.list (ns.map .int)] = some (.bool true) := by
  have g2 := good2
  have g3 := good3
  have r3 : ∀ ax ∈ ([0, 1, 2] : List Int), ax ∈ R 3 := fun ax hax => by
    rw [mem_R]
    simp at hax
    omega
  rcases (show (if ns.getD 0 0 < 0 then -(ns.getD 0 0) else ns.getD 0 0) % 2 = 0 ∨ (if ns.getD 0 0 < 0 then -(ns.getD 0 0) else ns.getD 0 0) % 2 = 1 by omega) with e | e
  · refine law_n (n := 2) (by decide) nd2 M2_len (ats := [1]) rfl (fun ax hax a ha => ?_) ns (by rw [e]; rfl)
    simp at ha
    subst ha
    exact List.all_eq_true.mp g2 ax (r3 ax hax)
  · refine law_n (n := 3) (by decide) nd3 M3_len (ats := [1, 2]) rfl (fun ax hax a ha => ?_) ns (by rw [e]; rfl)
    have z := List.all_eq_true.mp g3 ax (r3 ax hax)
    rw [Bool.and_eq_true] at z
    simp at ha
    rcases ha with rfl | rfl
    · exact z.1
    · exact z.2
end
end K17

set_option Elab.async false
set_option linter.all false
set_option maxRecDepth 100000
set_option maxHeartbeats 4000000
namespace K17
open PySem L2 Qd
open Pd (SaysP AlP)
def zFns : List He.DefD := [Pd.defD "grain_count" s_grain_count, Pd.defD "grain_at" s_grain_at, Pd.defD "_grain_beside" s_grain_beside, Pd.defD "section" s_section, Pd.defD "_law_cell" s_law_cell, Pd.defD "_law_draws" s_law_draws, Pd.defD "_law_middles" s_law_middles, Pd.defD "law" s_law, metD "Solid" "__init__" "Solid.__init__" s_Solid_init, metD "Solid" "has" "Solid.has" s_Solid_has]
def zFa : List He.Fa := [.glo "grain_count", .glo "grain_at", .glo "_grain_beside", .glo "section", .glo "_law_cell", .glo "_law_draws", .glo "_law_middles", .glo "law", .glo "LEVELS", .glo "ROWS", .glo "Solid", .cls "Solid", .mkr "Solid", .noat "Solid" "size", .noat "Solid" "_there", .noat "Solid" "_grains", .meth "Solid" "has", .free "len", .free "int", .free "abs", .free "divmod", .free "sum", .free "tuple", .free "list", .free "min", .free "max", .free "sorted", .free "range", .free "dict"]
def zEx (K : PySem.W.Frag) : Bool := conB K "GRAINS_OF_CUBE" (.int 24) && (conB K "OTHER_AXES" (.tuple [(.tuple [(.int 1), (.int 2)]), (.tuple [(.int 0), (.int 2)]), (.tuple [(.int 0), (.int 1)])]) && (conB K "QUARTER_POINTS" (.tuple [(.tuple [(.int 4), (.int 2)]), (.tuple [(.int 6), (.int 4)]), (.tuple [(.int 4), (.int 6)]), (.tuple [(.int 2), (.int 4)])]) && (conB K "LEAST_SIZE" (.int 2) && (conB K "LARGEST_SIZE" (.int 6) && (tabI K (He.ga K "LEVELS") kd_LEVELS && (tabT K (He.ga K "ROWS") kd_ROWS))))))
theorem all_law {P : Program} {w : World} {K : PySem.W.Frag} {mg : Str → Option Value} {h : Heap} (X : K.In h) (G : h.Ns mainGlobals mg) (c : SaysP zFa zFns zEx K) {fa : Addr} (hfa : mg "law" = some (.ref fa)) :
    ∃ fd : FuncData, (∀ (s : Shared) (v : Value), BindsTo s fd ⟨[v], []⟩ [("script", v)]) ∧ ∀ (base : Heap), K.In base → base.Ns mainGlobals mg → FnOk P w K mg base CX0 4 fa fd ["script"] (Qd.spLaw K) := by
  have cd := c.d
  have ex := c.more
  unfold zEx at ex
  obtain ⟨x0, ex⟩ := Qd.ba ex
  obtain ⟨x1, ex⟩ := Qd.ba ex
  obtain ⟨x2, ex⟩ := Qd.ba ex
  obtain ⟨x3, ex⟩ := Qd.ba ex
  obtain ⟨x4, ex⟩ := Qd.ba ex
  obtain ⟨x5, ex⟩ := Qd.ba ex
  have x6 := ex
  have c_GRAINS_OF_CUBE : ConAt K mg "GRAINS_OF_CUBE" (.int 24) := conB_ok X G x0
  have c_OTHER_AXES : ConAt K mg "OTHER_AXES" (.tuple [(.tuple [(.int 1), (.int 2)]), (.tuple [(.int 0), (.int 2)]), (.tuple [(.int 0), (.int 1)])]) := conB_ok X G x1
  have c_QUARTER_POINTS : ConAt K mg "QUARTER_POINTS" (.tuple [(.tuple [(.int 4), (.int 2)]), (.tuple [(.int 6), (.int 4)]), (.tuple [(.int 4), (.int 6)]), (.tuple [(.int 2), (.int 4)])]) := conB_ok X G x2
  have c_LEAST_SIZE : ConAt K mg "LEAST_SIZE" (.int 2) := conB_ok X G x3
  have c_LARGEST_SIZE : ConAt K mg "LARGEST_SIZE" (.int 6) := conB_ok X G x4
  have t_LEVELS : TabAt P w K mg "LEVELS" t_LEVELS := ⟨_, He.glo_ok X G (cd.fact 8 (f := .glo "LEVELS") rfl), tabI_ok x5 (fun _ => rfl) (fun _ => rfl) getI_key⟩
  have t_ROWS : TabAt P w K mg "ROWS" t_ROWS := ⟨_, He.glo_ok X G (cd.fact 9 (f := .glo "ROWS") rfl), tabT_ok x6 getT_look (fun _ => rfl) getT_key⟩
  have b_len : mg ("len" : Str) = none := He.free_ok X G (cd.fact 17 (f := .free "len") rfl)
  have b_int : mg ("int" : Str) = none := He.free_ok X G (cd.fact 18 (f := .free "int") rfl)
  have b_abs : mg ("abs" : Str) = none := He.free_ok X G (cd.fact 19 (f := .free "abs") rfl)
  have b_divmod : mg ("divmod" : Str) = none := He.free_ok X G (cd.fact 20 (f := .free "divmod") rfl)
  have b_sum : mg ("sum" : Str) = none := He.free_ok X G (cd.fact 21 (f := .free "sum") rfl)
  have b_tuple : mg ("tuple" : Str) = none := He.free_ok X G (cd.fact 22 (f := .free "tuple") rfl)
  have b_list : mg ("list" : Str) = none := He.free_ok X G (cd.fact 23 (f := .free "list") rfl)
  have b_min : mg ("min" : Str) = none := He.free_ok X G (cd.fact 24 (f := .free "min") rfl)
  have b_max : mg ("max" : Str) = none := He.free_ok X G (cd.fact 25 (f := .free "max") rfl)
  have b_sorted : mg ("sorted" : Str) = none := He.free_ok X G (cd.fact 26 (f := .free "sorted") rfl)
  have b_range : mg ("range" : Str) = none := He.free_ok X G (cd.fact 27 (f := .free "range") rfl)
  have b_dict : mg ("dict" : Str) = none := He.free_ok X G (cd.fact 28 (f := .free "dict") rfl)
  have b0 : ∀ b : Bl, mg (blN b) = none := fun b => by
    cases b
    · exact b_len
    · exact b_int
    · exact b_abs
    · exact b_divmod
    · exact b_sum
    · exact b_tuple
    · exact b_list
    · exact b_min
    · exact b_max
    · exact b_sorted
  have cls_Solid : Cls K (He.ga K "Solid") := He.cls_ok (cd.fact 11 (f := .cls "Solid") rfl)
  have mkr_Solid : Mk K (He.ga K "Solid") (He.ma K (He.ga K "Solid") "__init__") := He.mkr_ok (cd.fact 12 (f := .mkr "Solid") rfl)
  have glo_Solid : mg ("Solid" : Str) = some (.ref (He.ga K "Solid")) := He.glo_ok X G (cd.fact 10 (f := .glo "Solid") rfl)
  have na_Solid_size : NoAttr K (He.ga K "Solid") "size" := He.noat_ok (cd.fact 13 (f := .noat "Solid" "size") rfl)
  have na_Solid__there : NoAttr K (He.ga K "Solid") "_there" := He.noat_ok (cd.fact 14 (f := .noat "Solid" "_there") rfl)
  have na_Solid__grains : NoAttr K (He.ga K "Solid") "_grains" := He.noat_ok (cd.fact 15 (f := .noat "Solid" "_grains") rfl)
  obtain ⟨fd_grain_count, D_grain_count⟩ := cd.def_ 0 (d := Pd.defD "grain_count" s_grain_count) rfl
  have Fn_grain_count : Fun K "grain_count" "grain_count" s_grain_count (He.ga K "grain_count") fd_grain_count := Pd.funOf D_grain_count
  have m_grain_count : mg ("grain_count" : Str) = some (.ref (He.ga K "grain_count")) := He.glo_ok X G (cd.fact 0 (f := .glo "grain_count") rfl)
  obtain ⟨fd_grain_at, D_grain_at⟩ := cd.def_ 1 (d := Pd.defD "grain_at" s_grain_at) rfl
  have Fn_grain_at : Fun K "grain_at" "grain_at" s_grain_at (He.ga K "grain_at") fd_grain_at := Pd.funOf D_grain_at
  have m_grain_at : mg ("grain_at" : Str) = some (.ref (He.ga K "grain_at")) := He.glo_ok X G (cd.fact 1 (f := .glo "grain_at") rfl)
  obtain ⟨fd_grain_beside, D_grain_beside⟩ := cd.def_ 2 (d := Pd.defD "_grain_beside" s_grain_beside) rfl
  have Fn_grain_beside : Fun K "_grain_beside" "_grain_beside" s_grain_beside (He.ga K "_grain_beside") fd_grain_beside := Pd.funOf D_grain_beside
  have m_grain_beside : mg ("_grain_beside" : Str) = some (.ref (He.ga K "_grain_beside")) := He.glo_ok X G (cd.fact 2 (f := .glo "_grain_beside") rfl)
  obtain ⟨fd_section, D_section⟩ := cd.def_ 3 (d := Pd.defD "section" s_section) rfl
  have Fn_section : Fun K "section" "section" s_section (He.ga K "section") fd_section := Pd.funOf D_section
  have m_section : mg ("section" : Str) = some (.ref (He.ga K "section")) := He.glo_ok X G (cd.fact 3 (f := .glo "section") rfl)
  obtain ⟨fd_law_cell, D_law_cell⟩ := cd.def_ 4 (d := Pd.defD "_law_cell" s_law_cell) rfl
  have Fn_law_cell : Fun K "_law_cell" "_law_cell" s_law_cell (He.ga K "_law_cell") fd_law_cell := Pd.funOf D_law_cell
  have m_law_cell : mg ("_law_cell" : Str) = some (.ref (He.ga K "_law_cell")) := He.glo_ok X G (cd.fact 4 (f := .glo "_law_cell") rfl)
  obtain ⟨fd_law_draws, D_law_draws⟩ := cd.def_ 5 (d := Pd.defD "_law_draws" s_law_draws) rfl
  have Fn_law_draws : Fun K "_law_draws" "_law_draws" s_law_draws (He.ga K "_law_draws") fd_law_draws := Pd.funOf D_law_draws
  have m_law_draws : mg ("_law_draws" : Str) = some (.ref (He.ga K "_law_draws")) := He.glo_ok X G (cd.fact 5 (f := .glo "_law_draws") rfl)
  obtain ⟨fd_law_middles, D_law_middles⟩ := cd.def_ 6 (d := Pd.defD "_law_middles" s_law_middles) rfl
  have Fn_law_middles : Fun K "_law_middles" "_law_middles" s_law_middles (He.ga K "_law_middles") fd_law_middles := Pd.funOf D_law_middles
  have m_law_middles : mg ("_law_middles" : Str) = some (.ref (He.ga K "_law_middles")) := He.glo_ok X G (cd.fact 6 (f := .glo "_law_middles") rfl)
  obtain ⟨fd_law, D_law⟩ := cd.def_ 7 (d := Pd.defD "law" s_law) rfl
  have Fn_law : Fun K "law" "law" s_law (He.ga K "law") fd_law := Pd.funOf D_law
  have m_law : mg ("law" : Str) = some (.ref (He.ga K "law")) := He.glo_ok X G (cd.fact 7 (f := .glo "law") rfl)
  obtain ⟨fd_Solid_init, D_Solid_init⟩ := cd.def_ 8 (d := metD "Solid" "__init__" "Solid.__init__" s_Solid_init) rfl
  have Fn_Solid_init : Fun K "__init__" "Solid.__init__" s_Solid_init (He.ma K (He.ga K "Solid") "__init__") fd_Solid_init := Pd.funOf D_Solid_init
  have bi_Solid_init := Fn_Solid_init.binds (ps := ["self", "size", "grains"]) fun _ _ _ _ _ _ us hl => match us, hl with | [_, _, _], _ => rfl
  obtain ⟨fd_Solid_has, D_Solid_has⟩ := cd.def_ 9 (d := metD "Solid" "has" "Solid.has" s_Solid_has) rfl
  have Fn_Solid_has : Fun K "has" "Solid.has" s_Solid_has (He.ma K (He.ga K "Solid") "has") fd_Solid_has := Pd.funOf D_Solid_has
  have bi_Solid_has := Fn_Solid_has.binds (ps := ["self", "grain"]) fun _ _ _ _ _ _ us hl => match us, hl with | [_, _], _ => rfl
  have me_Solid_has : Meth K (He.ga K "Solid") "has" (He.ma K (He.ga K "Solid") "has") := He.meth_ok (cd.fact 16 (f := .meth "Solid" "has") rfl)
  have e := hfa.symm.trans m_law
  cases e
  refine ⟨fd_law, fun s v => FunD.bindsA (ps := ["script"]) D_law (fun _ _ _ _ _ _ us hl => match us, hl with | [_], _ => rfl) s [v] rfl, fun base KB NB => ?_⟩
  have a_grain_count : FnAt P w K mg base 1 "grain_count" r_grain_count := fn_grain_count b0 b_range c_GRAINS_OF_CUBE m_grain_count Fn_grain_count
  have a_grain_at : FnAt P w K mg base 1 "grain_at" r_grain_at := fn_grain_at b0 b_range t_ROWS t_LEVELS c_GRAINS_OF_CUBE m_grain_at Fn_grain_at
  have q_Solid_has : MetAt P w K mg base 1 "Solid" "has" r_Solid_has := ⟨_, _, ["self", "grain"], cls_Solid, me_Solid_has, bi_Solid_has, fnE Fn_Solid_has sc_Solid_has rfl (gok_Solid_has b0 b_range cls_Solid na_Solid__there) k_Solid_has⟩
  have a_law_cell : FnAt P w K mg base 1 "_law_cell" r_law_cell := fn_law_cell b0 b_range  m_law_cell Fn_law_cell
  have a_law_draws : FnAt P w K mg base 1 "_law_draws" r_law_draws := fn_law_draws b0 b_range  m_law_draws Fn_law_draws
  have a_law_middles : FnAt P w K mg base 1 "_law_middles" r_law_middles := fn_law_middles b0 b_range  m_law_middles Fn_law_middles
  have a_grain_beside : FnAt P w K mg base 2 "_grain_beside" r_grain_beside := fn_grain_beside b0 b_range c_OTHER_AXES (a_grain_at.mono (by decide)) m_grain_beside Fn_grain_beside
  have mk_Solid : MkAt P w K mg base 2 "Solid" g_solid := ⟨_, _, ["self", "size", "grains"], glo_Solid, mkr_Solid, bi_Solid_init, ok_solid Fn_Solid_init sc_Solid_init rfl (gok_Solid_init (P := P) (w := w) (base := base) b0 b_range c_LEAST_SIZE c_LARGEST_SIZE (a_grain_count.mono (by decide))) rfl k_Solid_init rfl (by decide +kernel) (by decide +kernel) (by decide +kernel) (by decide +kernel) (by decide +kernel) (fun _ => rfl) (fun _ => rfl) rfl rfl rfl (fun n h1 h2 => r_count h1 h2) ⟨cls_Solid, na_Solid_size, na_Solid__there, na_Solid__grains, b_sorted, b_list⟩⟩
  have a_section : FnAt P w K mg base 3 "section" r_section := fn_section b0 b_range (a_grain_beside.mono (by decide)) c_QUARTER_POINTS cls_Solid na_Solid_size (q_Solid_has.mono (by decide)) m_section Fn_section
  refine Qd.law_of (fnE Fn_law sc_law rfl (gok_law b0 b_range (a_law_cell.mono (by decide)) (a_law_middles.mono (by decide)) (a_law_draws.mono (by decide)) (a_section.mono (by decide)) b_dict mk_Solid b_dict) k_law) ?_
  exact law_true
abbrev zR : PySem.W.OpenRow := PySem.W.OpenLaw.row PySem.Challenge.rw_partloft_k17_sections
abbrev zHk : PySem.W.Hook := Pd.hookP 6 zFa zFns zEx
def zOb (s : PySem.W.SharedT) : AlP := Pd.obsPG 6 zFa zFns zEx (HandSHeadRun.getT s)
theorem zOb_eq (s : PySem.W.SharedT) : zOb s = zHk.obs s.abs := Pd.obsPG_eq (HandSHeadRun.getT_eq s)
def zLoose : List Str := ["_wall", "GRAINS_OF_CUBE", "LEVELS", "ROWS", "grain_count", "grain_at", "OTHER_AXES", "QUARTER_POINTS", "section", "_grain_beside", "LoftError", "InvalidSize", "NoSuchGrain", "LEAST_SIZE", "LARGEST_SIZE", "Solid", "_law_cell", "_law_draws", "_law_middles", "_law_others", "_law_within", "_law_round"]
theorem zRunF (w : World) : HandSHeadRun.RunEq zR (PySem.W.view zR.prog [28]) zHk zOb 20000 zLoose (w.withFollow "special-get-raises" false) := by
  intro os
  kernel_rfl
theorem zRunT (w : World) : HandSHeadRun.RunEq zR (PySem.W.view zR.prog [28]) zHk zOb 20000 zLoose (w.withFollow "special-get-raises" true) := by
  intro os
  kernel_rfl
theorem zRun (w : World) : HandSHeadRun.RunEq zR (PySem.W.view zR.prog [28]) zHk zOb 20000 zLoose w := PySem.W.byRow2 "special-get-raises" zRunF zRunT w
end K17
open PySem PySem.W PySem.Calls PyProof.Rows
set_option maxRecDepth 100000 in
set_option maxHeartbeats 8000000 in
theorem PySem.Challenge.cw_partloft_k17_sections_holds : PySem.Challenge.rw_partloft_k17_sections.Holds := by
  w_on; o_law
  refine HandSHeadRun.head_any (r := OpenLaw.row PySem.Challenge.rw_partloft_k17_sections) (q := view (OpenLaw.row PySem.Challenge.rw_partloft_k17_sections).prog [28]) (H := K17.zHk) (ob := K17.zOb) (M := 20000) (loose := K17.zLoose) (d := HandSHeadRun.topDef (OpenLaw.row PySem.Challenge.rw_partloft_k17_sections).prog 28) (kwd := []) K17.zOb_eq
    (by kernel_rfl) (fun s => by kernel_rfl) K17.zRun (by kernel_rfl) (by kernel_rfl) (by kernel_rfl) (by rfl) (by first | assumption | decide +kernel) (by decide +kernel) ⟨rfl, rfl, rfl, rfl, rfl, by decide +kernel⟩ ?hw ?hc
  case hw => w_witness2
  case hc =>
    refine L2.walk_ofE (l := PySem.Challenge.rw_partloft_k17_sections) (n := 63) (k := 4) (x := "script") (CX := L2.CX0) rfl (by decide) (by kernel_rfl) ⟨rfl, by decide, by decide⟩ ?F (fun _ _ _ _ z => z)
    intro w mg fa h Y G hmg0
    obtain ⟨K, KX, c⟩ := Y
    have hmg : mg ("law" : PySem.Str) = some (.ref fa) := by
      have e : (HandSHeadRun.topDef (OpenLaw.row PySem.Challenge.rw_partloft_k17_sections).prog 28).name = ("law" : PySem.Str) := by kernel_rfl
      rw [← e]
      exact hmg0
    obtain ⟨fd, hb, hF⟩ := K17.all_law (P := (PySem.Challenge.rw_partloft_k17_sections).prog) (w := w) KX G c hmg
    exact ⟨K, fd, Qd.spLaw K, KX, hb, fun H a ns hl _ hS => ⟨a, ns, rfl, hS, hl, fun _ => rfl⟩, hF⟩

