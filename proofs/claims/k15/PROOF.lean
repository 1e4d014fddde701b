import PyProof.Rows.All
import Wide.All
import OpenK.AllK
import Wide.FinOn
import HandS.ForMost
import HandS.Wide
import HandS.Codes
import HandS.Conv
import HandS.More
import HandS.IsInst
import HandS.Zip
import HandS.TupAny
import HandS.Star
import HandS.ClsMeth
import HandS.Deep
import HandS.Flow
import HandS.Walk
import KE.DatumOrd
import HandS.ForExc
import HandS.ExcInit
import KE.KSuper
import KE.KExcSuper
import HandS.TryMany
import HandS.HotCalls
import HandS.ExcField
import HandS.Lambda
import HandS.EndTab
import HandS.Property
import HandS.Defaults
import KE.KSortedM
import HandS.Rev
import HandS.RevTup
import HandS.TupMul
import HandS.Keys
import HandS.Style
import HandS.WordsExc
import HandS.EndOwn
import KE.KDflt
import HandS.GenList
import HandS.SortKw
import HandS.Iter
import HandS.Words
import KE.SortKeyHeap
import KE.KTupSum
import HandS.OwnEq
import PySem.Challenge.RW_lookscan_k15_blocks
set_option Elab.async false
set_option linter.all false
set_option maxRecDepth 100000
set_option maxHeartbeats 4000000
namespace Lk
open PySem L2
def topS (i : Nat) : Stmt := PySem.Challenge.pw_lookscan_k15_blocks.main.body.getD i (.Pass ⟨0, 0, 0, 0⟩)
abbrev sDot : Stmt := topS 2
theorem scDot : FnScope ["row", "place", "one", "other"] ["row", "place"] (defScope sDot) := ⟨rfl, rfl, rfl, by decide +kernel, rfl, by decide +kernel, by decide +kernel⟩
abbrev sAdded : Stmt := topS 3
theorem scAdded : FnScope ["one", "other", "first", "second"] ["one", "other"] (defScope sAdded) := ⟨rfl, rfl, rfl, by decide +kernel, rfl, by decide +kernel, by decide +kernel⟩
abbrev sProduct : Stmt := topS 4
theorem scProduct : FnScope ["numbers", "total", "number"] ["numbers"] (defScope sProduct) := ⟨rfl, rfl, rfl, by decide +kernel, rfl, by decide +kernel, by decide +kernel⟩
abbrev sGcd : Stmt := topS 5
theorem scGcd : FnScope ["one", "other"] ["one", "other"] (defScope sGcd) := ⟨rfl, rfl, rfl, by decide +kernel, rfl, by decide +kernel, by decide +kernel⟩
abbrev sLcm : Stmt := topS 6
theorem scLcm : FnScope ["one", "other"] ["one", "other"] (defScope sLcm) := ⟨rfl, rfl, rfl, by decide +kernel, rfl, by decide +kernel, by decide +kernel⟩
abbrev sSE : Stmt := inClass (topS 8) 0
abbrev sIP : Stmt := inClass (topS 9) 0
abbrev sIB : Stmt := inClass (topS 10) 0
abbrev sID : Stmt := inClass (topS 11) 0
abbrev sTM : Stmt := inClass (topS 12) 0
abbrev sIT : Stmt := inClass (topS 13) 0
abbrev sUL : Stmt := inClass (topS 14) 0
abbrev sTC : Stmt := inClass (topS 15) 0
abbrev sIsNum : Stmt := topS 22
theorem scIsNum : FnScope ["value"] ["value"] (defScope sIsNum) := ⟨rfl, rfl, rfl, by decide +kernel, rfl, by decide +kernel, by decide +kernel⟩
abbrev sAreNums : Stmt := topS 23
theorem scAreNums : FnScope ["value", "count", "item"] ["value", "count"] (defScope sAreNums) := ⟨rfl, rfl, rfl, by decide +kernel, rfl, by decide +kernel, by decide +kernel⟩
abbrev sAreSides : Stmt := topS 24
theorem scAreSides : FnScope ["value", "least"] ["value", "least"] (defScope sAreSides) := ⟨rfl, rfl, rfl, by decide +kernel, rfl, by decide +kernel, by decide +kernel⟩
abbrev sChkPlace : Stmt := topS 25
theorem scChkPlace : FnScope ["place", "directions"] ["place", "directions"] (defScope sChkPlace) := ⟨rfl, rfl, rfl, by decide +kernel, rfl, by decide +kernel, by decide +kernel⟩
abbrev sChkBox : Stmt := topS 26
theorem scChkBox : FnScope ["box", "directions"] ["box", "directions"] (defScope sChkBox) := ⟨rfl, rfl, rfl, by decide +kernel, rfl, by decide +kernel, by decide +kernel⟩
abbrev sChkDiv : Stmt := topS 27
theorem scChkDiv : FnScope ["divisors"] ["divisors"] (defScope sChkDiv) := ⟨rfl, rfl, rfl, by decide +kernel, rfl, by decide +kernel, by decide +kernel⟩
abbrev sCommon : Stmt := topS 28
theorem scCommon : FnScope ["one", "other", "first", "second"] ["one", "other"] (defScope sCommon) := ⟨rfl, rfl, rfl, by decide +kernel, rfl, by decide +kernel, by decide +kernel⟩
abbrev sPlaceAt : Stmt := topS 29
theorem scPlaceAt : FnScope ["sides", "number", "backwards", "side"] ["sides", "number"] (defScope sPlaceAt) := ⟨rfl, rfl, rfl, by decide +kernel, rfl, by decide +kernel, by decide +kernel⟩
abbrev sClassAt : Stmt := topS 30
theorem scClassAt : FnScope ["divisors", "place", "number", "divisor", "step"] ["divisors", "place"] (defScope sClassAt) := ⟨rfl, rfl, rfl, by decide +kernel, rfl, by decide +kernel, by decide +kernel⟩
abbrev sClassCount : Stmt := topS 32
theorem scClassCount : FnScope ["divisors"] ["divisors"] (defScope sClassCount) := ⟨rfl, rfl, rfl, by decide +kernel, rfl, by decide +kernel, by decide +kernel⟩
abbrev sIdent : Stmt := topS 34
theorem scIdent : FnScope ["directions", "rows", "at"] ["directions"] (defScope sIdent) := ⟨rfl, rfl, rfl, by decide +kernel, rfl, by decide +kernel, by decide +kernel⟩
abbrev sTimes : Stmt := topS 35
theorem scTimes : FnScope ["matrix", "place", "row"] ["matrix", "place"] (defScope sTimes) := ⟨rfl, rfl, rfl, by decide +kernel, rfl, by decide +kernel, by decide +kernel⟩
abbrev sColumn : Stmt := topS 36
theorem scColumn : FnScope ["matrix", "at", "row"] ["matrix", "at"] (defScope sColumn) := ⟨rfl, rfl, rfl, by decide +kernel, rfl, by decide +kernel, by decide +kernel⟩
abbrev sRowTimes : Stmt := topS 37
theorem scRowTimes : FnScope ["row", "matrix", "at"] ["row", "matrix"] (defScope sRowTimes) := ⟨rfl, rfl, rfl, by decide +kernel, rfl, by decide +kernel, by decide +kernel⟩
abbrev sAsc : Stmt := topS 40
theorem scAsc : FnScope ["value", "before", "after"] ["value"] (defScope sAsc) := ⟨rfl, rfl, rfl, by decide +kernel, rfl, by decide +kernel, by decide +kernel⟩
abbrev sGroups : Stmt := topS 41
theorem scGroups : FnScope ["value", "classes", "grouped", "group"] ["value", "classes"] (defScope sGroups) := ⟨rfl, rfl, rfl, by decide +kernel, rfl, by decide +kernel, by decide +kernel⟩
abbrev sIsKey : Stmt := topS 42
theorem scIsKey : FnScope ["node", "directions", "classes"] ["node", "directions", "classes"] (defScope sIsKey) := ⟨rfl, rfl, rfl, by decide +kernel, rfl, by decide +kernel, by decide +kernel⟩
abbrev sIsFork : Stmt := topS 43
theorem scIsFork : FnScope ["node", "classes"] ["node", "classes"] (defScope sIsFork) := ⟨rfl, rfl, rfl, by decide +kernel, rfl, by decide +kernel, by decide +kernel⟩
abbrev sInner : Stmt := topS 44
theorem scInner : FnScope ["node", "directions", "classes", "group"] ["node", "directions", "classes"] (defScope sInner) := ⟨rfl, rfl, rfl, by decide +kernel, rfl, by decide +kernel, by decide +kernel⟩
abbrev sNodes : Stmt := topS 45
theorem scNodes : FnScope ["tree", "divisors", "most_nodes", "most_depth", "classes", "nodes", "waiting", "node", "depth", "inner"] ["tree", "divisors", "most_nodes", "most_depth"] (defScope sNodes) := ⟨rfl, rfl, rfl, by decide +kernel, rfl, by decide +kernel, by decide +kernel⟩
abbrev sGix : Stmt := topS 46
theorem scGix : FnScope ["groups", "number", "group"] ["groups", "number"] (defScope sGix) := ⟨rfl, rfl, rfl, by decide +kernel, rfl, by decide +kernel, by decide +kernel⟩
abbrev sPath : Stmt := topS 47
theorem scPath : FnScope ["tree", "divisors", "place", "number", "path", "at"] ["tree", "divisors", "place"] (defScope sPath) := ⟨rfl, rfl, rfl, by decide +kernel, rfl, by decide +kernel, by decide +kernel⟩
abbrev sSources : Stmt := topS 48
theorem scSources : FnScope ["divisors", "matrix", "place", "new_divisors", "sources", "number", "moved"] ["divisors", "matrix", "place", "new_divisors"] (defScope sSources) := ⟨rfl, rfl, rfl, by decide +kernel, rfl, by decide +kernel, by decide +kernel⟩
abbrev sMovedC : Stmt := topS 49
theorem scMovedC : FnScope ["classes", "sources", "number", "source"] ["classes", "sources"] (defScope sMovedC) := ⟨rfl, rfl, rfl, by decide +kernel, rfl, by decide +kernel, by decide +kernel⟩
abbrev sMovedT : Stmt := topS 50
theorem scMovedT : FnScope ["tree", "matrix", "sources", "ends", "heights", "groups", "classes", "inner", "source"] ["tree", "matrix", "sources", "ends"] (defScope sMovedT) := ⟨rfl, rfl, rfl, by decide +kernel, rfl, by decide +kernel, by decide +kernel⟩
abbrev sInit : Stmt := inClass (topS 52) 2
theorem scInit : FnScope ["self", "divisors", "tree"] ["self", "divisors", "tree"] (defScope sInit) := ⟨rfl, rfl, rfl, by decide +kernel, rfl, by decide +kernel, by decide +kernel⟩
abbrev sPDiv : Stmt := inClass (topS 52) 3
theorem scPDiv : FnScope ["self"] ["self"] (defScope sPDiv) := ⟨rfl, rfl, rfl, by decide +kernel, rfl, by decide +kernel, by decide +kernel⟩
abbrev sPTree : Stmt := inClass (topS 52) 4
theorem scPTree : FnScope ["self"] ["self"] (defScope sPTree) := ⟨rfl, rfl, rfl, by decide +kernel, rfl, by decide +kernel, by decide +kernel⟩
abbrev sPDir : Stmt := inClass (topS 52) 5
theorem scPDir : FnScope ["self"] ["self"] (defScope sPDir) := ⟨rfl, rfl, rfl, by decide +kernel, rfl, by decide +kernel, by decide +kernel⟩
abbrev sPNodes : Stmt := inClass (topS 52) 6
theorem scPNodes : FnScope ["self"] ["self"] (defScope sPNodes) := ⟨rfl, rfl, rfl, by decide +kernel, rfl, by decide +kernel, by decide +kernel⟩
abbrev sSEq : Stmt := inClass (topS 52) 7
theorem scSEq : FnScope ["self", "other"] ["self", "other"] (defScope sSEq) := ⟨rfl, rfl, rfl, by decide +kernel, rfl, by decide +kernel, by decide +kernel⟩
abbrev sSRepr : Stmt := inClass (topS 52) 8
theorem scSRepr : FnScope ["self"] ["self"] (defScope sSRepr) := ⟨rfl, rfl, rfl, by decide +kernel, rfl, by decide +kernel, by decide +kernel⟩
abbrev sCall : Stmt := inClass (topS 52) 9
theorem scCall : FnScope ["self", "one", "other"] ["self", "one", "other"] (defScope sCall) := ⟨rfl, rfl, rfl, by decide +kernel, rfl, by decide +kernel, by decide +kernel⟩
abbrev sSTied : Stmt := inClass (topS 52) 10
theorem scSTied : FnScope ["self", "one", "other", "directions", "first", "second"] ["self", "one", "other"] (defScope sSTied) := ⟨rfl, rfl, rfl, by decide +kernel, rfl, by decide +kernel, by decide +kernel⟩
abbrev sSPath : Stmt := inClass (topS 52) 11
theorem scSPath : FnScope ["self", "place"] ["self", "place"] (defScope sSPath) := ⟨rfl, rfl, rfl, by decide +kernel, rfl, by decide +kernel, by decide +kernel⟩
abbrev sOrder : Stmt := inClass (topS 52) 12
theorem scOrder : FnScope ["self", "box", "found"] ["self", "box"] (defScope sOrder) := ⟨rfl, rfl, rfl, by decide +kernel, rfl, by decide +kernel, by decide +kernel⟩
abbrev sRefTree : Stmt := inClass (topS 52) 15
theorem scRefTree : FnScope ["self", "divisors", "ends", "directions"] ["self", "divisors", "ends"] (defScope sRefTree) := ⟨rfl, rfl, rfl, by decide +kernel, rfl, by decide +kernel, by decide +kernel⟩
abbrev sChanged : Stmt := inClass (topS 52) 16
theorem scChanged : FnScope ["self", "divisors", "matrix", "place", "ends", "sources"] ["self", "divisors", "matrix", "place", "ends"] (defScope sChanged) := ⟨rfl, rfl, rfl, by decide +kernel, rfl, by decide +kernel, by decide +kernel⟩
abbrev sThen : Stmt := inClass (topS 52) 20
theorem scThen : FnScope ["self", "other", "divisors", "ends"] ["self", "other"] (defScope sThen) := ⟨rfl, rfl, rfl, by decide +kernel, rfl, by decide +kernel, by decide +kernel⟩
abbrev sFloorT : Stmt := topS 54
theorem scFloorT : FnScope ["keys", "divisors", "tree", "row", "offset", "divisor", "heights", "number"] ["keys", "divisors"] (defScope sFloorT) := ⟨rfl, rfl, rfl, by decide +kernel, rfl, by decide +kernel, by decide +kernel⟩
abbrev sBlocks : Stmt := topS 55
theorem scBlocks : FnScope ["sides", "inner", "keys", "blocks", "row", "side"] ["sides", "inner"] (defScope sBlocks) := ⟨rfl, rfl, rfl, by decide +kernel, rfl, by decide +kernel, by decide +kernel⟩
abbrev sBag : Stmt := topS 57
theorem scBag : FnScope ["_law_script", "_law_salt", "_law_cell"] ["_law_script"] (defScope sBag) := ⟨rfl, rfl, rfl, by decide +kernel, rfl, by decide +kernel, by decide +kernel⟩
abbrev sPull : Stmt := topS 58
theorem scPull : FnScope ["_law_bag_here", "_law_amount", "_law_cell", "_law_got", "_law_seed"] ["_law_bag_here", "_law_amount"] (defScope sPull) := ⟨rfl, rfl, rfl, by decide +kernel, rfl, by decide +kernel, by decide +kernel⟩
abbrev sOf : Stmt := topS 59
theorem scOf : FnScope ["_law_bag_here", "_law_things"] ["_law_bag_here", "_law_things"] (defScope sOf) := ⟨rfl, rfl, rfl, by decide +kernel, rfl, by decide +kernel, by decide +kernel⟩
abbrev sMixed : Stmt := topS 60
theorem scMixed : FnScope ["_law_bag_here", "_law_things", "_law_found", "_law_thing"] ["_law_bag_here", "_law_things"] (defScope sMixed) := ⟨rfl, rfl, rfl, by decide +kernel, rfl, by decide +kernel, by decide +kernel⟩
abbrev sLSame : Stmt := topS 61
theorem scLSame : FnScope ["_law_found", "_law_due", "_law_one", "_law_other", "_law_key"] ["_law_found", "_law_due"] (defScope sLSame) := ⟨rfl, rfl, rfl, by decide +kernel, rfl, by decide +kernel, by decide +kernel⟩
abbrev sField : Stmt := topS 62
theorem scField : FnScope ["_law_e"] ["_law_e"] (defScope sField) := ⟨rfl, rfl, rfl, by decide +kernel, rfl, by decide +kernel, by decide +kernel⟩
abbrev sTry : Stmt := topS 63
theorem scTry : FnScope ["_law_ask", "_law_e"] ["_law_ask"] (defScope sTry) := ⟨rfl, rfl, rfl, by decide +kernel, rfl, by decide +kernel, by decide +kernel⟩
abbrev sCount : Stmt := topS 64
theorem scCount : FnScope ["_law_divisors_here", "_law_found", "_law_one"] ["_law_divisors_here"] (defScope sCount) := ⟨rfl, rfl, rfl, by decide +kernel, rfl, by decide +kernel, by decide +kernel⟩
abbrev sLClass : Stmt := topS 65
theorem scLClass : FnScope ["_law_divisors_here", "_law_place_here", "_law_found", "_law_at"] ["_law_divisors_here", "_law_place_here"] (defScope sLClass) := ⟨rfl, rfl, rfl, by decide +kernel, rfl, by decide +kernel, by decide +kernel⟩
abbrev sPlus : Stmt := topS 66
theorem scPlus : FnScope ["_law_one", "_law_other", "_law_a", "_law_b"] ["_law_one", "_law_other"] (defScope sPlus) := ⟨rfl, rfl, rfl, by decide +kernel, rfl, by decide +kernel, by decide +kernel⟩
abbrev sDivisors : Stmt := topS 67
theorem scDivisors : FnScope ["_law_bag_here", "_law_directions", "_law_found", "_law_left", "_law_at", "_law_one"] ["_law_bag_here", "_law_directions"] (defScope sDivisors) := ⟨rfl, rfl, rfl, by decide +kernel, rfl, by decide +kernel, by decide +kernel⟩
abbrev sPlace : Stmt := topS 68
theorem scPlace : FnScope ["_law_bag_here", "_law_directions", "_law_size", "_law_at"] ["_law_bag_here", "_law_directions", "_law_size"] (defScope sPlace) := ⟨rfl, rfl, rfl, by decide +kernel, rfl, by decide +kernel, by decide +kernel⟩
abbrev sParts : Stmt := topS 69
theorem scParts : FnScope ["_law_bag_here", "_law_many", "_law_most", "_law_marks", "_law_found", "_law_number", "_law_mark", "_law_part"] ["_law_bag_here", "_law_many", "_law_most"] (defScope sParts) := ⟨rfl, rfl, rfl, by decide +kernel, rfl, by decide +kernel, by decide +kernel⟩
abbrev sTree : Stmt := topS 70
theorem scTree : FnScope ["_law_bag_here", "_law_divisors_here", "_law_depth", "_law_many", "_law_pick", "_law_parts_here", "_law_size", "_law_row", "_law_heights", "_law_part", "_law_one", "_law_number"] ["_law_bag_here", "_law_divisors_here", "_law_depth"] (defScope sTree) := ⟨rfl, rfl, rfl, by decide +kernel, rfl, by decide +kernel, by decide +kernel⟩
abbrev sLPath : Stmt := topS 71
theorem scLPath : FnScope ["_law_divisors_here", "_law_tree_here", "_law_place_here", "_law_found", "_law_at", "_law_index", "_law_one", "_law_two", "_law_k"] ["_law_divisors_here", "_law_tree_here", "_law_place_here"] (defScope sLPath) := ⟨rfl, rfl, rfl, by decide +kernel, rfl, by decide +kernel, by decide +kernel⟩
abbrev sBefore : Stmt := topS 72
theorem scBefore : FnScope ["_law_pair", "_law_one", "_law_other"] ["_law_pair", "_law_one", "_law_other"] (defScope sBefore) := ⟨rfl, rfl, rfl, by decide +kernel, rfl, by decide +kernel, by decide +kernel⟩
abbrev sLGcd : Stmt := topS 73
theorem scLGcd : FnScope ["_law_one", "_law_other"] ["_law_one", "_law_other"] (defScope sLGcd) := ⟨rfl, rfl, rfl, by decide +kernel, rfl, by decide +kernel, by decide +kernel⟩
abbrev sLLcm : Stmt := topS 74
theorem scLLcm : FnScope ["_law_one", "_law_other"] ["_law_one", "_law_other"] (defScope sLLcm) := ⟨rfl, rfl, rfl, by decide +kernel, rfl, by decide +kernel, by decide +kernel⟩
abbrev sLCommon : Stmt := topS 75
theorem scLCommon : FnScope ["_law_one", "_law_other", "_law_a", "_law_b"] ["_law_one", "_law_other"] (defScope sLCommon) := ⟨rfl, rfl, rfl, by decide +kernel, rfl, by decide +kernel, by decide +kernel⟩
abbrev sSmallScan : Stmt := topS 76
theorem scSmallScan : FnScope ["_law_bag_here", "_law_directions", "_law_divisors_here"] ["_law_bag_here", "_law_directions"] (defScope sSmallScan) := ⟨rfl, rfl, rfl, by decide +kernel, rfl, by decide +kernel, by decide +kernel⟩
abbrev sCut : Stmt := topS 77
theorem scCut : FnScope ["_law_pair", "_law_place_here"] ["_law_pair", "_law_place_here"] (defScope sCut) := ⟨rfl, rfl, rfl, by decide +kernel, rfl, by decide +kernel, by decide +kernel⟩
abbrev sLTied : Stmt := topS 78
theorem scLTied : FnScope ["_law_pair", "_law_one", "_law_other"] ["_law_pair", "_law_one", "_law_other"] (defScope sLTied) := ⟨rfl, rfl, rfl, by decide +kernel, rfl, by decide +kernel, by decide +kernel⟩
abbrev sLaw : Stmt := topS 79
theorem scLaw : FnScope ["_law_script", "_law_bag_here", "_law_turn", "_law_directions", "_law_sides", "_law_pair", "_law_plain", "_law_inner_z", "_law_word", "_law_scan", "_law_wide", "_law_k", "_law_one", "_law_two", "_law_blocks", "_law_due", "_law_bad", "_law_other", "_law_at", "_law_place_here", "_law_side"] ["_law_script"] (defScope sLaw) := ⟨rfl, rfl, rfl, by decide +kernel, rfl, by decide +kernel, by decide +kernel⟩
end Lk

namespace Lk
open PySem L2
/-! ### the bag: the script's ints, a place in them, what is left of a great one, a seed -/
structure BagS (H : Hp) (b l : Addr) (ns : List Int) (i big seed : Int) : Prop where
  ob : H b = some (.lst [.ref l, .int i, .int big, .int seed])
  ls : H l = some (.lst (ns.map V.int))
  i0 : 0 ≤ i
  i1 : i ≤ ns.length
  g0 : 0 ≤ big
  s0 : 0 ≤ seed
  s1 : seed < 2147483647
def BagAt (H : Hp) (b l : Addr) : Prop := ∃ ns i big seed, BagS H b l ns i big seed
/-- all that was tracked but b is as it was -/
def But (b : Addr) (H H' : Hp) : Prop := ∀ a o, a ≠ b → H a = some o → H' a = some o
theorem But.refl (b : Addr) (H : Hp) : But b H H := fun _ _ _ h => h
theorem But.trans {b : Addr} {H H1 H2 : Hp} (x : But b H H1) (y : But b H1 H2) : But b H H2 := fun a o n h => y a o n (x a o n h)
theorem But.same {b : Addr} {H H1 : Hp} (x : Same H H1) : But b H H1 := fun a o _ h => x a o h
theorem but_upd {b : Addr} {H : Hp} {o : HO} : But b H (upd H b o) := fun a u n h => by
  rw [upd_ne n]
  exact h
theorem BagS.ne {H : Hp} {b l : Addr} {ns : List Int} {i big seed : Int} (B : BagS H b l ns i big seed) : l ≠ b := by
  refine ne_of B.ls B.ob fun e => ?_
  have e2 := HO.lst.inj e
  cases ns with
  | nil => cases e2
  | cons z r =>
    rw [List.map_cons] at e2
    injection e2 with e3 _
    cases e3
theorem BagS.put {H : Hp} {b l : Addr} {ns : List Int} {i big seed i' big' seed' : Int} (B : BagS H b l ns i big seed) (a0 : 0 ≤ i') (a1 : i' ≤ ns.length) (a2 : 0 ≤ big') (a3 : 0 ≤ seed') (a4 : seed' < 2147483647) :
    BagS (upd H b (.lst [.ref l, .int i', .int big', .int seed'])) b l ns i' big' seed' :=
  ⟨upd_same, by rw [upd_ne B.ne]; exact B.ls, a0, a1, a2, a3, a4⟩
theorem BagAt.upd {H : Hp} {b l D : Addr} {o : HO} (B : BagAt H b l) (h1 : D ≠ b) (h2 : D ≠ l) : BagAt (upd H D o) b l := by
  obtain ⟨ns, i, big, seed, B⟩ := B
  exact ⟨ns, i, big, seed, by rw [upd_ne h1.symm]; exact B.ob, by rw [upd_ne h2.symm]; exact B.ls, B.i0, B.i1, B.g0, B.s0, B.s1⟩
theorem BagAt.nb {H : Hp} {b l D : Addr} (B : BagAt H b l) (h : H D = none) : D ≠ b := by
  obtain ⟨ns, i, big, seed, B⟩ := B
  exact (ne_of_none B.ob h).symm
theorem BagAt.nl {H : Hp} {b l D : Addr} (B : BagAt H b l) (h : H D = none) : D ≠ l := by
  obtain ⟨ns, i, big, seed, B⟩ := B
  exact (ne_of_none B.ls h).symm
theorem BagAt.new {H : Hp} {b l D : Addr} {o : HO} (B : BagAt H b l) (h : H D = none) : BagAt (L2.upd H D o) b l := B.upd (B.nb h) (B.nl h)
theorem BagAt.lst {H : Hp} {b l : Addr} (B : BagAt H b l) : ∃ xs, H b = some (.lst xs) := by
  obtain ⟨ns, i, big, seed, B⟩ := B
  exact ⟨_, B.ob⟩
def spPull : Sp := fun vs H Q _ => ∃ (b l : Addr) (m : Int), vs = [.ref b, .int m] ∧ BagAt H b l ∧ 0 < m ∧ m.natAbs < 2 ^ 200 ∧
  ∀ (g : Int) (H' : Hp), 0 ≤ g → g < m → BagAt H' b l → But b H H' → Q (.int g) H'
theorem new_but {b D : Addr} {H : Hp} {o : HO} (h : H D = none) : But b H (upd H D o) := fun a u _ e => by
  rw [upd_ne (ne_of_none e h)]
  exact e
theorem But.free {b l D : Addr} {H H' : Hp} (B : BagAt H b l) (x : But b H H') (B' : BagAt H' b l) (h : H' D = none) : H D = none := by
  cases e : H D with
  | none => rfl
  | some o => exact (x D o (B'.nb h) e).symm.trans h
section
variable {P : Program} {w : World} {K : PySem.W.Frag} {mg : Str → Option Value} {base : Heap}
theorem ix4 {x y z u : V} : ∀ {j : Nat} {v : V}, ([x, y, z, u] : List V)[j]? = some v → atI [x, y, z, u] (j : Int) = some v := fun h => atI_nat h
theorem ok_pull {f : Addr} {fd : FuncData} {k : Nat} (F : Fun K "_law_pull" "_law_pull" sPull f fd) (ml : mg "len" = none) (mi : mg "int" = none) : FnOk P w K mg base CX0 (k + 1) f fd ["_law_bag_here", "_law_amount"] spPull := by
  refine F.ok scPull (fun vs H Q E h => ?_) (fun cdv A outer s H vs Q E hr h => ?_)
  · obtain ⟨b, l, m, rfl, _⟩ := h
    rfl
  · obtain ⟨b, l, m, rfl, ⟨ns, i, big, seed, B⟩, m0, mb, q⟩ := h
    refine ⟨_, C8.pss_cut (ps_if (PW.pt (pw_and (pt_cmpR op_eq (pe_ix ix_list (pv 0) pe_int (fun _ _ => rfl)) pe_int (nomark _)) (pw_and1 (pt_cmpR op_lt (pe_ix ix_list (pv 0) pe_int (fun _ _ => rfl)) (pe_callB call_len_seq (by rfl) ml PySem.boot_len (pa_cons (pe_ix ix_list (pv 0) pe_int (fun _ _ => rfl)) pa_nil)) (nomark _)))))
        (pss_cons (ps_set (i := 2) scPull.nd rfl (.inl rfl) (pe_ix ix_list (pe_ix ix_list (pv 0) pe_int (fun _ _ => rfl)) (pe_ix ix_list (pv 0) pe_int (fun _ _ => rfl)) (fun _ _ => rfl)))
          (pss_cons (ps_asg (pe_op op_add (pe_ix ix_list (pv 0) pe_int (fun _ _ => rfl)) pe_int) (pg_sub (pv 0) pe_int set_list))
          (pss_one (ps_if (pt_cmpR op_ge (pv 2) (pe_op op_pow pe_int pe_int) (nomark _))
            (pss_one (ps_asg (pv 2) (pg_sub (pv 0) pe_int set_list)))
            (pss_one (ps_asg (pe_op op_mod (pe_callTy call_int1 (by rfl) mi (by decide +kernel) (pa_cons (pe_op op_add (pe_op op_add (pe_op op_mul (pe_ix ix_list (pv 0) pe_int (fun _ _ => rfl)) pe_int) (pe_op op_mul (pe_op op_mod (pe_callTy call_int1 (by rfl) mi (by decide +kernel) (pa_cons (pv 2) pa_nil)) pe_int) pe_int)) pe_int) pa_nil)) pe_int) (pg_sub (pv 0) pe_int set_list)))))))
        pss_nil)
      (pss_cons (ps_if (pt_cmpR op_gt (pe_ix ix_list (pv 0) pe_int (fun _ _ => rfl)) pe_int (nomark _))
        (pss_cons (ps_set (i := 3) scPull.nd rfl (.inl rfl) (pe_op op_mod (pe_callTy call_int1 (by rfl) mi (by decide +kernel) (pa_cons (pe_ix ix_list (pv 0) pe_int (fun _ _ => rfl)) pa_nil)) (pv 1)))
          (pss_cons (ps_asg (pe_op op_fdivW (pe_ix ix_list (pv 0) pe_int (fun _ _ => rfl)) (pv 1)) (pg_sub (pv 0) pe_int set_list)) (pss_one (ps_ret (pv 3))))) pss_nil)
      (pss_cons (ps_set (i := 4) scPull.nd rfl (.inl rfl) (pe_ix ix_list (pv 0) pe_int (fun _ _ => rfl)))
      (pss_cons (ps_asg (pe_op op_mod (pe_callTy call_int1 (by rfl) mi (by decide +kernel) (pa_cons (pe_op op_add (pe_op op_add (pe_op op_mul (pv 4) (pv 4)) (pe_op op_mul (pv 4) pe_int)) pe_int) pa_nil)) pe_int) (pg_sub (pv 0) pe_int set_list))
      (pss_one (ps_ret (pe_op op_mod (pe_callTy call_int1 (by rfl) mi (by decide +kernel) (pa_cons (pe_op op_add (pe_op op_fdiv (pe_ix ix_list (pv 0) pe_int (fun _ _ => rfl)) pe_int) (pe_op op_mul (pe_op op_mod (pe_callTy call_int1 (by rfl) mi (by decide +kernel) (pa_cons (pe_ix ix_list (pv 0) pe_int (fun _ _ => rfl)) pa_nil)) pe_int) pe_int)) pa_nil)) (pv 1))))))), ?_⟩
    refine ⟨fun σ' H1 => ∃ (c : Option V) (i' big' seed' : Int), σ' = [some (.ref b), some (.int m), c, none, none] ∧ BagS H1 b l ns i' big' seed' ∧ But b H H1, ?_, ?_⟩
    · -- the first if
      have hL := SqL.of (K := K) B.ob
      refine ⟨_, rfl, b, _, _, _, rfl, rfl, hL, atI_nat (j := 2) rfl, rfl, _, rfl, ite2 (fun e => ?_) (fun e => ?_)⟩
      · refine ⟨_, rfl, b, _, _, _, rfl, rfl, hL, atI_nat (j := 1) rfl, _, rfl, b, _, _, _, rfl, rfl, hL, atI_nat (j := 0) rfl, l, _, rfl, .inl (SqL.of B.ls), _, _, rfl, rfl, _, rfl, ite2 (fun e2 => ?_) (fun e2 => ?_)⟩
        · have e3 : i < ((ns.map V.int).length : Nat) := of_decide_eq_true e2
          rw [List.length_map] at e3
          obtain ⟨j, hj⟩ : ∃ j : Nat, i = (j : Int) := ⟨i.toNat, by have := B.i0; omega⟩
          have hj2 : j < ns.length := by omega
          have g1 : (ns.map V.int)[j]? = some (.int ns[j]) := by
            rw [List.getElem?_map, List.getElem?_eq_getElem hj2]
            rfl
          have B2 := B.put (i' := i + 1) (big' := big) (seed' := seed) (by have := B.i0; omega) (by omega) B.g0 B.s0 B.s1
          refine ⟨_, rfl, b, _, _, _, rfl, rfl, hL, atI_nat (j := 0) rfl, _, rfl, b, _, _, _, rfl, rfl, hL, atI_nat (j := 1) rfl, l, _, _, _, rfl, rfl, SqL.of B.ls, at_of hj g1, ?_⟩
          refine ⟨_, rfl, b, _, _, _, rfl, rfl, hL, atI_nat (j := 1) rfl, _, _, rfl, rfl, _, rfl, b, _, _, 1, rfl, rfl, B.ob, rfl, ?_⟩
          have hL2 := SqL.of (K := K) B2.ob
          refine ⟨_, rfl, _, _, rfl, rfl, ⟨by decide, by decide, by decide⟩, _, _, rfl, rfl, _, rfl, ite2 (fun e4 => ?_) (fun e4 => ?_)⟩
          · have e5 : (10 : Int) ^ (18 : Int).toNat ≤ ns[j] := of_decide_eq_true e4
            refine ⟨_, rfl, _, rfl, b, _, _, 2, rfl, rfl, B2.ob, rfl, ?_⟩
            refine ⟨_, i + 1, ns[j], seed, rfl, ?_, ?_⟩
            · have h0 : (0 : Int) ≤ ns[j] := Int.le_trans (by decide) e5
              exact B2.put (by have := B.i0; omega) (by omega) h0 B.s0 B.s1
            · exact but_upd.trans but_upd
          · have r0 := Int.emod_nonneg (ns[j]) (show (2147483579 : Int) ≠ 0 by decide)
            have r1 := Int.emod_lt_of_pos (ns[j]) (show (0 : Int) < 2147483579 by decide)
            have q0 := B.s0
            have q1 := B.s1
            refine ⟨_, rfl, b, _, _, _, rfl, rfl, hL2, atI_nat (j := 3) rfl, _, _, rfl, rfl, .inl ⟨by omega, by omega⟩, _, rfl, .inl ⟨_, rfl, ?_⟩⟩
            refine ⟨_, _, rfl, rfl, (by show (0 : Int) < 2147483579; decide), _, _, rfl, rfl, .inl ⟨by omega, by omega⟩, _, _, rfl, rfl, _, _, rfl, rfl, .inl ⟨_, rfl, ?_⟩⟩
            refine ⟨_, _, rfl, rfl, (by show (0 : Int) < 2147483647; decide), _, rfl, b, _, _, 3, rfl, rfl, B2.ob, rfl, ?_⟩
            refine ⟨_, i + 1, big, _, rfl, B2.put (by have := B.i0; omega) (by omega) B.g0 (Int.emod_nonneg _ (by decide)) (Int.emod_lt_of_pos _ (by decide)), but_upd.trans but_upd⟩
        · exact ⟨_, i, big, seed, rfl, B, But.refl _ _⟩
      · exact ⟨_, i, big, seed, rfl, B, But.refl _ _⟩
    · rintro σ' H1 ⟨c, i', big', seed', rfl, B1, bt⟩
      have hL := SqL.of (K := K) B1.ob
      refine ⟨_, rfl, b, _, _, _, rfl, rfl, hL, atI_nat (j := 2) rfl, _, _, rfl, rfl, _, rfl, ite2 (fun e => ?_) (fun e => ?_)⟩
      · refine ⟨_, rfl, b, _, _, _, rfl, rfl, hL, atI_nat (j := 2) rfl, .inl ⟨_, rfl, ?_⟩⟩
        refine ⟨_, rfl, _, _, rfl, rfl, m0, ?_⟩
        refine ⟨_, rfl, b, _, _, _, rfl, rfl, hL, atI_nat (j := 2) rfl, _, rfl, _, _, rfl, rfl, wide_div m0 mb (by decide) (by decide), _, rfl, b, _, _, 2, rfl, rfl, B1.ob, rfl, ?_⟩
        refine ⟨_, rfl, ?_⟩
        exact q _ _ (Int.emod_nonneg _ (by omega)) (Int.emod_lt_of_pos _ m0) ⟨ns, i', _, seed', B1.put B1.i0 B1.i1 (Int.ediv_nonneg B1.g0 (by omega)) B1.s0 B1.s1⟩ (bt.trans but_upd)
      · have q0 := B1.s0
        have q1 := B1.s1
        refine ⟨_, rfl, b, _, _, _, rfl, rfl, hL, atI_nat (j := 3) rfl, ?_⟩
        refine ⟨_, rfl, _, rfl, _, _, rfl, rfl, .inl ⟨by omega, by omega⟩, _, rfl, _, _, rfl, rfl, .inl ⟨by omega, by omega⟩, _, _, rfl, rfl, _, _, rfl, rfl, .inl ⟨_, rfl, ?_⟩⟩
        refine ⟨_, _, rfl, rfl, (by show (0 : Int) < 2147483647; decide), _, rfl, b, _, _, 3, rfl, rfl, B1.ob, rfl, ?_⟩
        have z0 := Int.emod_nonneg (seed' * seed' + seed' * 48271 + 1013904223) (show (2147483647 : Int) ≠ 0 by decide)
        have z1 := Int.emod_lt_of_pos (seed' * seed' + seed' * 48271 + 1013904223) (show (0 : Int) < 2147483647 by decide)
        have B2 := B1.put (i' := i') (big' := big') B1.i0 B1.i1 B1.g0 z0 z1
        have hL2 := SqL.of (K := K) B2.ob
        refine ⟨_, rfl, b, _, _, _, rfl, rfl, hL2, atI_nat (j := 3) rfl, _, _, rfl, rfl, ⟨by decide, by decide⟩, ?_⟩
        refine ⟨_, rfl, b, _, _, _, rfl, rfl, hL2, atI_nat (j := 3) rfl, .inl ⟨_, rfl, ?_⟩⟩
        have y0 := Int.emod_nonneg ((seed' * seed' + seed' * 48271 + 1013904223) % 2147483647) (show (8191 : Int) ≠ 0 by decide)
        have y1 := Int.emod_lt_of_pos ((seed' * seed' + seed' * 48271 + 1013904223) % 2147483647) (show (0 : Int) < 8191 by decide)
        refine ⟨_, _, rfl, rfl, (by show (0 : Int) < 8191; decide), _, _, rfl, rfl, .inl ⟨by omega, by omega⟩, _, _, rfl, rfl, .inl ⟨_, rfl, ?_⟩⟩
        refine ⟨_, rfl, _, _, rfl, rfl, m0, ?_⟩
        exact q _ _ (Int.emod_nonneg _ (by omega)) (Int.emod_lt_of_pos _ m0) ⟨ns, i', big', _, B2⟩ (bt.trans but_upd)
/-- things[pull(bag, len(things))] -/
def spOf (K : PySem.W.Frag) : Sp := fun vs H Q _ => ∃ (b l t : Addr) (xs : List V), vs = [.ref b, .ref t] ∧ BagAt H b l ∧ t ≠ b ∧ SqL K H t xs ∧ 0 < xs.length ∧ xs.length < 1000 ∧
  ∀ (v : V) (H' : Hp), v ∈ xs → BagAt H' b l → But b H H' → Q v H'
theorem But.seq {b a : Addr} {H H' : Hp} {xs : List V} (e : But b H H') (n : a ≠ b) (h : SqL K H a xs) : SqL K H' a xs := by
  rcases h with (h | ⟨o, h⟩) | h
  · exact .inl (.inl (e _ _ n h))
  · exact .inl (.inr ⟨o, e _ _ n h⟩)
  · exact .inr h
theorem But.sqT {b l a : Addr} {H H' : Hp} {xs : List V} (e : But b H H') (B : BagAt H b l) (h : SqT K H a xs) : SqT K H' a xs := by
  obtain ⟨ys, hb⟩ := B.lst
  rcases h with (h | ⟨o, h⟩) | h
  · exact .inl (.inl (e _ _ (ne_of h hb (by intro z; cases z)) h))
  · exact .inl (.inr ⟨o, e _ _ (ne_of h hb (by intro z; cases z)) h⟩)
  · exact .inr h
theorem But.tup {b l a : Addr} {H H' : Hp} {xs : List V} (e : But b H H') (B : BagAt H b l) (h : H a = some (.tup xs)) : H' a = some (.tup xs) := by
  obtain ⟨ys, hb⟩ := B.lst
  exact e _ _ (ne_of h hb (by intro z; cases z)) h
theorem ok_of {f fP : Addr} {fd fdP : FuncData} {k : Nat} (F : Fun K "_law_of" "_law_of" sOf f fd) (ml : mg "len" = none) (GP : FnOk P w K mg base CX0 (k + 1) fP fdP ["_law_bag_here", "_law_amount"] spPull)
    (kp : PySem.W.keepIn K (.ref fP) = true) (bP : Binds K fdP ["_law_bag_here", "_law_amount"] []) (gP : mg "_law_pull" = some (.ref fP)) :
    FnOk P w K mg base CX0 (k + 2) f fd ["_law_bag_here", "_law_things"] (spOf K) := by
  refine F.ok scOf (fun vs H Q E h => ?_) (fun cdv A outer s H vs Q E hr h => ?_)
  · obtain ⟨b, l, m, _, rfl, _⟩ := h
    rfl
  · obtain ⟨b, l, t, xs, rfl, B, nt, hS, l0, l1, q⟩ := h
    refine ⟨_, pss_one (ps_ret (pe_ix ix_list (pv 1) (pe_call GP hr (by rfl) gP kp bP .nil pass0 (pa_cons (pv 0) (pa_cons (pe_callB call_len_seq (by rfl) ml PySem.boot_len (pa_cons (pv 1) pa_nil)) pa_nil))) (fun _ _ => rfl))), ?_⟩
    refine ⟨_, rfl, _, rfl, _, rfl, t, _, rfl, .inl hS, b, l, _, rfl, B, by omega, ?_, fun g H' g0 g1 B' bt => ?_⟩
    · have : ((xs.length : Int)).natAbs < 1000 := by omega
      exact Nat.lt_trans this (by decide)
    · obtain ⟨j, hj⟩ : ∃ j : Nat, g = (j : Int) := ⟨g.toNat, by omega⟩
      have hj2 : j < xs.length := by omega
      exact ⟨t, _, _, xs[j], rfl, rfl, bt.seq nt hS, at_of hj (List.getElem?_eq_getElem hj2), q _ _ (List.getElem_mem hj2) B' bt⟩
end
end Lk

namespace Lk
open PySem L2
/-! ### mathematics -/
def prodL : List Int → Int
  | [] => 1
  | x :: r => x * prodL r
theorem prodL_app (x : Int) : ∀ l : List Int, prodL (l ++ [x]) = prodL l * x
  | [] => by simp [prodL]
  | y :: r => by
    show y * prodL (r ++ [x]) = y * prodL r * x
    rw [prodL_app x r, Int.mul_assoc]
theorem prodL_perm {l m : List Int} (h : l.Perm m) : prodL l = prodL m := by
  induction h with
  | nil => rfl
  | cons x _ ih => simp [prodL, ih]
  | swap x y l => simp only [prodL]; rw [← Int.mul_assoc, ← Int.mul_assoc, Int.mul_comm x y]
  | trans _ _ a b => exact a.trans b
theorem prodL_pos : ∀ {l : List Int}, (∀ z ∈ l, 1 ≤ z) → 1 ≤ prodL l
  | [], _ => by simp [prodL]
  | x :: r, h => by
    have h1 := prodL_pos (l := r) fun z hz => h z (List.mem_cons_of_mem _ hz)
    have h2 := h x List.mem_cons_self
    show 1 ≤ x * prodL r
    calc (1 : Int) = 1 * 1 := rfl
      _ ≤ x * prodL r := Int.mul_le_mul h2 h1 (by decide) (by omega)
theorem prodL_take {l : List Int} (h : ∀ z ∈ l, 1 ≤ z) (i : Nat) : prodL (l.take i) ≤ prodL l := by
  have e : ∀ (a b : List Int), prodL (a ++ b) = prodL a * prodL b := fun a b => by
    induction a with
    | nil => simp [prodL]
    | cons x r ih => show x * prodL (r ++ b) = x * prodL r * prodL b; rw [ih, Int.mul_assoc]
  have e2 : prodL l = prodL (l.take i) * prodL (l.drop i) := by rw [← e, List.take_append_drop]
  have h1 := prodL_pos (l := l.take i) fun z hz => h z (List.mem_of_mem_take hz)
  have h2 := prodL_pos (l := l.drop i) fun z hz => h z (List.mem_of_mem_drop hz)
  rw [e2]
  calc prodL (l.take i) = prodL (l.take i) * 1 := by rw [Int.mul_one]
    _ ≤ prodL (l.take i) * prodL (l.drop i) := Int.mul_le_mul_of_nonneg_left h2 (by omega)
theorem take_more {α : Type} {l : List α} {i : Nat} {x : α} (h : l[i]? = some x) : l.take (i + 1) = l.take i ++ [x] := by
  rw [List.take_add_one, h]
  rfl
theorem map_get {α : Type} {g : α → V} {ns : List α} {i : Nat} {y : V} (hi : (ns.map g)[i]? = some y) : ∃ z, ns[i]? = some z ∧ y = g z := by
  rw [List.getElem?_map] at hi
  cases e : ns[i]? with
  | none =>
    rw [e] at hi
    cases hi
  | some z =>
    rw [e] at hi
    exact ⟨z, rfl, (Option.some.inj hi).symm⟩
/-- divisors: numbers from 1 on, their product at most 12 -/
structure Divs (ns : List Int) : Prop where
  one : ∀ z ∈ ns, 1 ≤ z
  most : prodL ns ≤ 12
theorem Divs.part {ns : List Int} (D : Divs ns) (i : Nat) : 1 ≤ prodL (ns.take i) ∧ prodL (ns.take i) ≤ 12 :=
  ⟨prodL_pos fun z hz => D.one z (List.mem_of_mem_take hz), Int.le_trans (prodL_take D.one i) D.most⟩
theorem same_new {H : Hp} {p : Addr} {o : HO} (h : H p = none) : Same H (upd H p o) := fun b x e => by
  rw [upd_ne (ne_of_none e h)]
  exact e
theorem Same.sqT {K : PySem.W.Frag} {H H' : Hp} {a : Addr} {xs : List V} (e : Same H H') (h : SqT K H a xs) : SqT K H' a xs := by
  rcases h with (h | ⟨o, h⟩) | h
  · exact .inl (.inl (e _ _ h))
  · exact .inl (.inr ⟨o, e _ _ h⟩)
  · exact .inr h
/-- zip of two tuples, walked -/
theorem walk_zipT {K : PySem.W.Frag} {a b : Addr} {xs ys : List V} (e : xs.length = ys.length) :
    Walk (RZ.ItzT K a b) xs.length (fun H => SqT K H a xs ∧ SqT K H b ys) (YPair (fun j => xs[j]?) (fun j => ys[j]?)) := by
  constructor
  · intro i H hi q
    have h2 : i < ys.length := by omega
    exact ⟨xs, ys, xs[i], ys[i], q.1, q.2, List.getElem?_eq_getElem hi, List.getElem?_eq_getElem h2⟩
  · intro H q
    exact ⟨xs, ys, q.1, q.2, by omega⟩
  · rintro i H v H' hi q ⟨T, x, z, h1, h2, h3, h4, h5⟩
    exact ⟨T, x, z, h1, h2, h3, h4 xs q.1, h5 ys q.2⟩
/-! ### promises -/
def spBag (K : PySem.W.Frag) : Sp := fun vs H Q _ => ∃ (a : Addr) (ns : List Int), vs = [.ref a] ∧ SqL K H a (ns.map V.int) ∧
  ∀ (H' : Hp) (b l : Addr), Same H H' → H b = none → H l = none → BagAt H' b l → Q (.ref b) H'
def spMixed (K : PySem.W.Frag) : Sp := fun vs H Q _ => ∃ (b l t : Addr) (xs : List V), vs = [.ref b, .ref t] ∧ BagAt H b l ∧ t ≠ b ∧ SqL K H t xs ∧ xs.length ≤ 100 ∧
  ∀ (ys : List V) (H' : Hp) (p : Addr), ys.Perm xs → H p = none → H' p = some (.lst ys) → BagAt H' b l → But b H H' → Q (.ref p) H'
def spCount (K : PySem.W.Frag) : Sp := fun vs H Q _ => ∃ (a : Addr) (ns : List Int), vs = [.ref a] ∧ SqT K H a (ns.map V.int) ∧ Divs ns ∧ Q (.int (prodL ns)) H
def spPlus (K : PySem.W.Frag) : Sp := fun vs H Q _ => ∃ (a b : Addr) (ns ms : List Int), vs = [.ref a, .ref b] ∧ SqT K H a (ns.map V.int) ∧ SqT K H b (ms.map V.int) ∧ ns.length = ms.length ∧ ns.length ≤ 3 ∧
  ∀ (H' : Hp) (p : Addr), Same H H' → H p = none → H' p = some (.tup ((List.zipWith (· + ·) ns ms).map V.int)) → Q (.ref p) H'
def spDivisors : Sp := fun vs H Q _ => ∃ (b l : Addr) (d : Int), vs = [.ref b, .int d] ∧ BagAt H b l ∧ 1 ≤ d ∧ d ≤ 3 ∧
  ∀ (ns : List Int) (H' : Hp) (p : Addr), (ns.length : Int) = d → Divs ns → H p = none → H' p = some (.tup (ns.map V.int)) → BagAt H' b l → But b H H' → Q (.ref p) H'
def spPlace : Sp := fun vs H Q _ => ∃ (b l : Addr) (d z : Int), vs = [.ref b, .int d, .int z] ∧ BagAt H b l ∧ 1 ≤ d ∧ d ≤ 3 ∧ 0 ≤ z ∧ z ≤ 2 ^ 100 ∧
  ∀ (ns : List Int) (H' : Hp) (p : Addr), (ns.length : Int) = d → H p = none → H' p = some (.tup (ns.map V.int)) → BagAt H' b l → But b H H' → Q (.ref p) H'
section
variable {P : Program} {w : World} {K : PySem.W.Frag} {mg : Str → Option Value} {base : Heap}
theorem ok_bag {f : Addr} {fd : FuncData} {k : Nat} (F : Fun K "_law_bag" "_law_bag" sBag f fd) (mi : mg "int" = none) (ml : mg "list" = none) : FnOk P w K mg base CX0 (k + 1) f fd ["_law_script"] (spBag K) := by
  refine F.ok scBag (fun vs H Q E h => ?_) (fun cdv A outer s H vs Q E hr h => ?_)
  · obtain ⟨a, ns, rfl, _⟩ := h
    rfl
  · obtain ⟨a, ns, rfl, hS, q⟩ := h
    obtain ⟨ms, em⟩ : ∃ ms : List Int, cutV (ns.map V.int) none (some 63) = ms.map V.int := by
      unfold cutV
      rw [← List.map_drop, ← List.map_take]
      exact ⟨_, rfl⟩
    refine ⟨_, pss_cons (ps_set (i := 1) scBag.nd rfl (.inl rfl) pe_int)
      (pss_cons (ps_for PassesOwn.never rfl (pi_list (pe_slice sl_list (pv 0) po_none (po_some pe_int))) (pg_name (i := 2) scBag.nd rfl (.inl rfl))
        (pss_one (ps_set (i := 1) scBag.nd rfl (.inl rfl) (pe_op op_mod (pe_callTy call_int1 (by rfl) mi (by decide +kernel) (pa_cons (pe_op op_add (pe_op op_add (pe_op op_mul (pv 1) pe_int) (pe_op op_mod (pe_callTy call_int1 (by rfl) mi (by decide +kernel) (pa_cons (pv 2) pa_nil)) pe_int)) pe_int) pa_nil)) pe_int))))
      (pss_one (ps_ret (pe_lst (pa_cons (pe_callTy call_list_of (by rfl) ml (by decide +kernel) (pa_cons (pe_slice sl_list (pv 0) po_none (po_some pe_int)) pa_nil)) (pa_cons pe_int (pa_cons pe_int (pa_cons (pv 1) pa_nil)))))))), ?_⟩
    refine ⟨_, rfl, _, rfl, a, _, rfl, hS, fun c nc => ?_⟩
    rw [em]
    have s1 : Same H (upd H c (.lst (ms.map V.int))) := same_new nc
    refine ⟨c, rfl, ⟨_, SqL.of upd_same⟩, for_list (K := K) (a := c) (xs := ms.map V.int) (fun i σ H2 => ∃ (z : Int) (v : Option V), σ = [some (.ref a), some (.int z), v] ∧ 0 ≤ z ∧ z < 2147483647 ∧ H2 = upd H c (.lst (ms.map V.int)))
      ⟨3823, none, rfl, by decide, by decide, rfl⟩ (fun i σ H2 _ ⟨_, _, _, _, _, e⟩ => by rw [e]; exact SqL.of upd_same) ?_ ?_⟩
    · rintro i y σ H2 hi ⟨z, v, rfl, z0, z1, rfl⟩
      obtain ⟨u, hu, rfl⟩ := map_get hi
      refine ⟨_, rfl, _, _, rfl, rfl, .inl ⟨by omega, by omega⟩, _, rfl, .inl ⟨_, rfl, ?_⟩⟩
      refine ⟨_, _, rfl, rfl, (by show (0 : Int) < 2147483579; decide), _, _, rfl, rfl, _, _, rfl, rfl, .inl ⟨_, rfl, ?_⟩⟩
      refine ⟨_, _, rfl, rfl, (by show (0 : Int) < 2147483647; decide), ?_⟩
      exact ⟨_, _, rfl, Int.emod_nonneg _ (by decide), Int.emod_lt_of_pos _ (by decide), rfl⟩
    · rintro σ H2 ⟨z, v, rfl, z0, z1, rfl⟩
      refine ⟨_, rfl, _, rfl, a, _, rfl, s1.seq hS, fun c2 nc2 => ?_⟩
      rw [em]
      have s2 := same_new (o := .lst (ms.map V.int)) nc2
      refine ⟨c2, _, rfl, .inl (SqL.of upd_same), fun l nl => ?_⟩
      have s3 := same_new (o := .lst (ms.map V.int)) nl
      refine ⟨_, rfl, (by show 4 ≤ sizeLine; decide), fun b nb => ?_⟩
      have s4 := same_new (o := .lst [.ref l, .int 0, .int 0, .int z]) nb
      refine q _ b l (((s1.trans s2).trans s3).trans s4) (((s1.trans s2).trans s3).free nb) ((s1.trans s2).free nl) ⟨ms, 0, 0, z, upd_same, ?_, by decide, by omega, by decide, z0, z1⟩
      exact s4 _ _ upd_same
theorem ok_mixed {f fP : Addr} {fd fdP : FuncData} {k : Nat} (F : Fun K "_law_mixed" "_law_mixed" sMixed f fd) (ml : mg "len" = none) (GP : FnOk P w K mg base CX0 (k + 1) fP fdP ["_law_bag_here", "_law_amount"] spPull)
    (kp : PySem.W.keepIn K (.ref fP) = true) (bP : Binds K fdP ["_law_bag_here", "_law_amount"] []) (gP : mg "_law_pull" = some (.ref fP)) :
    FnOk P w K mg base CX0 (k + 2) f fd ["_law_bag_here", "_law_things"] (spMixed K) := by
  refine F.ok scMixed (fun vs H Q E h => ?_) (fun cdv A outer s H vs Q E hr h => ?_)
  · obtain ⟨b, l, t, xs, rfl, _⟩ := h
    rfl
  · obtain ⟨b, l, t, xs, rfl, B, nt, hS, l1, q⟩ := h
    refine ⟨_, pss_cons (ps_set (i := 2) scMixed.nd rfl (.inl rfl) (pe_lst pa_nil))
      (pss_cons (ps_for PassesOwn.never rfl (pi_list (pv 1)) (pg_name (i := 3) scMixed.nd rfl (.inl rfl))
        (pss_one (ps_expr (pe_bm PySem.F.plainAttrs_list PySem.F.slot_list_insert PySem.F.type_list_insert mt_insert (pv 2) (pa_cons (pe_call GP hr (by rfl) gP kp bP .nil pass0 (pa_cons (pv 0) (pa_cons (pe_op op_add (pe_callB call_len_seq (by rfl) ml PySem.boot_len (pa_cons (pv 2) pa_nil)) pe_int) pa_nil))) (pa_cons (pv 3) pa_nil))))))
      (pss_one (ps_ret (pv 2)))), ?_⟩
    refine ⟨Nat.zero_le _, fun o no => ?_⟩
    have nob := B.nb no
    have nol := B.nl no
    have s0 := same_new (o := .lst []) no
    have nto : ∀ ys, SqL K H t ys → t ≠ o ∨ True := fun _ _ => .inr trivial
    have hS1 : SqL K (upd H o (.lst [])) t xs := s0.seq hS
    refine ⟨_, rfl, t, rfl, ⟨_, hS1⟩, for_list (K := K) (a := t) (xs := xs) (fun i σ H2 => ∃ (v : Option V) (ys : List V), σ = [some (.ref b), some (.ref t), some (.ref o), v] ∧ ys.Perm (xs.take i) ∧ H2 o = some (.lst ys) ∧ BagAt H2 b l ∧ But b H H2)
      ⟨none, [], rfl, by simp, upd_same, B.new no, new_but no⟩ (fun i σ H2 _ ⟨_, _, _, _, _, _, bt⟩ => bt.seq nt hS) ?_ ?_⟩
    · rintro i y σ H2 hi ⟨v, ys, rfl, pm, ho, B2, bt⟩
      have hi2 : i < xs.length := (List.getElem?_eq_some_iff.mp hi).1
      have ly : ys.length = i := by
        rw [pm.length_eq, List.length_take]
        omega
      refine ⟨_, rfl, .inl ⟨rfl, _, SqL.of ho⟩, _, rfl, _, rfl, o, _, rfl, .inl (SqL.of ho), _, _, rfl, rfl, b, l, _, rfl, B2, by omega, ?_, fun g H3 g0 g1 B3 bt3 => ?_⟩
      · have : (((ys.length : Int) + 1)).natAbs < 1000 := by omega
        exact Nat.lt_trans this (by decide)
      · have ho3 := bt3 o _ nob ho
        refine ⟨_, rfl, o, ys, g, y, rfl, rfl, ho3, ?_, g0, by omega, ?_⟩
        · exact Nat.lt_of_le_of_lt (show ys.length ≤ 100 by omega) (by decide)
        · refine ⟨_, _, rfl, ?_, upd_same, B3.upd nob nol, ?_⟩
          · rw [take_more hi]
            refine List.Perm.trans ?_ (List.Perm.append_right [y] pm)
            have e : ys = ys.take g.toNat ++ ys.drop g.toNat := (List.take_append_drop _ _).symm
            conv => rhs; rw [e]
            rw [List.append_assoc, List.append_assoc]
            exact List.Perm.append_left _ List.perm_append_comm
          · intro a u na hu
            have nao : a ≠ o := ne_of_none hu no
            rw [upd_ne nao]
            exact bt3 a u na (bt a u na hu)
    · rintro σ H2 ⟨v, ys, rfl, pm, ho, B2, bt⟩
      rw [List.take_length] at pm
      exact ⟨_, rfl, q ys H2 o pm no ho B2 bt⟩
theorem ok_count {f : Addr} {fd : FuncData} {k : Nat} (F : Fun K "_law_count" "_law_count" sCount f fd) : FnOk P w K mg base CX0 (k + 1) f fd ["_law_divisors_here"] (spCount K) := by
  refine F.ok scCount (fun vs H Q E h => ?_) (fun cdv A outer s H vs Q E hr h => ?_)
  · obtain ⟨a, ns, rfl, _⟩ := h
    rfl
  · obtain ⟨a, ns, rfl, hS, D, q⟩ := h
    refine ⟨_, pss_cons (ps_set (i := 1) scCount.nd rfl (.inl rfl) pe_int)
      (pss_cons (ps_for PassesOwn.never rfl (pi_tup (pv 0)) (pg_name (i := 2) scCount.nd rfl (.inl rfl)) (pss_one (ps_set (i := 1) scCount.nd rfl (.inl rfl) (pe_op op_mul (pv 1) (pv 2)))))
      (pss_one (ps_ret (pv 1)))), ?_⟩
    refine ⟨_, rfl, a, rfl, ⟨_, hS⟩, for_tup (K := K) (a := a) (xs := ns.map V.int) (fun i σ H2 => ∃ (v : Option V), σ = [some (.ref a), some (.int (prodL (ns.take i))), v] ∧ H2 = H)
      ⟨none, rfl, rfl⟩ (fun i σ H2 _ ⟨_, _, e⟩ => by rw [e]; exact hS) ?_ ?_⟩
    · rintro i y σ H2 hi ⟨v, rfl, rfl⟩
      obtain ⟨u, hu, rfl⟩ := map_get hi
      have pt := D.part i
      refine ⟨_, rfl, _, rfl, _, _, rfl, rfl, .inl ⟨by omega, by omega⟩, some (.int u), ?_, rfl⟩
      rw [take_more hu, prodL_app]
      rfl
    · rintro σ H2 ⟨v, rfl, rfl⟩
      refine ⟨_, rfl, ?_⟩
      rw [List.length_map, List.take_length]
      exact q
theorem ok_product {f : Addr} {fd : FuncData} {k : Nat} (F : Fun K "product" "product" sProduct f fd) : FnOk P w K mg base CX0 (k + 1) f fd ["numbers"] (spCount K) := by
  refine F.ok scProduct (fun vs H Q E h => ?_) (fun cdv A outer s H vs Q E hr h => ?_)
  · obtain ⟨a, ns, rfl, _⟩ := h
    rfl
  · obtain ⟨a, ns, rfl, hS, D, q⟩ := h
    refine ⟨_, pss_cons (ps_set (i := 1) scProduct.nd rfl (.inl rfl) pe_int)
      (pss_cons (ps_for PassesOwn.never rfl (pi_tup (pv 0)) (pg_name (i := 2) scProduct.nd rfl (.inl rfl)) (pss_one (ps_set (i := 1) scProduct.nd rfl (.inl rfl) (pe_op op_mul (pv 1) (pv 2)))))
      (pss_one (ps_ret (pv 1)))), ?_⟩
    refine ⟨_, rfl, a, rfl, ⟨_, hS⟩, for_tup (K := K) (a := a) (xs := ns.map V.int) (fun i σ H2 => ∃ (v : Option V), σ = [some (.ref a), some (.int (prodL (ns.take i))), v] ∧ H2 = H)
      ⟨none, rfl, rfl⟩ (fun i σ H2 _ ⟨_, _, e⟩ => by rw [e]; exact hS) ?_ ?_⟩
    · rintro i y σ H2 hi ⟨v, rfl, rfl⟩
      obtain ⟨u, hu, rfl⟩ := map_get hi
      have pt := D.part i
      refine ⟨_, rfl, _, rfl, _, _, rfl, rfl, .inl ⟨by omega, by omega⟩, some (.int u), ?_, rfl⟩
      rw [take_more hu, prodL_app]
      rfl
    · rintro σ H2 ⟨v, rfl, rfl⟩
      refine ⟨_, rfl, ?_⟩
      rw [List.length_map, List.take_length]
      exact q
end
end Lk

namespace Lk
open PySem L2
section
variable {P : Program} {w : World} {K : PySem.W.Frag} {mg : Str → Option Value} {base : Heap}
theorem ok_place {f fP : Addr} {fd fdP : FuncData} {k : Nat} (F : Fun K "_law_place" "_law_place" sPlace f fd) (mt : mg "tuple" = none) (mr : mg "range" = none) (GP : FnOk P w K mg base CX0 (k + 1) fP fdP ["_law_bag_here", "_law_amount"] spPull)
    (kp : PySem.W.keepIn K (.ref fP) = true) (bP : Binds K fdP ["_law_bag_here", "_law_amount"] []) (gP : mg "_law_pull" = some (.ref fP)) :
    FnOk P w K mg base CX0 (k + 2) f fd ["_law_bag_here", "_law_directions", "_law_size"] spPlace := by
  refine F.ok scPlace (fun vs H Q E h => ?_) (fun cdv A outer s H vs Q E hr h => ?_)
  · obtain ⟨b, l, d, z, rfl, _⟩ := h
    rfl
  · obtain ⟨b, l, d, z, rfl, B, d0, d1, z0, z1, q⟩ := h
    refine ⟨_, pss_one (ps_ret (pe_callTy call_tuple_of (by rfl) mt (by decide +kernel) (pa_cons (pe_lc (own := [("_law_at", 3)]) (g := gName 3) (by rfl) scPlace.nd (pi_range1 (by rfl) mr (pa_cons (pv 1) pa_nil))
      (blkOk_by (own := [("_law_at", 3)]) (N := ["_law_bag_here", "_law_directions", "_law_size", "_law_at"]) (sc := defScope sPlace) (by decide +kernel))
      (fun _ _ _ _ _ => pg_name (i := 3) scPlace.nd rfl (Or.inl rfl)) (fun _ _ _ _ _ => pts_nil)
      (fun _ _ _ _ _ => pe_op op_sub (pe_call GP hr (by rfl) gP kp bP .nil pass0 (pa_cons (pv 0) (pa_cons (pe_op op_add (pe_op op_mul pe_int (pv 2)) pe_int) pa_nil))) (pv 2))) pa_nil))), ?_⟩
    refine ⟨_, rfl, d, rfl, by omega, by omega, fun D nD => ?_⟩
    have nDb := B.nb nD
    have nDl := B.nl nD
    refine lc_range (lo := 0) (n := d.toNat) (fun i H2 => ∃ ns : List Int, ns.length = i ∧ H2 D = some (.lst (ns.map V.int)) ∧ BagAt H2 b l ∧ But b H H2) ⟨[], rfl, upd_same, B.new nD, new_but nD⟩ ?_ ?_
    · rintro i H2 hi ⟨ns, hl, hD, B2, bt⟩
      refine ⟨rfl, ?_⟩
      refine ⟨_, rfl, _, rfl, _, _, rfl, rfl, .inl ⟨by decide, by decide⟩, _, _, rfl, rfl, b, l, _, rfl, B2, by omega, ?_, fun g H3 g0 g1 B3 bt3 => ?_⟩
      · have : ((2 * z + 1)).natAbs < 2 ^ 102 := by omega
        exact Nat.lt_trans this (by decide)
      · have hD3 := bt3 D _ nDb hD
        refine ⟨_, rfl, _, _, rfl, rfl, ns.map V.int, hD3, ?_, ns ++ [g - z], ?_, ?_, B3.upd nDb nDl, ?_⟩
        · rw [List.length_map]
          exact small1000 (by omega)
        · rw [List.length_append, hl]
          rfl
        · rw [upd_same, List.map_append]
          rfl
        · intro a u na hu
          rw [upd_ne (ne_of_none hu nD)]
          exact bt3 a u na (bt a u na hu)
    · rintro H2 ⟨ns, hl, hD, B2, bt⟩
      refine ⟨D, _, rfl, .inl ⟨SqL.of hD, fun p np => ?_⟩⟩
      exact q ns _ p (by omega) (bt.free B B2 np) upd_same (B2.new np) (bt.trans (new_but np))
theorem ok_plus {f : Addr} {fd : FuncData} {k : Nat} (F : Fun K "_law_plus" "_law_plus" sPlus f fd) (mt : mg "tuple" = none) (mz : mg "zip" = none) : FnOk P w K mg base CX0 (k + 1) f fd ["_law_one", "_law_other"] (spPlus K) := by
  refine F.ok scPlus (fun vs H Q E h => ?_) (fun cdv A outer s H vs Q E hr h => ?_)
  · obtain ⟨a, b, ns, ms, rfl, _⟩ := h
    rfl
  · obtain ⟨a, b, ns, ms, rfl, hA, hB, hl, h3, q⟩ := h
    refine ⟨_, pss_one (ps_ret (pe_callTy call_tuple_of (by rfl) mt (by decide +kernel) (pa_cons (pe_lc (own := [("_law_a", 2), ("_law_b", 3)]) (g := gTup K 2 (gCons (gName 2) (gCons (gName 3) gNil))) (by rfl) scPlus.nd (RZ.pi_zipA (by rfl) mz (pa_cons (pv 0) (pa_cons (pv 1) pa_nil)))
      (blkOk_by (own := [("_law_a", 2), ("_law_b", 3)]) (N := ["_law_one", "_law_other", "_law_a", "_law_b"]) (sc := defScope sPlus) (by decide +kernel))
      (fun _ _ _ _ _ => pg_tup rfl (pgs_cons (pg_name (i := 2) scPlus.nd rfl (.inl rfl)) (pgs_cons (pg_name (i := 3) scPlus.nd rfl (.inl rfl)) pgs_nil))) (fun _ _ _ _ _ => pts_nil)
      (fun _ _ _ _ _ => pe_op op_add (pv 2) (pv 3))) pa_nil))), ?_⟩
    have hle : (ns.map V.int).length = (ms.map V.int).length := by rw [List.length_map, List.length_map, hl]
    refine ⟨_, rfl, _, rfl, a, b, ns.map V.int, ms.map V.int, rfl, .inr ⟨hA, hB, fun D nD => ?_⟩⟩
    refine lc_it (walk_zipT hle) (fun i H2 => Same H H2 ∧ H2 D = some (.lst (((List.zipWith (· + ·) ns ms).take i).map V.int))) ⟨same_new nD, upd_same⟩ (fun i H2 _ ⟨sm, _⟩ => ⟨Same.sqT sm hA, Same.sqT sm hB⟩) ?_ ?_
    · rintro i x H2 H3 hi ⟨sm, hD⟩ ⟨T, x1, x2, rfl, nT, rfl, f1, f2⟩
      obtain ⟨u, hu, rfl⟩ := map_get f1
      obtain ⟨v, hv, rfl⟩ := map_get f2
      have nDT : D ≠ T := ne_of_none hD nT
      have gz : (List.zipWith (· + ·) ns ms)[i]? = some (u + v) := by
        rw [List.getElem?_zipWith, hu, hv]
      refine ⟨T, _, rfl, SqT.of upd_same, rfl, _, _, rfl, _, _, rfl, rfl, rfl, ?_⟩
      refine ⟨_, rfl, _, rfl, _, _, rfl, rfl, _, (by rw [upd_ne nDT]; exact hD), ?_, ?_, ?_⟩
      · rw [List.length_map]
        refine Nat.lt_of_le_of_lt (List.length_take_le _ _) (small1000 ?_)
        rw [List.length_map] at hi
        omega
      · intro c o e
        have e2 := sm c o e
        rw [upd_ne (ne_of_none e nD), upd_ne (ne_of_none e2 nT)]
        exact e2
      · rw [upd_same, take_more gz, List.map_append]
        rfl
    · rintro H2 ⟨sm, hD⟩
      have e : (List.zipWith (· + ·) ns ms).take (ns.map V.int).length = List.zipWith (· + ·) ns ms := List.take_of_length_le (by
        rw [List.length_zipWith, List.length_map]
        omega)
      rw [e] at hD
      refine ⟨D, _, rfl, .inl ⟨SqL.of hD, fun p np => ?_⟩⟩
      exact q _ p (sm.trans (same_new np)) (sm.free np) upd_same
theorem ok_divisors {f fP fM : Addr} {fd fdP fdM : FuncData} {k : Nat} (F : Fun K "_law_divisors" "_law_divisors" sDivisors f fd) (mt : mg "tuple" = none) (mr : mg "range" = none) (mm : mg "min" = none)
    (GP : FnOk P w K mg base CX0 (k + 1) fP fdP ["_law_bag_here", "_law_amount"] spPull) (kp : PySem.W.keepIn K (.ref fP) = true) (bP : Binds K fdP ["_law_bag_here", "_law_amount"] []) (gP : mg "_law_pull" = some (.ref fP))
    (GM : FnOk P w K mg base CX0 (k + 2) fM fdM ["_law_bag_here", "_law_things"] (spMixed K)) (kM : PySem.W.keepIn K (.ref fM) = true) (bM : Binds K fdM ["_law_bag_here", "_law_things"] []) (gM : mg "_law_mixed" = some (.ref fM)) :
    FnOk P w K mg base CX0 (k + 3) f fd ["_law_bag_here", "_law_directions"] spDivisors := by
  refine F.ok scDivisors (fun vs H Q E h => ?_) (fun cdv A outer s H vs Q E hr h => ?_)
  · obtain ⟨b, l, d, rfl, _⟩ := h
    rfl
  · obtain ⟨b, l, d, rfl, B, d0, d1, q⟩ := h
    have hr1 : Room (k + 1) _ := hr.mono (by omega)
    refine ⟨_, pss_cons (ps_par (i := 2) (j := 3) (by rfl) scDivisors.nd rfl rfl (by decide) rfl rfl (pa_cons (pe_lst pa_nil) (pa_cons pe_int pa_nil)) (by rfl))
      (pss_cons (ps_for PassesOwn.never rfl (pi_range1 (by rfl) mr (pa_cons (pv 1) pa_nil)) (pg_name (i := 4) scDivisors.nd rfl (.inl rfl))
        (pss_cons (ps_set (i := 5) scDivisors.nd rfl (.inl rfl) (pe_op op_add pe_int (pe_call GP hr1 (by rfl) gP kp bP .nil pass0 (pa_cons (pv 0) (pa_cons (pe_callB (call_min2 rfl) (by rfl) mm (by decide +kernel) (pa_cons (pv 3) (pa_cons (pe_ix ix_list (pe_lst (pa_cons pe_int (pa_cons pe_int (pa_cons pe_int pa_nil)))) (pe_call GP hr1 (by rfl) gP kp bP .nil pass0 (pa_cons (pv 0) (pa_cons pe_int pa_nil))) (fun _ _ => rfl)) pa_nil))) pa_nil)))))
        (pss_cons (ps_expr (pe_bm PySem.F.plainAttrs_list PySem.F.slot_list_append PySem.F.type_list_append mt_append (pv 2) (pa_cons (pv 5) pa_nil)))
        (pss_one (ps_set (i := 3) scDivisors.nd rfl (.inl rfl) (pe_op op_fdiv (pv 3) (pv 5)))))))
      (pss_one (ps_ret (pe_callTy call_tuple_of (by rfl) mt (by decide +kernel) (pa_cons (pe_call GM hr (by rfl) gM kM bM .nil pass0 (pa_cons (pv 0) (pa_cons (pv 2) pa_nil))) pa_nil))))), ?_⟩
    refine ⟨Nat.zero_le _, fun o no => ?_⟩
    have nob := B.nb no
    have nol := B.nl no
    refine ⟨_, _, rfl, ?_⟩
    refine ⟨_, rfl, d, rfl, by omega, by omega, for_range (lo := 0) (n := d.toNat) (fun i σ H2 => ∃ (v4 v5 : Option V) (ns : List Int) (left : Int), σ = [some (.ref b), some (.int d), some (.ref o), some (.int left), v4, v5] ∧ ns.length = i ∧ (∀ z ∈ ns, 1 ≤ z) ∧ 1 ≤ left ∧ prodL ns * left ≤ 12 ∧ H2 o = some (.lst (ns.map V.int)) ∧ BagAt H2 b l ∧ But b H H2)
      ⟨none, none, [], 12, rfl, rfl, by simp, by decide, by simp [prodL], upd_same, B.new no, new_but no⟩ ?_ ?_⟩
    · rintro i σ H2 hi ⟨v4, v5, ns, left, rfl, hl, h1, l1, l2, ho, B2, bt⟩
      have pp := prodL_pos h1
      have l12 : left ≤ 12 := by
        have : 1 * left ≤ prodL ns * left := Int.mul_le_mul_of_nonneg_right pp (by omega)
        omega
      refine ⟨_, rfl, _, rfl, (by show 3 ≤ sizeLine; decide), fun c nc => ?_⟩
      have B2c := B2.new (o := .lst [.int 4, .int 4, .int 12]) nc
      refine ⟨_, rfl, b, l, 3, rfl, B2c, by decide, by decide, fun g H3 g0 g1 B3 bt3 => ?_⟩
      have hc3 : H3 c = some (.lst [.int 4, .int 4, .int 12]) := bt3 c _ (B2.nb nc) upd_same
      obtain ⟨t, ht, t1, t12⟩ : ∃ t : Int, atI ([.int 4, .int 4, .int 12] : List V) g = some (.int t) ∧ 1 ≤ t ∧ t ≤ 12 := by
        have : g = 0 ∨ g = 1 ∨ g = 2 := by omega
        rcases this with rfl | rfl | rfl
        · exact ⟨4, atI_nat (j := 0) rfl, by decide, by decide⟩
        · exact ⟨4, atI_nat (j := 1) rfl, by decide, by decide⟩
        · exact ⟨12, atI_nat (j := 2) rfl, by decide, by decide⟩
      have ho3 : H3 o = some (.lst (ns.map V.int)) := bt3 o _ nob (by rw [upd_ne (ne_of_none ho nc)]; exact ho)
      have mn1 : 1 ≤ (if t < left then t else left) := by split <;> omega
      have mn2 : (if t < left then t else left) ≤ left := by split <;> omega
      refine ⟨c, _, _, _, rfl, rfl, SqL.of hc3, ht, left, t, rfl, b, l, _, rfl, B3, by omega, ?_, fun e H4 e0 e1 B4 bt4 => ?_⟩
      · have : (if t < left then t else left).natAbs < 100 := by omega
        exact Nat.lt_trans this (by decide)
      · have ho4 := bt4 o _ nob ho3
        refine ⟨_, _, rfl, rfl, ?_⟩
        refine ⟨_, rfl, .inl ⟨rfl, _, SqL.of ho4⟩, _, rfl, o, _, _, rfl, rfl, ho4, ?_, ?_⟩
        · rw [List.length_map]
          exact small1000 (by omega)
        · refine ⟨_, rfl, _, rfl, left, 1 + e, rfl, rfl, ⟨by omega, by omega⟩, ?_⟩
          refine ⟨_, _, ns ++ [1 + e], left / (1 + e), rfl, ?_, ?_, ?_, ?_, ?_, B4.upd nob nol, ?_⟩
          · rw [List.length_append, hl]
            rfl
          · intro y hy
            rcases List.mem_append.mp hy with hy | hy
            · exact h1 y hy
            · rw [List.mem_singleton.mp hy]
              omega
          · exact (Int.le_ediv_iff_mul_le (by omega)).mpr (by omega)
          · rw [prodL_app, Int.mul_assoc]
            exact Int.le_trans (Int.mul_le_mul_of_nonneg_left (Int.mul_ediv_self_le (by omega)) (by omega)) l2
          · rw [upd_same, List.map_append]
            rfl
          · intro a u na hu
            have nao : a ≠ o := ne_of_none hu no
            have h2 := bt a u na hu
            rw [upd_ne nao]
            refine bt4 a u na (bt3 a u na ?_)
            rw [upd_ne (ne_of_none h2 nc)]
            exact h2
    · rintro σ H2 ⟨v4, v5, ns, left, rfl, hl, h1, l1, l2, ho, B2, bt⟩
      have pp := prodL_pos h1
      refine ⟨_, rfl, _, rfl, b, l, o, _, rfl, B2, nob, SqL.of ho, ?_, fun ys H3 p pm np hp B3 bt3 => ?_⟩
      · rw [List.length_map]
        omega
      · obtain ⟨ms, em⟩ : ∃ ms : List Int, ys = ms.map V.int := by
          have : ∀ y ∈ ys, ∃ z, y = V.int z := fun y hy => by
            obtain ⟨z, _, e⟩ := List.mem_map.mp (pm.mem_iff.mp hy)
            exact ⟨z, e.symm⟩
          clear pm hp
          induction ys with
          | nil => exact ⟨[], rfl⟩
          | cons y r ih =>
            obtain ⟨z, rfl⟩ := this y List.mem_cons_self
            obtain ⟨ms, rfl⟩ := ih fun x hx => this x (List.mem_cons_of_mem _ hx)
            exact ⟨z :: ms, rfl⟩
        subst em
        have pm2 : ms.Perm ns := by
          have e := pm.filterMap (fun v => match v with | V.int z => some z | _ => none)
          rw [List.filterMap_map, List.filterMap_map] at e
          have e2 : ∀ l : List Int, List.filterMap ((fun v => match v with | V.int z => some z | _ => none) ∘ V.int) l = l := fun l => by
            induction l with
            | nil => rfl
            | cons x r ih => rw [List.filterMap_cons]; simp [ih]
          rw [e2, e2] at e
          exact e
        refine ⟨p, _, rfl, .inl ⟨SqL.of hp, fun t nt => ?_⟩⟩
        refine q ms _ t ?_ ⟨fun z hz => h1 z (pm2.mem_iff.mp hz), ?_⟩ ((bt.trans bt3).free B B3 nt) upd_same (B3.new nt) ((bt.trans bt3).trans (new_but nt))
        · rw [pm2.length_eq, hl]
          omega
        · rw [prodL_perm pm2]
          have : prodL ns * 1 ≤ prodL ns * left := Int.mul_le_mul_of_nonneg_left l1 (by omega)
          omega
end
end Lk

namespace Lk
open PySem L2
/-! ### the least of a tuple of ints -/
def rMinT (K : PySem.W.Frag) : List V → Hp → VK → Prop := fun vs H Q => ∃ (a : Addr) (ns : List Int), vs = [V.ref a] ∧ SqT K H a (ns.map V.int) ∧ 0 < ns.length ∧ ∀ m, m ∈ ns → Q (.int m) H
theorem cr_minT {X : Cx} (hc : X.calm = true) (hu : X.A.units + 1 < cLine) : CallR X (.builtin "min") (rMinT X.K) := by
  intro pins s σ H vs us Q I r h
  obtain ⟨a, ns, rfl, hs, hne, q⟩ := h
  obtain ⟨its, rv, hl, _⟩ := I.tuple hs
  rw [Vals.ref1 r]
  cases ns with
  | nil => exact absurd hne (by decide)
  | cons x xs =>
    have hA := PySem.W.HoldAll.of_ints (h := s.heap) rv.ints
    refine PySem.W.min_tuple_datum (α := Int) (x := x) (xs := xs) (I.ok.hd hc) hl (by simpa using hA) hu fun i v h' tk hi hv hk => ?_
    have hi2 : its[i]? = some v := by simpa using hi
    obtain ⟨z, hz, hzv⟩ := hA.at hi2
    obtain ⟨as, rd⟩ := hzv
    cases rd with
    | int n t => exact ⟨.int z, H, I.kept hk, ⟨t, rfl⟩, q z (List.mem_of_getElem? hz)⟩
theorem tyT {K : PySem.W.Frag} {H : Hp} {a : Addr} {xs : List V} (h : SqT K H a xs) : TyX K H (.ref a) (.type "tuple") := by
  rcases h with (h | ⟨o, h⟩) | ⟨o, its, n, hk, hc, _⟩
  · exact .base (.tup h)
  · exact .fTuple h
  · exact .kTuple hk hc
/-! ### mathematics -/
def clsF (l : List (Int × Int)) (n : Int) : Int := l.foldl (fun n q => n * q.1 + q.2 % q.1) n
def cls (ds ps : List Int) : Int := clsF (ds.zip ps) 0
theorem clsF_bound : ∀ (l : List (Int × Int)) (n m : Int), (∀ q ∈ l, 1 ≤ q.1) → 0 ≤ n → n < m → 0 ≤ clsF l n ∧ clsF l n < m * prodL (l.map (·.1))
  | [], n, m, _, h0, h1 => by simp [clsF, prodL, h0, h1]
  | (d, s) :: r, n, m, h, h0, h1 => by
    have hd : 1 ≤ d := h (d, s) List.mem_cons_self
    have r0 := Int.emod_nonneg s (show d ≠ 0 by omega)
    have r1 := Int.emod_lt_of_pos s (show 0 < d by omega)
    have z0 : 0 ≤ n * d := Int.mul_nonneg h0 (by omega)
    have z1 : n * d + d ≤ m * d := by
      have : (n + 1) * d ≤ m * d := Int.mul_le_mul_of_nonneg_right (by omega) (by omega)
      rw [Int.add_mul] at this
      omega
    have ih := clsF_bound r (n * d + s % d) (m * d) (fun q hq => h q (List.mem_cons_of_mem _ hq)) (by omega) (by omega)
    show 0 ≤ clsF r (n * d + s % d) ∧ clsF r (n * d + s % d) < m * (d * prodL (r.map (·.1)))
    rw [← Int.mul_assoc]
    exact ih
theorem zip_fst : ∀ (ds ps : List Int), ds.length = ps.length → (ds.zip ps).map (·.1) = ds
  | [], [], _ => rfl
  | [], _ :: _, h => by cases h
  | _ :: _, [], h => by cases h
  | d :: ds, p :: ps, h => by
    show d :: (ds.zip ps).map (·.1) = d :: ds
    rw [zip_fst ds ps (by simpa using h)]
theorem cls_bound {ds ps : List Int} (hl : ds.length = ps.length) (h : ∀ z ∈ ds, 1 ≤ z) (i : Nat) : 0 ≤ clsF ((ds.zip ps).take i) 0 ∧ clsF ((ds.zip ps).take i) 0 < prodL (ds.take i) := by
  have e : ((ds.zip ps).take i).map (·.1) = ds.take i := by rw [List.map_take, zip_fst _ _ hl]
  have b := clsF_bound ((ds.zip ps).take i) 0 1 (fun q hq => h _ (by
    have : q.1 ∈ (ds.zip ps).map (·.1) := List.mem_map.mpr ⟨q, List.mem_of_mem_take hq, rfl⟩
    rw [zip_fst _ _ hl] at this
    exact this)) (by decide) (by decide)
  rw [e, Int.one_mul] at b
  exact b
def dotL (rs ps : List Int) : Int := (List.zipWith (· * ·) rs ps).sum
/-! ### promises -/
def spIsNum : Sp := fun vs H Q _ => ∃ i, vs = [.int i] ∧ Q (.bl true) H
def spNums (K : PySem.W.Frag) : Sp := fun vs H Q _ => ∃ (a : Addr) (ns : List Int) (c : Int), vs = [.ref a, .int c] ∧ SqT K H a (ns.map V.int) ∧ (ns.length : Int) = c ∧ ns.length ≤ 1000 ∧ ∀ H', Same H H' → Q (.bl true) H'
def spSides (K : PySem.W.Frag) : Sp := fun vs H Q _ => ∃ (a : Addr) (ns : List Int), vs = [.ref a, .int 1] ∧ SqT K H a (ns.map V.int) ∧ 1 ≤ ns.length ∧ ns.length ≤ 3 ∧ (∀ z ∈ ns, 1 ≤ z) ∧ ∀ H', Same H H' → Q (.bl true) H'
def spChkPlace (K : PySem.W.Frag) : Sp := fun vs H Q _ => ∃ (a : Addr) (ns : List Int) (c : Int), vs = [.ref a, .int c] ∧ SqT K H a (ns.map V.int) ∧ (ns.length : Int) = c ∧ ns.length ≤ 1000 ∧ ∀ H', Same H H' → Q .non H'
def spChkDiv (K : PySem.W.Frag) : Sp := fun vs H Q _ => ∃ (a : Addr) (ns : List Int), vs = [.ref a] ∧ SqT K H a (ns.map V.int) ∧ 1 ≤ ns.length ∧ ns.length ≤ 3 ∧ Divs ns ∧ ∀ H', Same H H' → Q .non H'
def spClassCount (K : PySem.W.Frag) : Sp := fun vs H Q _ => ∃ (a : Addr) (ns : List Int), vs = [.ref a] ∧ SqT K H a (ns.map V.int) ∧ 1 ≤ ns.length ∧ ns.length ≤ 3 ∧ Divs ns ∧ ∀ H', Same H H' → Q (.int (prodL ns)) H'
def spClassAt (K : PySem.W.Frag) : Sp := fun vs H Q _ => ∃ (a c : Addr) (ds ps : List Int), vs = [.ref a, .ref c] ∧ SqT K H a (ds.map V.int) ∧ SqT K H c (ps.map V.int) ∧ ds.length = ps.length ∧ Divs ds ∧ ∀ H', Same H H' → Q (.int (cls ds ps)) H'
def spDot (K : PySem.W.Frag) : Sp := fun vs H Q _ => ∃ (a c : Addr) (rs ps : List Int), vs = [.ref a, .ref c] ∧ SqT K H a (rs.map V.int) ∧ SqT K H c (ps.map V.int) ∧ rs.length = ps.length ∧ rs.length ≤ 3 ∧ (∀ z ∈ rs, -(2 ^ 64) < z ∧ z < 2 ^ 64) ∧ ∀ H', Same H H' → Q (.int (dotL rs ps)) H'
section
variable {P : Program} {w : World} {K : PySem.W.Frag} {mg : Str → Option Value} {base : Heap}
theorem ok_isnum {f : Addr} {fd : FuncData} {k : Nat} (F : Fun K "is_number" "is_number" sIsNum f fd) (mi : mg "int" = none) (mb : mg "bool" = none) (ms : mg "isinstance" = none) : FnOk P w K mg base CX0 (k + 1) f fd ["value"] spIsNum := by
  refine F.ok scIsNum (fun vs H Q E h => ?_) (fun cdv A outer s H vs Q E hr h => ?_)
  · obtain ⟨i, rfl, _⟩ := h
    rfl
  · obtain ⟨i, rfl, q⟩ := h
    refine ⟨_, pss_one (ps_ret (pe_and (pe_callB call_isi (by rfl) ms (by decide +kernel) (pa_cons (pv 0) (pa_cons (pe_bltn (v := .ty "int") (by rfl) mi (by decide +kernel) rfl) pa_nil)))
      (pe_one (pe_not (pe_callB call_isi (by rfl) ms (by decide +kernel) (pa_cons (pv 0) (pa_cons (pe_bltn (v := .ty "bool") (by rfl) mb (by decide +kernel) rfl) pa_nil))))))), ?_⟩
    refine ⟨_, rfl, _, _, _, _, true, rfl, .ty _, .base (.int i), kit_ty (by decide +kernel), true, rfl, iteT ?_⟩
    exact ⟨_, rfl, _, _, _, _, false, rfl, .ty _, .base (.int i), kit_ty (by decide +kernel), false, rfl, q⟩
theorem ok_nums {f fN : Addr} {fd fdN : FuncData} {k : Nat} (F : Fun K "are_numbers" "are_numbers" sAreNums f fd) (ms : mg "isinstance" = none) (mt : mg "tuple" = none) (ml : mg "len" = none) (ma : mg "all" = none)
    (GN : FnOk P w K mg base CX0 (k + 1) fN fdN ["value"] spIsNum) (kN : PySem.W.keepIn K (.ref fN) = true) (bN : Binds K fdN ["value"] []) (gN : mg "is_number" = some (.ref fN)) : FnOk P w K mg base CX0 (k + 2) f fd ["value", "count"] (spNums K) := by
  refine F.ok scAreNums (fun vs H Q E h => ?_) (fun cdv A outer s H vs Q E hr h => ?_)
  · obtain ⟨a, ns, c, rfl, _⟩ := h
    rfl
  · obtain ⟨a, ns, c, rfl, hS, hc, h1, q⟩ := h
    refine ⟨_, pss_cons (ps_if (PW.pt (pw_or (pt_not (pt_val (pe_callB call_isi (by rfl) ms (by decide +kernel) (pa_cons (pv 0) (pa_cons (pe_bltn (v := .ty "tuple") (by rfl) mt (by decide +kernel) rfl) pa_nil)))))
        (pw_or1 (pt_cmpR op_ne (pe_callB call_len_seq (by rfl) ml PySem.boot_len (pa_cons (pv 0) pa_nil)) (pv 1) (nomark _))))) (pss_one (ps_ret pe_bl)) pss_nil)
      (pss_one (ps_ret (pe_callB (cr_all rfl) (by rfl) ma (by decide +kernel) (pa_cons (pe_lc (own := [("item", 2)]) (g := gName 2) (by rfl) scAreNums.nd (pi_tup (pv 0))
        (blkOk_by (own := [("item", 2)]) (N := ["value", "count", "item"]) (sc := defScope sAreNums) (by decide +kernel)) (fun _ _ _ _ _ => pg_name (i := 2) scAreNums.nd rfl (Or.inl rfl)) (fun _ _ _ _ _ => pts_nil)
        (fun _ _ _ _ _ => pe_call GN hr (by rfl) gN kN bN .nil pass0 (pa_cons (pv 2) pa_nil))) pa_nil)))), ?_⟩
    refine ⟨_, rfl, _, _, _, _, true, rfl, .ty _, tyT hS, kit_ty (by decide +kernel), true, rfl, iteF ?_⟩
    refine ⟨_, rfl, a, _, rfl, .inr hS, _, rfl, rfl, _, rfl, iteNS (by rw [List.length_map, hc]) ?_⟩
    refine ⟨_, rfl, a, rfl, ⟨_, hS⟩, fun D nD => ?_⟩
    refine lc_tup (K := K) (a := a) (xs := ns.map V.int) (fun i H2 => Same H H2 ∧ H2 D = some (.lst ((List.replicate i true).map V.bl))) ⟨same_new nD, upd_same⟩ (fun i H2 _ ⟨sm, _⟩ => Same.sqT sm hS) ?_ ?_
    · rintro i x H2 hx ⟨sm, hD⟩
      obtain ⟨u, hu, rfl⟩ := map_get hx
      refine ⟨rfl, _, rfl, u, rfl, _, hD, ?_, ?_, ?_⟩
      · rw [List.length_map, List.length_replicate]
        have := (List.getElem?_eq_some_iff.mp hu).1
        exact small1000 (by omega)
      · intro b o e
        rw [upd_ne (ne_of_none e nD)]
        exact sm b o e
      · rw [upd_same, List.replicate_succ', List.map_append]
        rfl
    · rintro H2 ⟨sm, hD⟩
      refine ⟨D, _, rfl, SqL.of hD, ?_⟩
      have e : (List.replicate (ns.map V.int).length true).all id = true := by simp
      rw [e]
      exact q H2 sm
theorem ok_sides {f fN : Addr} {fd fdN : FuncData} {k : Nat} (F : Fun K "are_sides" "are_sides" sAreSides f fd) (ms : mg "isinstance" = none) (mt : mg "tuple" = none) (ml : mg "len" = none) (mm : mg "min" = none) {t3 : Tok} (mD : mg "MAX_DIRECTIONS" = some (.int 3 t3))
    (GN : FnOk P w K mg base CX0 (k + 2) fN fdN ["value", "count"] (spNums K)) (kN : PySem.W.keepIn K (.ref fN) = true) (bN : Binds K fdN ["value", "count"] []) (gN : mg "are_numbers" = some (.ref fN)) : FnOk P w K mg base CX0 (k + 3) f fd ["value", "least"] (spSides K) := by
  refine F.ok scAreSides (fun vs H Q E h => ?_) (fun cdv A outer s H vs Q E hr h => ?_)
  · obtain ⟨a, ns, rfl, _⟩ := h
    rfl
  · obtain ⟨a, ns, rfl, hS, h1, h3, hp, q⟩ := h
    refine ⟨_, pss_cons (ps_if (PW.pt (pw_or (pt_not (pt_val (pe_callB call_isi (by rfl) ms (by decide +kernel) (pa_cons (pv 0) (pa_cons (pe_bltn (v := .ty "tuple") (by rfl) mt (by decide +kernel) rfl) pa_nil)))))
        (pw_or1 (pt_not (pt_chain op_le op_le pe_int (pe_callB call_len_seq (by rfl) ml PySem.boot_len (pa_cons (pv 0) pa_nil)) (pe_glob (v := .int 3) (by rfl) mD ⟨_, rfl⟩)))))) (pss_one (ps_ret pe_bl)) pss_nil)
      (pss_one (ps_ret (pe_and (pe_call GN hr (by rfl) gN kN bN .nil pass0 (pa_cons (pv 0) (pa_cons (pe_callB call_len_seq (by rfl) ml PySem.boot_len (pa_cons (pv 0) pa_nil)) pa_nil)))
        (pe_one (pe_cmpR op_ge (pe_callB (cr_minT rfl (hu_of hr)) (by rfl) mm (by decide +kernel) (pa_cons (pv 0) pa_nil)) (pv 1) (nomark _)))))), ?_⟩
    refine ⟨_, rfl, _, _, _, _, true, rfl, .ty _, tyT hS, kit_ty (by decide +kernel), true, rfl, iteF ?_⟩
    have hl : (ns.map V.int).length = ns.length := List.length_map ..
    refine ⟨_, rfl, a, _, rfl, .inr hS, _, _, rfl, rfl, true, ?_, iteT ?_⟩
    · exact congrArg V.bl (decide_eq_true (by rw [hl]; omega))
    · refine ⟨_, _, rfl, rfl, true, congrArg V.bl (decide_eq_true (by rw [hl]; omega)), iteF ?_⟩
      refine ⟨_, rfl, _, rfl, a, _, rfl, .inr hS, a, ns, _, rfl, hS, (by rw [hl]), by omega, fun H1 sm => ⟨true, rfl, iteT ?_⟩⟩
      refine ⟨_, rfl, a, ns, rfl, Same.sqT sm hS, by omega, fun m hm => ⟨_, rfl, _, _, rfl, rfl, ?_⟩⟩
      have e : decide ((1 : Int) ≤ m) = true := decide_eq_true (hp m hm)
      show Q (V.bl (decide ((1 : Int) ≤ m))) H1
      rw [e]
      exact q H1 sm
theorem ok_chkplace {f fN : Addr} {fd fdN : FuncData} {k : Nat} (F : Fun K "check_place" "check_place" sChkPlace f fd)
    (GN : FnOk P w K mg base CX0 (k + 2) fN fdN ["value", "count"] (spNums K)) (kN : PySem.W.keepIn K (.ref fN) = true) (bN : Binds K fdN ["value", "count"] []) (gN : mg "are_numbers" = some (.ref fN)) : FnOk P w K mg base CX0 (k + 3) f fd ["place", "directions"] (spChkPlace K) := by
  refine F.ok scChkPlace (fun vs H Q E h => ?_) (fun cdv A outer s H vs Q E hr h => ?_)
  · obtain ⟨a, ns, c, rfl, _⟩ := h
    rfl
  · obtain ⟨a, ns, c, rfl, hS, h1, h3, q⟩ := h
    refine ⟨_, pss_one (ps_if (pt_not (pt_val (pe_call GN hr (by rfl) gN kN bN .nil pass0 (pa_cons (pv 0) (pa_cons (pv 1) pa_nil))))) pss_never pss_nil), ?_⟩
    exact ⟨_, rfl, _, rfl, a, ns, c, rfl, hS, h1, h3, fun H1 sm => ⟨true, rfl, iteF (q H1 sm)⟩⟩
theorem ok_chkdiv {f fN fM : Addr} {fd fdN fdM : FuncData} {k : Nat} (F : Fun K "check_divisors" "check_divisors" sChkDiv f fd) {t3 : Tok} (mC : mg "MAX_CLASSES" = some (.int 12 t3))
    (GN : FnOk P w K mg base CX0 (k + 3) fN fdN ["value", "least"] (spSides K)) (kN : PySem.W.keepIn K (.ref fN) = true) (bN : Binds K fdN ["value", "least"] []) (gN : mg "are_sides" = some (.ref fN))
    (GM : FnOk P w K mg base CX0 (k + 1) fM fdM ["numbers"] (spCount K)) (kM : PySem.W.keepIn K (.ref fM) = true) (bM : Binds K fdM ["numbers"] []) (gM : mg "product" = some (.ref fM)) : FnOk P w K mg base CX0 (k + 4) f fd ["divisors"] (spChkDiv K) := by
  refine F.ok scChkDiv (fun vs H Q E h => ?_) (fun cdv A outer s H vs Q E hr h => ?_)
  · obtain ⟨a, ns, rfl, _⟩ := h
    rfl
  · obtain ⟨a, ns, rfl, hS, h1, h3, D, q⟩ := h
    have hr1 : Room (k + 1) _ := hr.mono (by omega)
    refine ⟨_, pss_cons (ps_if (pt_not (pt_val (pe_call GN hr (by rfl) gN kN bN .nil pass0 (pa_cons (pv 0) (pa_cons pe_int pa_nil))))) pss_never pss_nil)
      (pss_one (ps_if (pt_cmpR op_gt (pe_call GM hr1 (by rfl) gM kM bM .nil pass0 (pa_cons (pv 0) pa_nil)) (pe_glob (v := .int 12) (by rfl) mC ⟨_, rfl⟩) (nomark _)) pss_never pss_nil)), ?_⟩
    refine ⟨_, rfl, a, ns, rfl, hS, h1, h3, D.one, fun H1 sm => ⟨true, rfl, iteF ?_⟩⟩
    refine ⟨_, rfl, a, ns, rfl, Same.sqT sm hS, D, _, _, rfl, rfl, false, ?_, iteF (q H1 sm)⟩
    exact congrArg V.bl (decide_eq_false (by have := D.most; omega))
theorem ok_classcount {f fN fM : Addr} {fd fdN fdM : FuncData} {k : Nat} (F : Fun K "class_count" "class_count" sClassCount f fd)
    (GN : FnOk P w K mg base CX0 (k + 4) fN fdN ["divisors"] (spChkDiv K)) (kN : PySem.W.keepIn K (.ref fN) = true) (bN : Binds K fdN ["divisors"] []) (gN : mg "check_divisors" = some (.ref fN))
    (GM : FnOk P w K mg base CX0 (k + 1) fM fdM ["numbers"] (spCount K)) (kM : PySem.W.keepIn K (.ref fM) = true) (bM : Binds K fdM ["numbers"] []) (gM : mg "product" = some (.ref fM)) : FnOk P w K mg base CX0 (k + 5) f fd ["divisors"] (spClassCount K) := by
  refine F.ok scClassCount (fun vs H Q E h => ?_) (fun cdv A outer s H vs Q E hr h => ?_)
  · obtain ⟨a, ns, rfl, _⟩ := h
    rfl
  · obtain ⟨a, ns, rfl, hS, h1, h3, D, q⟩ := h
    have hr1 : Room (k + 1) _ := hr.mono (by omega)
    refine ⟨_, pss_cons (ps_expr (pe_call GN hr (by rfl) gN kN bN .nil pass0 (pa_cons (pv 0) pa_nil))) (pss_one (ps_ret (pe_call GM hr1 (by rfl) gM kM bM .nil pass0 (pa_cons (pv 0) pa_nil)))), ?_⟩
    exact ⟨_, rfl, a, ns, rfl, hS, h1, h3, D, fun H1 sm => ⟨_, rfl, a, ns, rfl, Same.sqT sm hS, D, q H1 sm⟩⟩
theorem ok_classat {f : Addr} {fd : FuncData} {k : Nat} (F : Fun K "class_at" "class_at" sClassAt f fd) (mz : mg "zip" = none) : FnOk P w K mg base CX0 (k + 1) f fd ["divisors", "place"] (spClassAt K) := by
  refine F.ok scClassAt (fun vs H Q E h => ?_) (fun cdv A outer s H vs Q E hr h => ?_)
  · obtain ⟨a, c, ds, ps, rfl, _⟩ := h
    rfl
  · obtain ⟨a, c, ds, ps, rfl, hA, hB, hl, D, q⟩ := h
    refine ⟨_, pss_cons (ps_set (i := 2) scClassAt.nd rfl (.inl rfl) pe_int)
      (pss_cons (ps_for PassesOwn.never rfl (RZ.pi_zipA (by rfl) mz (pa_cons (pv 0) (pa_cons (pv 1) pa_nil))) (pg_tup rfl (pgs_cons (pg_name (i := 3) scClassAt.nd rfl (.inl rfl)) (pgs_cons (pg_name (i := 4) scClassAt.nd rfl (.inl rfl)) pgs_nil)))
        (pss_one (ps_set (i := 2) scClassAt.nd rfl (.inl rfl) (pe_op op_add (pe_op op_mul (pv 2) (pv 3)) (pe_op op_mod (pv 4) (pv 3))))))
      (pss_one (ps_ret (pv 2)))), ?_⟩
    have hle : (ds.map V.int).length = (ps.map V.int).length := by rw [List.length_map, List.length_map, hl]
    refine ⟨_, rfl, _, rfl, a, c, _, _, rfl, .inr ⟨hA, hB, ?_⟩⟩
    refine for_it (walk_zipT hle) (fun i σ H2 => ∃ v3 v4 : Option V, σ = [some (.ref a), some (.ref c), some (.int (clsF ((ds.zip ps).take i) 0)), v3, v4] ∧ Same H H2) ⟨none, none, rfl, Same.refl _⟩ (fun i σ H2 _ ⟨_, _, _, sm⟩ => ⟨Same.sqT sm hA, Same.sqT sm hB⟩) ?_ ?_
    · rintro i x σ H2 H3 hi ⟨v3, v4, rfl, sm⟩ ⟨T, x1, x2, rfl, nT, rfl, f1, f2⟩
      obtain ⟨u, hu, rfl⟩ := map_get f1
      obtain ⟨v, hv, rfl⟩ := map_get f2
      have bd := cls_bound hl D.one i
      have pt := D.part i
      have hu1 := D.one u (List.mem_of_getElem? hu)
      have gz : (ds.zip ps)[i]? = some (u, v) := by
        rw [List.getElem?_zip_eq_some]
        exact ⟨hu, hv⟩
      refine ⟨T, _, rfl, SqT.of upd_same, rfl, _, _, rfl, _, _, rfl, rfl, ?_⟩
      refine ⟨_, rfl, _, rfl, _, _, rfl, rfl, .inl ⟨by omega, by omega⟩, _, rfl, _, rfl, _, _, rfl, rfl, (by show (0 : Int) < u; omega), _, _, rfl, rfl, ?_⟩
      refine ⟨some (.int u), some (.int v), ?_, sm.trans (same_new nT)⟩
      rw [take_more gz]
      unfold clsF
      rw [List.foldl_append]
      rfl
    · rintro σ H2 ⟨v3, v4, rfl, sm⟩
      refine ⟨_, rfl, ?_⟩
      rw [List.take_of_length_le (by rw [List.length_zip, List.length_map]; omega)]
      exact q H2 sm
theorem ok_dot {f : Addr} {fd : FuncData} {k : Nat} (F : Fun K "dot" "dot" sDot f fd) (ms : mg "sum" = none) (mz : mg "zip" = none) : FnOk P w K mg base CX0 (k + 1) f fd ["row", "place"] (spDot K) := by
  refine F.ok scDot (fun vs H Q E h => ?_) (fun cdv A outer s H vs Q E hr h => ?_)
  · obtain ⟨a, c, ds, ps, rfl, _⟩ := h
    rfl
  · obtain ⟨a, c, ns, ms', rfl, hA, hB, hl, h3, hz, q⟩ := h
    refine ⟨_, pss_one (ps_ret (pe_callB (cr_sum rfl) (by rfl) ms (by decide +kernel) (pa_cons (pe_lc (own := [("one", 2), ("other", 3)]) (g := gTup K 2 (gCons (gName 2) (gCons (gName 3) gNil))) (by rfl) scDot.nd (RZ.pi_zipA (by rfl) mz (pa_cons (pv 0) (pa_cons (pv 1) pa_nil)))
      (blkOk_by (own := [("one", 2), ("other", 3)]) (N := ["row", "place", "one", "other"]) (sc := defScope sDot) (by decide +kernel))
      (fun _ _ _ _ _ => pg_tup rfl (pgs_cons (pg_name (i := 2) scDot.nd rfl (.inl rfl)) (pgs_cons (pg_name (i := 3) scDot.nd rfl (.inl rfl)) pgs_nil))) (fun _ _ _ _ _ => pts_nil)
      (fun _ _ _ _ _ => pe_op op_mul (pv 2) (pv 3))) pa_nil))), ?_⟩
    have hle : (ns.map V.int).length = (ms'.map V.int).length := by rw [List.length_map, List.length_map, hl]
    refine ⟨_, rfl, _, rfl, a, c, ns.map V.int, ms'.map V.int, rfl, .inr ⟨hA, hB, fun D nD => ?_⟩⟩
    refine lc_it (walk_zipT hle) (fun i H2 => Same H H2 ∧ H2 D = some (.lst (((List.zipWith (· * ·) ns ms').take i).map V.int))) ⟨same_new nD, upd_same⟩ (fun i H2 _ ⟨sm, _⟩ => ⟨Same.sqT sm hA, Same.sqT sm hB⟩) ?_ ?_
    · rintro i x H2 H3 hi ⟨sm, hD⟩ ⟨T, x1, x2, rfl, nT, rfl, f1, f2⟩
      obtain ⟨u, hu, rfl⟩ := map_get f1
      obtain ⟨v, hv, rfl⟩ := map_get f2
      have nDT : D ≠ T := ne_of_none hD nT
      have gz : (List.zipWith (· * ·) ns ms')[i]? = some (u * v) := by
        rw [List.getElem?_zipWith, hu, hv]
      refine ⟨T, _, rfl, SqT.of upd_same, rfl, _, _, rfl, _, _, rfl, rfl, rfl, ?_⟩
      refine ⟨_, rfl, _, rfl, _, _, rfl, rfl, .inl (hz u (List.mem_of_getElem? hu)), _, (by rw [upd_ne nDT]; exact hD), ?_, ?_, ?_⟩
      · rw [List.length_map]
        refine Nat.lt_of_le_of_lt (List.length_take_le _ _) (small1000 ?_)
        rw [List.length_map] at hi
        omega
      · intro c o e
        have e2 := sm c o e
        rw [upd_ne (ne_of_none e nD), upd_ne (ne_of_none e2 nT)]
        exact e2
      · rw [upd_same, take_more gz, List.map_append]
        rfl
    · rintro H2 ⟨sm, hD⟩
      have e : (List.zipWith (· * ·) ns ms').take (ns.map V.int).length = List.zipWith (· * ·) ns ms' := List.take_of_length_le (by
        rw [List.length_zipWith, List.length_map]
        omega)
      rw [e] at hD
      exact ⟨D, _, rfl, SqL.of hD, q _ sm⟩
end
end Lk

namespace PySem
open PySem.AutoSeq1
theorem lk_extend_tuple (l : Addr) (items : Array Value) (n : Nat) (b : Addr) (items2 : Array Value) (n2 : Nat) (od : Option Addr) (sl : Array (Option Value)) (hs0 : ¬(!items.isEmpty && Builtin.List.listTooLong (items.size + items2.size)) = true) (hs1 : items.size ≤ sizeLine) (hs2 : items.size + items2.size ≤ sizeLine + 1) :
    Meets (Builtin.«list.extend» ⟨[.ref l, .ref b], []⟩) (fun _ R s => s.heap.get? l = some { cls := .type "list", dict := none, data := .seq items n, slots := #[] } ∧ s.heap.get? b = some { cls := .type "tuple", dict := od, data := .seq items2 n2, slots := sl } ∧
      R (.ok (.ret Value.none)) { s with heap := s.heap.update l (Obj.mapSeq fun x => x ++ items2), toks := s.toks }) :=
  .of_wp fun prog w A R s h => by
    obtain ⟨hp, g, d, tk, os⟩ := s
    obtain ⟨hl, hb, h⟩ := h
    have f1 := idx_int
    have f2 := sub_tuple_tuple
    have f3 := sub_list_list
    have f4 := sub_tuple_list
    have f5 := sub_list_tuple
    have hz' : (items ++ items2).size ≤ sizeLine + 1 := by
      rw [Array.size_append]
      exact hs2
    wp_walk using (wpAny_updateSeq hl rfl (hz := hs1) (_hz' := hz')), wpAny_loadPart' hl, wpAny_loadPart' hb
    exact ⟨_, rfl, h⟩
end PySem
namespace Lk
open PySem L2
def rExtT (K : PySem.W.Frag) : V → List V → Hp → VK → Prop := fun x vs H Q => ∃ l b xs zs, x = .ref l ∧ vs = [.ref b] ∧ H l = some (.lst xs) ∧ SqT K H b zs ∧ xs.length + zs.length ≤ sizeLine ∧ Q .non (upd H l (.lst (xs ++ zs)))
theorem mt_extT {X : Cx} : MtM X "list.extend" (rExtT X.K) := by
  intro pins s σ H x vs v us Q I rx rv h
  obtain ⟨l, b, xs, zs, rfl, rfl, hH, hB, hz, q⟩ := h
  cases rx
  obtain ⟨u, rfl, ru⟩ := rv.one
  cases ru
  obtain ⟨z, its, n, r, hl, e⟩ := I.lstM hH
  obtain ⟨its2, r2, ⟨o, e2, hcl, n2, hdt⟩, z2⟩ := I.tuple hB
  obtain ⟨oc, od, dt, sl⟩ := o
  simp only at hcl hdt
  subst hcl hdt
  have q1 := r.length
  have q2 := r2.length
  have hsz : its.toArray.size + its2.toArray.size ≤ sizeLine := by
    rw [List.size_toArray, List.size_toArray]
    omega
  have hlong : ¬ (!its.toArray.isEmpty && Builtin.List.listTooLong (its.toArray.size + its2.toArray.size)) = true := by
    rw [notLongL hsz, Bool.and_false]
    exact Bool.false_ne_true
  refine call_meets F.slot_list_extend ⟨_, e, rfl⟩ F.entry_list_extend (F.args_list_extend_2 _ _) (lk_extend_tuple l its.toArray n b its2.toArray n2 od sl hlong (by rw [List.size_toArray]; omega) (by omega)) ⟨e, e2, ?_⟩
  refine ⟨.non, _, I.lset (its' := its ++ its2) hH e (by simp) (r.append r2) ?_, rfl, q⟩
  rw [List.length_append]
  omega
end Lk

namespace Lk
open PySem L2
/-! ### trees -/
mutual
inductive Tr where
  | pl
  | key (row hs : List Int) (t : Tr)
  | fork (gs : Gs)
inductive Gs where
  | nil
  | cons (cs : List Int) (t : Tr) (r : Gs)
end
mutual
def Tr.size : Tr → Nat
  | .pl => 1
  | .key _ _ t => t.size + 1
  | .fork gs => gs.size + 1
def Gs.size : Gs → Nat
  | .nil => 0
  | .cons _ t r => t.size + r.size
end
mutual
def Tr.dep : Tr → Nat
  | .pl => 1
  | .key _ _ t => t.dep + 1
  | .fork gs => gs.dep + 1
def Gs.dep : Gs → Nat
  | .nil => 0
  | .cons _ t r => max t.dep r.dep
end
def Gs.classes : Gs → List Int
  | .nil => []
  | .cons cs _ r => cs ++ r.classes
def Gs.trees : Gs → List Tr
  | .nil => []
  | .cons _ t r => t :: r.trees
def Gs.heads : Gs → List (List Int)
  | .nil => []
  | .cons cs _ r => cs :: r.heads
def rng0 (n : Nat) : List Int := (List.range n).map fun i => ((i : Nat) : Int)
mutual
def Tr.wf (d n : Nat) : Tr → Prop
  | .pl => True
  | .key row hs t => row.length = d ∧ hs.length = n ∧ (∀ z ∈ row, -(2 ^ 64) < z ∧ z < 2 ^ 64) ∧ t.wf d n
  | .fork gs => gs.classes.Perm (rng0 n) ∧ gs.wf d n
def Gs.wf (d n : Nat) : Gs → Prop
  | .nil => True
  | .cons cs t r => (cs ≠ [] ∧ cs.Pairwise (· < ·)) ∧ t.wf d n ∧ r.wf d n
end
mutual
def TrAt (K : PySem.W.Frag) (H : Hp) : Tr → V → Prop
  | .pl, v => ∃ a, v = .ref a ∧ SqT K H a [.str "places"]
  | .key row hs t, v => ∃ a ra ha tv, v = .ref a ∧ SqT K H a [.str "key", .ref ra, .ref ha, tv] ∧ SqT K H ra (row.map V.int) ∧ SqT K H ha (hs.map V.int) ∧ TrAt K H t tv
  | .fork gs, v => ∃ a ga vs, v = .ref a ∧ SqT K H a [.str "fork", .ref ga] ∧ SqT K H ga vs ∧ GsAt K H gs vs
def GsAt (K : PySem.W.Frag) (H : Hp) : Gs → List V → Prop
  | .nil, vs => vs = []
  | .cons cs t r, vs => ∃ pa ca tv vr, vs = .ref pa :: vr ∧ SqT K H pa [.ref ca, tv] ∧ SqT K H ca (cs.map V.int) ∧ TrAt K H t tv ∧ GsAt K H r vr
end
def Tups (K : PySem.W.Frag) (H H' : Hp) : Prop := ∀ a xs, SqT K H a xs → SqT K H' a xs
theorem Same.tups {K : PySem.W.Frag} {H H' : Hp} (e : Same H H') : Tups K H H' := fun _ _ h => Same.sqT e h
theorem But.tups {K : PySem.W.Frag} {b l : Addr} {H H' : Hp} (B : BagAt H b l) (e : But b H H') : Tups K H H' := fun _ _ h => e.sqT B h
mutual
theorem TrAt.mono {K : PySem.W.Frag} {H H' : Hp} (e : Tups K H H') : ∀ {t : Tr} {v : V}, TrAt K H t v → TrAt K H' t v
  | .pl, v, h => by
    simp only [TrAt] at h ⊢
    obtain ⟨a, h1, h2⟩ := h
    exact ⟨a, h1, e _ _ h2⟩
  | .key row hs t, v, h => by
    simp only [TrAt] at h ⊢
    obtain ⟨a, ra, ha, tv, h1, h2, h3, h4, h5⟩ := h
    exact ⟨a, ra, ha, tv, h1, e _ _ h2, e _ _ h3, e _ _ h4, TrAt.mono e h5⟩
  | .fork gs, v, h => by
    simp only [TrAt] at h ⊢
    obtain ⟨a, ga, vs, h1, h2, h3, h4⟩ := h
    exact ⟨a, ga, vs, h1, e _ _ h2, e _ _ h3, GsAt.mono e h4⟩
theorem GsAt.mono {K : PySem.W.Frag} {H H' : Hp} (e : Tups K H H') : ∀ {g : Gs} {vs : List V}, GsAt K H g vs → GsAt K H' g vs
  | .nil, vs, h => by
    simp only [GsAt] at h ⊢
    exact h
  | .cons cs t r, vs, h => by
    simp only [GsAt] at h ⊢
    obtain ⟨pa, ca, tv, vr, h1, h2, h3, h4, h5⟩ := h
    exact ⟨pa, ca, tv, vr, h1, e _ _ h2, e _ _ h3, TrAt.mono e h4, GsAt.mono e h5⟩
end
/-! ### as data -/
mutual
def Tr.toD : Tr → PyData
  | .pl => .tuple [.str "places"]
  | .key row hs t => .tuple [.str "key", .tuple (row.map .int), .tuple (hs.map .int), t.toD]
  | .fork gs => .tuple [.str "fork", .tuple gs.toDs]
def Gs.toDs : Gs → List PyData
  | .nil => []
  | .cons cs t r => .tuple [.tuple (cs.map .int), t.toD] :: r.toDs
end
theorem dpInts {K : PySem.W.Frag} {H : Hp} : ∀ ns : List Int, DpAll K H (ns.map V.int) (ns.map PyData.int)
  | [] => .nil
  | n :: r => .cons (.int n) (dpInts r)
mutual
theorem TrAt.dp {K : PySem.W.Frag} {H : Hp} : ∀ {t : Tr} {v : V}, TrAt K H t v → Dp K H v t.toD
  | .pl, v, h => by
    simp only [TrAt] at h
    obtain ⟨a, rfl, h2⟩ := h
    exact .tup h2 (.cons (.str _) .nil)
  | .key row hs t, v, h => by
    simp only [TrAt] at h
    obtain ⟨a, ra, ha, tv, rfl, h2, h3, h4, h5⟩ := h
    exact .tup h2 (.cons (.str _) (.cons (.tup h3 (dpInts _)) (.cons (.tup h4 (dpInts _)) (.cons (TrAt.dp h5) .nil))))
  | .fork gs, v, h => by
    simp only [TrAt] at h
    obtain ⟨a, ga, vs, rfl, h2, h3, h4⟩ := h
    exact .tup h2 (.cons (.str _) (.cons (.tup h3 (GsAt.dp h4)) .nil))
theorem GsAt.dp {K : PySem.W.Frag} {H : Hp} : ∀ {g : Gs} {vs : List V}, GsAt K H g vs → DpAll K H vs g.toDs
  | .nil, vs, h => by
    simp only [GsAt] at h
    subst h
    exact .nil
  | .cons cs t r, vs, h => by
    simp only [GsAt] at h
    obtain ⟨pa, ca, tv, vr, rfl, h2, h3, h4, h5⟩ := h
    exact .cons (.tup h2 (.cons (.tup h3 (dpInts _)) (.cons (TrAt.dp h4) .nil))) (GsAt.dp h5)
end
theorem canInts : ∀ ns : List Int, PyData.canLayAll0 (ns.map PyData.int) = true
  | [] => rfl
  | _ :: r => by simp [PyData.canLayAll0, PyData.canLay0, canInts r]
theorem depInts : ∀ ns : List Int, PyData.depthAll (ns.map PyData.int) = 0
  | [] => rfl
  | _ :: r => by simp [PyData.depthAll, PyData.depth, depInts r]
theorem okP : PyData.strOk (Str.ofString "places") = true := by decide +kernel
theorem okK : PyData.strOk (Str.ofString "key") = true := by decide +kernel
theorem okF : PyData.strOk (Str.ofString "fork") = true := by decide +kernel
mutual
theorem Tr.can : ∀ t : Tr, t.toD.canLay0 = true
  | .pl => by simp [Tr.toD, PyData.canLay0, PyData.canLayAll0, okP]
  | .key row hs t => by simp [Tr.toD, PyData.canLay0, PyData.canLayAll0, canInts, Tr.can t, okK]
  | .fork gs => by simp [Tr.toD, PyData.canLay0, PyData.canLayAll0, Gs.can gs, okF]
theorem Gs.can : ∀ g : Gs, PyData.canLayAll0 g.toDs = true
  | .nil => by simp [Gs.toDs, PyData.canLayAll0]
  | .cons cs t r => by simp [Gs.toDs, PyData.canLay0, PyData.canLayAll0, canInts, Tr.can t, Gs.can r]
end
mutual
theorem Tr.deep : ∀ t : Tr, t.toD.depth ≤ 3 * t.dep ∧ 1 ≤ t.dep
  | .pl => by simp [Tr.toD, PyData.depth, PyData.depthAll, Tr.dep]
  | .key row hs t => by
    have h := Tr.deep t
    simp only [Tr.toD, PyData.depth, PyData.depthAll, Tr.dep, depInts]
    omega
  | .fork gs => by
    have h := Gs.deep gs
    simp only [Tr.toD, PyData.depth, PyData.depthAll, Tr.dep]
    omega
theorem Gs.deep : ∀ g : Gs, PyData.depthAll g.toDs ≤ 3 * g.dep + 1
  | .nil => by simp [Gs.toDs, PyData.depthAll]
  | .cons cs t r => by
    have h := Tr.deep t
    have h2 := Gs.deep r
    simp only [Gs.toDs, PyData.depth, PyData.depthAll, Gs.dep, depInts]
    omega
end
theorem Tr.shaped {t : Tr} (h : t.dep ≤ 20) : SeqAt.shaped t.toD = true := by
  have h2 := Tr.deep t
  unfold SeqAt.shaped
  rw [Tr.can t, decide_eq_true (by omega)]
  rfl
theorem eqv_pl : ∀ t : Tr, PyData.eqv t.toD (PyData.tuple [.str "places"]) = (match t with | .pl => true | _ => false)
  | .pl => by
    simp [Tr.toD, PyData.eqv, PyData.eqvAll]
  | .key _ _ _ => by simp [Tr.toD, PyData.eqv, PyData.eqvAll]
  | .fork _ => by simp [Tr.toD, PyData.eqv, PyData.eqvAll]
theorem eqv_ints : ∀ ns : List Int, PyData.eqvAll (ns.map PyData.int) (ns.map PyData.int) = true
  | [] => by simp [PyData.eqvAll]
  | n :: r => by simp [PyData.eqvAll, PyData.eqv, eqv_ints r]
theorem ints_sorted (n : Nat) : (rng0 n).Pairwise (· ≤ ·) := by
  unfold rng0
  rw [List.pairwise_map]
  exact List.Pairwise.imp (fun h => by omega) (List.pairwise_lt_range (n := n))
theorem rg_ints (n : Nat) : rgV 0 (n : Int) = (rng0 n).map V.int := by
  unfold rgV rng0
  rw [List.map_map]
  simp
/-- zip of two tuples of any lengths, walked -/
theorem walk_zipM {K : PySem.W.Frag} {a b : Addr} {xs ys : List V} {n : Nat} (e : n = min xs.length ys.length) :
    Walk (RZ.ItzT K a b) n (fun H => SqT K H a xs ∧ SqT K H b ys) (YPair (fun j => xs[j]?) (fun j => ys[j]?)) := by
  constructor
  · intro i H hi q
    have h1 : i < xs.length := by omega
    have h2 : i < ys.length := by omega
    exact ⟨xs, ys, xs[i], ys[i], q.1, q.2, List.getElem?_eq_getElem h1, List.getElem?_eq_getElem h2⟩
  · intro H q
    exact ⟨xs, ys, q.1, q.2, by omega⟩
  · rintro i H v H' hi q ⟨T, x, z, h1, h2, h3, h4, h5⟩
    exact ⟨T, x, z, h1, h2, h3, h4 xs q.1, h5 ys q.2⟩
theorem cut_one {xs : List V} (h : xs ≠ []) : cutV xs (some 1) none = xs.drop 1 ∧ ¬ (HT.sIx xs.length 0 (some 1) = 0 ∧ HT.sIx xs.length xs.length none = xs.length) := by
  have e : HT.sIx xs.length 0 (some 1) = 1 := by
    have e1 : HT.sIx xs.length 0 (some 1) = min 1 xs.length := HT.sIx_nat xs.length 0 1
    have : 0 < xs.length := List.length_pos_iff.mpr h
    omega
  refine ⟨?_, fun z => by rw [e] at z; exact absurd z.1 (by decide)⟩
  unfold cutV
  rw [e, HT.sIx_none]
  exact List.take_of_length_le (by rw [List.length_drop]; omega)
/-! ### promises -/
def spAsc (K : PySem.W.Frag) : Sp := fun vs H Q _ => ∃ (a : Addr) (ns : List Int), vs = [.ref a] ∧ SqT K H a (ns.map V.int) ∧ ns ≠ [] ∧ ns.length ≤ 100 ∧ ns.Pairwise (· < ·) ∧ ∀ H', Same H H' → Q (.bl true) H'
def spGroups (K : PySem.W.Frag) : Sp := fun vs H Q _ => ∃ (a : Addr) (ws : List V) (gs : Gs) (d n : Nat), vs = [.ref a, .int n] ∧ SqT K H a ws ∧ GsAt K H gs ws ∧ n ≤ 12 ∧ gs.classes.Perm (rng0 n) ∧ gs.wf d n ∧ ∀ H', Same H H' → Q (.bl true) H'
section
variable {P : Program} {w : World} {K : PySem.W.Frag} {mg : Str → Option Value} {base : Heap}
theorem ok_asc {f fN : Addr} {fd fdN : FuncData} {k : Nat} (F : Fun K "is_ascending" "is_ascending" sAsc f fd) (ms : mg "isinstance" = none) (mt : mg "tuple" = none) (ml : mg "len" = none) (ma : mg "all" = none) (mz : mg "zip" = none)
    (GN : FnOk P w K mg base CX0 (k + 2) fN fdN ["value", "count"] (spNums K)) (kN : PySem.W.keepIn K (.ref fN) = true) (bN : Binds K fdN ["value", "count"] []) (gN : mg "are_numbers" = some (.ref fN)) : FnOk P w K mg base CX0 (k + 3) f fd ["value"] (spAsc K) := by
  refine F.ok scAsc (fun vs H Q E h => ?_) (fun cdv A outer s H vs Q E hr h => ?_)
  · obtain ⟨a, ns, rfl, _⟩ := h
    rfl
  · obtain ⟨a, ns, rfl, hS, h0, h100, hp, q⟩ := h
    refine ⟨_, pss_cons (ps_if (PW.pt (pw_or (pt_not (pt_val (pe_callB call_isi (by rfl) ms (by decide +kernel) (pa_cons (pv 0) (pa_cons (pe_bltn (v := .ty "tuple") (by rfl) mt (by decide +kernel) rfl) pa_nil)))))
        (pw_or1 (pt_cmpR op_eq (pe_callB call_len_seq (by rfl) ml PySem.boot_len (pa_cons (pv 0) pa_nil)) pe_int (nomark _))))) (pss_one (ps_ret pe_bl)) pss_nil)
      (pss_cons (ps_if (pt_not (pt_val (pe_call GN hr (by rfl) gN kN bN .nil pass0 (pa_cons (pv 0) (pa_cons (pe_callB call_len_seq (by rfl) ml PySem.boot_len (pa_cons (pv 0) pa_nil)) pa_nil))))) (pss_one (ps_ret pe_bl)) pss_nil)
      (pss_one (ps_ret (pe_callB (cr_all rfl) (by rfl) ma (by decide +kernel) (pa_cons (pe_lc (own := [("before", 1), ("after", 2)]) (g := gTup K 2 (gCons (gName 1) (gCons (gName 2) gNil))) (by rfl) scAsc.nd
        (RZ.pi_zipA (by rfl) mz (pa_cons (pv 0) (pa_cons (pe_slice sl_tupA (pv 0) (po_some pe_int) po_none) pa_nil)))
        (blkOk_by (own := [("before", 1), ("after", 2)]) (N := ["value", "before", "after"]) (sc := defScope sAsc) (by decide +kernel))
        (fun _ _ _ _ _ => pg_tup rfl (pgs_cons (pg_name (i := 1) scAsc.nd rfl (.inl rfl)) (pgs_cons (pg_name (i := 2) scAsc.nd rfl (.inl rfl)) pgs_nil))) (fun _ _ _ _ _ => pts_nil)
        (fun _ _ _ _ _ => pe_cmpR op_lt (pv 1) (pv 2) (nomark _))) pa_nil))))), ?_⟩
    have hl : (ns.map V.int).length = ns.length := List.length_map ..
    have hpos : 0 < ns.length := List.length_pos_iff.mpr h0
    refine ⟨_, rfl, _, _, _, _, true, rfl, .ty _, tyT hS, kit_ty (by decide +kernel), true, rfl, iteF ?_⟩
    refine ⟨_, rfl, a, _, rfl, .inr hS, rfl, false, ?_, iteF ?_⟩
    · refine congrArg V.bl (decide_eq_false fun e => ?_)
      have := V.int.inj e
      rw [hl] at this
      omega
    refine ⟨_, rfl, _, rfl, a, _, rfl, .inr hS, a, ns, _, rfl, hS, (by rw [hl]), by omega, fun H1 sm => ⟨true, rfl, iteF ?_⟩⟩
    have hne : ns.map V.int ≠ [] := fun e => h0 (List.map_eq_nil_iff.mp e)
    have cu := cut_one hne
    have hS1 : SqT K H1 a (ns.map V.int) := Same.sqT sm hS
    refine ⟨_, rfl, _, rfl, 1, rfl, a, _, rfl, hS1, fun z => absurd z cu.2, fun _ c nc => ?_⟩
    rw [cu.1]
    have sm2 := sm.trans (same_new (o := .tup ((ns.map V.int).drop 1)) nc)
    refine ⟨a, c, ns.map V.int, (ns.map V.int).drop 1, rfl, .inr ⟨Same.sqT sm2 hS, SqT.of upd_same, fun D nD => ?_⟩⟩
    have hc1 : (upd H1 c (.tup ((ns.map V.int).drop 1))) c = some (.tup ((ns.map V.int).drop 1)) := upd_same
    refine lc_it (walk_zipM (n := ns.length - 1) (by rw [List.length_drop, hl]; omega)) (fun i H2 => Same (upd H1 c (.tup ((ns.map V.int).drop 1))) H2 ∧ H2 D = some (.lst ((List.replicate i true).map V.bl))) ⟨same_new nD, upd_same⟩
      (fun i H2 _ ⟨s3, _⟩ => ⟨Same.sqT (sm2.trans s3) hS, SqT.of (s3 _ _ hc1)⟩) ?_ ?_
    · rintro i x H2 H3 hi ⟨s3, hD⟩ ⟨T, x1, x2, rfl, nT, rfl, f1, f2⟩
      obtain ⟨u, hu, rfl⟩ := map_get f1
      have f2' : (ns.map V.int)[1 + i]? = some x2 := by
        rw [← List.getElem?_drop]
        exact f2
      obtain ⟨v, hv, rfl⟩ := map_get f2'
      have nDT : D ≠ T := ne_of_none hD nT
      have uv : u < v := by
        obtain ⟨h1, e1⟩ := List.getElem?_eq_some_iff.mp hu
        obtain ⟨h2, e2⟩ := List.getElem?_eq_some_iff.mp hv
        rw [← e1, ← e2]
        exact List.pairwise_iff_getElem.mp hp i (1 + i) h1 h2 (by omega)
      refine ⟨T, _, rfl, SqT.of upd_same, rfl, _, _, rfl, _, _, rfl, rfl, rfl, ?_⟩
      refine ⟨_, rfl, _, rfl, _, _, rfl, rfl, _, (by rw [upd_ne nDT]; exact hD), ?_, ?_, ?_⟩
      · rw [List.length_map, List.length_replicate]
        exact small1000 (by omega)
      · intro c o e
        have e2 := s3 c o e
        rw [upd_ne (ne_of_none e nD), upd_ne (ne_of_none e2 nT)]
        exact e2
      · rw [upd_same, List.replicate_succ', List.map_append]
        show some (HO.lst (_ ++ [V.bl (decide (u < v))])) = _
        rw [decide_eq_true uv]
        rfl
    · rintro H2 ⟨s3, hD⟩
      refine ⟨D, _, rfl, SqL.of hD, ?_⟩
      have e : (List.replicate (ns.length - 1) true).all id = true := by simp
      rw [e]
      exact q H2 (sm2.trans s3)
end
end Lk

namespace Lk
open PySem L2
theorem Gs.heads_len : ∀ g : Gs, g.heads.length = g.trees.length
  | .nil => rfl
  | .cons _ _ r => by simp [Gs.heads, Gs.trees, Gs.heads_len r]
theorem Gs.flat : ∀ g : Gs, g.classes = g.heads.flatten
  | .nil => rfl
  | .cons _ _ r => by simp [Gs.classes, Gs.heads, Gs.flat r]
theorem Gs.wf_heads {d n : Nat} : ∀ {g : Gs}, g.wf d n → ∀ cs ∈ g.heads, cs ≠ [] ∧ cs.Pairwise (· < ·)
  | .nil, _, _, h => by cases h
  | .cons c t r, w, cs, h => by
    simp only [Gs.wf] at w
    rcases List.mem_cons.mp h with e | e
    · rw [e]
      exact w.1
    · exact Gs.wf_heads w.2.2 cs e
theorem Gs.wf_trees {d n : Nat} : ∀ {g : Gs}, g.wf d n → ∀ t ∈ g.trees, t.wf d n
  | .nil, _, _, h => by cases h
  | .cons c t r, w, t', h => by
    simp only [Gs.wf] at w
    rcases List.mem_cons.mp h with e | e
    · rw [e]
      exact w.2.1
    · exact Gs.wf_trees w.2.2 t' e
theorem GsAt.len {K : PySem.W.Frag} {H : Hp} : ∀ {g : Gs} {ws : List V}, GsAt K H g ws → ws.length = g.heads.length
  | .nil, ws, h => by
    simp only [GsAt] at h
    rw [h]
    rfl
  | .cons c t r, ws, h => by
    simp only [GsAt] at h
    obtain ⟨pa, ca, tv, vr, rfl, h2, h3, h4, h5⟩ := h
    simp [Gs.heads, GsAt.len h5]
theorem GsAt.get {K : PySem.W.Frag} {H : Hp} : ∀ {g : Gs} {ws : List V} {i : Nat} {y : V}, GsAt K H g ws → ws[i]? = some y →
    ∃ pa ca tv cs t, y = .ref pa ∧ SqT K H pa [.ref ca, tv] ∧ SqT K H ca (cs.map V.int) ∧ TrAt K H t tv ∧ g.heads[i]? = some cs ∧ g.trees[i]? = some t
  | .nil, ws, i, y, h, e => by
    simp only [GsAt] at h
    rw [h] at e
    simp at e
  | .cons c t r, ws, 0, y, h, e => by
    simp only [GsAt] at h
    obtain ⟨pa, ca, tv, vr, rfl, h2, h3, h4, h5⟩ := h
    exact ⟨pa, ca, tv, c, t, (Option.some.inj e).symm, h2, h3, h4, rfl, rfl⟩
  | .cons c t r, ws, i + 1, y, h, e => by
    simp only [GsAt] at h
    obtain ⟨pa, ca, tv, vr, rfl, h2, h3, h4, h5⟩ := h
    exact GsAt.get (g := r) (ws := vr) (i := i) h5 (by simpa using e)
def TrsAt (K : PySem.W.Frag) (H : Hp) : List Tr → List V → Prop
  | [], ws => ws = []
  | t :: r, ws => ∃ v vr, ws = v :: vr ∧ TrAt K H t v ∧ TrsAt K H r vr
theorem TrsAt.mono {K : PySem.W.Frag} {H H' : Hp} (e : Tups K H H') : ∀ {ts : List Tr} {ws : List V}, TrsAt K H ts ws → TrsAt K H' ts ws
  | [], _, h => h
  | t :: r, _, ⟨v, vr, h1, h2, h3⟩ => ⟨v, vr, h1, TrAt.mono e h2, TrsAt.mono e h3⟩
theorem TrsAt.app {K : PySem.W.Frag} {H : Hp} : ∀ {ts : List Tr} {ws : List V} {t : Tr} {v : V}, TrsAt K H ts ws → TrAt K H t v → TrsAt K H (ts ++ [t]) (ws ++ [v])
  | [], _, t, v, h, q => by
    have h : _ = [] := h
    subst h
    exact ⟨v, [], rfl, q, rfl⟩
  | t :: r, _, t', v', ⟨v, vr, h1, h2, h3⟩, q => ⟨v, vr ++ [v'], by rw [h1]; rfl, h2, TrsAt.app h3 q⟩
def Tr.kids : Tr → List Tr
  | .pl => []
  | .key _ _ t => [t]
  | .fork gs => gs.trees
def Tr.isKey : Tr → Bool
  | .key _ _ _ => true
  | _ => false
def Tr.isFork : Tr → Bool
  | .fork _ => true
  | _ => false
theorem flat_take {α : Type} : ∀ (l : List (List α)) (i : Nat), (l.take i).flatten.length ≤ l.flatten.length
  | [], i => by simp
  | x :: r, 0 => by simp
  | x :: r, i + 1 => by
    have := flat_take r i
    simp only [List.take_succ_cons, List.flatten_cons, List.length_append]
    omega
theorem rng0_len (n : Nat) : (rng0 n).length = n := by simp [rng0]
/-! ### promises -/
def spIsKey (K : PySem.W.Frag) : Sp := fun vs H Q _ => ∃ (v : V) (t : Tr) (d n : Nat), vs = [v, .int d, .int n] ∧ TrAt K H t v ∧ t.wf d n ∧ d ≤ 3 ∧ n ≤ 12 ∧ ∀ H', Same H H' → Q (.bl t.isKey) H'
def spIsFork (K : PySem.W.Frag) : Sp := fun vs H Q _ => ∃ (v : V) (t : Tr) (d n : Nat), vs = [v, .int n] ∧ TrAt K H t v ∧ t.wf d n ∧ n ≤ 12 ∧ ∀ H', Same H H' → Q (.bl t.isFork) H'
def spInner (K : PySem.W.Frag) : Sp := fun vs H Q _ => ∃ (v : V) (t : Tr) (d n : Nat), vs = [v, .int d, .int n] ∧ TrAt K H t v ∧ t.wf d n ∧ d ≤ 3 ∧ n ≤ 12 ∧ SeqAt.shaped t.toD = true ∧
  ∀ H' p ws, Same H H' → H p = none → H' p = some (.lst ws) → TrsAt K H' t.kids ws → Q (.ref p) H'
section
variable {P : Program} {w : World} {K : PySem.W.Frag} {mg : Str → Option Value} {base : Heap}
theorem ok_groups {f fA : Addr} {fd fdA : FuncData} {k : Nat} (F : Fun K "are_groups" "are_groups" sGroups f fd) (ms : mg "isinstance" = none) (mt : mg "tuple" = none) (ml : mg "len" = none) (mso : mg "sorted" = none) (mli : mg "list" = none) (mr : mg "range" = none)
    (GA : FnOk P w K mg base CX0 (k + 3) fA fdA ["value"] (spAsc K)) (kA : PySem.W.keepIn K (.ref fA) = true) (bA : Binds K fdA ["value"] []) (gA : mg "is_ascending" = some (.ref fA)) : FnOk P w K mg base CX0 (k + 4) f fd ["value", "classes"] (spGroups K) := by
  refine F.ok scGroups (fun vs H Q E h => ?_) (fun cdv A outer s H vs Q E hr h => ?_)
  · obtain ⟨a, ws, gs, d, n, rfl, _⟩ := h
    rfl
  · obtain ⟨a, ws, gs, d, n, rfl, hS, hG, hn, hp, hw, q⟩ := h
    refine ⟨_, pss_cons (ps_if (pt_not (pt_val (pe_callB call_isi (by rfl) ms (by decide +kernel) (pa_cons (pv 0) (pa_cons (pe_bltn (v := .ty "tuple") (by rfl) mt (by decide +kernel) rfl) pa_nil))))) (pss_one (ps_ret pe_bl)) pss_nil)
      (pss_cons (ps_set (i := 2) scGroups.nd rfl (.inl rfl) (pe_lst pa_nil))
      (pss_cons (ps_for PassesOwn.never rfl (pi_tup (pv 0)) (pg_name (i := 3) scGroups.nd rfl (.inl rfl))
        (pss_cons (ps_if (PW.pt (pw_or (pt_not (pt_val (pe_callB call_isi (by rfl) ms (by decide +kernel) (pa_cons (pv 3) (pa_cons (pe_bltn (v := .ty "tuple") (by rfl) mt (by decide +kernel) rfl) pa_nil)))))
            (pw_or (pt_cmpR op_ne (pe_callB call_len_seq (by rfl) ml PySem.boot_len (pa_cons (pv 3) pa_nil)) pe_int (nomark _))
            (pw_or1 (pt_not (pt_val (pe_call GA hr (by rfl) gA kA bA .nil pass0 (pa_cons (pe_ix ix_tup (pv 3) pe_int (fun _ _ => rfl)) pa_nil)))))))) (pss_one (ps_ret pe_bl)) pss_nil)
        (pss_one (ps_expr (pe_bm PySem.F.plainAttrs_list PySem.F.slot_list_extend PySem.F.type_list_extend mt_extT (pv 2) (pa_cons (pe_ix ix_tup (pv 3) pe_int (fun _ _ => rfl)) pa_nil))))))
      (pss_one (ps_ret (pe_cmpR (op_eqD hr.units) (pe_callB cr_sorted (by rfl) mso (by decide +kernel) (pa_cons (pv 2) pa_nil)) (pe_listRg rfl (by rfl) mli (prg_1 (by rfl) mr (pv 1))) (nomark _)))))), ?_⟩
    refine ⟨_, rfl, _, _, _, _, true, rfl, .ty _, tyT hS, kit_ty (by decide +kernel), true, rfl, iteF ?_⟩
    refine ⟨Nat.zero_le _, fun o no => ?_⟩
    have s0 := same_new (o := .lst []) no
    have tot : gs.heads.flatten.length = n := by rw [← Gs.flat, hp.length_eq, rng0_len]
    refine ⟨_, rfl, a, rfl, ⟨_, Same.sqT s0 hS⟩, for_tup (K := K) (a := a) (xs := ws) (fun i σ H2 => ∃ (v : Option V), σ = [some (.ref a), some (.int n), some (.ref o), v] ∧ Same H H2 ∧ H2 o = some (.lst ((gs.heads.take i).flatten.map V.int)))
      ⟨none, rfl, s0, upd_same⟩ (fun i σ H2 _ ⟨_, _, sm, _⟩ => Same.sqT sm hS) ?_ ?_⟩
    · rintro i y σ H2 hi ⟨v, rfl, sm, ho⟩
      obtain ⟨pa, ca, tv, cs, t, rfl, g1, g2, g3, g4, g5⟩ := hG.get hi
      have hw1 := Gs.wf_heads hw cs (List.mem_of_getElem? g4)
      have tk := take_more g4
      have l1 := flat_take gs.heads (i + 1)
      rw [tk, List.flatten_append, List.length_append] at l1
      have l0 : ([cs] : List (List Int)).flatten.length = cs.length := by simp
      rw [l0] at l1
      have l2 : cs.length ≤ 12 := by omega
      have g1' : SqT K H2 pa [.ref ca, tv] := Same.sqT sm g1
      have g2' : SqT K H2 ca (cs.map V.int) := Same.sqT sm g2
      refine ⟨_, rfl, _, _, _, _, true, rfl, .ty _, tyT g1', kit_ty (by decide +kernel), true, rfl, iteF ?_⟩
      refine ⟨_, rfl, pa, _, rfl, .inr g1', rfl, false, rfl, iteF ?_⟩
      refine ⟨_, rfl, pa, _, _, _, rfl, rfl, g1', atI_nat (j := 0) rfl, ca, cs, rfl, g2', hw1.1, by omega, hw1.2, fun H3 s3 => ⟨true, rfl, iteF ?_⟩⟩
      have ho3 := s3 _ _ ho
      refine ⟨_, rfl, .inl ⟨rfl, _, SqL.of ho3⟩, _, rfl, pa, _, _, _, rfl, rfl, Same.sqT s3 g1', atI_nat (j := 0) rfl, o, ca, _, _, rfl, rfl, ho3, Same.sqT s3 g2', ?_, ?_⟩
      · rw [List.length_map, List.length_map]
        refine Nat.le_of_lt (small1000 ?_)
        have := flat_take gs.heads i
        omega
      · refine ⟨_, rfl, fun b u e => ?_, ?_⟩
        · rw [upd_ne (ne_of_none e no)]
          exact s3 _ _ (sm _ _ e)
        · rw [upd_same, tk, List.flatten_append, List.map_append]
          simp
    · rintro σ H2 ⟨v, rfl, sm, ho⟩
      have e1 : gs.heads.take ws.length = gs.heads := List.take_of_length_le (by rw [hG.len]; exact Nat.le_refl _)
      rw [e1] at ho
      refine ⟨_, rfl, o, gs.heads.flatten, rfl, SqL.of ho, by omega, fun ns' p pm pw np => ?_⟩
      have e2 : ns' = rng0 n := PySem.W.ksm_same (pm.trans (by rw [← Gs.flat]; exact hp)) pw (ints_sorted n)
      subst e2
      refine ⟨_, rfl, n, rfl, RgOk.of_le (by decide) (by omega) (by decide) (by omega), fun r nr => ?_⟩
      rw [rg_ints]
      have npr : p ≠ r := ne_of_none upd_same nr
      refine ⟨.list ((rng0 n).map .int), .list ((rng0 n).map .int), .lst (SqL.of (by rw [upd_ne npr]; exact upd_same)) (dpInts _), .lst (SqL.of upd_same) (dpInts _), PySem.W.ke_shaped_ints _, PySem.W.ke_shaped_ints _, ?_⟩
      have e3 : PyData.eqv (.list ((rng0 n).map .int)) (.list ((rng0 n).map .int)) = true := by
        simp only [PyData.eqv]
        exact eqv_ints _
      rw [e3]
      exact q _ ((sm.trans (same_new np)).trans (same_new nr))
theorem ok_iskey {f fN : Addr} {fd fdN : FuncData} {k : Nat} (F : Fun K "is_key" "is_key" sIsKey f fd) (ml : mg "len" = none)
    (GN : FnOk P w K mg base CX0 (k + 2) fN fdN ["value", "count"] (spNums K)) (kN : PySem.W.keepIn K (.ref fN) = true) (bN : Binds K fdN ["value", "count"] []) (gN : mg "are_numbers" = some (.ref fN)) : FnOk P w K mg base CX0 (k + 3) f fd ["node", "directions", "classes"] (spIsKey K) := by
  refine F.ok scIsKey (fun vs H Q E h => ?_) (fun cdv A outer s H vs Q E hr h => ?_)
  · obtain ⟨v, t, d, n, rfl, _⟩ := h
    rfl
  · obtain ⟨v, t, d, n, rfl, hT, hw, hd, hn, q⟩ := h
    refine ⟨_, pss_cons (ps_if (PW.pt (pw_or (pt_cmpR op_ne (pe_callB call_len_seq (by rfl) ml PySem.boot_len (pa_cons (pv 0) pa_nil)) pe_int (nomark _))
        (pw_or1 (pt_cmpR op_ne (pe_ix ix_tup (pv 0) pe_int (fun _ _ => rfl)) pe_str (nomark _))))) (pss_one (ps_ret pe_bl)) pss_nil)
      (pss_one (ps_ret (pe_and (pe_call GN hr (by rfl) gN kN bN .nil pass0 (pa_cons (pe_ix ix_tup (pv 0) pe_int (fun _ _ => rfl)) (pa_cons (pv 1) pa_nil)))
        (pe_one (pe_call GN hr (by rfl) gN kN bN .nil pass0 (pa_cons (pe_ix ix_tup (pv 0) pe_int (fun _ _ => rfl)) (pa_cons (pv 2) pa_nil))))))), ?_⟩
    cases t with
    | pl =>
      simp only [TrAt] at hT
      obtain ⟨a, rfl, h2⟩ := hT
      exact ⟨_, rfl, a, _, rfl, .inr h2, rfl, true, rfl, iteT (q H (Same.refl _))⟩
    | fork gs =>
      simp only [TrAt] at hT
      obtain ⟨a, ga, vs, rfl, h2, _⟩ := hT
      exact ⟨_, rfl, a, _, rfl, .inr h2, rfl, true, rfl, iteT (q H (Same.refl _))⟩
    | key row hs t =>
      simp only [TrAt] at hT
      simp only [Tr.wf] at hw
      obtain ⟨a, ra, ha, tv, rfl, h2, h3, h4, h5⟩ := hT
      refine ⟨_, rfl, a, _, rfl, .inr h2, rfl, false, rfl, iteF ?_⟩
      refine ⟨_, rfl, a, _, _, _, rfl, rfl, h2, atI_nat (j := 0) rfl, rfl, false, ?_, iteF ?_⟩
      · show V.bl (!decide (V.str "key" = V.str "key")) = V.bl false
        rw [decide_eq_true rfl]
        rfl
      refine ⟨_, rfl, a, _, _, _, rfl, rfl, h2, atI_nat (j := 1) rfl, _, rfl, ra, row, _, rfl, h3, (by rw [hw.1]), by omega, fun H1 s1 => ⟨true, rfl, iteT ?_⟩⟩
      exact ⟨_, rfl, a, _, _, _, rfl, rfl, Same.sqT s1 h2, atI_nat (j := 2) rfl, _, rfl, ha, hs, _, rfl, Same.sqT s1 h4, (by rw [hw.2.1]), by omega, fun H2 s2 => q H2 (s1.trans s2)⟩
theorem ok_isfork {f fG : Addr} {fd fdG : FuncData} {k : Nat} (F : Fun K "is_fork" "is_fork" sIsFork f fd) (ml : mg "len" = none)
    (GG : FnOk P w K mg base CX0 (k + 4) fG fdG ["value", "classes"] (spGroups K)) (kG : PySem.W.keepIn K (.ref fG) = true) (bG : Binds K fdG ["value", "classes"] []) (gG : mg "are_groups" = some (.ref fG)) : FnOk P w K mg base CX0 (k + 5) f fd ["node", "classes"] (spIsFork K) := by
  refine F.ok scIsFork (fun vs H Q E h => ?_) (fun cdv A outer s H vs Q E hr h => ?_)
  · obtain ⟨v, t, d, n, rfl, _⟩ := h
    rfl
  · obtain ⟨v, t, d, n, rfl, hT, hw, hn, q⟩ := h
    refine ⟨_, pss_one (ps_ret (pe_and (pe_cmpR op_eq (pe_callB call_len_seq (by rfl) ml PySem.boot_len (pa_cons (pv 0) pa_nil)) pe_int (nomark _))
      (pe_and (pe_cmpR op_eq (pe_ix ix_tup (pv 0) pe_int (fun _ _ => rfl)) pe_str (nomark _)) (pe_one (pe_call GG hr (by rfl) gG kG bG .nil pass0 (pa_cons (pe_ix ix_tup (pv 0) pe_int (fun _ _ => rfl)) (pa_cons (pv 1) pa_nil))))))), ?_⟩
    cases t with
    | pl =>
      simp only [TrAt] at hT
      obtain ⟨a, rfl, h2⟩ := hT
      exact ⟨_, rfl, a, _, rfl, .inr h2, rfl, false, rfl, iteF (q H (Same.refl _))⟩
    | key row hs t =>
      simp only [TrAt] at hT
      obtain ⟨a, ra, ha, tv, rfl, h2, _⟩ := hT
      exact ⟨_, rfl, a, _, rfl, .inr h2, rfl, false, rfl, iteF (q H (Same.refl _))⟩
    | fork gs =>
      simp only [TrAt] at hT
      simp only [Tr.wf] at hw
      obtain ⟨a, ga, vs, rfl, h2, h3, h4⟩ := hT
      refine ⟨_, rfl, a, _, rfl, .inr h2, rfl, true, rfl, iteT ?_⟩
      refine ⟨_, rfl, a, _, _, _, rfl, rfl, h2, atI_nat (j := 0) rfl, rfl, true, ?_, iteT ?_⟩
      · show V.bl (decide (V.str "fork" = V.str "fork")) = V.bl true
        rw [decide_eq_true rfl]
      exact ⟨_, rfl, a, _, _, _, rfl, rfl, h2, atI_nat (j := 1) rfl, _, rfl, ga, vs, gs, d, n, rfl, h3, h4, hn, hw.1, hw.2, fun H2 s2 => q H2 s2⟩
theorem ok_inner {f fK fG pA : Addr} {fd fdK fdG : FuncData} {k : Nat} (F : Fun K "inner_trees" "inner_trees" sInner f fd) (ms : mg "isinstance" = none) (mt : mg "tuple" = none) (mP : mg "PLACES" = some (.ref pA)) (hP : ∀ H, SqT K H pA [V.str "places"])
    (GK : FnOk P w K mg base CX0 (k + 3) fK fdK ["node", "directions", "classes"] (spIsKey K)) (kK : PySem.W.keepIn K (.ref fK) = true) (bK : Binds K fdK ["node", "directions", "classes"] []) (gK : mg "is_key" = some (.ref fK))
    (GG : FnOk P w K mg base CX0 (k + 5) fG fdG ["node", "classes"] (spIsFork K)) (kG : PySem.W.keepIn K (.ref fG) = true) (bG : Binds K fdG ["node", "classes"] []) (gG : mg "is_fork" = some (.ref fG)) : FnOk P w K mg base CX0 (k + 6) f fd ["node", "directions", "classes"] (spInner K) := by
  refine F.ok scInner (fun vs H Q E h => ?_) (fun cdv A outer s H vs Q E hr h => ?_)
  · obtain ⟨v, t, d, n, rfl, _⟩ := h
    rfl
  · obtain ⟨v, t, d, n, rfl, hT, hw, hd, hn, hdp, q⟩ := h
    have hr3 : Room (k + 3) _ := hr.mono (by omega)
    refine ⟨_, pss_cons (ps_if (pt_not (pt_val (pe_callB call_isi (by rfl) ms (by decide +kernel) (pa_cons (pv 0) (pa_cons (pe_bltn (v := .ty "tuple") (by rfl) mt (by decide +kernel) rfl) pa_nil))))) pss_never pss_nil)
      (pss_cons (ps_if (pt_cmpR (op_eqD hr.units) (pv 0) (pe_glob (v := .ref pA) (by rfl) mP rfl) (nomark _)) (pss_one (ps_ret (pe_lst pa_nil))) pss_nil)
      (pss_cons (ps_if (pt_val (pe_call GK hr3 (by rfl) gK kK bK .nil pass0 (pa_cons (pv 0) (pa_cons (pv 1) (pa_cons (pv 2) pa_nil))))) (pss_one (ps_ret (pe_lst (pa_cons (pe_ix ix_tup (pv 0) pe_int (fun _ _ => rfl)) pa_nil)))) pss_nil)
      (pss_cons (ps_if (pt_val (pe_call GG hr (by rfl) gG kG bG .nil pass0 (pa_cons (pv 0) (pa_cons (pv 2) pa_nil)))) (pss_one (ps_ret (pe_lc (own := [("group", 3)]) (g := gName 3) (te := tOp (rIxT K) (tVar 3) (tC (.int 1))) (by rfl) scInner.nd (pi_tup (pe_ix ix_tup (pv 0) pe_int (fun _ _ => rfl)))
          (blkOk_by (own := [("group", 3)]) (N := ["node", "directions", "classes", "group"]) (sc := defScope sInner) (by decide +kernel)) (fun _ _ _ _ _ => pg_name (i := 3) scInner.nd rfl (Or.inl rfl)) (fun _ _ _ _ _ => pts_nil)
          (fun _ _ _ _ _ => pe_ix ix_tup (pv 3) pe_int (fun _ _ => rfl))))) pss_nil)
      (pss_one ps_never)))), ?_⟩
    have ty : ∃ a xs, v = .ref a ∧ SqT K H a xs := by
      cases t with
      | pl =>
        simp only [TrAt] at hT
        obtain ⟨a, h1, h2⟩ := hT
        exact ⟨a, _, h1, h2⟩
      | key row hs t =>
        simp only [TrAt] at hT
        obtain ⟨a, ra, ha, tv, h1, h2, _⟩ := hT
        exact ⟨a, _, h1, h2⟩
      | fork gs =>
        simp only [TrAt] at hT
        obtain ⟨a, ga, vs, h1, h2, _⟩ := hT
        exact ⟨a, _, h1, h2⟩
    obtain ⟨a, xs, rfl, hS⟩ := ty
    refine ⟨_, rfl, _, _, _, _, true, rfl, .ty _, tyT hS, kit_ty (by decide +kernel), true, rfl, iteF ?_⟩
    refine ⟨_, rfl, t.toD, .tuple [.str "places"], hT.dp, .tup (hP H) (.cons (.str _) .nil), hdp, Tr.shaped (t := .pl) (by simp [Tr.dep]), ?_⟩
    rw [eqv_pl]
    cases t with
    | pl => exact ⟨true, rfl, iteT ⟨Nat.zero_le _, fun p np => q _ p [] (same_new np) np upd_same rfl⟩⟩
    | key row hs t =>
      refine ⟨false, rfl, iteF ?_⟩
      refine ⟨_, rfl, _, rfl, _, rfl, _, _, d, n, rfl, hT, hw, hd, hn, fun H1 s1 => ⟨true, rfl, iteT ?_⟩⟩
      simp only [TrAt] at hT
      obtain ⟨a', ra, ha, tv, h1, h2, h3, h4, h5⟩ := hT
      cases h1
      refine ⟨_, rfl, a, _, _, _, rfl, rfl, Same.sqT s1 h2, atI_nat (j := 3) rfl, (by show 1 ≤ sizeLine; decide), fun p np => ?_⟩
      exact q _ p _ (s1.trans (same_new np)) (s1.free np) upd_same ⟨tv, [], rfl, TrAt.mono (Same.tups (s1.trans (same_new np))) h5, rfl⟩
    | fork gs =>
      refine ⟨false, rfl, iteF ?_⟩
      refine ⟨_, rfl, _, rfl, _, rfl, _, _, d, n, rfl, hT, hw, hd, hn, fun H1 s1 => ⟨false, rfl, iteF ?_⟩⟩
      refine ⟨_, rfl, _, rfl, _, _, d, n, rfl, TrAt.mono (Same.tups s1) hT, hw, hn, fun H2 s2 => ⟨true, rfl, iteT ?_⟩⟩
      have s12 := s1.trans s2
      have hT2 := TrAt.mono (Same.tups s12) hT
      simp only [TrAt] at hT2
      obtain ⟨a', ga, vs, h1, h2, h3, h4⟩ := hT2
      cases h1
      refine ⟨_, rfl, a, _, _, _, rfl, rfl, h2, atI_nat (j := 1) rfl, ga, rfl, ⟨_, h3⟩, fun D nD => ?_⟩
      have hlen : vs.length = gs.trees.length := by rw [h4.len, Gs.heads_len]
      refine lc_tup (K := K) (a := ga) (xs := vs) (fun i H3 => Same H2 H3 ∧ ∃ ws, H3 D = some (.lst ws) ∧ ws.length = i ∧ TrsAt K H3 (gs.trees.take i) ws) ⟨same_new nD, [], upd_same, rfl, rfl⟩ (fun i H3 _ ⟨sm, _⟩ => Same.sqT sm h3) ?_ ?_
      · rintro i x H3 hx ⟨sm, ws, hD, hl, ht⟩
        obtain ⟨pa, ca, tv, cs, t, rfl, g1, g2, g3, g4, g5⟩ := h4.get hx
        have hi : i < vs.length := (List.getElem?_eq_some_iff.mp hx).1
        have hv12 : vs.length ≤ 1000 := by
          simp only [Tr.wf] at hw
          have e1 : ∀ l : List (List Int), (∀ c ∈ l, c ≠ []) → l.length ≤ l.flatten.length := fun l => by
            induction l with
            | nil => intro _; simp
            | cons c r ih =>
              intro hc
              have h1 := ih fun x hx => hc x (List.mem_cons_of_mem _ hx)
              have h2 : 0 < c.length := List.length_pos_iff.mpr (hc c List.mem_cons_self)
              simp only [List.flatten_cons, List.length_append, List.length_cons]
              omega
          have e2 := e1 gs.heads fun c hc => (Gs.wf_heads hw.2 c hc).1
          rw [← Gs.flat, hw.1.length_eq, rng0_len] at e2
          rw [h4.len]
          omega
        refine ⟨rfl, _, rfl, pa, _, _, _, rfl, rfl, Same.sqT sm g1, atI_nat (j := 1) rfl, ws, hD, ?_, ?_, ws ++ [tv], upd_same, ?_, ?_⟩
        · exact small1000 (by omega)
        · intro b u e
          rw [upd_ne (ne_of_none e nD)]
          exact sm b u e
        · rw [List.length_append, hl]
          rfl
        · rw [take_more g5]
          have tu : Tups K H3 (upd H3 D (.lst (ws ++ [tv]))) := fun b xs h => by
            rcases h with (h | ⟨o, h⟩) | h
            · exact .inl (.inl (by rw [upd_ne (ne_of h hD (by intro z; cases z))]; exact h))
            · exact .inl (.inr ⟨o, by rw [upd_ne (ne_of h hD (by intro z; cases z))]; exact h⟩)
            · exact .inr h
          exact TrsAt.app (TrsAt.mono tu ht) (TrAt.mono tu (TrAt.mono (Same.tups sm) g3))
      · rintro H3 ⟨sm, ws, hD, hl, ht⟩
        rw [List.take_of_length_le (by omega)] at ht
        exact q H3 D ws (s12.trans sm) (s12.free nD) hD ht
end
end Lk

namespace Lk
open PySem L2
theorem TrsAt.get {K : PySem.W.Frag} {H : Hp} : ∀ {ts : List Tr} {ws : List V} {i : Nat} {y : V}, TrsAt K H ts ws → ws[i]? = some y → ∃ t, ts[i]? = some t ∧ TrAt K H t y
  | [], _, i, y, h, e => by
    have h : _ = [] := h
    rw [h] at e
    simp at e
  | t :: r, _, 0, y, ⟨v, vr, h1, h2, h3⟩, e => by
    rw [h1] at e
    have e2 : v = y := Option.some.inj e
    exact ⟨t, rfl, e2 ▸ h2⟩
  | t :: r, _, i + 1, y, ⟨v, vr, h1, h2, h3⟩, e => by
    rw [h1] at e
    exact TrsAt.get (ts := r) (ws := vr) (i := i) h3 (by simpa using e)
theorem TrsAt.len {K : PySem.W.Frag} {H : Hp} : ∀ {ts : List Tr} {ws : List V}, TrsAt K H ts ws → ws.length = ts.length
  | [], _, h => by
    have h : _ = [] := h
    rw [h]
    rfl
  | t :: r, _, ⟨v, vr, h1, h2, h3⟩ => by
    rw [h1, List.length_cons, List.length_cons, TrsAt.len h3]
/-- the stack, its top first -/
def WR (K : PySem.W.Frag) (H : Hp) : List (Tr × Nat) → List V → Prop
  | [], ws => ws = []
  | (t, d) :: r, ws => ∃ p v wr, ws = wr ++ [.ref p] ∧ SqT K H p [v, .int d] ∧ TrAt K H t v ∧ WR K H r wr
theorem WR.mono {K : PySem.W.Frag} {H H' : Hp} (e : Tups K H H') : ∀ {l : List (Tr × Nat)} {ws : List V}, WR K H l ws → WR K H' l ws
  | [], _, h => h
  | (t, d) :: r, _, ⟨p, v, wr, h1, h2, h3, h4⟩ => ⟨p, v, wr, h1, e _ _ h2, TrAt.mono e h3, WR.mono e h4⟩
theorem WR.len {K : PySem.W.Frag} {H : Hp} : ∀ {l : List (Tr × Nat)} {ws : List V}, WR K H l ws → ws.length = l.length
  | [], _, h => by
    have h : _ = [] := h
    rw [h]
    rfl
  | (t, d) :: r, _, ⟨p, v, wr, h1, h2, h3, h4⟩ => by rw [h1, List.length_append, WR.len h4]; rfl
def sizes (l : List (Tr × Nat)) : Nat := (l.map fun q => q.1.size).sum
theorem sizes_app (a b : List (Tr × Nat)) : sizes (a ++ b) = sizes a + sizes b := by simp [sizes]
theorem Gs.sizes_trees : ∀ g : Gs, (g.trees.map Tr.size).sum = g.size
  | .nil => by simp [Gs.trees, Gs.size]
  | .cons _ t r => by simp [Gs.trees, Gs.size, Gs.sizes_trees r]
theorem Tr.size_kids : ∀ t : Tr, t.size = 1 + (t.kids.map Tr.size).sum
  | .pl => by simp [Tr.size, Tr.kids]
  | .key _ _ t => by simp [Tr.size, Tr.kids]; omega
  | .fork g => by simp [Tr.size, Tr.kids, Gs.sizes_trees g]; omega
theorem Gs.dep_trees : ∀ (g : Gs) (t : Tr), t ∈ g.trees → t.dep ≤ g.dep
  | .nil, t, h => by cases h
  | .cons c u r, t, h => by
    simp only [Gs.dep]
    rcases List.mem_cons.mp h with e | e
    · rw [e]
      omega
    · have := Gs.dep_trees r t e
      omega
theorem Tr.kid_dep {t k : Tr} (h : k ∈ t.kids) : k.dep + 1 ≤ t.dep := by
  cases t with
  | pl => cases h
  | key _ _ t =>
    simp only [Tr.kids, List.mem_singleton] at h
    subst h
    simp [Tr.dep]
  | fork g =>
    have := Gs.dep_trees g k h
    simp only [Tr.dep]
    omega
theorem Tr.kid_wf {d n : Nat} {t k : Tr} (h : k ∈ t.kids) (w : t.wf d n) : k.wf d n := by
  cases t with
  | pl => cases h
  | key _ _ t =>
    simp only [Tr.kids, List.mem_singleton] at h
    subst h
    simp only [Tr.wf] at w
    exact w.2.2.2
  | fork g =>
    simp only [Tr.wf] at w
    exact Gs.wf_trees w.2 k h
theorem Tr.size_pos (t : Tr) : 1 ≤ t.size := by
  rw [Tr.size_kids]
  omega
theorem len_sizes : ∀ l : List (Tr × Nat), l.length ≤ sizes l
  | [] => by simp [sizes]
  | q :: r => by
    have h1 := len_sizes r
    have h2 := Tr.size_pos q.1
    simp only [sizes, List.map_cons, List.sum_cons, List.length_cons] at h1 ⊢
    omega
/-- a list at o grows: tuples stay -/
theorem tups_lst {K : PySem.W.Frag} {H : Hp} {o : Addr} {xs : List V} {u : HO} (h : H o = some (.lst xs)) : Tups K H (upd H o u) := fun b ys e => by
  rcases e with (e | ⟨x, e⟩) | e
  · exact .inl (.inl (by rw [upd_ne (ne_of e h (by intro z; cases z))]; exact e))
  · exact .inl (.inr ⟨x, by rw [upd_ne (ne_of e h (by intro z; cases z))]; exact e⟩)
  · exact .inr e
theorem Same.upd_out {H H' : Hp} {o : Addr} {u : HO} (sm : Same H H') (n : H o = none) : Same H (upd H' o u) := fun b x e => by
  rw [upd_ne (ne_of_none e n)]
  exact sm b x e
def spNodes (K : PySem.W.Frag) : Sp := fun vs H Q _ => ∃ (v : V) (a : Addr) (t : Tr) (ds : List Int) (n : Nat), vs = [v, .ref a, .int 200, .int 20] ∧ TrAt K H t v ∧ SqT K H a (ds.map V.int) ∧ Divs ds ∧ ds.length ≤ 3 ∧ prodL ds = (n : Int) ∧ t.wf ds.length n ∧ t.size ≤ 200 ∧ t.dep ≤ 20 ∧
  ∀ H', Same H H' → Q (.int t.size) H'
section
variable {P : Program} {w : World} {K : PySem.W.Frag} {mg : Str → Option Value} {base : Heap}
theorem ok_nodes {f fM fI : Addr} {fd fdM fdI : FuncData} {k : Nat} (F : Fun K "count_nodes" "count_nodes" sNodes f fd) (ml : mg "len" = none)
    (GM : FnOk P w K mg base CX0 (k + 1) fM fdM ["numbers"] (spCount K)) (kM : PySem.W.keepIn K (.ref fM) = true) (bM : Binds K fdM ["numbers"] []) (gM : mg "product" = some (.ref fM))
    (GI : FnOk P w K mg base CX0 (k + 6) fI fdI ["node", "directions", "classes"] (spInner K)) (kI : PySem.W.keepIn K (.ref fI) = true) (bI : Binds K fdI ["node", "directions", "classes"] []) (gI : mg "inner_trees" = some (.ref fI)) :
    FnOk P w K mg base CX0 (k + 7) f fd ["tree", "divisors", "most_nodes", "most_depth"] (spNodes K) := by
  refine F.ok scNodes (fun vs H Q E h => ?_) (fun cdv A outer s H vs Q E hr h => ?_)
  · obtain ⟨v, a, t, ds, n, rfl, _⟩ := h
    rfl
  · obtain ⟨v, a, t, ds, n, rfl, hT, hA, hD, hd, hn, hw, hz, hdp, q⟩ := h
    have hr1 : Room (k + 1) _ := hr.mono (by omega)
    refine ⟨_, pss_cons (ps_set (i := 4) scNodes.nd rfl (.inl rfl) (pe_call GM hr1 (by rfl) gM kM bM .nil pass0 (pa_cons (pv 1) pa_nil)))
      (pss_cons (ps_set (i := 5) scNodes.nd rfl (.inl rfl) pe_int)
      (pss_cons (ps_set (i := 6) scNodes.nd rfl (.inl rfl) (pe_lst (pa_cons (pe_tup (pa_cons (pv 0) (pa_cons pe_int pa_nil))) pa_nil)))
      (pss_cons (ps_while PassesOwn.never (pt_cmpR op_gt (pe_callB call_len_seq (by rfl) ml PySem.boot_len (pa_cons (pv 6) pa_nil)) pe_int (nomark _))
        (pss_cons (ps_asg (pe_bm0 PySem.F.plainAttrs_list PySem.F.slot_list_pop PySem.F.type_list_pop mt_pop (pv 6)) (pg_tup rfl (pgs_cons (pg_name (i := 7) scNodes.nd rfl (.inl rfl)) (pgs_cons (pg_name (i := 8) scNodes.nd rfl (.inl rfl)) pgs_nil))))
        (pss_cons (ps_aug (i := 5) scNodes.nd rfl (.inl rfl) pe_int ip_add)
        (pss_cons (ps_if (PW.pt (pw_or (pt_cmpR op_gt (pv 5) (pv 2) (nomark _)) (pw_or1 (pt_cmpR op_gt (pv 8) (pv 3) (nomark _))))) pss_never pss_nil)
        (pss_one (ps_for PassesOwn.never rfl (pi_list (pe_call GI hr (by rfl) gI kI bI .nil pass0 (pa_cons (pv 7) (pa_cons (pe_callB call_len_seq (by rfl) ml PySem.boot_len (pa_cons (pv 1) pa_nil)) (pa_cons (pv 4) pa_nil))))) (pg_name (i := 9) scNodes.nd rfl (.inl rfl))
          (pss_one (ps_expr (pe_bm PySem.F.plainAttrs_list PySem.F.slot_list_append PySem.F.type_list_append mt_append (pv 6) (pa_cons (pe_tup (pa_cons (pv 9) (pa_cons (pe_op op_add (pv 8) pe_int) pa_nil))) pa_nil))))))))))
      (pss_one (ps_ret (pv 5)))))), ?_⟩
    refine ⟨_, rfl, a, ds, rfl, hA, hD, ?_⟩
    rw [hn]
    refine ⟨_, rfl, (by show 2 ≤ sizeLine; decide), fun T nT => ?_⟩
    have s1 := same_new (o := .tup [v, .int 1]) nT
    refine ⟨(by show 1 ≤ sizeLine; decide), fun o no => ?_⟩
    have s2 := s1.trans (same_new (o := .lst [.ref T]) no)
    have noH : H o = none := s1.free no
    have hn12 : n ≤ 12 := by have := hD.most; omega
    refine ⟨fun m σ H2 => ∃ (l : List (Tr × Nat)) (ws : List V) (v7 v8 v9 : Option V), σ = [some v, some (.ref a), some (.int 200), some (.int 20), some (.int n), some (.int ((t.size - sizes l : Nat) : Int)), some (.ref o), v7, v8, v9] ∧ Same H H2 ∧ H2 o = some (.lst ws) ∧ WR K H2 l ws ∧ (∀ u ∈ l, u.1.wf ds.length n ∧ u.1.dep + u.2 ≤ 21 ∧ 1 ≤ u.2) ∧ sizes l ≤ t.size ∧ m = sizes l,
      ⟨_, [(t, 1)], [.ref T], none, none, none, ?_, s2, upd_same, ?_, ?_, ?_, rfl⟩, ?_⟩
    · simp [sizes]
      rfl
    · exact ⟨T, v, [], rfl, SqT.of (by rw [upd_ne (ne_of_none upd_same no)]; exact upd_same), TrAt.mono (Same.tups s2) hT, rfl⟩
    · intro u hu
      rw [List.mem_singleton.mp hu]
      exact ⟨hw, by show t.dep + 1 ≤ 21; omega, by show 1 ≤ 1; omega⟩
    · simp [sizes]
    · rintro m σ H2 ⟨l, ws, v7, v8, v9, rfl, sm, ho, hR, hu, hsz, rfl⟩
      refine ⟨_, rfl, o, _, rfl, .inl (SqL.of ho), _, _, rfl, rfl, _, rfl, ite2 (fun e => ?_) (fun e => ?_)⟩
      · -- a turn
        have e1 : (0 : Int) < (ws.length : Int) := of_decide_eq_true e
        cases l with
        | nil =>
          have := hR.len
          simp at this
          rw [this] at e1
          exact absurd e1 (by decide)
        | cons u r =>
          obtain ⟨u, d⟩ := u
          obtain ⟨p, x, wr, rfl, hp, hx, hr2⟩ := hR
          have hu0 := hu (u, d) List.mem_cons_self
          have hu1 := Tr.deep u
          have szu := Tr.size_pos u
          have esz : sizes ((u, d) :: r) = u.size + sizes r := by simp [sizes]
          have hw1 : u.wf ds.length n := hu0.1
          have hw2 : u.dep + d ≤ 21 := hu0.2.1
          have hw3 : 1 ≤ d := hu0.2.2
          refine ⟨fun σ' H' => ∃ (l' : List (Tr × Nat)) (ws : List V) (v7 v8 v9 : Option V), σ' = [some v, some (.ref a), some (.int 200), some (.int 20), some (.int n), some (.int ((t.size - sizes l' : Nat) : Int)), some (.ref o), v7, v8, v9] ∧ Same H H' ∧ H' o = some (.lst ws) ∧ WR K H' l' ws ∧ (∀ u ∈ l', u.1.wf ds.length n ∧ u.1.dep + u.2 ≤ 21 ∧ 1 ≤ u.2) ∧ sizes l' + 1 = sizes ((u, d) :: r), fun σ' H' ⟨l', ws', y7, y8, y9, z1, z2, z3, z4, z5, z6⟩ => ⟨sizes l', by omega, l', ws', y7, y8, y9, z1, z2, z3, z4, z5, by omega, rfl⟩, ?_⟩
          -- node, depth = waiting.pop()
          have tu1 : Tups K H2 (upd H2 o (.lst wr)) := tups_lst ho
          refine ⟨_, rfl, .inl ⟨rfl, _, SqL.of ho⟩, o, _, .ref p, rfl, rfl, ho, ?_, p, [x, .int d], rfl, ?_, rfl, x, [.int d], rfl, .int d, [], rfl, rfl, ?_⟩
          · simp
          · rw [List.dropLast_concat]
            exact tu1 _ _ hp
          rw [List.dropLast_concat]
          refine ⟨_, rfl, _, _, rfl, rfl, ?_⟩
          refine ⟨_, rfl, _, rfl, _, _, rfl, rfl, false, ?_, iteF ?_⟩
          · refine congrArg V.bl (decide_eq_false ?_)
            show ¬ (200 : Int) < ((t.size - sizes ((u, d) :: r) : Nat) : Int) + 1
            omega
          refine ⟨_, rfl, _, rfl, _, _, rfl, rfl, false, ?_, iteF ?_⟩
          · refine congrArg V.bl (decide_eq_false ?_)
            omega
          have sm1 : Same H (upd H2 o (.lst wr)) := Same.upd_out sm noH
          refine ⟨_, rfl, _, rfl, a, _, rfl, .inr (Same.sqT sm1 hA), _, rfl, x, u, ds.length, n, ?_, TrAt.mono tu1 hx, hw1, hd, hn12, Tr.shaped (by omega), fun H3 c ks s3 nc hc hk => ?_⟩
          · rw [List.length_map]
            rfl
          have nco : c ≠ o := (ne_of_none upd_same nc).symm
          have ho3 := s3 _ _ (upd_same (H := H2) (a := o) (o := .lst wr))
          have klen := hk.len
          have kle : u.kids.length ≤ 200 := by
            have h1 := Tr.size_kids u
            have h2 : ∀ l : List Tr, l.length ≤ (l.map Tr.size).sum := fun l => by
              induction l with
              | nil => simp
              | cons y r ih =>
                have := Tr.size_pos y
                simp only [List.length_cons, List.map_cons, List.sum_cons]
                omega
            have := h2 u.kids
            omega
          refine ⟨c, rfl, ⟨_, SqL.of hc⟩, for_list (K := K) (a := c) (xs := ks) (fun i σ' H' => ∃ (ws' : List V) (v9 : Option V), σ' = [some v, some (.ref a), some (.int 200), some (.int 20), some (.int n), some (.int (((t.size - sizes ((u, d) :: r) : Nat) : Int) + 1)), some (.ref o), some x, some (.int d), v9] ∧ Same H H' ∧ H' c = some (.lst ks) ∧ TrsAt K H' u.kids ks ∧ H' o = some (.lst ws') ∧ WR K H' (((u.kids.take i).reverse.map fun y => (y, d + 1)) ++ r) ws')
            ⟨wr, v9, rfl, sm1.trans s3, hc, hk, ho3, by simpa using WR.mono (fun b ys e => Same.sqT s3 (tu1 b ys e)) hr2⟩ (fun i σ' H' _ ⟨_, _, _, _, z, _⟩ => SqL.of z) ?_ ?_⟩
          · rintro i y σ' H' hy ⟨ws', v9', rfl, sm', hc', hk', ho', hR'⟩
            obtain ⟨ky, hky, hyT⟩ := hk'.get hy
            refine ⟨_, rfl, .inl ⟨rfl, _, SqL.of ho'⟩, _, rfl, _, rfl, _, _, rfl, rfl, (by show 2 ≤ sizeLine; decide), fun T2 nT2 => ?_⟩
            have noT2 : o ≠ T2 := ne_of_none ho' nT2
            have ho2 : (upd H' T2 (.tup [y, .int ((d : Int) + 1)])) o = some (.lst ws') := by
              rw [upd_ne noT2]
              exact ho'
            have hi : i < ks.length := (List.getElem?_eq_some_iff.mp hy).1
            have lR := hR'.len
            refine ⟨o, _, _, rfl, rfl, ho2, ?_, ?_⟩
            · rw [lR]
              simp only [List.length_append, List.length_map, List.length_reverse, List.length_take]
              have := len_sizes r
              exact small1000 (by omega)
            · have tuA : Tups K H' (upd H' T2 (.tup [y, .int ((d : Int) + 1)])) := Same.tups (same_new nT2)
              have tuB : Tups K (upd H' T2 (.tup [y, .int ((d : Int) + 1)])) (upd (upd H' T2 (.tup [y, .int ((d : Int) + 1)])) o (.lst (ws' ++ [.ref T2]))) := tups_lst ho2
              have tuC : Tups K H' (upd (upd H' T2 (.tup [y, .int ((d : Int) + 1)])) o (.lst (ws' ++ [.ref T2]))) := fun b ys e => tuB b ys (tuA b ys e)
              refine ⟨_, _, rfl, Same.upd_out (sm'.trans (same_new nT2)) noH, ?_, TrsAt.mono tuC hk', upd_same, ?_⟩
              · rw [upd_ne nco, upd_ne (ne_of_none hc' nT2)]
                exact hc'
              · rw [take_more hky, List.reverse_append, List.map_append, List.append_assoc]
                refine ⟨T2, y, ws', rfl, tuB _ _ (SqT.of upd_same), TrAt.mono tuC hyT, WR.mono tuC hR'⟩
          · rintro σ' H' ⟨ws', v9', rfl, sm', hc', hk', ho', hR'⟩
            rw [List.take_of_length_le (by omega)] at hR'
            have es2 : sizes ((u.kids.reverse.map fun y => (y, d + 1)) ++ r) + 1 = sizes ((u, d) :: r) := by
              rw [sizes_app, esz, Tr.size_kids u]
              have : sizes (u.kids.reverse.map fun y => (y, d + 1)) = (u.kids.map Tr.size).sum := by
                unfold sizes
                rw [List.map_map, List.map_reverse]
                exact List.sum_reverse _
              omega
            refine ⟨_, ws', some x, some (.int d), v9', ?_, sm', ho', hR', ?_, es2⟩
            · rw [show t.size - sizes ((u.kids.reverse.map fun y => (y, d + 1)) ++ r) = (t.size - sizes ((u, d) :: r)) + 1 by omega]
              rfl
            · intro y hy
              rcases List.mem_append.mp hy with h1 | h1
              · obtain ⟨y', hy', rfl⟩ := List.mem_map.mp h1
                have hm : y' ∈ u.kids := List.mem_reverse.mp hy'
                have := Tr.kid_dep hm
                exact ⟨Tr.kid_wf hm hw1, by show y'.dep + (d + 1) ≤ 21; omega, by show 1 ≤ d + 1; omega⟩
              · exact hu y (List.mem_cons_of_mem _ h1)
      · -- the end
        have e1 : ¬ (0 : Int) < (ws.length : Int) := fun z => e (decide_eq_true z)
        have l0 : l = [] := by
          have := hR.len
          cases l with
          | nil => rfl
          | cons y r => rw [this, List.length_cons] at e1; omega
        subst l0
        refine ⟨_, rfl, ?_⟩
        have e2 : ((t.size - sizes [] : Nat) : Int) = (t.size : Int) := by simp [sizes]
        rw [e2]
        exact q H2 sm
end
end Lk

namespace Lk
open PySem L2
/-! ### the numbers of a place along a tree -/
mutual
def pth : Tr → Int → List Int → List Int
  | .pl, _, _ => []
  | .key row hs t, c, x => (dotL row x + hs.getD c.toNat 0) :: pth t c x
  | .fork gs, c, x => pthG gs 0 c x
def pthG : Gs → Int → Int → List Int → List Int
  | .nil, _, _, _ => []
  | .cons cs t r, i, c, x => if c ∈ cs then i :: pth t c x else pthG r (i + 1) c x
end
theorem pthG_at : ∀ {g : Gs} {j : Nat} {cs : List Int} {t : Tr} (i c : Int) (x : List Int), g.heads[j]? = some cs → g.trees[j]? = some t → c ∈ cs → (∀ m cs', m < j → g.heads[m]? = some cs' → c ∉ cs') → pthG g i c x = (i + j) :: pth t c x
  | .nil, j, cs, t, i, c, x, h, _, _, _ => by simp [Gs.heads] at h
  | .cons c0 t0 r, 0, cs, t, i, c, x, h1, h2, h3, _ => by
    have e1 : c0 = cs := Option.some.inj h1
    have e2 : t0 = t := Option.some.inj h2
    subst e1 e2
    simp only [pthG]
    rw [if_pos h3]
    simp
  | .cons c0 t0 r, j + 1, cs, t, i, c, x, h1, h2, h3, h4 => by
    have h0 : c ∉ c0 := h4 0 c0 (by omega) rfl
    simp only [pthG]
    rw [if_neg h0, pthG_at (g := r) (j := j) (i + 1) c x (by simpa [Gs.heads] using h1) (by simpa [Gs.trees] using h2) h3 (fun m cs' hm hh => h4 (m + 1) cs' (by omega) (by simpa [Gs.heads] using hh))]
    congr 1
    omega
theorem first_of {c : Int} : ∀ {l : List (List Int)}, c ∈ l.flatten → ∃ (j : Nat) (cs : List Int), l[j]? = some cs ∧ c ∈ cs ∧ ∀ m cs', m < j → l[m]? = some cs' → c ∉ cs'
  | [], h => by simp at h
  | x :: r, h => by
    by_cases hx : c ∈ x
    · exact ⟨0, x, rfl, hx, fun m cs' hm => absurd hm (by omega)⟩
    · have h2 : c ∈ r.flatten := by
        rw [List.flatten_cons] at h
        rcases List.mem_append.mp h with e | e
        · exact absurd e hx
        · exact e
      obtain ⟨j, cs, a, b, d⟩ := first_of h2
      refine ⟨j + 1, cs, by simpa using a, b, fun m cs' hm hh => ?_⟩
      cases m with
      | zero =>
        have e : x = cs' := by simpa using hh
        exact e ▸ hx
      | succ m => exact d m cs' (by omega) (by simpa using hh)
theorem inV_ints (c : Int) : ∀ cs : List Int, inV (.int c) (cs.map V.int) = decide (c ∈ cs)
  | [] => by simp [inV]
  | x :: r => by
    have ih := inV_ints c r
    unfold inV at ih ⊢
    rw [List.map_cons, List.any_cons, ih]
    show ((x == c) || decide (c ∈ r)) = decide (c ∈ x :: r)
    by_cases e : c = x
    · subst e
      simp
    · have e' : ¬ x = c := fun z => e z.symm
      by_cases e2 : c ∈ r <;> simp [e, e', e2]
theorem mem_rng0 {c : Int} {n : Nat} (h0 : 0 ≤ c) (h1 : c < n) : c ∈ rng0 n := by
  unfold rng0
  exact List.mem_map.mpr ⟨c.toNat, List.mem_range.mpr (by omega), by omega⟩
def spGix (K : PySem.W.Frag) : Sp := fun vs H Q _ => ∃ (a : Addr) (ws : List V) (gs : Gs) (c : Int) (j : Nat) (cs : List Int), vs = [.ref a, .int c] ∧ SqT K H a ws ∧ GsAt K H gs ws ∧ ws.length ≤ 1000 ∧ gs.heads[j]? = some cs ∧ c ∈ cs ∧ (∀ m cs', m < j → gs.heads[m]? = some cs' → c ∉ cs') ∧
  ∀ H', Same H H' → Q (.int j) H'
def spTPath (K : PySem.W.Frag) : Sp := fun vs H Q _ => ∃ (v : V) (a c : Addr) (t : Tr) (ds ps : List Int) (n : Nat), vs = [v, .ref a, .ref c] ∧ TrAt K H t v ∧ SqT K H a (ds.map V.int) ∧ SqT K H c (ps.map V.int) ∧ ds.length = ps.length ∧ Divs ds ∧ ds.length ≤ 3 ∧ prodL ds = (n : Int) ∧ t.wf ds.length n ∧ t.dep ≤ 20 ∧
  ∀ H' p, Same H H' → H' p = some (.tup ((pth t (cls ds ps) ps).map V.int)) → Q (.ref p) H'
section
variable {P : Program} {w : World} {K : PySem.W.Frag} {mg : Str → Option Value} {base : Heap}
theorem ok_gix {f : Addr} {fd : FuncData} {k : Nat} (F : Fun K "group_index" "group_index" sGix f fd) : FnOk P w K mg base CX0 (k + 1) f fd ["groups", "number"] (spGix K) := by
  refine F.ok scGix (fun vs H Q E h => ?_) (fun cdv A outer s H vs Q E hr h => ?_)
  · obtain ⟨a, ws, gs, c, j, cs, rfl, _⟩ := h
    rfl
  · obtain ⟨a, ws, gs, c, j, cs, rfl, hS, hG, hl, hj, hc, hf, q⟩ := h
    refine ⟨_, pss_one (ps_ret (pe_bm PySem.F.plainAttrs_list PySem.F.slot_list_index PySem.F.type_list_index mt_index (pe_lc (own := [("group", 2)]) (g := gName 2) (te := tOp (rIn K false) (tVar 1) (tOp (rIxT K) (tVar 2) (tC (.int 0)))) (by rfl) scGix.nd (pi_tup (pv 0))
      (blkOk_by (own := [("group", 2)]) (N := ["groups", "number", "group"]) (sc := defScope sGix) (by decide +kernel)) (fun _ _ _ _ _ => pg_name (i := 2) scGix.nd rfl (Or.inl rfl)) (fun _ _ _ _ _ => pts_nil)
      (fun _ _ _ _ _ => pe_cmpR op_in_seq (pv 1) (pe_ix ix_tup (pv 2) pe_int (fun _ _ => rfl)) (by rfl))) (pa_cons pe_bl pa_nil))), ?_⟩
    refine ⟨_, rfl, a, rfl, ⟨_, hS⟩, fun D nD => ?_⟩
    refine lc_tup (K := K) (a := a) (xs := ws) (fun i H2 => Same H H2 ∧ H2 D = some (.lst ((gs.heads.take i).map fun cs => V.bl (decide (c ∈ cs))))) ⟨same_new nD, upd_same⟩ (fun i H2 _ ⟨sm, _⟩ => Same.sqT sm hS) ?_ ?_
    · rintro i x H2 hx ⟨sm, hD⟩
      obtain ⟨pa, ca, tv, cs', t, rfl, g1, g2, g3, g4, g5⟩ := hG.get hx
      have hi : i < ws.length := (List.getElem?_eq_some_iff.mp hx).1
      refine ⟨rfl, _, rfl, _, rfl, pa, _, _, _, rfl, rfl, Same.sqT sm g1, atI_nat (j := 0) rfl, ca, _, rfl, .inr (Same.sqT sm g2), rfl, ?_, _, hD, ?_, ?_, ?_⟩
      · rw [List.all_eq_true]
        intro y hy
        obtain ⟨z, _, rfl⟩ := List.mem_map.mp hy
        rfl
      · rw [List.length_map]
        exact small1000 (Nat.le_trans (List.length_take_le _ _) (by omega))
      · intro b u e
        rw [upd_ne (ne_of_none e nD)]
        exact sm b u e
      · rw [upd_same, take_more g4, List.map_append]
        show some (HO.lst (_ ++ [V.bl (inV (.int c) (cs'.map V.int))])) = _
        rw [inV_ints]
        rfl
    · rintro H2 ⟨sm, hD⟩
      rw [List.take_of_length_le (by rw [hG.len]; exact Nat.le_refl _)] at hD
      refine ⟨.inl ⟨rfl, _, SqL.of hD⟩, D, _, .bl true, j, .bl true, rfl, rfl, SqL.of hD, rfl, ?_, ?_, rfl, ?_, q H2 sm⟩
      · rw [List.all_eq_true]
        intro y hy
        obtain ⟨z, _, rfl⟩ := List.mem_map.mp hy
        rfl
      · rw [List.getElem?_map, hj]
        show some (V.bl (decide (c ∈ cs))) = _
        rw [decide_eq_true hc]
      · intro m z hm hz
        rw [List.getElem?_map] at hz
        cases e : gs.heads[m]? with
        | none =>
          rw [e] at hz
          cases hz
        | some cs' =>
          rw [e] at hz
          have e2 : z = V.bl (decide (c ∈ cs')) := (Option.some.inj hz).symm
          rw [e2, decide_eq_false (hf m cs' hm e)]
          rfl
theorem ok_tpath {f fC fD fG : Addr} {fd fdC fdD fdG : FuncData} {k : Nat} (F : Fun K "tree_path" "tree_path" sPath f fd) (mt : mg "tuple" = none)
    (GC : FnOk P w K mg base CX0 (k + 1) fC fdC ["divisors", "place"] (spClassAt K)) (kC : PySem.W.keepIn K (.ref fC) = true) (bC : Binds K fdC ["divisors", "place"] []) (gC : mg "class_at" = some (.ref fC))
    (GD : FnOk P w K mg base CX0 (k + 1) fD fdD ["row", "place"] (spDot K)) (kD : PySem.W.keepIn K (.ref fD) = true) (bD : Binds K fdD ["row", "place"] []) (gD : mg "dot" = some (.ref fD))
    (GG : FnOk P w K mg base CX0 (k + 1) fG fdG ["groups", "number"] (spGix K)) (kG : PySem.W.keepIn K (.ref fG) = true) (bG : Binds K fdG ["groups", "number"] []) (gG : mg "group_index" = some (.ref fG)) :
    FnOk P w K mg base CX0 (k + 2) f fd ["tree", "divisors", "place"] (spTPath K) := by
  refine F.ok scPath (fun vs H Q E h => ?_) (fun cdv A outer s H vs Q E hr h => ?_)
  · obtain ⟨v, a, c, t, ds, ps, n, rfl, _⟩ := h
    rfl
  · obtain ⟨v, a, c, t, ds, ps, n, rfl, hT, hA, hC, hl, hD, hd, hn, hw, hdp, q⟩ := h
    refine ⟨_, pss_cons (ps_set (i := 3) scPath.nd rfl (.inl rfl) (pe_call GC hr (by rfl) gC kC bC .nil pass0 (pa_cons (pv 1) (pa_cons (pv 2) pa_nil))))
      (pss_cons (ps_set (i := 4) scPath.nd rfl (.inl rfl) (pe_lst pa_nil))
      (pss_cons (ps_while PassesOwn.never (pt_cmpR op_ne (pe_ix ix_tup (pv 0) pe_int (fun _ _ => rfl)) pe_str (nomark _))
        (pss_one (ps_if (pt_cmpR op_eq (pe_ix ix_tup (pv 0) pe_int (fun _ _ => rfl)) pe_str (nomark _))
          (pss_cons (ps_expr (pe_bm PySem.F.plainAttrs_list PySem.F.slot_list_append PySem.F.type_list_append mt_append (pv 4) (pa_cons (pe_op op_add (pe_call GD hr (by rfl) gD kD bD .nil pass0 (pa_cons (pe_ix ix_tup (pv 0) pe_int (fun _ _ => rfl)) (pa_cons (pv 2) pa_nil))) (pe_ix ix_tup (pe_ix ix_tup (pv 0) pe_int (fun _ _ => rfl)) (pv 3) (fun _ _ => rfl))) pa_nil)))
            (pss_one (ps_set (i := 0) scPath.nd rfl (.inl rfl) (pe_ix ix_tup (pv 0) pe_int (fun _ _ => rfl)))))
          (pss_cons (ps_set (i := 5) scPath.nd rfl (.inl rfl) (pe_call GG hr (by rfl) gG kG bG .nil pass0 (pa_cons (pe_ix ix_tup (pv 0) pe_int (fun _ _ => rfl)) (pa_cons (pv 3) pa_nil))))
            (pss_cons (ps_expr (pe_bm PySem.F.plainAttrs_list PySem.F.slot_list_append PySem.F.type_list_append mt_append (pv 4) (pa_cons (pv 5) pa_nil)))
            (pss_one (ps_set (i := 0) scPath.nd rfl (.inl rfl) (pe_ix ix_tup (pe_ix ix_tup (pe_ix ix_tup (pv 0) pe_int (fun _ _ => rfl)) (pv 5) (fun _ _ => rfl)) pe_int (fun _ _ => rfl)))))))))
      (pss_one (ps_ret (pe_callTy call_tuple_of (by rfl) mt (by decide +kernel) (pa_cons (pv 4) pa_nil)))))), ?_⟩
    have bd := cls_bound hl hD.one (ds.zip ps).length
    rw [List.take_length, List.take_of_length_le (by rw [List.length_zip]; omega)] at bd
    have b0 : 0 ≤ cls ds ps := bd.1
    have b1 : cls ds ps < n := by have := bd.2; rw [hn] at this; exact this
    refine ⟨_, rfl, _, rfl, a, c, ds, ps, rfl, hA, hC, hl, hD, fun H1 sm1 => ?_⟩
    refine ⟨Nat.zero_le _, fun o no => ?_⟩
    have noH : H o = none := sm1.free no
    have sm2 := sm1.trans (same_new (o := .lst []) no)
    refine ⟨fun m σ H2 => ∃ (u : Tr) (x : V) (acc : List Int) (v5 : Option V), σ = [some x, some (.ref a), some (.ref c), some (.int (cls ds ps)), some (.ref o), v5] ∧ Same H H2 ∧ H2 o = some (.lst (acc.map V.int)) ∧ TrAt K H2 u x ∧ u.wf ds.length n ∧ pth t (cls ds ps) ps = acc ++ pth u (cls ds ps) ps ∧ acc.length + u.dep ≤ 30 ∧ m = u.dep,
      ⟨_, t, v, [], none, rfl, sm2, upd_same, TrAt.mono (Same.tups sm2) hT, hw, rfl, by simp; omega, rfl⟩, ?_⟩
    rintro m σ H2 ⟨u, x, acc, v5, rfl, sm, ho, hU, hwu, ep, hlen, rfl⟩
    have udp := (Tr.deep u).2
    have alen : (acc.map V.int).length < sizeLine := by
      rw [List.length_map]
      exact small1000 (by omega)
    cases u with
    | pl =>
      simp only [TrAt] at hU
      obtain ⟨p, rfl, h2⟩ := hU
      refine ⟨_, rfl, p, _, _, _, rfl, rfl, h2, atI_nat (j := 0) rfl, rfl, false, ?_, iteF ?_⟩
      · show V.bl (!decide (V.str "places" = V.str "places")) = V.bl false
        rw [decide_eq_true rfl]
        rfl
      refine ⟨_, rfl, o, _, rfl, .inl ⟨SqL.of ho, fun r nr => ?_⟩⟩
      refine q _ r (sm.trans (same_new nr)) ?_
      rw [upd_same, ep]
      simp [pth]
    | key row hs u =>
      simp only [TrAt] at hU
      simp only [Tr.wf] at hwu
      obtain ⟨p, ra, ha, tv, rfl, h2, h3, h4, h5⟩ := hU
      refine ⟨_, rfl, p, _, _, _, rfl, rfl, h2, atI_nat (j := 0) rfl, rfl, true, ?_, iteT ?_⟩
      · show V.bl (!decide (V.str "key" = V.str "places")) = V.bl true
        rw [decide_eq_false (by decide +kernel)]
        rfl
      refine ⟨fun σ' H' => ∃ (u' : Tr) (x : V) (acc : List Int) (v5 : Option V), σ' = [some x, some (.ref a), some (.ref c), some (.int (cls ds ps)), some (.ref o), v5] ∧ Same H H' ∧ H' o = some (.lst (acc.map V.int)) ∧ TrAt K H' u' x ∧ u'.wf ds.length n ∧ pth t (cls ds ps) ps = acc ++ pth u' (cls ds ps) ps ∧ acc.length + u'.dep ≤ 30 ∧ u'.dep < (Tr.key row hs u).dep,
        fun σ' H' ⟨u', y1, y2, y3, z1, z2, z3, z4, z5, z6, z7, z8⟩ => ⟨u'.dep, z8, u', y1, y2, y3, z1, z2, z3, z4, z5, z6, z7, rfl⟩, ?_⟩
      refine ⟨_, rfl, p, _, _, _, rfl, rfl, h2, atI_nat (j := 0) rfl, rfl, true, ?_, iteT ?_⟩
      · show V.bl (decide (V.str "key" = V.str "key")) = V.bl true
        rw [decide_eq_true rfl]
      have hcn : (cls ds ps).toNat < hs.length := by omega
      have hat : atI (hs.map V.int) (cls ds ps) = some (.int (hs.getD (cls ds ps).toNat 0)) := by
        refine at_of (j := (cls ds ps).toNat) (by omega) ?_
        rw [List.getElem?_map, List.getElem?_eq_getElem hcn, List.getD_eq_getElem?_getD, List.getElem?_eq_getElem hcn]
        rfl
      refine ⟨_, rfl, .inl ⟨rfl, _, SqL.of ho⟩, _, rfl, p, _, _, _, rfl, rfl, h2, atI_nat (j := 1) rfl, _, rfl, ra, c, row, ps, rfl, h3, Same.sqT sm hC, by omega, by omega, hwu.2.2.1, fun H3 s3 => ?_⟩
      refine ⟨_, rfl, p, _, _, _, rfl, rfl, Same.sqT s3 h2, atI_nat (j := 2) rfl, _, rfl, ha, _, _, _, rfl, rfl, Same.sqT s3 h4, hat, _, _, rfl, rfl, o, _, _, rfl, rfl, s3 _ _ ho, alen, ?_⟩
      have tu : Tups K H3 (upd H3 o (.lst (acc.map V.int ++ [.int (dotL row ps + hs.getD (cls ds ps).toNat 0)]))) := tups_lst (s3 _ _ ho)
      refine ⟨_, rfl, p, _, _, _, rfl, rfl, tu _ _ (Same.sqT s3 h2), atI_nat (j := 3) rfl, ?_⟩
      refine ⟨u, tv, acc ++ [dotL row ps + hs.getD (cls ds ps).toNat 0], _, rfl, Same.upd_out (sm.trans s3) noH, ?_, TrAt.mono tu (TrAt.mono (Same.tups s3) h5), hwu.2.2.2, ?_, ?_, ?_⟩
      · rw [upd_same, List.map_append]
        rfl
      · rw [ep, List.append_assoc]
        simp only [pth]
        rfl
      · simp only [Tr.dep] at hlen
        rw [List.length_append]
        simp
        omega
      · simp [Tr.dep]
    | fork gs =>
      simp only [TrAt] at hU
      simp only [Tr.wf] at hwu
      obtain ⟨p, ga, ws, rfl, h2, h3, h4⟩ := hU
      refine ⟨_, rfl, p, _, _, _, rfl, rfl, h2, atI_nat (j := 0) rfl, rfl, true, ?_, iteT ?_⟩
      · show V.bl (!decide (V.str "fork" = V.str "places")) = V.bl true
        rw [decide_eq_false (by decide +kernel)]
        rfl
      refine ⟨fun σ' H' => ∃ (u' : Tr) (x : V) (acc : List Int) (v5 : Option V), σ' = [some x, some (.ref a), some (.ref c), some (.int (cls ds ps)), some (.ref o), v5] ∧ Same H H' ∧ H' o = some (.lst (acc.map V.int)) ∧ TrAt K H' u' x ∧ u'.wf ds.length n ∧ pth t (cls ds ps) ps = acc ++ pth u' (cls ds ps) ps ∧ acc.length + u'.dep ≤ 30 ∧ u'.dep < (Tr.fork gs).dep,
        fun σ' H' ⟨u', y1, y2, y3, z1, z2, z3, z4, z5, z6, z7, z8⟩ => ⟨u'.dep, z8, u', y1, y2, y3, z1, z2, z3, z4, z5, z6, z7, rfl⟩, ?_⟩
      refine ⟨_, rfl, p, _, _, _, rfl, rfl, h2, atI_nat (j := 0) rfl, rfl, false, ?_, iteF ?_⟩
      · show V.bl (decide (V.str "fork" = V.str "key")) = V.bl false
        rw [decide_eq_false (by decide +kernel)]
      obtain ⟨j, cs, hj, hc, hf⟩ := first_of (c := cls ds ps) (l := gs.heads) (by
        rw [← Gs.flat]
        exact hwu.1.mem_iff.mpr (mem_rng0 b0 b1))
      have hn12 : n ≤ 12 := by have := hD.most; omega
      have hlw : ws.length ≤ 1000 := by
        have e1 : ∀ l : List (List Int), (∀ c ∈ l, c ≠ []) → l.length ≤ l.flatten.length := fun l => by
          induction l with
          | nil => intro _; simp
          | cons c r ih =>
            intro hc
            have h1 := ih fun x hx => hc x (List.mem_cons_of_mem _ hx)
            have h2 : 0 < c.length := List.length_pos_iff.mpr (hc c List.mem_cons_self)
            simp only [List.flatten_cons, List.length_append, List.length_cons]
            omega
        have e2 := e1 gs.heads fun c hc => (Gs.wf_heads hwu.2 c hc).1
        rw [← Gs.flat, hwu.1.length_eq, rng0_len] at e2
        rw [h4.len]
        omega
      have hjl : j < gs.heads.length := (List.getElem?_eq_some_iff.mp hj).1
      have hjw : j < ws.length := by rw [h4.len]; exact hjl
      obtain ⟨pa, ca, tv, cs', u, hy, g1, g2, g3, g4, g5⟩ := h4.get (List.getElem?_eq_getElem hjw)
      refine ⟨_, rfl, p, _, _, _, rfl, rfl, h2, atI_nat (j := 1) rfl, _, rfl, ga, ws, gs, _, j, cs, rfl, h3, h4, hlw, hj, hc, hf, fun H3 s3 => ?_⟩
      refine ⟨_, rfl, .inl ⟨rfl, _, SqL.of (s3 _ _ ho)⟩, _, rfl, o, _, _, rfl, rfl, s3 _ _ ho, alen, ?_⟩
      have tu : Tups K H3 (upd H3 o (.lst (acc.map V.int ++ [.int (j : Int)]))) := tups_lst (s3 _ _ ho)
      have tu2 : Tups K H2 (upd H3 o (.lst (acc.map V.int ++ [.int (j : Int)]))) := fun b ys e => tu b ys (Same.sqT s3 e)
      refine ⟨_, rfl, p, _, _, _, rfl, rfl, tu2 _ _ h2, atI_nat (j := 1) rfl, _, rfl, ga, ws, _, .ref pa, rfl, rfl, tu2 _ _ h3, at_of (j := j) rfl (by rw [List.getElem?_eq_getElem hjw, hy]), pa, _, _, _, rfl, rfl, tu2 _ _ g1, atI_nat (j := 1) rfl, ?_⟩
      have mt := List.mem_of_getElem? g5
      refine ⟨u, tv, acc ++ [(j : Int)], _, rfl, Same.upd_out (sm.trans s3) noH, ?_, TrAt.mono tu2 g3, Gs.wf_trees hwu.2 u mt, ?_, ?_, ?_⟩
      · rw [upd_same, List.map_append]
        rfl
      · rw [ep, List.append_assoc]
        simp only [pth]
        rw [pthG_at 0 _ _ hj g5 hc hf]
        simp
      · have := Gs.dep_trees gs u mt
        simp only [Tr.dep] at hlen
        rw [List.length_append]
        simp
        omega
      · have := Gs.dep_trees gs u mt
        simp only [Tr.dep]
        omega
end
end Lk

namespace Lk
open PySem L2
def HdsAt (K : PySem.W.Frag) (H : Hp) : List (List Int) → List V → Prop
  | [], ws => ws = []
  | c :: r, ws => ∃ a wr, ws = .ref a :: wr ∧ SqT K H a (c.map V.int) ∧ HdsAt K H r wr
theorem HdsAt.mono {K : PySem.W.Frag} {H H' : Hp} (e : Tups K H H') : ∀ {l : List (List Int)} {ws : List V}, HdsAt K H l ws → HdsAt K H' l ws
  | [], _, h => h
  | c :: r, _, ⟨a, wr, h1, h2, h3⟩ => ⟨a, wr, h1, e _ _ h2, HdsAt.mono e h3⟩
theorem HdsAt.app {K : PySem.W.Frag} {H : Hp} {c : List Int} {a : Addr} : ∀ {l : List (List Int)} {ws : List V}, HdsAt K H l ws → SqT K H a (c.map V.int) → HdsAt K H (l ++ [c]) (ws ++ [.ref a])
  | [], _, h, q => by
    have h : _ = [] := h
    subst h
    exact ⟨a, [], rfl, q, rfl⟩
  | x :: r, _, ⟨a', wr, h1, h2, h3⟩, q => ⟨a', wr ++ [.ref a], by rw [h1]; rfl, h2, HdsAt.app h3 q⟩
theorem HdsAt.get {K : PySem.W.Frag} {H : Hp} : ∀ {l : List (List Int)} {ws : List V} {i : Nat} {y : V}, HdsAt K H l ws → ws[i]? = some y → ∃ c a, l[i]? = some c ∧ y = .ref a ∧ SqT K H a (c.map V.int)
  | [], _, i, y, h, e => by
    have h : _ = [] := h
    rw [h] at e
    simp at e
  | c :: r, _, 0, y, ⟨a, wr, h1, h2, h3⟩, e => by
    rw [h1] at e
    exact ⟨c, a, rfl, (Option.some.inj e).symm, h2⟩
  | c :: r, _, i + 1, y, ⟨a, wr, h1, h2, h3⟩, e => by
    rw [h1] at e
    exact HdsAt.get (l := r) (ws := wr) (i := i) h3 (by simpa using e)
theorem HdsAt.len {K : PySem.W.Frag} {H : Hp} : ∀ {l : List (List Int)} {ws : List V}, HdsAt K H l ws → ws.length = l.length
  | [], _, h => by
    have h : _ = [] := h
    rw [h]
    rfl
  | c :: r, _, ⟨a, wr, h1, h2, h3⟩ => by rw [h1, List.length_cons, List.length_cons, HdsAt.len h3]
/-! ### the parts of the classes by marks -/
def sel (marks : List Int) (n : Nat) (m : Int) : List Int := (rng0 n).filter fun i => decide (marks.getD i.toNat 9 = m)
theorem pm2 {x : Int} {a b c : List Int} : (a ++ (b ++ x :: c)).Perm (x :: (a ++ (b ++ c))) := (List.Perm.append_left a List.perm_middle).trans List.perm_middle
theorem pm3 {x : Int} {a b c d : List Int} : (a ++ (b ++ (c ++ x :: d))).Perm (x :: (a ++ (b ++ (c ++ d)))) := (List.Perm.append_left a pm2).trans List.perm_middle
theorem pm4 {x : Int} {a b c d e : List Int} : (a ++ (b ++ (c ++ (d ++ x :: e)))).Perm (x :: (a ++ (b ++ (c ++ (d ++ e))))) := (List.Perm.append_left a pm3).trans List.perm_middle
theorem five {f : Int → Int} : ∀ l : List Int, (∀ x ∈ l, 0 ≤ f x ∧ f x < 5) → (([1, 4, 0, 3, 2] : List Int).map fun m => l.filter fun i => decide (f i = m)).flatten.Perm l
  | [], _ => by simp
  | x :: r, h => by
    have ih := five (f := f) r fun y hy => h y (List.mem_cons_of_mem _ hy)
    have hx := h x List.mem_cons_self
    simp only [List.map_cons, List.map_nil, List.flatten_cons, List.flatten_nil, List.append_nil] at ih ⊢
    have hc : f x = 0 ∨ f x = 1 ∨ f x = 2 ∨ f x = 3 ∨ f x = 4 := by omega
    rcases hc with e | e | e | e | e
    · simp only [List.filter_cons, e]
      simp only [show ((0 : Int) = 1) = False by simp, show ((0 : Int) = 4) = False by simp, show ((0 : Int) = 3) = False by simp, show ((0 : Int) = 2) = False by simp, decide_false, decide_true, if_true, Bool.false_eq_true, if_false]
      refine List.Perm.trans ?_ (List.Perm.cons x ih)
      exact pm2
    · simp only [List.filter_cons, e]
      simp only [show ((1 : Int) = 0) = False by simp, show ((1 : Int) = 4) = False by simp, show ((1 : Int) = 3) = False by simp, show ((1 : Int) = 2) = False by simp, decide_false, decide_true, if_true, Bool.false_eq_true, if_false]
      exact List.Perm.cons x ih
    · simp only [List.filter_cons, e]
      simp only [show ((2 : Int) = 0) = False by simp, show ((2 : Int) = 4) = False by simp, show ((2 : Int) = 3) = False by simp, show ((2 : Int) = 1) = False by simp, decide_false, decide_true, if_true, Bool.false_eq_true, if_false]
      refine List.Perm.trans ?_ (List.Perm.cons x ih)
      exact pm4
    · simp only [List.filter_cons, e]
      simp only [show ((3 : Int) = 0) = False by simp, show ((3 : Int) = 4) = False by simp, show ((3 : Int) = 2) = False by simp, show ((3 : Int) = 1) = False by simp, decide_false, decide_true, if_true, Bool.false_eq_true, if_false]
      refine List.Perm.trans ?_ (List.Perm.cons x ih)
      exact pm3
    · simp only [List.filter_cons, e]
      simp only [show ((4 : Int) = 0) = False by simp, show ((4 : Int) = 3) = False by simp, show ((4 : Int) = 2) = False by simp, show ((4 : Int) = 1) = False by simp, decide_false, decide_true, if_true, Bool.false_eq_true, if_false]
      refine List.Perm.trans ?_ (List.Perm.cons x ih)
      exact List.perm_middle
theorem flat_ne : ∀ l : List (List Int), (l.filter fun c => decide (c ≠ [])).flatten = l.flatten
  | [] => rfl
  | c :: r => by
    have ih := flat_ne r
    cases c with
    | nil =>
      rw [List.filter_cons, decide_eq_false (by simp), if_neg (by decide), ih]
      rfl
    | cons x c =>
      rw [List.filter_cons, decide_eq_true (by simp), if_pos rfl, List.flatten_cons, List.flatten_cons, ih]
theorem rng0_lt (n : Nat) : (rng0 n).Pairwise (· < ·) := by
  unfold rng0
  rw [List.pairwise_map]
  exact List.Pairwise.imp (fun h => by omega) (List.pairwise_lt_range (n := n))
theorem rng0_get {n i : Nat} (h : i < n) : (rng0 n)[i]? = some (i : Int) := by
  unfold rng0
  rw [List.getElem?_map, List.getElem?_range h]
  rfl
theorem rng0_take {n i : Nat} (h : i ≤ n) : (rng0 n).take i = rng0 i := by
  unfold rng0
  rw [← List.map_take, List.take_range]
  congr 2
  omega
theorem rng0_succ (i : Nat) : rng0 (i + 1) = rng0 i ++ [(i : Int)] := by
  unfold rng0
  rw [List.range_succ, List.map_append]
  rfl
def scMark : Scope := { kind := .function, names := [(Str.ofString ".0", .local), (Str.ofString "_law_mark", .cell), (Str.ofString "tuple", .globalImplicit), (Str.ofString "range", .globalImplicit), (Str.ofString "_law_many", .cell), (Str.ofString "_law_marks", .cell)], isGenerator := false, isCoroutine := false }
def spParts (K : PySem.W.Frag) : Sp := fun vs H Q _ => ∃ (b l : Addr) (n : Nat) (m : Int), vs = [.ref b, .int n, .int m] ∧ BagAt H b l ∧ n ≤ 12 ∧ 1 ≤ m ∧ m ≤ 5 ∧
  ∀ (hds : List (List Int)) (H' : Hp) (p : Addr) (ws : List V), hds.flatten.Perm (rng0 n) → (∀ cs ∈ hds, cs ≠ [] ∧ cs.Pairwise (· < ·)) → hds.length ≤ 5 → H p = none → H' p = some (.lst ws) → HdsAt K H' hds ws → BagAt H' b l → But b H H' → Q (.ref p) H'
section
variable {P : Program} {w : World} {K : PySem.W.Frag} {mg : Str → Option Value} {base : Heap}
theorem ok_parts {f fP : Addr} {fd fdP : FuncData} {k : Nat} (F : Fun K "_law_parts" "_law_parts" sParts f fd) (mt : mg "tuple" = none) (mr : mg "range" = none) (GP : FnOk P w K mg base CX0 (k + 1) fP fdP ["_law_bag_here", "_law_amount"] spPull)
    (kp : PySem.W.keepIn K (.ref fP) = true) (bP : Binds K fdP ["_law_bag_here", "_law_amount"] []) (gP : mg "_law_pull" = some (.ref fP)) :
    FnOk P w K mg base CX0 (k + 2) f fd ["_law_bag_here", "_law_many", "_law_most"] (spParts K) := by
  refine F.ok scParts (fun vs H Q E h => ?_) (fun cdv A outer s H vs Q E hr h => ?_)
  · obtain ⟨b, l, n, m, rfl, _⟩ := h
    rfl
  · obtain ⟨b, l, n, m, rfl, B, hn, m0, m1, q⟩ := h
    refine ⟨_, pss_cons (ps_set (i := 3) scParts.nd rfl (.inr rfl) (pe_lc (own := [("_law_number", 5)]) (g := gName 5) (by rfl) scParts.nd (pi_range1 (by rfl) mr (pa_cons (pv 1) pa_nil))
        (blkOk_by (own := [("_law_number", 5)]) (N := ["_law_bag_here", "_law_many", "_law_most", "_law_marks", "_law_found", "_law_number", "_law_mark", "_law_part"]) (sc := defScope sParts) (by decide +kernel))
        (fun _ _ _ _ _ => pg_name (i := 5) scParts.nd rfl (Or.inl rfl)) (fun _ _ _ _ _ => pts_nil)
        (fun _ _ _ _ _ => pe_call GP hr (by rfl) gP kp bP .nil pass0 (pa_cons (pv 0) (pa_cons (pv 2) pa_nil)))))
      (pss_cons (ps_setLc (i := 4) (own := [("_law_mark", 6)]) (g := gName 6) (by rfl) scParts.nd rfl rfl (sw_true rfl rfl rfl (by decide +kernel)) (pi_list (pe_lst (pa_cons pe_int (pa_cons pe_int (pa_cons pe_int (pa_cons pe_int (pa_cons pe_int pa_nil)))))))
        (blkOk_by (own := [("_law_mark", 6)]) (N := ["_law_bag_here", "_law_many", "_law_most", "_law_marks", "_law_found", "_law_number", "_law_mark", "_law_part"]) (sc := defScope sParts) (by decide +kernel))
        (fun _ _ _ _ _ => pg_name (i := 6) scParts.nd rfl (Or.inr rfl)) (fun _ _ _ _ _ => pts_nil)
        (te := tCB (fun xs H Q => ∃ p ys, xs = [.ref p] ∧ ((SqL K H p ys ∧ ∀ l, H l = none → Q (.ref l) (upd H l (.tup ys))) ∨ (SqT K H p ys ∧ Q (.ref p) H))) (tCons (tLc (iRng1 (tCons (tVar 1) tNil)) (gName 5) (tTest (tOp rEq (tOp (rIxL K) (tVar 3) (tVar 5)) (tVar 6))) (tVar 5) [5]) tNil))
        (fun _ _ _ _ _ => pe_callTy call_tuple_of (by rfl) mt (by decide +kernel) (pa_cons (pe_lc (own := [("_law_number", 5)]) (g := gName 5) (tt := tTest (tOp rEq (tOp (rIxL K) (tVar 3) (tVar 5)) (tVar 6))) (by rfl) scParts.nd (pi_range1 (by rfl) mr (pa_cons (pv 1) pa_nil))
          (blkOk_by (own := [("_law_number", 5)]) (N := ["_law_bag_here", "_law_many", "_law_most", "_law_marks", "_law_found", "_law_number", "_law_mark", "_law_part"]) (sc := scMark) (by decide +kernel))
          (fun _ _ _ _ _ => pg_name (i := 5) scParts.nd rfl (Or.inl rfl)) (fun _ _ _ _ _ => pts_one (pt_cmpR op_eq (pe_ix ix_list (pv 3) (pv 5) (fun _ _ => rfl)) (pv 6) (nomark _)))
          (fun _ _ _ _ _ => pv 5)) pa_nil)))
      (pss_one (ps_ret (pe_lc (own := [("_law_part", 7)]) (g := gName 7) (tt := tTest (tOp (rNeD K) (tVar 7) (tTup tNil))) (by rfl) scParts.nd (pi_list (pv 4))
        (blkOk_by (own := [("_law_part", 7)]) (N := ["_law_bag_here", "_law_many", "_law_most", "_law_marks", "_law_found", "_law_number", "_law_mark", "_law_part"]) (sc := defScope sParts) (by decide +kernel))
        (fun _ _ _ _ _ => pg_name (i := 7) scParts.nd rfl (Or.inl rfl)) (fun _ _ _ _ _ => pts_one (pt_cmpR (op_neD hr.units) (pv 7) (pe_tup pa_nil) (nomark _)))
        (fun _ _ _ _ _ => pv 7))))), ?_⟩
    -- the marks
    refine ⟨_, rfl, n, rfl, by omega, by omega, fun D nD => ?_⟩
    have nDb := B.nb nD
    have nDl := B.nl nD
    refine lc_range (lo := 0) (n := (n : Int).toNat) (fun i H2 => ∃ ms : List Int, ms.length = i ∧ (∀ z ∈ ms, 0 ≤ z ∧ z < m) ∧ H2 D = some (.lst (ms.map V.int)) ∧ BagAt H2 b l ∧ But b H H2) ⟨[], rfl, by simp, upd_same, B.new nD, new_but nD⟩ ?_ ?_
    · rintro i H2 hi ⟨ms, hl, hm, hD, B2, bt⟩
      refine ⟨rfl, _, rfl, _, rfl, b, l, m, rfl, B2, by omega, ?_, fun g H3 g0 g1 B3 bt3 => ?_⟩
      · have : m.natAbs < 10 := by omega
        exact Nat.lt_trans this (by decide)
      · have hD3 := bt3 D _ nDb hD
        refine ⟨_, hD3, ?_, ms ++ [g], ?_, ?_, ?_, B3.upd nDb nDl, ?_⟩
        · rw [List.length_map]
          exact small1000 (by omega)
        · rw [List.length_append, hl]
          rfl
        · intro z hz
          rcases List.mem_append.mp hz with h | h
          · exact hm z h
          · rw [List.mem_singleton.mp h]
            exact ⟨g0, g1⟩
        · rw [upd_same, List.map_append]
          rfl
        · intro a u na hu
          rw [upd_ne (ne_of_none hu nD)]
          exact bt3 a u na (bt a u na hu)
    rintro H2 ⟨ms, hl, hm, hD, B2, bt⟩
    have hl2 : ms.length = n := by omega
    -- the parts, empty ones too
    refine ⟨(by show 5 ≤ sizeLine; decide), fun L nL => ?_⟩
    have sL : Same H2 (upd H2 L (.lst [.int 1, .int 4, .int 0, .int 3, .int 2])) := same_new nL
    refine ⟨L, rfl, ⟨_, SqL.of upd_same⟩, fun D2 nD2 => ?_⟩
    have nD2H : H2 D2 = none := sL.free nD2
    refine lc_list (K := K) (a := L) (xs := ([1, 4, 0, 3, 2] : List Int).map V.int) (fun i H3 => Same (upd H2 L (.lst [.int 1, .int 4, .int 0, .int 3, .int 2])) H3 ∧ ∃ ws, H3 D2 = some (.lst ws) ∧ HdsAt K H3 ((([1, 4, 0, 3, 2] : List Int).map (sel ms n)).take i) ws)
      ⟨same_new nD2, [], upd_same, rfl⟩ (fun i H3 _ ⟨sm, _⟩ => SqL.of (sm _ _ upd_same)) ?_ ?_
    · rintro i y H3 hy ⟨sm, ws, hD2, hW⟩
      obtain ⟨mk, hmk, rfl⟩ := map_get hy
      have hi5 : i < 5 := (List.getElem?_eq_some_iff.mp hmk).1
      refine ⟨rfl, _, rfl, n, rfl, by omega, by omega, fun D3 nD3 => ?_⟩
      have smD : Same H2 H3 := sL.trans sm
      have hD' : H3 D = some (.lst (ms.map V.int)) := smD _ _ hD
      refine lc_range (lo := 0) (n := (n : Int).toNat) (fun j H4 => Same H3 H4 ∧ H4 D3 = some (.lst (((rng0 j).filter fun c => decide (ms.getD c.toNat 9 = mk)).map V.int))) ⟨same_new nD3, upd_same⟩ ?_ ?_
      · rintro j H4 hj ⟨s4, h3⟩
        have hjn : j < ms.length := by omega
        have ej : (0 : Int) + (j : Int) = (j : Int) := by omega
        have gj : (ms.map V.int)[j]? = some (.int (ms.getD j 9)) := by
          rw [List.getElem?_map, List.getElem?_eq_getElem hjn, List.getD_eq_getElem?_getD, List.getElem?_eq_getElem hjn]
          rfl
        refine ⟨rfl, _, rfl, _, rfl, D, _, _, _, rfl, rfl, SqL.of (s4 _ _ hD'), at_of (j := j) ej gj, _, rfl, rfl, _, rfl, ?_⟩
        have lenj : (((rng0 j).filter fun c => decide (ms.getD c.toNat 9 = mk)).map V.int).length < sizeLine := by
          rw [List.length_map]
          refine small1000 (Nat.le_trans (List.length_filter_le _ _) ?_)
          rw [rng0_len]
          omega
        refine ite2 (fun e => ?_) (fun e => ?_)
        · have e1 : ms.getD j 9 = mk := V.int.inj (of_decide_eq_true e)
          refine ⟨_, rfl, _, h3, lenj, fun a u hu => ?_, ?_⟩
          · rw [upd_ne (ne_of_none hu nD3)]
            exact s4 a u hu
          · rw [upd_same, rng0_succ, List.filter_append, List.map_append]
            have : ([(j : Int)].filter fun c => decide (ms.getD c.toNat 9 = mk)) = [(j : Int)] := by
              rw [List.filter_cons, decide_eq_true (by simpa using e1), if_pos rfl]
              rfl
            rw [this]
            show some (HO.lst (_ ++ [V.int ((0 : Int) + (j : Int))])) = _
            rw [ej]
            rfl
        · have e1 : ¬ ms.getD j 9 = mk := fun z => e (decide_eq_true (congrArg V.int z))
          refine ⟨s4, ?_⟩
          rw [rng0_succ, List.filter_append]
          have : ([(j : Int)].filter fun c => decide (ms.getD c.toNat 9 = mk)) = [] := by
            rw [List.filter_cons, decide_eq_false (by simpa using e1), if_neg (by decide)]
            rfl
          rw [this, List.append_nil]
          exact h3
      · rintro H4 ⟨s4, h3⟩
        rw [Int.toNat_natCast] at h3
        refine ⟨D3, _, rfl, .inl ⟨SqL.of h3, fun T nT => ?_⟩⟩
        have hD24 := s4 _ _ hD2
        have s5 := s4.trans (same_new (o := .tup (((rng0 n).filter fun c => decide (ms.getD c.toNat 9 = mk)).map V.int)) nT)
        have lw := hW.len
        refine ⟨ws, (by rw [upd_ne (ne_of_none hD24 nT)]; exact hD24), ?_, ?_, ws ++ [.ref T], upd_same, ?_⟩
        · rw [lw]
          exact small1000 (Nat.le_trans (List.length_take_le _ _) (by omega))
        · intro a u hu
          have h2 := sm a u hu
          have h4 := s4 a u h2
          rw [upd_ne (ne_of_none hu nD2), upd_ne (ne_of_none h4 nT)]
          exact h4
        · have gs : (([1, 4, 0, 3, 2] : List Int).map (sel ms n))[i]? = some (sel ms n mk) := by rw [List.getElem?_map, hmk]; rfl
          rw [take_more gs]
          have h5 : (upd H4 T (.tup (((rng0 n).filter fun c => decide (ms.getD c.toNat 9 = mk)).map V.int))) D2 = some (.lst ws) := by
            rw [upd_ne (ne_of_none hD24 nT)]
            exact hD24
          exact HdsAt.app (HdsAt.mono (fun a xs e => tups_lst h5 a xs (Same.sqT s5 e)) hW) (tups_lst h5 _ _ (SqT.of upd_same))
    rintro H3 ⟨sm, ws, hD2, hW⟩
    rw [List.take_of_length_le (by simp)] at hW
    have smD : Same H2 H3 := sL.trans sm
    -- those that are not empty
    refine ⟨_, rfl, D2, rfl, ⟨_, SqL.of hD2⟩, fun D4 nD4 => ?_⟩
    refine lc_list (K := K) (a := D2) (xs := ws) (fun i H4 => Same H3 H4 ∧ ∃ ws', H4 D4 = some (.lst ws') ∧ HdsAt K H4 (((([1, 4, 0, 3, 2] : List Int).map (sel ms n)).take i).filter fun c => decide (c ≠ [])) ws') ⟨same_new nD4, [], upd_same, rfl⟩ (fun i H4 _ ⟨s4, _⟩ => SqL.of (s4 _ _ hD2)) ?_ ?_
    · rintro i y H4 hy ⟨s4, ws', hD4, hW'⟩
      obtain ⟨c, a, hc, rfl, ha⟩ := hW.get hy
      have hi5 : i < 5 := by
        have := (List.getElem?_eq_some_iff.mp hc).1
        simpa using this
      have ha4 : SqT K H4 a (c.map V.int) := Same.sqT s4 ha
      refine ⟨rfl, _, rfl, (by show 0 ≤ sizeLine; decide), fun T nT => ?_⟩
      have sT := same_new (o := .tup []) nT
      refine ⟨.tuple (c.map .int), .tuple [], .tup (Same.sqT sT ha4) (dpInts _), .tup (SqT.of upd_same) .nil, ?_, by decide, _, rfl, ?_⟩
      · unfold SeqAt.shaped
        simp [PyData.canLay0, PyData.depth, canInts, depInts]
      have ev : PyData.eqv (.tuple (c.map .int)) (.tuple []) = decide (c = []) := by
        cases c with
        | nil => simp [PyData.eqv, PyData.eqvAll]
        | cons z r => simp [PyData.eqv, PyData.eqvAll]
      rw [ev, take_more hc, List.filter_append]
      have hD4T : (upd H4 T (.tup [])) D4 = some (.lst ws') := by
        rw [upd_ne (ne_of_none hD4 nT)]
        exact hD4
      refine ite2 (fun e => ?_) (fun e => ?_)
      · have e1 : c ≠ [] := fun z => by
          rw [z] at e
          exact absurd e (by decide)
        have ef : ([c].filter fun c => decide (c ≠ [])) = [c] := by
          rw [List.filter_cons, decide_eq_true e1, if_pos rfl]
          rfl
        rw [ef]
        refine ⟨_, rfl, ws', hD4T, ?_, ?_, ws' ++ [.ref a], upd_same, ?_⟩
        · rw [hW'.len]
          exact small1000 (Nat.le_trans (List.length_filter_le _ _) (Nat.le_trans (List.length_take_le _ _) (by omega)))
        · intro x u hu
          rw [upd_ne (ne_of_none hu nD4)]
          exact sT _ _ (s4 _ _ hu)
        · exact HdsAt.app (HdsAt.mono (fun x xs e => tups_lst hD4T x xs (Same.sqT sT e)) hW') (tups_lst hD4T _ _ (Same.sqT sT ha4))
      · have e1 : c = [] := by
          cases c with
          | nil => rfl
          | cons z r => exact absurd (by simp) e
        have ef : ([c].filter fun c => decide (c ≠ [])) = [] := by
          rw [e1]
          rfl
        rw [ef, List.append_nil]
        exact ⟨s4.trans sT, ws', hD4T, HdsAt.mono (Same.tups sT) hW'⟩
    · rintro H4 ⟨s4, ws', hD4, hW'⟩
      have lw : ws.length = 5 := by rw [hW.len]; rfl
      rw [List.take_of_length_le (by rw [lw]; simp)] at hW'
      have nD4H : H D4 = none := bt.free B B2 (smD.free nD4)
      have s24 : Same H2 H4 := smD.trans s4
      have B4 : BagAt H4 b l := by
        obtain ⟨x1, x2, x3, x4, Z⟩ := B2
        exact ⟨x1, x2, x3, x4, s24 _ _ Z.ob, s24 _ _ Z.ls, Z.i0, Z.i1, Z.g0, Z.s0, Z.s1⟩
      refine q _ H4 D4 ws' ?_ ?_ ?_ nD4H hD4 hW' B4 (bt.trans (But.same s24))
      · rw [flat_ne]
        refine five (f := fun c => ms.getD c.toNat 9) (rng0 n) fun x hx => ?_
        unfold rng0 at hx
        obtain ⟨j, hj, rfl⟩ := List.mem_map.mp hx
        have hj2 : j < ms.length := by rw [hl2]; exact List.mem_range.mp hj
        show 0 ≤ ms.getD (j : Int).toNat 9 ∧ ms.getD (j : Int).toNat 9 < 5
        rw [Int.toNat_natCast, List.getD_eq_getElem?_getD, List.getElem?_eq_getElem hj2]
        have := hm _ (List.getElem_mem hj2)
        show 0 ≤ ms[j] ∧ ms[j] < 5
        omega
      · intro cs hcs
        obtain ⟨h1, h2⟩ := List.mem_filter.mp hcs
        refine ⟨of_decide_eq_true h2, ?_⟩
        obtain ⟨mk, _, rfl⟩ := List.mem_map.mp h1
        exact List.Pairwise.filter _ (rng0_lt n)
      · exact Nat.le_trans (List.length_filter_le _ _) (by simp)
end
end Lk

namespace Lk
open PySem L2
def Gs.snoc : Gs → List Int → Tr → Gs
  | .nil, cs, t => .cons cs t .nil
  | .cons c u r, cs, t => .cons c u (r.snoc cs t)
theorem Gs.heads_snoc (cs : List Int) (t : Tr) : ∀ g : Gs, (g.snoc cs t).heads = g.heads ++ [cs]
  | .nil => rfl
  | .cons c u r => by simp [Gs.snoc, Gs.heads, Gs.heads_snoc cs t r]
theorem Gs.size_snoc (cs : List Int) (t : Tr) : ∀ g : Gs, (g.snoc cs t).size = g.size + t.size
  | .nil => by simp [Gs.snoc, Gs.size]
  | .cons c u r => by simp [Gs.snoc, Gs.size, Gs.size_snoc cs t r]; omega
theorem Gs.dep_snoc (cs : List Int) (t : Tr) : ∀ g : Gs, (g.snoc cs t).dep = max g.dep t.dep
  | .nil => by simp [Gs.snoc, Gs.dep]
  | .cons c u r => by simp only [Gs.snoc, Gs.dep, Gs.dep_snoc cs t r]; omega
theorem Gs.wf_snoc {d n : Nat} {cs : List Int} {t : Tr} (h : cs ≠ [] ∧ cs.Pairwise (· < ·)) (ht : t.wf d n) : ∀ {g : Gs}, g.wf d n → (g.snoc cs t).wf d n
  | .nil, _ => by
    simp only [Gs.snoc, Gs.wf]
    exact ⟨h, ht, trivial⟩
  | .cons c u r, w => by
    simp only [Gs.wf] at w
    simp only [Gs.snoc, Gs.wf]
    exact ⟨w.1, w.2.1, Gs.wf_snoc h ht w.2.2⟩
theorem GsAt.snoc {K : PySem.W.Frag} {H : Hp} {cs : List Int} {t : Tr} {pa ca : Addr} {tv : V} (h1 : SqT K H pa [.ref ca, tv]) (h2 : SqT K H ca (cs.map V.int)) (h3 : TrAt K H t tv) : ∀ {g : Gs} {ws : List V}, GsAt K H g ws → GsAt K H (g.snoc cs t) (ws ++ [.ref pa])
  | .nil, ws, h => by
    simp only [GsAt] at h
    subst h
    simp only [Gs.snoc, GsAt]
    exact ⟨pa, ca, tv, [], rfl, h1, h2, h3, rfl⟩
  | .cons c u r, ws, h => by
    simp only [GsAt] at h
    obtain ⟨pa', ca', tv', vr, rfl, a1, a2, a3, a4⟩ := h
    simp only [Gs.snoc, GsAt]
    exact ⟨pa', ca', tv', vr ++ [.ref pa], rfl, a1, a2, a3, GsAt.snoc h1 h2 h3 a4⟩
def szB : Nat → Nat
  | 0 => 1
  | n + 1 => 1 + 5 * szB n
theorem szB_pos : ∀ n, 1 ≤ szB n
  | 0 => Nat.le_refl _
  | n + 1 => by simp [szB]
def spTree (K : PySem.W.Frag) (m : Nat) : Sp := fun vs H Q _ => ∃ (b l a : Addr) (ds : List Int) (n : Nat), vs = [.ref b, .ref a, .int m] ∧ BagAt H b l ∧ SqT K H a (ds.map V.int) ∧ Divs ds ∧ ds.length ≤ 3 ∧ prodL ds = (n : Int) ∧
  ∀ (t : Tr) (v : V) (H' : Hp), t.wf ds.length n → t.dep ≤ m + 1 → t.size ≤ szB m → TrAt K H' t v → BagAt H' b l → But b H H' → Q v H'
def spScan (K : PySem.W.Frag) : Sp := fun vs H Q _ => ∃ (b l : Addr) (d : Int), vs = [.ref b, .int d] ∧ BagAt H b l ∧ 1 ≤ d ∧ d ≤ 3 ∧
  ∀ (ds : List Int) (n : Nat) (t : Tr) (a p : Addr) (v : V) (H' : Hp), (ds.length : Int) = d → Divs ds → prodL ds = (n : Int) → t.wf ds.length n → t.dep ≤ 4 → t.size ≤ 200 → SqT K H' a (ds.map V.int) → TrAt K H' t v → SqT K H' p [.ref a, v] → BagAt H' b l → But b H H' → Q (.ref p) H'
section
variable {P : Program} {w : World} {K : PySem.W.Frag} {mg : Str → Option Value} {base : Heap}
theorem ok_tree {f fP fC fO fA : Addr} {fd fdP fdC fdO fdA : FuncData} {k : Nat} (F : Fun K "_law_tree" "_law_tree" sTree f fd) (mt : mg "tuple" = none) (mr : mg "range" = none)
    (gF : mg "_law_tree" = some (.ref f)) (bF : Binds K fd ["_law_bag_here", "_law_divisors_here", "_law_depth"] [])
    (GP : FnOk P w K mg base CX0 (k + 1) fP fdP ["_law_bag_here", "_law_amount"] spPull) (kp : PySem.W.keepIn K (.ref fP) = true) (bP : Binds K fdP ["_law_bag_here", "_law_amount"] []) (gP : mg "_law_pull" = some (.ref fP))
    (GC : FnOk P w K mg base CX0 (k + 1) fC fdC ["_law_divisors_here"] (spCount K)) (kC : PySem.W.keepIn K (.ref fC) = true) (bC : Binds K fdC ["_law_divisors_here"] []) (gC : mg "_law_count" = some (.ref fC))
    (GO : FnOk P w K mg base CX0 (k + 2) fO fdO ["_law_bag_here", "_law_things"] (spOf K)) (kO : PySem.W.keepIn K (.ref fO) = true) (bO : Binds K fdO ["_law_bag_here", "_law_things"] []) (gO : mg "_law_of" = some (.ref fO))
    (GA : FnOk P w K mg base CX0 (k + 2) fA fdA ["_law_bag_here", "_law_many", "_law_most"] (spParts K)) (kA : PySem.W.keepIn K (.ref fA) = true) (bA : Binds K fdA ["_law_bag_here", "_law_many", "_law_most"] []) (gA : mg "_law_parts" = some (.ref fA)) :
    ∀ m : Nat, FnOk P w K mg base CX0 (k + 3 + m) f fd ["_law_bag_here", "_law_divisors_here", "_law_depth"] (spTree K m)
  | 0 => by
    refine F.ok (k := k + 2) scTree (fun vs H Q E h => ?_) (fun cdv A outer s H vs Q E hr h => ?_)
    · obtain ⟨b, l, a, ds, n, rfl, _⟩ := h
      rfl
    · obtain ⟨b, l, a, ds, n, rfl, B, hA, hD, hd, hn, q⟩ := h
      have hr1 : Room (k + 1) _ := hr.mono (by omega)
      refine ⟨_, pss_cons (ps_par (i := 3) (j := 4) (by rfl) scTree.nd rfl rfl (by decide) rfl rfl (pa_cons (pe_call GC hr1 (by rfl) gC kC bC .nil pass0 (pa_cons (pv 1) pa_nil)) (pa_cons (pe_call GP hr1 (by rfl) gP kp bP .nil pass0 (pa_cons (pv 0) (pa_cons pe_int pa_nil))) pa_nil)) (by rfl))
        (pss_cons (ps_if (PW.pt (pw_or (pt_cmpR op_eq (pv 2) pe_int (nomark _)) (pw_or1 (pt_cmpR op_eq (pv 4) pe_int (nomark _))))) (pss_one (ps_ret (pe_tup (pa_cons pe_str pa_nil)))) pss_nil) pss_never), ?_⟩
      refine ⟨_, rfl, a, ds, rfl, hA, hD, _, rfl, b, l, 4, rfl, B, by decide, by decide, fun g H1 g0 g1 B1 bt => ?_⟩
      refine ⟨_, _, rfl, ?_⟩
      refine ⟨_, rfl, rfl, true, rfl, iteT ?_⟩
      refine ⟨(by show 1 ≤ sizeLine; decide), fun p np => ?_⟩
      refine q .pl _ _ (by simp [Tr.wf]) (by simp [Tr.dep]) (by simp [Tr.size, szB]) ?_ (B1.new np) (bt.trans (new_but np))
      simp only [TrAt]
      exact ⟨p, rfl, SqT.of upd_same⟩
  | m + 1 => by
    have GT := ok_tree F mt mr gF bF GP kp bP gP GC kC bC gC GO kO bO gO GA kA bA gA m
    refine F.ok (k := k + 3 + m) scTree (fun vs H Q E h => ?_) (fun cdv A outer s H vs Q E hr h => ?_)
    · obtain ⟨b, l, a, ds, n, rfl, _⟩ := h
      rfl
    · obtain ⟨b, l, a, ds, n, rfl, B, hA, hD, hd, hn, q⟩ := h
      have hr1 : Room (k + 1) _ := hr.mono (by omega)
      have hr2 : Room (k + 2) _ := hr.mono (by omega)
      have hn12 : n ≤ 12 := by have := hD.most; omega
      refine ⟨_, pss_cons (ps_par (i := 3) (j := 4) (by rfl) scTree.nd rfl rfl (by decide) rfl rfl (pa_cons (pe_call GC hr1 (by rfl) gC kC bC .nil pass0 (pa_cons (pv 1) pa_nil)) (pa_cons (pe_call GP hr1 (by rfl) gP kp bP .nil pass0 (pa_cons (pv 0) (pa_cons pe_int pa_nil))) pa_nil)) (by rfl))
        (pss_cons (ps_if (PW.pt (pw_or (pt_cmpR op_eq (pv 2) pe_int (nomark _)) (pw_or1 (pt_cmpR op_eq (pv 4) pe_int (nomark _))))) (pss_one (ps_ret (pe_tup (pa_cons pe_str pa_nil)))) pss_nil)
        (pss_cons (ps_if (pt_cmpR op_eq (pv 4) pe_int (nomark _))
          (pss_cons (ps_set (i := 5) scTree.nd rfl (.inl rfl) (pe_call GA hr2 (by rfl) gA kA bA .nil pass0 (pa_cons (pv 0) (pa_cons (pv 3) (pa_cons (pe_ifExp (pt_cmpR op_eq (pv 2) pe_int (nomark _)) pe_int pe_int) pa_nil)))))
          (pss_one (ps_ret (pe_tup (pa_cons pe_str (pa_cons (pe_callTy call_tuple_of (by rfl) mt (by decide +kernel) (pa_cons (pe_lc (own := [("_law_part", 9)]) (g := gName 9) (by rfl) scTree.nd (pi_list (pv 5))
            (blkOk_by (own := [("_law_part", 9)]) (N := ["_law_bag_here", "_law_divisors_here", "_law_depth", "_law_many", "_law_pick", "_law_parts_here", "_law_size", "_law_row", "_law_heights", "_law_part", "_law_one", "_law_number"]) (sc := defScope sTree) (by decide +kernel))
            (fun _ _ _ _ _ => pg_name (i := 9) scTree.nd rfl (Or.inl rfl)) (fun _ _ _ _ _ => pts_nil)
            (fun _ _ _ _ _ => pe_tup (pa_cons (pv 9) (pa_cons (pe_call GT hr (by rfl) gF F.kp bF .nil pass0 (pa_cons (pv 0) (pa_cons (pv 1) (pa_cons (pe_op op_sub (pv 2) pe_int) pa_nil)))) pa_nil)))) pa_nil)) pa_nil)))))) pss_nil)
        (pss_cons (ps_set (i := 6) scTree.nd rfl (.inr rfl) (pe_call GO hr2 (by rfl) gO kO bO .nil pass0 (pa_cons (pv 0) (pa_cons (pe_lst (pa_cons pe_int (pa_cons pe_int (pa_cons pe_int (pa_cons (pe_op op_pow pe_int pe_int) pa_nil))))) pa_nil))))
        (pss_cons (ps_set (i := 7) scTree.nd rfl (.inl rfl) (pe_callTy call_tuple_of (by rfl) mt (by decide +kernel) (pa_cons (pe_lc (own := [("_law_one", 10)]) (g := gName 10) (by rfl) scTree.nd (pi_tup (pv 1))
            (blkOk_by (own := [("_law_one", 10)]) (N := ["_law_bag_here", "_law_divisors_here", "_law_depth", "_law_many", "_law_pick", "_law_parts_here", "_law_size", "_law_row", "_law_heights", "_law_part", "_law_one", "_law_number"]) (sc := defScope sTree) (by decide +kernel))
            (fun _ _ _ _ _ => pg_name (i := 10) scTree.nd rfl (Or.inl rfl)) (fun _ _ _ _ _ => pts_nil)
            (fun _ _ _ _ _ => pe_op op_sub (pe_call GP hr1 (by rfl) gP kp bP .nil pass0 (pa_cons (pv 0) (pa_cons (pe_op op_add (pe_op op_mul pe_int (pv 6)) pe_int) pa_nil))) (pv 6))) pa_nil)))
        (pss_cons (ps_set (i := 8) scTree.nd rfl (.inl rfl) (pe_callTy call_tuple_of (by rfl) mt (by decide +kernel) (pa_cons (pe_lc (own := [("_law_number", 11)]) (g := gName 11) (by rfl) scTree.nd (pi_range1 (by rfl) mr (pa_cons (pv 3) pa_nil))
            (blkOk_by (own := [("_law_number", 11)]) (N := ["_law_bag_here", "_law_divisors_here", "_law_depth", "_law_many", "_law_pick", "_law_parts_here", "_law_size", "_law_row", "_law_heights", "_law_part", "_law_one", "_law_number"]) (sc := defScope sTree) (by decide +kernel))
            (fun _ _ _ _ _ => pg_name (i := 11) scTree.nd rfl (Or.inl rfl)) (fun _ _ _ _ _ => pts_nil)
            (fun _ _ _ _ _ => pe_ifExp (pt_cmpR op_lt (pv 6) pe_int (nomark _)) (pe_op op_sub (pe_call GP hr1 (by rfl) gP kp bP .nil pass0 (pa_cons (pv 0) (pa_cons pe_int pa_nil))) pe_int)
              (pe_op op_sub (pe_call GP hr1 (by rfl) gP kp bP .nil pass0 (pa_cons (pv 0) (pa_cons (pe_op op_mul pe_int (pv 6)) pa_nil))) (pe_op op_mul pe_int (pv 6))))) pa_nil)))
        (pss_one (ps_ret (pe_tup (pa_cons pe_str (pa_cons (pv 7) (pa_cons (pv 8) (pa_cons (pe_call GT hr (by rfl) gF F.kp bF .nil pass0 (pa_cons (pv 0) (pa_cons (pv 1) (pa_cons (pe_op op_sub (pv 2) pe_int) pa_nil)))) pa_nil)))))))))))), ?_⟩
      refine ⟨_, rfl, a, ds, rfl, hA, hD, _, rfl, b, l, 4, rfl, B, by decide, by decide, fun g H1 g0 g1 B1 bt => ?_⟩
      refine ⟨_, _, rfl, ?_⟩
      rw [hn]
      refine ⟨_, rfl, rfl, false, ?_, iteF ?_⟩
      · refine congrArg V.bl (decide_eq_false fun e => ?_)
        have := V.int.inj e
        omega
      refine ⟨_, rfl, rfl, _, rfl, ite2 (fun e => ?_) (fun e => ?_)⟩
      · -- places
        refine ⟨(by show 1 ≤ sizeLine; decide), fun p np => ?_⟩
        refine q .pl _ _ (by simp [Tr.wf]) (by simp [Tr.dep]) (by show 1 ≤ szB (m + 1); exact szB_pos _) ?_ (B1.new np) (bt.trans (new_but np))
        simp only [TrAt]
        exact ⟨p, rfl, SqT.of upd_same⟩
      have hA1 : SqT K H1 a (ds.map V.int) := bt.sqT B hA
      have em : ((m + 1 : Nat) : Int) - 1 = (m : Int) := by omega
      refine ⟨_, rfl, rfl, _, rfl, ite2 (fun e2 => ?_) (fun e2 => ?_)⟩
      · -- a fork
        refine ⟨_, rfl, _, rfl, _, rfl, rfl, _, rfl, ite2 (fun _ => ?_) (fun _ => ?_)⟩
        all_goals
          refine ⟨b, l, n, _, rfl, B1, hn12, by decide, by decide, fun hds H2 c ws hp hh h5 nc hc hW B2 bt2 => ?_⟩
          have ncb : c ≠ b := (B1.nb nc)
          refine ⟨_, rfl, c, rfl, ⟨_, SqL.of hc⟩, fun D nD => ?_⟩
          have nDb := B2.nb nD
          have nDl := B2.nl nD
          have lw := hW.len
          refine lc_list (K := K) (a := c) (xs := ws) (fun i H3 => ∃ (gs : Gs) (vs : List V), gs.heads = hds.take i ∧ gs.wf ds.length n ∧ gs.dep ≤ m + 1 ∧ gs.size ≤ i * szB m ∧ H3 D = some (.lst vs) ∧ vs.length = i ∧ GsAt K H3 gs vs ∧ BagAt H3 b l ∧ But b H2 H3)
            ⟨.nil, [], rfl, by simp [Gs.wf], by simp [Gs.dep], by simp [Gs.size], upd_same, rfl, by simp [GsAt], B2.new nD, new_but nD⟩ (fun i H3 _ ⟨_, _, _, _, _, _, _, _, _, _, b3⟩ => SqL.of (b3 c _ ncb hc)) ?_ ?_
          · rintro i y H3 hy ⟨gs, vs, g1, g2, g3, g4, hD3, lv, hG, B3, b3⟩
            obtain ⟨cs, ca, hcs, rfl, hca⟩ := hW.get hy
            have hi : i < ws.length := (List.getElem?_eq_some_iff.mp hy).1
            have hA3 : SqT K H3 a (ds.map V.int) := b3.sqT B2 (bt2.sqT B1 hA1)
            refine ⟨rfl, _, rfl, _, rfl, _, rfl, _, rfl, _, _, rfl, rfl, ?_⟩
            refine ⟨b, l, a, ds, n, ?_, B3, hA3, hD, hd, hn, fun t v H4 t1 t2 t3 t4 B4 b4 => ?_⟩
            · show [V.ref b, V.ref a, V.int (((m + 1 : Nat) : Int) - 1)] = _
              rw [em]
            refine ⟨(by show 2 ≤ sizeLine; decide), fun T nT => ?_⟩
            have hD4 := b4 D _ nDb hD3
            have hDT : (upd H4 T (.tup [.ref ca, v])) D = some (.lst vs) := by
              rw [upd_ne (ne_of_none hD4 nT)]
              exact hD4
            have tA : Tups K H3 H4 := But.tups B3 b4
            have tB : Tups K H4 (upd H4 T (.tup [.ref ca, v])) := Same.tups (same_new nT)
            have tC : Tups K (upd H4 T (.tup [.ref ca, v])) (upd (upd H4 T (.tup [.ref ca, v])) D (.lst (vs ++ [.ref T]))) := tups_lst hDT
            have tBC : Tups K H4 (upd (upd H4 T (.tup [.ref ca, v])) D (.lst (vs ++ [.ref T]))) := fun x ys e => tC x ys (tB x ys e)
            refine ⟨vs, hDT, ?_, gs.snoc cs t, vs ++ [.ref T], ?_, Gs.wf_snoc (hh cs (List.mem_of_getElem? hcs)) t1 g2, ?_, ?_, upd_same, ?_, ?_, (B4.new nT).upd nDb nDl, ?_⟩
            · exact small1000 (by omega)
            · rw [Gs.heads_snoc, take_more hcs, g1]
            · rw [Gs.dep_snoc]
              omega
            · rw [Gs.size_snoc, Nat.succ_mul]
              omega
            · rw [List.length_append, lv]
              rfl
            · exact GsAt.snoc (tC _ _ (SqT.of upd_same)) (tBC _ _ (tA _ _ (b3.sqT B2 hca))) (TrAt.mono tBC t4) (GsAt.mono (fun x ys e => tBC x ys (tA x ys e)) hG)
            · intro x u nx hu
              have h3 := b3 x u nx hu
              have h4 := b4 x u nx h3
              rw [upd_ne (ne_of_none hu nD), upd_ne (ne_of_none h4 nT)]
              exact h4
          · rintro H3 ⟨gs, vs, g1, g2, g3, g4, hD3, lv, hG, B3, b3⟩
            rw [List.take_of_length_le (by omega)] at g1
            refine ⟨D, _, rfl, .inl ⟨SqL.of hD3, fun T nT => ?_⟩⟩
            refine ⟨(by show 2 ≤ sizeLine; decide), fun p np => ?_⟩
            have tA : Tups K H3 (upd H3 T (.tup vs)) := Same.tups (same_new nT)
            have tB : Tups K (upd H3 T (.tup vs)) (upd (upd H3 T (.tup vs)) p (.tup [.str "fork", .ref T])) := Same.tups (same_new np)
            refine q (.fork gs) _ _ ?_ ?_ ?_ ?_ ((B3.new nT).new np) (((bt.trans bt2).trans b3).trans ((new_but nT).trans (new_but np)))
            · simp only [Tr.wf]
              exact ⟨by rw [Gs.flat, g1]; exact hp, g2⟩
            · simp only [Tr.dep]
              omega
            · simp only [Tr.size]
              show gs.size + 1 ≤ 1 + 5 * szB m
              have : ws.length * szB m ≤ 5 * szB m := Nat.mul_le_mul_right _ (by omega)
              omega
            · simp only [TrAt]
              exact ⟨p, T, vs, rfl, SqT.of upd_same, tB _ _ (SqT.of upd_same), GsAt.mono (fun x ys e => tB x ys (tA x ys e)) hG⟩
      · -- a key
        refine ⟨_, rfl, _, _, rfl, rfl, ⟨by decide, by decide, by decide⟩, ?_⟩
        refine ⟨(by show 4 ≤ sizeLine; decide), fun c nc => ?_⟩
        refine ⟨b, l, c, _, rfl, B1.new nc, B1.nb nc, SqL.of upd_same, (by show 0 < 4; decide), (by show 4 < 1000; decide), fun v H2 hv B2 bt2 => ?_⟩
        have b12 : But b H1 H2 := (new_but nc).trans bt2
        obtain ⟨z, rfl, z1, z9⟩ : ∃ z : Int, v = .int z ∧ 1 ≤ z ∧ z ≤ 1000000000 := by
          rcases List.mem_cons.mp hv with e | hv
          · exact ⟨3, e, by decide, by decide⟩
          rcases List.mem_cons.mp hv with e | hv
          · exact ⟨3, e, by decide, by decide⟩
          rcases List.mem_cons.mp hv with e | hv
          · exact ⟨9, e, by decide, by decide⟩
          · exact ⟨10 ^ (9 : Int).toNat, List.mem_singleton.mp hv, by decide, by decide⟩
        have hA2 : SqT K H2 a (ds.map V.int) := b12.sqT B1 hA1
        -- the row
        refine ⟨_, rfl, a, rfl, ⟨_, hA2⟩, fun D nD => ?_⟩
        have nDb := B2.nb nD
        have nDl := B2.nl nD
        refine lc_tup (K := K) (a := a) (xs := ds.map V.int) (fun i H3 => ∃ rs : List Int, rs.length = i ∧ (∀ y ∈ rs, -(2 ^ 64) < y ∧ y < 2 ^ 64) ∧ H3 D = some (.lst (rs.map V.int)) ∧ BagAt H3 b l ∧ But b H2 H3) ⟨[], rfl, by simp, upd_same, B2.new nD, new_but nD⟩ (fun i H3 _ ⟨_, _, _, _, _, b3⟩ => b3.sqT B2 hA2) ?_ ?_
        · rintro i y H3 hy ⟨rs, rl, rb, hD3, B3, b3⟩
          have hi : i < (ds.map V.int).length := (List.getElem?_eq_some_iff.mp hy).1
          rw [List.length_map] at hi
          refine ⟨rfl, _, rfl, _, rfl, _, _, rfl, rfl, .inl ⟨by decide, by decide⟩, _, _, rfl, rfl, b, l, _, rfl, B3, by omega, ?_, fun g H4 g0 g1 B4 b4 => ?_⟩
          · have : ((2 * z + 1)).natAbs < 10000000000 := by omega
            exact Nat.lt_trans this (by decide)
          · have hD4 := b4 D _ nDb hD3
            refine ⟨_, rfl, _, _, rfl, rfl, _, hD4, ?_, rs ++ [g - z], ?_, ?_, ?_, B4.upd nDb nDl, ?_⟩
            · rw [List.length_map]
              exact small1000 (by omega)
            · rw [List.length_append, rl]
              rfl
            · intro x hx
              rcases List.mem_append.mp hx with h | h
              · exact rb x h
              · rw [List.mem_singleton.mp h]
                omega
            · rw [upd_same, List.map_append]
              rfl
            · intro x u nx hu
              rw [upd_ne (ne_of_none hu nD)]
              exact b4 x u nx (b3 x u nx hu)
        rintro H3 ⟨rs, rl, rb, hD3, B3, b3⟩
        rw [List.length_map] at rl
        refine ⟨D, _, rfl, .inl ⟨SqL.of hD3, fun R nR => ?_⟩⟩
        have B3R := B3.new (o := .tup (rs.map V.int)) nR
        have b3R : But b H2 (upd H3 R (.tup (rs.map V.int))) := b3.trans (new_but nR)
        -- the heights
        refine ⟨_, rfl, n, rfl, by omega, by omega, fun D2 nD2 => ?_⟩
        have nD2b := B3R.nb nD2
        have nD2l := B3R.nl nD2
        refine lc_range (lo := 0) (n := (n : Int).toNat) (fun i H4 => ∃ hs : List Int, hs.length = i ∧ H4 D2 = some (.lst (hs.map V.int)) ∧ BagAt H4 b l ∧ But b (upd H3 R (.tup (rs.map V.int))) H4) ⟨[], rfl, upd_same, B3R.new nD2, new_but nD2⟩ ?_ ?_
        · rintro i H4 hi ⟨hs, hl, hD4, B4, b4⟩
          have fin : ∀ (y : Int) (H5 : Hp), BagAt H5 b l → But b H4 H5 → ∃ acc, H5 D2 = some (.lst acc) ∧ acc.length < sizeLine ∧ ∃ hs' : List Int, hs'.length = i + 1 ∧ (upd H5 D2 (.lst (acc ++ [.int y]))) D2 = some (.lst (hs'.map V.int)) ∧ BagAt (upd H5 D2 (.lst (acc ++ [.int y]))) b l ∧ But b (upd H3 R (.tup (rs.map V.int))) (upd H5 D2 (.lst (acc ++ [.int y]))) := fun y H5 B5 b5 => by
            refine ⟨hs.map V.int, b5 D2 _ nD2b hD4, ?_, hs ++ [y], ?_, ?_, B5.upd nD2b nD2l, ?_⟩
            · rw [List.length_map]
              exact small1000 (by omega)
            · rw [List.length_append, hl]
              rfl
            · rw [upd_same, List.map_append]
              rfl
            · intro x u nx hu
              rw [upd_ne (ne_of_none hu nD2)]
              exact b5 x u nx (b4 x u nx hu)
          refine ⟨rfl, _, rfl, _, _, rfl, rfl, _, rfl, ite2 (fun e3 => ?_) (fun e3 => ?_)⟩
          · exact ⟨_, rfl, b, l, 9, rfl, B4, by decide, by decide, fun g H5 g0 g1 B5 b5 => ⟨_, _, rfl, rfl, fin _ H5 B5 b5⟩⟩
          · refine ⟨_, rfl, _, rfl, _, _, rfl, rfl, .inl ⟨by decide, by decide⟩, b, l, _, rfl, B4, by omega, ?_, fun g H5 g0 g1 B5 b5 => ?_⟩
            · have : ((4 * z)).natAbs < 10000000000 := by omega
              exact Nat.lt_trans this (by decide)
            · exact ⟨_, rfl, _, _, rfl, rfl, .inl ⟨by decide, by decide⟩, _, _, rfl, rfl, fin _ H5 B5 b5⟩
        rintro H4 ⟨hs, hl, hD4, B4, b4⟩
        refine ⟨D2, _, rfl, .inl ⟨SqL.of hD4, fun S nS => ?_⟩⟩
        have B4S := B4.new (o := .tup (hs.map V.int)) nS
        have hA4 : SqT K (upd H4 S (.tup (hs.map V.int))) a (ds.map V.int) := Same.sqT (same_new nS) (b4.sqT B3R (b3R.sqT B2 hA2))
        have hR4 : SqT K (upd H4 S (.tup (hs.map V.int))) R (rs.map V.int) := Same.sqT (same_new nS) (b4.sqT B3R (SqT.of upd_same))
        have hS4 : SqT K (upd H4 S (.tup (hs.map V.int))) S (hs.map V.int) := SqT.of upd_same
        refine ⟨_, rfl, _, rfl, _, rfl, _, rfl, _, rfl, _, _, rfl, rfl, ?_⟩
        refine ⟨b, l, a, ds, n, ?_, B4S, hA4, hD, hd, hn, fun t v H5 t1 t2 t3 t4 B5 b5 => ?_⟩
        · show [V.ref b, V.ref a, V.int (((m + 1 : Nat) : Int) - 1)] = _
          rw [em]
        refine ⟨(by show 4 ≤ sizeLine; decide), fun p np => ?_⟩
        have tN : Tups K H5 (upd H5 p (.tup [.str "key", .ref R, .ref S, v])) := Same.tups (same_new np)
        refine q (.key rs hs t) _ _ ?_ ?_ ?_ ?_ (B5.new np) (((((bt.trans b12).trans b3R).trans b4).trans (new_but nS)).trans (b5.trans (new_but np)))
        · simp only [Tr.wf]
          exact ⟨rl, by omega, rb, t1⟩
        · simp only [Tr.dep]
          omega
        · simp only [Tr.size]
          show t.size + 1 ≤ 1 + 5 * szB m
          omega
        · simp only [TrAt]
          exact ⟨p, R, S, v, rfl, SqT.of upd_same, tN _ _ (b5.sqT B4S hR4), tN _ _ (b5.sqT B4S hS4), TrAt.mono tN t4⟩
end
end Lk

namespace Lk
open PySem L2
/-! ### a scan -/
def sf (ct nt : Int) (a : Addr) (v : V) : List (Str × V) := putF "own_tree" v (putF "own_divisors" (.ref a) (putF "node_total" (.int nt) (putF "class_total" (.int ct) [])))
theorem putF_len (f : Str) (v : V) : ∀ fs : List (Str × V), (putF f v fs).length ≤ fs.length + 1
  | [] => by simp [putF]
  | (g, u) :: r => by
    have := putF_len f v r
    simp only [putF]
    split <;> simp <;> omega
theorem sf_div (ct nt : Int) (a : Addr) (v : V) : (sf ct nt a v).lookup ("own_divisors" : Str) = some (.ref a) := by
  unfold sf
  rw [lookup_putF, if_neg (by decide +kernel), lookup_putF, if_pos rfl]
theorem sf_tree (ct nt : Int) (a : Addr) (v : V) : (sf ct nt a v).lookup ("own_tree" : Str) = some v := by
  unfold sf
  rw [lookup_putF, if_pos rfl]
theorem sf_path (ct nt : Int) (a : Addr) (v : V) : (sf ct nt a v).lookup ("path" : Str) = none := by
  unfold sf
  rw [lookup_putF, if_neg (by decide +kernel), lookup_putF, if_neg (by decide +kernel), lookup_putF, if_neg (by decide +kernel), lookup_putF, if_neg (by decide +kernel)]
  rfl
/-- a Scan of divisors ds and tree t stands at p -/
structure ScanAt (K : PySem.W.Frag) (C : Addr) (H : Hp) (p : Addr) (ds : List Int) (n : Nat) (t : Tr) : Prop where
  ob : ∃ dx a v, H p = some (.ins C dx (sf (n : Int) (t.size : Int) a v)) ∧ SqT K H a (ds.map V.int) ∧ TrAt K H t v
  dv : Divs ds
  l1 : 1 ≤ ds.length
  l3 : ds.length ≤ 3
  pr : prodL ds = (n : Int)
  wf : t.wf ds.length n
  dp : t.dep ≤ 20
  sz : t.size ≤ 200
theorem ScanAt.same {K : PySem.W.Frag} {C : Addr} {H H' : Hp} {p : Addr} {ds : List Int} {n : Nat} {t : Tr} (S : ScanAt K C H p ds n t) (e : Same H H') : ScanAt K C H' p ds n t := by
  obtain ⟨⟨dx, a, v, h1, h2, h3⟩, r1, r2, r3, r4, r5, r6, r7⟩ := S
  exact ⟨⟨dx, a, v, e _ _ h1, Same.sqT e h2, TrAt.mono (Same.tups e) h3⟩, r1, r2, r3, r4, r5, r6, r7⟩
theorem ScanAt.but {K : PySem.W.Frag} {C b l : Addr} {H H' : Hp} {p : Addr} {ds : List Int} {n : Nat} {t : Tr} (S : ScanAt K C H p ds n t) (B : BagAt H b l) (e : But b H H') : ScanAt K C H' p ds n t := by
  obtain ⟨⟨dx, a, v, h1, h2, h3⟩, r1, r2, r3, r4, r5, r6, r7⟩ := S
  obtain ⟨ys, hb⟩ := B.lst
  exact ⟨⟨dx, a, v, e _ _ (ne_of h1 hb (by intro z; cases z)) h1, e.sqT B h2, TrAt.mono (But.tups B e) h3⟩, r1, r2, r3, r4, r5, r6, r7⟩
def full (ds : List Int) (t : Tr) (x : List Int) : List Int := pth t (cls ds x) x ++ x
structure Txt (K : PySem.W.Frag) (mg : Str → Option Value) (C : Addr) : Prop where
  cl : Cls K C
  n1 : NoAttr K C "class_total"
  n2 : NoAttr K C "node_total"
  n3 : NoAttr K C "own_divisors"
  n4 : NoAttr K C "own_tree"
  mgC : mg "Scan" = some (.ref C)
  rd : ClX.CRead K C (.type "type")
  c1 : ∃ u, ClX.CVal K C (.type "type") "MAX_NODES" (.int 200) u
  c2 : ∃ u, ClX.CVal K C (.type "type") "MAX_DEPTH" (.int 20) u
def spInit (K : PySem.W.Frag) (C : Addr) : Sp := fun vs H Q _ => ∃ (p dx a : Addr) (v : V) (ds : List Int) (n : Nat) (t : Tr), vs = [.ref p, .ref a, v] ∧ H p = some (.ins C dx []) ∧ SqT K H a (ds.map V.int) ∧ TrAt K H t v ∧ Divs ds ∧ 1 ≤ ds.length ∧ ds.length ≤ 3 ∧ prodL ds = (n : Int) ∧ t.wf ds.length n ∧ t.size ≤ 200 ∧ t.dep ≤ 20 ∧
  ∀ H' : Hp, ScanAt K C H' p ds n t → (∀ b o, H b = some o → b ≠ p → H' b = some o) → Q .non H'
def spSPath (K : PySem.W.Frag) (C : Addr) : Sp := fun vs H Q _ => ∃ (p c : Addr) (ds : List Int) (n : Nat) (t : Tr) (x : List Int), vs = [.ref p, .ref c] ∧ ScanAt K C H p ds n t ∧ SqT K H c (x.map V.int) ∧ x.length = ds.length ∧
  ∀ (H' : Hp) (q : Addr), Same H H' → SqT K H' q ((full ds t x).map V.int) → Q (.ref q) H'
def spCall (K : PySem.W.Frag) (C : Addr) : Sp := fun vs H Q _ => ∃ (p c d : Addr) (ds : List Int) (n : Nat) (t : Tr) (x y : List Int), vs = [.ref p, .ref c, .ref d] ∧ ScanAt K C H p ds n t ∧ SqT K H c (x.map V.int) ∧ SqT K H d (y.map V.int) ∧ x.length = ds.length ∧ y.length = ds.length ∧
  ∀ H' : Hp, Same H H' → Q (.bl (HT.lexLt (full ds t x) (full ds t y))) H'
theorem pth_len : ∀ (m : Nat) (t : Tr), t.dep ≤ m → ∀ (c : Int) (x : List Int), (pth t c x).length ≤ m := by
  have hG : ∀ (m : Nat) (g : Gs), (∀ t ∈ g.trees, ∀ (c : Int) (x : List Int), (pth t c x).length ≤ m) → ∀ (i c : Int) (x : List Int), (pthG g i c x).length ≤ m + 1 := by
    intro m g
    match g with
    | .nil => intro _ i c x; simp [pthG]
    | .cons cs t r =>
      intro h i c x
      simp only [pthG]
      split
      · have := h t List.mem_cons_self c x
        simp only [List.length_cons]
        omega
      · exact (by
          have aux : ∀ (g : Gs), (∀ t ∈ g.trees, ∀ (c : Int) (x : List Int), (pth t c x).length ≤ m) → ∀ (i c : Int) (x : List Int), (pthG g i c x).length ≤ m + 1 := by
            intro g
            induction g using Gs.rec (motive_1 := fun _ => True) with
            | pl => trivial
            | key _ _ _ _ => trivial
            | fork _ _ => trivial
            | nil => intro _ i c x; simp [pthG]
            | cons cs t r _ ih =>
              intro h i c x
              simp only [pthG]
              split
              · have := h t List.mem_cons_self c x
                simp only [List.length_cons]
                omega
              · exact ih (fun t ht => h t (List.mem_cons_of_mem _ ht)) (i + 1) c x
          exact aux r (fun t ht => h t (List.mem_cons_of_mem _ ht)) (i + 1) c x)
  intro m
  induction m with
  | zero =>
    intro t h
    have := (Tr.deep t).2
    omega
  | succ m ih =>
    intro t h c x
    cases t with
    | pl => simp [pth]
    | key row hs t =>
      simp only [Tr.dep] at h
      have := ih t (by omega) c x
      simp only [pth, List.length_cons]
      omega
    | fork g =>
      simp only [Tr.dep] at h
      simp only [pth]
      exact hG m g (fun t ht c x => ih t (by have := Gs.dep_trees g t ht; omega) c x) 0 c x
section
variable {P : Program} {w : World} {K : PySem.W.Frag} {mg : Str → Option Value} {base : Heap}
theorem ok_init {f fC fN C : Addr} {fd fdC fdN : FuncData} {dvs : List V} {k : Nat} (F : FunD K "__init__" "Scan.__init__" (defArgs sInit) (defBody sInit) (defScope sInit) dvs [] f fd) (T : Txt K mg C)
    (GC : FnOk P w K mg base CX0 (k + 5) fC fdC ["divisors"] (spClassCount K)) (kC : PySem.W.keepIn K (.ref fC) = true) (bC : Binds K fdC ["divisors"] []) (gC : mg "class_count" = some (.ref fC))
    (GN : FnOk P w K mg base CX0 (k + 7) fN fdN ["tree", "divisors", "most_nodes", "most_depth"] (spNodes K)) (kN : PySem.W.keepIn K (.ref fN) = true) (bN : Binds K fdN ["tree", "divisors", "most_nodes", "most_depth"] []) (gN : mg "count_nodes" = some (.ref fN)) :
    FnOk P w K mg base CX0 (k + 8) f fd ["self", "divisors", "tree"] (spInit K C) := by
  refine F.ok scInit (fun vs H Q E h => ?_) (fun cdv A outer s H vs Q E hr h => ?_)
  · obtain ⟨p, dx, a, v, ds, n, t, rfl, _⟩ := h
    rfl
  · obtain ⟨p, dx, a, v, ds, n, t, rfl, hp, hA, hT, hD, l1, l3, hn, hw, hz, hdp, q⟩ := h
    have hr5 : Room (k + 5) _ := hr.mono (by omega)
    obtain ⟨u1, c1⟩ := T.c1
    obtain ⟨u2, c2⟩ := T.c2
    refine ⟨_, PSs.nox (pss_cons (ps_fld (pv 0) (pe_call GC hr5 (by rfl) gC kC bC .nil pass0 (pa_cons (pv 1) pa_nil)) rfl)
      (pss_cons (ps_fld (pv 0) (pe_call GN hr (by rfl) gN kN bN .nil pass0 (pa_cons (pv 2) (pa_cons (pv 1) (pa_cons (ClX.pe_cval (pe_glob (v := .ref C) (by rfl) T.mgC rfl)) (pa_cons (ClX.pe_cval (pe_glob (v := .ref C) (by rfl) T.mgC rfl)) pa_nil))))) rfl)
      (pss_cons (ps_fld (pv 0) (pv 1) rfl) (pss_one (ps_fld (pv 0) (pv 2) rfl))))), ?_⟩
    refine ⟨_, rfl, a, ds, rfl, hA, l1, l3, hD, fun H1 s1 => ?_⟩
    have hp1 := s1 _ _ hp
    refine ⟨_, rfl, p, C, dx, [], rfl, hp1, T.cl, T.n1, (by show 0 < 1000; decide), ?_⟩
    have t1 : Tups K H1 (upd H1 p (.ins C dx (putF "class_total" (.int (prodL ds)) []))) := fun x ys e => by
      rcases e with (e | ⟨o, e⟩) | e
      · exact .inl (.inl (by rw [upd_ne (ne_of e hp1 (by intro z; cases z))]; exact e))
      · exact .inl (.inr ⟨o, by rw [upd_ne (ne_of e hp1 (by intro z; cases z))]; exact e⟩)
      · exact .inr e
    have t01 : Tups K H (upd H1 p (.ins C dx (putF "class_total" (.int (prodL ds)) []))) := fun x ys e => t1 x ys (Same.sqT s1 e)
    refine ⟨_, rfl, _, rfl, C, _, _, _, rfl, T.rd, c1, C, _, _, _, rfl, T.rd, c2, v, a, t, ds, n, rfl, TrAt.mono t01 hT, t01 _ _ hA, hD, l3, hn, hw, hz, hdp, fun H2 s2 => ?_⟩
    have hp2 := s2 _ _ (upd_same (H := H1) (a := p) (o := .ins C dx (putF "class_total" (.int (prodL ds)) [])))
    have e1 : (putF "class_total" (.int (prodL ds)) []).length ≤ 1 := putF_len _ _ _
    have e2 : (putF "node_total" (.int (t.size : Int)) (putF "class_total" (.int (prodL ds)) [])).length ≤ 2 := Nat.le_trans (putF_len _ _ _) (by omega)
    have e3 : (putF "own_divisors" (.ref a) (putF "node_total" (.int (t.size : Int)) (putF "class_total" (.int (prodL ds)) []))).length ≤ 3 := Nat.le_trans (putF_len _ _ _) (by omega)
    refine ⟨_, rfl, p, C, dx, _, rfl, hp2, T.cl, T.n2, by omega, ?_⟩
    refine ⟨_, rfl, _, rfl, p, C, dx, _, rfl, upd_same, T.cl, T.n3, by omega, ?_⟩
    refine ⟨_, rfl, _, rfl, p, C, dx, _, rfl, upd_same, T.cl, T.n4, by omega, ?_⟩
    rw [upd_upd, upd_upd]
    have t2 : Tups K H2 (upd H2 p (.ins C dx (sf (prodL ds) (t.size : Int) a v))) := fun x ys e => by
      rcases e with (e | ⟨o, e⟩) | e
      · exact .inl (.inl (by rw [upd_ne (ne_of e hp2 (by intro z; cases z))]; exact e))
      · exact .inl (.inr ⟨o, by rw [upd_ne (ne_of e hp2 (by intro z; cases z))]; exact e⟩)
      · exact .inr e
    have t02 : Tups K H (upd H2 p (.ins C dx (sf (prodL ds) (t.size : Int) a v))) := fun x ys e => t2 x ys (Same.sqT s2 (t01 x ys e))
    refine q _ ⟨⟨dx, a, v, by rw [upd_same, hn]; rfl, t02 _ _ hA, TrAt.mono t02 hT⟩, hD, l1, l3, hn, hw, hdp, hz⟩ fun b o e hb => ?_
    rw [upd_ne hb]
    refine s2 _ _ ?_
    rw [upd_ne hb]
    exact s1 _ _ e
theorem ok_spath {f fC fT C : Addr} {fd fdC fdT : FuncData} {k : Nat} (F : Fun K "path" "Scan.path" sSPath f fd) (T : Txt K mg C) (ml : mg "len" = none)
    (GC : FnOk P w K mg base CX0 (k + 3) fC fdC ["place", "directions"] (spChkPlace K)) (kC : PySem.W.keepIn K (.ref fC) = true) (bC : Binds K fdC ["place", "directions"] []) (gC : mg "check_place" = some (.ref fC))
    (GT : FnOk P w K mg base CX0 (k + 2) fT fdT ["tree", "divisors", "place"] (spTPath K)) (kT : PySem.W.keepIn K (.ref fT) = true) (bT : Binds K fdT ["tree", "divisors", "place"] []) (gT : mg "tree_path" = some (.ref fT)) :
    FnOk P w K mg base CX0 (k + 4) f fd ["self", "place"] (spSPath K C) := by
  refine F.ok scSPath (fun vs H Q E h => ?_) (fun cdv A outer s H vs Q E hr h => ?_)
  · obtain ⟨p, c, ds, n, t, x, rfl, _⟩ := h
    rfl
  · obtain ⟨p, c, ds, n, t, x, rfl, S, hc, lx, q⟩ := h
    have hr2 : Room (k + 2) _ := hr.mono (by omega)
    refine ⟨_, pss_cons (ps_expr (pe_call GC hr (by rfl) gC kC bC .nil pass0 (pa_cons (pv 1) (pa_cons (pe_callB call_len_seq (by rfl) ml PySem.boot_len (pa_cons (pe_fld (pv 0) rfl) pa_nil)) pa_nil))))
      (pss_one (ps_ret (pe_op op_catA (pe_call GT hr2 (by rfl) gT kT bT .nil pass0 (pa_cons (pe_fld (pv 0) rfl) (pa_cons (pe_fld (pv 0) rfl) (pa_cons (pv 1) pa_nil)))) (pv 1)))), ?_⟩
    obtain ⟨⟨dx, a, v, h1, h2, h3⟩, hD, l1, l3, hn, hw, hdp, hz⟩ := id S
    refine ⟨_, rfl, _, rfl, p, C, dx, _, _, rfl, h1, T.cl, T.n3, sf_div _ _ _ _, a, _, rfl, .inr h2, c, x, _, rfl, hc, ?_, by omega, fun H1 s1 => ?_⟩
    · rw [List.length_map, lx]
    have h1' := s1 _ _ h1
    refine ⟨_, rfl, p, C, dx, _, _, rfl, h1', T.cl, T.n4, sf_tree _ _ _ _, _, rfl, p, C, dx, _, _, rfl, h1', T.cl, T.n3, sf_div _ _ _ _, _, rfl, v, a, c, t, ds, x, n, rfl, TrAt.mono (Same.tups s1) h3, Same.sqT s1 h2, Same.sqT s1 hc, lx.symm, hD, l3, hn, hw, hdp, fun H2 r s2 hr2 => ?_⟩
    have s12 := s1.trans s2
    have hc2 : SqT K H2 c (x.map V.int) := Same.sqT s12 hc
    have pl := pth_len 20 t hdp (cls ds x) x
    refine ⟨_, rfl, r, c, _, _, rfl, rfl, SqT.of hr2, hc2, ?_, fun e => ?_, fun e1 e2 => ?_, fun e1 e2 z nz => ?_⟩
    · rw [List.length_map, List.length_map]
      exact Nat.le_of_lt (small1000 (by omega))
    · have e' : pth t (cls ds x) x = [] := List.map_eq_nil_iff.mp e
      refine q H2 c s12 ?_
      unfold full
      rw [e', List.nil_append]
      exact hc2
    · have e' : x = [] := List.map_eq_nil_iff.mp e2
      rw [e'] at lx
      have : ds.length = 0 := by rw [← lx]; rfl
      omega
    · refine q _ z (s12.trans (same_new nz)) (SqT.of ?_)
      rw [upd_same]
      unfold full
      rw [List.map_append]
theorem ok_call {f fP C : Addr} {fd fdP : FuncData} {k : Nat} (F : Fun K "__call__" "Scan.__call__" sCall f fd) (T : Txt K mg C)
    (GP : FnOk P w K mg base CX0 (k + 4) fP fdP ["self", "place"] (spSPath K C)) (bP : Binds K fdP ["self", "place"] []) (mP : Meth K C "path" fP) :
    FnOk P w K mg base CX0 (k + 5) f fd ["self", "one", "other"] (spCall K C) := by
  refine F.ok scCall (fun vs H Q E h => ?_) (fun cdv A outer s H vs Q E hr h => ?_)
  · obtain ⟨p, c, d, ds, n, t, x, y, rfl, _⟩ := h
    rfl
  · obtain ⟨p, c, d, ds, n, t, x, y, rfl, S, hc, hd, lx, ly, q⟩ := h
    refine ⟨_, pss_one (ps_ret (pe_cmpR (op_ltT hr.units0) (pe_meth (pv 0) T.cl mP GP hr bP .nil pass0 (pa_cons (pv 1) pa_nil)) (pe_meth (pv 0) T.cl mP GP hr bP .nil pass0 (pa_cons (pv 2) pa_nil)) (nomark _))), ?_⟩
    obtain ⟨⟨dx, a, v, h1, h2, h3⟩, _⟩ := id S
    refine ⟨_, rfl, p, dx, _, rfl, h1, sf_path _ _ _ _, _, rfl, p, c, ds, n, t, x, rfl, S, hc, lx, fun H1 r s1 hr1 => ?_⟩
    refine ⟨_, rfl, p, dx, _, rfl, s1 _ _ h1, sf_path _ _ _ _, _, rfl, p, d, ds, n, t, y, rfl, S.same s1, Same.sqT s1 hd, ly, fun H2 r2 s2 hr2 => ?_⟩
    exact ⟨r, r2, _, _, rfl, rfl, Same.sqT s2 hr1, hr2, q H2 (s1.trans s2)⟩
end
end Lk

namespace Lk
open PySem L2
abbrev lx := HT.lexLt
abbrev plus (x f : List Int) : List Int := List.zipWith (· + ·) x f
theorem lx_irr : ∀ x : List Int, lx x x = false
  | [] => rfl
  | a :: r => by
    show (if a = a then lx r r else decide (a < a)) = false
    rw [if_pos rfl]
    exact lx_irr r
theorem lx_trans : ∀ {x y z : List Int}, lx x y = true → lx y z = true → lx x z = true
  | [], [], _, h, _ => by cases h
  | [], _ :: _, [], _, h => by cases h
  | [], _ :: _, _ :: _, _, _ => rfl
  | _ :: _, [], _, h, _ => by cases h
  | _ :: _, _ :: _, [], _, h => by cases h
  | a :: x, b :: y, c :: z, h1, h2 => by
    have h1 : (if a = b then lx x y else decide (a < b)) = true := h1
    have h2 : (if b = c then lx y z else decide (b < c)) = true := h2
    show (if a = c then lx x z else decide (a < c)) = true
    by_cases e1 : a = b
    · rw [if_pos e1] at h1
      by_cases e2 : b = c
      · rw [if_pos e2] at h2
        rw [if_pos (e1.trans e2)]
        exact lx_trans h1 h2
      · rw [if_neg e2] at h2
        have := of_decide_eq_true h2
        rw [if_neg (by omega)]
        exact decide_eq_true (by omega)
    · rw [if_neg e1] at h1
      have a1 := of_decide_eq_true h1
      by_cases e2 : b = c
      · rw [if_neg (by omega)]
        exact decide_eq_true (by omega)
      · rw [if_neg e2] at h2
        have a2 := of_decide_eq_true h2
        rw [if_neg (by omega)]
        exact decide_eq_true (by omega)
theorem lx_total : ∀ {x y : List Int}, x ≠ y → lx x y = true ∨ lx y x = true
  | [], [], h => absurd rfl h
  | [], _ :: _, _ => .inl rfl
  | _ :: _, [], _ => .inr rfl
  | a :: x, b :: y, h => by
    show (if a = b then lx x y else decide (a < b)) = true ∨ (if b = a then lx y x else decide (b < a)) = true
    by_cases e : a = b
    · subst e
      rw [if_pos rfl, if_pos rfl]
      exact lx_total fun z => h (by rw [z])
    · rw [if_neg e, if_neg fun z => e z.symm]
      by_cases l : a < b
      · exact .inl (decide_eq_true l)
      · exact .inr (decide_eq_true (by omega))
theorem lx_shift : ∀ {x y f : List Int}, x.length = f.length → y.length = f.length → lx (plus x f) (plus y f) = lx x y
  | [], [], [], _, _ => rfl
  | a :: x, b :: y, c :: f, h1, h2 => by
    have ih := lx_shift (x := x) (y := y) (f := f) (by simpa using h1) (by simpa using h2)
    show (if a + c = b + c then lx (plus x f) (plus y f) else decide (a + c < b + c)) = (if a = b then lx x y else decide (a < b))
    rw [ih]
    by_cases e : a = b
    · rw [if_pos e, if_pos (by omega)]
    · rw [if_neg e, if_neg (by omega)]
      by_cases l : a < b
      · rw [decide_eq_true l, decide_eq_true (by omega)]
      · rw [decide_eq_false l, decide_eq_false (by omega)]
  | [], _, _ :: _, h, _ => by cases h
  | _ :: _, _, [], h, _ => by cases h
  | _, [], _ :: _, _, h => by cases h
  | _, _ :: _, [], _, h => by cases h
theorem dot_plus : ∀ {r x f : List Int}, x.length = f.length → dotL r (plus x f) = dotL r x + dotL r f
  | [], _, _, _ => by simp [dotL]
  | a :: r, [], [], _ => by simp [dotL, plus]
  | a :: r, b :: x, c :: f, h => by
    have ih := dot_plus (r := r) (x := x) (f := f) (by simpa using h)
    unfold dotL plus at ih ⊢
    simp only [List.zipWith_cons_cons, List.sum_cons]
    rw [ih, Int.mul_add]
    omega
  | _ :: _, [], _ :: _, h => by cases h
  | _ :: _, _ :: _, [], h => by cases h
theorem pthG_head : ∀ {g : Gs} {c : Int} (i : Int), c ∈ g.classes → ∃ (j : Int) (t : Tr), i ≤ j ∧ ∀ x, pthG g i c x = j :: pth t c x
  | .nil, c, i, h => by simp [Gs.classes] at h
  | .cons cs t r, c, i, h => by
    by_cases hc : c ∈ cs
    · exact ⟨i, t, Int.le_refl _, fun x => by simp only [pthG]; rw [if_pos hc]⟩
    · simp only [Gs.classes] at h
      have h2 : c ∈ r.classes := by
        rcases List.mem_append.mp h with e | e
        · exact absurd e hc
        · exact e
      obtain ⟨j, t', hj, e⟩ := pthG_head (g := r) (i + 1) h2
      exact ⟨j, t', by omega, fun x => by simp only [pthG]; rw [if_neg hc]; exact e x⟩
mutual
theorem pth_shift {d n : Nat} {c1 c2 : Int} (b1 : 0 ≤ c1 ∧ c1 < n) (b2 : 0 ≤ c2 ∧ c2 < n) {x y f : List Int} (hx : x.length = f.length) (hy : y.length = f.length) :
    ∀ t : Tr, t.wf d n → lx (pth t c1 (plus x f) ++ plus x f) (pth t c2 (plus y f) ++ plus y f) = lx (pth t c1 x ++ x) (pth t c2 y ++ y)
  | .pl, _ => by
    simp only [pth, List.nil_append]
    exact lx_shift hx hy
  | .key row hs t, w => by
    simp only [Tr.wf] at w
    have ih : HT.lexLt (pth t c1 (plus x f) ++ plus x f) (pth t c2 (plus y f) ++ plus y f) = HT.lexLt (pth t c1 x ++ x) (pth t c2 y ++ y) := pth_shift b1 b2 hx hy t w.2.2.2
    simp only [pth, List.cons_append]
    rw [dot_plus hx, dot_plus hy]
    show (if dotL row x + dotL row f + hs.getD c1.toNat 0 = dotL row y + dotL row f + hs.getD c2.toNat 0 then _ else decide (dotL row x + dotL row f + hs.getD c1.toNat 0 < dotL row y + dotL row f + hs.getD c2.toNat 0)) = (if dotL row x + hs.getD c1.toNat 0 = dotL row y + hs.getD c2.toNat 0 then _ else decide (dotL row x + hs.getD c1.toNat 0 < dotL row y + hs.getD c2.toNat 0))
    rw [ih]
    by_cases e : dotL row x + hs.getD c1.toNat 0 = dotL row y + hs.getD c2.toNat 0
    · rw [if_pos e, if_pos (by omega)]
    · rw [if_neg e, if_neg (by omega)]
      by_cases l : dotL row x + hs.getD c1.toNat 0 < dotL row y + hs.getD c2.toNat 0
      · rw [decide_eq_true l, decide_eq_true (by omega)]
      · rw [decide_eq_false l, decide_eq_false (by omega)]
  | .fork g, w => by
    simp only [Tr.wf] at w
    simp only [pth]
    exact pthG_shift b1 b2 hx hy g 0 (w.1.mem_iff.mpr (mem_rng0 b1.1 b1.2)) (w.1.mem_iff.mpr (mem_rng0 b2.1 b2.2)) w.2
theorem pthG_shift {d n : Nat} {c1 c2 : Int} (b1 : 0 ≤ c1 ∧ c1 < n) (b2 : 0 ≤ c2 ∧ c2 < n) {x y f : List Int} (hx : x.length = f.length) (hy : y.length = f.length) :
    ∀ (g : Gs) (i : Int), c1 ∈ g.classes → c2 ∈ g.classes → g.wf d n → lx (pthG g i c1 (plus x f) ++ plus x f) (pthG g i c2 (plus y f) ++ plus y f) = lx (pthG g i c1 x ++ x) (pthG g i c2 y ++ y)
  | .nil, i, h, _, _ => by simp [Gs.classes] at h
  | .cons cs t r, i, h1, h2, w => by
    simp only [Gs.wf] at w
    simp only [Gs.classes] at h1 h2
    simp only [pthG]
    by_cases m1 : c1 ∈ cs
    · by_cases m2 : c2 ∈ cs
      · rw [if_pos m1, if_pos m2, if_pos m1, if_pos m2]
        have ih := pth_shift b1 b2 hx hy t w.2.1
        simp only [List.cons_append]
        show (if i = i then _ else _) = (if i = i then _ else _)
        rw [if_pos rfl, if_pos rfl]
        exact ih
      · have h2' : c2 ∈ r.classes := by
          rcases List.mem_append.mp h2 with e | e
          · exact absurd e m2
          · exact e
        obtain ⟨j, t', hj, e⟩ := pthG_head (i + 1) h2'
        rw [if_pos m1, if_neg m2, if_pos m1, if_neg m2, e, e]
        simp only [List.cons_append]
        show (if i = j then _ else decide (i < j)) = (if i = j then _ else decide (i < j))
        rw [if_neg (by omega), if_neg (by omega)]
    · have h1' : c1 ∈ r.classes := by
        rcases List.mem_append.mp h1 with e | e
        · exact absurd e m1
        · exact e
      by_cases m2 : c2 ∈ cs
      · obtain ⟨j, t', hj, e⟩ := pthG_head (i + 1) h1'
        rw [if_neg m1, if_pos m2, if_neg m1, if_pos m2, e, e]
        simp only [List.cons_append]
        show (if j = i then _ else decide (j < i)) = (if j = i then _ else decide (j < i))
        rw [if_neg (by omega), if_neg (by omega)]
      · have h2' : c2 ∈ r.classes := by
          rcases List.mem_append.mp h2 with e | e
          · exact absurd e m2
          · exact e
        rw [if_neg m1, if_neg m2, if_neg m1, if_neg m2]
        exact pthG_shift b1 b2 hx hy r (i + 1) h1' h2' w.2.2
end
/-- far: each number a multiple of its divisor -/
def Far : List Int → List Int → Prop
  | [], [] => True
  | d :: ds, f :: fs => (∃ m, f = m * d) ∧ Far ds fs
  | _, _ => False
theorem Far.len : ∀ {ds fs : List Int}, Far ds fs → fs.length = ds.length
  | [], [], _ => rfl
  | _ :: _, _ :: _, h => by simp [Far.len h.2]
  | [], _ :: _, h => h.elim
  | _ :: _, [], h => h.elim
theorem Far.app {d m : Int} : ∀ {ds fs : List Int}, Far ds fs → Far (ds ++ [d]) (fs ++ [m * d])
  | [], [], _ => ⟨⟨m, rfl⟩, trivial⟩
  | _ :: _, _ :: _, h => ⟨h.1, Far.app h.2⟩
  | [], _ :: _, h => h.elim
  | _ :: _, [], h => h.elim
theorem cls_far : ∀ {ds x f : List Int}, Far ds f → x.length = ds.length → ∀ n, clsF (ds.zip (plus x f)) n = clsF (ds.zip x) n
  | [], _, _, _, _, n => by simp
  | d :: ds, [], _, _, h, n => by cases h
  | d :: ds, a :: x, [], h, _, n => h.elim
  | d :: ds, a :: x, c :: f, ⟨⟨m, hm⟩, h⟩, hl, n => by
    show clsF (ds.zip (plus x f)) (n * d + (a + c) % d) = clsF (ds.zip x) (n * d + a % d)
    rw [cls_far h (by simpa using hl), hm, Int.add_mul_emod_self_right]
theorem plus_len {x f : List Int} (h : x.length = f.length) : (plus x f).length = f.length := by
  unfold plus
  rw [List.length_zipWith, h]
  exact Nat.min_self _
theorem full_shift {ds : List Int} {n : Nat} {t : Tr} {x y f : List Int} (D : Divs ds) (hn : prodL ds = (n : Int)) (w : t.wf ds.length n) (F : Far ds f) (hx : x.length = ds.length) (hy : y.length = ds.length) :
    lx (full ds t (plus x f)) (full ds t (plus y f)) = lx (full ds t x) (full ds t y) := by
  have lf := F.len
  have bd : ∀ z : List Int, z.length = ds.length → 0 ≤ cls ds z ∧ cls ds z < n := fun z hz => by
    have b := cls_bound hz.symm D.one (ds.zip z).length
    rw [List.take_length, List.take_of_length_le (by rw [List.length_zip]; omega), hn] at b
    exact b
  unfold full
  have e1 : cls ds (plus x f) = cls ds x := cls_far F hx 0
  have e2 : cls ds (plus y f) = cls ds y := cls_far F hy 0
  rw [e1, e2]
  exact pth_shift (bd x hx) (bd y hy) (by omega) (by omega) t w
theorem full_ne {ds : List Int} {t : Tr} {x y : List Int} (hx : x.length = ds.length) (hy : y.length = ds.length) (h : x ≠ y) : full ds t x ≠ full ds t y := fun e => by
  unfold full at e
  exact h (List.append_inj_right' e (by omega))
theorem eqv_tup : ∀ xs ys : List Int, PyData.eqvAll (xs.map PyData.int) (ys.map PyData.int) = decide (xs = ys)
  | [], [] => by simp [PyData.eqvAll]
  | [], _ :: _ => by simp [PyData.eqvAll]
  | _ :: _, [] => by simp [PyData.eqvAll]
  | a :: r, b :: t => by
    simp only [List.map_cons, PyData.eqvAll, PyData.eqv, eqv_tup r t]
    by_cases h : a = b <;> by_cases h' : r = t <;> simp [h, h']
theorem shT (ns : List Int) : SeqAt.shaped (.tuple (ns.map PyData.int)) = true := by
  unfold SeqAt.shaped
  simp [PyData.canLay0, PyData.depth, canInts, depInts]
end Lk

namespace Lk
open PySem L2 PySem.Spec PyProof.Rows
/-! ### a tuple times 0, 1 or more -/
theorem tuple_mul_none (l : Addr) (items : Array Value) (n : Nat) (dd : Option Addr) (sl : Array (Option Value)) (u : Tok) (c1 : (items.isEmpty || (0 : Int) == 1) = false) :
    Meets (Builtin.«tuple.__mul__» ⟨[.ref l, .int 0 u], []⟩) (fun _ R s => s.heap.get? l = some { cls := .type "tuple", dict := dd, data := .seq items n, slots := sl } ∧
      R (.ok (.ret (Value.ref s.heap.objs.size))) { s with heap := s.heap.push { cls := Value.type "tuple", data := Data.seq #[] }, toks := s.toks }) :=
  .of_wp fun prog w A R s h => by
    obtain ⟨hp, g, d, tk, os⟩ := s
    obtain ⟨hl, h⟩ := h
    have f1 := AutoSeq1.idx_int
    wp_walk using wpAny_loadPart' hl
    repeat (first
      | (refine wpAny_ite_false (decide_eq_false (by rw [c1]; exact Bool.false_ne_true)) ?_; wp_walk using wpAny_loadPart' hl)
      | (refine wpAny_ite_false (decide_eq_false (by decide)) ?_; wp_walk using wpAny_loadPart' hl)
      | (refine wpAny_ite_true (decide_eq_true (by simp)) ?_; wp_walk using wpAny_loadPart' hl))
    exact ⟨_, rfl, h⟩
theorem tuple_mul_one (l : Addr) (items : Array Value) (n : Nat) (dd : Option Addr) (sl : Array (Option Value)) (u : Tok) (c1 : (items.isEmpty || (1 : Int) == 1) = true) :
    Meets (Builtin.«tuple.__mul__» ⟨[.ref l, .int 1 u], []⟩) (fun _ R s => s.heap.get? l = some { cls := .type "tuple", dict := dd, data := .seq items n, slots := sl } ∧
      R (.ok (.ret (Value.ref l))) s) :=
  .of_wp fun prog w A R s h => by
    obtain ⟨hp, g, d, tk, os⟩ := s
    obtain ⟨hl, h⟩ := h
    have f1 := AutoSeq1.idx_int
    wp_walk using wpAny_loadPart' hl
    repeat (first
      | (refine wpAny_ite_false (decide_eq_false (by decide)) ?_; wp_walk using wpAny_loadPart' hl)
      | (refine wpAny_ite_true (decide_eq_true (by rw [c1])) ?_; wp_walk using wpAny_loadPart' hl))
    exact ⟨_, rfl, h⟩
/-- a tuple of one item, times k -/
def rRepO (K : PySem.W.Frag) : R2 := fun x y H Q => ∃ (l : Addr) (k : Int) (a : V), x = .ref l ∧ y = .int k ∧ SqT K H l [a] ∧ 0 ≤ k ∧ k ≤ 1000 ∧ (k = 1 → Q (.ref l) H) ∧ ∀ p, H p = none → Q (.ref p) (upd H p (.tup (List.replicate k.toNat a)))
section
variable {X : Cx}
theorem rep_flat (a : V) : ∀ m : Nat, (List.replicate m [a]).flatten = List.replicate m a
  | 0 => rfl
  | m + 1 => by rw [List.replicate_succ, List.flatten_cons, rep_flat a m, List.replicate_succ]; rfl
theorem op_repO : OpR X (binaryOp .Mult) (rRepO X.K) := by
  intro pins s σ H x y v u Q I rx ry h
  obtain ⟨l, k, a, rfl, rfl, hT, k0, k1, q1, q⟩ := h
  by_cases h2 : 2 ≤ k
  · refine op_repT pins s σ H _ _ v u Q I rx ry ⟨l, k, [a], rfl, rfl, hT, by simp, h2, k1, by simp, fun p np => ?_⟩
    rw [rep_flat]
    exact q p np
  cases rx
  obtain ⟨t, rfl⟩ := ry
  obtain ⟨its, r, ⟨⟨cls, dd, data, sl⟩, ho, hc, n, hd⟩, hs⟩ := I.tuple hT
  simp only at hc hd
  subst hc hd
  have hle : its.length = 1 := r.length.symm
  have hi : its.toArray.isEmpty = false := by
    cases its with
    | nil => cases hle
    | cons a b => rfl
  have hk : k = 0 ∨ k = 1 := by omega
  rcases hk with rfl | rfl
  · refine wpAny_binaryOp_repeat_ref (T := "tuple") (U := "int") (by decide) ⟨_, ho, rfl⟩ (fun s' => typeIs_int s' 0 t) noFill_tuple_mul F.fills_int_mul F.slot_int_rmul repeat_tuple F.slot_int_index.lookup
      (call_meets F.slot_int_rmul (typeIs_int s 0 t) F.entry_int_rmul (F.args_int_rmul_2 _ _) (int_rmul_tuple 0 t l its.toArray n dd sl)
        ⟨ho, rfl, ⟨_, ho, rfl⟩, call_meets F.slot_tuple_mul ⟨_, ho, rfl⟩ F.entry_tuple_mul (F.args_tuple_mul_2 _ _) (tuple_mul_none l its.toArray n dd sl t (by rw [hi]; rfl)) ⟨ho, ?_⟩⟩)
    refine ⟨.ref s.heap.objs.size, _, I.laid (t' := s.toks) (o := .tup []) (fun b ob q => Heap.get?_push_of_some _ q) (Nat.le_refl _) ?_, rfl, q _ (I.hok.fresh (Nat.le_refl _))⟩
    exact ⟨by rw [sizeLine_eq]; exact Nat.zero_le _, _, .nil, IsTup.new _ _⟩
  · refine wpAny_binaryOp_repeat_ref (T := "tuple") (U := "int") (by decide) ⟨_, ho, rfl⟩ (fun s' => typeIs_int s' 1 t) noFill_tuple_mul F.fills_int_mul F.slot_int_rmul repeat_tuple F.slot_int_index.lookup
      (call_meets F.slot_int_rmul (typeIs_int s 1 t) F.entry_int_rmul (F.args_int_rmul_2 _ _) (int_rmul_tuple 1 t l its.toArray n dd sl)
        ⟨ho, rfl, ⟨_, ho, rfl⟩, call_meets F.slot_tuple_mul ⟨_, ho, rfl⟩ F.entry_tuple_mul (F.args_tuple_mul_2 _ _) (tuple_mul_one l its.toArray n dd sl t (by rw [hi]; rfl)) ⟨ho, ?_⟩⟩)
    exact ⟨.ref l, H, I.tok _, rfl, q1 rfl⟩
end
/-! ### a tuple [::-1] -/
section
variable {prog : Program} {w : World} {A : Around} {E : Value → Shared → Prop} {s : Shared}
theorem applied_rev {sl : Addr} {vl vu vs : Value} {n : Nat} {Q : Int × Int × Nat → Shared → Prop} (hs : s.heap.IsSliceOf sl vl vu vs) (pl : IsPart vl none) (pu : IsPart vu none) (ps : IsPart vs (some (-1)))
    (h : Q ((n : Int) - 1, -1, n) s) : wpAny (model prog w) A (Builtin.Slice.sliceApplied (.ref sl) (pure (n : Int))) Q E s := by
  obtain ⟨os, hos, hcs, hds⟩ := id hs
  unfold Builtin.Slice.sliceApplied Builtin.Slice.sliceFields
  refine wpAny_bind (wpAny_bind (wpAny_field hos hds (x := vl) rfl (wpAny_bind (wpAny_field hos hds (x := vu) rfl (wpAny_bind (wpAny_field hos hds (x := vs) rfl (wpAny_pure ?_)))))))
  refine wpAny_bind (HT.slicePart_ ps ?_)
  show wpAny _ _ (if ((-1 : Int) == 0) = true then _ else _) _ _ s
  rw [if_neg (by decide)]
  refine wpAny_bind (HT.slicePart_ pl (wpAny_bind (HT.slicePart_ pu (wpAny_bind (wpAny_pure ?_)))))
  show wpAny _ _ (pure ((n : Int) - 1, (-1 : Int), Builtin.Slice.slicePlaces ((n : Int) - 1) (-1) (-1))) _ _ s
  have e : Builtin.Slice.slicePlaces ((n : Int) - 1) (-1) (-1) = n := by
    unfold Builtin.Slice.slicePlaces
    rw [if_neg (by decide)]
    by_cases z : (n : Int) - 1 > -1
    · rw [if_pos z, show (- -1 : Int) = 1 by decide, Int.ediv_one]
      omega
    · rw [if_neg z]
      omega
  rw [e]
  exact wpAny_pure h
theorem fm_congr {α β : Type} {f g : α → Option β} : ∀ {l : List α}, (∀ k ∈ l, f k = g k) → l.filterMap f = l.filterMap g
  | [], _ => rfl
  | a :: r, h => by
    rw [List.filterMap_cons, List.filterMap_cons, h a List.mem_cons_self, fm_congr (l := r) fun k hk => h k (List.mem_cons_of_mem _ hk)]
theorem pick_rev (xs : Array Value) : ((List.range xs.size).filterMap fun (k : Nat) => xs[((xs.size : Int) - 1 + (k : Int) * -1).toNat]?).toArray = xs.toList.reverse.toArray := by
  have e : ∀ k ∈ List.range xs.size, xs[((xs.size : Int) - 1 + (k : Int) * -1).toNat]? = xs[xs.size - 1 - k]? := fun k hk => by
    have : k < xs.size := List.mem_range.mp hk
    have e2 : ((xs.size : Int) - 1 + (k : Int) * -1).toNat = xs.size - 1 - k := by omega
    rw [e2]
  rw [fm_congr e]
  have e3 : (fun (k : Nat) => xs[xs.size - 1 - k]?) = (fun (j : Nat) => xs[j]?) ∘ (fun k => xs.size - 1 - k) := rfl
  rw [e3, ← List.filterMap_map, PySem.W.krv_range, List.filterMap_reverse, PySem.W.krv_all]
theorem getItem_tuple_rev {t sl : Addr} {items : Array Value} {vl vu vs : Value} {Q : Value → Shared → Prop} (ht : IsTup s.heap t items) (hs : s.heap.IsSliceOf sl vl vu vs) (pl : IsPart vl none) (pu : IsPart vu none) (ps : IsPart vs (some (-1)))
    (h : Q (.ref s.heap.objs.size) { s with heap := s.heap.push { cls := .type "tuple", data := .seq items.toList.reverse.toArray } })
    (hsz : items.size ≤ sizeLine) : wpAny (model prog w) A (getItem (.ref t) (.ref sl)) Q E s := by
  obtain ⟨os, hos, hcs, hds⟩ := id hs
  have hTs : s.TypeIs (.ref sl) "slice" := ⟨os, hos, hcs⟩
  unfold getItem
  try with_reducible refine wpAny_holding ?_
  first | refine wpAny_bind (wpAny_pure ?_) | skip
  refine wpAny_bind (wpAny_sequenceKey ht.typeIs (by decide) ?_)
  refine wpAny_bind (wpAny_callSpecial?_slot (name := Str.ofString "__getitem__") ht.typeIs PyProof.Rows.slot_tuple_getitem
    (wpAny_call_entry PyProof.Rows.slot_tuple_getitem ht.typeIs entry_tuple_getitem ?_ (args_tuple_getitem _ _)))
  show wpAny _ _ (Builtin.Tuple.tupleItemsOf (.ref t) >>= _) _ _ s
  refine wpAny_bind (tupleItemsOf_ ht ?_)
  refine wpAny_bind (wpAny_typeOf hTs ?_)
  rw [if_pos (by decide)]
  refine wpAny_bind (applied_rev hs pl pu ps ?_)
  have hno : ¬ (((((items.size : Nat) : Int) - 1 == 0 && (-1 : Int) == 1 && items.size == items.size)) = true) := by
    intro z
    rw [Bool.and_eq_true, Bool.and_eq_true] at z
    exact absurd z.1.2 (by decide)
  show wpAny _ _ (if ((((items.size : Nat) : Int) - 1 == 0 && (-1 : Int) == 1 && items.size == items.size)) = true then _ else _) _ _ s
  rw [if_neg hno, pick_rev]
  have htake : sizeOk (.seq items.toList.reverse.toArray) := by
    show items.toList.reverse.toArray.size ≤ sizeLine
    rw [List.size_toArray, List.length_reverse, Array.length_toList]
    exact hsz
  first
    | exact wpAny_bind (m := Builtin.Tuple.tupleExact _) (wpAny_newObj_type (wpAny_pure ⟨_, rfl, wpAny_pure h⟩) htake)
    | exact wpAny_bind (m := Builtin.Tuple.tupleExact _) (wpAny_newObj_type (wpAny_bind (wpAny_pure (wpAny_pure ⟨_, rfl, wpAny_pure h⟩))) htake)
    | exact wpAny_bind (wpAny_bind (m := Builtin.Tuple.tupleExact _) (wpAny_newObj_type (wpAny_pure (wpAny_pure ⟨_, rfl, wpAny_pure h⟩)) htake))
    | exact wpAny_bind (wpAny_bind (m := Builtin.Tuple.tupleExact _) (wpAny_newObj_type (wpAny_pure ⟨_, rfl, wpAny_pure h⟩) htake))
end
section
variable {X : Cx}
def tRevT (K : PySem.W.Frag) (te : TE) : TE := fun σ H Q => te σ H fun x H1 => ∃ a xs, x = .ref a ∧ SqT K H1 a xs ∧ ∀ p, H1 p = none → Q (.ref p) (upd H1 p (.tup xs.reverse))
theorem pe_revT {e : Expr} {te : TE} {k : Nat} {p1 p2 p3 pos : Pos} (he : PE X e te) : PE X (.Subscript e (.Slice none none (some (.UnaryOp .USub (.Constant (.int 1) k p1) p2)) p3) pos) (tRevT X.K te) := by
  refine ⟨fun pins s σ H Q I h => ?_⟩
  refine Subscript_ (thn (he.run pins s σ H _ I h) fun v s1 ⟨x, H1, I1, r1, q1⟩ => ?_)
  obtain ⟨a, xs, ex, hx, q⟩ := q1
  subst ex
  cases r1
  have hmin : PO X (some (.UnaryOp .USub (.Constant (.int 1) k p1) p2)) (tPart (tUn (rU fun i => .int (-i)) (tC (.int 1)))) := po_some (pe_un un_neg pe_int)
  refine wpAny_Slice (thn (po_none.run pins s1 σ H1 (fun o H2 => o = none ∧ H2 = H1) I1 ⟨rfl, rfl⟩) fun vl s2 ⟨l, H2, I2, pl, el, e2⟩ => ?_)
  subst el e2
  refine thn (po_none.run pins s2 σ H2 (fun o H3 => o = none ∧ H3 = H2) I2 ⟨rfl, rfl⟩) fun vu s3 ⟨u, H3, I3, pu, eu, e3⟩ => ?_
  subst eu e3
  refine thn (hmin.run pins s3 σ H3 (fun o H4 => o = some (-1) ∧ H4 = H3) I3 ⟨1, rfl, -1, rfl, rfl, rfl⟩) fun vs s4 ⟨o, H4, I4, ps, eo, e4⟩ => ?_
  subst eo e4
  have I5 : Inv X pins σ H4 { s4 with heap := s4.heap.push { cls := .type "slice", data := .fields #[vl, vu, vs] } } := I4.kept (t' := s4.toks) fun b ob q => Heap.get?_push_of_some _ q
  obtain ⟨its, r, ht, hz⟩ := I5.tuple hx
  have hlen := r.length
  show wpAny (model X.prog X.w) X.A (subscriptTail e (.Slice none none (some (.UnaryOp .USub (.Constant (.int 1) k p1) p2)) p3) (.ref a) (.ref s4.heap.objs.size)) (EP X pins σ Q) X.xe { s4 with heap := s4.heap.push { cls := .type "slice", data := .fields #[vl, vu, vs] } }
  refine tail_any (ops := [.ref a, .ref s4.heap.objs.size]) ht.typeIs (PyProof.Rows.slot_tuple_getitem.lookup) ?_ (by with_unfolding_all rfl)
  refine getItem_tuple_rev ht (Heap.IsSliceOf.new _ vl vu vs) pl pu ps ?_ (by rw [List.size_toArray]; omega)
  refine ⟨.ref _, _, I5.laid (t' := s4.toks) (o := .tup xs.reverse) (fun b ob q => Heap.get?_push_of_some _ q) (Nat.le_refl _) ?_, rfl, q _ (I5.hok.fresh (Nat.le_refl _))⟩
  exact ⟨by rw [List.length_reverse]; exact hz, _, r.reverse, IsTup.new _ _⟩
end
/-! ### o.m(k = e) -/
def tMethK (C : Addr) (m : Str) (sp : Sp) (gV : List V → List V → List V) (E : XK) (ta : TE) (tk : TA) : TE := fun σ H Q => ta σ H fun x H1 => ∃ a dx fs, x = .ref a ∧ H1 a = some (.ins C dx fs) ∧ fs.lookup m = none ∧
  tk σ H1 fun zs H2 => sp (gV [x] zs) H2 Q E
section
variable {X : Cx} {CX : CXT} {k : Nat} {f C : Addr} {fd : FuncData} {ps ks : List Str} {sp : Sp} {E : XK} {m : Str} {pos apos : Pos} {o : Expr} {kws : List Keyword} {ta : TE} {tk : TA} {g : List Value → List Value → List Value} {gV : List V → List V → List V}
theorem pe_methK {pl : Sem Bool} (he : PE X o ta) (c : Cls X.K C) (hm : Meth X.K C m f) (F : FnOk X.prog X.w X.K X.mg X.base CX k f fd ps sp) (hr : Room k X.A) (hb : KBinds X.K fd ps ks g gV) (hx : Passes CX X E) (hkw : PK X kws tk)
    (hall : (backToKw pos (keywordEach kws X.env)).all (·.1.isSome) = true := by rfl) (hks : (backToKw pos (keywordEach kws X.env)).filterMap (·.1) = ks := by rfl)
    (hpl : ((backTo pos (starEach [] X.env)).any (·.1) || (backToKw pos (keywordEach kws X.env)).any (·.1.isNone)) = false := by rfl)
    (ht : eval (.Call (.Attribute o m apos) [] kws pos) X.env = (do
      let ov ← eval o X.env
      standAt apos.atName
      let (f, first) ← holding [ov] (getMethod ov m pl)
      callWith pos f first (backTo pos (starEach [] X.env)) (backToKw pos (keywordEach kws X.env))) := by rfl) :
    PE X (.Call (.Attribute o m apos) [] kws pos) (tMethK C m sp gV E ta tk) := by
  refine ⟨fun pins s σ H Q I h => ?_⟩
  refine PySem.W.methodCall_KW (pl := pl) (thn (he.run pins s σ H _ I h) fun u s1 ⟨x, H1, I1, rx, a, dx, fs, ex, ea, l, q⟩ => ?_) ht
  subst ex
  obtain rfl : u = Value.ref a := rx
  refine getmeth_ok I1 ea c hm l ?_
  refine PySem.W.callWith_KW0 (first := [.ref a]) (h₀ := X.base) I.ok.mod.kin hm.kp hall ?_ hpl
  refine thn (hkw.run pos pins s1 σ H1 _ I1 q) fun ws s2 ⟨zs, H2, I2, rz, q2⟩ => ⟨I2.kIn, ?_⟩
  rw [hks]
  exact run_fnk (us := [.ref a]) (vs := [.ref a]) F hr hb hx I2 (.cons rfl .nil) rz q2
end
end Lk

namespace Lk
open PySem L2
theorem tyL {K : PySem.W.Frag} {H : Hp} {a : Addr} {xs : List V} (h : SqL K H a xs) : TyX K H (.ref a) (.type "list") := by
  rcases h with (h | ⟨o, h⟩) | ⟨o, its, n, hk, hc, _⟩
  · exact .base (.lst h)
  · exact .base (.frz h)
  · exact .kList hk hc
def scal : V → Bool
  | .non => true
  | .bl _ => true
  | .int _ => true
  | .str _ => true
  | _ => false
/-- found and due are alike, their parts m deep -/
def DD (K : PySem.W.Frag) (H : Hp) : Nat → V → V → Prop
  | 0, u, v => scal u = true ∧ u = v
  | m + 1, u, v => (scal u = true ∧ u = v) ∨ ∃ (a b : Addr) (xs ys : List V), u = .ref a ∧ v = .ref b ∧ ((SqT K H a xs ∧ SqT K H b ys) ∨ (SqL K H a xs ∧ SqL K H b ys)) ∧ xs.length = ys.length ∧ xs.length ≤ 1000 ∧ ∀ (i : Nat) (x y : V), xs[i]? = some x → ys[i]? = some y → DD K H m x y
theorem Same.sqL {K : PySem.W.Frag} {H H' : Hp} {a : Addr} {xs : List V} (e : Same H H') (h : SqL K H a xs) : SqL K H' a xs := L2.Same.seq e h
theorem DD.same {K : PySem.W.Frag} {H H' : Hp} (e : Same H H') : ∀ {m : Nat} {u v : V}, DD K H m u v → DD K H' m u v
  | 0, _, _, h => h
  | m + 1, u, v, h => by
    rcases h with h | ⟨a, b, xs, ys, rfl, rfl, hs, hl, h1, hr⟩
    · exact .inl h
    · refine .inr ⟨a, b, xs, ys, rfl, rfl, ?_, hl, h1, fun i x y f1 f2 => DD.same e (hr i x y f1 f2)⟩
      rcases hs with ⟨p, q⟩ | ⟨p, q⟩
      · exact .inl ⟨Same.sqT e p, Same.sqT e q⟩
      · exact .inr ⟨Same.sqL e p, Same.sqL e q⟩
theorem DD.up {K : PySem.W.Frag} {H : Hp} : ∀ {m : Nat} {u v : V}, DD K H m u v → DD K H (m + 1) u v
  | 0, u, v, h => .inl h
  | m + 1, u, v, h => by
    rcases h with h | ⟨a, b, xs, ys, e1, e2, hs, hl, h1, hr⟩
    · exact .inl h
    · exact .inr ⟨a, b, xs, ys, e1, e2, hs, hl, h1, fun i x y f1 f2 => DD.up (hr i x y f1 f2)⟩
def spSame (K : PySem.W.Frag) (m : Nat) : Sp := fun vs H Q _ => ∃ u v, vs = [u, v] ∧ DD K H m u v ∧ ∀ H', Same H H' → Q (.bl true) H'
section
variable {P : Program} {w : World} {K : PySem.W.Frag} {mg : Str → Option Value} {base : Heap}
theorem ok_same {f : Addr} {fd : FuncData} {k : Nat} (F : Fun K "_law_same" "_law_same" sLSame f fd) (ms : mg "isinstance" = none) (m1 : mg "list" = none) (m2 : mg "tuple" = none) (m3 : mg "dict" = none) (m4 : mg "bool" = none) (m5 : mg "int" = none) (m6 : mg "str" = none)
    (ml : mg "len" = none) (ma : mg "all" = none) (mz : mg "zip" = none) (gF : mg "_law_same" = some (.ref f)) (bF : Binds K fd ["_law_found", "_law_due"] []) :
    ∀ m : Nat, FnOk P w K mg base CX0 (k + 1 + m) f fd ["_law_found", "_law_due"] (spSame K m) := by
  intro m
  induction m with
  | zero =>
    refine F.ok scLSame (fun vs H Q E h => ?_) (fun cdv A outer s H vs Q E hr h => ?_)
    · obtain ⟨u, v, rfl, _⟩ := h
      rfl
    obtain ⟨u, v, rfl, hd, q⟩ := h
    refine ⟨_, pss_cons (ps_if (PW.pt (pw_or (pt_val (pe_callB call_isi (by rfl) ms (by decide +kernel) (pa_cons (pv 1) (pa_cons (pe_bltn (v := .ty "list") (by rfl) m1 (by decide +kernel) rfl) pa_nil)))) (pw_or1 (pt_val (pe_callB call_isi (by rfl) ms (by decide +kernel) (pa_cons (pv 1) (pa_cons (pe_bltn (v := .ty "tuple") (by rfl) m2 (by decide +kernel) rfl) pa_nil))))))) pss_never pss_nil)
      (pss_cons (ps_if (pt_val (pe_callB call_isi (by rfl) ms (by decide +kernel) (pa_cons (pv 1) (pa_cons (pe_bltn (v := .ty "dict") (by rfl) m3 (by decide +kernel) rfl) pa_nil)))) pss_never pss_nil)
      (pss_cons (ps_if (PW.pt (pw_or (pt_cmpR op_isN (pv 1) pe_non (nomark _)) (pw_or1 (pt_cmpR op_isN (pv 0) pe_non (nomark _))))) (pss_one (ps_ret (pe_and (pe_cmpR op_isN (pv 1) pe_non (nomark _)) (pe_one (pe_cmpR op_isN (pv 0) pe_non (nomark _)))))) pss_nil)
      (pss_cons (ps_if (PW.pt (pw_or (pt_cmpR op_ne (pe_callB call_isi (by rfl) ms (by decide +kernel) (pa_cons (pv 0) (pa_cons (pe_bltn (v := .ty "bool") (by rfl) m4 (by decide +kernel) rfl) pa_nil))) (pe_callB call_isi (by rfl) ms (by decide +kernel) (pa_cons (pv 1) (pa_cons (pe_bltn (v := .ty "bool") (by rfl) m4 (by decide +kernel) rfl) pa_nil))) (nomark _)) (pw_or1 (pt_cmpR op_ne (pe_callB call_isi (by rfl) ms (by decide +kernel) (pa_cons (pv 0) (pa_cons (pe_bltn (v := .ty "int") (by rfl) m5 (by decide +kernel) rfl) pa_nil))) (pe_callB call_isi (by rfl) ms (by decide +kernel) (pa_cons (pv 1) (pa_cons (pe_bltn (v := .ty "int") (by rfl) m5 (by decide +kernel) rfl) pa_nil))) (nomark _))))) (pss_one (ps_ret pe_bl)) pss_nil)
      (pss_one (ps_ret (pe_and (pe_cmpR op_eq (pe_callB call_isi (by rfl) ms (by decide +kernel) (pa_cons (pv 0) (pa_cons (pe_bltn (v := .ty "str") (by rfl) m6 (by decide +kernel) rfl) pa_nil))) (pe_callB call_isi (by rfl) ms (by decide +kernel) (pa_cons (pv 1) (pa_cons (pe_bltn (v := .ty "str") (by rfl) m6 (by decide +kernel) rfl) pa_nil))) (nomark _)) (pe_one (pe_cmpR op_eq (pv 0) (pv 1) (nomark _))))))))), ?_⟩
    obtain ⟨hs, rfl⟩ := hd
    have qq := q H (Same.refl _)
    cases u with
    | non =>
      refine ⟨_, rfl, _, _, _, _, false, rfl, .ty _, .base .non, kit_ty (by decide +kernel), false, rfl, iteF ?_⟩
      refine ⟨_, rfl, _, _, _, _, false, rfl, .ty _, .base .non, kit_ty (by decide +kernel), false, rfl, iteF ?_⟩
      refine ⟨_, rfl, _, _, _, _, false, rfl, .ty _, .base .non, kit_ty (by decide +kernel), false, rfl, iteF ?_⟩
      exact ⟨_, rfl, rfl, true, rfl, iteT ⟨_, rfl, rfl, true, rfl, iteT ⟨_, rfl, rfl, qq⟩⟩⟩
    | bl x =>
      refine ⟨_, rfl, _, _, _, _, false, rfl, .ty _, .base (.bl x), kit_ty (by decide +kernel), false, rfl, iteF ?_⟩
      refine ⟨_, rfl, _, _, _, _, false, rfl, .ty _, .base (.bl x), kit_ty (by decide +kernel), false, rfl, iteF ?_⟩
      refine ⟨_, rfl, _, _, _, _, false, rfl, .ty _, .base (.bl x), kit_ty (by decide +kernel), false, rfl, iteF ?_⟩
      refine ⟨_, rfl, rfl, false, rfl, iteF ⟨_, rfl, rfl, false, rfl, iteF ?_⟩⟩
      refine ⟨_, rfl, _, _, _, _, true, rfl, .ty _, .base (.bl x), kit_ty (by decide +kernel), _, rfl, _, _, _, _, true, rfl, .ty _, .base (.bl x), kit_ty (by decide +kernel), rfl, false, rfl, iteF ?_⟩
      refine ⟨_, rfl, _, _, _, _, true, rfl, .ty _, .base (.bl x), kit_ty (by decide +kernel), _, rfl, _, _, _, _, true, rfl, .ty _, .base (.bl x), kit_ty (by decide +kernel), rfl, false, rfl, iteF ?_⟩
      refine ⟨_, rfl, _, _, _, _, false, rfl, .ty _, .base (.bl x), kit_ty (by decide +kernel), _, rfl, _, _, _, _, false, rfl, .ty _, .base (.bl x), kit_ty (by decide +kernel), rfl, true, rfl, iteT ?_⟩
      refine ⟨_, rfl, _, rfl, rfl, ?_⟩
      rw [decide_eq_true rfl]
      exact qq
    | int x =>
      refine ⟨_, rfl, _, _, _, _, false, rfl, .ty _, .base (.int x), kit_ty (by decide +kernel), false, rfl, iteF ?_⟩
      refine ⟨_, rfl, _, _, _, _, false, rfl, .ty _, .base (.int x), kit_ty (by decide +kernel), false, rfl, iteF ?_⟩
      refine ⟨_, rfl, _, _, _, _, false, rfl, .ty _, .base (.int x), kit_ty (by decide +kernel), false, rfl, iteF ?_⟩
      refine ⟨_, rfl, rfl, false, rfl, iteF ⟨_, rfl, rfl, false, rfl, iteF ?_⟩⟩
      refine ⟨_, rfl, _, _, _, _, false, rfl, .ty _, .base (.int x), kit_ty (by decide +kernel), _, rfl, _, _, _, _, false, rfl, .ty _, .base (.int x), kit_ty (by decide +kernel), rfl, false, rfl, iteF ?_⟩
      refine ⟨_, rfl, _, _, _, _, true, rfl, .ty _, .base (.int x), kit_ty (by decide +kernel), _, rfl, _, _, _, _, true, rfl, .ty _, .base (.int x), kit_ty (by decide +kernel), rfl, false, rfl, iteF ?_⟩
      refine ⟨_, rfl, _, _, _, _, false, rfl, .ty _, .base (.int x), kit_ty (by decide +kernel), _, rfl, _, _, _, _, false, rfl, .ty _, .base (.int x), kit_ty (by decide +kernel), rfl, true, rfl, iteT ?_⟩
      refine ⟨_, rfl, _, rfl, rfl, ?_⟩
      rw [decide_eq_true rfl]
      exact qq
    | str x =>
      refine ⟨_, rfl, _, _, _, _, false, rfl, .ty _, .base (.str x), kit_ty (by decide +kernel), false, rfl, iteF ?_⟩
      refine ⟨_, rfl, _, _, _, _, false, rfl, .ty _, .base (.str x), kit_ty (by decide +kernel), false, rfl, iteF ?_⟩
      refine ⟨_, rfl, _, _, _, _, false, rfl, .ty _, .base (.str x), kit_ty (by decide +kernel), false, rfl, iteF ?_⟩
      refine ⟨_, rfl, rfl, false, rfl, iteF ⟨_, rfl, rfl, false, rfl, iteF ?_⟩⟩
      refine ⟨_, rfl, _, _, _, _, false, rfl, .ty _, .base (.str x), kit_ty (by decide +kernel), _, rfl, _, _, _, _, false, rfl, .ty _, .base (.str x), kit_ty (by decide +kernel), rfl, false, rfl, iteF ?_⟩
      refine ⟨_, rfl, _, _, _, _, false, rfl, .ty _, .base (.str x), kit_ty (by decide +kernel), _, rfl, _, _, _, _, false, rfl, .ty _, .base (.str x), kit_ty (by decide +kernel), rfl, false, rfl, iteF ?_⟩
      refine ⟨_, rfl, _, _, _, _, true, rfl, .ty _, .base (.str x), kit_ty (by decide +kernel), _, rfl, _, _, _, _, true, rfl, .ty _, .base (.str x), kit_ty (by decide +kernel), rfl, true, rfl, iteT ?_⟩
      refine ⟨_, rfl, _, rfl, rfl, ?_⟩
      rw [decide_eq_true rfl]
      exact qq
    | _ => cases hs
  | succ m GT =>
    refine F.ok scLSame (fun vs H Q E h => ?_) (fun cdv A outer s H vs Q E hr h => ?_)
    · obtain ⟨u, v, rfl, _⟩ := h
      rfl
    obtain ⟨u, v, rfl, hd, q⟩ := h
    have hr' : Room (k + 1 + m) _ := hr
    refine ⟨_, pss_cons (ps_if (PW.pt (pw_or (pt_val (pe_callB call_isi (by rfl) ms (by decide +kernel) (pa_cons (pv 1) (pa_cons (pe_bltn (v := .ty "list") (by rfl) m1 (by decide +kernel) rfl) pa_nil)))) (pw_or1 (pt_val (pe_callB call_isi (by rfl) ms (by decide +kernel) (pa_cons (pv 1) (pa_cons (pe_bltn (v := .ty "tuple") (by rfl) m2 (by decide +kernel) rfl) pa_nil)))))))
        (pss_cons (ps_if (PW.pt (pw_or (pt_cmpR op_ne (pe_callB call_isi (by rfl) ms (by decide +kernel) (pa_cons (pv 0) (pa_cons (pe_bltn (v := .ty "list") (by rfl) m1 (by decide +kernel) rfl) pa_nil))) (pe_callB call_isi (by rfl) ms (by decide +kernel) (pa_cons (pv 1) (pa_cons (pe_bltn (v := .ty "list") (by rfl) m1 (by decide +kernel) rfl) pa_nil))) (nomark _)) (pw_or1 (pt_cmpR op_ne (pe_callB call_isi (by rfl) ms (by decide +kernel) (pa_cons (pv 0) (pa_cons (pe_bltn (v := .ty "tuple") (by rfl) m2 (by decide +kernel) rfl) pa_nil))) (pe_callB call_isi (by rfl) ms (by decide +kernel) (pa_cons (pv 1) (pa_cons (pe_bltn (v := .ty "tuple") (by rfl) m2 (by decide +kernel) rfl) pa_nil))) (nomark _))))) (pss_one (ps_ret pe_bl)) pss_nil)
        (pss_one (ps_ret (pe_and (pe_cmpR op_eq (pe_callB call_len_seq (by rfl) ml PySem.boot_len (pa_cons (pv 0) pa_nil)) (pe_callB call_len_seq (by rfl) ml PySem.boot_len (pa_cons (pv 1) pa_nil)) (nomark _))
          (pe_one (pe_callB (cr_all rfl) (by rfl) ma (by decide +kernel) (pa_cons (pe_lc (own := [("_law_one", 2), ("_law_other", 3)]) (g := gTup K 2 (gCons (gName 2) (gCons (gName 3) gNil))) (by rfl) scLSame.nd (RZ.pi_zipA (by rfl) mz (pa_cons (pv 0) (pa_cons (pv 1) pa_nil)))
            (blkOk_by (own := [("_law_one", 2), ("_law_other", 3)]) (N := ["_law_found", "_law_due", "_law_one", "_law_other", "_law_key"]) (sc := defScope sLSame) (by decide +kernel))
            (fun _ _ _ _ _ => pg_tup rfl (pgs_cons (pg_name (i := 2) scLSame.nd rfl (.inl rfl)) (pgs_cons (pg_name (i := 3) scLSame.nd rfl (.inl rfl)) pgs_nil))) (fun _ _ _ _ _ => pts_nil)
            (fun _ _ _ _ _ => pe_call GT hr' (by rfl) gF F.kp bF .nil pass0 (pa_cons (pv 2) (pa_cons (pv 3) pa_nil)))) pa_nil))))))) pss_nil)
      (pss_cons (ps_if (pt_val (pe_callB call_isi (by rfl) ms (by decide +kernel) (pa_cons (pv 1) (pa_cons (pe_bltn (v := .ty "dict") (by rfl) m3 (by decide +kernel) rfl) pa_nil)))) pss_never pss_nil)
      (pss_cons (ps_if (PW.pt (pw_or (pt_cmpR op_isN (pv 1) pe_non (nomark _)) (pw_or1 (pt_cmpR op_isN (pv 0) pe_non (nomark _))))) (pss_one (ps_ret (pe_and (pe_cmpR op_isN (pv 1) pe_non (nomark _)) (pe_one (pe_cmpR op_isN (pv 0) pe_non (nomark _)))))) pss_nil)
      (pss_cons (ps_if (PW.pt (pw_or (pt_cmpR op_ne (pe_callB call_isi (by rfl) ms (by decide +kernel) (pa_cons (pv 0) (pa_cons (pe_bltn (v := .ty "bool") (by rfl) m4 (by decide +kernel) rfl) pa_nil))) (pe_callB call_isi (by rfl) ms (by decide +kernel) (pa_cons (pv 1) (pa_cons (pe_bltn (v := .ty "bool") (by rfl) m4 (by decide +kernel) rfl) pa_nil))) (nomark _)) (pw_or1 (pt_cmpR op_ne (pe_callB call_isi (by rfl) ms (by decide +kernel) (pa_cons (pv 0) (pa_cons (pe_bltn (v := .ty "int") (by rfl) m5 (by decide +kernel) rfl) pa_nil))) (pe_callB call_isi (by rfl) ms (by decide +kernel) (pa_cons (pv 1) (pa_cons (pe_bltn (v := .ty "int") (by rfl) m5 (by decide +kernel) rfl) pa_nil))) (nomark _))))) (pss_one (ps_ret pe_bl)) pss_nil)
      (pss_one (ps_ret (pe_and (pe_cmpR op_eq (pe_callB call_isi (by rfl) ms (by decide +kernel) (pa_cons (pv 0) (pa_cons (pe_bltn (v := .ty "str") (by rfl) m6 (by decide +kernel) rfl) pa_nil))) (pe_callB call_isi (by rfl) ms (by decide +kernel) (pa_cons (pv 1) (pa_cons (pe_bltn (v := .ty "str") (by rfl) m6 (by decide +kernel) rfl) pa_nil))) (nomark _)) (pe_one (pe_cmpR op_eq (pv 0) (pv 1) (nomark _))))))))), ?_⟩
    rcases hd with ⟨hs, rfl⟩ | ⟨a, b, xs, ys, rfl, rfl, hS, hl, h1, hr2⟩
    · have qq := q H (Same.refl _)
      cases u with
      | non =>
        refine ⟨_, rfl, _, _, _, _, false, rfl, .ty _, .base .non, kit_ty (by decide +kernel), false, rfl, iteF ?_⟩
        refine ⟨_, rfl, _, _, _, _, false, rfl, .ty _, .base .non, kit_ty (by decide +kernel), false, rfl, iteF ?_⟩
        refine ⟨_, rfl, _, _, _, _, false, rfl, .ty _, .base .non, kit_ty (by decide +kernel), false, rfl, iteF ?_⟩
        exact ⟨_, rfl, rfl, true, rfl, iteT ⟨_, rfl, rfl, true, rfl, iteT ⟨_, rfl, rfl, qq⟩⟩⟩
      | bl x =>
        refine ⟨_, rfl, _, _, _, _, false, rfl, .ty _, .base (.bl x), kit_ty (by decide +kernel), false, rfl, iteF ?_⟩
        refine ⟨_, rfl, _, _, _, _, false, rfl, .ty _, .base (.bl x), kit_ty (by decide +kernel), false, rfl, iteF ?_⟩
        refine ⟨_, rfl, _, _, _, _, false, rfl, .ty _, .base (.bl x), kit_ty (by decide +kernel), false, rfl, iteF ?_⟩
        refine ⟨_, rfl, rfl, false, rfl, iteF ⟨_, rfl, rfl, false, rfl, iteF ?_⟩⟩
        refine ⟨_, rfl, _, _, _, _, true, rfl, .ty _, .base (.bl x), kit_ty (by decide +kernel), _, rfl, _, _, _, _, true, rfl, .ty _, .base (.bl x), kit_ty (by decide +kernel), rfl, false, rfl, iteF ?_⟩
        refine ⟨_, rfl, _, _, _, _, true, rfl, .ty _, .base (.bl x), kit_ty (by decide +kernel), _, rfl, _, _, _, _, true, rfl, .ty _, .base (.bl x), kit_ty (by decide +kernel), rfl, false, rfl, iteF ?_⟩
        refine ⟨_, rfl, _, _, _, _, false, rfl, .ty _, .base (.bl x), kit_ty (by decide +kernel), _, rfl, _, _, _, _, false, rfl, .ty _, .base (.bl x), kit_ty (by decide +kernel), rfl, true, rfl, iteT ?_⟩
        refine ⟨_, rfl, _, rfl, rfl, ?_⟩
        rw [decide_eq_true rfl]
        exact qq
      | int x =>
        refine ⟨_, rfl, _, _, _, _, false, rfl, .ty _, .base (.int x), kit_ty (by decide +kernel), false, rfl, iteF ?_⟩
        refine ⟨_, rfl, _, _, _, _, false, rfl, .ty _, .base (.int x), kit_ty (by decide +kernel), false, rfl, iteF ?_⟩
        refine ⟨_, rfl, _, _, _, _, false, rfl, .ty _, .base (.int x), kit_ty (by decide +kernel), false, rfl, iteF ?_⟩
        refine ⟨_, rfl, rfl, false, rfl, iteF ⟨_, rfl, rfl, false, rfl, iteF ?_⟩⟩
        refine ⟨_, rfl, _, _, _, _, false, rfl, .ty _, .base (.int x), kit_ty (by decide +kernel), _, rfl, _, _, _, _, false, rfl, .ty _, .base (.int x), kit_ty (by decide +kernel), rfl, false, rfl, iteF ?_⟩
        refine ⟨_, rfl, _, _, _, _, true, rfl, .ty _, .base (.int x), kit_ty (by decide +kernel), _, rfl, _, _, _, _, true, rfl, .ty _, .base (.int x), kit_ty (by decide +kernel), rfl, false, rfl, iteF ?_⟩
        refine ⟨_, rfl, _, _, _, _, false, rfl, .ty _, .base (.int x), kit_ty (by decide +kernel), _, rfl, _, _, _, _, false, rfl, .ty _, .base (.int x), kit_ty (by decide +kernel), rfl, true, rfl, iteT ?_⟩
        refine ⟨_, rfl, _, rfl, rfl, ?_⟩
        rw [decide_eq_true rfl]
        exact qq
      | str x =>
        refine ⟨_, rfl, _, _, _, _, false, rfl, .ty _, .base (.str x), kit_ty (by decide +kernel), false, rfl, iteF ?_⟩
        refine ⟨_, rfl, _, _, _, _, false, rfl, .ty _, .base (.str x), kit_ty (by decide +kernel), false, rfl, iteF ?_⟩
        refine ⟨_, rfl, _, _, _, _, false, rfl, .ty _, .base (.str x), kit_ty (by decide +kernel), false, rfl, iteF ?_⟩
        refine ⟨_, rfl, rfl, false, rfl, iteF ⟨_, rfl, rfl, false, rfl, iteF ?_⟩⟩
        refine ⟨_, rfl, _, _, _, _, false, rfl, .ty _, .base (.str x), kit_ty (by decide +kernel), _, rfl, _, _, _, _, false, rfl, .ty _, .base (.str x), kit_ty (by decide +kernel), rfl, false, rfl, iteF ?_⟩
        refine ⟨_, rfl, _, _, _, _, false, rfl, .ty _, .base (.str x), kit_ty (by decide +kernel), _, rfl, _, _, _, _, false, rfl, .ty _, .base (.str x), kit_ty (by decide +kernel), rfl, false, rfl, iteF ?_⟩
        refine ⟨_, rfl, _, _, _, _, true, rfl, .ty _, .base (.str x), kit_ty (by decide +kernel), _, rfl, _, _, _, _, true, rfl, .ty _, .base (.str x), kit_ty (by decide +kernel), rfl, true, rfl, iteT ?_⟩
        refine ⟨_, rfl, _, rfl, rfl, ?_⟩
        rw [decide_eq_true rfl]
        exact qq
      | _ => cases hs
    -- the parts
    have lens : ∀ {D : Addr} {H2 : Hp} {i : Nat} {n : Nat}, i < n → n = xs.length → (((List.replicate i true).map V.bl)).length < sizeLine := fun {D H2 i n} hi hn => by
      rw [List.length_map, List.length_replicate]
      exact small1000 (by omega)
    have step : ∀ {D T : Addr} {H2 : Hp} {i : Nat} {x y : V}, H D = none → xs[i]? = some x → ys[i]? = some y → Same H H2 → H2 D = some (.lst ((List.replicate i true).map V.bl)) → H2 T = none →
        spSame K m [x, y] (upd H2 T (.tup [x, y])) (fun v H3 => ∃ acc, H3 D = some (.lst acc) ∧ acc.length < sizeLine ∧ Same H (upd H3 D (.lst (acc ++ [v]))) ∧ (upd H3 D (.lst (acc ++ [v]))) D = some (.lst ((List.replicate (i + 1) true).map V.bl))) E0 := fun {D T H2 i x y} nD fx fy sm hD nT => by
      refine ⟨x, y, rfl, DD.same (sm.trans (same_new nT)) (hr2 i x y fx fy), fun H3 s3 => ?_⟩
      have hi : i < xs.length := (List.getElem?_eq_some_iff.mp fx).1
      have hD2 : (upd H2 T (.tup [x, y])) D = some (.lst ((List.replicate i true).map V.bl)) := by
        rw [upd_ne (ne_of_none hD nT)]
        exact hD
      refine ⟨_, s3 _ _ hD2, ?_, ?_, ?_⟩
      · rw [List.length_map, List.length_replicate]
        exact small1000 (by omega)
      · intro c o e
        rw [upd_ne (ne_of_none e nD)]
        exact s3 _ _ ((same_new nT) _ _ (sm _ _ e))
      · rw [upd_same, List.replicate_succ', List.map_append]
        rfl
    have fin : ∀ {D : Addr} {H2 : Hp} {n : Nat}, Same H H2 → H2 D = some (.lst ((List.replicate n true).map V.bl)) → ∃ (a : Addr) (bs : List Bool), [V.ref D] = [V.ref a] ∧ SqL K H2 a (bs.map V.bl) ∧ Q (.bl (bs.all id)) H2 := fun {D H2 n} sm hD => by
      refine ⟨D, List.replicate n true, rfl, SqL.of hD, ?_⟩
      have e : (List.replicate n true).all id = true := by simp
      rw [e]
      exact q H2 sm
    rcases hS with ⟨hA, hB⟩ | ⟨hA, hB⟩
    · refine ⟨_, rfl, _, _, _, _, false, rfl, .ty _, tyT hB, kit_ty (by decide +kernel), false, rfl, iteF ?_⟩
      refine ⟨_, rfl, _, _, _, _, true, rfl, .ty _, tyT hB, kit_ty (by decide +kernel), true, rfl, iteT ?_⟩
      refine ⟨_, rfl, _, _, _, _, false, rfl, .ty _, tyT hA, kit_ty (by decide +kernel), _, rfl, _, _, _, _, false, rfl, .ty _, tyT hB, kit_ty (by decide +kernel), rfl, false, rfl, iteF ?_⟩
      refine ⟨_, rfl, _, _, _, _, true, rfl, .ty _, tyT hA, kit_ty (by decide +kernel), _, rfl, _, _, _, _, true, rfl, .ty _, tyT hB, kit_ty (by decide +kernel), rfl, false, rfl, iteF ?_⟩
      refine ⟨_, rfl, a, _, rfl, .inr hA, _, rfl, b, _, rfl, .inr hB, rfl, true, congrArg V.bl (decide_eq_true (by rw [hl])), iteT ?_⟩
      refine ⟨_, rfl, _, rfl, a, b, xs, ys, rfl, .inr ⟨hA, hB, fun D nD => ?_⟩⟩
      refine lc_it (walk_zipT hl) (fun i H2 => Same H H2 ∧ H2 D = some (.lst ((List.replicate i true).map V.bl))) ⟨same_new nD, upd_same⟩ (fun i H2 _ ⟨sm, _⟩ => ⟨Same.sqT sm hA, Same.sqT sm hB⟩) ?_ ?_
      · rintro i x H2 H3 hi ⟨sm, hD⟩ ⟨T, x1, x2, rfl, nT, rfl, f1, f2⟩
        refine ⟨T, _, rfl, SqT.of upd_same, rfl, _, _, rfl, _, _, rfl, rfl, rfl, _, rfl, _, rfl, step nD f1 f2 sm hD nT⟩
      · rintro H2 ⟨sm, hD⟩
        exact fin sm hD
    · refine ⟨_, rfl, _, _, _, _, true, rfl, .ty _, tyL hB, kit_ty (by decide +kernel), true, rfl, iteT ?_⟩
      refine ⟨_, rfl, _, _, _, _, true, rfl, .ty _, tyL hA, kit_ty (by decide +kernel), _, rfl, _, _, _, _, true, rfl, .ty _, tyL hB, kit_ty (by decide +kernel), rfl, false, rfl, iteF ?_⟩
      refine ⟨_, rfl, _, _, _, _, false, rfl, .ty _, tyL hA, kit_ty (by decide +kernel), _, rfl, _, _, _, _, false, rfl, .ty _, tyL hB, kit_ty (by decide +kernel), rfl, false, rfl, iteF ?_⟩
      refine ⟨_, rfl, a, _, rfl, .inl hA, _, rfl, b, _, rfl, .inl hB, rfl, true, congrArg V.bl (decide_eq_true (by rw [hl])), iteT ?_⟩
      refine ⟨_, rfl, _, rfl, a, b, xs, ys, rfl, .inl ⟨hA, hB, fun D nD => ?_⟩⟩
      refine lc_it (walk_zip (n := xs.length) (by omega)) (fun i H2 => Same H H2 ∧ H2 D = some (.lst ((List.replicate i true).map V.bl))) ⟨same_new nD, upd_same⟩ (fun i H2 _ ⟨sm, _⟩ => ⟨Same.sqL sm hA, Same.sqL sm hB⟩) ?_ ?_
      · rintro i x H2 H3 hi ⟨sm, hD⟩ ⟨T, x1, x2, rfl, nT, rfl, f1, f2⟩
        refine ⟨T, _, rfl, SqT.of upd_same, rfl, _, _, rfl, _, _, rfl, rfl, rfl, _, rfl, _, rfl, step nD f1 f2 sm hD nT⟩
      · rintro H2 ⟨sm, hD⟩
        exact fin sm hD
end
end Lk

/-! defs of a class whose text says super(): their closure holds the class's own cell -/
namespace Lx
open PySem L2
/-- the context of such a def's body: as any def's, the cell of the class beside -/
def cxK (CX : CXT) (P : Program) (w : World) (K : PySem.W.Frag) (mg : Str → Option Value) (base : Heap) (N : List Str) (qual : Str) (scope : Scope) (f : Addr) (cd : Value) (cc : Addr) (A : Around) (outer : List Env) (s : Shared) (H : Hp) (E : XK) : Cx :=
  { cxOf CX P w K mg base N qual scope f cd A outer s H E with
    A := A.deeper (PySem.W.ksEnv qual scope s.heap.objs.size f cd cc)
    env := PySem.W.ksEnv qual scope s.heap.objs.size f cd cc
    stack := PySem.W.ksEnv qual scope s.heap.objs.size f cd cc :: outer
    fn := fun _ => false
    xe := fun e s' => wpAny (model P w) (A.deeper (PySem.W.ksEnv qual scope s.heap.objs.size f cd cc)) (leaving (PySem.W.ksEnv qual scope s.heap.objs.size f cd cc) e) (fun _ s'' => CX outer H s E e s'') (fun e' s'' => CX outer H s E e' s'') s' }
structure KScope (N : List Str) (sc : Scope) : Prop where
  kind : sc.kind = .function
  co : sc.isCoroutine = false
  gen : sc.isGenerator = false
  nd : N.Nodup
  par : ∀ x ∈ N, sc.names.lookup x = some .local
  cell : ∀ y ∈ sc.names, y.2 ≠ .cell
  free : ∀ y ∈ sc.names, y.2 = .free → y.1 = "__class__"
theorem look_zip : ∀ {ps : List Str} {us : List Value} {i : Nat} {y : Str} {u : Value}, ps.Nodup → ps[i]? = some y → us[i]? = some u → (ps.zip us).reverse.lookup y = some u := by
  have key : ∀ {l : List (Str × Value)} {y : Str} {u : Value}, (l.map (·.1)).Nodup → (y, u) ∈ l → l.lookup y = some u := by
    intro l y u
    induction l with
    | nil => intro _ h; cases h
    | cons q r ih =>
      intro nd h
      obtain ⟨z, v⟩ := q
      rw [List.map_cons, List.nodup_cons] at nd
      rcases List.mem_cons.mp h with e | e
      · cases e
        simp [List.lookup]
      · have ne : y ≠ z := fun ez => nd.1 (by rw [← ez]; exact List.mem_map.mpr ⟨(y, u), e, rfl⟩)
        have nb : (y == z) = false := by simpa using ne
        simp only [List.lookup, nb]
        exact ih nd.2 e
  intro ps us i y u nd h1 h2
  refine key ?_ ?_
  · rw [List.map_reverse]
    refine (List.reverse_perm _).nodup_iff.mpr (nd.sublist ?_)
    have : (ps.zip us).map (·.1) = ps.take us.length := by
      clear h1 h2 nd
      induction ps generalizing us with
      | nil => simp
      | cons p r ih =>
        cases us with
        | nil => simp
        | cons v t => simp [ih]
    rw [this]
    exact List.take_sublist _ _
  · rw [List.mem_reverse]
    have : (ps.zip us)[i]? = some (y, u) := by
      rw [List.getElem?_zip_eq_some]
      exact ⟨h1, h2⟩
    exact List.mem_of_getElem? this
section
variable {CX : CXT} {P : Program} {w : World} {K : PySem.W.Frag} {mg : Str → Option Value} {base : Heap} {N : List Str} {qual : Str} {scope : Scope} {f cc D : Addr} {cd : Value} {A : Around} {outer : List Env} {s : Shared} {H : Hp} {E : XK} {us : List Value} {vs : List V}
theorem inv_startK (S : KScope N scope) (hd : A.handled = none) (e0 : Env0 P w K mg base A outer s H) (hl : vs.length = N.length) (r : Vals vs us) {cl : Value} {cld : Option Addr} {csl : Array (Option Value)} {cv : Option Value}
    (hcell : K.lookup cc = some ⟨cl, cld, .cell cv, csl⟩) {h1 : Heap} {tk : Nat} (hns : h1.Ns s.heap.objs.size (fun x => (N.zip us).reverse.lookup x)) (hk : ∀ b o, s.heap.get? b = some o → h1.get? b = some o) :
    Inv (cxK CX P w K mg base N qual scope f cd cc A outer s H E) [] (L2.start N vs) H { s with heap := h1, toks := tk } := by
  have hb := e0.bs cc _ (e0.mod.kin _ _ hcell)
  have noA : ∀ b : Addr, b ∉ (cxK CX P w K mg base N qual scope f cd cc A outer s H E).ex := fun b z => absurd (show b ∈ ([] : List Addr) from z) (by simp)
  have one : ∀ {y : Str} {c : Addr}, (cxK CX P w K mg base N qual scope f cd cc A outer s H E).env.cells.lookup y = some c → y = "__class__" ∧ c = cc := fun {y c} e => by
    have e : List.lookup y [(("__class__" : Str), cc)] = some c := e
    by_cases hy : y = "__class__"
    · subst hy
      simp [List.lookup] at e
      exact ⟨rfl, e.symm⟩
    · have nb : (y == ("__class__" : Str)) = false := by simpa using hy
      simp [List.lookup, nb] at e
  refine ⟨⟨e0.mod, S.kind, rfl, rfl, Nat.le_refl _, fun y z c a b => (one a).1.trans (one b).1.symm, fun y hy => ?_, fun y c z _ => Bool.noConfusion (show false = true from z), fun _ => hd, Around.frames_deeper e0.frames, .inr ⟨rfl, rfl⟩, fun b z => absurd z (noA b), e0.bs, e0.bsz, fun b _ _ => noA b, fun b z => absurd z (noA b), e0.funs, e0.frf⟩,
    rfl, e0.bare, Un.kept hk, ⟨_, hns, fun i y v a1 a2 a3 => ?_⟩, fun y c e => ?_, e0.hok.fresh (Nat.le_refl _), fun y c e => ?_, fun p hp => absurd (show p ∈ ([] : List (Addr × Obj)) from hp) (by simp), e0.hok.kept hk, ?_⟩
  · have hy : scope.names.lookup y = some .cell ∨ scope.names.lookup y = some .free := hy
    rcases hy with hy | hy
    · exact absurd rfl (S.cell _ (PySem.mem_of_lookup hy))
    · have := S.free _ (PySem.mem_of_lookup hy) rfl
      have e : y = "__class__" := this
      subst e
      exact ⟨cc, by simp [cxK, List.lookup]⟩
  · have hi : i < vs.length := by
      have : i < N.length := (List.getElem?_eq_some_iff.mp a1).1
      omega
    have ha : vs[i]? = some v := by
      unfold L2.start at a2
      rw [List.getElem?_append_left (by simpa using hi), List.getElem?_map] at a2
      cases e : vs[i]? with
      | none => rw [e] at a2; cases a2
      | some x => rw [e] at a2; cases a2; rfl
    obtain ⟨u, hu, rv⟩ := r.get ha
    have a1' : N[i]? = some y := a1
    exact ⟨u, rv, .inl ⟨S.par y (List.mem_of_getElem? a1'), look_zip S.nd a1' hu⟩⟩
  · rw [(one e).2]
    exact ⟨cv, _, hk _ _ hb.1, rfl⟩
  · rw [(one e).2]
    exact hb.2
  · unfold L2.start
    show _ = N.length
    rw [List.length_append, List.length_map, List.length_replicate]
    omega
/-- THE RULE for such a def -/
theorem fn_ofK {k : Nat} {name : Str} {params : Arguments} {body : List Stmt} {dV kV doc pm ct oc : Value} {an od : Option Addr} {osl : Array (Option Value)} {sp : Sp} {cl : Value} {cld : Option Addr} {csl : Array (Option Value)} {cv : Option Value}
    (lk : K.lookup f = some ⟨oc, od, .func (PySem.W.ksFn name qual params body scope dV kV doc pm an cd ct cc), osl⟩) (hcd : PySem.W.codeIn K cd qual = true) (hcell : K.lookup cc = some ⟨cl, cld, .cell cv, csl⟩) (S : KScope N scope)
    (len : ∀ vs H Q E, sp vs H Q E → vs.length = N.length)
    (hbody : ∀ (A : Around) (outer : List Env) (s s1 : Shared) (H : Hp) (vs : List V) (Q : VK) (E : XK), Room k (A.deeper (PySem.W.ksEnv qual scope s.heap.objs.size f cd cc)) → sp vs H Q E → Inv (cxK CX P w K mg base N qual scope f cd cc A outer s H E) [] (L2.start N vs) H s1 →
      wpAt (model P w) (A.deeper (PySem.W.ksEnv qual scope s.heap.objs.size f cd cc)) (.func body (PySem.W.ksEnv qual scope s.heap.objs.size f cd cc)) (execs body (PySem.W.ksEnv qual scope s.heap.objs.size f cd cc))
        (SP (cxK CX P w K mg base N qual scope f cd cc A outer s H E) [] { nx := fun _ H' => Q .non H', rt := Q }) (cxK CX P w K mg base N qual scope f cd cc A outer s H E).xe s1) :
    FnOk P w K mg base CX (k + 1) f (PySem.W.ksFn name qual params body scope dV kV doc pm an cd ct cc) N sp := by
  refine ⟨len, fun A outer s H args us vs Q E hr e0 hb r hsp => ?_⟩
  have hl := len _ _ _ _ hsp
  have KX : K.In s.heap := e0.mod.kin.keeps fun b o e => (e0.bs b o e).1
  have lim : s.heap.NoLimit := e0.mod.nolimit.keeps fun b o e => (e0.bs b o e).1
  refine ks_codeAny_call_defAt (fd := PySem.W.ksFn name qual params body scope dV kV doc pm an cd ct cc) (body := body) (binds := N.zip us) hr.depth (KX _ _ lk) rfl lim (PySem.W.codeRec_of KX hcd) rfl hb S.cell (fun y hy => S.par _ (List.of_mem_zip hy).1) (fun h₀ hns hk => ?_) S.co S.gen S.kind
  have I : Inv (cxK CX P w K mg base N qual scope f cd cc A outer s H E) [] (L2.start N vs) H { s with heap := h₀, toks := s.toks + (N.zip us).length } := inv_startK S hr.hd e0 hl r hcell hns hk
  refine ks_wpAt_mono (hbody A outer s _ H vs Q E (hr.deeper _) hsp I) (fun fl s' hs => ?_) fun e s' hs => hs
  have fin : ∀ {σ' : L2.St} {H' : Hp} {v : V} {u : Value}, Inv (cxK CX P w K mg base N qual scope f cd cc A outer s H E) [] σ' H' s' → RelV v u → Q v H' → CE outer P w H s Q u s' :=
    fun {σ' H' v u} J rv q => ⟨v, H', J.os, J.bare, J.base, J.hok, rv, q⟩
  cases fl with
  | ret u =>
    obtain ⟨v, σ', H', J, rv, q⟩ := hs
    exact fin J rv q
  | next =>
    obtain ⟨σ', H', J, q⟩ := hs
    exact fin (v := V.non) (u := Value.none) J rfl q
  | brk =>
    obtain ⟨_, _, _, q⟩ := hs
    exact False.elim q
  | cont =>
    obtain ⟨_, _, _, q⟩ := hs
    exact False.elim q
end
end Lx

namespace Lx
open PySem L2
/-- what super() asks in the body of a def of the class at D, self in the first slot -/
structure SupF (X : Cx) (f cc cda D : Addr) : Prop where
  fu : X.env.func = some f
  co : X.env.code = .ref cda
  ce : X.env.cells.lookup ("__class__" : Str) = some cc
  ks : X.env.kindOf ("super" : Str) = some .globalImplicit
  kc : X.env.kindOf ("__class__" : Str) = some .free
  sl : X.env.kindOf ("self" : Str) = some .local
  n0 : X.N[0]? = some ("self" : Str)
  lf : ∃ oc od fd osl ar, X.K.lookup f = some ⟨oc, od, .func fd, osl⟩ ∧ (fd.params.posonlyargs ++ fd.params.args).head? = some ar ∧ ar.arg = ("self" : Str)
  lc : ∃ ccl cdd vs ccs file tf, X.K.lookup cda = some ⟨ccl, cdd, .fields vs, ccs⟩ ∧ vs[2]? = some (.str file tf) ∧ ((X.prog.main.file : Str) == file) = true
  ll : ∃ cl cld csl, X.K.lookup cc = some ⟨cl, cld, .cell (some (.ref D)), csl⟩
  lD : ∃ cdD, PySem.W.clsIn X.K D = some cdD
  ms : X.mg "super" = none
  tp : (X.prog.main.scope.names.lookup ("super" : Str)).isSome = false
  op : PySem.W.nsIn X.K cStatics "thirdparty.any" = some none
section
variable {X : Cx} {pins : List (Addr × Obj)} {σ : L2.St} {H : Hp} {s : Shared} {E : Value → Shared → Prop} {f cc cda D a C : Addr} {d : Option Addr}
theorem cls_obj {K : PySem.W.Frag} {h : Heap} {cd : ClassData} (Y : K.In h) (e : PySem.W.clsIn K D = some cd) : ∃ oD, h.get? D = some oD ∧ oD.data = .cls cd := by
  unfold PySem.W.clsIn at e
  split at e
  · rename_i c d' cd' sl ho
    cases e
    exact ⟨_, Y _ _ ho, rfl⟩
  · cases e
theorem exo_ne {cd : ClassData} (I : Inv X pins σ H s) (ea : H a = some (exo a C d)) (e : PySem.W.clsIn X.K C = some cd) : a ≠ C := fun z => by
  obtain ⟨t1, ho⟩ := exo_at I.hok ea
  obtain ⟨oD, h1, h2⟩ := cls_obj I.kIn e
  rw [← z, ho] at h1
  have e1 := Option.some.inj h1
  rw [← e1] at h2
  cases h2
/-- super() -/
theorem sup_base (S : SupF X f cc cda D) (I : Inv X pins σ H s) (h0 : σ[0]? = some (some (.ref a))) (ea : H a = some (exo a C d)) (hsub : PySem.W.mroIn X.K C (.ref D) = some true) {body : List Stmt} {p0 p1 : Pos} {whole : Sem Value} {Q : Value → Shared → Prop}
    (h : ∀ so s', Inv X ((so, PySem.W.ks_superObj D a C) :: pins) σ H s' → Q (.ref so) s') :
    wpAt (model X.prog X.w) X.A (.func body X.env) (attributeBase (.Call (.Name "super" p0) [] [] p1) "__init__" X.env whole) Q E s := by
  obtain ⟨oc, od, fd, osl, ar, lf, hp, har⟩ := S.lf
  obtain ⟨ccl, cdd, vs, ccs, file, tf, lc, hvs, hfile⟩ := S.lc
  obtain ⟨cl, cld, csl, ll⟩ := S.ll
  obtain ⟨cdD, lD⟩ := S.lD
  obtain ⟨oD, hD1, hD2⟩ := cls_obj I.kIn lD
  obtain ⟨t1, ho⟩ := exo_at I.hok ea
  obtain ⟨mb, b1, b2⟩ := I.mod.blt
  obtain ⟨m, hn, hl⟩ := I.loc
  obtain ⟨u, ru, lo⟩ := hl 0 "self" (.ref a) S.n0 h0 (.inl S.sl)
  obtain rfl : u = Value.ref a := ru
  have hm : m "self" = some (.ref a) := by
    rcases lo with ⟨_, e⟩ | ⟨z, _⟩
    · exact e
    · rw [S.sl] at z
      rcases z with z | z <;> cases z
  refine ks_wpAt_super_base (env := X.env) (f := f) (cc := cda) (ar := ar) (file := file) (tf := tf) S.ks S.kc (by decide) S.fu (I.kIn _ _ lf) rfl hp S.co (I.kIn _ _ lc) rfl hvs hfile S.tp ?_
  refine PySem.W.ks_loadName_global I.ok.kind S.ks (Calls.loadGlobal_builtin (by rw [I.ok.glob]; exact I.mod.glob.keeps I.bk) S.ms (by rw [I.ok.blt]; exact b1.keeps I.bk) ((b2 _ (by decide)).trans (by decide +kernel)) ⟨rfl, ?_⟩)
  refine wpAny_loadName_free I.ok.kind S.kc S.ce ⟨_, I.kIn _ _ ll, rfl⟩ ?_
  rw [har]
  refine wpAny_loadName_local I.ok.kind S.sl hn hm ?_
  refine ks_wpAny_isType_cls hD1 hD2 ⟨rfl, ?_⟩
  obtain ⟨hh, g, dr, t, os⟩ := s
  refine ks_wpAny_call_super hD1 hD2 ho rfl (fun c e => by cases e) (PySem.W.looks_mroIn I.kIn hsub) fun h' e k => ?_
  exact h _ _ (ClX.pin_new (t' := t) I k (Nat.le_refl _) e (fun v z => by cases z))
theorem exo_inst (I : Inv X pins σ H s) (ea : H a = some (exo a C none)) : ∃ ox, PySem.W.InstAt s.heap a ox C none := by
  obtain ⟨t1, ho⟩ := exo_at I.hok ea
  exact ⟨_, ho, rfl, rfl, trivial⟩
/-- super().__init__, the built-in one -/
theorem sup_methB (S : SupF X f cc cda D) {so : Addr} (I : Inv X ((so, PySem.W.ks_superObj D a C) :: pins) σ H s) (ea : H a = some (exo a C none)) (hm : PySem.W.ks_superIn X.K C D "__init__" = some (some (.builtin "ValueError.__init__"))) (hB : PySem.W.subIn X.K (.ref C) (.type "ValueError") = some true) {pl : Sem Bool} {Q : Value × List Value → Shared → Prop}
    (h : ∀ u s', Inv X ((u, PySem.W.kxs_mw "ValueError.__init__" a) :: pins) σ H s' → Q (.ref u, []) s') : wpAny (model X.prog X.w) X.A (getMethod (.ref so) "__init__" pl) Q E s := by
  have hso : s.heap.get? so = some (PySem.W.ks_superObj D a C) := ClX.pin_at I
  have I0 := ClX.unpin I
  obtain ⟨ox, J⟩ := exo_inst I0 ea
  have hI : PySem.W.Looks (model X.prog X.w) s.heap (isInstance (.ref a) (.type "ValueError")) true := J.type.andThen (PySem.W.looks_subIn I.kIn hB)
  obtain ⟨hh, g, dr, t, os⟩ := s
  cases hc : PySem.W.clsIn X.K C with
  | none => unfold PySem.W.ks_superIn at hm; rw [hc] at hm; cases hm
  | some cd =>
    unfold PySem.W.ks_superIn at hm
    rw [hc] at hm
    refine PySem.W.kxs_getMethod PySem.W.kxs_ValueError hso (PySem.W.looks_opaque I.kIn S.op) (l₀ := cd.mro) ?_ rfl I.kIn hm hI (exo_ne I0 ea hc) (by decide) ?_
    · exact fun A Q E s k q => wpAny_bind ((PySem.W.looks_clsIn I.kIn hc) A _ E s k (wpAny_pure q))
    · exact h _ _ (ClX.pin_new (t' := t + 1) I0 (fun b o e => Heap.get?_push_of_some _ e) (Nat.le_refl _) (Heap.get?_push_at rfl rfl) (fun v z => by cases z))
/-- super().__init__, a def of a class of the text -/
theorem sup_methF (S : SupF X f cc cda D) {so f2 : Addr} (I : Inv X ((so, PySem.W.ks_superObj D a C) :: pins) σ H s) (ea : H a = some (exo a C none)) (hm : PySem.W.ks_superIn X.K C D "__init__" = some (some (.ref f2))) (ht : PySem.W.typeIn X.K (.ref f2) = some (.type "function")) {pl : Sem Bool} {Q : Value × List Value → Shared → Prop}
    (h : ∀ u s', Inv X ((u, PySem.W.methodObj (.ref f2) (.ref a)) :: pins) σ H s' → Q (.ref u, []) s') : wpAny (model X.prog X.w) X.A (getMethod (.ref so) "__init__" pl) Q E s := by
  have hso : s.heap.get? so = some (PySem.W.ks_superObj D a C) := ClX.pin_at I
  have I0 := ClX.unpin I
  have KX := I.kIn
  obtain ⟨hh, g, dr, t, os⟩ := s
  cases hc : PySem.W.clsIn X.K C with
  | none => unfold PySem.W.ks_superIn at hm; rw [hc] at hm; cases hm
  | some cd =>
    unfold PySem.W.ks_superIn at hm
    rw [hc] at hm
    obtain ⟨of, hof, hofc⟩ : ∃ of, hh.get? f2 = some of ∧ of.cls = .type "function" := by
      have ht' : (X.K.lookup f2).map (·.cls) = some (.type "function") := ht
      cases z : X.K.lookup f2 with
      | none => rw [z] at ht'; cases ht'
      | some of => rw [z] at ht'; exact ⟨of, KX _ _ z, Option.some.inj ht'⟩
    refine ks_wpAny_getMethod_super hso (PySem.W.looks_opaque KX S.op) (l₀ := cd.mro) ?_ rfl KX hm hof hofc (exo_ne I0 ea hc) (by decide) ?_
    · exact fun A Q E s k q => wpAny_bind ((PySem.W.looks_clsIn KX hc) A _ E s k (wpAny_pure q))
    · exact h _ _ (ClX.pin_new (t' := t + 1) I0 (fun b o e => Heap.get?_push_of_some _ e) (Nat.le_refl _) (Heap.get?_push_at rfl rfl) (fun v z => by cases z))
/-- the bound built-in __init__ is called: nothing of it is told -/
theorem bw_call {u : Addr} {rest : List Value} {Q : Value → Shared → Prop} (T : OexC X.K C) (I : Inv X ((u, PySem.W.kxs_mw "ValueError.__init__" a) :: pins) σ H s) (ea : H a = some (exo a C none)) (hz : rest.length ≤ sizeLine) (h : ∀ s', Inv X pins σ H s' → Q .none s') :
    wpAny (model X.prog X.w) X.A (call (.ref u) rest) Q E s := by
  have hu : s.heap.get? u = some (PySem.W.kxs_mw "ValueError.__init__" a) := ClX.pin_at I
  have I0 := ClX.unpin I
  obtain ⟨nm, q, N, bs, bm, sn, sub, ab, col, dd, k0, k1, k2, k3, k5, hC, hbm⟩ := T.cls
  obtain ⟨t1, ho⟩ := exo_at I0.hok ea
  have hC' := I.kIn _ _ hC
  obtain ⟨hp, g, dr, t, os⟩ := s
  refine wpAny_call (codeAny_of_tree ?_)
  show wpAny _ X.A.in1 (callAny (.ref u) ⟨rest, []⟩) _ _ _
  simp only [callAny]
  refine wpAny_bind (wpAny_load hu ?_)
  simp only [PySem.W.kxs_mw, show (Value.type "method-wrapper" == Value.type "method" || Value.type "method-wrapper" == Value.type "builtin_function_or_method" || Value.type "method-wrapper" == Value.type "method-wrapper") = true by decide, if_true]
  refine PySem.W.KFB.if_so (by decide) ?_
  refine wpAny_bind (PySem.W.check_bound_init F.excBase_ValueError.toExcCallFacts hC' ho rfl ?_)
  refine wpAny_bind (wpAny_pure (wpAny_pure ?_))
  refine ⟨plainId_quiet F.excBase_ValueError.init.plain _, codeAny_builtin F.excBase_ValueError.initEntry ?_⟩
  refine PySem.W.exc_init_tree (cls := .ref C) (t0 := t1) (dv := none) (c2 := .none) (c3 := .none) (b4 := .bool false) ho hz fun h' k hx _ => ?_
  have J := I0.write (t' := t) (x := a) (e := a) (o := exo a C none) (by rw [ea]; exact True.intro) (.inl rfl) k ⟨_, hx⟩ (exo_ok hx)
  have eu : upd H a (exo a C none) = H := by
    funext b
    by_cases hb : b = a
    · rw [hb, upd_same, ea]
    · rw [upd_ne hb]
  rw [eu] at J
  exact h _ J
/-- super().__init__(e, ..) as a statement: the built-in __init__ -/
theorem sup_initB {body : List Stmt} {p0 p1 p2 p3 p4 : Pos} {e : Expr} {es : List Expr} {ta : TA} (S : SupF X f cc cda D) (T : OexC X.K C) (I : Inv X pins σ H s) (h0 : σ[0]? = some (some (.ref a))) (ea : H a = some (exo a C none)) (hsub : PySem.W.mroIn X.K C (.ref D) = some true)
    (hm : PySem.W.ks_superIn X.K C D "__init__" = some (some (.builtin "ValueError.__init__"))) (hB : PySem.W.subIn X.K (.ref C) (.type "ValueError") = some true) (ha : PA X (e :: es) ta) {R : Hp → Prop} (h : ta σ H fun vs H1 => vs.length ≤ 1000 ∧ H1 a = some (exo a C none) ∧ R H1)
    {Q : Flow → Shared → Prop} (hq : ∀ H1 s', Inv X pins σ H1 s' → R H1 → Q .next s') (hi : interactive X.env = false) (he : starEach (e :: es) X.env = (false, eval e X.env) :: starEach es X.env) (hpl : (backTo p3 (starEach es X.env)).any (·.1) = false)
    (pl : Sem Bool)
    (hev2 : eval (.Call (.Attribute (.Call (.Name "super" p0) [] [] p1) "__init__" p2) (e :: es) [] p3) X.env = (do
      let ov ← attributeBase (.Call (.Name "super" p0) [] [] p1) "__init__" X.env (eval (.Call (.Name "super" p0) [] [] p1) X.env)
      standAt p2.atName
      let (f, first) ← holding [ov] (getMethod ov "__init__" pl)
      callWith p3 f first (backTo p3 (starEach (e :: es) X.env)) []))
    (hs : swapsWith (.Call (.Attribute (.Call (.Name "super" p0) [] [] p1) "__init__" p2) (e :: es) [] p3) none p4.line X.env = pure false) :
    wpAt (model X.prog X.w) X.A (.func body X.env) (exec (.Expr (.Call (.Attribute (.Call (.Name "super" p0) [] [] p1) "__init__" p2) (e :: es) [] p3) p4) X.env) Q X.xe s := by
  refine ks_wpAt_Expr_any (ks_wpAt_MethodCall (pl := pl) ?_ hev2) hi hs
  refine sup_base S I h0 ea hsub fun so s1 I1 => ?_
  refine sup_methB S I1 ea hm hB fun u s2 I2 => ?_
  show wpAny _ _ (callWith p3 (.ref u) [] (backTo p3 (starEach (e :: es) X.env)) []) _ _ _
  rw [he]
  refine PySem.W.kxs_callWith (i := "ValueError.__init__") (x := a) (by show (false || (backTo p3 (starEach es X.env)).any (·.1)) = false; rw [hpl]; rfl) ?_
  have hrun := ha.run p3 ((u, PySem.W.kxs_mw "ValueError.__init__" a) :: pins) s2 σ H _ I2 h
  rw [he] at hrun
  refine Calls.evalArgs_plain (thn hrun fun us s3 ⟨vs, H1, I3, r, hl, ea1, hR⟩ => ⟨ClX.pin_at I3, ?_⟩)
  have hlen : us.length ≤ sizeLine := by
    rw [← Paired.length r, sizeLine_eq]
    omega
  exact bw_call T I3 ea1 hlen fun s4 I4 => hq H1 s4 I4 hR
/-- .. : a def of a class of the text -/
theorem sup_initF {body : List Stmt} {p0 p1 p2 p3 p4 : Pos} {e : Expr} {es : List Expr} {ta : TA} {CX : CXT} {k : Nat} {f2 : Addr} {fd2 : FuncData} {ps : List Str} {sp : Sp} (S : SupF X f cc cda D) (I : Inv X pins σ H s) (h0 : σ[0]? = some (some (.ref a))) (ea : H a = some (exo a C none)) (hsub : PySem.W.mroIn X.K C (.ref D) = some true)
    (hm : PySem.W.ks_superIn X.K C D "__init__" = some (some (.ref f2))) (ht : PySem.W.typeIn X.K (.ref f2) = some (.type "function")) (hfi : PySem.W.fnIn X.K f2 = true) (F2 : FnOk X.prog X.w X.K X.mg X.base CX k f2 fd2 ps sp) (hr : Room k X.A) (hb : Binds X.K fd2 ps []) (hx : Passes CX X (fun _ _ _ => False))
    (ha : PA X (e :: es) ta) {R : Hp → Prop} (h : ta σ H fun vs H1 => sp (.ref a :: vs) H1 (fun _ H2 => R H2) (fun _ _ _ => False))
    {Q : Flow → Shared → Prop} (hq : ∀ H1 s', Inv X pins σ H1 s' → R H1 → Q .next s') (hi : interactive X.env = false) (he : starEach (e :: es) X.env = (false, eval e X.env) :: starEach es X.env) (hpl : (backTo p3 (starEach es X.env)).any (·.1) = false) (pl : Sem Bool)
    (hev2 : eval (.Call (.Attribute (.Call (.Name "super" p0) [] [] p1) "__init__" p2) (e :: es) [] p3) X.env = (do
      let ov ← attributeBase (.Call (.Name "super" p0) [] [] p1) "__init__" X.env (eval (.Call (.Name "super" p0) [] [] p1) X.env)
      standAt p2.atName
      let (f, first) ← holding [ov] (getMethod ov "__init__" pl)
      callWith p3 f first (backTo p3 (starEach (e :: es) X.env)) []))
    (hs : swapsWith (.Call (.Attribute (.Call (.Name "super" p0) [] [] p1) "__init__" p2) (e :: es) [] p3) none p4.line X.env = pure false) :
    wpAt (model X.prog X.w) X.A (.func body X.env) (exec (.Expr (.Call (.Attribute (.Call (.Name "super" p0) [] [] p1) "__init__" p2) (e :: es) [] p3) p4) X.env) Q X.xe s := by
  refine ks_wpAt_Expr_any (ks_wpAt_MethodCall (pl := pl) ?_ hev2) hi hs
  refine sup_base S I h0 ea hsub fun so s1 I1 => ?_
  refine sup_methF S I1 ea hm ht fun u s2 I2 => ?_
  show wpAny _ _ (callWith p3 (.ref u) [] (backTo p3 (starEach (e :: es) X.env)) []) _ _ _
  rw [he]
  have hrun := ha.run p3 ((u, PySem.W.methodObj (.ref f2) (.ref a)) :: pins) s2 σ H _ I2 h
  rw [he] at hrun
  refine PySem.W.callWith_of (by show ((false || (backTo p3 (starEach es X.env)).any (·.1)) || false) = false; rw [hpl]; rfl) (PySem.W.keeps_M hfi) (Calls.evalArgs_plain (thn hrun fun us s3 ⟨vs, H1, I3, r, q⟩ => ⟨⟨ClX.pin_at I3, I3.kIn⟩, ?_⟩))
  have I4 := ClX.unpin I3
  have r2 : Vals (.ref a :: vs) (.ref a :: us) := .cons rfl r
  have hl : (Value.ref a :: us).length = ps.length := by
    rw [← r2.length]
    exact F2.len _ _ _ _ q
  refine wpAny_call (PySem.W.method_call (ClX.pin_at I3) (codeAny_mono (F2.run X.A X.stack s3 H1 ⟨.ref a :: us, []⟩ (.ref a :: us) (.ref a :: vs) _ _ hr I4.env0 (by
    have := hb s3 (.ref a :: us) I4.kIn (by simpa using hl)
    simpa using this) r2 q) fun rr s4 hq4 => ?_))
  cases rr with
  | error er => exact hx pins σ H1 s3 er s4 I4 hq4
  | ok fl =>
    cases fl with
    | ret u =>
      obtain ⟨v, H2, J, rv, hR⟩ := I4.after hq4
      exact hq H2 s4 J hR
    | next => exact False.elim hq4
    | brk => exact False.elim hq4
    | cont => exact False.elim hq4
end
end Lx

namespace Lx
open PySem L2 Lk
theorem kSE : KScope ["self", "tag", "why"] (defScope sSE) := ⟨rfl, rfl, rfl, by decide +kernel, by decide +kernel, by decide +kernel, by decide +kernel⟩
theorem kIP : KScope ["self", "given"] (defScope sIP) := ⟨rfl, rfl, rfl, by decide +kernel, by decide +kernel, by decide +kernel, by decide +kernel⟩
theorem kID : KScope ["self"] (defScope sID) := ⟨rfl, rfl, rfl, by decide +kernel, by decide +kernel, by decide +kernel, by decide +kernel⟩
theorem kTM : KScope ["self", "limit"] (defScope sTM) := ⟨rfl, rfl, rfl, by decide +kernel, by decide +kernel, by decide +kernel, by decide +kernel⟩
/-- what the written part tells of an __init__ that says super() -/
structure InitF (P : Program) (K : PySem.W.Frag) (mg : Str → Option Value) (qual : Str) (st : Stmt) (D f cc cda : Addr) (fd : FuncData) : Prop where
  ex : ∃ oc od kV doc pm an ct osl, fd = PySem.W.ksFn "__init__" qual (defArgs st) (defBody st) (defScope st) .none kV doc pm an (.ref cda) ct cc ∧ K.lookup f = some ⟨oc, od, .func fd, osl⟩
  cd : PySem.W.codeIn K (.ref cda) qual = true
  lc : ∃ ccl cdd vs ccs file tf, K.lookup cda = some ⟨ccl, cdd, .fields vs, ccs⟩ ∧ vs[2]? = some (.str file tf) ∧ ((P.main.file : Str) == file) = true
  ll : ∃ cl cld csl, K.lookup cc = some ⟨cl, cld, .cell (some (.ref D)), csl⟩
  lD : ∃ cdD, PySem.W.clsIn K D = some cdD
  ms : mg "super" = none
  tp : (P.main.scope.names.lookup ("super" : Str)).isSome = false
  op : PySem.W.nsIn K cStatics "thirdparty.any" = some none
def spSE (K : PySem.W.Frag) (D : Addr) : Sp := fun vs H Q _ => ∃ (a C : Addr) (tg wy : V), vs = [.ref a, tg, wy] ∧ OexC K C ∧ H a = some (exo a C none) ∧ PySem.W.mroIn K C (.ref D) = some true ∧ PySem.W.ks_superIn K C D "__init__" = some (some (.builtin "ValueError.__init__")) ∧ PySem.W.subIn K (.ref C) (.type "ValueError") = some true ∧ PySem.W.findIn K (.ref C) "tag" = some none ∧
  ∀ dx, H dx = none → dx ≠ a → Q .non (upd (upd H dx (exd dx [("tag", tg)])) a (exo a C (some dx)))
section
variable {P : Program} {w : World} {K : PySem.W.Frag} {mg : Str → Option Value} {base : Heap}
theorem ok_se {D f cc cda : Addr} {fd : FuncData} {k : Nat} (F : InitF P K mg "ScanError.__init__" sSE D f cc cda fd) : FnOk P w K mg base CX0 (k + 1) f fd ["self", "tag", "why"] (spSE K D) := by
  obtain ⟨oc, od, kV, doc, pm, an, ct, osl, rfl, lk⟩ := F.ex
  obtain ⟨cl, cld, csl, ll⟩ := F.ll
  refine fn_ofK (N := ["self", "tag", "why"]) lk F.cd ll kSE (fun vs H Q E h => ?_) (fun A outer s s1 H vs Q E hr h I => ?_)
  · obtain ⟨a, C, tg, wy, rfl, _⟩ := h
    rfl
  · obtain ⟨a, C, tg, wy, rfl, T, ea, hsub, hm, hB, hno, q⟩ := h
    have S : SupF (cxK CX0 P w K mg base ["self", "tag", "why"] "ScanError.__init__" (defScope sSE) f (.ref cda) cc A outer s H E) f cc cda D :=
      ⟨rfl, rfl, rfl, rfl, rfl, rfl, rfl, ⟨_, _, _, _, _, lk, rfl, rfl⟩, F.lc, F.ll, F.lD, F.ms, F.tp, F.op⟩
    refine ks_wpAt_execs_cons ?_
    refine sup_initB (X := cxK CX0 P w K mg base ["self", "tag", "why"] "ScanError.__init__" (defScope sSE) f (.ref cda) cc A outer s H E) S T I rfl ea hsub hm hB (pa_cons (pv 2) pa_nil) (R := fun H1 => H1 = H) ⟨_, rfl, (by show 1 ≤ 1000; decide), ea, rfl⟩ (fun H1 s2 I2 e => ?_) rfl rfl rfl _ rfl rfl
    subst e
    refine wpAt_of_wpAny ((pss_one (ps_ost (X := cxK CX0 P w K mg base ["self", "tag", "why"] "ScanError.__init__" (defScope sSE) f (.ref cda) cc A outer s H1 E) (pv 0) (pv 1))).run [] s2 _ H1 _ I2 ?_)
    exact ⟨_, rfl, _, rfl, a, C, rfl, T, hno, .inl ⟨ea, fun dx n ne => q dx n ne⟩⟩
/-- the class at C, over the class at D whose __init__ keeps spSE; fs: what its own __init__ puts beside the tag -/
structure ErrC (K : PySem.W.Frag) (C D fS : Addr) : Prop where
  ox : OexC K C
  s1 : PySem.W.mroIn K C (.ref C) = some true
  s2 : PySem.W.mroIn K C (.ref D) = some true
  m1 : PySem.W.ks_superIn K C C "__init__" = some (some (.ref fS))
  m2 : PySem.W.ks_superIn K C D "__init__" = some (some (.builtin "ValueError.__init__"))
  ve : PySem.W.subIn K (.ref C) (.type "ValueError") = some true
  nt : PySem.W.findIn K (.ref C) "tag" = some none
  tS : PySem.W.typeIn K (.ref fS) = some (.type "function")
  fS : PySem.W.fnIn K fS = true
def spE1 (K : PySem.W.Frag) (C : Addr) (tg fn : Str) : Sp := fun vs H Q _ => ∃ (a : Addr) (v : V), vs = [.ref a, v] ∧ H a = some (exo a C none) ∧
  ∀ dx, H dx = none → dx ≠ a → Q .non (upd (upd (upd H dx (exd dx [("tag", .str tg)])) a (exo a C (some dx))) dx (exd dx [(fn, v), ("tag", .str tg)]))
def spE0 (K : PySem.W.Frag) (C : Addr) (tg : Str) : Sp := fun vs H Q _ => ∃ (a : Addr), vs = [.ref a] ∧ H a = some (exo a C none) ∧
  ∀ dx, H dx = none → dx ≠ a → Q .non (upd (upd H dx (exd dx [("tag", .str tg)])) a (exo a C (some dx)))
theorem ok_ip {C D f cc cda fS : Addr} {fd fdS : FuncData} {k : Nat} (F : InitF P K mg "InvalidPlace.__init__" sIP C f cc cda fd) (T : ErrC K C D fS) (hno : PySem.W.findIn K (.ref C) "given" = some none)
    (GS : FnOk P w K mg base CX0 (k + 1) fS fdS ["self", "tag", "why"] (spSE K D)) (bS : Binds K fdS ["self", "tag", "why"] []) : FnOk P w K mg base CX0 (k + 2) f fd ["self", "given"] (spE1 K C "InvalidPlace" "given") := by
  obtain ⟨oc, od, kV, doc, pm, an, ct, osl, rfl, lk⟩ := F.ex
  obtain ⟨cl, cld, csl, ll⟩ := F.ll
  refine fn_ofK (N := ["self", "given"]) lk F.cd ll kIP (fun vs H Q E h => ?_) (fun A outer s s1 H vs Q E hr h I => ?_)
  · obtain ⟨a, v, rfl, _⟩ := h
    rfl
  · obtain ⟨a, v, rfl, ea, q⟩ := h
    have S : SupF (cxK CX0 P w K mg base ["self", "given"] "InvalidPlace.__init__" (defScope sIP) f (.ref cda) cc A outer s H E) f cc cda C :=
      ⟨rfl, rfl, rfl, rfl, rfl, rfl, rfl, ⟨_, _, _, _, _, lk, rfl, rfl⟩, F.lc, F.ll, F.lD, F.ms, F.tp, F.op⟩
    refine ks_wpAt_execs_cons ?_
    refine sup_initF (X := cxK CX0 P w K mg base ["self", "given"] "InvalidPlace.__init__" (defScope sIP) f (.ref cda) cc A outer s H E) S I rfl ea T.s1 T.m1 T.tS T.fS GS hr bS pass0 (pa_cons pe_str (pa_cons pe_str pa_nil)) (R := fun H1 => ∃ dx, H dx = none ∧ dx ≠ a ∧ H1 = upd (upd H dx (exd dx [("tag", .str "InvalidPlace")])) a (exo a C (some dx)))
      ⟨a, C, _, _, rfl, T.ox, ea, T.s2, T.m2, T.ve, T.nt, fun dx n ne => ⟨dx, n, ne, rfl⟩⟩ (fun H1 s2 I2 e => ?_) rfl rfl rfl _ rfl rfl
    obtain ⟨dx, n, ne, rfl⟩ := e
    refine wpAt_of_wpAny ((pss_one (ps_ost (X := cxK CX0 P w K mg base ["self", "given"] "InvalidPlace.__init__" (defScope sIP) f (.ref cda) cc A outer s H E) (pv 0) (pv 1))).run [] s2 _ _ _ I2 ?_)
    refine ⟨_, rfl, _, rfl, a, C, rfl, T.ox, hno, .inr ⟨dx, _, upd_same, ?_, (by show 1 ≤ 900; decide), q dx n ne⟩⟩
    rw [upd_ne ne, upd_same]
theorem ok_tm {C D f cc cda fS : Addr} {fd fdS : FuncData} {k : Nat} (F : InitF P K mg "TooManyClasses.__init__" sTM C f cc cda fd) (T : ErrC K C D fS) (hno : PySem.W.findIn K (.ref C) "limit" = some none)
    (GS : FnOk P w K mg base CX0 (k + 1) fS fdS ["self", "tag", "why"] (spSE K D)) (bS : Binds K fdS ["self", "tag", "why"] []) : FnOk P w K mg base CX0 (k + 2) f fd ["self", "limit"] (spE1 K C "TooManyClasses" "limit") := by
  obtain ⟨oc, od, kV, doc, pm, an, ct, osl, rfl, lk⟩ := F.ex
  obtain ⟨cl, cld, csl, ll⟩ := F.ll
  refine fn_ofK (N := ["self", "limit"]) lk F.cd ll kTM (fun vs H Q E h => ?_) (fun A outer s s1 H vs Q E hr h I => ?_)
  · obtain ⟨a, v, rfl, _⟩ := h
    rfl
  · obtain ⟨a, v, rfl, ea, q⟩ := h
    have S : SupF (cxK CX0 P w K mg base ["self", "limit"] "TooManyClasses.__init__" (defScope sTM) f (.ref cda) cc A outer s H E) f cc cda C :=
      ⟨rfl, rfl, rfl, rfl, rfl, rfl, rfl, ⟨_, _, _, _, _, lk, rfl, rfl⟩, F.lc, F.ll, F.lD, F.ms, F.tp, F.op⟩
    refine ks_wpAt_execs_cons ?_
    refine sup_initF (X := cxK CX0 P w K mg base ["self", "limit"] "TooManyClasses.__init__" (defScope sTM) f (.ref cda) cc A outer s H E) S I rfl ea T.s1 T.m1 T.tS T.fS GS hr bS pass0 (pa_cons pe_str (pa_cons pe_str pa_nil)) (R := fun H1 => ∃ dx, H dx = none ∧ dx ≠ a ∧ H1 = upd (upd H dx (exd dx [("tag", .str "TooManyClasses")])) a (exo a C (some dx)))
      ⟨a, C, _, _, rfl, T.ox, ea, T.s2, T.m2, T.ve, T.nt, fun dx n ne => ⟨dx, n, ne, rfl⟩⟩ (fun H1 s2 I2 e => ?_) rfl rfl rfl _ rfl rfl
    obtain ⟨dx, n, ne, rfl⟩ := e
    refine wpAt_of_wpAny ((pss_one (ps_ost (X := cxK CX0 P w K mg base ["self", "limit"] "TooManyClasses.__init__" (defScope sTM) f (.ref cda) cc A outer s H E) (pv 0) (pv 1))).run [] s2 _ _ _ I2 ?_)
    refine ⟨_, rfl, _, rfl, a, C, rfl, T.ox, hno, .inr ⟨dx, _, upd_same, ?_, (by show 1 ≤ 900; decide), q dx n ne⟩⟩
    rw [upd_ne ne, upd_same]
theorem ok_id {C D f cc cda fS : Addr} {fd fdS : FuncData} {k : Nat} (F : InitF P K mg "InvalidDivisors.__init__" sID C f cc cda fd) (T : ErrC K C D fS)
    (GS : FnOk P w K mg base CX0 (k + 1) fS fdS ["self", "tag", "why"] (spSE K D)) (bS : Binds K fdS ["self", "tag", "why"] []) : FnOk P w K mg base CX0 (k + 2) f fd ["self"] (spE0 K C "InvalidDivisors") := by
  obtain ⟨oc, od, kV, doc, pm, an, ct, osl, rfl, lk⟩ := F.ex
  obtain ⟨cl, cld, csl, ll⟩ := F.ll
  refine fn_ofK (N := ["self"]) lk F.cd ll kID (fun vs H Q E h => ?_) (fun A outer s s1 H vs Q E hr h I => ?_)
  · obtain ⟨a, rfl, _⟩ := h
    rfl
  · obtain ⟨a, rfl, ea, q⟩ := h
    have S : SupF (cxK CX0 P w K mg base ["self"] "InvalidDivisors.__init__" (defScope sID) f (.ref cda) cc A outer s H E) f cc cda C :=
      ⟨rfl, rfl, rfl, rfl, rfl, rfl, rfl, ⟨_, _, _, _, _, lk, rfl, rfl⟩, F.lc, F.ll, F.lD, F.ms, F.tp, F.op⟩
    refine ks_wpAt_execs_cons ?_
    refine sup_initF (X := cxK CX0 P w K mg base ["self"] "InvalidDivisors.__init__" (defScope sID) f (.ref cda) cc A outer s H E) S I rfl ea T.s1 T.m1 T.tS T.fS GS hr bS pass0 (pa_cons pe_str (pa_cons pe_str pa_nil)) (R := fun H1 => ∃ dx, H dx = none ∧ dx ≠ a ∧ H1 = upd (upd H dx (exd dx [("tag", .str "InvalidDivisors")])) a (exo a C (some dx)))
      ⟨a, C, _, _, rfl, T.ox, ea, T.s2, T.m2, T.ve, T.nt, fun dx n ne => ⟨dx, n, ne, rfl⟩⟩ (fun H1 s2 I2 e => ?_) rfl rfl rfl _ rfl rfl
    obtain ⟨dx, n, ne, rfl⟩ := e
    exact wpAt_of_wpAny ((pss_nil (X := cxK CX0 P w K mg base ["self"] "InvalidDivisors.__init__" (defScope sID) f (.ref cda) cc A outer s H E)).run [] s2 _ _ _ I2 (q dx n ne))
end
/-! ### C(): an own error without arguments -/
def tMkO0 (C : Addr) (sp : Sp) : L2.St → Hp → XK → Prop := fun σ H Q => ∀ a, H a = none → sp [.ref a] (upd H a (exo a C none))
  (fun v H2 => v = .non ∧ ∃ (d : Addr) (fs : List (Str × V)), H2 a = some (exo a C (some d)) ∧ H2 d = some (exd d fs) ∧ H d = none ∧ Q (.ref C) (some d) (upd (del H2 a) d (.xd fs))) (fun _ _ _ => False)
theorem pmk_oex0 {X : Cx} {CX : CXT} {x : Str} {C fI : Addr} {k : Nat} {fd : FuncData} {ps : List Str} {sp : Sp} {p pos : Pos} (T : OexC X.K C) (iC : PySem.W.findIn X.K (.ref C) "__init__" = some (some (.ref fI))) (tI : PySem.W.typeIn X.K (.ref fI) = some (.type "function"))
    (F1 : FnOk X.prog X.w X.K X.mg X.base CX k fI fd ps sp) (hr : Room (k + 1) X.A) (hb : Binds X.K fd ps []) (hx : Passes CX X (fun _ _ _ => False)) (hg : Gl X x) (hm : X.mg x = some (.ref C)) (hdb : (x == ("__debug__" : Str)) = false := by decide) :
    PMk X (.Call (.Name x p) [] [] pos) (tMkO0 C sp) := by
  intro pins s σ H Q I h
  obtain ⟨nm, q, N, bs, bm, sn, sub, ab, col, dd, k0, k1, k2, k3, k5, hC, hbm⟩ := T.cls
  refine wpAny_Call_Name_kw (ld_glob I hg hm ?_ hdb)
  refine PySem.W.callWith_K0 I.kIn T.kC ?_
  show wpAny _ _ (call (.ref C) []) _ _ _
  obtain ⟨hp, g, dr, tk, os⟩ := s
  have hsz : hp.objs.size ≤ hp.objs.size + 1 := Nat.le_succ _
  have hn : H (hp.objs.size + 1) = none := I.hok.fresh hsz
  have hq := h (hp.objs.size + 1) hn
  have kk : ∀ b o, hp.get? b = some o → ((hp.push (PySem.W.kdv_tup [])).push (PySem.HandSPX.excO C hp.objs.size)).get? b = some o := fun b o e => Heap.get?_push_of_some _ (Heap.get?_push_of_some _ e)
  have hget : ((hp.push (PySem.W.kdv_tup [])).push (PySem.HandSPX.excO C hp.objs.size)).get? (hp.objs.size + 1) = some (PySem.HandSPX.excO C hp.objs.size) := by heap_get
  have I2 : Inv X pins σ (upd H (hp.objs.size + 1) (exo (hp.objs.size + 1) C none)) ⟨(hp.push (PySem.W.kdv_tup [])).push (PySem.HandSPX.excO C hp.objs.size), g, dr, tk, os⟩ :=
    I.laid (t' := tk) (a := hp.objs.size + 1) (o := exo (hp.objs.size + 1) C none) kk hsz (exo_ok hget)
  have r2 : Vals [V.ref (hp.objs.size + 1)] [Value.ref (hp.objs.size + 1)] := .cons rfl .nil
  have hl : ([Value.ref (hp.objs.size + 1)] ++ ([] : List Value)).length = ps.length := (F1.len _ _ _ _ hq)
  refine wpAny_call (PySem.HandSPX.call_own F.excBase_ValueError (fun Y => PySem.HandSPX.refsVE_contains Y bm hbm) (I.kIn _ _ hC) (PySem.W.looks_findIn I.kIn iC) (fun self => PySem.W.bind_fn I.kIn self tI) (Nat.zero_le _)
    (codeAny_mono (F1.run _ X.stack _ _ ⟨[Value.ref (hp.objs.size + 1)], []⟩ [Value.ref (hp.objs.size + 1)] _ _ (fun _ _ _ => False) (hr.make C [] []) (I2.env0.make C [] []) (hb _ [Value.ref (hp.objs.size + 1)] I2.kIn hl) r2 hq) fun r s' hq' => ?_))
  cases r with
  | error er => exact hx pins σ _ _ er s' I2 hq'
  | ok fl =>
    cases fl with
    | ret u =>
      obtain ⟨v, H2, os2, bare2, un2, hok2, rv, ev, d, fs, ea, ed, hd1, q2⟩ := hq'
      subst ev
      obtain ⟨h2, g2, d2, t2, os'⟩ := s'
      exact ⟨rv, mk_end (raises_own T.exC T.tyC) I hsz kk un2 hok2 os2 bare2 ea ed hd1 q2⟩
    | next => exact False.elim hq'
    | brk => exact False.elim hq'
    | cont => exact False.elim hq'
end Lx

namespace Lx
open PySem L2 PySem.Spec PyProof.Rows
/-! ### try .. except X as n .. except ..: the first clause takes it -/
section
variable {X : Cx} {x n : Str} {c : Value} {i : Nat} {body suite : List Stmt} {b0 : Stmt} {hds : List ExceptHandler} {np pos pos' : Pos} {tb : WX → TS} {ts : Addr → Value → Option Addr → TS}
theorem ps_try_first (stk : X.stack = X.env :: X.outer) (frm : X.env.frame = some X.env.locals) (ndN : X.N.Nodup) (atI : X.N[i]? = some n) (lcl : X.env.kindOf n = some .local) (nam : Names X x c)
    (hbd : ∀ (W : WX) (pn : List (Addr × Obj)) (xe : Value → Shared → Prop), Takes (X.tr pn xe) W → PassesOwn (model X.prog X.w) X.A X.env xe → PSs (X.tr pn xe) body (tb W))
    (hst : ∀ (a : Addr) (oe : Obj) (cls : Value) (d : Option Addr) (pn : List (Addr × Obj)), Zc cls d oe → (∃ vs, oe.data = .fields vs) → PSs (X.suite a ((a, oe) :: pn)) (b0 :: suite) (ts a cls d)) :
    PS X (.Try body (.ExceptHandler (some (.Name x np)) (some n) (b0 :: suite) pos' :: hds) [] [] pos) (fun D σ H => tb (wAs X.K c i ts (fun _ _ _ _ => False) D) D σ H) := by
  refine ⟨fun pins s σ H D I0 rd => ?_⟩
  have okX := I0.ok
  have frs0 : X.A.frames = some (X.env :: X.outer) := by rw [okX.frames, stk]
  have locn : Loc X.env.scope n := .inl lcl
  refine wpAny_Try_except ?_
  refine wpAny_mono ((hbd (wAs X.K c i ts (fun _ _ _ _ => False) D) (X.pn ++ pins) (fun e t1 => wpAny (model X.prog X.w) X.A (noteFrame e X.env) (fun _ t2 => wpAny (model X.prog X.w) X.A (setFlight e none) (fun _ t3 =>
    wpAny (model X.prog X.w) X.A (handleBy e X.env (.ExceptHandler (some (.Name x np)) (some n) (b0 :: suite) pos' :: hds)) (SP X pins D) X.xe t3) X.xe t2) X.xe t1) (fun u s' fl => ?_) PassesOwn.looking).run [] s σ H D (I0.toTry _) rd) (fun fl t1 done => ?_) (fun e t1 raised => raised)
  · obtain ⟨a, B, sI, pins', σ', H', cls, d, rfl, Jt, nob, up0, sky, fra, osE, agr, b, ex1, yes, no⟩ := fl
    have J0 : Inv X pins σ' H' sI := Jt.ofTry okX
    have sky1 : Sky B (X.env :: X.outer) a (Zc cls d) X.env.locals s'.heap := by rw [← stk]; exact sky
    show wpAny (model X.prog X.w) X.A (noteFrame (.ref a) X.env) _ _ _
    refine Sky.land Zc.steady frs0 frm sky1 fun g3 fly3 up3 => ?_
    have J3 : Inv X pins σ' H' { s' with heap := g3 } := J0.landed nob fly3.1 (up0.trans up3) osE agr
    obtain ⟨ob3, vs3, at3, zc3, dat3⟩ := fly3.there
    have offF : a ∉ frs (X.env :: X.outer) := fun inF => by
      obtain ⟨_, o1, e1, nof⟩ := (fly3.2.2.1).mem inF
      rw [at3] at e1
      cases e1
      exact nof _ dat3
    have offL : a ≠ X.env.locals := fun z => offF (List.mem_filterMap.mpr ⟨X.env, List.mem_cons_self, by rw [frm, z]⟩)
    have offS : a ∉ X.fs := fun inF => by
      obtain ⟨ev, he, eq⟩ := List.mem_filterMap.mp inF
      exact offF (List.mem_filterMap.mpr ⟨ev, List.mem_cons_of_mem _ he, eq⟩)
    have St3 := J3.suite at3 dat3 fra offL offS
    refine wpAny_handleBy_cons (codeAny_handlers_test ?_) (by intro q; cases q)
    have tyL : PySem.W.Looks (model X.prog X.w) g3 (typeOf (.ref a)) cls := fun A Q E s k q => wpAny_typeOf_ref (k _ _ at3) (by rw [zc3.1]; exact q)
    have mtL := PySem.W.exm_one (M := model X.prog X.w) (J3.kIn) tyL ex1
    have ask : ∀ {Q : Value → Shared → Prop} {E : Value → Shared → Prop}, Q c { s' with heap := g3 } → wpAny (model X.prog X.w) (X.A.mark (some (.ref a))) (eval (.Name x np) X.env) Q E { s' with heap := g3 } := fun {Q E} q => by
      obtain ⟨hgl, hdb, hmg | ⟨hmg, hbv, hnn⟩⟩ := nam
      · exact ld_glob (X := X.suite a ((a, ob3) :: (X.pn ++ pins))) St3 hgl hmg q hdb
      · exact ld_blt (X := X.suite a ((a, ob3) :: (X.pn ++ pins))) St3 hgl hmg hbv q hnn hdb
    refine ask (mtL.here ?_)
    cases b with
    | false => exact (no rfl).elim
    | true =>
      refine codeAny_handlers_suite_as ?_
      refine HandSPX.lands_againZ fly3 fun g4 fly4 up4 => ?_
      have J4 : Inv X pins σ' H' { s' with heap := g4 } := J0.landed nob fly4.1 ((up0.trans up3).trans up4) osE agr
      obtain ⟨ob4, vs4, at4, zc4, dat4⟩ := fly4.there
      have St4 := J4.suite at4 dat4 fra offL offS
      refine store_ok (X := X.suite a ((a, ob4) :: (X.pn ++ pins))) (v := .ref a) St4 ndN atI locn rfl (fun t5 St5 => ?_) (.inr lcl)
      refine wpAny_mono ((hst a ob4 cls d (X.pn ++ pins) zc4 ⟨_, dat4⟩).run [] t5 _ H' _ St5 (yes rfl a fra)) (fun fl t6 done => ?_) (fun _ _ z => False.elim z)
      have fin : ∀ {σ6 : L2.St} {H6 : Hp} {Q : Shared → Prop}, Inv (X.suite a ((a, ob4) :: (X.pn ++ pins))) [] σ6 H6 t6 → (∀ t7, Inv X pins (σ6.set i none) H6 t7 → Q t7) →
          wpAny (model X.prog X.w) X.A (do bindName X.env n .none; unbindBehindTheSuite X.env n pos') (fun _ t7 => Q t7) X.xe t6 := fun {σ6 H6 Q} St6 hq => gone_ok (St6.unsuite okX) ndN atI lcl hq
      cases fl with
      | next =>
        obtain ⟨σ6, H6, St6, w6⟩ := done
        exact fin St6 fun t7 J7 => ⟨_, _, J7, w6⟩
      | brk =>
        obtain ⟨σ6, H6, St6, w6⟩ := done
        exact fin St6 fun t7 J7 => ⟨_, _, J7, w6⟩
      | cont =>
        obtain ⟨σ6, H6, St6, w6⟩ := done
        exact fin St6 fun t7 J7 => ⟨_, _, J7, w6⟩
      | ret u =>
        obtain ⟨v6, σ6, H6, St6, r6, w6⟩ := done
        exact fin St6 fun t7 J7 => ⟨_, _, _, J7, r6, w6⟩
  · cases fl with
    | next =>
      obtain ⟨σ', H', Jt, w1⟩ := done
      exact wpAny_execs_nil ⟨σ', H', Jt.ofTry okX, w1⟩
    | brk =>
      obtain ⟨σ', H', Jt, w1⟩ := done
      exact ⟨σ', H', Jt.ofTry okX, w1⟩
    | cont =>
      obtain ⟨σ', H', Jt, w1⟩ := done
      exact ⟨σ', H', Jt.ofTry okX, w1⟩
    | ret u =>
      obtain ⟨v, σ', H', Jt, r1, w1⟩ := done
      exact ⟨v, σ', H', Jt.ofTry okX, r1, w1⟩
end
end Lx

namespace Lx
open PySem L2 PySem.Spec PyProof.Rows Lk
/-! ### a field of the handled error -/
/-- what must be known of an error's class to read its fields -/
structure RdC (K : PySem.W.Frag) (C : Addr) : Prop where
  xf : XfC K C
  no : ∀ n ∈ ([("tag" : Str), "given", "limit", "index", "name", "first", "line"] : List Str), PySem.W.findIn K (.ref C) n = some none
def tXa (K : PySem.W.Frag) (a : Addr) (cls : Value) (d : Option Addr) (n : Str) (te : TE) : TE := fun σ H Q => ∃ C, RdC K C ∧ tXf a cls d C n te σ H Q
theorem pe_xa {X : Cx} {a : Addr} {oe : Obj} {cls : Value} {d : Option Addr} {e : Expr} {te : TE} {pos : Pos} {n : Str} (hp : (a, oe) ∈ X.pn) (hz : Zc cls d oe) (hf : ∃ vs, oe.data = .fields vs) (he : PE X e te) (hn : n ∈ ([("tag" : Str), "given", "limit", "index", "name", "first", "line"] : List Str))
    (hb : attributeBase e n X.env (eval e X.env) = eval e X.env := by rfl) : PE X (.Attribute e n pos) (tXa X.K a cls d n te) := by
  refine ⟨fun pins s σ H Q I h => ?_⟩
  obtain ⟨C, T, h⟩ := h
  refine attr_of hb (thn (he.run pins s σ H _ I h) fun u t1 hh => ?_)
  obtain ⟨x, H1, I1, rx, rfl, rfl, dd, fs, v, rfl, ea, lk, q⟩ := hh
  obtain rfl : u = Value.ref a := rx
  obtain ⟨vs, hd⟩ := hf
  have pin := (I1.pin (a, oe) (List.mem_append_left _ hp)).1
  obtain ⟨mA, hns, hr⟩ := (show ObjOk X.prog X.w H1 t1.heap dd (.xd fs) from I1.hok dd _ ea)
  obtain ⟨od, ho, hl⟩ := lookIn_ns hns
  obtain ⟨u, hu, ru⟩ := RelO.some_of (v := v) (o := mA n) (by rw [← lk]; exact hr n)
  have J : PySem.W.InstAt t1.heap a oe C (some od) := ⟨pin, hz.1, by unfold PySem.W.notCls; rw [hd] <;> rfl, by rw [hz.2]; exact ho⟩
  exact HandSPX.exc_get I1.kIn J T.xf.ga T.xf.gg T.xf.exC (PySem.W.findObj_own T.xf.hdC (T.no n hn) rfl (by rw [hl, hu])) (handed_of ru) ⟨v, H1, I1.tok _, ru, q⟩
/-! ### a def called with the handled error -/
section
variable {CX : CXT} {P : Program} {w : World} {K : PySem.W.Frag} {mg : Str → Option Value} {base : Heap} {k : Nat} {f : Addr} {name qual : Str} {params : Arguments} {body : List Stmt} {scope : Scope} {dV kV doc pm cdv ct oc : Value} {an od : Option Addr} {osl : Array (Option Value)} {N ps : List Str}
theorem run_pin (lk : K.lookup f = some ⟨oc, od, .func (PySem.W.fnOf name qual params body scope dV kV doc pm an cdv ct), osl⟩) (hcd : PySem.W.codeIn K cdv qual = true) (S : FnScope N ps scope) {A : Around} {outer : List Env} {s : Shared} {H : Hp} {args : Args} {us : List Value} {vs : List V} {Q : VK} {E : XK} {p : Addr × Obj}
    (hr : L2H.RoomH (k + 1) A) (hpin : L2H.PinOk outer H s p) (e0 : Env0 P w K mg base A outer s H) (hb : BindsTo s (PySem.W.fnOf name qual params body scope dV kV doc pm an cdv ct) args (ps.zip us)) (r : Vals vs us) (hl : vs.length = ps.length)
    (hbody : L2H.RoomH k (A.deeper (envOfC qual scope s.heap.objs.size f cdv)) → ∃ t, PSs (L2H.cxH CX P w K mg base N qual scope f cdv A outer s H E p) body t ∧ t { nx := fun _ H' => Q .non H', rt := Q } (L2.start N vs) H) :
    codeAny (model P w) A (.call (.ref f) args) (CR CX outer P w H s Q E) s := by
  have Kh : K.In s.heap := e0.mod.kin.keeps fun b o e => (e0.bs b o e).1
  have limH : s.heap.NoLimit := e0.mod.nolimit.keeps fun b o e => (e0.bs b o e).1
  have kinds : ∀ y ∈ ps.zip us, scope.names.lookup y.1 = some .local ∨ (scope.names.lookup y.1 = some .cell ∧ ((cellsFrom (s.heap.objs.size + 1) scope.names []).lookup y.1).isSome = true) := fun ⟨n, v⟩ hy =>
    (S.par n (List.of_mem_zip hy).1).elim .inl fun q => .inr ⟨q, PySem.W.cellsFrom_some _ _ _ (.inl q)⟩
  refine codeAny_call_function hr.depth (Kh _ _ lk) rfl S.co S.gen rfl (PySem.W.codeRec_of Kh hcd) (hb _ _ _ _ ?_)
  refine wpAny_newFunctionEnv_cells S.kind kinds fun env he t1 x => ?_
  subst he
  refine ⟨limH.keeps x.toInCall.keep, codeAny_func ?_⟩
  obtain ⟨t, ht, hq⟩ := hbody (hr.deeper _)
  have I : Inv (L2H.cxH CX P w K mg base N qual scope f cdv A outer s H E p) [] (L2.start N vs) H t1 := L2H.inv_startH S hpin e0 hl r x
  refine wpAny_mono (ht.run [] t1 (L2.start N vs) H _ I hq) (fun fl t2 hs => ?_) fun e t2 hs => hs
  cases fl with
  | ret u =>
    obtain ⟨v, σ', H', J, rv, q⟩ := hs
    exact ⟨v, H', J.os, J.bare, J.base, J.hok, rv, q⟩
  | next =>
    obtain ⟨σ', H', J, q⟩ := hs
    exact ⟨.non, H', J.os, J.bare, J.base, J.hok, rfl, q⟩
  | brk =>
    obtain ⟨_, _, _, q⟩ := hs
    exact q.elim
  | cont =>
    obtain ⟨_, _, _, q⟩ := hs
    exact q.elim
end
/-! ### the field that belongs to a tag -/
def txts (l : List Str) : List V := l.map V.str
def G1 : List Str := ["InvalidPlace", "InvalidBox", "InvalidCount"]
def G2 : List Str := ["TooManyClasses", "TooManyCells", "TooLong", "CapacityExceeded", "InvalidLimit"]
def G3 : List Str := ["InvalidLooks", "InvalidWords", "InvalidRule", "InvalidValues"]
def G4 : List Str := ["InvalidName", "DuplicateName", "InUse", "NotGiven", "Broken", "UnknownName"]
def FieldIs (tg : Str) (fs : List (Str × V)) (fv : V) : Prop :=
  if inV (.str tg) (txts G1) = true then fs.lookup ("given" : Str) = some fv else if inV (.str tg) (txts G2) = true then fs.lookup ("limit" : Str) = some fv else if inV (.str tg) (txts G3) = true then fs.lookup ("index" : Str) = some fv
  else if inV (.str tg) (txts G4) = true then fs.lookup ("name" : Str) = some fv else if tg = "InvalidCommand" then fs.lookup ("first" : Str) = some fv else if tg = "ParseError" then fs.lookup ("line" : Str) = some fv else fv = .non
theorem txts_flat (l : List Str) : (txts l).all flatV = true := by
  rw [List.all_eq_true]
  intro y hy
  obtain ⟨z, _, rfl⟩ := List.mem_map.mp hy
  rfl
section
variable {P : Program} {w : World} {K : PySem.W.Frag} {mg : Str → Option Value} {base : Heap}
theorem field_body {A : Around} {outer : List Env} {s : Shared} {H : Hp} {Q : VK} {a C dd : Addr} {oe : Obj} {f : Addr} {cdv : Value} {fs : List (Str × V)} {tg : Str} {fv : V} (hz : Zc (.ref C) (some dd) oe) (hf : ∃ vs, oe.data = .fields vs) (T : RdC K C) (hd : H dd = some (.xd fs)) (ht : fs.lookup ("tag" : Str) = some (.str tg)) (hv : FieldIs tg fs fv)
    (q : ∀ H', (∀ b o, H b = some o → H' b = some o) → Q fv H') :
    ∃ t, PSs (L2H.cxH CX0 P w K mg base ["_law_e"] "_law_field" (defScope sField) f cdv A outer s H E0 (a, oe)) (defBody sField) t ∧ t { nx := fun _ H' => Q .non H', rt := Q } (L2.start ["_law_e"] [.ref a]) H := by
  have hp : (a, oe) ∈ (L2H.cxH CX0 P w K mg base ["_law_e"] "_law_field" (defScope sField) f cdv A outer s H E0 (a, oe)).pn := List.mem_cons_self
  refine ⟨_, pss_cons (ps_if (pt_cmpR op_in_seq (pe_xa (n := "tag") hp hz hf (pv 0) (by simp)) (pe_lst (pa_cons pe_str (pa_cons pe_str (pa_cons pe_str pa_nil)))) (by rfl)) (pss_one (ps_ret (pe_xa (n := "given") hp hz hf (pv 0) (by simp)))) pss_nil)
    (pss_cons (ps_if (pt_cmpR op_in_seq (pe_xa (n := "tag") hp hz hf (pv 0) (by simp)) (pe_lst (pa_cons pe_str (pa_cons pe_str (pa_cons pe_str (pa_cons pe_str (pa_cons pe_str pa_nil)))))) (by rfl)) (pss_one (ps_ret (pe_xa (n := "limit") hp hz hf (pv 0) (by simp)))) pss_nil)
    (pss_cons (ps_if (pt_cmpR op_in_seq (pe_xa (n := "tag") hp hz hf (pv 0) (by simp)) (pe_lst (pa_cons pe_str (pa_cons pe_str (pa_cons pe_str (pa_cons pe_str pa_nil))))) (by rfl)) (pss_one (ps_ret (pe_xa (n := "index") hp hz hf (pv 0) (by simp)))) pss_nil)
    (pss_cons (ps_if (pt_cmpR op_in_seq (pe_xa (n := "tag") hp hz hf (pv 0) (by simp)) (pe_lst (pa_cons pe_str (pa_cons pe_str (pa_cons pe_str (pa_cons pe_str (pa_cons pe_str (pa_cons pe_str pa_nil))))))) (by rfl)) (pss_one (ps_ret (pe_xa (n := "name") hp hz hf (pv 0) (by simp)))) pss_nil)
    (pss_cons (ps_if (pt_cmpR op_eq (pe_xa (n := "tag") hp hz hf (pv 0) (by simp)) pe_str (nomark _)) (pss_one (ps_ret (pe_xa (n := "first") hp hz hf (pv 0) (by simp)))) pss_nil)
    (pss_one (ps_ret (pe_ifExp (pt_cmpR op_eq (pe_xa (n := "tag") hp hz hf (pv 0) (by simp)) pe_str (nomark _)) (pe_xa (n := "line") hp hz hf (pv 0) (by simp)) pe_non))))))), ?_⟩
  unfold FieldIs at hv
  have nx : ∀ {H1 : Hp} {L : Addr} {o : HO}, (∀ b o, H b = some o → H1 b = some o) → H1 L = none → (∀ b u, H b = some u → (upd H1 L o) b = some u) := fun {H1 L o} sm nL b u e => by
    rw [upd_ne (ne_of_none (sm _ _ e) nL)]
    exact sm _ _ e
  refine ⟨C, T, _, rfl, rfl, rfl, dd, fs, _, rfl, hd, ht, (by show 3 ≤ sizeLine; decide), fun L1 n1 => ?_⟩
  have s1 := nx (o := .lst (txts G1)) (fun b o e => e) n1
  refine ⟨L1, txts G1, rfl, .inl (SqL.of upd_same), rfl, txts_flat _, _, rfl, ite2 (fun z => ?_) (fun z => ?_)⟩
  · rw [if_pos (show inV (.str tg) (txts G1) = true from z)] at hv
    exact ⟨C, T, _, rfl, rfl, rfl, dd, fs, _, rfl, s1 _ _ hd, hv, q _ s1⟩
  rw [if_neg (show ¬ inV (.str tg) (txts G1) = true from z)] at hv
  refine ⟨C, T, _, rfl, rfl, rfl, dd, fs, _, rfl, s1 _ _ hd, ht, (by show 5 ≤ sizeLine; decide), fun L2 n2 => ?_⟩
  have s2 := nx (o := .lst (txts G2)) s1 n2
  refine ⟨L2, txts G2, rfl, .inl (SqL.of upd_same), rfl, txts_flat _, _, rfl, ite2 (fun z => ?_) (fun z => ?_)⟩
  · rw [if_pos (show inV (.str tg) (txts G2) = true from z)] at hv
    exact ⟨C, T, _, rfl, rfl, rfl, dd, fs, _, rfl, s2 _ _ hd, hv, q _ s2⟩
  rw [if_neg (show ¬ inV (.str tg) (txts G2) = true from z)] at hv
  refine ⟨C, T, _, rfl, rfl, rfl, dd, fs, _, rfl, s2 _ _ hd, ht, (by show 4 ≤ sizeLine; decide), fun L3 n3 => ?_⟩
  have s3 := nx (o := .lst (txts G3)) s2 n3
  refine ⟨L3, txts G3, rfl, .inl (SqL.of upd_same), rfl, txts_flat _, _, rfl, ite2 (fun z => ?_) (fun z => ?_)⟩
  · rw [if_pos (show inV (.str tg) (txts G3) = true from z)] at hv
    exact ⟨C, T, _, rfl, rfl, rfl, dd, fs, _, rfl, s3 _ _ hd, hv, q _ s3⟩
  rw [if_neg (show ¬ inV (.str tg) (txts G3) = true from z)] at hv
  refine ⟨C, T, _, rfl, rfl, rfl, dd, fs, _, rfl, s3 _ _ hd, ht, (by show 6 ≤ sizeLine; decide), fun L4 n4 => ?_⟩
  have s4 := nx (o := .lst (txts G4)) s3 n4
  refine ⟨L4, txts G4, rfl, .inl (SqL.of upd_same), rfl, txts_flat _, _, rfl, ite2 (fun z => ?_) (fun z => ?_)⟩
  · rw [if_pos (show inV (.str tg) (txts G4) = true from z)] at hv
    exact ⟨C, T, _, rfl, rfl, rfl, dd, fs, _, rfl, s4 _ _ hd, hv, q _ s4⟩
  rw [if_neg (show ¬ inV (.str tg) (txts G4) = true from z)] at hv
  refine ⟨C, T, _, rfl, rfl, rfl, dd, fs, _, rfl, s4 _ _ hd, ht, rfl, _, rfl, ite2 (fun z => ?_) (fun z => ?_)⟩
  · have e : tg = "InvalidCommand" := V.str.inj (of_decide_eq_true z)
    rw [if_pos e] at hv
    exact ⟨C, T, _, rfl, rfl, rfl, dd, fs, _, rfl, s4 _ _ hd, hv, q _ s4⟩
  have e : ¬ tg = "InvalidCommand" := fun y => z (decide_eq_true (by rw [y]))
  rw [if_neg e] at hv
  refine ⟨C, T, _, rfl, rfl, rfl, dd, fs, _, rfl, s4 _ _ hd, ht, rfl, _, rfl, ite2 (fun z => ?_) (fun z => ?_)⟩
  · have e : tg = "ParseError" := V.str.inj (of_decide_eq_true z)
    rw [if_pos e] at hv
    exact ⟨C, T, _, rfl, rfl, rfl, dd, fs, _, rfl, s4 _ _ hd, hv, q _ s4⟩
  have e : ¬ tg = "ParseError" := fun y => z (decide_eq_true (by rw [y]))
  rw [if_neg e] at hv
  rw [hv] at q
  exact q _ s4
end
end Lx

namespace Lx
open PySem L2 PySem.Spec PyProof.Rows LamX Lk
/-- _law_field(e), e the error that the suite holds -/
def tFld (K : PySem.W.Frag) (a : Addr) (cls : Value) (d : Option Addr) (te : TE) : TE := fun σ H Q => te σ H fun x H1 => x = .ref a ∧ ∃ (C dd : Addr) (fs : List (Str × V)) (tg : Str) (fv : V), cls = .ref C ∧ d = some dd ∧ RdC K C ∧ H1 dd = some (.xd fs) ∧ fs.lookup ("tag" : Str) = some (.str tg) ∧ FieldIs tg fs fv ∧
  ∀ H', (∀ b o, H1 b = some o → H' b = some o) → Q fv H'
/-- what the top has written of _law_field -/
structure FieldT (K : PySem.W.Frag) (mg : Str → Option Value) (fF : Addr) : Prop where
  mg_ : mg "_law_field" = some (.ref fF)
  kp : PySem.W.keepIn K (.ref fF) = true
  lk : ∃ oc od kV doc pm an cdv ct osl, K.lookup fF = some ⟨oc, od, .func (PySem.W.fnOf "_law_field" "_law_field" (defArgs sField) (defBody sField) (defScope sField) .none kV doc pm an cdv ct), osl⟩ ∧ PySem.W.codeIn K cdv "_law_field" = true
theorem pe_field {X : Cx} {a fF : Addr} {oe : Obj} {cls : Value} {d : Option Addr} {k : Nat} {e : Expr} {te : TE} {p pos : Pos} (F : FieldT X.K X.mg fF) (hp : (a, oe) ∈ X.pn) (hz : Zc cls d oe) (hf : ∃ vs, oe.data = .fields vs) (hr : L2H.RoomH (k + 1) X.A) (hg : Gl X "_law_field") (he : PE X e te)
    (hs : starEach (e :: []) X.env = (false, eval e X.env) :: starEach [] X.env := by rfl) (hpl : (backTo pos (starEach [] X.env)).any (·.1) = false := by rfl) : PE X (.Call (.Name "_law_field" p) [e] [] pos) (tFld X.K a cls d te) := by
  obtain ⟨oc, od, kV, doc, pm, an, cdv, ct, osl, lk, hcd⟩ := F.lk
  refine ⟨fun pins s σ H Q I h => ?_⟩
  refine wpAny_Call_Name_kw (ld_glob I hg F.mg_ ?_)
  refine PySem.W.callWith_K (h₀ := X.base) I.ok.mod.kin F.kp ?_ hs hpl
  have h' : tCons te tNil σ H (fun vs H1 => match vs with | [x] => x = .ref a ∧ ∃ (C dd : Addr) (fs : List (Str × V)) (tg : Str) (fv : V), cls = .ref C ∧ d = some dd ∧ RdC X.K C ∧ H1 dd = some (.xd fs) ∧ fs.lookup ("tag" : Str) = some (.str tg) ∧ FieldIs tg fs fv ∧ ∀ H', (∀ b o, H1 b = some o → H' b = some o) → Q fv H' | _ => False) := h
  refine thn ((pa_cons he pa_nil hs).run pos pins s σ H _ I h') fun us t1 hh => ?_
  · obtain ⟨vs, H1, I1, r, hm⟩ := hh
    obtain ⟨x, rfl⟩ : ∃ x, vs = [x] := by
      match vs, hm with
      | [x], _ => exact ⟨x, rfl⟩
    obtain ⟨rfl, C, dd, fs, tg, fv, rfl, rfl, T, hd, ht, hv, q⟩ := hm
    refine ⟨I1.kIn, ?_⟩
    have P1 := I1.pin (a, oe) (List.mem_append_left _ hp)
    have hpin : L2H.PinOk X.stack H1 t1 (a, oe) := ⟨P1.1, P1.2.1, fun hm => (List.mem_cons.mp (I1.stkSub a hm)).elim P1.2.2.1 P1.2.2.2.1, P1.2.2.2.2⟩
    obtain ⟨u, rfl, ru⟩ := vals1 r
    obtain rfl : u = Value.ref a := ru
    show wpAny _ _ (call (.ref fF) [.ref a]) _ _ _
    refine wpAny_call (codeAny_mono (run_pin (CX := CX0) (E := E0) (ps := ["_law_e"]) (us := [.ref a]) (vs := [.ref a]) lk hcd scField hr hpin I1.env0 (.of_eq rfl) (.cons rfl .nil) rfl (fun _ => field_body hz hf T hd ht hv q)) fun rr t2 hq => ?_)
    cases rr with
    | error er => exact (show False from hq).elim
    | ok fl =>
      cases fl with
      | ret u => exact I1.after hq
      | next => exact False.elim hq
      | brk => exact False.elim hq
      | cont => exact False.elim hq
end Lx

namespace Lx
open PySem L2 PySem.Spec PyProof.Rows LamX Lk
/-- what _law_try makes of an error of the class at C -/
def Caught (K : PySem.W.Frag) (CS : Addr) (Q : VK) (cls : Value) (d : Option Addr) (H : Hp) : Prop :=
  PySem.W.exmOne K cls (.ref CS) = some true ∧ ∃ (C dd : Addr) (fs : List (Str × V)) (tg : Str) (fv : V), cls = .ref C ∧ d = some dd ∧ RdC K C ∧ H dd = some (.xd fs) ∧ fs.lookup ("tag" : Str) = some (.str tg) ∧ FieldIs tg fs fv ∧
    ∀ (H' : Hp) (T : Addr), (∀ b o, H b = some o → H' b = some o) → H' T = none → Q (.ref T) (upd H' T (.tup [.str tg, fv]))
def TTry (K : PySem.W.Frag) (CS : Addr) : (XK → Hp → VK → Prop) → Hp → VK → Prop := fun tl H Q =>
  tl (Caught K CS Q) H (fun v H1 => 2 ≤ sizeLine ∧ ∀ T, H1 T = none → Q (.ref T) (upd H1 T (.tup [.str "value", v])))
theorem takes_len {X : Cx} {W : WX} (t : Takes X W) : Takes X (fun c d σ H => σ.length = X.N.length → W c d σ H) := fun u s' ⟨a, B, sI, pins, σ, H, cls, d, e, I, nb, up, sky, na, os, ag, w⟩ =>
  t u s' ⟨a, B, sI, pins, σ, H, cls, d, e, I, nb, up, sky, na, os, ag, w I.len⟩
theorem set_at {α : Type} (l : List α) (i : Nat) (x : α) (h : i < l.length) : (l.set i x)[i]? = some x := by
  rw [List.getElem?_set_self h]
theorem try_gives {X : Cx} {g CS fF : Addr} {cdg : Value} {q : Str} {k : Nat} (F : FieldT X.K X.mg fF) (hme : X.mg "ScanError" = some (.ref CS)) (hr : ∀ s : Shared, Room (k + 1) (X.A.deeper (envOfC "_law_try" (defScope sTry) s.heap.objs.size g cdg))) :
    GivesTo X ["_law_ask", "_law_e"] "_law_try" (defScope sTry) g cdg (defBody sTry) "_law_ask" q (TTry X.K CS) := by
  intro f c' s H Q tl act hc h
  refine ⟨_, pss_one (ps_try_first (X := (cxOf C8.CX0 X.prog X.w X.K X.mg X.base ["_law_ask", "_law_e"] "_law_try" (defScope sTry) g cdg X.A X.stack s H C8.E0).nox) (c := .ref CS) (i := 1)
      (tb := fun W D σ H => ∃ Ech : XK, (∀ cls d σ' H', Ech cls d H' → σ'.length = 2 → W cls d σ' H') ∧ σ[0]? = some (some (.ref f)) ∧ H c' = some (CodeO c' q) ∧ tl Ech H (fun v H1 => 2 ≤ sizeLine ∧ ∀ T, H1 T = none → D.rt (.ref T) (upd H1 T (.tup [.str "value", v]))))
      (ts := fun a cls d => tRet (tTup (tCons (tXa X.K a cls d "tag" (tVar 1)) (tCons (tFld X.K a cls d (tVar 1)) tNil))))
      rfl rfl scTry.nd rfl rfl ⟨rfl, by decide, .inl hme⟩ (fun W pn xe tk _ => ?_) (fun a oe cls d pn hz hf => ?_)), ?_⟩
  · refine ⟨fun pins s' σ H' D I h' => ?_⟩
    obtain ⟨Ech, hW, h1, h2, h3⟩ := h'
    exact (pss_one (ps_ret (pe_tup (pa_cons pe_str (pa_cons (act _ pn xe Ech _ _ (takes_len tk) hW) pa_nil))))).run pins s' σ H' D I ⟨h1, h2, h3⟩
  · exact pss_one (ps_ret (pe_tup (pa_cons (pe_xa (n := "tag") List.mem_cons_self hz hf (pv 1) (by simp)) (pa_cons (pe_field (k := k) F List.mem_cons_self hz hf ⟨(hr s).dp, (hr s).un⟩ rfl (pv 1)) pa_nil))))
  · refine ⟨Caught X.K CS Q, fun cls d σ' H' hq hl => ?_, rfl, hc, h⟩
    obtain ⟨e1, C, dd, fs, tg, fv, rfl, rfl, T, hd, ht, hv, q2⟩ := hq
    refine ⟨true, e1, fun _ a na => ?_, fun z => by cases z⟩
    have g1 : (σ'.set 1 (some (V.ref a)))[1]? = some (some (V.ref a)) := set_at _ _ _ (by omega)
    exact ⟨C, T, _, g1, rfl, rfl, dd, fs, _, rfl, hd, ht, _, g1, rfl, C, dd, fs, tg, fv, rfl, rfl, T, hd, ht, hv, fun H2 k2 => ⟨(by show 2 ≤ sizeLine; decide), fun p np => q2 H2 p k2 np⟩⟩
end Lx

namespace Lk
open PySem L2
def isI : V → Bool
  | .int _ => true
  | _ => false
/-- an item of an odd value -/
def ItD (K : PySem.W.Frag) (H : Hp) (v : V) : Prop := scal v = true ∨ ∃ (c : Addr) (ys : List V), v = .ref c ∧ SqT K H c ys ∧ ys.length ≤ 4 ∧ ∀ y ∈ ys, scal y = true
/-- an odd value: none, or the items of a tuple -/
def OD (K : PySem.W.Frag) (H : Hp) (v : V) : Option (List V) → Prop
  | none => scal v = true
  | some xs => ∃ a : Addr, v = .ref a ∧ SqT K H a xs ∧ xs.length ≤ 12 ∧ ∀ x ∈ xs, ItD K H x
def plB (o : Option (List V)) (c : Int) : Bool := match o with
  | none => false
  | some xs => decide ((xs.length : Int) = c) && xs.all isI
def uI : V → Int
  | .int i => i
  | _ => 0
def itsI (o : Option (List V)) : List Int := match o with
  | none => []
  | some xs => xs.map uI
/-- its ints are not too great -/
def OB (o : Option (List V)) : Prop := ∀ z ∈ itsI o, -(2 ^ 64) < z ∧ z < 2 ^ 64
theorem ob_none : OB none := fun z hz => by cases hz
theorem ItD.mono {K : PySem.W.Frag} {H H' : Hp} (e : Tups K H H') {v : V} (h : ItD K H v) : ItD K H' v := by
  rcases h with h | ⟨c, ys, h1, h2, h3, h4⟩
  · exact .inl h
  · exact .inr ⟨c, ys, h1, e _ _ h2, h3, h4⟩
theorem OD.mono {K : PySem.W.Frag} {H H' : Hp} (e : Tups K H H') {v : V} : ∀ {o : Option (List V)}, OD K H v o → OD K H' v o
  | none, h => h
  | some xs, ⟨a, h1, h2, h3, h4⟩ => ⟨a, h1, e _ _ h2, h3, fun x hx => (h4 x hx).mono e⟩
theorem OD.dd {K : PySem.W.Frag} {H : Hp} {v : V} : ∀ {o : Option (List V)}, OD K H v o → DD K H 2 v v
  | none, h => .inl ⟨h, rfl⟩
  | some xs, ⟨a, h1, h2, h3, h4⟩ => by
    refine .inr ⟨a, a, xs, xs, h1, h1, .inl ⟨h2, h2⟩, rfl, by omega, fun i x y f1 f2 => ?_⟩
    rw [f1] at f2
    cases f2
    rcases h4 x (List.mem_of_getElem? f1) with h | ⟨c, ys, e1, e2, e3, e4⟩
    · exact .inl ⟨h, rfl⟩
    · refine .inr ⟨c, c, ys, ys, e1, e1, .inl ⟨e2, e2⟩, rfl, by omega, fun i x y f1 f2 => ?_⟩
      rw [f1] at f2
      cases f2
      exact ⟨e4 x (List.mem_of_getElem? f1), rfl⟩
def spIsNumO (K : PySem.W.Frag) : Sp := fun vs H Q _ => ∃ v, vs = [v] ∧ ItD K H v ∧ Q (.bl (isI v)) H
def spNumsO (K : PySem.W.Frag) : Sp := fun vs H Q _ => ∃ v c o, vs = [v, .int c] ∧ OD K H v o ∧ ∀ H', Same H H' → Q (.bl (plB o c)) H'
/-- isinstance(v, int) and not isinstance(v, bool), v in slot i -/
theorem num_reads {K : PySem.W.Frag} {i : Nat} {v : V} {σ : L2.St} {H : Hp} {Q : VK} (hv : σ[i]? = some (some v)) (hI : ItD K H v) (q : Q (.bl (isI v)) H) :
    (tAndV (tCB (rIsi K) (tCons (tVar i) (tCons (tC (.ty "int")) tNil))) (tNotV (tCB (rIsi K) (tCons (tVar i) (tCons (tC (.ty "bool")) tNil))))) σ H Q := by
  rcases hI with hs | ⟨c, ys, rfl, h2, _⟩
  · cases v with
    | non => exact ⟨_, hv, _, _, _, _, false, rfl, .ty _, .base .non, kit_ty (by decide +kernel), false, rfl, iteF q⟩
    | bl x => exact ⟨_, hv, _, _, _, _, true, rfl, .ty _, .base (.bl x), kit_ty (by decide +kernel), true, rfl, iteT ⟨_, hv, _, _, _, _, true, rfl, .ty _, .base (.bl x), kit_ty (by decide +kernel), true, rfl, q⟩⟩
    | int x => exact ⟨_, hv, _, _, _, _, true, rfl, .ty _, .base (.int x), kit_ty (by decide +kernel), true, rfl, iteT ⟨_, hv, _, _, _, _, false, rfl, .ty _, .base (.int x), kit_ty (by decide +kernel), false, rfl, q⟩⟩
    | str x => exact ⟨_, hv, _, _, _, _, false, rfl, .ty _, .base (.str x), kit_ty (by decide +kernel), false, rfl, iteF q⟩
    | _ => cases hs
  · exact ⟨_, hv, _, _, _, _, false, rfl, .ty _, tyT h2, kit_ty (by decide +kernel), false, rfl, iteF q⟩
section
variable {P : Program} {w : World} {K : PySem.W.Frag} {mg : Str → Option Value} {base : Heap}
theorem ok_isnumO {f : Addr} {fd : FuncData} {k : Nat} (F : Fun K "is_number" "is_number" sIsNum f fd) (mi : mg "int" = none) (mb : mg "bool" = none) (ms : mg "isinstance" = none) : FnOk P w K mg base CX0 (k + 1) f fd ["value"] (spIsNumO K) := by
  refine F.ok scIsNum (fun vs H Q E h => ?_) (fun cdv A outer s H vs Q E hr h => ?_)
  · obtain ⟨i, rfl, _⟩ := h
    rfl
  · obtain ⟨v, rfl, hI, q⟩ := h
    refine ⟨_, pss_one (ps_ret (pe_and (pe_callB call_isi (by rfl) ms (by decide +kernel) (pa_cons (pv 0) (pa_cons (pe_bltn (v := .ty "int") (by rfl) mi (by decide +kernel) rfl) pa_nil))) (pe_one (pe_not (pe_callB call_isi (by rfl) ms (by decide +kernel) (pa_cons (pv 0) (pa_cons (pe_bltn (v := .ty "bool") (by rfl) mb (by decide +kernel) rfl) pa_nil))))))), ?_⟩
    exact num_reads (i := 0) rfl hI q
theorem all_isI {xs : List V} (h : ∀ x ∈ xs, isI x = true) : xs.all isI = true := List.all_eq_true.mpr h
theorem ok_numsO {f fN : Addr} {fd fdN : FuncData} {k : Nat} (F : Fun K "are_numbers" "are_numbers" sAreNums f fd) (ms : mg "isinstance" = none) (mt : mg "tuple" = none) (ml : mg "len" = none) (ma : mg "all" = none)
    (GN : FnOk P w K mg base CX0 (k + 1) fN fdN ["value"] (spIsNumO K)) (kN : PySem.W.keepIn K (.ref fN) = true) (bN : Binds K fdN ["value"] []) (gN : mg "is_number" = some (.ref fN)) : FnOk P w K mg base CX0 (k + 2) f fd ["value", "count"] (spNumsO K) := by
  refine F.ok scAreNums (fun vs H Q E h => ?_) (fun cdv A outer s H vs Q E hr h => ?_)
  · obtain ⟨v, c, o, rfl, _⟩ := h
    rfl
  · obtain ⟨v, c, o, rfl, hO, q⟩ := h
    refine ⟨_, pss_cons (ps_if (PW.pt (pw_or (pt_not (pt_val (pe_callB call_isi (by rfl) ms (by decide +kernel) (pa_cons (pv 0) (pa_cons (pe_bltn (v := .ty "tuple") (by rfl) mt (by decide +kernel) rfl) pa_nil)))))
        (pw_or1 (pt_cmpR op_ne (pe_callB call_len_seq (by rfl) ml PySem.boot_len (pa_cons (pv 0) pa_nil)) (pv 1) (nomark _))))) (pss_one (ps_ret pe_bl)) pss_nil)
      (pss_one (ps_ret (pe_callB (cr_all rfl) (by rfl) ma (by decide +kernel) (pa_cons (pe_lc (own := [("item", 2)]) (g := gName 2) (by rfl) scAreNums.nd (pi_tup (pv 0))
        (blkOk_by (own := [("item", 2)]) (N := ["value", "count", "item"]) (sc := defScope sAreNums) (by decide +kernel)) (fun _ _ _ _ _ => pg_name (i := 2) scAreNums.nd rfl (Or.inl rfl)) (fun _ _ _ _ _ => pts_nil)
        (fun _ _ _ _ _ => pe_call GN hr (by rfl) gN kN bN .nil pass0 (pa_cons (pv 2) pa_nil))) pa_nil)))), ?_⟩
    cases o with
    | none =>
      have hs : scal v = true := hO
      have qq := q H (Same.refl _)
      cases v with
      | non => exact ⟨_, rfl, _, _, _, _, false, rfl, .ty _, .base .non, kit_ty (by decide +kernel), false, rfl, iteT qq⟩
      | bl x => exact ⟨_, rfl, _, _, _, _, false, rfl, .ty _, .base (.bl x), kit_ty (by decide +kernel), false, rfl, iteT qq⟩
      | int x => exact ⟨_, rfl, _, _, _, _, false, rfl, .ty _, .base (.int x), kit_ty (by decide +kernel), false, rfl, iteT qq⟩
      | str x => exact ⟨_, rfl, _, _, _, _, false, rfl, .ty _, .base (.str x), kit_ty (by decide +kernel), false, rfl, iteT qq⟩
      | _ => cases hs
    | some xs =>
    obtain ⟨a, rfl, hS, h3, h4⟩ := hO
    refine ⟨_, rfl, _, _, _, _, true, rfl, .ty _, tyT hS, kit_ty (by decide +kernel), true, rfl, iteF ?_⟩
    refine ⟨_, rfl, a, _, rfl, .inr hS, _, rfl, rfl, _, rfl, ite2 (fun e => ?_) (fun e => ?_)⟩
    · have hne : ¬ ((xs.length : Int) = c) := fun z => by
        rw [z] at e
        exact absurd e (by simp)
      have qq := q H (Same.refl _)
      have eb : plB (some xs) c = false := by
        show (decide ((xs.length : Int) = c) && xs.all isI) = false
        rw [decide_eq_false hne]
        rfl
      rw [eb] at qq
      exact qq
    have heq : (xs.length : Int) = c := by
      refine Decidable.byContradiction fun z => e ?_
      show (!decide (V.int (xs.length : Int) = V.int c)) = true
      rw [decide_eq_false (fun y => z (V.int.inj y))]
      rfl
    refine ⟨_, rfl, a, rfl, ⟨_, hS⟩, fun D nD => ?_⟩
    refine lc_tup (K := K) (a := a) (xs := xs) (fun i H2 => Same H H2 ∧ H2 D = some (.lst (((xs.take i).map isI).map V.bl))) ⟨same_new nD, upd_same⟩ (fun i H2 _ ⟨sm, _⟩ => Same.sqT sm hS) ?_ ?_
    rotate_left
    · rintro H2 ⟨sm, hD⟩
      rw [List.take_length] at hD
      refine ⟨D, _, rfl, SqL.of hD, ?_⟩
      have eb : (xs.map isI).all id = plB (some xs) c := by
        show _ = (decide ((xs.length : Int) = c) && xs.all isI)
        rw [decide_eq_true heq, List.all_map]
        rfl
      rw [eb]
      exact q H2 sm
    · rintro i x H2 hx ⟨sm, hD⟩
      have hi : i < xs.length := (List.getElem?_eq_some_iff.mp hx).1
      refine ⟨rfl, _, rfl, x, rfl, (h4 x (List.mem_of_getElem? hx)).mono (Same.tups sm), _, hD, ?_, ?_, ?_⟩
      · rw [List.length_map, List.length_map]
        exact small1000 (Nat.le_trans (List.length_take_le _ _) (by omega))
      · intro b o e
        rw [upd_ne (ne_of_none e nD)]
        exact sm b o e
      · rw [upd_same, take_more hx, List.map_append, List.map_append]
        rfl
end
end Lk

namespace Lk
open PySem L2
theorem BagAt.same {H H' : Hp} {b l : Addr} (B : BagAt H b l) (e : Same H H') : BagAt H' b l := by
  obtain ⟨x1, x2, x3, x4, Z⟩ := B
  exact ⟨x1, x2, x3, x4, e _ _ Z.ob, e _ _ Z.ls, Z.i0, Z.i1, Z.g0, Z.s0, Z.s1⟩
theorem itd_all {K : PySem.W.Frag} {H : Hp} {xs : List V} (h : xs.all scal = true) : ∀ x ∈ xs, ItD K H x := fun x hx => .inl (List.all_eq_true.mp h x hx)
def spOdd (K : PySem.W.Frag) : Sp := fun vs H Q _ => ∃ (b l : Addr), vs = [.ref b] ∧ BagAt H b l ∧ ∀ (v : V) (o : Option (List V)) (H' : Hp), OD K H' v o → OB o → BagAt H' b l → But b H H' → Q v H'
section
variable {P : Program} {w : World} {K : PySem.W.Frag} {mg : Str → Option Value} {base : Heap}
end
end Lk

namespace Lk
open PySem L2 Lx
/-- an error that says its place: its class C and its __init__ -/
structure RaiseC (K : PySem.W.Frag) (mg : Str → Option Value) (x : Str) (C D fS fI : Addr) : Prop where
  er : ErrC K C D fS
  iC : PySem.W.findIn K (.ref C) "__init__" = some (some (.ref fI))
  tI : PySem.W.typeIn K (.ref fI) = some (.type "function")
  at_ : mg x = some (.ref C)
def xflds (fn : Str) (v : V) (tg : Str) : List (Str × V) := [(fn, v), ("tag", .str tg)]
/-- what is there behind the making of the error -/
theorem made_ext {H : Hp} {a dx C : Addr} {o1 o2 o3 o4 o5 : HO} (na : H a = none) (nd : H dx = none) :
    ∀ b u, H b = some u → (upd (del (upd (upd (upd (upd H a o1) dx o2) a o3) dx o4) a) dx o5) b = some u := fun b u e => by
  have hb : b ≠ a := ne_of_none e na
  have hd : b ≠ dx := ne_of_none e nd
  rw [upd_ne hd, del_ne hb, upd_ne hd, upd_ne hb, upd_ne hd, upd_ne hb]
  exact e
def spChkX (K : PySem.W.Frag) (C : Addr) : Sp := fun vs H _ E => ∃ v c o, vs = [v, .int c] ∧ OD K H v o ∧ plB o c = false ∧ ∀ (d : Addr) (H' : Hp), (∀ b u, H b = some u → H' b = some u) → H' d = some (.xd (xflds "given" v "InvalidPlace")) → E (.ref C) (some d) H'
section
variable {P : Program} {w : World} {K : PySem.W.Frag} {mg : Str → Option Value} {base : Heap}
theorem ok_chkX {f fN fI C D fS : Addr} {fd fdN fdI : FuncData} {k : Nat} (F : Fun K "check_place" "check_place" sChkPlace f fd) (R : RaiseC K mg "InvalidPlace" C D fS fI)
    (GI : FnOk P w K mg base CX0 (k + 2) fI fdI ["self", "given"] (spE1 K C "InvalidPlace" "given")) (bI : Binds K fdI ["self", "given"] [])
    (GN : FnOk P w K mg base CX0 (k + 2) fN fdN ["value", "count"] (spNumsO K)) (kN : PySem.W.keepIn K (.ref fN) = true) (bN : Binds K fdN ["value", "count"] []) (gN : mg "are_numbers" = some (.ref fN)) : FnOk P w K mg base (L2.CX P w) (k + 4) f fd ["place", "directions"] (spChkX K C) := by
  refine F.okX scChkPlace (fun vs H Q E h => ?_) (fun cdv A outer s H vs Q E hr h => ?_)
  · obtain ⟨v, c, o, rfl, _⟩ := h
    rfl
  · obtain ⟨v, c, o, rfl, hO, hp, q⟩ := h
    have hr2 : Room (k + 2) _ := hr.mono (by omega)
    refine ⟨_, pss_one (ps_if (pt_not (pt_val (pe_call GN hr2 (by rfl) gN kN bN .nil pass0 (pa_cons (pv 0) (pa_cons (pv 1) pa_nil)))))
      (pss_one (ps_raise rfl (takes_of rfl rfl rfl rfl) (pmk_oex R.er.ox R.iC R.tI GI hr bI .nil pass0 (by rfl) R.at_ (pa_cons (pv 0) pa_nil)))) pss_nil), ?_⟩
    refine ⟨_, rfl, _, rfl, v, c, o, rfl, hO, fun H1 sm => ⟨_, rfl, ?_⟩⟩
    rw [hp]
    refine iteT ⟨_, rfl, (by show 1 ≤ 1000; decide), fun a na => ⟨a, v, rfl, upd_same, fun dx nd ne => ⟨rfl, dx, _, ?_, upd_same, ?_, ?_⟩⟩⟩
    · rw [upd_ne (Ne.symm ne), upd_same]
    · rw [← nd, upd_ne ne]
    · have nd' : H1 dx = none := by rw [← nd, upd_ne ne]
      exact q dx _ (fun b u e => made_ext (C := C) na nd' b u (sm b u e)) upd_same
end
end Lk

namespace Lk
open PySem L2
/-! ### readings told by what comes out -/
section
variable {K : PySem.W.Frag} {H : Hp} {Q : VK}
theorem cat_reads {a b : Addr} {xs ys : List V} (ha : SqT K H a xs) (hb : SqT K H b ys) (hl : xs.length + ys.length ≤ 1000) (q : ∀ H' p, Same H H' → SqT K H' p (xs ++ ys) → Q (.ref p) H') : rCatA K (.ref a) (.ref b) H Q := by
  refine ⟨a, b, xs, ys, rfl, rfl, ha, hb, Nat.le_of_lt (small1000 hl), fun e => ?_, fun _ e => ?_, fun _ _ p np => ?_⟩
  · refine q H b (Same.refl _) ?_
    rw [e]
    exact hb
  · refine q H a (Same.refl _) ?_
    rw [e, List.append_nil]
    exact ha
  · exact q _ p (same_new np) (SqT.of upd_same)
theorem rep_reads {l : Addr} {k : Int} {a : V} (hl : SqT K H l [a]) (k0 : 0 ≤ k) (k1 : k ≤ 1000) (q : ∀ H' p, Same H H' → SqT K H' p (List.replicate k.toNat a) → Q (.ref p) H') : rRepO K (.ref l) (.int k) H Q := by
  refine ⟨l, k, a, rfl, rfl, hl, k0, k1, fun e => ?_, fun p np => ?_⟩
  · refine q H l (Same.refl _) ?_
    rw [e]
    exact hl
  · exact q _ p (same_new np) (SqT.of upd_same)
theorem cut_reads {a : Addr} {xs : List V} {lo hi : Option Int} (ha : SqT K H a xs) (q : ∀ H' p, Same H H' → SqT K H' p (cutV xs lo hi) → Q (.ref p) H') : rSlA K (.ref a) lo hi H Q := by
  refine ⟨a, xs, rfl, ha, fun e => ?_, fun _ p np => ?_⟩
  · refine q H a (Same.refl _) ?_
    have e2 : cutV xs lo hi = xs := by
      unfold cutV
      rw [e.1, e.2]
      simp
    rw [e2]
    exact ha
  · exact q _ p (same_new np) (SqT.of upd_same)
end
/-! ### mathematics -/
def restsR : List Int → Int → List Int
  | [], _ => []
  | s :: r, n => (n % s) :: restsR r (n / s)
def quoR : List Int → Int → Int
  | [], n => n
  | s :: r, n => quoR r (n / s)
theorem restsR_app (s : Int) : ∀ (l : List Int) (n : Int), restsR (l ++ [s]) n = restsR l n ++ [quoR l n % s]
  | [], n => rfl
  | x :: r, n => by
    show (n % x) :: restsR (r ++ [s]) (n / x) = (n % x) :: (restsR r (n / x) ++ [quoR r (n / x) % s])
    rw [restsR_app s r]
theorem quoR_app (s : Int) : ∀ (l : List Int) (n : Int), quoR (l ++ [s]) n = quoR l n / s
  | [], n => rfl
  | x :: r, n => quoR_app s r (n / x)
theorem restsR_len : ∀ (l : List Int) (n : Int), (restsR l n).length = l.length
  | [], _ => rfl
  | x :: r, n => by simp [restsR, restsR_len r]
def pAt (ds : List Int) (c : Int) : List Int := (restsR ds.reverse c).reverse
theorem pAt_len (ds : List Int) (c : Int) : (pAt ds c).length = ds.length := by simp [pAt, restsR_len]
def idRow (d i : Nat) : List Int := List.replicate i 0 ++ [1] ++ List.replicate (d - i - 1) 0
def idM (d : Nat) : List (List Int) := (List.range d).map (idRow d)
def colM (m : List (List Int)) (j : Nat) : List Int := m.map fun r => r.getD j 0
def rowM (row : List Int) (m : List (List Int)) : List Int := (List.range m.length).map fun j => dotL row (colM m j)
def B64 (r : List Int) : Prop := ∀ z ∈ r, -(2 ^ 64) < z ∧ z < 2 ^ 64
/-! ### promises -/
def spPlaceAt (K : PySem.W.Frag) : Sp := fun vs H Q _ => ∃ (a : Addr) (ds : List Int) (c : Int), vs = [.ref a, .int c] ∧ SqT K H a (ds.map V.int) ∧ Divs ds ∧ ds.length ≤ 3 ∧ ∀ H' p, Same H H' → SqT K H' p ((pAt ds c).map V.int) → Q (.ref p) H'
def spIdent (K : PySem.W.Frag) : Sp := fun vs H Q _ => ∃ d : Nat, vs = [.int d] ∧ d ≤ 3 ∧ ∀ H' p ws, Same H H' → SqT K H' p ws → HdsAt K H' (idM d) ws → Q (.ref p) H'
def spTimes (K : PySem.W.Frag) : Sp := fun vs H Q _ => ∃ (m c : Addr) (mat : List (List Int)) (ws : List V) (x : List Int), vs = [.ref m, .ref c] ∧ SqT K H m ws ∧ HdsAt K H mat ws ∧ SqT K H c (x.map V.int) ∧ (∀ r ∈ mat, r.length = x.length ∧ B64 r) ∧ x.length ≤ 3 ∧ mat.length ≤ 3 ∧
  ∀ H' p, Same H H' → SqT K H' p ((mat.map fun r => dotL r x).map V.int) → Q (.ref p) H'
def spColumn (K : PySem.W.Frag) : Sp := fun vs H Q _ => ∃ (m : Addr) (j : Nat) (mat : List (List Int)) (ws : List V), vs = [.ref m, .int j] ∧ SqT K H m ws ∧ HdsAt K H mat ws ∧ (∀ r ∈ mat, j < r.length) ∧ mat.length ≤ 3 ∧
  ∀ H' p, Same H H' → SqT K H' p ((colM mat j).map V.int) → Q (.ref p) H'
def spRowTimes (K : PySem.W.Frag) : Sp := fun vs H Q _ => ∃ (a m : Addr) (row : List Int) (mat : List (List Int)) (ws : List V), vs = [.ref a, .ref m] ∧ SqT K H a (row.map V.int) ∧ SqT K H m ws ∧ HdsAt K H mat ws ∧ (∀ r ∈ mat, r.length = mat.length) ∧ mat.length ≤ 3 ∧ row.length = mat.length ∧ B64 row ∧
  ∀ H' p, Same H H' → SqT K H' p ((rowM row mat).map V.int) → Q (.ref p) H'
section
variable {P : Program} {w : World} {K : PySem.W.Frag} {mg : Str → Option Value} {base : Heap}
theorem ok_added {f : Addr} {fd : FuncData} {k : Nat} (F : Fun K "added" "added" sAdded f fd) (mt : mg "tuple" = none) (mz : mg "zip" = none) : FnOk P w K mg base CX0 (k + 1) f fd ["one", "other"] (spPlus K) := by
  refine F.ok scAdded (fun vs H Q E h => ?_) (fun cdv A outer s H vs Q E hr h => ?_)
  · obtain ⟨a, b, ns, ms, rfl, _⟩ := h
    rfl
  · obtain ⟨a, b, ns, ms, rfl, hA, hB, hl, h3, q⟩ := h
    refine ⟨_, pss_one (ps_ret (pe_callTy call_tuple_of (by rfl) mt (by decide +kernel) (pa_cons (pe_lc (own := [("first", 2), ("second", 3)]) (g := gTup K 2 (gCons (gName 2) (gCons (gName 3) gNil))) (by rfl) scAdded.nd (RZ.pi_zipA (by rfl) mz (pa_cons (pv 0) (pa_cons (pv 1) pa_nil)))
      (blkOk_by (own := [("first", 2), ("second", 3)]) (N := ["one", "other", "first", "second"]) (sc := defScope sAdded) (by decide +kernel))
      (fun _ _ _ _ _ => pg_tup rfl (pgs_cons (pg_name (i := 2) scAdded.nd rfl (.inl rfl)) (pgs_cons (pg_name (i := 3) scAdded.nd rfl (.inl rfl)) pgs_nil))) (fun _ _ _ _ _ => pts_nil)
      (fun _ _ _ _ _ => pe_op op_add (pv 2) (pv 3))) pa_nil))), ?_⟩
    have hle : (ns.map V.int).length = (ms.map V.int).length := by rw [List.length_map, List.length_map, hl]
    refine ⟨_, rfl, _, rfl, a, b, ns.map V.int, ms.map V.int, rfl, .inr ⟨hA, hB, fun D nD => ?_⟩⟩
    refine lc_it (walk_zipT hle) (fun i H2 => Same H H2 ∧ H2 D = some (.lst (((List.zipWith (· + ·) ns ms).take i).map V.int))) ⟨same_new nD, upd_same⟩ (fun i H2 _ ⟨sm, _⟩ => ⟨Same.sqT sm hA, Same.sqT sm hB⟩) ?_ ?_
    · rintro i x H2 H3 hi ⟨sm, hD⟩ ⟨T, x1, x2, rfl, nT, rfl, f1, f2⟩
      obtain ⟨u, hu, rfl⟩ := map_get f1
      obtain ⟨v, hv, rfl⟩ := map_get f2
      have nDT : D ≠ T := ne_of_none hD nT
      have gz : (List.zipWith (· + ·) ns ms)[i]? = some (u + v) := by
        rw [List.getElem?_zipWith, hu, hv]
      refine ⟨T, _, rfl, SqT.of upd_same, rfl, _, _, rfl, _, _, rfl, rfl, rfl, ?_⟩
      refine ⟨_, rfl, _, rfl, _, _, rfl, rfl, _, (by rw [upd_ne nDT]; exact hD), ?_, ?_, ?_⟩
      · rw [List.length_map]
        refine Nat.lt_of_le_of_lt (List.length_take_le _ _) (small1000 ?_)
        rw [List.length_map] at hi
        omega
      · intro c o e
        have e2 := sm c o e
        rw [upd_ne (ne_of_none e nD), upd_ne (ne_of_none e2 nT)]
        exact e2
      · rw [upd_same, take_more gz, List.map_append]
        rfl
    · rintro H2 ⟨sm, hD⟩
      have e : (List.zipWith (· + ·) ns ms).take (ns.map V.int).length = List.zipWith (· + ·) ns ms := List.take_of_length_le (by
        rw [List.length_zipWith, List.length_map]
        omega)
      rw [e] at hD
      refine ⟨D, _, rfl, .inl ⟨SqL.of hD, fun p np => ?_⟩⟩
      exact q _ p (sm.trans (same_new np)) (sm.free np) upd_same
theorem ok_placeat {f : Addr} {fd : FuncData} {k : Nat} (F : Fun K "place_at" "place_at" sPlaceAt f fd) (mt : mg "tuple" = none) : FnOk P w K mg base CX0 (k + 1) f fd ["sides", "number"] (spPlaceAt K) := by
  refine F.ok scPlaceAt (fun vs H Q E h => ?_) (fun cdv A outer s H vs Q E hr h => ?_)
  · obtain ⟨a, ds, c, rfl, _⟩ := h
    rfl
  · obtain ⟨a, ds, c, rfl, hA, hD, h3, q⟩ := h
    refine ⟨_, pss_cons (ps_set (i := 2) scPlaceAt.nd rfl (.inl rfl) (pe_lst pa_nil))
      (pss_cons (ps_for PassesOwn.never rfl (pi_tup (pe_revT (pv 0))) (pg_name (i := 3) scPlaceAt.nd rfl (.inl rfl))
        (pss_cons (ps_expr (pe_bm PySem.F.plainAttrs_list PySem.F.slot_list_append PySem.F.type_list_append mt_append (pv 2) (pa_cons (pe_op op_mod (pv 1) (pv 3)) pa_nil)))
        (pss_one (ps_set (i := 1) scPlaceAt.nd rfl (.inl rfl) (pe_op op_fdiv (pv 1) (pv 3))))))
      (pss_one (ps_ret (pe_callTy call_tuple_of (by rfl) mt (by decide +kernel) (pa_cons (pe_revL (pv 2)) pa_nil))))), ?_⟩
    refine ⟨Nat.zero_le _, fun o no => ?_⟩
    have s0 := same_new (o := .lst []) no
    refine ⟨_, rfl, a, _, rfl, Same.sqT s0 hA, fun r nr => ?_⟩
    have s1 := s0.trans (same_new (o := .tup (ds.map V.int).reverse) nr)
    have noR : o ≠ r := ne_of_none upd_same nr
    have er : (ds.map V.int).reverse = ds.reverse.map V.int := by rw [List.map_reverse]
    have hR : SqT K (upd (upd H o (.lst [])) r (.tup (ds.map V.int).reverse)) r (ds.reverse.map V.int) := by
      rw [← er]
      exact SqT.of upd_same
    refine ⟨r, rfl, ⟨_, hR⟩, for_tup (K := K) (a := r) (xs := ds.reverse.map V.int) (fun i σ H2 => ∃ v3 : Option V, σ = [some (.ref a), some (.int (quoR (ds.reverse.take i) c)), some (.ref o), v3] ∧ Same H H2 ∧ SqT K H2 r (ds.reverse.map V.int) ∧ H2 o = some (.lst ((restsR (ds.reverse.take i) c).map V.int)))
      ⟨none, rfl, s1, hR, by rw [upd_ne noR]; exact upd_same⟩ (fun i σ H2 _ ⟨_, _, _, h, _⟩ => h) ?_ ?_⟩
    · rintro i y σ H2 hi ⟨v3, rfl, sm, hR2, ho⟩
      obtain ⟨u, hu, rfl⟩ := map_get hi
      have hm : u ∈ ds := List.mem_reverse.mp (List.mem_of_getElem? hu)
      have u1 := hD.one u hm
      have hi3 : i < ds.reverse.length := (List.getElem?_eq_some_iff.mp hu).1
      rw [List.length_reverse] at hi3
      have u12 : u ≤ 12 := by
        obtain ⟨j, hj⟩ := List.mem_iff_getElem?.mp hm
        have p1 := hD.part (j + 1)
        have p2 := hD.part j
        rw [take_more hj, prodL_app] at p1
        have : 1 * u ≤ prodL (ds.take j) * u := Int.mul_le_mul_of_nonneg_right p2.1 (by omega)
        omega
      refine ⟨_, rfl, .inl ⟨rfl, _, SqL.of ho⟩, _, rfl, _, rfl, _, _, rfl, rfl, (by show (0 : Int) < u; omega), o, _, _, rfl, rfl, ho, ?_, ?_⟩
      · rw [List.length_map, restsR_len]
        exact small1000 (Nat.le_trans (List.length_take_le _ _) (by omega))
      refine ⟨_, rfl, _, rfl, _, u, rfl, rfl, ⟨by omega, by omega⟩, some (.int u), ?_, Same.upd_out sm no, ?_, ?_⟩
      · rw [take_more hu, quoR_app]
        rfl
      · exact tups_lst ho _ _ hR2
      · rw [upd_same, take_more hu, restsR_app, List.map_append]
        rfl
    · rintro σ H2 ⟨v3, rfl, sm, hR2, ho⟩
      rw [List.length_map, List.take_length] at ho
      refine ⟨_, rfl, o, _, rfl, SqL.of ho, fun l nl => ?_⟩
      have s3 := sm.trans (same_new (o := .lst ((restsR ds.reverse c).map V.int).reverse) nl)
      refine ⟨l, _, rfl, .inl ⟨SqL.of upd_same, fun p np => ?_⟩⟩
      refine q _ p (s3.trans (same_new np)) ?_
      unfold pAt
      rw [List.map_reverse]
      exact SqT.of upd_same
theorem ok_ident {f : Addr} {fd : FuncData} {k : Nat} (F : Fun K "identity" "identity" sIdent f fd) (mt : mg "tuple" = none) (mr : mg "range" = none) : FnOk P w K mg base CX0 (k + 1) f fd ["directions"] (spIdent K) := by
  refine F.ok scIdent (fun vs H Q E h => ?_) (fun cdv A outer s H vs Q E hr h => ?_)
  · obtain ⟨d, rfl, _⟩ := h
    rfl
  · obtain ⟨d, rfl, hd, q⟩ := h
    refine ⟨_, pss_cons (ps_set (i := 1) scIdent.nd rfl (.inl rfl) (pe_lst pa_nil))
      (pss_cons (ps_for PassesOwn.never rfl (pi_range1 (by rfl) mr (pa_cons (pv 0) pa_nil)) (pg_name (i := 2) scIdent.nd rfl (.inl rfl))
        (pss_one (ps_expr (pe_bm PySem.F.plainAttrs_list PySem.F.slot_list_append PySem.F.type_list_append mt_append (pv 1) (pa_cons (pe_op op_catA (pe_op op_catA (pe_op op_repO (pe_tup (pa_cons pe_int pa_nil)) (pv 2)) (pe_tup (pa_cons pe_int pa_nil))) (pe_op op_repO (pe_tup (pa_cons pe_int pa_nil)) (pe_op op_sub (pe_op op_sub (pv 0) (pv 2)) pe_int))) pa_nil)))))
      (pss_one (ps_ret (pe_callTy call_tuple_of (by rfl) mt (by decide +kernel) (pa_cons (pv 1) pa_nil))))), ?_⟩
    refine ⟨Nat.zero_le _, fun o no => ?_⟩
    refine ⟨_, rfl, d, rfl, by omega, by omega, for_range (lo := 0) (n := (d : Int).toNat) (fun i σ H2 => ∃ (v2 : Option V) (ws : List V), σ = [some (.int d), some (.ref o), v2] ∧ Same H H2 ∧ H2 o = some (.lst ws) ∧ HdsAt K H2 ((idM d).take i) ws)
      ⟨none, [], rfl, same_new no, upd_same, rfl⟩ ?_ ?_⟩
    · rintro i σ H2 hi ⟨v2, ws, rfl, sm, ho, hW⟩
      have hid : i < d := by omega
      have e0 : (0 : Int) + (i : Int) = (i : Int) := by omega
      have lw := hW.len
      refine ⟨_, rfl, .inl ⟨rfl, _, SqL.of ho⟩, (by show 1 ≤ sizeLine; decide), fun t1 n1 => ?_⟩
      have s1 := same_new (o := .tup [.int 0]) n1
      refine ⟨_, rfl, rep_reads (SqT.of upd_same) (by omega) (by omega) fun H3 r1 s3 g3 => ?_⟩
      refine ⟨(by show 1 ≤ sizeLine; decide), fun t2 n2 => ?_⟩
      have s4 := same_new (o := .tup [.int 1]) n2
      refine cat_reads (Same.sqT s4 g3) (SqT.of upd_same) (by simp; omega) fun H5 r2 s5 g5 => ?_
      refine ⟨(by show 1 ≤ sizeLine; decide), fun t3 n3 => ?_⟩
      have s6 := same_new (o := .tup [.int 0]) n3
      refine ⟨_, rfl, _, rfl, _, _, rfl, rfl, _, _, rfl, rfl, rep_reads (SqT.of upd_same) (by omega) (by omega) fun H7 r3 s7 g7 => ?_⟩
      refine cat_reads (Same.sqT s7 (Same.sqT s6 g5)) g7 (by simp; omega) fun H8 r4 s8 g8 => ?_
      have s28 : Same H2 H8 := ((s1.trans s3).trans (s4.trans s5)).trans ((s6.trans s7).trans s8)
      have ho8 := s28 _ _ ho
      refine ⟨o, ws, _, rfl, rfl, ho8, ?_, _, ws ++ [.ref r4], rfl, Same.upd_out (sm.trans s28) no, upd_same, ?_⟩
      · rw [lw]
        exact small1000 (Nat.le_trans (List.length_take_le _ _) (by omega))
      · have gi : (idM d)[i]? = some (idRow d i) := by
          unfold idM
          rw [List.getElem?_map, List.getElem?_range hid]
          rfl
        rw [take_more gi]
        have tu : Tups K H8 (upd H8 o (.lst (ws ++ [.ref r4]))) := tups_lst ho8
        have er : List.replicate ((0 : Int) + (i : Int)).toNat (V.int 0) ++ [V.int 1] ++ List.replicate ((d : Int) - (0 + (i : Int)) - 1).toNat (V.int 0) = (idRow d i).map V.int := by
          unfold idRow
          rw [List.map_append, List.map_append, List.map_replicate, List.map_replicate]
          have e1 : ((0 : Int) + (i : Int)).toNat = i := by omega
          have e2 : ((d : Int) - (0 + (i : Int)) - 1).toNat = d - i - 1 := by omega
          rw [e1, e2]
          rfl
        rw [er] at g8
        exact HdsAt.app (HdsAt.mono (fun b ys e => tu b ys (Same.sqT s28 e)) hW) (tu _ _ g8)
    · rintro σ H2 ⟨v2, ws, rfl, sm, ho, hW⟩
      rw [List.take_of_length_le (by unfold idM; rw [List.length_map, List.length_range]; omega)] at hW
      refine ⟨_, rfl, o, _, rfl, .inl ⟨SqL.of ho, fun p np => ?_⟩⟩
      exact q _ p ws (sm.trans (same_new np)) (SqT.of upd_same) (HdsAt.mono (Same.tups (same_new np)) hW)
theorem ok_times {f fD : Addr} {fd fdD : FuncData} {k : Nat} (F : Fun K "times" "times" sTimes f fd) (mt : mg "tuple" = none)
    (GD : FnOk P w K mg base CX0 (k + 1) fD fdD ["row", "place"] (spDot K)) (kD : PySem.W.keepIn K (.ref fD) = true) (bD : Binds K fdD ["row", "place"] []) (gD : mg "dot" = some (.ref fD)) : FnOk P w K mg base CX0 (k + 2) f fd ["matrix", "place"] (spTimes K) := by
  refine F.ok scTimes (fun vs H Q E h => ?_) (fun cdv A outer s H vs Q E hr h => ?_)
  · obtain ⟨m, c, mat, ws, x, rfl, _⟩ := h
    rfl
  · obtain ⟨m, c, mat, ws, x, rfl, hM, hW, hC, hr2, h3, m3, q⟩ := h
    refine ⟨_, pss_one (ps_ret (pe_callTy call_tuple_of (by rfl) mt (by decide +kernel) (pa_cons (pe_lc (own := [("row", 2)]) (g := gName 2) (by rfl) scTimes.nd (pi_tup (pv 0))
      (blkOk_by (own := [("row", 2)]) (N := ["matrix", "place", "row"]) (sc := defScope sTimes) (by decide +kernel)) (fun _ _ _ _ _ => pg_name (i := 2) scTimes.nd rfl (Or.inl rfl)) (fun _ _ _ _ _ => pts_nil)
      (fun _ _ _ _ _ => pe_call GD hr (by rfl) gD kD bD .nil pass0 (pa_cons (pv 2) (pa_cons (pv 1) pa_nil)))) pa_nil))), ?_⟩
    have lw := hW.len
    refine ⟨_, rfl, m, rfl, ⟨_, hM⟩, fun D nD => ?_⟩
    refine lc_tup (K := K) (a := m) (xs := ws) (fun i H2 => Same H H2 ∧ H2 D = some (.lst (((mat.take i).map fun r => dotL r x).map V.int))) ⟨same_new nD, upd_same⟩ (fun i H2 _ ⟨sm, _⟩ => Same.sqT sm hM) ?_ ?_
    · rintro i y H2 hy ⟨sm, hD⟩
      obtain ⟨r, ra, hr', rfl, hra⟩ := hW.get hy
      have hb := hr2 r (List.mem_of_getElem? hr')
      refine ⟨rfl, _, rfl, _, rfl, ra, c, r, x, rfl, Same.sqT sm hra, Same.sqT sm hC, hb.1, by omega, hb.2, fun H3 s3 => ⟨_, s3 _ _ hD, ?_, ?_, ?_⟩⟩
      · rw [List.length_map, List.length_map]
        exact small1000 (by rw [List.length_take]; omega)
      · intro b o e
        rw [upd_ne (ne_of_none e nD)]
        exact s3 _ _ (sm b o e)
      · rw [upd_same, take_more hr', List.map_append, List.map_append]
        rfl
    · rintro H2 ⟨sm, hD⟩
      rw [List.take_of_length_le (by omega)] at hD
      refine ⟨D, _, rfl, .inl ⟨SqL.of hD, fun p np => ?_⟩⟩
      exact q _ p (sm.trans (same_new np)) (SqT.of upd_same)
theorem ok_column {f : Addr} {fd : FuncData} {k : Nat} (F : Fun K "column" "column" sColumn f fd) (mt : mg "tuple" = none) : FnOk P w K mg base CX0 (k + 1) f fd ["matrix", "at"] (spColumn K) := by
  refine F.ok scColumn (fun vs H Q E h => ?_) (fun cdv A outer s H vs Q E hr h => ?_)
  · obtain ⟨m, j, mat, ws, rfl, _⟩ := h
    rfl
  · obtain ⟨m, j, mat, ws, rfl, hM, hW, hr2, m3, q⟩ := h
    refine ⟨_, pss_one (ps_ret (pe_callTy call_tuple_of (by rfl) mt (by decide +kernel) (pa_cons (pe_lc (own := [("row", 2)]) (g := gName 2) (te := tOp (rIxT K) (tVar 2) (tVar 1)) (by rfl) scColumn.nd (pi_tup (pv 0))
      (blkOk_by (own := [("row", 2)]) (N := ["matrix", "at", "row"]) (sc := defScope sColumn) (by decide +kernel)) (fun _ _ _ _ _ => pg_name (i := 2) scColumn.nd rfl (Or.inl rfl)) (fun _ _ _ _ _ => pts_nil)
      (fun _ _ _ _ _ => pe_ix ix_tup (pv 2) (pv 1) (fun _ _ => rfl))) pa_nil))), ?_⟩
    have lw := hW.len
    refine ⟨_, rfl, m, rfl, ⟨_, hM⟩, fun D nD => ?_⟩
    refine lc_tup (K := K) (a := m) (xs := ws) (fun i H2 => Same H H2 ∧ H2 D = some (.lst ((colM (mat.take i) j).map V.int))) ⟨same_new nD, upd_same⟩ (fun i H2 _ ⟨sm, _⟩ => Same.sqT sm hM) ?_ ?_
    · rintro i y H2 hy ⟨sm, hD⟩
      obtain ⟨r, ra, hr', rfl, hra⟩ := hW.get hy
      have hj := hr2 r (List.mem_of_getElem? hr')
      have hat : (r.map V.int)[j]? = some (.int (r.getD j 0)) := by
        rw [List.getElem?_map, List.getElem?_eq_getElem hj, List.getD_eq_getElem?_getD, List.getElem?_eq_getElem hj]
        rfl
      refine ⟨rfl, _, rfl, _, rfl, ra, _, _, _, rfl, rfl, Same.sqT sm hra, atI_nat hat, _, hD, ?_, ?_, ?_⟩
      · unfold colM
        rw [List.length_map, List.length_map]
        exact small1000 (by rw [List.length_take]; omega)
      · intro b o e
        rw [upd_ne (ne_of_none e nD)]
        exact sm b o e
      · unfold colM
        rw [upd_same, take_more hr', List.map_append, List.map_append]
        rfl
    · rintro H2 ⟨sm, hD⟩
      rw [List.take_of_length_le (by omega)] at hD
      refine ⟨D, _, rfl, .inl ⟨SqL.of hD, fun p np => ?_⟩⟩
      exact q _ p (sm.trans (same_new np)) (SqT.of upd_same)
theorem ok_rowtimes {f fD fC : Addr} {fd fdD fdC : FuncData} {k : Nat} (F : Fun K "row_times" "row_times" sRowTimes f fd) (mt : mg "tuple" = none) (mr : mg "range" = none) (ml : mg "len" = none)
    (GD : FnOk P w K mg base CX0 (k + 1) fD fdD ["row", "place"] (spDot K)) (kD : PySem.W.keepIn K (.ref fD) = true) (bD : Binds K fdD ["row", "place"] []) (gD : mg "dot" = some (.ref fD))
    (GC : FnOk P w K mg base CX0 (k + 1) fC fdC ["matrix", "at"] (spColumn K)) (kC : PySem.W.keepIn K (.ref fC) = true) (bC : Binds K fdC ["matrix", "at"] []) (gC : mg "column" = some (.ref fC)) : FnOk P w K mg base CX0 (k + 2) f fd ["row", "matrix"] (spRowTimes K) := by
  refine F.ok scRowTimes (fun vs H Q E h => ?_) (fun cdv A outer s H vs Q E hr h => ?_)
  · obtain ⟨a, m, row, mat, ws, rfl, _⟩ := h
    rfl
  · obtain ⟨a, m, row, mat, ws, rfl, hA, hM, hW, hr2, m3, hl, hb, q⟩ := h
    refine ⟨_, pss_one (ps_ret (pe_callTy call_tuple_of (by rfl) mt (by decide +kernel) (pa_cons (pe_lc (own := [("at", 2)]) (g := gName 2) (by rfl) scRowTimes.nd (pi_range1 (by rfl) mr (pa_cons (pe_callB call_len_seq (by rfl) ml PySem.boot_len (pa_cons (pv 1) pa_nil)) pa_nil))
      (blkOk_by (own := [("at", 2)]) (N := ["row", "matrix", "at"]) (sc := defScope sRowTimes) (by decide +kernel)) (fun _ _ _ _ _ => pg_name (i := 2) scRowTimes.nd rfl (Or.inl rfl)) (fun _ _ _ _ _ => pts_nil)
      (fun _ _ _ _ _ => pe_call GD hr (by rfl) gD kD bD .nil pass0 (pa_cons (pv 0) (pa_cons (pe_call GC hr (by rfl) gC kC bC .nil pass0 (pa_cons (pv 1) (pa_cons (pv 2) pa_nil))) pa_nil)))) pa_nil))), ?_⟩
    have lw := hW.len
    refine ⟨_, rfl, m, _, rfl, .inr hM, _, rfl, by omega, by omega, fun D nD => ?_⟩
    refine lc_range (lo := 0) (n := (ws.length : Int).toNat) (fun i H2 => Same H H2 ∧ H2 D = some (.lst (((rowM row mat).take i).map V.int))) ⟨same_new nD, upd_same⟩ ?_ ?_
    · rintro i H2 hi ⟨sm, hD⟩
      have hi2 : i < mat.length := by omega
      have e0 : (0 : Int) + (i : Int) = (i : Int) := by omega
      refine ⟨rfl, _, rfl, _, rfl, _, rfl, m, i, mat, ws, ?_, Same.sqT sm hM, HdsAt.mono (Same.tups sm) hW, fun r hr' => by rw [hr2 r hr']; exact hi2, m3, fun H3 p s3 hp => ?_⟩
      · show [V.ref m, V.int (0 + (i : Int))] = _
        rw [e0]
      have lc : (colM mat i).length = mat.length := by unfold colM; rw [List.length_map]
      refine ⟨a, p, row, colM mat i, rfl, Same.sqT s3 (Same.sqT sm hA), hp, by omega, by omega, hb, fun H4 s4 => ⟨_, s4 _ _ (s3 _ _ hD), ?_, ?_, ?_⟩⟩
      · rw [List.length_map]
        refine small1000 ?_
        rw [List.length_take]
        omega
      · intro b o e
        rw [upd_ne (ne_of_none e nD)]
        exact s4 _ _ (s3 _ _ (sm b o e))
      · have gi : (rowM row mat)[i]? = some (dotL row (colM mat i)) := by
          unfold rowM
          rw [List.getElem?_map, List.getElem?_range hi2]
          rfl
        rw [upd_same, take_more gi, List.map_append]
        rfl
    · rintro H2 ⟨sm, hD⟩
      rw [List.take_of_length_le (by unfold rowM; rw [List.length_map, List.length_range]; omega)] at hD
      refine ⟨D, _, rfl, .inl ⟨SqL.of hD, fun p np => ?_⟩⟩
      exact q _ p (sm.trans (same_new np)) (SqT.of upd_same)
end
end Lk

namespace Lk
open PySem L2
def mulM (m : List (List Int)) (x : List Int) : List Int := m.map fun r => dotL r x
def srcM (ds : List Int) (mat : List (List Int)) (x nds : List Int) (n : Nat) : List Int := (List.range n).map fun (j : Nat) => cls ds (plus (mulM mat (pAt nds (j : Int))) x)
def movC (srcs cs : List Int) : List Int := (rng0 srcs.length).filter fun j => decide (srcs.getD j.toNat 0 ∈ cs)
mutual
def mvT (srcs : List Int) (mat : List (List Int)) (e : Tr) : Tr → Tr
  | .pl => e
  | .key row hs t => .key (rowM row mat) (srcs.map fun c => hs.getD c.toNat 0) (mvT srcs mat e t)
  | .fork gs => .fork (mvG srcs mat e gs)
def mvG (srcs : List Int) (mat : List (List Int)) (e : Tr) : Gs → Gs
  | .nil => .nil
  | .cons cs t r => .cons (movC srcs cs) (mvT srcs mat e t) (mvG srcs mat e r)
end
theorem Gs.trees_snoc (cs : List Int) (t : Tr) : ∀ g : Gs, (g.snoc cs t).trees = g.trees ++ [t]
  | .nil => rfl
  | .cons c u r => by simp [Gs.snoc, Gs.trees, Gs.trees_snoc cs t r]
theorem Gs.ext_ : ∀ {g h : Gs}, g.heads = h.heads → g.trees = h.trees → g = h
  | .nil, .nil, _, _ => rfl
  | .nil, .cons _ _ _, h, _ => by cases h
  | .cons _ _ _, .nil, h, _ => by cases h
  | .cons c t r, .cons c' t' r', h1, h2 => by
    simp only [Gs.heads, List.cons.injEq] at h1
    simp only [Gs.trees, List.cons.injEq] at h2
    rw [h1.1, h2.1, Gs.ext_ h1.2 h2.2]
theorem mvG_heads (srcs : List Int) (mat : List (List Int)) (e : Tr) : ∀ g : Gs, (mvG srcs mat e g).heads = g.heads.map (movC srcs)
  | .nil => by simp [mvG, Gs.heads]
  | .cons c t r => by simp [mvG, Gs.heads, mvG_heads srcs mat e r]
theorem mvG_trees (srcs : List Int) (mat : List (List Int)) (e : Tr) : ∀ g : Gs, (mvG srcs mat e g).trees = g.trees.map (mvT srcs mat e)
  | .nil => by simp [mvG, Gs.trees]
  | .cons c t r => by simp [mvG, Gs.trees, mvG_trees srcs mat e r]
/-- a square matrix of d directions -/
structure Mat (mat : List (List Int)) (d : Nat) : Prop where
  ln : mat.length = d
  rw_ : ∀ r ∈ mat, r.length = d ∧ B64 r
def spSources (K : PySem.W.Frag) : Sp := fun vs H Q _ => ∃ (a m c e : Addr) (ds : List Int) (mat : List (List Int)) (ws : List V) (x nds : List Int) (d n : Nat), vs = [.ref a, .ref m, .ref c, .ref e] ∧ SqT K H a (ds.map V.int) ∧ SqT K H m ws ∧ HdsAt K H mat ws ∧ SqT K H c (x.map V.int) ∧ SqT K H e (nds.map V.int) ∧
  Divs ds ∧ Divs nds ∧ ds.length = d ∧ nds.length = d ∧ Mat mat d ∧ x.length = d ∧ d ≤ 3 ∧ prodL nds = (n : Int) ∧ ∀ H' p, Same H H' → H' p = some (.lst ((srcM ds mat x nds n).map V.int)) → Q (.ref p) H'
def spMovedC (K : PySem.W.Frag) : Sp := fun vs H Q _ => ∃ (a l : Addr) (cs srcs : List Int), vs = [.ref a, .ref l] ∧ SqT K H a (cs.map V.int) ∧ SqL K H l (srcs.map V.int) ∧ srcs.length ≤ 1000 ∧ ∀ H' p, Same H H' → SqT K H' p ((movC srcs cs).map V.int) → Q (.ref p) H'
def spMoved (K : PySem.W.Frag) (m : Nat) : Sp := fun vs H Q _ => ∃ (v ev : V) (mA sA : Addr) (t e : Tr) (mat : List (List Int)) (ws : List V) (srcs : List Int) (d n : Nat), vs = [v, .ref mA, .ref sA, ev] ∧ TrAt K H t v ∧ SqT K H mA ws ∧ HdsAt K H mat ws ∧ SqL K H sA (srcs.map V.int) ∧ TrAt K H e ev ∧
  t.wf d n ∧ t.dep ≤ m ∧ Mat mat d ∧ d ≤ 3 ∧ n ≤ 12 ∧ (∀ c ∈ srcs, 0 ≤ c ∧ c < n) ∧ srcs.length ≤ 1000 ∧ ∀ H' u, Same H H' → TrAt K H' (mvT srcs mat e t) u → Q u H'
section
variable {P : Program} {w : World} {K : PySem.W.Frag} {mg : Str → Option Value} {base : Heap}
theorem ok_sources {f fM fA fT fL fC : Addr} {fd fdM fdA fdT fdL fdC : FuncData} {k : Nat} (F : Fun K "source_classes" "source_classes" sSources f fd) (mr : mg "range" = none)
    (GM : FnOk P w K mg base CX0 (k + 1) fM fdM ["numbers"] (spCount K)) (kM : PySem.W.keepIn K (.ref fM) = true) (bM : Binds K fdM ["numbers"] []) (gM : mg "product" = some (.ref fM))
    (GA : FnOk P w K mg base CX0 (k + 1) fA fdA ["one", "other"] (spPlus K)) (kA : PySem.W.keepIn K (.ref fA) = true) (bA : Binds K fdA ["one", "other"] []) (gA : mg "added" = some (.ref fA))
    (GT : FnOk P w K mg base CX0 (k + 2) fT fdT ["matrix", "place"] (spTimes K)) (kT : PySem.W.keepIn K (.ref fT) = true) (bT : Binds K fdT ["matrix", "place"] []) (gT : mg "times" = some (.ref fT))
    (GL : FnOk P w K mg base CX0 (k + 1) fL fdL ["sides", "number"] (spPlaceAt K)) (kL : PySem.W.keepIn K (.ref fL) = true) (bL : Binds K fdL ["sides", "number"] []) (gL : mg "place_at" = some (.ref fL))
    (GC : FnOk P w K mg base CX0 (k + 1) fC fdC ["divisors", "place"] (spClassAt K)) (kC : PySem.W.keepIn K (.ref fC) = true) (bC : Binds K fdC ["divisors", "place"] []) (gC : mg "class_at" = some (.ref fC)) :
    FnOk P w K mg base CX0 (k + 3) f fd ["divisors", "matrix", "place", "new_divisors"] (spSources K) := by
  refine F.ok scSources (fun vs H Q E h => ?_) (fun cdv A outer s H vs Q E hr h => ?_)
  · obtain ⟨a, m, c, e, ds, mat, ws, x, nds, d, n, rfl, _⟩ := h
    rfl
  · obtain ⟨a, m, c, e, ds, mat, ws, x, nds, d, n, rfl, hA, hM, hW, hC, hE, D1, D2, l1, l2, MM, lx, d3, hn, q⟩ := h
    have hr1 : Room (k + 1) _ := hr.mono (by omega)
    refine ⟨_, pss_cons (ps_set (i := 4) scSources.nd rfl (.inl rfl) (pe_lst pa_nil))
      (pss_cons (ps_for PassesOwn.never rfl (pi_range1 (by rfl) mr (pa_cons (pe_call GM hr1 (by rfl) gM kM bM .nil pass0 (pa_cons (pv 3) pa_nil)) pa_nil)) (pg_name (i := 5) scSources.nd rfl (.inl rfl))
        (pss_cons (ps_set (i := 6) scSources.nd rfl (.inl rfl) (pe_call GA hr1 (by rfl) gA kA bA .nil pass0 (pa_cons (pe_call GT hr (by rfl) gT kT bT .nil pass0 (pa_cons (pv 1) (pa_cons (pe_call GL hr1 (by rfl) gL kL bL .nil pass0 (pa_cons (pv 3) (pa_cons (pv 5) pa_nil))) pa_nil))) (pa_cons (pv 2) pa_nil))))
        (pss_one (ps_expr (pe_bm PySem.F.plainAttrs_list PySem.F.slot_list_append PySem.F.type_list_append mt_append (pv 4) (pa_cons (pe_call GC hr1 (by rfl) gC kC bC .nil pass0 (pa_cons (pv 0) (pa_cons (pv 6) pa_nil))) pa_nil))))))
      (pss_one (ps_ret (pv 4)))), ?_⟩
    have hn12 : n ≤ 12 := by have := D2.most; omega
    refine ⟨Nat.zero_le _, fun o no => ?_⟩
    have s0 := same_new (o := .lst []) no
    refine ⟨_, rfl, e, nds, rfl, Same.sqT s0 hE, D2, ?_⟩
    rw [hn]
    refine ⟨n, rfl, by omega, by omega, for_range (lo := 0) (n := (n : Int).toNat) (fun i σ H2 => ∃ v5 v6 : Option V, σ = [some (.ref a), some (.ref m), some (.ref c), some (.ref e), some (.ref o), v5, v6] ∧ Same H H2 ∧ H2 o = some (.lst (((srcM ds mat x nds n).take i).map V.int)))
      ⟨none, none, rfl, s0, upd_same⟩ ?_ ?_⟩
    · rintro i σ H2 hi ⟨v5, v6, rfl, sm, ho⟩
      have e0 : (0 : Int) + (i : Int) = (i : Int) := by omega
      have hin : i < n := by omega
      rw [e0]
      refine ⟨_, rfl, _, rfl, _, rfl, e, nds, i, rfl, Same.sqT sm hE, D2, by omega, fun H3 p3 s3 g3 => ?_⟩
      have sm3 := sm.trans s3
      have pl := pAt_len nds (i : Int)
      refine ⟨m, p3, mat, ws, _, rfl, Same.sqT sm3 hM, HdsAt.mono (Same.tups sm3) hW, g3, fun r hr' => ⟨by rw [(MM.rw_ r hr').1]; omega, (MM.rw_ r hr').2⟩, by omega, by rw [MM.ln]; omega, fun H4 p4 s4 g4 => ?_⟩
      have sm4 := sm3.trans s4
      have lm : (mulM mat (pAt nds (i : Int))).length = d := by unfold mulM; rw [List.length_map, MM.ln]
      refine ⟨_, rfl, p4, c, mulM mat (pAt nds (i : Int)), x, rfl, g4, Same.sqT sm4 hC, by omega, by omega, fun H5 p5 s5 n5 g5 => ?_⟩
      have sm5 := sm4.trans s5
      have ho5 := s5 _ _ (s4 _ _ (s3 _ _ ho))
      refine ⟨_, rfl, .inl ⟨rfl, _, SqL.of ho5⟩, _, rfl, _, rfl, a, p5, ds, _, rfl, Same.sqT sm5 hA, SqT.of g5, ?_, D1, fun H6 s6 => ?_⟩
      · show ds.length = (plus (mulM mat (pAt nds (i : Int))) x).length
        rw [plus_len (by omega)]
        omega
      refine ⟨o, _, _, rfl, rfl, s6 _ _ ho5, ?_, _, _, rfl, Same.upd_out (sm5.trans s6) no, ?_⟩
      · rw [List.length_map]
        exact small1000 (by rw [List.length_take]; omega)
      · have gi : (srcM ds mat x nds n)[i]? = some (cls ds (plus (mulM mat (pAt nds (i : Int))) x)) := by
          unfold srcM
          rw [List.getElem?_map, List.getElem?_range hin]
          rfl
        rw [upd_same, take_more gi, List.map_append]
        rfl
    · rintro σ H2 ⟨v5, v6, rfl, sm, ho⟩
      rw [List.take_of_length_le (by unfold srcM; rw [List.length_map, List.length_range]; omega)] at ho
      exact ⟨_, rfl, q H2 o sm ho⟩
theorem ok_movedc {f : Addr} {fd : FuncData} {k : Nat} (F : Fun K "moved_classes" "moved_classes" sMovedC f fd) (mt : mg "tuple" = none) (me : mg "enumerate" = none) : FnOk P w K mg base CX0 (k + 1) f fd ["classes", "sources"] (spMovedC K) := by
  refine F.ok scMovedC (fun vs H Q E h => ?_) (fun cdv A outer s H vs Q E hr h => ?_)
  · obtain ⟨a, l, cs, srcs, rfl, _⟩ := h
    rfl
  · obtain ⟨a, l, cs, srcs, rfl, hA, hL, h1, q⟩ := h
    refine ⟨_, pss_one (ps_ret (pe_callTy call_tuple_of (by rfl) mt (by decide +kernel) (pa_cons (pe_lc (own := [("number", 2), ("source", 3)]) (g := gTup K 2 (gCons (gName 2) (gCons (gName 3) gNil))) (tt := tTest (tOp (rIn K false) (tVar 3) (tVar 0))) (by rfl) scMovedC.nd (pi_enum (by rfl) me (pa_cons (pv 1) pa_nil))
      (blkOk_by (own := [("number", 2), ("source", 3)]) (N := ["classes", "sources", "number", "source"]) (sc := defScope sMovedC) (by decide +kernel))
      (fun _ _ _ _ _ => pg_tup rfl (pgs_cons (pg_name (i := 2) scMovedC.nd rfl (.inl rfl)) (pgs_cons (pg_name (i := 3) scMovedC.nd rfl (.inl rfl)) pgs_nil))) (fun _ _ _ _ _ => pts_one (pt_cmpR op_in_seq (pv 3) (pv 0) (by rfl)))
      (fun _ _ _ _ _ => pv 2)) pa_nil))), ?_⟩
    refine ⟨_, rfl, l, srcs.map V.int, rfl, hL, fun D nD => ?_⟩
    refine lc_it walk_enum (fun i H2 => Same H H2 ∧ H2 D = some (.lst (((rng0 i).filter fun j => decide (srcs.getD j.toNat 0 ∈ cs)).map V.int))) ⟨same_new nD, upd_same⟩ (fun i H2 _ ⟨sm, _⟩ => Same.sqL sm hL) ?_ ?_
    · rintro i x H2 H3 hi ⟨sm, hD⟩ ⟨T, x1, x2, rfl, nT, rfl, f1, f2⟩
      obtain rfl : x1 = V.int (i : Nat) := (Option.some.inj f1).symm
      obtain ⟨u, hu, rfl⟩ := map_get f2
      have hi2 : i < srcs.length := (List.getElem?_eq_some_iff.mp hu).1
      have nDT : D ≠ T := ne_of_none hD nT
      have s3 := sm.trans (same_new (o := .tup [.int (i : Nat), .int u]) nT)
      have gu : srcs.getD i 0 = u := by
        rw [List.getD_eq_getElem?_getD, hu]
        rfl
      have lenj : (((rng0 i).filter fun j => decide (srcs.getD j.toNat 0 ∈ cs)).map V.int).length < sizeLine := by
        rw [List.length_map]
        refine small1000 (Nat.le_trans (List.length_filter_le _ _) ?_)
        rw [rng0_len]
        omega
      have hD3 : (upd H2 T (.tup [.int (i : Nat), .int u])) D = some (.lst (((rng0 i).filter fun j => decide (srcs.getD j.toNat 0 ∈ cs)).map V.int)) := by
        rw [upd_ne nDT]
        exact hD
      refine ⟨T, _, rfl, SqT.of upd_same, rfl, _, _, rfl, _, _, rfl, rfl, rfl, _, rfl, _, rfl, a, _, rfl, .inr (Same.sqT s3 hA), rfl, ?_, _, rfl, ?_⟩
      · rw [List.all_eq_true]
        intro y hy
        obtain ⟨z, _, rfl⟩ := List.mem_map.mp hy
        rfl
      have ei : (if false = true then !inV (.int u) (cs.map V.int) else inV (.int u) (cs.map V.int)) = decide (u ∈ cs) := by
        rw [if_neg (by decide), inV_ints]
      rw [ei]
      refine ite2 (fun e => ?_) (fun e => ?_)
      · have e1 : u ∈ cs := of_decide_eq_true e
        refine ⟨_, rfl, _, hD3, lenj, Same.upd_out s3 nD, ?_⟩
        rw [upd_same, rng0_succ, List.filter_append, List.map_append]
        have : ([(i : Int)].filter fun j => decide (srcs.getD j.toNat 0 ∈ cs)) = [(i : Int)] := by
          rw [List.filter_cons, decide_eq_true (show srcs.getD ((i : Int)).toNat 0 ∈ cs by rw [Int.toNat_natCast, gu]; exact e1), if_pos rfl]
          rfl
        rw [this]
        rfl
      · have e1 : ¬ u ∈ cs := fun z => e (decide_eq_true z)
        refine ⟨s3, ?_⟩
        rw [rng0_succ, List.filter_append]
        have : ([(i : Int)].filter fun j => decide (srcs.getD j.toNat 0 ∈ cs)) = [] := by
          rw [List.filter_cons, decide_eq_false (show ¬ srcs.getD ((i : Int)).toNat 0 ∈ cs by rw [Int.toNat_natCast, gu]; exact e1), if_neg (by decide)]
          rfl
        rw [this, List.append_nil]
        exact hD3
    · rintro H2 ⟨sm, hD⟩
      rw [List.length_map] at hD
      refine ⟨D, _, rfl, .inl ⟨SqL.of hD, fun p np => ?_⟩⟩
      exact q _ p (sm.trans (same_new np)) (SqT.of upd_same)
theorem ok_moved {f fR fC : Addr} {fd fdR fdC : FuncData} {k : Nat} (F : Fun K "moved_tree" "moved_tree" sMovedT f fd) (mt : mg "tuple" = none) (gF : mg "moved_tree" = some (.ref f)) (bF : Binds K fd ["tree", "matrix", "sources", "ends"] [])
    (GR : FnOk P w K mg base CX0 (k + 2) fR fdR ["row", "matrix"] (spRowTimes K)) (kR : PySem.W.keepIn K (.ref fR) = true) (bR : Binds K fdR ["row", "matrix"] []) (gR : mg "row_times" = some (.ref fR))
    (GC : FnOk P w K mg base CX0 (k + 1) fC fdC ["classes", "sources"] (spMovedC K)) (kC : PySem.W.keepIn K (.ref fC) = true) (bC : Binds K fdC ["classes", "sources"] []) (gC : mg "moved_classes" = some (.ref fC)) :
    ∀ m : Nat, FnOk P w K mg base CX0 (k + 3 + m) f fd ["tree", "matrix", "sources", "ends"] (spMoved K m)
  | 0 => by
    refine F.ok (k := k + 2) scMovedT (fun vs H Q E h => ?_) (fun cdv A outer s H vs Q E hr h => ?_)
    · obtain ⟨v, ev, mA, sA, t, e, mat, ws, srcs, d, n, rfl, _⟩ := h
      rfl
    · obtain ⟨v, ev, mA, sA, t, e, mat, ws, srcs, d, n, rfl, hT, hM, hW, hS, hE, hw, hd, _⟩ := h
      have := (Tr.deep t).2
      omega
  | m + 1 => by
    have GT := ok_moved F mt gF bF GR kR bR gR GC kC bC gC m
    refine F.ok (k := k + 3 + m) scMovedT (fun vs H Q E h => ?_) (fun cdv A outer s H vs Q E hr h => ?_)
    · obtain ⟨v, ev, mA, sA, t, e, mat, ws, srcs, d, n, rfl, _⟩ := h
      rfl
    obtain ⟨v, ev, mA, sA, t, e, mat, ws, srcs, d, n, rfl, hT, hM, hW, hS, hE, hw, hd, MM, d3, n12, hc, ls, q⟩ := h
    have hr1 : Room (k + 1) _ := hr.mono (by omega)
    have hr2 : Room (k + 2) _ := hr.mono (by omega)
    refine ⟨_, pss_cons (ps_if (pt_cmpR op_eq (pe_ix ix_tup (pv 0) pe_int (fun _ _ => rfl)) pe_str (nomark _)) (pss_one (ps_ret (pv 3))) pss_nil)
      (pss_cons (ps_if (pt_cmpR op_eq (pe_ix ix_tup (pv 0) pe_int (fun _ _ => rfl)) pe_str (nomark _))
        (pss_cons (ps_set (i := 4) scMovedT.nd rfl (.inl rfl) (pe_callTy call_tuple_of (by rfl) mt (by decide +kernel) (pa_cons (pe_lc (own := [("source", 8)]) (g := gName 8) (te := tOp (rIxT K) (tOp (rIxT K) (tVar 0) (tC (.int 2))) (tVar 8)) (by rfl) scMovedT.nd (pi_list (pv 2))
            (blkOk_by (own := [("source", 8)]) (N := ["tree", "matrix", "sources", "ends", "heights", "groups", "classes", "inner", "source"]) (sc := defScope sMovedT) (by decide +kernel))
            (fun _ _ _ _ _ => pg_name (i := 8) scMovedT.nd rfl (Or.inl rfl)) (fun _ _ _ _ _ => pts_nil)
            (fun _ _ _ _ _ => pe_ix ix_tup (pe_ix ix_tup (pv 0) pe_int (fun _ _ => rfl)) (pv 8) (fun _ _ => rfl))) pa_nil)))
          (pss_one (ps_ret (pe_tup (pa_cons pe_str (pa_cons (pe_call GR hr2 (by rfl) gR kR bR .nil pass0 (pa_cons (pe_ix ix_tup (pv 0) pe_int (fun _ _ => rfl)) (pa_cons (pv 1) pa_nil))) (pa_cons (pv 4) (pa_cons (pe_call GT hr (by rfl) gF F.kp bF .nil pass0 (pa_cons (pe_ix ix_tup (pv 0) pe_int (fun _ _ => rfl)) (pa_cons (pv 1) (pa_cons (pv 2) (pa_cons (pv 3) pa_nil))))) pa_nil)))))))) pss_nil)
      (pss_cons (ps_set (i := 5) scMovedT.nd rfl (.inl rfl) (pe_lst pa_nil))
      (pss_cons (ps_for PassesOwn.never rfl (pi_tup (pe_ix ix_tup (pv 0) pe_int (fun _ _ => rfl))) (pg_tup rfl (pgs_cons (pg_name (i := 6) scMovedT.nd rfl (.inl rfl)) (pgs_cons (pg_name (i := 7) scMovedT.nd rfl (.inl rfl)) pgs_nil)))
        (pss_one (ps_expr (pe_bm PySem.F.plainAttrs_list PySem.F.slot_list_append PySem.F.type_list_append mt_append (pv 5) (pa_cons (pe_tup (pa_cons (pe_call GC hr1 (by rfl) gC kC bC .nil pass0 (pa_cons (pv 6) (pa_cons (pv 2) pa_nil))) (pa_cons (pe_call GT hr (by rfl) gF F.kp bF .nil pass0 (pa_cons (pv 7) (pa_cons (pv 1) (pa_cons (pv 2) (pa_cons (pv 3) pa_nil))))) pa_nil))) pa_nil)))))
      (pss_one (ps_ret (pe_tup (pa_cons pe_str (pa_cons (pe_callTy call_tuple_of (by rfl) mt (by decide +kernel) (pa_cons (pv 5) pa_nil)) pa_nil)))))))), ?_⟩
    cases t with
    | pl =>
      simp only [TrAt] at hT
      obtain ⟨a, rfl, h2⟩ := hT
      refine ⟨_, rfl, a, _, _, _, rfl, rfl, h2, atI_nat (j := 0) rfl, rfl, true, ?_, iteT ⟨_, rfl, q H _ (Same.refl _) (by simp only [mvT]; exact hE)⟩⟩
      show V.bl (decide (V.str "places" = V.str "places")) = V.bl true
      rw [decide_eq_true rfl]
    | key row hs t =>
      simp only [TrAt] at hT
      simp only [Tr.wf] at hw
      simp only [Tr.dep] at hd
      obtain ⟨a, ra, ha, tv, rfl, h2, h3, h4, h5⟩ := hT
      refine ⟨_, rfl, a, _, _, _, rfl, rfl, h2, atI_nat (j := 0) rfl, rfl, false, ?_, iteF ?_⟩
      · show V.bl (decide (V.str "key" = V.str "places")) = V.bl false
        rw [decide_eq_false (by decide +kernel)]
      refine ⟨_, rfl, a, _, _, _, rfl, rfl, h2, atI_nat (j := 0) rfl, rfl, true, ?_, iteT ?_⟩
      · show V.bl (decide (V.str "key" = V.str "key")) = V.bl true
        rw [decide_eq_true rfl]
      refine ⟨_, rfl, sA, rfl, ⟨_, hS⟩, fun D nD => ?_⟩
      refine lc_list (K := K) (a := sA) (xs := srcs.map V.int) (fun i H2 => Same H H2 ∧ H2 D = some (.lst (((srcs.take i).map fun c => hs.getD c.toNat 0).map V.int))) ⟨same_new nD, upd_same⟩ (fun i H2 _ ⟨sm, _⟩ => Same.sqL sm hS) ?_ ?_
      · rintro i y H2 hy ⟨sm, hD⟩
        obtain ⟨u, hu, rfl⟩ := map_get hy
        have hi : i < srcs.length := (List.getElem?_eq_some_iff.mp hu).1
        have ub := hc u (List.mem_of_getElem? hu)
        have hun : u.toNat < hs.length := by rw [hw.2.1]; omega
        have hat : atI (hs.map V.int) u = some (.int (hs.getD u.toNat 0)) := by
          refine at_of (j := u.toNat) (by omega) ?_
          rw [List.getElem?_map, List.getElem?_eq_getElem hun, List.getD_eq_getElem?_getD, List.getElem?_eq_getElem hun]
          rfl
        refine ⟨rfl, _, rfl, a, _, _, _, rfl, rfl, Same.sqT sm h2, atI_nat (j := 2) rfl, _, rfl, ha, _, _, _, rfl, rfl, Same.sqT sm h4, hat, _, hD, ?_, ?_, ?_⟩
        · rw [List.length_map, List.length_map]
          exact small1000 (by rw [List.length_take]; omega)
        · intro b o e
          rw [upd_ne (ne_of_none e nD)]
          exact sm b o e
        · rw [upd_same, take_more hu, List.map_append, List.map_append]
          rfl
      rintro H2 ⟨sm, hD⟩
      rw [List.length_map, List.take_length] at hD
      refine ⟨D, _, rfl, .inl ⟨SqL.of hD, fun S nS => ?_⟩⟩
      have sS := sm.trans (same_new (o := .tup ((srcs.map fun c => hs.getD c.toNat 0).map V.int)) nS)
      refine ⟨_, rfl, a, _, _, _, rfl, rfl, Same.sqT sS h2, atI_nat (j := 1) rfl, _, rfl, ra, mA, row, mat, ws, rfl, Same.sqT sS h3, Same.sqT sS hM, HdsAt.mono (Same.tups sS) hW, fun r hr' => by rw [(MM.rw_ r hr').1, MM.ln], by rw [MM.ln]; exact d3, by rw [hw.1, MM.ln], hw.2.2.1, fun H3 R s3 gR3 => ?_⟩
      have s03 := sS.trans s3
      refine ⟨_, rfl, _, rfl, a, _, _, _, rfl, rfl, Same.sqT s03 h2, atI_nat (j := 3) rfl, _, rfl, _, rfl, _, rfl, tv, ev, mA, sA, t, e, mat, ws, srcs, d, n, rfl, TrAt.mono (Same.tups s03) h5, Same.sqT s03 hM, HdsAt.mono (Same.tups s03) hW, Same.sqL s03 hS, TrAt.mono (Same.tups s03) hE, hw.2.2.2, by omega, MM, d3, n12, hc, ls, fun H4 u s4 hu => ?_⟩
      refine ⟨(by show 4 ≤ sizeLine; decide), fun p np => ?_⟩
      have s5 := same_new (o := .tup [.str "key", .ref R, .ref S, u]) np
      refine q _ _ ((s03.trans s4).trans s5) ?_
      simp only [mvT, TrAt]
      exact ⟨p, R, S, u, rfl, SqT.of upd_same, Same.sqT (s4.trans s5) gR3, Same.sqT ((s3.trans s4).trans s5) (SqT.of upd_same), TrAt.mono (Same.tups s5) hu⟩
    | fork gs =>
      simp only [TrAt] at hT
      simp only [Tr.wf] at hw
      simp only [Tr.dep] at hd
      obtain ⟨a, ga, vs, rfl, h2, h3, h4⟩ := hT
      refine ⟨_, rfl, a, _, _, _, rfl, rfl, h2, atI_nat (j := 0) rfl, rfl, false, ?_, iteF ?_⟩
      · show V.bl (decide (V.str "fork" = V.str "places")) = V.bl false
        rw [decide_eq_false (by decide +kernel)]
      refine ⟨_, rfl, a, _, _, _, rfl, rfl, h2, atI_nat (j := 0) rfl, rfl, false, ?_, iteF ?_⟩
      · show V.bl (decide (V.str "fork" = V.str "key")) = V.bl false
        rw [decide_eq_false (by decide +kernel)]
      refine ⟨Nat.zero_le _, fun o no => ?_⟩
      have s0 := same_new (o := .lst []) no
      have lv := h4.len
      have hv12 : vs.length ≤ 1000 := by
        have e1 : ∀ l : List (List Int), (∀ c ∈ l, c ≠ []) → l.length ≤ l.flatten.length := fun l => by
          induction l with
          | nil => intro _; simp
          | cons c r ih =>
            intro hc
            have h1 := ih fun x hx => hc x (List.mem_cons_of_mem _ hx)
            have h2 : 0 < c.length := List.length_pos_iff.mpr (hc c List.mem_cons_self)
            simp only [List.flatten_cons, List.length_append, List.length_cons]
            omega
        have e2 := e1 gs.heads fun c hc => (Gs.wf_heads hw.2 c hc).1
        rw [← Gs.flat, hw.1.length_eq, rng0_len] at e2
        omega
      refine ⟨_, rfl, a, _, _, _, rfl, rfl, Same.sqT s0 h2, atI_nat (j := 1) rfl, ga, rfl, ⟨_, Same.sqT s0 h3⟩, for_tup (K := K) (a := ga) (xs := vs) (fun i σ H2 => ∃ (v6 v7 : Option V) (acc : Gs) (us : List V), σ = [some (.ref a), some (.ref mA), some (.ref sA), some ev, none, some (.ref o), v6, v7, none] ∧ Same H H2 ∧ H2 o = some (.lst us) ∧ us.length = i ∧ GsAt K H2 acc us ∧ acc.heads = (gs.heads.take i).map (movC srcs) ∧ acc.trees = (gs.trees.take i).map (mvT srcs mat e))
        ⟨none, none, .nil, [], rfl, s0, upd_same, rfl, by simp [GsAt], rfl, rfl⟩ (fun i σ H2 _ ⟨_, _, _, _, _, sm, _⟩ => Same.sqT sm h3) ?_ ?_⟩
      · rintro i y σ H2 hy ⟨v6, v7, acc, us, rfl, sm, ho, lu, hG, gh, gt⟩
        obtain ⟨pa, ca, tv, cs, t, rfl, g1, g2, g3, g4, g5⟩ := h4.get hy
        have hi : i < vs.length := (List.getElem?_eq_some_iff.mp hy).1
        have mt' := List.mem_of_getElem? g5
        have tdep := Gs.dep_trees gs t mt'
        refine ⟨pa, [.ref ca, tv], rfl, Same.sqT sm g1, rfl, _, _, rfl, _, _, rfl, rfl, ?_⟩
        refine ⟨_, rfl, .inl ⟨rfl, _, SqL.of ho⟩, _, rfl, _, rfl, ca, sA, cs, srcs, rfl, Same.sqT sm g2, Same.sqL sm hS, ls, fun H3 C3 s3 hC3 => ?_⟩
        have s03 := sm.trans s3
        refine ⟨_, rfl, _, rfl, _, rfl, _, rfl, tv, ev, mA, sA, t, e, mat, ws, srcs, d, n, rfl, TrAt.mono (Same.tups s03) g3, Same.sqT s03 hM, HdsAt.mono (Same.tups s03) hW, Same.sqL s03 hS, TrAt.mono (Same.tups s03) hE, Gs.wf_trees hw.2 t mt', by omega, MM, d3, n12, hc, ls, fun H4 u s4 hu => ?_⟩
        refine ⟨(by show 2 ≤ sizeLine; decide), fun T nT => ?_⟩
        have s5 := same_new (o := .tup [.ref C3, u]) nT
        have s25 := (s3.trans s4).trans s5
        have ho5 := s25 _ _ ho
        have tu : Tups K (upd H4 T (.tup [.ref C3, u])) (upd (upd H4 T (.tup [.ref C3, u])) o (.lst (us ++ [.ref T]))) := tups_lst ho5
        refine ⟨o, us, _, rfl, rfl, ho5, ?_, _, _, acc.snoc (movC srcs cs) (mvT srcs mat e t), us ++ [.ref T], rfl, Same.upd_out (sm.trans s25) no, upd_same, ?_, ?_, ?_, ?_⟩
        · exact small1000 (by omega)
        · rw [List.length_append, lu]
          rfl
        · exact GsAt.snoc (tu _ _ (SqT.of upd_same)) (tu _ _ (Same.sqT (s4.trans s5) hC3)) (TrAt.mono tu (TrAt.mono (Same.tups s5) hu)) (GsAt.mono (fun x ys e => tu x ys (Same.sqT s25 e)) hG)
        · rw [Gs.heads_snoc, gh, take_more g4, List.map_append]
          rfl
        · rw [Gs.trees_snoc, gt, take_more g5, List.map_append]
          rfl
      · rintro σ H2 ⟨v6, v7, acc, us, rfl, sm, ho, lu, hG, gh, gt⟩
        rw [List.take_of_length_le (by omega)] at gh
        rw [List.take_of_length_le (by rw [← Gs.heads_len]; omega)] at gt
        have ea : acc = mvG srcs mat e gs := Gs.ext_ (by rw [gh, mvG_heads]) (by rw [gt, mvG_trees])
        subst ea
        refine ⟨_, rfl, o, _, rfl, .inl ⟨SqL.of ho, fun T nT => ?_⟩⟩
        refine ⟨(by show 2 ≤ sizeLine; decide), fun p np => ?_⟩
        have s1 := same_new (o := .tup us) nT
        have s2 := same_new (o := .tup [.str "fork", .ref T]) np
        refine q _ _ ((sm.trans s1).trans s2) ?_
        simp only [mvT, TrAt]
        exact ⟨p, T, us, rfl, SqT.of upd_same, Same.sqT s2 (SqT.of upd_same), GsAt.mono (Same.tups (s1.trans s2)) hG⟩
end
end Lk

namespace Lk
open PySem L2
/-! ### the identity -/
theorem small_d {d : Nat} (h1 : 1 ≤ d) (h3 : d ≤ 3) : d = 1 ∨ d = 2 ∨ d = 3 := by omega
theorem idM1 : idM 1 = [[1]] := by decide
theorem idM2 : idM 2 = [[1, 0], [0, 1]] := by decide
theorem idM3 : idM 3 = [[1, 0, 0], [0, 1, 0], [0, 0, 1]] := by decide
theorem mul_id {d : Nat} (h1 : 1 ≤ d) (h3 : d ≤ 3) {x : List Int} (h : x.length = d) : mulM (idM d) x = x := by
  rcases small_d h1 h3 with rfl | rfl | rfl
  · match x, h with
    | [a], _ => simp [idM1, mulM, dotL]
  · match x, h with
    | [a, b], _ => simp [idM2, mulM, dotL]
  · match x, h with
    | [a, b, c], _ => simp [idM3, mulM, dotL]
theorem row_id {d : Nat} (h1 : 1 ≤ d) (h3 : d ≤ 3) {x : List Int} (h : x.length = d) : rowM x (idM d) = x := by
  rcases small_d h1 h3 with rfl | rfl | rfl
  · match x, h with
    | [a], _ => simp [idM1, rowM, colM, dotL, List.range, List.range.loop]
  · match x, h with
    | [a, b], _ => simp [idM2, rowM, colM, dotL, List.range, List.range.loop]
  · match x, h with
    | [a, b, c], _ => simp [idM3, rowM, colM, dotL, List.range, List.range.loop]
theorem idM_mat {d : Nat} (h1 : 1 ≤ d) (h3 : d ≤ 3) : Mat (idM d) d := by
  rcases small_d h1 h3 with rfl | rfl | rfl
  · refine ⟨rfl, fun r hr => ?_⟩
    rw [idM1] at hr
    simp at hr
    subst hr
    exact ⟨rfl, by intro z hz; simp at hz; omega⟩
  · refine ⟨rfl, fun r hr => ?_⟩
    rw [idM2] at hr
    simp at hr
    rcases hr with rfl | rfl <;> exact ⟨rfl, by intro z hz; simp at hz; omega⟩
  · refine ⟨rfl, fun r hr => ?_⟩
    rw [idM3] at hr
    simp at hr
    rcases hr with rfl | rfl | rfl <;> exact ⟨rfl, by intro z hz; simp at hz; omega⟩
/-! ### classes and their rests -/
def clsR : List (Int × Int) → Int
  | [] => 0
  | (d, s) :: r => clsR r * d + s % d
theorem clsF_rev : ∀ l : List (Int × Int), clsF l.reverse 0 = clsR l
  | [] => rfl
  | (d, s) :: r => by
    have ih := clsF_rev r
    unfold clsF at ih ⊢
    rw [List.reverse_cons, List.foldl_append, ih]
    rfl
theorem cls_R (ds z : List Int) : cls ds z = clsR (ds.zip z).reverse := by
  rw [← clsF_rev, List.reverse_reverse]
  rfl
theorem rests_cls : ∀ l : List (Int × Int), (∀ q ∈ l, 1 ≤ q.1) → restsR (l.map (·.1)) (clsR l) = l.map fun q => q.2 % q.1
  | [], _ => rfl
  | (d, s) :: r, h => by
    have hd : 1 ≤ d := h (d, s) List.mem_cons_self
    have ih := rests_cls r fun q hq => h q (List.mem_cons_of_mem _ hq)
    have e1 : (clsR r * d + s % d) % d = s % d := by
      rw [Int.add_comm, Int.add_mul_emod_self_right, Int.emod_emod_of_dvd _ (Int.dvd_refl d)]
    have e2 : (clsR r * d + s % d) / d = clsR r := by
      rw [Int.add_comm, Int.add_mul_ediv_right _ _ (by omega), Int.ediv_eq_zero_of_lt (Int.emod_nonneg _ (by omega)) (Int.emod_lt_of_pos _ (by omega)), Int.zero_add]
    show ((clsR r * d + s % d) % d) :: restsR (r.map (·.1)) ((clsR r * d + s % d) / d) = (s % d) :: r.map fun q => q.2 % q.1
    rw [e1, e2, ih]
def rst (ds z : List Int) : List Int := (ds.zip z).map fun q => q.2 % q.1
theorem pAt_cls {ds z : List Int} (hl : ds.length = z.length) (h : ∀ d ∈ ds, 1 ≤ d) : pAt ds (cls ds z) = rst ds z := by
  have e : ds.reverse = (ds.zip z).reverse.map (·.1) := by
    rw [List.map_reverse, zip_fst _ _ hl]
  unfold pAt
  rw [e, cls_R, rests_cls _ (fun q hq => h _ (by
    have : q.1 ∈ (ds.zip z).map (·.1) := List.mem_map.mpr ⟨q, List.mem_reverse.mp hq, rfl⟩
    rw [zip_fst _ _ hl] at this
    exact this)), List.map_reverse, List.reverse_reverse]
  rfl
theorem cls_rst : ∀ {ds z p : List Int}, ds.length = z.length → ds.length = p.length → ∀ n, clsF (ds.zip (plus (rst ds z) p)) n = clsF (ds.zip (plus z p)) n
  | [], _, _, _, _, n => by simp
  | d :: ds, [], _, h, _, n => by cases h
  | d :: ds, s :: z, [], _, h, n => by cases h
  | d :: ds, s :: z, a :: p, h1, h2, n => by
    show clsF (ds.zip (plus (rst ds z) p)) (n * d + (s % d + a) % d) = clsF (ds.zip (plus z p)) (n * d + (s + a) % d)
    rw [cls_rst (by simpa using h1) (by simpa using h2), Int.emod_add_emod]
theorem src_cls {ds z p : List Int} (D : Divs ds) (hz : ds.length = z.length) (hp : ds.length = p.length) : cls ds (plus (pAt ds (cls ds z)) p) = cls ds (plus z p) := by
  rw [pAt_cls hz D.one]
  exact cls_rst hz hp 0
theorem cls_back : ∀ (rs : List Int) (c : Int), (∀ d ∈ rs, 1 ≤ d) → 0 ≤ c → c < prodL rs → clsR (rs.zip (restsR rs c)) = c
  | [], c, _, h0, h1 => by
    have : c < 1 := h1
    show (0 : Int) = c
    omega
  | d :: r, c, h, h0, h1 => by
    have hd : 1 ≤ d := h d List.mem_cons_self
    have h1' : c < d * prodL r := h1
    have q0 : 0 ≤ c / d := Int.ediv_nonneg h0 (by omega)
    have q1 : c / d < prodL r := Int.ediv_lt_of_lt_mul (by omega) (by rw [Int.mul_comm]; exact h1')
    have ih := cls_back r (c / d) (fun x hx => h x (List.mem_cons_of_mem _ hx)) q0 q1
    show clsR (r.zip (restsR r (c / d))) * d + (c % d) % d = c
    rw [ih, Int.emod_emod_of_dvd _ (Int.dvd_refl d), Int.mul_comm]
    exact Int.mul_ediv_add_emod c d
theorem cls_pAt {ds : List Int} {c : Int} (D : Divs ds) (h0 : 0 ≤ c) (h1 : c < prodL ds) : cls ds (pAt ds c) = c := by
  have e : (ds.zip (pAt ds c)).reverse = ds.reverse.zip (restsR ds.reverse c) := by
    unfold pAt
    have := List.reverse_zipWith (f := Prod.mk) (l := ds) (l' := (restsR ds.reverse c).reverse) (by simp [restsR_len])
    rw [List.reverse_reverse] at this
    exact this
  rw [cls_R, e]
  refine cls_back _ c (fun d hd => D.one d (List.mem_reverse.mp hd)) h0 ?_
  rw [prodL_perm (List.reverse_perm ds)]
  exact h1
theorem sub_plus : ∀ {a p : List Int}, a.length = p.length → plus (List.zipWith (· - ·) a p) p = a
  | [], [], _ => rfl
  | x :: a, y :: p, h => by
    show (x - y + y) :: plus (List.zipWith (· - ·) a p) p = x :: a
    rw [sub_plus (by simpa using h), Int.sub_add_cancel]
  | [], _ :: _, h => by cases h
  | _ :: _, [], h => by cases h
theorem cls_in {ds z : List Int} {n : Nat} (D : Divs ds) (hn : prodL ds = (n : Int)) (hz : ds.length = z.length) : 0 ≤ cls ds z ∧ cls ds z < n := by
  have b := cls_bound hz D.one (ds.zip z).length
  rw [List.take_length, List.take_of_length_le (by rw [List.length_zip]; omega), hn] at b
  exact b
/-! ### what the sources must be -/
structure Srcs (srcs : List Int) (n : Nat) : Prop where
  ran : ∀ c ∈ srcs, 0 ≤ c ∧ c < n
  all_ : ∀ c : Int, 0 ≤ c → c < n → ∃ j : Nat, j < srcs.length ∧ srcs.getD j 0 = c
theorem srcM_get {ds p : List Int} {mat : List (List Int)} {nds : List Int} {n j : Nat} (h : j < n) : (srcM ds mat p nds n).getD j 0 = cls ds (plus (mulM mat (pAt nds (j : Int))) p) := by
  unfold srcM
  rw [List.getD_eq_getElem?_getD, List.getElem?_map, List.getElem?_range h]
  rfl
theorem srcM_len {ds p : List Int} {mat : List (List Int)} {nds : List Int} {n : Nat} : (srcM ds mat p nds n).length = n := by
  unfold srcM
  rw [List.length_map, List.length_range]
theorem shift_src {ds p z : List Int} {n : Nat} (D : Divs ds) (hn : prodL ds = (n : Int)) (h1 : 1 ≤ ds.length) (h3 : ds.length ≤ 3) (hz : ds.length = z.length) (hp : ds.length = p.length) :
    (srcM ds (idM ds.length) p ds n).getD (cls ds z).toNat 0 = cls ds (plus z p) := by
  have b := cls_in D hn hz
  rw [srcM_get (by omega), show (((cls ds z).toNat : Nat) : Int) = cls ds z by omega, mul_id h1 h3 (by rw [pAt_len])]
  exact src_cls D hz hp
theorem shift_srcs {ds p : List Int} {n : Nat} (D : Divs ds) (hn : prodL ds = (n : Int)) (h1 : 1 ≤ ds.length) (h3 : ds.length ≤ 3) (hp : ds.length = p.length) : Srcs (srcM ds (idM ds.length) p ds n) n := by
  constructor
  · intro c hc
    unfold srcM at hc
    obtain ⟨j, hj, rfl⟩ := List.mem_map.mp hc
    refine cls_in D hn ?_
    rw [mul_id h1 h3 (by rw [pAt_len]), plus_len (by rw [pAt_len]; exact hp)]
    exact hp
  · intro c c0 c1
    have la : (pAt ds c).length = p.length := by rw [pAt_len]; exact hp
    have hz : ds.length = (List.zipWith (· - ·) (pAt ds c) p).length := by
      rw [List.length_zipWith, la]
      omega
    have b := cls_in (n := n) D hn hz
    refine ⟨(cls ds (List.zipWith (· - ·) (pAt ds c) p)).toNat, by rw [srcM_len]; omega, ?_⟩
    rw [shift_src D hn h1 h3 hz hp, sub_plus la]
    exact cls_pAt D c0 (by rw [hn]; exact c1)
/-! ### the moved tree is one -/
theorem filter_two {α : Type} {p q : α → Bool} (h : ∀ x, ¬ (p x = true ∧ q x = true)) : ∀ l : List α, (l.filter p ++ l.filter q).Perm (l.filter fun x => p x || q x)
  | [] => by simp
  | x :: r => by
    have ih := filter_two h r
    have hx := h x
    cases hp : p x with
    | true =>
      have hq : q x = false := by
        cases z : q x with
        | false => rfl
        | true => exact absurd ⟨hp, z⟩ hx
      simp only [List.filter_cons, hp, hq, Bool.or_false, if_true, Bool.false_eq_true, if_false, List.cons_append]
      exact List.Perm.cons x ih
    | false =>
      cases hq : q x with
      | true =>
        simp only [List.filter_cons, hp, hq, Bool.or_true, if_true, Bool.false_eq_true, if_false]
        exact List.perm_middle.trans (List.Perm.cons x ih)
      | false =>
        simp only [List.filter_cons, hp, hq, Bool.or_self, Bool.false_eq_true, if_false]
        exact ih
theorem parts_perm {f : Int → Int} (l : List Int) : ∀ hs : List (List Int), hs.flatten.Nodup → ((hs.map fun cs => l.filter fun j => decide (f j ∈ cs)).flatten).Perm (l.filter fun j => decide (f j ∈ hs.flatten))
  | [], _ => by simp
  | cs :: r, nd => by
    rw [List.flatten_cons, List.nodup_append] at nd
    have ih := parts_perm (f := f) l r nd.2.1
    rw [List.map_cons, List.flatten_cons]
    refine (List.Perm.append_left _ ih).trans ?_
    refine (filter_two (fun x hx => ?_) l).trans ?_
    · exact nd.2.2 _ (of_decide_eq_true hx.1) _ (of_decide_eq_true hx.2) rfl
    · have e : (fun x => decide (f x ∈ cs) || decide (f x ∈ r.flatten)) = fun j => decide (f j ∈ (cs :: r).flatten) := by
        funext x
        rw [List.flatten_cons]
        by_cases a : f x ∈ cs <;> by_cases b : f x ∈ r.flatten <;> simp [a, b]
      rw [e]
theorem rng0_nodup (n : Nat) : (rng0 n).Nodup := (rng0_lt n).imp fun h => by omega
theorem mem_rng {c : Int} {n : Nat} : c ∈ rng0 n ↔ 0 ≤ c ∧ c < n := by
  constructor
  · intro h
    unfold rng0 at h
    obtain ⟨i, hi, rfl⟩ := List.mem_map.mp h
    have := List.mem_range.mp hi
    omega
  · exact fun h => mem_rng0 h.1 h.2
theorem mem_movC {srcs cs : List Int} {c : Int} (h0 : 0 ≤ c) (h1 : c < srcs.length) : c ∈ movC srcs cs ↔ srcs.getD c.toNat 0 ∈ cs := by
  unfold movC
  rw [List.mem_filter]
  constructor
  · exact fun h => of_decide_eq_true h.2
  · exact fun h => ⟨mem_rng0 h0 h1, decide_eq_true h⟩
theorem Srcs.at {srcs : List Int} {n : Nat} (S : Srcs srcs n) {j : Nat} (h : j < srcs.length) : 0 ≤ srcs.getD j 0 ∧ srcs.getD j 0 < n := by
  refine S.ran _ ?_
  rw [List.getD_eq_getElem?_getD, List.getElem?_eq_getElem h]
  exact List.getElem_mem h
mutual
theorem mvT_size (srcs : List Int) (mat : List (List Int)) : ∀ t : Tr, (mvT srcs mat .pl t).size = t.size
  | .pl => by simp [mvT]
  | .key _ _ t => by simp [mvT, Tr.size, mvT_size srcs mat t]
  | .fork gs => by simp [mvT, Tr.size, mvG_size srcs mat gs]
theorem mvG_size (srcs : List Int) (mat : List (List Int)) : ∀ g : Gs, (mvG srcs mat .pl g).size = g.size
  | .nil => by simp [mvG]
  | .cons _ t r => by simp [mvG, Gs.size, mvT_size srcs mat t, mvG_size srcs mat r]
end
mutual
theorem mvT_dep (srcs : List Int) (mat : List (List Int)) : ∀ t : Tr, (mvT srcs mat .pl t).dep = t.dep
  | .pl => by simp [mvT]
  | .key _ _ t => by simp [mvT, Tr.dep, mvT_dep srcs mat t]
  | .fork gs => by simp [mvT, Tr.dep, mvG_dep srcs mat gs]
theorem mvG_dep (srcs : List Int) (mat : List (List Int)) : ∀ g : Gs, (mvG srcs mat .pl g).dep = g.dep
  | .nil => by simp [mvG]
  | .cons _ t r => by simp [mvG, Gs.dep, mvT_dep srcs mat t, mvG_dep srcs mat r]
end
mutual
theorem mvT_wf {srcs : List Int} {d n : Nat} (S : Srcs srcs n) (h1 : 1 ≤ d) (h3 : d ≤ 3) : ∀ t : Tr, t.wf d n → (mvT srcs (idM d) .pl t).wf d srcs.length
  | .pl, _ => by simp [mvT, Tr.wf]
  | .key row hs t, w => by
    simp only [Tr.wf] at w
    simp only [mvT, Tr.wf]
    rw [row_id h1 h3 w.1]
    exact ⟨w.1, by rw [List.length_map], w.2.2.1, mvT_wf S h1 h3 t w.2.2.2⟩
  | .fork gs, w => by
    simp only [Tr.wf] at w
    simp only [mvT, Tr.wf]
    refine ⟨?_, mvG_wf S h1 h3 gs w.2 fun c hc => mem_rng.mp (w.1.mem_iff.mp hc)⟩
    rw [Gs.flat, mvG_heads]
    have nd : gs.heads.flatten.Nodup := by
      rw [← Gs.flat]
      exact w.1.nodup_iff.mpr (rng0_nodup n)
    refine (parts_perm (f := fun j => srcs.getD j.toNat 0) (rng0 srcs.length) gs.heads nd).trans ?_
    rw [List.filter_eq_self.mpr fun j hj => ?_]
    have hj' := mem_rng.mp hj
    have hs := S.at (j := j.toNat) (by omega)
    refine decide_eq_true ?_
    rw [← Gs.flat]
    exact w.1.mem_iff.mpr (mem_rng0 hs.1 hs.2)
theorem mvG_wf {srcs : List Int} {d n : Nat} (S : Srcs srcs n) (h1 : 1 ≤ d) (h3 : d ≤ 3) : ∀ g : Gs, g.wf d n → (∀ c ∈ g.classes, 0 ≤ c ∧ c < n) → (mvG srcs (idM d) .pl g).wf d srcs.length
  | .nil, _, _ => by simp [mvG, Gs.wf]
  | .cons cs t r, w, hc => by
    simp only [Gs.wf] at w
    simp only [mvG, Gs.wf]
    simp only [Gs.classes] at hc
    refine ⟨⟨fun e => ?_, ?_⟩, mvT_wf S h1 h3 t w.2.1, mvG_wf S h1 h3 r w.2.2 fun c h => hc c (List.mem_append_right _ h)⟩
    · obtain ⟨c, hcm⟩ := List.exists_mem_of_ne_nil cs w.1.1
      have hb := hc c (List.mem_append_left _ hcm)
      obtain ⟨j, hj, ej⟩ := S.all_ c hb.1 hb.2
      have : ((j : Nat) : Int) ∈ movC srcs cs := (mem_movC (by omega) (by omega)).mpr (by rw [Int.toNat_natCast, ej]; exact hcm)
      rw [e] at this
      cases this
    · unfold movC
      exact (rng0_lt _).filter _
end
/-! ### .. and orders as the first one does, moved -/
theorem mv_height {srcs hs : List Int} {c : Int} (h0 : 0 ≤ c) (h1 : c < srcs.length) : (srcs.map fun c => hs.getD c.toNat 0).getD c.toNat 0 = hs.getD (srcs.getD c.toNat 0).toNat 0 := by
  have hl : c.toNat < srcs.length := by omega
  rw [List.getD_eq_getElem?_getD, List.getElem?_map, List.getElem?_eq_getElem hl, List.getD_eq_getElem?_getD (l := srcs), List.getElem?_eq_getElem hl]
  rfl
theorem pthG_hd : ∀ (g : Gs) (i c : Int) (x : List Int), pthG g i c x = [] ∨ ∃ j l, i ≤ j ∧ pthG g i c x = j :: l
  | .nil, i, c, x => .inl (by simp [pthG])
  | .cons cs t r, i, c, x => by
    simp only [pthG]
    by_cases h : c ∈ cs
    · rw [if_pos h]
      exact .inr ⟨i, _, Int.le_refl _, rfl⟩
    · rw [if_neg h]
      rcases pthG_hd r (i + 1) c x with e | ⟨j, l, hj, e⟩
      · exact .inl e
      · exact .inr ⟨j, l, by omega, e⟩
section
variable {srcs p : List Int} {d n : Nat} {c1 c2 : Int} {x y : List Int}
mutual
theorem mv_lt (S : Srcs srcs n) (h1 : 1 ≤ d) (h3 : d ≤ 3) (b1 : 0 ≤ c1 ∧ c1 < srcs.length) (b2 : 0 ≤ c2 ∧ c2 < srcs.length) (hx : x.length = p.length) (hy : y.length = p.length) :
    ∀ t : Tr, t.wf d n → lx (pth (mvT srcs (idM d) .pl t) c1 x ++ x) (pth (mvT srcs (idM d) .pl t) c2 y ++ y) = lx (pth t (srcs.getD c1.toNat 0) (plus x p) ++ plus x p) (pth t (srcs.getD c2.toNat 0) (plus y p) ++ plus y p)
  | .pl, _ => by
    simp only [mvT, pth, List.nil_append]
    exact (lx_shift hx hy).symm
  | .key row hs t, w => by
    simp only [Tr.wf] at w
    have ih : HT.lexLt (pth (mvT srcs (idM d) .pl t) c1 x ++ x) (pth (mvT srcs (idM d) .pl t) c2 y ++ y) = HT.lexLt (pth t (srcs.getD c1.toNat 0) (plus x p) ++ plus x p) (pth t (srcs.getD c2.toNat 0) (plus y p) ++ plus y p) := mv_lt S h1 h3 b1 b2 hx hy t w.2.2.2
    simp only [mvT, pth, List.cons_append]
    rw [row_id h1 h3 w.1, dot_plus hx, dot_plus hy, mv_height b1.1 b1.2, mv_height b2.1 b2.2]
    generalize hs.getD (srcs.getD c1.toNat 0).toNat 0 = u1
    generalize hs.getD (srcs.getD c2.toNat 0).toNat 0 = u2
    show (if dotL row x + u1 = dotL row y + u2 then _ else decide (dotL row x + u1 < dotL row y + u2)) = (if dotL row x + dotL row p + u1 = dotL row y + dotL row p + u2 then _ else decide (dotL row x + dotL row p + u1 < dotL row y + dotL row p + u2))
    rw [ih]
    by_cases e : dotL row x + u1 = dotL row y + u2
    · rw [if_pos e, if_pos (by omega)]
    · rw [if_neg e, if_neg (by omega)]
      by_cases l : dotL row x + u1 < dotL row y + u2
      · rw [decide_eq_true l, decide_eq_true (by omega)]
      · rw [decide_eq_false l, decide_eq_false (by omega)]
  | .fork g, w => by
    simp only [Tr.wf] at w
    simp only [mvT, pth]
    have s1 := S.at (j := c1.toNat) (by omega)
    have s2 := S.at (j := c2.toNat) (by omega)
    exact mvG_lt S h1 h3 b1 b2 hx hy g 0 (w.1.mem_iff.mpr (mem_rng0 s1.1 s1.2)) (w.1.mem_iff.mpr (mem_rng0 s2.1 s2.2)) w.2
theorem mvG_lt (S : Srcs srcs n) (h1 : 1 ≤ d) (h3 : d ≤ 3) (b1 : 0 ≤ c1 ∧ c1 < srcs.length) (b2 : 0 ≤ c2 ∧ c2 < srcs.length) (hx : x.length = p.length) (hy : y.length = p.length) :
    ∀ (g : Gs) (i : Int), srcs.getD c1.toNat 0 ∈ g.classes → srcs.getD c2.toNat 0 ∈ g.classes → g.wf d n →
      lx (pthG (mvG srcs (idM d) .pl g) i c1 x ++ x) (pthG (mvG srcs (idM d) .pl g) i c2 y ++ y) = lx (pthG g i (srcs.getD c1.toNat 0) (plus x p) ++ plus x p) (pthG g i (srcs.getD c2.toNat 0) (plus y p) ++ plus y p)
  | .nil, i, h, _, _ => by simp [Gs.classes] at h
  | .cons cs t r, i, m1, m2, w => by
    simp only [Gs.wf] at w
    simp only [Gs.classes] at m1 m2
    simp only [mvG, pthG]
    have k1 := mem_movC (cs := cs) b1.1 b1.2
    have k2 := mem_movC (cs := cs) b2.1 b2.2
    have hdr : ∀ {c : Int} {z z' : List Int}, ¬ srcs.getD c.toNat 0 ∈ cs → srcs.getD c.toNat 0 ∈ cs ++ r.classes → 0 ≤ c ∧ c < srcs.length → (∃ j l, i + 1 ≤ j ∧ pthG (mvG srcs (idM d) .pl r) (i + 1) c z = j :: l) ∧ ∃ j l, i + 1 ≤ j ∧ pthG r (i + 1) (srcs.getD c.toNat 0) z' = j :: l := fun {c z z'} hn hm hb => by
      have hm' : srcs.getD c.toNat 0 ∈ r.classes := by
        rcases List.mem_append.mp hm with e | e
        · exact absurd e hn
        · exact e
      have hmv : c ∈ (mvG srcs (idM d) .pl r).classes := by
        rw [Gs.flat, mvG_heads]
        rw [Gs.flat] at hm'
        obtain ⟨q, hq, hqm⟩ := List.mem_flatten.mp hm'
        exact List.mem_flatten.mpr ⟨movC srcs q, List.mem_map.mpr ⟨q, hq, rfl⟩, (mem_movC hb.1 hb.2).mpr hqm⟩
      obtain ⟨j, t1, hj, e⟩ := pthG_head (i + 1) hmv
      obtain ⟨j', t2, hj', e'⟩ := pthG_head (i + 1) hm'
      exact ⟨⟨j, _, hj, e z⟩, ⟨j', _, hj', e' z'⟩⟩
    by_cases n1 : srcs.getD c1.toNat 0 ∈ cs
    · rw [if_pos (k1.mpr n1), if_pos n1]
      by_cases n2 : srcs.getD c2.toNat 0 ∈ cs
      · rw [if_pos (k2.mpr n2), if_pos n2]
        have ih := mv_lt S h1 h3 b1 b2 hx hy t w.2.1
        simp only [List.cons_append]
        show (if i = i then _ else _) = (if i = i then _ else _)
        rw [if_pos rfl, if_pos rfl]
        exact ih
      · rw [if_neg (fun z => n2 (k2.mp z)), if_neg n2]
        obtain ⟨⟨j, l, hj, e⟩, j', l', hj', e'⟩ := hdr (z := y) (z' := plus y p) n2 m2 b2
        rw [e, e']
        simp only [List.cons_append]
        show (if i = j then _ else decide (i < j)) = (if i = j' then _ else decide (i < j'))
        rw [if_neg (by omega), if_neg (by omega), decide_eq_true (by omega), decide_eq_true (by omega)]
    · rw [if_neg (fun z => n1 (k1.mp z)), if_neg n1]
      by_cases n2 : srcs.getD c2.toNat 0 ∈ cs
      · rw [if_pos (k2.mpr n2), if_pos n2]
        obtain ⟨⟨j, l, hj, e⟩, j', l', hj', e'⟩ := hdr (z := x) (z' := plus x p) n1 m1 b1
        rw [e, e']
        simp only [List.cons_append]
        show (if j = i then _ else decide (j < i)) = (if j' = i then _ else decide (j' < i))
        rw [if_neg (by omega), if_neg (by omega), decide_eq_false (by omega), decide_eq_false (by omega)]
      · rw [if_neg (fun z => n2 (k2.mp z)), if_neg n2]
        have m1' : srcs.getD c1.toNat 0 ∈ r.classes := (List.mem_append.mp m1).resolve_left n1
        have m2' : srcs.getD c2.toNat 0 ∈ r.classes := (List.mem_append.mp m2).resolve_left n2
        exact mvG_lt S h1 h3 b1 b2 hx hy r (i + 1) m1' m2' w.2.2
end
mutual
theorem mv_eq (S : Srcs srcs n) (h1 : 1 ≤ d) (h3 : d ≤ 3) (b1 : 0 ≤ c1 ∧ c1 < srcs.length) (b2 : 0 ≤ c2 ∧ c2 < srcs.length) (hx : x.length = p.length) (hy : y.length = p.length) :
    ∀ t : Tr, t.wf d n → (pth (mvT srcs (idM d) .pl t) c1 x = pth (mvT srcs (idM d) .pl t) c2 y ↔ pth t (srcs.getD c1.toNat 0) (plus x p) = pth t (srcs.getD c2.toNat 0) (plus y p))
  | .pl, _ => by simp [mvT, pth]
  | .key row hs t, w => by
    simp only [Tr.wf] at w
    have ih := mv_eq S h1 h3 b1 b2 hx hy t w.2.2.2
    simp only [mvT, pth, List.cons.injEq]
    rw [row_id h1 h3 w.1, dot_plus hx, dot_plus hy, mv_height b1.1 b1.2, mv_height b2.1 b2.2, ih]
    generalize hs.getD (srcs.getD c1.toNat 0).toNat 0 = u1
    generalize hs.getD (srcs.getD c2.toNat 0).toNat 0 = u2
    constructor
    · exact fun h => ⟨by omega, h.2⟩
    · exact fun h => ⟨by omega, h.2⟩
  | .fork g, w => by
    simp only [Tr.wf] at w
    simp only [mvT, pth]
    exact mvG_eq S h1 h3 b1 b2 hx hy g 0 w.2
theorem mvG_eq (S : Srcs srcs n) (h1 : 1 ≤ d) (h3 : d ≤ 3) (b1 : 0 ≤ c1 ∧ c1 < srcs.length) (b2 : 0 ≤ c2 ∧ c2 < srcs.length) (hx : x.length = p.length) (hy : y.length = p.length) :
    ∀ (g : Gs) (i : Int), g.wf d n → (pthG (mvG srcs (idM d) .pl g) i c1 x = pthG (mvG srcs (idM d) .pl g) i c2 y ↔ pthG g i (srcs.getD c1.toNat 0) (plus x p) = pthG g i (srcs.getD c2.toNat 0) (plus y p))
  | .nil, i, _ => by simp [mvG, pthG]
  | .cons cs t r, i, w => by
    simp only [Gs.wf] at w
    simp only [mvG, pthG]
    have k1 := mem_movC (cs := cs) b1.1 b1.2
    have k2 := mem_movC (cs := cs) b2.1 b2.2
    have no : ∀ {g : Gs} {c : Int} {z l : List Int}, ¬ (i :: l = pthG g (i + 1) c z) ∧ ¬ (pthG g (i + 1) c z = i :: l) := fun {g c z l} => by
      rcases pthG_hd g (i + 1) c z with e | ⟨j, l', hj, e⟩
      · rw [e]
        exact ⟨(fun h => by cases h), (fun h => by cases h)⟩
      · rw [e]
        refine ⟨fun h => ?_, fun h => ?_⟩ <;>
        · have := (List.cons.inj h).1
          omega
    by_cases n1 : srcs.getD c1.toNat 0 ∈ cs
    · rw [if_pos (k1.mpr n1), if_pos n1]
      by_cases n2 : srcs.getD c2.toNat 0 ∈ cs
      · rw [if_pos (k2.mpr n2), if_pos n2]
        have ih := mv_eq S h1 h3 b1 b2 hx hy t w.2.1
        simp only [List.cons.injEq, true_and]
        exact ih
      · rw [if_neg (fun z => n2 (k2.mp z)), if_neg n2]
        exact ⟨fun h => absurd h no.1, fun h => absurd h no.1⟩
    · rw [if_neg (fun z => n1 (k1.mp z)), if_neg n1]
      by_cases n2 : srcs.getD c2.toNat 0 ∈ cs
      · rw [if_pos (k2.mpr n2), if_pos n2]
        exact ⟨fun h => absurd h no.2, fun h => absurd h no.2⟩
      · rw [if_neg (fun z => n2 (k2.mp z)), if_neg n2]
        exact mvG_eq S h1 h3 b1 b2 hx hy r (i + 1) w.2.2
end
end
/-- the tree of the shifted scan -/
def shT_ (ds : List Int) (n : Nat) (p : List Int) (t : Tr) : Tr := mvT (srcM ds (idM ds.length) p ds n) (idM ds.length) .pl t
structure ScanOk (ds : List Int) (n : Nat) (t : Tr) : Prop where
  dv : Divs ds
  l1 : 1 ≤ ds.length
  l3 : ds.length ≤ 3
  pr : prodL ds = (n : Int)
  wf : t.wf ds.length n
  dp : t.dep ≤ 20
  sz : t.size ≤ 200
theorem shift_ok {ds : List Int} {n : Nat} {t : Tr} {p : List Int} (O : ScanOk ds n t) (hp : ds.length = p.length) : ScanOk ds n (shT_ ds n p t) := by
  refine ⟨O.dv, O.l1, O.l3, O.pr, ?_, ?_, ?_⟩
  · have := mvT_wf (shift_srcs O.dv O.pr O.l1 O.l3 hp) O.l1 O.l3 t O.wf
    rw [srcM_len] at this
    exact this
  · unfold shT_
    rw [mvT_dep]
    exact O.dp
  · unfold shT_
    rw [mvT_size]
    exact O.sz
theorem shift_lt {ds : List Int} {n : Nat} {t : Tr} {p x y : List Int} (O : ScanOk ds n t) (hp : ds.length = p.length) (hx : x.length = ds.length) (hy : y.length = ds.length) :
    lx (full ds (shT_ ds n p t) x) (full ds (shT_ ds n p t) y) = lx (full ds t (plus x p)) (full ds t (plus y p)) := by
  have c1 := cls_in O.dv O.pr hx.symm
  have c2 := cls_in O.dv O.pr hy.symm
  have e := mv_lt (p := p) (x := x) (y := y) (c1 := cls ds x) (c2 := cls ds y) (shift_srcs O.dv O.pr O.l1 O.l3 hp) O.l1 O.l3 (by rw [srcM_len]; exact c1) (by rw [srcM_len]; exact c2) (by omega) (by omega) t O.wf
  rw [shift_src O.dv O.pr O.l1 O.l3 hx.symm hp, shift_src O.dv O.pr O.l1 O.l3 hy.symm hp] at e
  exact e
theorem shift_tied {ds : List Int} {n : Nat} {t : Tr} {p x y : List Int} (O : ScanOk ds n t) (hp : ds.length = p.length) (hx : x.length = ds.length) (hy : y.length = ds.length) :
    (pth (shT_ ds n p t) (cls ds x) x = pth (shT_ ds n p t) (cls ds y) y) ↔ (pth t (cls ds (plus x p)) (plus x p) = pth t (cls ds (plus y p)) (plus y p)) := by
  have c1 := cls_in O.dv O.pr hx.symm
  have c2 := cls_in O.dv O.pr hy.symm
  have e := mv_eq (p := p) (x := x) (y := y) (c1 := cls ds x) (c2 := cls ds y) (shift_srcs O.dv O.pr O.l1 O.l3 hp) O.l1 O.l3 (by rw [srcM_len]; exact c1) (by rw [srcM_len]; exact c2) (by omega) (by omega) t O.wf
  rw [shift_src O.dv O.pr O.l1 O.l3 hx.symm hp, shift_src O.dv O.pr O.l1 O.l3 hy.symm hp] at e
  exact e
theorem plus_swap : ∀ (x p q : List Int), x.length = p.length → x.length = q.length → plus (plus x p) q = plus (plus x q) p
  | [], [], [], _, _ => rfl
  | a :: x, b :: p, c :: q, h1, h2 => by
    show (a + b + c) :: plus (plus x p) q = (a + c + b) :: plus (plus x q) p
    rw [plus_swap x p q (by simpa using h1) (by simpa using h2)]
    congr 1
    omega
  | [], _ :: _, _, h, _ => by cases h
  | [], [], _ :: _, _, h => by cases h
  | _ :: _, [], _, h, _ => by cases h
  | _ :: _, _ :: _, [], _, h => by cases h
end Lk

namespace Lk
open PySem L2 Lx
theorem sf_nodes (ct nt : Int) (a : Addr) (v : V) : (sf ct nt a v).lookup ("node_total" : Str) = some (.int nt) := by
  unfold sf
  rw [lookup_putF, if_neg (by decide +kernel), lookup_putF, if_neg (by decide +kernel), lookup_putF, if_pos rfl]
theorem sf_no (m : Str) (ct nt : Int) (a : Addr) (v : V) (h : ("own_tree" : Str) ≠ m ∧ ("own_divisors" : Str) ≠ m ∧ ("node_total" : Str) ≠ m ∧ ("class_total" : Str) ≠ m) : (sf ct nt a v).lookup m = none := by
  unfold sf
  rw [lookup_putF, if_neg (Ne.symm h.1), lookup_putF, if_neg (Ne.symm h.2.1), lookup_putF, if_neg (Ne.symm h.2.2.1), lookup_putF, if_neg (Ne.symm h.2.2.2)]
  rfl
theorem ScanAt.ok {K : PySem.W.Frag} {C : Addr} {H : Hp} {p : Addr} {ds : List Int} {n : Nat} {t : Tr} (S : ScanAt K C H p ds n t) : ScanOk ds n t := ⟨S.dv, S.l1, S.l3, S.pr, S.wf, S.dp, S.sz⟩
theorem cut_path {x : List Int} {q : List Int} (h1 : 1 ≤ x.length) : cutV ((q ++ x).map V.int) none (some (-(x.length : Int))) = q.map V.int := by
  unfold cutV
  have e : HT.sIx ((q ++ x).map V.int).length ((q ++ x).map V.int).length (some (-(x.length : Int))) = q.length := by
    show (if (-(x.length : Int)) < 0 then ((-(x.length : Int)) + (((q ++ x).map V.int).length : Int)).toNat else _) = _
    rw [if_pos (by omega), List.length_map, List.length_append]
    omega
  rw [e, HT.sIx_none, List.drop_zero, Nat.sub_zero, List.map_append, List.take_append_of_le_length (by rw [List.length_map]; exact Nat.le_refl _), List.take_of_length_le (by rw [List.length_map]; exact Nat.le_refl _)]
def spChanged (K : PySem.W.Frag) (C : Addr) : Sp := fun vs H Q _ => ∃ (p a m c : Addr) (ev : V) (ds : List Int) (n : Nat) (t e : Tr) (mat : List (List Int)) (ws : List V) (x nds : List Int) (n' : Nat), vs = [.ref p, .ref a, .ref m, .ref c, ev] ∧ ScanAt K C H p ds n t ∧ SqT K H a (nds.map V.int) ∧ SqT K H m ws ∧ HdsAt K H mat ws ∧
  SqT K H c (x.map V.int) ∧ TrAt K H e ev ∧ Divs nds ∧ nds.length = ds.length ∧ Mat mat ds.length ∧ x.length = ds.length ∧ prodL nds = (n' : Int) ∧ ∀ H' u, Same H H' → TrAt K H' (mvT (srcM ds mat x nds n') mat e t) u → Q u H'
def spShifted (K : PySem.W.Frag) (C : Addr) : Sp := fun vs H Q _ => ∃ (p c : Addr) (ds : List Int) (n : Nat) (t : Tr) (x : List Int), vs = [.ref p, .ref c] ∧ ScanAt K C H p ds n t ∧ SqT K H c (x.map V.int) ∧ x.length = ds.length ∧ ∀ (H' : Hp) (q : Addr), Same H H' → ScanAt K C H' q ds n (shT_ ds n x t) → Q (.ref q) H'
def spShiftX (K : PySem.W.Frag) (C CE : Addr) : Sp := fun vs H _ E => ∃ (p : Addr) (v : V) (o : Option (List V)) (ds : List Int) (n : Nat) (t : Tr), vs = [.ref p, v] ∧ ScanAt K C H p ds n t ∧ OD K H v o ∧ plB o (ds.length : Int) = false ∧
  ∀ (d : Addr) (H' : Hp), (∀ b u, H b = some u → H' b = some u) → H' d = some (.xd (xflds "given" v "InvalidPlace")) → E (.ref CE) (some d) H'
def spTied (K : PySem.W.Frag) (C : Addr) : Sp := fun vs H Q _ => ∃ (p c d : Addr) (ds : List Int) (n : Nat) (t : Tr) (x y : List Int), vs = [.ref p, .ref c, .ref d] ∧ ScanAt K C H p ds n t ∧ SqT K H c (x.map V.int) ∧ SqT K H d (y.map V.int) ∧ x.length = ds.length ∧ y.length = ds.length ∧
  ∀ H' : Hp, Same H H' → Q (.bl (decide (pth t (cls ds x) x = pth t (cls ds y) y))) H'
theorem eq_tups {K : PySem.W.Frag} {H : Hp} {a b : Addr} {xs ys : List Int} {Q : VK} (ha : SqT K H a (xs.map V.int)) (hb : SqT K H b (ys.map V.int)) (q : Q (.bl (decide (xs = ys))) H) : rEqD K (.ref a) (.ref b) H Q := by
  refine ⟨.tuple (xs.map .int), .tuple (ys.map .int), .tup ha (dpInts _), .tup hb (dpInts _), shT _, shT _, ?_⟩
  have e : PyData.eqv (.tuple (xs.map .int)) (.tuple (ys.map .int)) = decide (xs = ys) := by
    simp only [PyData.eqv]
    exact eqv_tup _ _
  rw [e]
  exact q
theorem ne_tups {K : PySem.W.Frag} {H : Hp} {a b : Addr} {xs ys : List Int} {Q : VK} (ha : SqT K H a (xs.map V.int)) (hb : SqT K H b (ys.map V.int)) (q : Q (.bl (!decide (xs = ys))) H) : rNeD K (.ref a) (.ref b) H Q := by
  refine ⟨.tuple (xs.map .int), .tuple (ys.map .int), .tup ha (dpInts _), .tup hb (dpInts _), shT _, shT _, ?_⟩
  have e : PyData.eqv (.tuple (xs.map .int)) (.tuple (ys.map .int)) = decide (xs = ys) := by
    simp only [PyData.eqv]
    exact eqv_tup _ _
  rw [e]
  exact q
section
variable {P : Program} {w : World} {K : PySem.W.Frag} {mg : Str → Option Value} {base : Heap}
theorem ok_changed {f fS fM C : Addr} {fd fdS fdM : FuncData} {k : Nat} (F : Fun K "changed_tree" "Scan.changed_tree" sChanged f fd) (T : Txt K mg C)
    (GS : FnOk P w K mg base CX0 (k + 3) fS fdS ["divisors", "matrix", "place", "new_divisors"] (spSources K)) (kS : PySem.W.keepIn K (.ref fS) = true) (bS : Binds K fdS ["divisors", "matrix", "place", "new_divisors"] []) (gS : mg "source_classes" = some (.ref fS))
    (GM : FnOk P w K mg base CX0 (k + 3 + 20) fM fdM ["tree", "matrix", "sources", "ends"] (spMoved K 20)) (kM : PySem.W.keepIn K (.ref fM) = true) (bM : Binds K fdM ["tree", "matrix", "sources", "ends"] []) (gM : mg "moved_tree" = some (.ref fM)) :
    FnOk P w K mg base CX0 (k + 24) f fd ["self", "divisors", "matrix", "place", "ends"] (spChanged K C) := by
  refine F.ok scChanged (fun vs H Q E h => ?_) (fun cdv A outer s H vs Q E hr h => ?_)
  · obtain ⟨p, a, m, c, ev, ds, n, t, e, mat, ws, x, nds, n', rfl, _⟩ := h
    rfl
  · obtain ⟨p, a, m, c, ev, ds, n, t, e, mat, ws, x, nds, n', rfl, S, hA, hM, hW, hC, hE, D2, l2, MM, lx, hn', q⟩ := h
    have hr3 : Room (k + 3) _ := hr.mono (by omega)
    have hr23 : Room (k + 3 + 20) _ := hr.mono (by omega)
    refine ⟨_, pss_cons (ps_set (i := 5) scChanged.nd rfl (.inl rfl) (pe_call GS hr3 (by rfl) gS kS bS .nil pass0 (pa_cons (pe_fld (pv 0) rfl) (pa_cons (pv 2) (pa_cons (pv 3) (pa_cons (pv 1) pa_nil))))))
      (pss_one (ps_ret (pe_call GM hr23 (by rfl) gM kM bM .nil pass0 (pa_cons (pe_fld (pv 0) rfl) (pa_cons (pv 2) (pa_cons (pv 5) (pa_cons (pv 4) pa_nil))))))), ?_⟩
    obtain ⟨⟨dx, da, tv, h1, h2, h3⟩, hD, l1, l3, hn, hw, hdp, hz⟩ := id S
    refine ⟨_, rfl, p, C, dx, _, _, rfl, h1, T.cl, T.n3, sf_div _ _ _ _, _, rfl, _, rfl, _, rfl, da, m, c, a, ds, mat, ws, x, nds, ds.length, n', rfl, h2, hM, hW, hC, hA, hD, D2, rfl, l2, MM, lx, l3, hn', fun H1 sl s1 hsl => ?_⟩
    have n12 : n ≤ 12 := by have := hD.most; omega
    have n12' : n' ≤ 12 := by have := D2.most; omega
    refine ⟨_, rfl, p, C, dx, _, _, rfl, s1 _ _ h1, T.cl, T.n4, sf_tree _ _ _ _, _, rfl, _, rfl, _, rfl, tv, ev, m, sl, t, e, mat, ws, srcM ds mat x nds n', ds.length, n, rfl, TrAt.mono (Same.tups s1) h3, Same.sqT s1 hM, HdsAt.mono (Same.tups s1) hW, SqL.of hsl, TrAt.mono (Same.tups s1) hE, hw, hdp, MM, l3, n12, fun c hc => ?_, by rw [srcM_len]; omega, fun H2 u s2 hu => q H2 u (s1.trans s2) hu⟩
    unfold srcM at hc
    obtain ⟨j, hj, rfl⟩ := List.mem_map.mp hc
    have lm : (mulM mat (pAt nds (j : Int))).length = ds.length := by
      unfold mulM
      rw [List.length_map, MM.ln]
    refine cls_in hD hn ?_
    rw [plus_len (by omega)]
    exact lx.symm
theorem ok_tied {f fP C : Addr} {fd fdP : FuncData} {k : Nat} (F : Fun K "tied" "Scan.tied" sSTied f fd) (T : Txt K mg C) (ml : mg "len" = none)
    (GP : FnOk P w K mg base CX0 (k + 4) fP fdP ["self", "place"] (spSPath K C)) (bP : Binds K fdP ["self", "place"] []) (mP : Meth K C "path" fP) :
    FnOk P w K mg base CX0 (k + 5) f fd ["self", "one", "other"] (spTied K C) := by
  refine F.ok scSTied (fun vs H Q E h => ?_) (fun cdv A outer s H vs Q E hr h => ?_)
  · obtain ⟨p, c, d, ds, n, t, x, y, rfl, _⟩ := h
    rfl
  · obtain ⟨p, c, d, ds, n, t, x, y, rfl, S, hc, hd, lx, ly, q⟩ := h
    refine ⟨_, pss_cons (ps_set (i := 3) scSTied.nd rfl (.inl rfl) (pe_callB call_len_seq (by rfl) ml PySem.boot_len (pa_cons (pe_fld (pv 0) rfl) pa_nil)))
      (pss_cons (ps_set (i := 4) scSTied.nd rfl (.inl rfl) (pe_meth (pv 0) T.cl mP GP hr bP .nil pass0 (pa_cons (pv 1) pa_nil)))
      (pss_cons (ps_set (i := 5) scSTied.nd rfl (.inl rfl) (pe_meth (pv 0) T.cl mP GP hr bP .nil pass0 (pa_cons (pv 2) pa_nil)))
      (pss_one (ps_ret (pe_cmpR (op_eqD hr.units) (pe_slice sl_tupA (pv 4) po_none (po_some (pe_un un_neg (pv 3)))) (pe_slice sl_tupA (pv 5) po_none (po_some (pe_un un_neg (pv 3)))) (nomark _)))))), ?_⟩
    obtain ⟨⟨dx, da, tv, h1, h2, h3⟩, hD, l1, l3, hn, hw, hdp, hz⟩ := id S
    have ld : ((ds.map V.int).length : Int) = (ds.length : Int) := by rw [List.length_map]
    refine ⟨_, rfl, p, C, dx, _, _, rfl, h1, T.cl, T.n3, sf_div _ _ _ _, da, _, rfl, .inr h2, ?_⟩
    rw [ld]
    refine ⟨_, rfl, p, dx, _, rfl, h1, sf_path _ _ _ _, _, rfl, p, c, ds, n, t, x, rfl, S, hc, lx, fun H1 r s1 hr1 => ?_⟩
    refine ⟨_, rfl, p, dx, _, rfl, s1 _ _ h1, sf_path _ _ _ _, _, rfl, p, d, ds, n, t, y, rfl, S.same s1, Same.sqT s1 hd, ly, fun H2 r2 s2 hr2 => ?_⟩
    have g1 : cutV ((full ds t x).map V.int) none (some (-(ds.length : Int))) = (pth t (cls ds x) x).map V.int := by
      rw [← lx]
      exact cut_path (by omega)
    have g2 : cutV ((full ds t y).map V.int) none (some (-(ds.length : Int))) = (pth t (cls ds y) y).map V.int := by
      rw [← ly]
      exact cut_path (by omega)
    refine ⟨_, rfl, _, rfl, _, rfl, _, rfl, cut_reads (Same.sqT s2 hr1) fun H3 r3 s3 hr3 => ?_⟩
    refine ⟨_, rfl, _, rfl, _, rfl, _, rfl, cut_reads (Same.sqT s3 hr2) fun H4 r4 s4 hr4 => ?_⟩
    rw [g1] at hr3
    rw [g2] at hr4
    exact eq_tups (Same.sqT s4 hr3) hr4 (q H4 (((s1.trans s2).trans s3).trans s4))
theorem ok_pdiv {f C : Addr} {fd : FuncData} {k : Nat} (F : Fun K "divisors" "Scan.divisors" sPDiv f fd) (T : Txt K mg C) : FnOk P w K mg base CX0 (k + 1) f fd ["self"] (getSp C "own_divisors") := by
  refine F.ok scPDiv (fun vs H Q E h => ?_) (fun cdv A outer s H vs Q E hr h => ?_)
  · obtain ⟨a, dx, fs, v, rfl, _⟩ := h
    rfl
  · obtain ⟨a, dx, fs, v, rfl, h1, h2, q⟩ := h
    exact ⟨_, pss_one (ps_ret (pe_fld (pv 0) rfl)), _, rfl, a, C, dx, fs, v, rfl, h1, T.cl, T.n3, h2, q⟩
theorem ok_pnodes {f C : Addr} {fd : FuncData} {k : Nat} (F : Fun K "nodes" "Scan.nodes" sPNodes f fd) (T : Txt K mg C) : FnOk P w K mg base CX0 (k + 1) f fd ["self"] (getSp C "node_total") := by
  refine F.ok scPNodes (fun vs H Q E h => ?_) (fun cdv A outer s H vs Q E hr h => ?_)
  · obtain ⟨a, dx, fs, v, rfl, _⟩ := h
    rfl
  · obtain ⟨a, dx, fs, v, rfl, h1, h2, q⟩ := h
    exact ⟨_, pss_one (ps_ret (pe_fld (pv 0) rfl)), _, rfl, a, C, dx, fs, v, rfl, h1, T.cl, T.n2, h2, q⟩
end
end Lk

namespace Lk
open PySem L2
theorem first_filter {p : Int → Bool} {n j : Nat} (hj : j < n) (hp : p (j : Int) = true) (hno : ∀ m : Nat, m < j → p (m : Int) = false) : ((rng0 n).filter p)[0]? = some (j : Int) := by
  have e : rng0 n = rng0 j ++ (rng0 n).drop j := by
    have := List.take_append_drop j (rng0 n)
    rw [rng0_take (by omega)] at this
    exact this.symm
  have e2 : (rng0 n).drop j = (j : Int) :: (rng0 n).drop (j + 1) := by
    have hl : j < (rng0 n).length := by rw [rng0_len]; exact hj
    rw [List.drop_eq_getElem_cons hl]
    congr 1
    have := rng0_get hj
    rw [List.getElem?_eq_getElem hl] at this
    exact Option.some.inj this
  have e3 : (rng0 j).filter p = [] := by
    rw [List.filter_eq_nil_iff]
    intro a ha
    have hm := mem_rng.mp ha
    have := hno a.toNat (by omega)
    rw [show ((a.toNat : Nat) : Int) = a by omega] at this
    rw [this]
    decide
  rw [e, List.filter_append, e3, e2, List.filter_cons, if_pos hp]
  rfl
structure PairAt (K : PySem.W.Frag) (H : Hp) (q : Addr) (ds : List Int) (n : Nat) (t : Tr) : Prop where
  ob : ∃ (a : Addr) (v : V), SqT K H q [.ref a, v] ∧ SqT K H a (ds.map V.int) ∧ TrAt K H t v
  ok : ScanOk ds n t
theorem PairAt.mono {K : PySem.W.Frag} {H H' : Hp} {q : Addr} {ds : List Int} {n : Nat} {t : Tr} (S : PairAt K H q ds n t) (e : Tups K H H') : PairAt K H' q ds n t := by
  obtain ⟨⟨a, v, h1, h2, h3⟩, h4⟩ := S
  exact ⟨⟨a, v, e _ _ h1, e _ _ h2, TrAt.mono e h3⟩, h4⟩
def spLClass (K : PySem.W.Frag) : Sp := fun vs H Q _ => ∃ (a c : Addr) (ds ps : List Int), vs = [.ref a, .ref c] ∧ SqT K H a (ds.map V.int) ∧ SqT K H c (ps.map V.int) ∧ ds.length = ps.length ∧ Divs ds ∧ ds.length ≤ 3 ∧ ∀ H', Same H H' → Q (.int (cls ds ps)) H'
def spLPath (K : PySem.W.Frag) : Sp := fun vs H Q _ => ∃ (v : V) (a c : Addr) (t : Tr) (ds ps : List Int) (n : Nat), vs = [.ref a, v, .ref c] ∧ TrAt K H t v ∧ SqT K H a (ds.map V.int) ∧ SqT K H c (ps.map V.int) ∧ ps.length = ds.length ∧ ScanOk ds n t ∧
  ∀ H' p, Same H H' → SqT K H' p ((full ds t ps).map V.int) → Q (.ref p) H'
def spBefore (K : PySem.W.Frag) : Sp := fun vs H Q _ => ∃ (q c d : Addr) (ds : List Int) (n : Nat) (t : Tr) (x y : List Int), vs = [.ref q, .ref c, .ref d] ∧ PairAt K H q ds n t ∧ SqT K H c (x.map V.int) ∧ SqT K H d (y.map V.int) ∧ x.length = ds.length ∧ y.length = ds.length ∧
  ∀ H' : Hp, Same H H' → Q (.bl (HT.lexLt (full ds t x) (full ds t y))) H'
def spCut (K : PySem.W.Frag) : Sp := fun vs H Q _ => ∃ (q c : Addr) (ds : List Int) (n : Nat) (t : Tr) (x : List Int), vs = [.ref q, .ref c] ∧ PairAt K H q ds n t ∧ SqT K H c (x.map V.int) ∧ x.length = ds.length ∧
  ∀ H' p, Same H H' → SqT K H' p ((pth t (cls ds x) x).map V.int) → Q (.ref p) H'
def spLTied (K : PySem.W.Frag) : Sp := fun vs H Q _ => ∃ (q c d : Addr) (ds : List Int) (n : Nat) (t : Tr) (x y : List Int), vs = [.ref q, .ref c, .ref d] ∧ PairAt K H q ds n t ∧ SqT K H c (x.map V.int) ∧ SqT K H d (y.map V.int) ∧ x.length = ds.length ∧ y.length = ds.length ∧
  ∀ H' : Hp, Same H H' → Q (.bl (decide (pth t (cls ds x) x = pth t (cls ds y) y))) H'
section
variable {P : Program} {w : World} {K : PySem.W.Frag} {mg : Str → Option Value} {base : Heap}
theorem ok_lclass {f : Addr} {fd : FuncData} {k : Nat} (F : Fun K "_law_class" "_law_class" sLClass f fd) (mr : mg "range" = none) (ml : mg "len" = none) (mi : mg "int" = none) : FnOk P w K mg base CX0 (k + 1) f fd ["_law_divisors_here", "_law_place_here"] (spLClass K) := by
  refine F.ok scLClass (fun vs H Q E h => ?_) (fun cdv A outer s H vs Q E hr h => ?_)
  · obtain ⟨a, c, ds, ps, rfl, _⟩ := h
    rfl
  · obtain ⟨a, c, ds, ps, rfl, hA, hB, hl, D, h3, q⟩ := h
    refine ⟨_, pss_cons (ps_set (i := 2) scLClass.nd rfl (.inl rfl) pe_int)
      (pss_cons (ps_for PassesOwn.never rfl (pi_range1 (by rfl) mr (pa_cons (pe_callB call_len_seq (by rfl) ml PySem.boot_len (pa_cons (pv 0) pa_nil)) pa_nil)) (pg_name (i := 3) scLClass.nd rfl (.inl rfl))
        (pss_one (ps_set (i := 2) scLClass.nd rfl (.inl rfl) (pe_op op_add (pe_op op_mul (pv 2) (pe_ix ix_tup (pv 0) (pv 3) (fun _ _ => rfl))) (pe_op op_mod (pe_callTy call_int1 (by rfl) mi (by decide +kernel) (pa_cons (pe_ix ix_tup (pv 1) (pv 3) (fun _ _ => rfl)) pa_nil)) (pe_ix ix_tup (pv 0) (pv 3) (fun _ _ => rfl)))))))
      (pss_one (ps_ret (pv 2)))), ?_⟩
    have ld : ((ds.map V.int).length : Int) = (ds.length : Int) := by rw [List.length_map]
    refine ⟨_, rfl, a, _, rfl, .inr hA, ?_⟩
    rw [ld]
    refine ⟨_, rfl, by omega, by omega, for_range (lo := 0) (n := (ds.length : Int).toNat) (fun i σ H2 => ∃ v3 : Option V, σ = [some (.ref a), some (.ref c), some (.int (clsF ((ds.zip ps).take i) 0)), v3] ∧ Same H H2) ⟨none, rfl, Same.refl _⟩ ?_ ?_⟩
    · rintro i σ H2 hi ⟨v3, rfl, sm⟩
      have e0 : (0 : Int) + (i : Int) = (i : Int) := by omega
      have hi1 : i < ds.length := by omega
      have hi2 : i < ps.length := by omega
      have gu : (ds.map V.int)[i]? = some (.int ds[i]) := by rw [List.getElem?_map, List.getElem?_eq_getElem hi1]; rfl
      have gv : (ps.map V.int)[i]? = some (.int ps[i]) := by rw [List.getElem?_map, List.getElem?_eq_getElem hi2]; rfl
      have bd := cls_bound hl D.one i
      have pt := D.part i
      have hu1 := D.one ds[i] (List.getElem_mem hi1)
      have gz : (ds.zip ps)[i]? = some (ds[i], ps[i]) := by
        rw [List.getElem?_zip_eq_some]
        exact ⟨List.getElem?_eq_getElem hi1, List.getElem?_eq_getElem hi2⟩
      rw [e0]
      refine ⟨_, rfl, _, rfl, _, rfl, a, _, _, _, rfl, rfl, Same.sqT sm hA, atI_nat gu, _, _, rfl, rfl, .inl ⟨by omega, by omega⟩, ?_⟩
      refine ⟨_, rfl, _, rfl, c, _, _, _, rfl, rfl, Same.sqT sm hB, atI_nat gv, .inl ⟨_, rfl, ?_⟩⟩
      refine ⟨_, rfl, _, rfl, a, _, _, _, rfl, rfl, Same.sqT sm hA, atI_nat gu, _, _, rfl, rfl, (by show (0 : Int) < ds[i]; omega), _, _, rfl, rfl, ?_⟩
      refine ⟨some (.int (i : Int)), ?_, sm⟩
      rw [take_more gz]
      unfold clsF
      rw [List.foldl_append]
      rfl
    · rintro σ H2 ⟨v3, rfl, sm⟩
      refine ⟨_, rfl, ?_⟩
      rw [List.take_of_length_le (by rw [List.length_zip]; omega)]
      exact q H2 sm
theorem ok_lpath {f fC : Addr} {fd fdC : FuncData} {k : Nat} (F : Fun K "_law_path" "_law_path" sLPath f fd) (mt : mg "tuple" = none) (mr : mg "range" = none) (ml : mg "len" = none) (ms : mg "sum" = none) (mz : mg "zip" = none)
    (GC : FnOk P w K mg base CX0 (k + 1) fC fdC ["_law_divisors_here", "_law_place_here"] (spLClass K)) (kC : PySem.W.keepIn K (.ref fC) = true) (bC : Binds K fdC ["_law_divisors_here", "_law_place_here"] []) (gC : mg "_law_class" = some (.ref fC)) :
    FnOk P w K mg base CX0 (k + 2) f fd ["_law_divisors_here", "_law_tree_here", "_law_place_here"] (spLPath K) := by
  refine F.ok scLPath (fun vs H Q E h => ?_) (fun cdv A outer s H vs Q E hr h => ?_)
  · obtain ⟨v, a, c, t, ds, ps, n, rfl, _⟩ := h
    rfl
  · obtain ⟨v, a, c, t, ds, ps, n, rfl, hT, hA, hC, hl, O, q⟩ := h
    refine ⟨_, pss_cons (ps_asg (pe_tup (pa_cons (pe_lst pa_nil) (pa_cons (pe_call GC hr (by rfl) gC kC bC .nil pass0 (pa_cons (pv 0) (pa_cons (pv 2) pa_nil))) pa_nil))) (pg_tup rfl (pgs_cons (pg_name (i := 3) scLPath.nd rfl (.inl rfl)) (pgs_cons (pg_name (i := 4) scLPath.nd rfl (.inr rfl)) pgs_nil))))
      (pss_cons (ps_while PassesOwn.never (pt_cmpR op_ne (pe_ix ix_tup (pv 1) pe_int (fun _ _ => rfl)) pe_str (nomark _))
        (pss_one (ps_if (pt_cmpR op_eq (pe_ix ix_tup (pv 1) pe_int (fun _ _ => rfl)) pe_str (nomark _))
          (pss_cons (ps_expr (pe_bm PySem.F.plainAttrs_list PySem.F.slot_list_append PySem.F.type_list_append mt_append (pv 3) (pa_cons (pe_op op_add (pe_callB (cr_sum rfl) (by rfl) ms (by decide +kernel) (pa_cons (pe_lc (own := [("_law_one", 6), ("_law_two", 7)]) (g := gTup K 2 (gCons (gName 6) (gCons (gName 7) gNil))) (by rfl) scLPath.nd (RZ.pi_zipA (by rfl) mz (pa_cons (pe_ix ix_tup (pv 1) pe_int (fun _ _ => rfl)) (pa_cons (pv 2) pa_nil)))
              (blkOk_by (own := [("_law_one", 6), ("_law_two", 7)]) (N := ["_law_divisors_here", "_law_tree_here", "_law_place_here", "_law_found", "_law_at", "_law_index", "_law_one", "_law_two", "_law_k"]) (sc := defScope sLPath) (by decide +kernel))
              (fun _ _ _ _ _ => pg_tup rfl (pgs_cons (pg_name (i := 6) scLPath.nd rfl (.inl rfl)) (pgs_cons (pg_name (i := 7) scLPath.nd rfl (.inl rfl)) pgs_nil))) (fun _ _ _ _ _ => pts_nil)
              (fun _ _ _ _ _ => pe_op op_mul (pv 6) (pv 7))) pa_nil)) (pe_ix ix_tup (pe_ix ix_tup (pv 1) pe_int (fun _ _ => rfl)) (pv 4) (fun _ _ => rfl))) pa_nil)))
            (pss_one (ps_set (i := 1) scLPath.nd rfl (.inr rfl) (pe_ix ix_tup (pv 1) pe_int (fun _ _ => rfl)))))
          (pss_cons (ps_set (i := 5) scLPath.nd rfl (.inl rfl) (pe_ix ix_list (pe_lc (own := [("_law_k", 8)]) (g := gName 8) (tt := tTest (tOp (rIn K false) (tVar 4) (tOp (rIxT K) (tOp (rIxT K) (tOp (rIxT K) (tVar 1) (tC (.int 1))) (tVar 8)) (tC (.int 0))))) (by rfl) scLPath.nd (pi_range1 (by rfl) mr (pa_cons (pe_callB call_len_seq (by rfl) ml PySem.boot_len (pa_cons (pe_ix ix_tup (pv 1) pe_int (fun _ _ => rfl)) pa_nil)) pa_nil))
              (blkOk_by (own := [("_law_k", 8)]) (N := ["_law_divisors_here", "_law_tree_here", "_law_place_here", "_law_found", "_law_at", "_law_index", "_law_one", "_law_two", "_law_k"]) (sc := defScope sLPath) (by decide +kernel))
              (fun _ _ _ _ _ => pg_name (i := 8) scLPath.nd rfl (Or.inl rfl)) (fun _ _ _ _ _ => pts_one (pt_cmpR op_in_seq (pv 4) (pe_ix ix_tup (pe_ix ix_tup (pe_ix ix_tup (pv 1) pe_int (fun _ _ => rfl)) (pv 8) (fun _ _ => rfl)) pe_int (fun _ _ => rfl)) (by rfl)))
              (fun _ _ _ _ _ => pv 8)) pe_int (fun _ _ => rfl)))
            (pss_cons (ps_expr (pe_bm PySem.F.plainAttrs_list PySem.F.slot_list_append PySem.F.type_list_append mt_append (pv 3) (pa_cons (pv 5) pa_nil)))
            (pss_one (ps_set (i := 1) scLPath.nd rfl (.inr rfl) (pe_ix ix_tup (pe_ix ix_tup (pe_ix ix_tup (pv 1) pe_int (fun _ _ => rfl)) (pv 5) (fun _ _ => rfl)) pe_int (fun _ _ => rfl)))))))))
      (pss_one (ps_ret (pe_op op_catA (pe_callTy call_tuple_of (by rfl) mt (by decide +kernel) (pa_cons (pv 3) pa_nil)) (pe_callTy call_tuple_of (by rfl) mt (by decide +kernel) (pa_cons (pv 2) pa_nil)))))), ?_⟩
    have bd := cls_in O.dv O.pr hl.symm
    have b0 := bd.1
    have b1 := bd.2
    refine ⟨Nat.zero_le _, fun o no => ?_⟩
    have s0 := same_new (o := .lst []) no
    refine ⟨_, rfl, _, rfl, a, c, ds, ps, rfl, Same.sqT s0 hA, Same.sqT s0 hC, hl.symm, O.dv, O.l3, fun H1 s1 => ?_⟩
    have sm1 := s0.trans s1
    have ho1 := s1 _ _ (upd_same (H := H) (a := o) (o := .lst []))
    refine ⟨(by show 2 ≤ sizeLine; decide), fun T nT => ?_⟩
    have sm2 := sm1.trans (same_new (o := .tup [.ref o, .int (cls ds ps)]) nT)
    have ho2 := (same_new (o := .tup [.ref o, .int (cls ds ps)]) nT) _ _ ho1
    refine ⟨T, _, rfl, SqT.of upd_same, rfl, _, _, rfl, _, _, rfl, rfl, ?_⟩
    refine ⟨fun m σ H2 => ∃ (u : Tr) (x : V) (acc : List Int) (v5 : Option V), σ = [some (.ref a), some x, some (.ref c), some (.ref o), some (.int (cls ds ps)), v5, none, none, none] ∧ Same H H2 ∧ H2 o = some (.lst (acc.map V.int)) ∧ TrAt K H2 u x ∧ u.wf ds.length n ∧ pth t (cls ds ps) ps = acc ++ pth u (cls ds ps) ps ∧ acc.length + u.dep ≤ 30 ∧ m = u.dep,
      ⟨_, t, v, [], none, rfl, sm2, ho2, TrAt.mono (Same.tups sm2) hT, O.wf, rfl, by have := O.dp; simp; omega, rfl⟩, ?_⟩
    rintro m σ H2 ⟨u, x, acc, v5, rfl, sm, ho, hU, hwu, ep, hlen, rfl⟩
    have udp := (Tr.deep u).2
    have alen : (acc.map V.int).length < sizeLine := by
      rw [List.length_map]
      exact small1000 (by omega)
    cases u with
    | pl =>
      simp only [TrAt] at hU
      obtain ⟨p, rfl, h2⟩ := hU
      refine ⟨_, rfl, p, _, _, _, rfl, rfl, h2, atI_nat (j := 0) rfl, rfl, false, ?_, iteF ?_⟩
      · show V.bl (!decide (V.str "places" = V.str "places")) = V.bl false
        rw [decide_eq_true rfl]
        rfl
      refine ⟨_, rfl, o, _, rfl, .inl ⟨SqL.of ho, fun r nr => ?_⟩⟩
      have s3 := same_new (o := .tup (acc.map V.int)) nr
      refine ⟨_, rfl, c, _, rfl, .inr ⟨Same.sqT (sm.trans s3) hC, cat_reads (SqT.of upd_same) (Same.sqT (sm.trans s3) hC) ?_ fun H3 p3 s4 h4 => ?_⟩⟩
      · rw [List.length_map, List.length_map, hl]
        have := O.l3
        omega
      refine q H3 p3 ((sm.trans s3).trans s4) ?_
      have ef : full ds t ps = acc ++ ps := by
        unfold full
        rw [ep]
        simp [pth]
      rw [ef, List.map_append]
      exact h4
    | key row hs u =>
      simp only [TrAt] at hU
      simp only [Tr.wf] at hwu
      obtain ⟨p, ra, ha, tv, rfl, h2, h3, h4, h5⟩ := hU
      refine ⟨_, rfl, p, _, _, _, rfl, rfl, h2, atI_nat (j := 0) rfl, rfl, true, ?_, iteT ?_⟩
      · show V.bl (!decide (V.str "key" = V.str "places")) = V.bl true
        rw [decide_eq_false (by decide +kernel)]
        rfl
      refine ⟨fun σ' H' => ∃ (u' : Tr) (x : V) (acc : List Int) (v5 : Option V), σ' = [some (.ref a), some x, some (.ref c), some (.ref o), some (.int (cls ds ps)), v5, none, none, none] ∧ Same H H' ∧ H' o = some (.lst (acc.map V.int)) ∧ TrAt K H' u' x ∧ u'.wf ds.length n ∧ pth t (cls ds ps) ps = acc ++ pth u' (cls ds ps) ps ∧ acc.length + u'.dep ≤ 30 ∧ u'.dep < (Tr.key row hs u).dep,
        fun σ' H' ⟨u', y1, y2, y3, z1, z2, z3, z4, z5, z6, z7, z8⟩ => ⟨u'.dep, z8, u', y1, y2, y3, z1, z2, z3, z4, z5, z6, z7, rfl⟩, ?_⟩
      refine ⟨_, rfl, p, _, _, _, rfl, rfl, h2, atI_nat (j := 0) rfl, rfl, true, ?_, iteT ?_⟩
      · show V.bl (decide (V.str "key" = V.str "key")) = V.bl true
        rw [decide_eq_true rfl]
      have hcn : (cls ds ps).toNat < hs.length := by omega
      have hat : atI (hs.map V.int) (cls ds ps) = some (.int (hs.getD (cls ds ps).toNat 0)) := by
        refine at_of (j := (cls ds ps).toNat) (by omega) ?_
        rw [List.getElem?_map, List.getElem?_eq_getElem hcn, List.getD_eq_getElem?_getD, List.getElem?_eq_getElem hcn]
        rfl
      have hC2 : SqT K H2 c (ps.map V.int) := Same.sqT sm hC
      have hle : (row.map V.int).length = (ps.map V.int).length := by rw [List.length_map, List.length_map]; omega
      refine ⟨_, rfl, .inl ⟨rfl, _, SqL.of ho⟩, _, rfl, p, _, _, _, rfl, rfl, h2, atI_nat (j := 1) rfl, _, rfl, ra, c, row.map V.int, ps.map V.int, rfl, .inr ⟨h3, hC2, fun D nD => ?_⟩⟩
      refine lc_it (walk_zipT hle) (fun i H3 => Same H2 H3 ∧ H3 D = some (.lst (((List.zipWith (· * ·) row ps).take i).map V.int))) ⟨same_new nD, upd_same⟩ (fun i H3 _ ⟨s3, _⟩ => ⟨Same.sqT s3 h3, Same.sqT s3 hC2⟩) ?_ ?_
      · rintro i y H3 H4 hi ⟨s3, hD⟩ ⟨T, x1, x2, rfl, nT, rfl, f1, f2⟩
        obtain ⟨z1, hu, rfl⟩ := map_get f1
        obtain ⟨z2, hv, rfl⟩ := map_get f2
        have nDT : D ≠ T := ne_of_none hD nT
        have gz : (List.zipWith (· * ·) row ps)[i]? = some (z1 * z2) := by
          rw [List.getElem?_zipWith, hu, hv]
        have l3 := O.l3
        refine ⟨T, _, rfl, SqT.of upd_same, rfl, _, _, rfl, _, _, rfl, rfl, rfl, ?_⟩
        refine ⟨_, rfl, _, rfl, _, _, rfl, rfl, .inl (hwu.2.2.1 z1 (List.mem_of_getElem? hu)), _, (by rw [upd_ne nDT]; exact hD), ?_, ?_, ?_⟩
        · rw [List.length_map]
          refine Nat.lt_of_le_of_lt (List.length_take_le _ _) (small1000 ?_)
          rw [List.length_map] at hi
          omega
        · intro b u e
          have e2 := s3 b u e
          rw [upd_ne (ne_of_none e nD), upd_ne (ne_of_none e2 nT)]
          exact e2
        · rw [upd_same, take_more gz, List.map_append]
          rfl
      rintro H3 ⟨s3, hD⟩
      have e : (List.zipWith (· * ·) row ps).take (row.map V.int).length = List.zipWith (· * ·) row ps := List.take_of_length_le (by
        rw [List.length_zipWith, List.length_map]
        omega)
      rw [e] at hD
      refine ⟨D, _, rfl, SqL.of hD, ?_⟩
      refine ⟨_, rfl, p, _, _, _, rfl, rfl, Same.sqT s3 h2, atI_nat (j := 2) rfl, _, rfl, ha, _, _, _, rfl, rfl, Same.sqT s3 h4, hat, _, _, rfl, rfl, o, _, _, rfl, rfl, s3 _ _ ho, alen, ?_⟩
      have tu : Tups K H3 (upd H3 o (.lst (acc.map V.int ++ [.int ((List.zipWith (· * ·) row ps).sum + hs.getD (cls ds ps).toNat 0)]))) := tups_lst (s3 _ _ ho)
      refine ⟨_, rfl, p, _, _, _, rfl, rfl, tu _ _ (Same.sqT s3 h2), atI_nat (j := 3) rfl, ?_⟩
      refine ⟨u, tv, acc ++ [dotL row ps + hs.getD (cls ds ps).toNat 0], _, rfl, Same.upd_out (sm.trans s3) no, ?_, TrAt.mono tu (TrAt.mono (Same.tups s3) h5), hwu.2.2.2, ?_, ?_, ?_⟩
      · rw [upd_same, List.map_append]
        rfl
      · rw [ep, List.append_assoc]
        simp only [pth]
        rfl
      · simp only [Tr.dep] at hlen
        rw [List.length_append]
        simp
        omega
      · simp [Tr.dep]
    | fork gs =>
      simp only [TrAt] at hU
      simp only [Tr.wf] at hwu
      obtain ⟨p, ga, ws, rfl, h2, h3, h4⟩ := hU
      refine ⟨_, rfl, p, _, _, _, rfl, rfl, h2, atI_nat (j := 0) rfl, rfl, true, ?_, iteT ?_⟩
      · show V.bl (!decide (V.str "fork" = V.str "places")) = V.bl true
        rw [decide_eq_false (by decide +kernel)]
        rfl
      refine ⟨fun σ' H' => ∃ (u' : Tr) (x : V) (acc : List Int) (v5 : Option V), σ' = [some (.ref a), some x, some (.ref c), some (.ref o), some (.int (cls ds ps)), v5, none, none, none] ∧ Same H H' ∧ H' o = some (.lst (acc.map V.int)) ∧ TrAt K H' u' x ∧ u'.wf ds.length n ∧ pth t (cls ds ps) ps = acc ++ pth u' (cls ds ps) ps ∧ acc.length + u'.dep ≤ 30 ∧ u'.dep < (Tr.fork gs).dep,
        fun σ' H' ⟨u', y1, y2, y3, z1, z2, z3, z4, z5, z6, z7, z8⟩ => ⟨u'.dep, z8, u', y1, y2, y3, z1, z2, z3, z4, z5, z6, z7, rfl⟩, ?_⟩
      refine ⟨_, rfl, p, _, _, _, rfl, rfl, h2, atI_nat (j := 0) rfl, rfl, false, ?_, iteF ?_⟩
      · show V.bl (decide (V.str "fork" = V.str "key")) = V.bl false
        rw [decide_eq_false (by decide +kernel)]
      obtain ⟨j, cs, hj, hc, hf⟩ := first_of (c := cls ds ps) (l := gs.heads) (by
        rw [← Gs.flat]
        exact hwu.1.mem_iff.mpr (mem_rng0 b0 b1))
      have hn12 : n ≤ 12 := by have := O.dv.most; have := O.pr; omega
      have lw := h4.len
      have hlw : ws.length ≤ 1000 := by
        have e1 : ∀ l : List (List Int), (∀ c ∈ l, c ≠ []) → l.length ≤ l.flatten.length := fun l => by
          induction l with
          | nil => intro _; simp
          | cons c r ih =>
            intro hc
            have h1 := ih fun x hx => hc x (List.mem_cons_of_mem _ hx)
            have h2 : 0 < c.length := List.length_pos_iff.mpr (hc c List.mem_cons_self)
            simp only [List.flatten_cons, List.length_append, List.length_cons]
            omega
        have e2 := e1 gs.heads fun c hc => (Gs.wf_heads hwu.2 c hc).1
        rw [← Gs.flat, hwu.1.length_eq, rng0_len] at e2
        omega
      have hjl : j < gs.heads.length := (List.getElem?_eq_some_iff.mp hj).1
      have hjw : j < ws.length := by omega
      obtain ⟨pa, ca, tv, cs', u, hy, g1, g2, g3, g4, g5⟩ := h4.get (List.getElem?_eq_getElem hjw)
      let pr : Int → Bool := fun i => decide (cls ds ps ∈ gs.heads.getD i.toNat [])
      refine ⟨_, rfl, p, _, _, _, rfl, rfl, h2, atI_nat (j := 1) rfl, ga, _, rfl, .inr h3, _, rfl, by omega, by omega, fun D nD => ?_⟩
      refine lc_range (lo := 0) (n := (ws.length : Int).toNat) (fun i H3 => Same H2 H3 ∧ H3 D = some (.lst (((rng0 i).filter pr).map V.int))) ⟨same_new nD, upd_same⟩ ?_ ?_
      · rintro i H3 hi ⟨s3, hD⟩
        have hi2 : i < ws.length := by omega
        have e0 : (0 : Int) + (i : Int) = (i : Int) := by omega
        obtain ⟨pb, cb, tb, cz, tz, hyb, q1, q2, q3, q4, q5⟩ := h4.get (List.getElem?_eq_getElem hi2)
        have gi : atI ws ((0 : Int) + (i : Int)) = some (.ref pb) := by
          rw [e0]
          exact atI_nat (by rw [List.getElem?_eq_getElem hi2, hyb])
        refine ⟨rfl, _, rfl, _, rfl, p, _, _, _, rfl, rfl, Same.sqT s3 h2, atI_nat (j := 1) rfl, _, rfl, ga, ws, _, .ref pb, rfl, rfl, Same.sqT s3 h3, gi, pb, _, _, _, rfl, rfl, Same.sqT s3 q1, atI_nat (j := 0) rfl, cb, _, rfl, .inr (Same.sqT s3 q2), rfl, ?_, _, rfl, ?_⟩
        · rw [List.all_eq_true]
          intro y hy
          obtain ⟨z, _, rfl⟩ := List.mem_map.mp hy
          rfl
        have ei : (if false = true then !inV (.int (cls ds ps)) (cz.map V.int) else inV (.int (cls ds ps)) (cz.map V.int)) = decide (cls ds ps ∈ cz) := by
          rw [if_neg (by decide), inV_ints]
        rw [ei]
        have pz : pr (i : Int) = decide (cls ds ps ∈ cz) := by
          show decide (cls ds ps ∈ gs.heads.getD ((i : Int)).toNat []) = _
          rw [Int.toNat_natCast, List.getD_eq_getElem?_getD, q4]
          rfl
        have lenj : (((rng0 i).filter pr).map V.int).length < sizeLine := by
          rw [List.length_map]
          refine small1000 (Nat.le_trans (List.length_filter_le _ _) ?_)
          rw [rng0_len]
          omega
        refine ite2 (fun e => ?_) (fun e => ?_)
        · refine ⟨_, rfl, _, hD, lenj, Same.upd_out s3 nD, ?_⟩
          rw [upd_same, rng0_succ, List.filter_append, List.map_append]
          have : ([(i : Int)].filter pr) = [(i : Int)] := by
            rw [List.filter_cons, pz, if_pos e]
            rfl
          rw [this]
          show some (HO.lst (_ ++ [V.int ((0 : Int) + (i : Int))])) = _
          rw [e0]
          rfl
        · refine ⟨s3, ?_⟩
          rw [rng0_succ, List.filter_append]
          have : ([(i : Int)].filter pr) = [] := by
            rw [List.filter_cons, pz, if_neg e]
            rfl
          rw [this, List.append_nil]
          exact hD
      rintro H3 ⟨s3, hD⟩
      have g0 : (((rng0 (ws.length : Int).toNat).filter pr).map V.int)[0]? = some (.int (j : Int)) := by
        rw [List.getElem?_map, first_filter (j := j) (by omega) ?_ ?_]
        · rfl
        · show decide (cls ds ps ∈ gs.heads.getD ((j : Int)).toNat []) = true
          rw [Int.toNat_natCast, List.getD_eq_getElem?_getD, hj]
          exact decide_eq_true hc
        · intro m hm
          show decide (cls ds ps ∈ gs.heads.getD ((m : Int)).toNat []) = false
          have hml : m < gs.heads.length := by omega
          rw [Int.toNat_natCast, List.getD_eq_getElem?_getD, List.getElem?_eq_getElem hml]
          exact decide_eq_false (hf m _ hm (List.getElem?_eq_getElem hml))
      refine ⟨D, _, _, _, rfl, rfl, SqL.of hD, atI_nat (j := 0) g0, ?_⟩
      refine ⟨_, rfl, .inl ⟨rfl, _, SqL.of (s3 _ _ ho)⟩, _, rfl, o, _, _, rfl, rfl, s3 _ _ ho, alen, ?_⟩
      have tu : Tups K H3 (upd H3 o (.lst (acc.map V.int ++ [.int (j : Int)]))) := tups_lst (s3 _ _ ho)
      have tu2 : Tups K H2 (upd H3 o (.lst (acc.map V.int ++ [.int (j : Int)]))) := fun b ys e => tu b ys (Same.sqT s3 e)
      refine ⟨_, rfl, p, _, _, _, rfl, rfl, tu2 _ _ h2, atI_nat (j := 1) rfl, _, rfl, ga, ws, _, .ref pa, rfl, rfl, tu2 _ _ h3, at_of (j := j) rfl (by rw [List.getElem?_eq_getElem hjw, hy]), pa, _, _, _, rfl, rfl, tu2 _ _ g1, atI_nat (j := 1) rfl, ?_⟩
      have mt := List.mem_of_getElem? g5
      refine ⟨u, tv, acc ++ [(j : Int)], _, rfl, Same.upd_out (sm.trans s3) no, ?_, TrAt.mono tu2 g3, Gs.wf_trees hwu.2 u mt, ?_, ?_, ?_⟩
      · rw [upd_same, List.map_append]
        rfl
      · rw [ep, List.append_assoc]
        simp only [pth]
        rw [pthG_at 0 _ _ hj g5 hc hf]
        simp
      · have := Gs.dep_trees gs u mt
        simp only [Tr.dep] at hlen
        rw [List.length_append]
        simp
        omega
      · have := Gs.dep_trees gs u mt
        simp only [Tr.dep]
        omega
theorem ok_before {f fP : Addr} {fd fdP : FuncData} {k : Nat} (F : Fun K "_law_before" "_law_before" sBefore f fd)
    (GP : FnOk P w K mg base CX0 (k + 2) fP fdP ["_law_divisors_here", "_law_tree_here", "_law_place_here"] (spLPath K)) (kP : PySem.W.keepIn K (.ref fP) = true) (bP : Binds K fdP ["_law_divisors_here", "_law_tree_here", "_law_place_here"] []) (gP : mg "_law_path" = some (.ref fP)) :
    FnOk P w K mg base CX0 (k + 3) f fd ["_law_pair", "_law_one", "_law_other"] (spBefore K) := by
  refine F.ok scBefore (fun vs H Q E h => ?_) (fun cdv A outer s H vs Q E hr h => ?_)
  · obtain ⟨q, c, d, ds, n, t, x, y, rfl, _⟩ := h
    rfl
  · obtain ⟨p, c, d, ds, n, t, x, y, rfl, S, hc, hd, lx, ly, q⟩ := h
    refine ⟨_, pss_one (ps_ret (pe_cmpR (op_ltT hr.units0) (pe_call GP hr (by rfl) gP kP bP .nil pass0 (pa_cons (pe_ix ix_tup (pv 0) pe_int (fun _ _ => rfl)) (pa_cons (pe_ix ix_tup (pv 0) pe_int (fun _ _ => rfl)) (pa_cons (pv 1) pa_nil)))) (pe_call GP hr (by rfl) gP kP bP .nil pass0 (pa_cons (pe_ix ix_tup (pv 0) pe_int (fun _ _ => rfl)) (pa_cons (pe_ix ix_tup (pv 0) pe_int (fun _ _ => rfl)) (pa_cons (pv 2) pa_nil)))) (nomark _))), ?_⟩
    obtain ⟨⟨a, v, h1, h2, h3⟩, O⟩ := id S
    refine ⟨_, rfl, p, _, _, _, rfl, rfl, h1, atI_nat (j := 0) rfl, _, rfl, p, _, _, _, rfl, rfl, h1, atI_nat (j := 1) rfl, _, rfl, v, a, c, t, ds, x, n, rfl, h3, h2, hc, lx, O, fun H1 r s1 hr1 => ?_⟩
    refine ⟨_, rfl, p, _, _, _, rfl, rfl, Same.sqT s1 h1, atI_nat (j := 0) rfl, _, rfl, p, _, _, _, rfl, rfl, Same.sqT s1 h1, atI_nat (j := 1) rfl, _, rfl, v, a, d, t, ds, y, n, rfl, TrAt.mono (Same.tups s1) h3, Same.sqT s1 h2, Same.sqT s1 hd, ly, O, fun H2 r2 s2 hr2 => ?_⟩
    exact ⟨r, r2, _, _, rfl, rfl, Same.sqT s2 hr1, hr2, q H2 (s1.trans s2)⟩
theorem ok_cut {f fP : Addr} {fd fdP : FuncData} {k : Nat} (F : Fun K "_law_cut" "_law_cut" sCut f fd) (ml : mg "len" = none)
    (GP : FnOk P w K mg base CX0 (k + 2) fP fdP ["_law_divisors_here", "_law_tree_here", "_law_place_here"] (spLPath K)) (kP : PySem.W.keepIn K (.ref fP) = true) (bP : Binds K fdP ["_law_divisors_here", "_law_tree_here", "_law_place_here"] []) (gP : mg "_law_path" = some (.ref fP)) :
    FnOk P w K mg base CX0 (k + 3) f fd ["_law_pair", "_law_place_here"] (spCut K) := by
  refine F.ok scCut (fun vs H Q E h => ?_) (fun cdv A outer s H vs Q E hr h => ?_)
  · obtain ⟨q, c, ds, n, t, x, rfl, _⟩ := h
    rfl
  · obtain ⟨p, c, ds, n, t, x, rfl, S, hc, lx, q⟩ := h
    refine ⟨_, pss_one (ps_ret (pe_slice sl_tupA (pe_call GP hr (by rfl) gP kP bP .nil pass0 (pa_cons (pe_ix ix_tup (pv 0) pe_int (fun _ _ => rfl)) (pa_cons (pe_ix ix_tup (pv 0) pe_int (fun _ _ => rfl)) (pa_cons (pv 1) pa_nil)))) po_none (po_some (pe_un un_neg (pe_callB call_len_seq (by rfl) ml PySem.boot_len (pa_cons (pv 1) pa_nil)))))), ?_⟩
    obtain ⟨⟨a, v, h1, h2, h3⟩, O⟩ := id S
    refine ⟨_, rfl, p, _, _, _, rfl, rfl, h1, atI_nat (j := 0) rfl, _, rfl, p, _, _, _, rfl, rfl, h1, atI_nat (j := 1) rfl, _, rfl, v, a, c, t, ds, x, n, rfl, h3, h2, hc, lx, O, fun H1 r s1 hr1 => ?_⟩
    have ll : ((x.map V.int).length : Int) = (x.length : Int) := by rw [List.length_map]
    refine ⟨_, rfl, c, _, rfl, .inr (Same.sqT s1 hc), _, rfl, _, rfl, cut_reads hr1 fun H2 p2 s2 h2' => ?_⟩
    have l1 := O.l1
    rw [ll, show full ds t x = pth t (cls ds x) x ++ x from rfl, cut_path (by omega)] at h2'
    exact q H2 p2 (s1.trans s2) h2'
theorem ok_ltied {f fP : Addr} {fd fdP : FuncData} {k : Nat} (F : Fun K "_law_tied" "_law_tied" sLTied f fd)
    (GP : FnOk P w K mg base CX0 (k + 3) fP fdP ["_law_pair", "_law_place_here"] (spCut K)) (kP : PySem.W.keepIn K (.ref fP) = true) (bP : Binds K fdP ["_law_pair", "_law_place_here"] []) (gP : mg "_law_cut" = some (.ref fP)) :
    FnOk P w K mg base CX0 (k + 4) f fd ["_law_pair", "_law_one", "_law_other"] (spLTied K) := by
  refine F.ok scLTied (fun vs H Q E h => ?_) (fun cdv A outer s H vs Q E hr h => ?_)
  · obtain ⟨q, c, d, ds, n, t, x, y, rfl, _⟩ := h
    rfl
  · obtain ⟨p, c, d, ds, n, t, x, y, rfl, S, hc, hd, lx, ly, q⟩ := h
    refine ⟨_, pss_one (ps_ret (pe_cmpR (op_eqD hr.units) (pe_call GP hr (by rfl) gP kP bP .nil pass0 (pa_cons (pv 0) (pa_cons (pv 1) pa_nil))) (pe_call GP hr (by rfl) gP kP bP .nil pass0 (pa_cons (pv 0) (pa_cons (pv 2) pa_nil))) (nomark _))), ?_⟩
    refine ⟨_, rfl, _, rfl, p, c, ds, n, t, x, rfl, S, hc, lx, fun H1 r s1 hr1 => ?_⟩
    refine ⟨_, rfl, _, rfl, p, d, ds, n, t, y, rfl, S.mono (Same.tups s1), Same.sqT s1 hd, ly, fun H2 r2 s2 hr2 => ?_⟩
    exact eq_tups (Same.sqT s2 hr1) hr2 (q H2 (s1.trans s2))
end
end Lk

namespace Lk
open PySem L2 Lx LamX
/-! ### tables, over what the law does -/
theorem ExtN.tups {K : PySem.W.Frag} {H H' : Hp} (e : ExtN H H') : Tups K H H' := fun a xs h => by
  rcases h with (h | ⟨o, h⟩) | h
  · exact .inl (.inl (e _ _ h (fun ps z => by cases z)))
  · exact .inl (.inr ⟨o, e _ _ h (fun ps z => by cases z)⟩)
  · exact .inr h
theorem BagAt.extN {H H' : Hp} {b l : Addr} (B : BagAt H b l) (e : ExtN H H') : BagAt H' b l := by
  obtain ⟨x1, x2, x3, x4, Z⟩ := B
  exact ⟨x1, x2, x3, x4, e _ _ Z.ob (fun ps z => by cases z), e _ _ Z.ls (fun ps z => by cases z), Z.i0, Z.i1, Z.g0, Z.s0, Z.s1⟩
theorem ScanAt.extN {K : PySem.W.Frag} {C : Addr} {H H' : Hp} {p : Addr} {ds : List Int} {n : Nat} {t : Tr} (S : ScanAt K C H p ds n t) (e : ExtN H H') : ScanAt K C H' p ds n t := by
  obtain ⟨⟨dx, a, v, h1, h2, h3⟩, r1, r2, r3, r4, r5, r6, r7⟩ := S
  exact ⟨⟨dx, a, v, e _ _ h1 (fun ps z => by cases z), ExtN.tups e _ _ h2, TrAt.mono (ExtN.tups e) h3⟩, r1, r2, r3, r4, r5, r6, r7⟩
theorem Tabs.but {T : List (Addr × Str)} {H H' : Hp} {b l : Addr} (t : Tabs T H) (B : BagAt H b l) (e : But b H H') : Tabs T H' := fun p hp => by
  obtain ⟨ps, h1, h2, h3⟩ := t p hp
  obtain ⟨ys, hb⟩ := B.lst
  refine ⟨ps, e _ _ (ne_of h1 hb (by intro z; cases z)) h1, h2, fun pos cv hc => ?_⟩
  obtain ⟨c, e1, e2⟩ := h3 pos cv hc
  exact ⟨c, e1, e _ _ (ne_of e2 hb (by intro z; unfold CodeO at z; cases z)) e2⟩
/-! ### rules of the law's own -/
theorem pe_dead {X : Cx} {e : Expr} {te : TE} {f : Str} {pos : Pos} (he : PE X e te) (hab : attributeBase e f X.env (eval e X.env) = eval e X.env := by rfl) : PE X (.Attribute e f pos) (fun σ H _ => te σ H fun _ _ => False) := by
  refine ⟨fun pins s σ H Q I h => attr_of hab (thn (he.run pins s σ H _ I h) fun u s1 hh => ?_)⟩
  obtain ⟨x, H1, I1, rx, z⟩ := hh
  exact z.elim
def two {α : Type} : List α → List α → List α
  | [u], [w] => [u, w]
  | _, _ => []
theorem two_rel {vs zs : List V} {us ws : List Value} (r1 : Vals vs us) (r2 : Vals zs ws) : Vals (two vs zs) (two us ws) := by
  match r1, r2 with
  | .nil, _ => exact .nil
  | .cons a .nil, .nil => exact .nil
  | .cons a .nil, .cons b .nil => exact .cons a (.cons b .nil)
  | .cons a .nil, .cons b (.cons c r) => exact .nil
  | .cons a (.cons b r), _ => exact .nil
theorem dd_bools {K : PySem.W.Frag} {H : Hp} {a b : Addr} {bs : List Bool} (ha : SqL K H a (bs.map V.bl)) (hb : SqL K H b (bs.map V.bl)) (hl : bs.length ≤ 1000) : DD K H 1 (.ref a) (.ref b) := by
  refine .inr ⟨a, b, _, _, rfl, rfl, .inr ⟨ha, hb⟩, rfl, by rw [List.length_map]; exact hl, fun i x y f1 f2 => ?_⟩
  rw [f1] at f2
  cases f2
  obtain ⟨z, _, rfl⟩ := map_get f1
  exact ⟨rfl, rfl⟩
theorem dd_up3 {K : PySem.W.Frag} {H : Hp} {u v : V} (h : DD K H 1 u v) : DD K H 3 u v := h.up.up
theorem dd_sc {K : PySem.W.Frag} {H : Hp} {u : V} (h : scal u = true) : DD K H 3 u u := .inl ⟨h, rfl⟩
abbrev lamQ : Str := (PyProof.Rows.envOfC "law" (defScope sLaw) 0 0 .none).qual ++ "<lambda>"
def spLaw (K : PySem.W.Frag) (Pt : Addr) : Sp := fun vs H Q _ => ∃ (a : Addr) (ns : List Int), vs = [.ref a] ∧ SqL K H a (ns.map V.int) ∧ H Pt = some (.tbl #[]) ∧ ∀ H', Q (.bl true) H'
theorem callo {X : Cx} {K : PySem.W.Frag} {C x c d : Addr} {H : Hp} {ds : List Int} {n : Nat} {t : Tr} {xs ys : List Int} {Q : VK} {E : XK} (S : ScanAt K C H x ds n t) (hc : SqT K H c (xs.map V.int)) (hd : SqT K H d (ys.map V.int)) (h1 : xs.length = ds.length) (h2 : ys.length = ds.length)
    (h : ∀ H', Same H H' → Q (.bl (HT.lexLt (full ds t xs) (full ds t ys))) H') : StX.InsC X H x C ∧ spCall K C ([.ref x, .ref c, .ref d] ++ []) H Q E := by
  obtain ⟨⟨dx, a, v, g1, g2, g3⟩, _⟩ := id S
  exact ⟨.inr ⟨dx, _, g1⟩, x, c, d, ds, n, t, xs, ys, rfl, S, hc, hd, h1, h2, h⟩
/-- what the top has written of _law_try -/
structure TryT (K : PySem.W.Frag) (mg : Str → Option Value) (g : Addr) : Prop where
  at_ : mg "_law_try" = some (.ref g)
  kp : PySem.W.keepIn K (.ref g) = true
  lk : ∃ oc od kV doc pm an cdv ct osl, K.lookup g = some ⟨oc, od, .func (PySem.W.fnOf "_law_try" "_law_try" (defArgs sTry) (defBody sTry) (defScope sTry) .none kV doc pm an cdv ct), osl⟩ ∧ PySem.W.codeIn K cdv "_law_try" = true
/-- _law_try(lambda: body) in the law -/
theorem pe_tried {X : Cx} {g fF CS c Pt : Addr} {k : Nat} {params : Arguments} {body : Expr} {scope : Scope} {t : XK → TE} {p lpos pos : Pos} (R : TryT X.K X.mg g) (FT : FieldT X.K X.mg fF) (hS : X.mg "ScanError" = some (.ref CS)) (hg : Gl X "_law_try")
    (TB : TabB X.base X.mg c Pt) (hcode : X.env.code = .ref c) (hr : Room (k + 2) X.A) (hr2 : Room 2 X.A) (L : LamS X.env.scope scope) (hdef : defaultsOf params X.env = ([], []))
    (hbind : ∀ (q : Str) (cl : List (Str × Addr)) (pm cv ctv : Value), bindArgs (PySem.W.kla_fn "<lambda>" q params body scope cl pm cv ctv) ⟨[], []⟩ = pure [])
    (hbody : ∀ (A : Around) (outer : List Env) (s : Shared) (H : Hp) (E : XK) (f c' : Addr), Room k (A.deeper (lamEnv X scope s.heap.objs.size f c')) → PE (lamCx X A outer s H E scope f c') body (t E)) :
    PE X (.Call (.Name "_law_try" p) [.Lambda params body scope lpos] [] pos) (tLam [(Pt, X.env.qual ++ "<lambda>")] (TTry X.K CS) t) := by
  obtain ⟨oc, od, kV, doc, pm, an, cdv, ct, osl, lk, hcd⟩ := R.lk
  refine pe_lamcall (Ng := ["_law_ask", "_law_e"]) (a := "_law_ask") (k := k) hg R.at_ R.kp lk hcd ?_ scTry rfl (.inl rfl) (try_gives (k := 0) FT hS fun s => hr2.deeper _) TB hcode (List.mem_singleton.mpr rfl) (fun p hp _ => by rw [List.mem_singleton.mp hp]) hr L hdef hbind hbody
  exact Binds.all fun us hl => match us, hl with | [_], _ => rfl
end Lk

namespace Lx
open PySem L2 PySem.Spec PyProof.Rows LamX Lk
/-! ### [elt for x in iter], elt read where the state of the def is known -/
section
variable {X : Cx}
/-- one block: its loop, from the state s in which it is entered -/
theorem blk_loop {elt tg iter : Expr} {scope : Scope} {own : List (Str × Nat)} {pos : Pos} {g : TG} {te : TE} {pins : List (Addr × Obj)} {σ : L2.St} {H : Hp} {s : Shared} {Q : VK} {J : It} {fp : List Addr} {it D : Addr} {tn : Nat → Heap → Prop} {R : Result → Shared → Prop}
    (quiet : X.calm = true) (nd : X.N.Nodup) (I : Inv X pins σ H s) (ok : BlkOk X.N X.env.scope scope own) (T : Turn X.prog X.w X.K tg J fp it tn) (t0 : tn 0 s.heap) (fpo : ∀ b ∈ fp, FpOk X pins H b ∧ b < s.heap.objs.size) {ce : Env}
    (hce : ce = compEnvC scope (cellsFrom (s.heap.objs.size + 1) scope.names (cloFrom X.env.cells scope.names [])) s.heap.objs.size X.env)
    (aim : PG (X.blk s H scope ce fp) tg g) (each : PE (X.blk s H scope ce fp) elt te)
    (W : Nat → Nat → Hp → Prop) {m0 : Nat} (w0 : W 0 m0 H)
    (turn : ∀ i m H, W i m H → (J.stop i H ∧ Q (.ref D) H) ∨ (J.go i H ∧ ∃ Nx : Hp → Prop, (∀ H', Nx H' → ∃ m', m' < m ∧ W (i + 1) m' H') ∧ ∀ x H', J.yld i H x H' → g x (wipe σ (own.map (·.2))) H' fun σ2 H2 => wipe σ2 (own.map (·.2)) = wipe σ (own.map (·.2)) ∧
      te σ2 H2 fun y H4 => ∃ acc, H4 D = some (.lst acc) ∧ acc.length < sizeLine ∧ Nx (upd H4 D (.lst (acc ++ [y])))))
    (out : ∀ s' m H', Inv X pins σ H' s' → Q (.ref D) H' → s'.heap.Ns s.heap.objs.size m → FpOk X pins H' s.heap.objs.size → R (.ok .next) s') {s4 : Shared} (h4 : s4 = { s with heap := pushCells (s.heap.push { cls := .type "dict", data := .dict #[] }) scope.names }) :
    codeAny (model X.prog X.w) X.A (.compLoop (.ListComp elt [⟨tg, iter, [], 0⟩] scope pos) 0 (.ref it) (.ref D) ce) R s4 := by
  have start := block_start I ok nd fpo
  rw [← hce, ← h4] at start
  have t4 : tn 0 s4.heap := by
    rw [h4]
    exact T.keep _ _ _ t0 fun b _ o e => pushCells_keeps _ _ _ _ (Heap.get?_push_of_some _ e)
  have loc : ce.locals = s.heap.objs.size := by rw [hce]; rfl
  have held : ∀ {σ' : L2.St} {H' : Hp} {s' : Shared}, Inv (X.blk s H scope ce fp) [] σ' H' s' → (∀ b ∈ fp, H' b = none) → ∀ b ∈ fp, FpOk (X.blk s H scope ce fp) [] H' b := fun {σ' H' s'} B hn b hb => by
    have z := B.ok.exf b hb
    exact ⟨hn b hb, z.1, B.ok.exfs b hb, .inl hb, z.2, fun p hp => by cases hp⟩
  refine compLoop_any (fun n u => ∃ i G, Inv (X.blk s H scope ce fp) [] (wipe σ (own.map (·.2))) G u ∧ tn i u.heap ∧ (∀ b ∈ fp, G b = none) ∧ W i n G) ?_ m0 ⟨0, H, start, t4, fun b hb => (fpo b hb).1.1, w0⟩
  intro n u hu
  obtain ⟨i, G, B, tu, nf, wi⟩ := hu
  rcases turn i n G wi with ⟨hstop, hq⟩ | ⟨hgo, Nx, down, step⟩
  · refine thnF (T.done (X.blk s H scope ce fp) rfl rfl rfl quiet i [] u _ G (fun _ _ => False) B (held B nf) tu hstop) fun r v hv => ?_
    obtain ⟨rfl, B2⟩ := hv
    have back : Inv X pins σ G v := by
      refine I.call' (ch := fp) B2.os B2.base B2.hok B2.bare fun b hb => ?_
      obtain ⟨_, f1, _, f3, f4, f5⟩ := (fpo b hb).1
      exact ⟨f3, f1, f4, f5⟩
    have free : G s.heap.objs.size = none := loc ▸ B2.free
    obtain ⟨m, hm, _⟩ := B2.loc
    exact out v m G back hq (loc ▸ hm) (I.fpOk (Nat.le_refl _) free)
  · refine thnF (T.item (X.blk s H scope ce fp) rfl rfl rfl quiet i [] u _ G (fun _ _ => False) B (held B nf) tu hgo) fun r v hv => ?_
    obtain ⟨y, rfl, hy⟩ := hv
    refine thnF hy fun _ v2 hv2 => ?_
    obtain ⟨x, G2, B2, rx, yl, t2, n2⟩ := hv2
    refine thnF (aim.run _ v2 _ G2 x y _ (B2.pinned (held B2 n2) (T.obj _ _ t2)) rx (step x G2 yl)) fun _ v3 hv3 => ?_
    obtain ⟨σ3, G3, B3, same, q3⟩ := hv3
    refine wpAny_tests_nil ?_
    rw [if_pos rfl]
    refine thnF (each.run _ v3 σ3 G3 _ B3 q3) fun z v4 hv4 => ?_
    obtain ⟨zv, G4, B4, rz, acc, hD, hz, nx⟩ := hv4
    refine app_ok (X := X.blk s H scope ce fp) B4 hD hz rz fun v5 B5 => ?_
    obtain ⟨m', lt, w'⟩ := down _ nx
    have pin : ∀ b ∈ fp, ∀ o, v2.heap.get? b = some o → v5.heap.get? b = some o ∧ upd G4 D (.lst (acc ++ [zv])) b = none := fun b hb o e => by
      have z := B5.pin (b, o) (List.mem_append_right _ (List.mem_append_right _ (mem_pinsAt hb e)))
      exact ⟨z.1, z.2.1⟩
    refine ⟨m', lt, i + 1, _, (B5.unpinned (pins := [])).weak (by rw [← same, wipe_length]) fun j c e => ?_, T.keep _ _ _ t2 fun b hb o e => (pin b hb o e).1, fun b hb => ?_, w'⟩
    · rw [← same] at e
      exact (wipe_some e).1
    · obtain ⟨o, e, _⟩ := T.obj _ _ t2 b hb
      exact (pin b hb o e).2
def tLcI (wi : TI) (g : TG) (te : L2.St → TE) (vs : List Nat) : TE := fun σ H Q => wi σ H fun J H1 => ∀ D, H1 D = none → ∃ W : Nat → Nat → Hp → Prop, (∃ m, W 0 m (upd H1 D (.lst []))) ∧ ∀ i m H, W i m H →
  (J.stop i H ∧ Q (.ref D) H) ∨ (J.go i H ∧ ∃ Nx : Hp → Prop, (∀ H', Nx H' → ∃ m', m' < m ∧ W (i + 1) m' H') ∧ ∀ x H', J.yld i H x H' → g x (wipe σ vs) H' fun σ2 H2 => wipe σ2 vs = wipe σ vs ∧
    te σ σ2 H2 fun y H4 => ∃ acc, H4 D = some (.lst acc) ∧ acc.length < sizeLine ∧ Nx (upd H4 D (.lst (acc ++ [y]))))
theorem pe_lcI {elt tg iter : Expr} {scope : Scope} {own : List (Str × Nat)} {pos : Pos} {wi : TI} {g : TG} {te : L2.St → TE} (quiet : X.calm = true) (nd : X.N.Nodup) (walk : PI X tg iter wi) (ok : BlkOk X.N X.env.scope scope own)
    (aim : ∀ (s : Shared) (H : Hp) (C : Addr) (cl : List (Str × Addr)) (fp : List Addr), PG (X.blk s H scope (compEnvC scope cl C X.env) fp) tg g)
    (each : ∀ (pins : List (Addr × Obj)) (σ : L2.St) (s : Shared) (H : Hp) (C : Addr) (cl : List (Str × Addr)) (fp : List Addr), Inv X pins σ H s → (∀ b ∈ fp, FpOk X pins H b) → PE (X.blk s H scope (compEnvC scope cl C X.env) fp) elt (te σ))
    (fs : ∀ x, foldedSetIterable iter X.env x = pure x := by intro _; rfl) : PE X (.ListComp elt [⟨tg, iter, [], 0⟩] scope pos) (tLcI wi g te (own.map (·.2))) := by
  refine ⟨fun pins s σ H Q I h => ?_⟩
  rw [eval_ListComp]
  have caught : ∀ y ∈ scope.names, y.2 = .free → ∃ c, X.env.cells.lookup y.1 = some c := fun y hy e => (ok.free y hy e).elim (fun z => I.ok.has _ (.inl z)) fun z => I.ok.has _ (.inr z)
  refine wpAny_comprehension_free rfl fs (closure_ok caught) ok.kind (fun y hy e => by rw [ok.uniq y hy, e]) ?_
  refine thn (walk.run pins s σ H _ I h) fun v1 s1 h1 => thn h1 fun v2 s2 h2 => ?_
  obtain ⟨it, fp, tn, J, H2, rfl, I2, T, t2, f2, q⟩ := h2
  refine wpAny_newObj_type (newEnv_comp ?_) (by show 0 ≤ sizeLine; decide)
  obtain ⟨W, ⟨m0, w0⟩, turn⟩ := q _ (I2.hok.fresh (Nat.le_refl _))
  have I3 := I2.laid (a := s2.heap.objs.size) (o := .lst []) (h' := s2.heap.push { cls := .type "list", data := .seq ([] : List Value).toArray }) (t' := s2.toks) (fun b o e => Heap.get?_push_of_some _ e) (Nat.le_refl _) ⟨Nat.zero_le _, [], 0, .nil, Heap.get?_push_size _ rfl⟩
  have t3 : tn 0 (s2.heap.push { cls := .type "list", data := .seq ([] : List Value).toArray }) := T.keep _ _ _ t2 fun b _ o e => Heap.get?_push_of_some _ e
  have f3 : ∀ b ∈ fp, FpOk X pins (upd H2 s2.heap.objs.size (.lst [])) b ∧ b < (s2.heap.push { cls := .type "list", data := .seq ([] : List Value).toArray }).objs.size := fun b hb => by
    obtain ⟨o, e, _⟩ := T.obj _ _ t2 b hb
    have lt := Heap.lt_size e
    refine ⟨⟨?_, (f2 b hb).2⟩, by rw [Heap.size_push]; exact Nat.lt_succ_of_lt lt⟩
    rw [upd_ne (Nat.ne_of_lt lt)]
    exact (f2 b hb).1
  have go := blk_loop (iter := iter) (pos := pos) (R := compPost (model X.prog X.w) X.A X.xe none (EP X pins σ Q) (.ref s2.heap.objs.size) (s2.heap.push { cls := .type "list", data := .seq ([] : List Value).toArray }).objs.size) quiet nd I3 ok T t3 f3 rfl (aim _ _ _ _ _) (each _ _ _ _ _ _ _ I3 fun b hb => (f3 b hb).1) W w0 turn (fun s' m H' J' q' hm f => by
    refine ⟨m, hm, fun h'' sb => ?_⟩
    obtain ⟨f0, f1, f2, f3, f4, f5⟩ := f
    exact ⟨.ref _, H', J'.turned (t' := s'.toks) (fun b o hb e => (sb.2 b hb).trans e) f0 f1 f3 f4 f5, rfl, q'⟩) rfl
  exact codeAny_compStart_list go (T.self X.A 0 _ _ _ (T.keep _ _ _ t3 fun b _ o e => pushCells_keeps _ _ _ _ (Heap.get?_push_of_some _ e)) go)
end
end Lx

namespace Lx
open PySem L2 PySem.Spec PyProof.Rows LamX Lk
/-! ### lambdas that are kept in lists and called later -/
/-- a lambda without parameters, or with one that has a default -/
structure Lm where
  params : Arguments
  body : Expr
  scope : Scope
  dflt : Option Str
  t : XK → TE
/-- the cells of the def's frame hold what its slots say -/
structure CellsAt (X : Cx) (σ : L2.St) (H : Hp) (h : Heap) : Prop where
  inj : ∀ x y c, X.env.cells.lookup x = some c → X.env.cells.lookup y = some c → x = y
  has : ∀ x, (X.env.kindOf x = some .cell ∨ X.env.kindOf x = some .free) → ∃ c, X.env.cells.lookup x = some c
  len : σ.length = X.N.length
  val : ∀ (i : Nat) (x : Str) (v : V) (c : Addr), X.N[i]? = some x → σ[i]? = some (some v) → (X.env.scope.names.lookup x = some .cell ∨ X.env.scope.names.lookup x = some .free) → X.env.cells.lookup x = some c → ∃ u, RelV v u ∧ h.IsCell c (some u)
  any : ∀ x c, X.env.cells.lookup x = some c → ∃ v, h.IsCell c v
  out : ∀ x c, X.env.cells.lookup x = some c → H c = none
theorem CellsAt.of {X : Cx} {pins : List (Addr × Obj)} {σ : L2.St} {H : Hp} {s : Shared} (I : Inv X pins σ H s) : CellsAt X σ H s.heap := by
  refine ⟨I.ok.inj, I.ok.has, I.len, fun i x v c e1 e2 hk hc => ?_, I.cell, I.freeC⟩
  obtain ⟨m, _, hl⟩ := I.loc
  obtain ⟨u, r, q⟩ := hl i x v e1 e2 (hk.elim (fun z => .inr (.inl z)) fun z => .inr (.inr z))
  refine ⟨u, r, ?_⟩
  rcases q with ⟨k, _⟩ | ⟨_, c', e, z⟩
  · have k : X.env.scope.names.lookup x = some .local := k
    rcases hk with hk | hk <;> rw [hk] at k <;> cases k
  · rw [hc] at e
    cases e
    exact z
theorem CellsAt.un {X : Cx} {σ : L2.St} {H H' : Hp} {h h' : Heap} {fs ch : List Addr} (a : CellsAt X σ H h) (u : Un fs ch H H' h h') (hn : ∀ x c, X.env.cells.lookup x = some c → c ∉ ch) : CellsAt X σ H' h' := by
  have mv : ∀ {x : Str} {c : Addr} {v : Option Value}, X.env.cells.lookup x = some c → h.IsCell c v → h'.IsCell c v := fun {x c v} e hc => by
    obtain ⟨o, ho, hd⟩ := hc
    obtain ⟨sl, q⟩ := u.any ho (a.out _ _ e) (hn _ _ e)
    exact ⟨_, q, hd⟩
  refine ⟨a.inj, a.has, a.len, fun i x v c e1 e2 hk hc => ?_, fun x c e => ?_, fun x c e => ?_⟩
  · obtain ⟨w, r, z⟩ := a.val i x v c e1 e2 hk hc
    exact ⟨w, r, mv hc z⟩
  · obtain ⟨v, z⟩ := a.any x c e
    exact ⟨v, mv e z⟩
  · obtain ⟨v, o, ho, _⟩ := a.any x c e
    exact u.free _ _ ho (a.out _ _ e) (hn _ _ e)
/-- the lambda's names: captured ones, globals, and perhaps the one with the default -/
structure LmS (N : List Str) (sc scope : Scope) (d : Option Str) : Prop where
  kind : scope.kind = .function
  co : scope.isCoroutine = false
  gen : scope.isGenerator = false
  own : ∀ y ∈ scope.names, (y.2 = .local → y.1 ∉ N) ∧ y.2 ≠ .cell
  free : ∀ y ∈ scope.names, y.2 = .free → sc.names.lookup y.1 = some .cell ∨ sc.names.lookup y.1 = some .free
  loc : ∀ a, d = some a → scope.names.lookup a = some .local
def lmSB (N : List Str) (sc scope : Scope) (d : Option Str) : Bool :=
  (decide (scope.kind = .function) && !scope.isCoroutine && !scope.isGenerator) && ((scope.names.all fun y => (!decide (y.2 = .local) || !N.contains y.1) && (!decide (y.2 = .cell) && (!decide (y.2 = .free) || (decide (sc.names.lookup y.1 = some .cell) || decide (sc.names.lookup y.1 = some .free))))) &&
    match d with | none => true | some a => decide (scope.names.lookup a = some .local))
theorem lmS_by {N : List Str} {sc scope : Scope} {d : Option Str} (h : lmSB N sc scope d = true) : LmS N sc scope d := by
  unfold lmSB at h
  obtain ⟨h, h'⟩ := Bool.and_eq_true_iff.mp h
  obtain ⟨h4, h5⟩ := Bool.and_eq_true_iff.mp h'
  simp only [Bool.and_eq_true, Bool.or_eq_true, Bool.not_eq_true', decide_eq_true_eq, decide_eq_false_iff_not, List.all_eq_true] at h h4
  obtain ⟨⟨h1, h2⟩, h3⟩ := h
  refine ⟨h1, h2, h3, fun y hy => ⟨fun e hn => ?_, (h4 y hy).2.1⟩, fun y hy e => ?_, fun a e => ?_⟩
  · rcases (h4 y hy).1 with z | z
    · exact z e
    · rw [List.contains_iff_mem.mpr hn] at z
      cases z
  · rcases (h4 y hy).2.2 with z | z
    · exact absurd e z
    · exact z
  · subst e
    exact of_decide_eq_true h5
/-- the function object at f -/
def LamO (f : Addr) (fd : FuncData) : HO := .ext fun h => h.get? f = some { cls := .type "function", data := .func fd }
/-- fd is the lambda m, made in X -/
def LamIs (X : Cx) (m : Lm) (fd : FuncData) (c' : Addr) : Prop := ∃ dV doc pm ct, fd = PySem.W.kdv_fn "<lambda>" (X.env.qual ++ "<lambda>") m.params (.expr m.body) m.scope (cloFrom X.env.cells m.scope.names []) dV doc pm (.ref c') ct ∧ (m.dflt = none → dV = .none)
/-- its default, if it has one -/
def Dfl (H : Hp) (m : Lm) (fd : FuncData) : Prop := m.dflt = none ∨ ∃ dt n, fd.defaults = .ref dt ∧ H dt = some (.tup [.int n])
theorem Dfl.ext {H H' : Hp} {m : Lm} {fd : FuncData} (d : Dfl H m fd) (e : ∀ a xs, H a = some (.tup xs) → H' a = some (.tup xs)) : Dfl H' m fd := d.imp_right fun ⟨dt, n, h1, h2⟩ => ⟨dt, n, h1, e _ _ h2⟩
/-- what binding no argument gives -/
structure LmB (m : Lm) : Prop where
  none_ : m.dflt = none → ∀ (q : Str) (cl : List (Str × Addr)) (doc pm cd ct : Value), bindArgs (PySem.W.kdv_fn "<lambda>" q m.params (.expr m.body) m.scope cl .none doc pm cd ct) ⟨[], []⟩ = pure []
  some_ : ∀ a, m.dflt = some a → ∀ (q : Str) (cl : List (Str × Addr)) (dV doc pm cd ct : Value), ∃ k, bindArgs (PySem.W.kdv_fn "<lambda>" q m.params (.expr m.body) m.scope cl dV doc pm cd ct) ⟨[], []⟩ = seqItems? dV >>= k ∧ ∀ v, k (some #[v]) = pure [(a, v)]
section
variable {X : Cx} {pins : List (Addr × Obj)} {σ : L2.St} {H : Hp} {s : Shared}
/-- the function object is made: the code object is new, or found in the table -/
theorem lam_tail {T : List (Addr × Str)} {c P : Addr} {m : Lm} {pos : Pos} {line : Nat} {dV : Value} {E : Value → Shared → Prop} {Q : Value → Shared → Prop} (I : Inv X pins σ H s) (TB : TabB X.base X.mg c P) (code : X.env.code = .ref c)
    (inT : (P, X.env.qual ++ "<lambda>") ∈ T) (onlyT : ∀ p ∈ T, p.1 = P → p.2 = X.env.qual ++ "<lambda>") (tabs : Tabs T H) (caught : ∀ y ∈ m.scope.names, y.2 = .free → ∃ c, X.env.cells.lookup y.1 = some c) (hd : m.dflt = none → dV = .none)
    (h : ∀ (f c' : Addr) (fd : FuncData) (H1 : Hp) (s' : Shared), Inv X pins σ (upd H1 f (LamO f fd)) s' → ExtN H H1 → Tabs T H1 → H1 f = none → H1 c' = some (CodeO c' (X.env.qual ++ "<lambda>")) → LamIs X m fd c' → fd.defaults = dV → Q (.ref f) s') :
    wpAny (model X.prog X.w) X.A (makeTail "<lambda>" (X.env.qual ++ "<lambda>") m.params (.expr m.body) m.scope X.env dV .none none pos line) Q E s := by
  obtain ⟨ps, atP, tri, known⟩ := tabs _ inT
  have bl : s.heap.BuiltinsAt X.mg P := TB.bm.keeps I.bk
  have atP' : s.heap.get? P = some { cls := .none, data := .fields ps } := I.hok P _ atP
  cases hc : codeAmong pos ps.toList with
  | some cv =>
    obtain ⟨c', rfl, hco⟩ := known pos cv hc
    refine PySem.W.kdv_makeTailHit (mg := X.mg) (c := c) (P := P) (ps := ps) (closure_ok caught) I.ok.glob (I.mod.glob.keeps I.bk) code (TB.code.keeps I.bk) atP' tri hc bl fun ct doc h' tk grown size => ?_
    have I1 : Inv X pins σ H { s with heap := h', toks := tk } := I.kept grown
    exact h _ c' _ H _ (I1.laid (t' := tk) (o := LamO h'.objs.size _) (fun b u e => Heap.get?_push_of_some _ e) (Nat.le_refl _) ⟨Heap.get?_push_size _ rfl, ⟨_, Heap.get?_push_size _ rfl⟩, fun h1 h2 p st => st _ p⟩) (ExtN.refl H) tabs (I1.hok.fresh (Nat.le_refl _)) hco ⟨dV, doc, _, ct, rfl, hd⟩ rfl
  | none =>
    refine PySem.W.kdv_makeTail (mg := X.mg) (c := c) (P := P) (ps := ps) (closure_ok caught) I.ok.glob (I.mod.glob.keeps I.bk) code (TB.code.keeps I.bk) atP' tri hc TB.gP bl fun c' ct doc h' tk but ge lt rec_ tab => ?_
    obtain ⟨c2, oc, vs, t, e2, hoc, hdat, hv⟩ := rec_
    cases e2
    have newC : H c' = none := I.hok.fresh ge
    have I1 := inv_table (t' := tk) (more := #[rawInt pos.line, rawInt pos.col, .ref c']) I atP (fun b o hb e => but b o hb e) tab ge ⟨oc, vs, t, hoc, hdat, hv⟩
    have up : ExtN H (upd (upd H P (.tbl (ps ++ #[rawInt pos.line, rawInt pos.col, .ref c']))) c' (CodeO c' (X.env.qual ++ "<lambda>"))) := fun b o e n => by
      have n1 : b ≠ c' := ne_of_none e newC
      have n2 : b ≠ P := fun z => by
        rw [z, atP] at e
        exact n ps (Option.some.inj e).symm
      rw [upd_ne n1, upd_ne n2]
      exact e
    refine h _ c' _ _ _ (I1.laid (t' := tk) (o := LamO h'.objs.size _) (fun b u e => Heap.get?_push_of_some _ e) (Nat.le_refl _) ⟨Heap.get?_push_size _ rfl, ⟨_, Heap.get?_push_size _ rfl⟩, fun h1 h2 p st => st _ p⟩) up (fun p hp => ?_) (I1.hok.fresh (Nat.le_refl _)) upd_same ⟨dV, doc, _, ct, rfl, hd⟩ rfl
    have toL : (ps ++ #[rawInt pos.line, rawInt pos.col, .ref c']).toList = ps.toList ++ [rawInt pos.line, rawInt pos.col, .ref c'] := by simp
    by_cases hb : p.1 = P
    · rw [onlyT p hp hb, hb]
      refine ⟨_, by rw [upd_ne (ne_of_none atP newC), upd_same], by rw [toL]; exact PySem.TriplesOk_snoc _ _ _ _ tri, fun pp cv hcv => ?_⟩
      rw [toL] at hcv
      rcases among_app _ tri hcv with z | z
      · obtain ⟨c0, e1, e2⟩ := known pp cv z
        exact ⟨c0, e1, up _ _ e2 codeO_ne⟩
      · exact ⟨c', z, upd_same⟩
    · obtain ⟨qs, a1, a2, a3⟩ := tabs p hp
      refine ⟨qs, by rw [upd_ne (ne_of_none a1 newC), upd_ne hb]; exact a1, a2, fun pp cv hcv => ?_⟩
      obtain ⟨c0, e1, e2⟩ := a3 pp cv hcv
      exact ⟨c0, e1, up _ _ e2 codeO_ne⟩
end
end Lx

namespace Lx
open PySem L2 PySem.Spec PyProof.Rows LamX Lk
section
variable {X : Cx}
/-- a lambda as a value -/
def tLamV (X : Cx) (T : List (Addr × Str)) (m : Lm) : TE := fun σ H Q => Tabs T H ∧ ∀ (f c' : Addr) (fd : FuncData) (H1 : Hp), ExtN H H1 → Tabs T H1 → H1 f = none → H1 c' = some (CodeO c' (X.env.qual ++ "<lambda>")) → LamIs X m fd c' → Dfl H1 m fd → Q (.ref f) (upd H1 f (LamO f fd))
theorem LmS.caught {N : List Str} {scope : Scope} {d : Option Str} (L : LmS N X.env.scope scope d) (ok : X.Ok) : ∀ y ∈ scope.names, y.2 = .free → ∃ c, X.env.cells.lookup y.1 = some c := fun y hy e => (L.free y hy e).elim (fun z => ok.has _ (.inl z)) fun z => ok.has _ (.inr z)
theorem pe_lamV {T : List (Addr × Str)} {c P : Addr} {m : Lm} {pos : Pos} (TB : TabB X.base X.mg c P) (code : X.env.code = .ref c) (inT : (P, X.env.qual ++ "<lambda>") ∈ T) (onlyT : ∀ p ∈ T, p.1 = P → p.2 = X.env.qual ++ "<lambda>") (L : LmS X.N X.env.scope m.scope m.dflt)
    (hd : defaultsOf m.params X.env = ([], [])) (hn : m.dflt = none) : PE X (.Lambda m.params m.body m.scope pos) (tLamV X T m) := by
  refine ⟨fun pins s σ H Q I h => ?_⟩
  obtain ⟨tabs, h⟩ := h
  refine PySem.W.kla_eval hd ?_
  rw [makeFunction_eq]
  simp only [List.zip_nil_right, List.filterMap_nil, List.isEmpty_nil, if_true, pure_bind]
  exact lam_tail (m := m) I TB code inT onlyT tabs (L.caught I.ok) (fun _ => rfl) fun f c' fd H1 s' I1 up t1 n1 hc li _ => ⟨.ref f, _, I1, rfl, h f c' fd H1 up t1 n1 hc li (.inl hn)⟩
theorem pe_lamD {T : List (Addr × Str)} {c P : Addr} {m : Lm} {pos p0 : Pos} {n : Int} {kk : Nat} (TB : TabB X.base X.mg c P) (code : X.env.code = .ref c) (inT : (P, X.env.qual ++ "<lambda>") ∈ T) (onlyT : ∀ p ∈ T, p.1 = P → p.2 = X.env.qual ++ "<lambda>") (L : LmS X.N X.env.scope m.scope m.dflt)
    (hd : defaultsOf m.params X.env = ([eval (.Constant (.int n) kk p0) X.env], [])) (hs : m.dflt ≠ none) : PE X (.Lambda m.params m.body m.scope pos) (tLamV X T m) := by
  refine ⟨fun pins s σ H Q I h => ?_⟩
  obtain ⟨tabs, h⟩ := h
  rw [arm_eval_Lambda, hd]
  show wpAny _ _ (do let dv ← evalAll [eval (.Constant (.int n) kk p0) X.env]; let kdv ← holding dv (evalAllOpt []); makeFunction "<lambda>" (X.env.qual ++ "<lambda>") m.params (.expr m.body) m.scope X.env dv kdv [] pos pos.line) _ _ s
  refine wpAny_bind (wpAny_bind (thn ((pe_int (X := X) (i := n) (j := kk) (pos := p0)).run pins s σ H (fun v H1 => v = .int n ∧ H1 = H) I ⟨rfl, rfl⟩) fun u s1 h1 => ?_))
  obtain ⟨v, H1, I1, r, rfl, rfl⟩ := h1
  obtain ⟨t, rfl⟩ : ∃ t, u = Value.int n t := r
  refine wpAny_bind (wpAny_holding (wpAny_pure (wpAny_pure (wpAny_bind (wpAny_holding (wpAny_pure ?_))))))
  rw [makeFunction_eq]
  simp only [List.zip_nil_right, List.filterMap_nil, List.isEmpty_nil, if_true, pure_bind, List.isEmpty_cons, Bool.false_eq_true, if_false]
  refine wpAny_bind (wpAny_newTextTuple ?_)
  have fr : H1 s1.heap.objs.size = none := I1.hok.fresh (Nat.le_refl _)
  have I2 := I1.laid (a := s1.heap.objs.size) (o := .tup [.int n]) (h' := s1.heap.push { cls := .type "tuple", data := .seq [Value.int n t].toArray }) (t' := s1.toks) (fun b u e => Heap.get?_push_of_some _ e) (Nat.le_refl _) ⟨(by show 1 ≤ sizeLine; decide), [Value.int n t], .cons ⟨t, rfl⟩ .nil, IsTup.new _ _⟩
  have up0 : ExtN H1 (upd H1 s1.heap.objs.size (.tup [.int n])) := fun b o e _ => by
    rw [upd_ne (ne_of_none e fr)]
    exact e
  refine lam_tail (m := m) I2 TB code inT onlyT (tabs.ext fun b o e => by rw [upd_ne (ne_of_none e fr)]; exact e) (L.caught I.ok) (fun z => absurd z hs) fun f c' fd H2 s' I3 up t1 n1 hc li hdV => ⟨.ref f, _, I3, rfl, h f c' fd H2 (up0.trans up) t1 n1 hc li (.inr ⟨_, n, hdV, up _ _ upd_same (fun ps z => by cases z)⟩)⟩
/-- the lambda's body is entered -/
theorem lam_enter {A : Around} {outer : List Env} {E : XK} {m : Lm} {f c' : Addr} {h1 : Heap} {tk : Nat} {σ : L2.St} {G : Hp} {s1 : Shared} {binds : List (Str × Value)} (C : CellsAt X σ G s1.heap) (L : LmS X.N X.env.scope m.scope m.dflt) (e0 : Env0 X.prog X.w X.K X.mg X.base A outer s1 G) (hd : A.handled = none)
    (ns : h1.Ns s1.heap.objs.size fun y => binds.reverse.lookup y) (kp : ∀ b o, s1.heap.get? b = some o → h1.get? b = some o) :
    Inv (lamCx X A outer s1 G E m.scope f c') [] σ G { s1 with heap := h1, toks := tk } := by
  have back : ∀ {y c}, (cloFrom X.env.cells m.scope.names []).lookup y = some c → (m.scope.names.lookup y = some .free ∨ True) ∧ X.env.cells.lookup y = some c := fun {y c} e => by
    refine ⟨.inr trivial, ?_⟩
    rcases cloFrom_mem (PySem.mem_of_lookup e) with z | ⟨z1, z2⟩
    · cases z
    · obtain ⟨c1, hc⟩ := (L.free _ z1 rfl).elim (fun z => C.has _ (.inl z)) fun z => C.has _ (.inr z)
      have hc : X.env.cells.lookup y = some c1 := hc
      rw [show c = c1 by rw [z2, hc] <;> rfl]
      exact hc
  have forth : ∀ {y}, m.scope.names.lookup y = some .free → ∃ c, (cloFrom X.env.cells m.scope.names []).lookup y = some c := fun {y} hl => mem_lookup (cloFrom_has (cells := X.env.cells) (acc := []) (PySem.mem_of_lookup hl))
  have kc : ∀ {c : Addr} {v : Option Value}, s1.heap.IsCell c v → h1.IsCell c v := fun {c v} ⟨o, ho, hdat⟩ => ⟨o, kp _ _ ho, hdat⟩
  refine ⟨⟨e0.mod, L.kind, rfl, rfl, Nat.le_refl _, fun y z c e1 e2 => C.inj y z c (back e1).2 (back e2).2, fun y hy => ?_, fun y c z _ => (by cases (show false = true from z)), fun _ => hd, Around.frames_deeper e0.frames, .inr ⟨rfl, rfl⟩, fun b z => (by cases (show b ∈ ([] : List Addr) from z)), e0.bs, e0.bsz,
    fun b _ _ z => (by cases (show b ∈ ([] : List Addr) from z)), fun b z => (by cases (show b ∈ ([] : List Addr) from z)), e0.funs, e0.frf⟩, rfl, e0.bare, Un.kept kp, ⟨_, ns, fun i y v e1 e2 e3 => ?_⟩, fun y c e => ?_, e0.hok.fresh (Nat.le_refl _), fun y c e => C.out _ _ (back e).2, fun p hp => (by cases (show p ∈ ([] : List (Addr × Obj)) from hp)), e0.hok.kept kp, C.len⟩
  · rcases (show m.scope.names.lookup y = some .cell ∨ m.scope.names.lookup y = some .free from hy) with z | z
    · exact absurd rfl (L.own _ (PySem.mem_of_lookup z)).2
    · exact forth z
  · rcases (show Vis m.scope y from e3) with z | z | z
    · exact absurd (List.mem_of_getElem? e1) ((L.own _ (PySem.mem_of_lookup z)).1 rfl)
    · exact absurd rfl (L.own _ (PySem.mem_of_lookup z)).2
    · obtain ⟨c, hc⟩ := forth z
      obtain ⟨u, r, q⟩ := C.val i y v c e1 e2 (L.free _ (PySem.mem_of_lookup z) rfl) (back hc).2
      exact ⟨u, r, .inr ⟨.inr z, c, hc, kc q⟩⟩
  · obtain ⟨v, z⟩ := C.any y c (back e).2
    exact ⟨v, kc z⟩
/-- what is asked of a lambda's text -/
structure LmOk (X : Cx) (m : Lm) (k : Nat) : Prop where
  sc : LmS X.N X.env.scope m.scope m.dflt
  bd : LmB m
  run : ∀ (A : Around) (outer : List Env) (s : Shared) (H : Hp) (E : XK) (f c' : Addr), Room k (A.deeper (lamEnv X m.scope s.heap.objs.size f c')) → PE (lamCx X A outer s H E m.scope f c') m.body (m.t E)
/-- it is called -/
theorem lam_run {A : Around} {outer : List Env} {m : Lm} {fd : FuncData} {f c' : Addr} {σ : L2.St} {G : Hp} {s1 : Shared} {E : XK} {Q : VK} {k : Nat} (O : LmOk X m k) (C : CellsAt X σ G s1.heap) (e0 : Env0 X.prog X.w X.K X.mg X.base A outer s1 G) (hr : Room (k + 1) A) (lim : s1.heap.NoLimit)
    (hf : G f = some (LamO f fd)) (li : LamIs X m fd c') (hc : G c' = some (CodeO c' (X.env.qual ++ "<lambda>"))) (df : Dfl G m fd) (h : m.t E σ G Q) :
    codeAny (model X.prog X.w) A (.call (.ref f) ⟨[], []⟩) (CR (L2.CX X.prog X.w) outer X.prog X.w G s1 Q E) s1 := by
  obtain ⟨dV, doc, pm, ct, rfl, hdv⟩ := li
  have of1 := (e0.hok f _ hf).1
  obtain ⟨⟨oc, vs, t, hoc, hdc, hvc⟩, _, _⟩ := e0.hok c' _ hc
  obtain ⟨binds, hb, hl⟩ : ∃ binds, BindsTo s1 (PySem.W.kdv_fn "<lambda>" (X.env.qual ++ "<lambda>") m.params (.expr m.body) m.scope (cloFrom X.env.cells m.scope.names []) dV doc pm (.ref c') ct) ⟨[], []⟩ binds ∧ ∀ x ∈ binds, m.scope.names.lookup x.1 = some .local := by
    cases hm : m.dflt with
    | none =>
      rw [hdv hm]
      exact ⟨[], .of_eq (O.bd.none_ hm _ _ _ _ _ _), fun x hx => by cases hx⟩
    | some a =>
      rcases df with z | ⟨dt, n, e1, e2⟩
      · rw [hm] at z
        cases z
      · obtain ⟨kk, b1, b2⟩ := O.bd.some_ a hm (X.env.qual ++ "<lambda>") (cloFrom X.env.cells m.scope.names []) dV doc pm (.ref c') ct
        obtain ⟨_, its, rv, o, no, hcl, n2, ho⟩ := e0.hok dt _ e2
        cases rv with
        | cons r1 r2 =>
          cases r2
          refine ⟨[(a, _)], .of_defaults (T := dt) e1 no ho b1 (b2 _), fun x hx => ?_⟩
          rw [List.mem_singleton.mp hx]
          exact O.sc.loc a hm
  refine PySem.W.kla_callFunE hr.depth of1 rfl O.sc.co O.sc.gen rfl ⟨c', oc, vs, t, rfl, hoc, hdc, hvc⟩ (hb _ _ _ _ ?_)
  refine wpAny_newFunctionEnv (fun y hy => (O.sc.own y hy).2) hl (fun h1 ns sb => ⟨lim.fresh _ sb, ?_⟩) O.sc.kind
  have kp : ∀ b o, s1.heap.get? b = some o → h1.get? b = some o := fun b o e => sb.extBut b o (Nat.ne_of_lt (Heap.lt_size e)) (Heap.get?_push_of_some _ e)
  have J := lam_enter (E := E) (m := m) (f := f) (c' := c') (tk := s1.toks + binds.length) C O.sc e0 hr.hd ns kp
  refine PySem.W.kla_codeExpr (wpAny_mono ((O.run A outer s1 G E f c' (hr.deeper _)).run [] _ _ G Q J h) (fun v s' hq => ?_) fun e s' hq => hq)
  obtain ⟨x, G', J', rv, q⟩ := hq
  exact ⟨x, G', J'.os, J'.bare, J'.base, J'.hok, rv, q⟩
end
end Lx

namespace Lx
open PySem L2 PySem.Spec PyProof.Rows LamX Lk
/-- X in another place of the same frame -/
abbrev alike (X : Cx) (s0 : Shared) (H0 : Hp) (env : Env) (outer : List Env) (ex : List Addr) (fn : Str → Bool) (pn : List (Addr × Obj)) (xe : Value → Shared → Prop) : Cx := { X with s_0 := s0, H_0 := H0, env := env, outer := outer, ex := ex, fn := fn, pn := pn, xe := xe }
/-- _law_try(e), e a lambda that was made in X -/
def tKept (X : Cx) (CS : Addr) (ms : List Lm) (σ : L2.St) (te : TE) : TE := fun σ' H' Q => te σ' H' fun v H1 => ∃ (f c' : Addr) (fd : FuncData) (m : Lm), v = .ref f ∧ m ∈ ms ∧ H1 f = some (LamO f fd) ∧ LamIs X m fd c' ∧ H1 c' = some (CodeO c' (X.env.qual ++ "<lambda>")) ∧ Dfl H1 m fd ∧
  TTry X.K CS (fun E H2 Q2 => H2 f = some (LamO f fd) ∧ Dfl H2 m fd ∧ m.t E σ H2 Q2) H1 Q
section
variable {X : Cx} {s0 : Shared} {H0 : Hp} {env : Env} {outer : List Env} {ex : List Addr} {fn : Str → Bool} {pn : List (Addr × Obj)} {xe : Value → Shared → Prop}
theorem pe_kept {g fF CS : Addr} {k : Nat} {ms : List Lm} {σ : L2.St} {e : Expr} {te : TE} {p pos : Pos} (R : TryT X.K X.mg g) (FT : FieldT X.K X.mg fF) (hS : X.mg "ScanError" = some (.ref CS)) (hg : Gl (alike X s0 H0 env outer ex fn pn xe) "_law_try")
    (cells : ∀ pins' σ' H' s', Inv (alike X s0 H0 env outer ex fn pn xe) pins' σ' H' s' → CellsAt X σ H' s'.heap) (ok : ∀ m ∈ ms, LmOk X m k) (hr : Room (k + 2) X.A) (hr2 : Room 2 X.A) (he : PE (alike X s0 H0 env outer ex fn pn xe) e te)
    (hst : starEach [e] env = (false, eval e env) :: starEach [] env := by rfl) :
    PE (alike X s0 H0 env outer ex fn pn xe) (.Call (.Name "_law_try" p) [e] [] pos) (tKept X CS ms σ te) := by
  obtain ⟨oc, od, kV, doc, pm, an, cdv, ct, osl, lk, hcd⟩ := R.lk
  refine ⟨fun pins s σ' H Q I h => ?_⟩
  refine wpAny_Call_Name_kw (ld_glob I hg R.at_ ?_ (by decide))
  refine PySem.W.callWith_K (h₀ := X.base) I.ok.mod.kin R.kp ?_ hst (by rfl)
  rw [show starEach [e] (alike X s0 H0 env outer ex fn pn xe).env = (false, eval e env) :: starEach [] env from hst]
  refine Calls.spliced_cons (thn (he.run pins s σ' H _ I h) fun u s1 h1 => ?_)
  obtain ⟨v, H1, I1, rv, f, c', fd, m, rfl, hm, hf, li, hc, df, q⟩ := h1
  obtain rfl : u = Value.ref f := rv
  refine Calls.spliced_nil ⟨I1.kIn, ?_⟩
  have C := cells _ _ _ _ I1
  have rc : codeAny (model X.prog X.w) X.A (.call (.ref g) ⟨[.ref f], []⟩) (CR C8.CX0 X.stack X.prog X.w H1 s1 Q C8.E0) s1 := by
    refine run_ofS (N := ["_law_ask", "_law_e"]) (ps := ["_law_ask"]) (us := [.ref f]) (vs := [.ref f]) lk hcd scTry hr I1.env0 ((Binds.all fun us hl => match us, hl with | [_], _ => rfl) s1 [.ref f] I1.kIn rfl) (.cons rfl .nil) rfl fun hr' => ?_
    have G := try_gives (X := alike X s0 H0 env outer ex fn pn xe) (g := g) (cdg := cdv) (q := X.env.qual ++ "<lambda>") (k := 0) FT hS fun s => hr2.deeper _
    have act : ∀ (W : WX) (pn' : List (Addr × Obj)) (xe' : Value → Shared → Prop) (E : XK) (p1 p2 : Pos), Takes ((cxOf C8.CX0 X.prog X.w X.K X.mg X.base ["_law_ask", "_law_e"] "_law_try" (defScope sTry) g cdv X.A X.stack s1 H1 C8.E0).tr pn' xe') W → (∀ cls d σ' H', E cls d H' → W cls d σ' H') →
        PE ((cxOf C8.CX0 X.prog X.w X.K X.mg X.base ["_law_ask", "_law_e"] "_law_try" (defScope sTry) g cdv X.A X.stack s1 H1 C8.E0).tr pn' xe') (.Call (.Name "_law_ask" p1) [] [] p2) (fun σZ HZ Q => σZ[0]? = some (some (.ref f)) ∧ HZ c' = some (CodeO c' (X.env.qual ++ "<lambda>")) ∧ (HZ f = some (LamO f fd) ∧ Dfl HZ m fd ∧ m.t E σ HZ Q)) := by
      intro W pn' xe' E p1 p2 tk hW
      refine ⟨fun pz sz σz Hz Qz Iz hz => ?_⟩
      obtain ⟨z1, z2, z3, z4, z5⟩ := hz
      refine wpAny_Call_Name_kw (thn ((pe_var (pos := p1) (i := 0) rfl (.inl rfl) (by decide) (by decide)).run pz sz σz Hz (fun v G1 => v = .ref f ∧ G1 = Hz) Iz ⟨.ref f, z1, rfl, rfl⟩) fun u s2 h2 => ?_)
      obtain ⟨v, G1, I2, r2, rfl, rfl⟩ := h2
      obtain rfl : u = Value.ref f := r2
      have un : Un (frs X.stack) [] H1 G1 s1.heap s2.heap := I2.base
      have C2 := C.un un fun x c _ => by simp
      have call := lam_run (E := E) (Q := Qz) (ok m hm) C2 I2.env0 hr' I2.nolimit z3 li z2 z4 z5
      refine PySem.W.callWith_F0 ⟨_, _, _, _, (I2.hok f _ z3).1⟩ ?_
      have hx : Passes (L2.CX X.prog X.w) ((cxOf C8.CX0 X.prog X.w X.K X.mg X.base ["_law_ask", "_law_e"] "_law_try" (defScope sTry) g cdv X.A X.stack s1 H1 C8.E0).tr pn' xe') E := passes_call tk hW
      refine wpAny_call (codeAny_mono call fun r s' hq => ?_)
      cases r with
      | error e => exact hx pz σz G1 s2 e s' I2 hq
      | ok fl =>
        cases fl with
        | ret u => exact I2.after hq
        | next => exact False.elim hq
        | brk => exact False.elim hq
        | cont => exact False.elim hq
    obtain ⟨t', ht', hq'⟩ := G f c' s1 H1 Q (fun E H2 Q2 => H2 f = some (LamO f fd) ∧ Dfl H2 m fd ∧ m.t E σ H2 Q2) act hc q
    exact ⟨t', ht'.nox, hq'⟩
  refine wpAny_call (codeAny_mono rc fun r s2 hq => ?_)
  cases r with
  | error e => exact (show False from hq).elim
  | ok fl =>
    cases fl with
    | ret u => exact I1.after hq
    | next => exact False.elim hq
    | brk => exact False.elim hq
    | cont => exact False.elim hq
theorem cells_blk {pins : List (Addr × Obj)} {σ : L2.St} {H : Hp} {s : Shared} {scope : Scope} {ce : Env} {fp : List Addr} (I : Inv X pins σ H s) (hf : ∀ b ∈ fp, FpOk X pins H b) :
    ∀ (pins' : List (Addr × Obj)) (σ' : L2.St) (H' : Hp) (s' : Shared), Inv (X.blk s H scope ce fp) pins' σ' H' s' → CellsAt X σ H' s'.heap := fun _ _ _ _ B => (CellsAt.of I).un B.base fun x c e hc => (hf c hc).2.2.2.2.1 x c e rfl
theorem PE.of {e : Expr} {t t' : TE} (h : PE X e t') (w : ∀ σ H Q, t σ H Q → t' σ H Q) : PE X e t := ⟨fun pins s σ H Q I q => h.run pins s σ H Q I (w σ H Q q)⟩
theorem lcI_list {K : PySem.W.Frag} {a : Addr} {xs : List V} {g : TG} {te : TE} {vs : List Nat} {σ : L2.St} {H1 : Hp} {D : Addr} {Qd : Hp → Prop} (Pv : Nat → Hp → Prop) (h0 : Pv 0 (upd H1 D (.lst []))) (hl : ∀ i H, i ≤ xs.length → Pv i H → SqL K H a xs)
    (hs : ∀ i x H, xs[i]? = some x → Pv i H → g x (wipe σ vs) H fun σ2 H2 => wipe σ2 vs = wipe σ vs ∧ te σ2 H2 fun y H4 => ∃ acc, H4 D = some (.lst acc) ∧ acc.length < sizeLine ∧ Pv (i + 1) (upd H4 D (.lst (acc ++ [y])))) (hd : ∀ H, Pv xs.length H → Qd H) :
    ∃ W : Nat → Nat → Hp → Prop, (∃ m, W 0 m (upd H1 D (.lst []))) ∧ ∀ i m H, W i m H →
      ((Itl K a).stop i H ∧ Qd H) ∨ ((Itl K a).go i H ∧ ∃ Nx : Hp → Prop, (∀ H', Nx H' → ∃ m', m' < m ∧ W (i + 1) m' H') ∧ ∀ x H', (Itl K a).yld i H x H' → g x (wipe σ vs) H' fun σ2 H2 => wipe σ2 vs = wipe σ vs ∧
        te σ2 H2 fun y H4 => ∃ acc, H4 D = some (.lst acc) ∧ acc.length < sizeLine ∧ Nx (upd H4 D (.lst (acc ++ [y])))) :=
  lc_list (tt := tYes) Pv h0 hl hs hd
end
end Lx

namespace Lk
open PySem L2 Lx LamX
/-! ### the least of a tuple of ints, told -/
theorem min_props : ∀ (xs : List Int) (x : Int), PySem.W.minOf x xs ∈ x :: xs ∧ ∀ z ∈ x :: xs, PySem.W.minOf x xs ≤ z
  | [], x => ⟨List.mem_cons_self, fun z hz => by rw [List.mem_singleton.mp hz]; exact Int.le_refl _⟩
  | y :: r, x => by
    have st : PySem.W.minOf x (y :: r) = PySem.W.minOf (if y < x then y else x) r := by
      show PySem.W.minOf (if decide (y < x) = true then y else x) r = _
      by_cases h : y < x
      · rw [if_pos h, if_pos (decide_eq_true h)]
      · rw [if_neg h, if_neg (by rw [decide_eq_false h]; decide)]
    rw [st]
    obtain ⟨h1, h2⟩ := min_props r (if y < x then y else x)
    have h3 := h2 _ List.mem_cons_self
    by_cases h : y < x
    · rw [if_pos h] at h1 h2 h3 ⊢
      refine ⟨List.mem_cons_of_mem _ h1, fun z hz => ?_⟩
      rcases List.mem_cons.mp hz with e | e
      · rw [e]; omega
      · exact h2 z e
    · rw [if_neg h] at h1 h2 h3 ⊢
      refine ⟨?_, fun z hz => ?_⟩
      · rcases List.mem_cons.mp h1 with e | e
        · exact List.mem_cons.mpr (.inl e)
        · exact List.mem_cons_of_mem _ (List.mem_cons_of_mem _ e)
      · rcases List.mem_cons.mp hz with e | e
        · rw [e]; exact h3
        · rcases List.mem_cons.mp e with e | e
          · rw [e]; omega
          · exact h2 z (List.mem_cons_of_mem _ e)
def rMin2 (K : PySem.W.Frag) : List V → Hp → VK → Prop := fun vs H Q => ∃ (a : Addr) (ns : List Int), vs = [V.ref a] ∧ SqT K H a (ns.map V.int) ∧ 0 < ns.length ∧ ∀ m, m ∈ ns → (∀ z ∈ ns, m ≤ z) → Q (.int m) H
theorem cr_min2 {X : Cx} (quiet : X.calm = true) (hu : X.A.units + 1 < cLine) : CallR X (.builtin "min") (rMin2 X.K) := by
  intro pins s σ H vs us Q I r h
  obtain ⟨a, ns, rfl, hs, hne, q⟩ := h
  obtain ⟨its, rv, hl, _⟩ := I.tuple hs
  rw [Vals.ref1 r]
  cases ns with
  | nil => exact absurd hne (by decide)
  | cons x xs =>
    refine PySem.W.min_tuple_datum (α := Int) (x := x) (xs := xs) (I.ok.hd quiet) hl (by simpa using PySem.W.HoldAll.of_ints (h := s.heap) rv.ints) hu fun i v h' tk _ hv hk => ?_
    obtain ⟨as, rd⟩ := hv
    obtain ⟨p1, p2⟩ := min_props xs x
    generalize PySem.W.minOf x xs = m at rd p1 p2
    cases rd with
    | int n t => exact ⟨.int m, H, I.kept hk, ⟨t, rfl⟩, q m p1 p2⟩
/-! ### whether a value is sides -/
def sdB (o : Option (List V)) (c : Int) : Bool := match o with
  | none => false
  | some xs => (decide (1 ≤ xs.length) && decide (xs.length ≤ 3)) && (xs.all isI && xs.all fun x => decide (c ≤ uI x))
theorem sdB_some (xs : List V) (c : Int) : sdB (some xs) c = ((decide (1 ≤ xs.length) && decide (xs.length ≤ 3)) && (xs.all isI && xs.all fun x => decide (c ≤ uI x))) := rfl
theorem ints_isI : ∀ {xs : List V}, xs.all isI = true → xs = (xs.map uI).map V.int
  | [], _ => rfl
  | x :: r, h => by
    obtain ⟨h1, h2⟩ := Bool.and_eq_true_iff.mp (show (isI x && r.all isI) = true from h)
    have ih := ints_isI h2
    cases x with
    | int i =>
      show V.int i :: r = V.int i :: (r.map uI).map V.int
      rw [← ih]
    | _ => cases h1
theorem isI_ints (ns : List Int) : (ns.map V.int).all isI = true := by
  rw [List.all_map]
  exact List.all_eq_true.mpr fun _ _ => rfl
theorem uI_ints (ns : List Int) : (ns.map V.int).map uI = ns := by
  rw [List.map_map]
  exact List.map_id _
def spSidesO (K : PySem.W.Frag) : Sp := fun vs H Q _ => ∃ v c o, vs = [v, .int c] ∧ OD K H v o ∧ ∀ H', Same H H' → Q (.bl (sdB o c)) H'
def B64i (xs : List V) : Prop := ∀ i, V.int i ∈ xs → -(2 ^ 64) < i ∧ i < 2 ^ 64
def spProdB (K : PySem.W.Frag) : Sp := fun vs H Q _ => ∃ (a : Addr) (ns : List Int), vs = [.ref a] ∧ SqT K H a (ns.map V.int) ∧ (∀ z ∈ ns, -(2 ^ 64) < z ∧ z < 2 ^ 64) ∧ Q (.int (prodL ns)) H
section
variable {P : Program} {w : World} {K : PySem.W.Frag} {mg : Str → Option Value} {base : Heap}
theorem ok_prodB {f : Addr} {fd : FuncData} {k : Nat} (F : Fun K "product" "product" sProduct f fd) : FnOk P w K mg base CX0 (k + 1) f fd ["numbers"] (spProdB K) := by
  refine F.ok scProduct (fun vs H Q E h => ?_) (fun cdv A outer s H vs Q E hr h => ?_)
  · obtain ⟨a, ns, rfl, _⟩ := h
    rfl
  · obtain ⟨a, ns, rfl, hS, bd, q⟩ := h
    refine ⟨_, pss_cons (ps_set (i := 1) scProduct.nd rfl (.inl rfl) pe_int)
      (pss_cons (ps_for PassesOwn.never rfl (pi_tup (pv 0)) (pg_name (i := 2) scProduct.nd rfl (.inl rfl)) (pss_one (ps_set (i := 1) scProduct.nd rfl (.inl rfl) (pe_op op_mul (pv 1) (pv 2)))))
      (pss_one (ps_ret (pv 1)))), ?_⟩
    refine ⟨_, rfl, a, rfl, ⟨_, hS⟩, for_tup (K := K) (a := a) (xs := ns.map V.int) (fun i σ H2 => ∃ (v : Option V), σ = [some (.ref a), some (.int (prodL (ns.take i))), v] ∧ H2 = H)
      ⟨none, rfl, rfl⟩ (fun i σ H2 _ ⟨_, _, e⟩ => by rw [e]; exact hS) ?_ ?_⟩
    · rintro i y σ H2 hi ⟨v, rfl, rfl⟩
      obtain ⟨u, hu, rfl⟩ := map_get hi
      have b := bd u (List.mem_of_getElem? hu)
      refine ⟨_, rfl, _, rfl, _, _, rfl, rfl, .inr ⟨b.1, b.2⟩, some (.int u), ?_, rfl⟩
      rw [take_more hu, prodL_app]
      rfl
    · rintro σ H2 ⟨v, rfl, rfl⟩
      refine ⟨_, rfl, ?_⟩
      rw [List.length_map, List.take_length]
      exact q
theorem ok_sidesO {f fN : Addr} {fd fdN : FuncData} {k : Nat} (F : Fun K "are_sides" "are_sides" sAreSides f fd) (ms : mg "isinstance" = none) (mt : mg "tuple" = none) (ml : mg "len" = none) (mm : mg "min" = none) {t3 : Tok} (mD : mg "MAX_DIRECTIONS" = some (.int 3 t3))
    (GN : FnOk P w K mg base CX0 (k + 2) fN fdN ["value", "count"] (spNumsO K)) (kN : PySem.W.keepIn K (.ref fN) = true) (bN : Binds K fdN ["value", "count"] []) (gN : mg "are_numbers" = some (.ref fN)) : FnOk P w K mg base CX0 (k + 3) f fd ["value", "least"] (spSidesO K) := by
  refine F.ok scAreSides (fun vs H Q E h => ?_) (fun cdv A outer s H vs Q E hr h => ?_)
  · obtain ⟨v, c, o, rfl, _⟩ := h
    rfl
  · obtain ⟨v, c, o, rfl, hO, q⟩ := h
    refine ⟨_, pss_cons (ps_if (PW.pt (pw_or (pt_not (pt_val (pe_callB call_isi (by rfl) ms (by decide +kernel) (pa_cons (pv 0) (pa_cons (pe_bltn (v := .ty "tuple") (by rfl) mt (by decide +kernel) rfl) pa_nil)))))
        (pw_or1 (pt_not (pt_chain op_le op_le pe_int (pe_callB call_len_seq (by rfl) ml PySem.boot_len (pa_cons (pv 0) pa_nil)) (pe_glob (v := .int 3) (by rfl) mD ⟨_, rfl⟩)))))) (pss_one (ps_ret pe_bl)) pss_nil)
      (pss_one (ps_ret (pe_and (pe_call GN hr (by rfl) gN kN bN .nil pass0 (pa_cons (pv 0) (pa_cons (pe_callB call_len_seq (by rfl) ml PySem.boot_len (pa_cons (pv 0) pa_nil)) pa_nil)))
        (pe_one (pe_cmpR op_ge (pe_callB (cr_min2 rfl (hu_of hr)) (by rfl) mm (by decide +kernel) (pa_cons (pv 0) pa_nil)) (pv 1) (nomark _)))))), ?_⟩
    cases o with
    | none =>
      have hs : scal v = true := hO
      have qq := q H (Same.refl _)
      cases v with
      | non => exact ⟨_, rfl, _, _, _, _, false, rfl, .ty _, .base .non, kit_ty (by decide +kernel), false, rfl, iteT qq⟩
      | bl x => exact ⟨_, rfl, _, _, _, _, false, rfl, .ty _, .base (.bl x), kit_ty (by decide +kernel), false, rfl, iteT qq⟩
      | int x => exact ⟨_, rfl, _, _, _, _, false, rfl, .ty _, .base (.int x), kit_ty (by decide +kernel), false, rfl, iteT qq⟩
      | str x => exact ⟨_, rfl, _, _, _, _, false, rfl, .ty _, .base (.str x), kit_ty (by decide +kernel), false, rfl, iteT qq⟩
      | _ => cases hs
    | some xs =>
    obtain ⟨a, rfl, hS, h3, h4⟩ := id hO
    refine ⟨_, rfl, _, _, _, _, true, rfl, .ty _, tyT hS, kit_ty (by decide +kernel), true, rfl, iteF ?_⟩
    by_cases l1 : 1 ≤ xs.length
    rotate_left
    · refine ⟨_, rfl, a, _, rfl, .inr hS, _, _, rfl, rfl, false, congrArg V.bl (decide_eq_false (by omega)), iteF ?_⟩
      have e : sdB (some xs) c = false := by
        rw [sdB_some]
        rw [decide_eq_false l1]
        rfl
      have qq := q H (Same.refl _)
      rw [e] at qq
      exact ⟨false, rfl, iteT qq⟩
    refine ⟨_, rfl, a, _, rfl, .inr hS, _, _, rfl, rfl, true, congrArg V.bl (decide_eq_true (by omega)), iteT ?_⟩
    by_cases l3 : xs.length ≤ 3
    rotate_left
    · refine ⟨_, _, rfl, rfl, false, congrArg V.bl (decide_eq_false (by omega)), iteT ?_⟩
      have e : sdB (some xs) c = false := by
        rw [sdB_some]
        rw [decide_eq_false l3, Bool.and_false]
        rfl
      have qq := q H (Same.refl _)
      rw [e] at qq
      exact qq
    refine ⟨_, _, rfl, rfl, true, congrArg V.bl (decide_eq_true (by omega)), iteF ?_⟩
    refine ⟨_, rfl, _, rfl, a, _, rfl, .inr hS, .ref a, _, some xs, rfl, hO, fun H1 sm => ⟨_, rfl, ?_⟩⟩
    have e0 : plB (some xs) (xs.length : Int) = xs.all isI := by
      show (decide ((xs.length : Int) = xs.length) && xs.all isI) = _
      rw [decide_eq_true rfl]
      rfl
    rw [e0]
    have e1 : sdB (some xs) c = (xs.all isI && xs.all fun x => decide (c ≤ uI x)) := by
      rw [sdB_some]
      rw [decide_eq_true l1, decide_eq_true l3]
      rfl
    have qq := q H1 sm
    rw [e1] at qq
    cases hi : xs.all isI with
    | false =>
      rw [hi] at qq
      exact iteF qq
    | true =>
      rw [hi] at qq
      have ex := ints_isI hi
      rw [ex] at hS
      refine iteT ⟨_, rfl, a, xs.map uI, rfl, Same.sqT sm hS, by rw [List.length_map]; omega, fun m hm hle => ⟨_, rfl, _, _, rfl, rfl, ?_⟩⟩
      have e2 : (xs.all fun x => decide (c ≤ uI x)) = decide (c ≤ m) := by
        by_cases h : c ≤ m
        · rw [decide_eq_true h]
          refine List.all_eq_true.mpr fun x hx => decide_eq_true ?_
          have := hle (uI x) (List.mem_map.mpr ⟨x, hx, rfl⟩)
          omega
        · rw [decide_eq_false h]
          obtain ⟨x, hx, e⟩ := List.mem_map.mp hm
          refine Bool.eq_false_iff.mpr fun z => h ?_
          have := of_decide_eq_true (List.all_eq_true.mp z x hx)
          rw [e] at this
          exact this
      rw [e2] at qq
      exact qq
end
end Lk

namespace Lk
open PySem L2 Lx LamX
/-! ### which error divisors call for: 0 none, 1 InvalidDivisors, 2 TooManyClasses -/
def dvE (o : Option (List V)) : Nat := if sdB o 1 = true then (if 12 < prodL (itsI o) then 2 else 0) else 1
def DvK (C1 C2 : Addr) (o : Option (List V)) (H : Hp) (E : XK) : Prop := ∀ (d : Addr) (H' : Hp), (∀ b u, H b = some u → H' b = some u) →
  (dvE o = 1 → H' d = some (.xd [("tag", .str "InvalidDivisors")]) → E (.ref C1) (some d) H') ∧ (dvE o = 2 → H' d = some (.xd (xflds "limit" (.int 12) "TooManyClasses")) → E (.ref C2) (some d) H')
theorem DvK.same {C1 C2 : Addr} {o : Option (List V)} {H H1 : Hp} {E : XK} (k : DvK C1 C2 o H E) (s : Same H H1) : DvK C1 C2 o H1 E := fun d H' e => k d H' fun b u h => e b u (s b u h)
def PlK (CE : Addr) (v : V) (H : Hp) (E : XK) : Prop := ∀ (d : Addr) (H' : Hp), (∀ b u, H b = some u → H' b = some u) → H' d = some (.xd (xflds "given" v "InvalidPlace")) → E (.ref CE) (some d) H'
theorem PlK.same {CE : Addr} {v : V} {H H1 : Hp} {E : XK} (k : PlK CE v H E) (s : Same H H1) : PlK CE v H1 E := fun d H' e => k d H' fun b u h => e b u (s b u h)
theorem sdB_ints {o : Option (List V)} {c : Int} (h : sdB o c = true) : ∃ xs, o = some xs ∧ xs = (xs.map uI).map V.int ∧ 1 ≤ xs.length ∧ xs.length ≤ 3 ∧ ∀ z ∈ xs.map uI, c ≤ z := by
  cases o with
  | none => cases h
  | some xs =>
    rw [sdB_some] at h
    obtain ⟨h1, h2⟩ := Bool.and_eq_true_iff.mp h
    obtain ⟨h3, h4⟩ := Bool.and_eq_true_iff.mp h1
    obtain ⟨h5, h6⟩ := Bool.and_eq_true_iff.mp h2
    refine ⟨xs, rfl, ints_isI h5, of_decide_eq_true h3, of_decide_eq_true h4, fun z hz => ?_⟩
    obtain ⟨x, hx, e⟩ := List.mem_map.mp hz
    have := of_decide_eq_true (List.all_eq_true.mp h6 x hx)
    rw [← e]
    exact this
def spDivX (K : PySem.W.Frag) (C1 C2 : Addr) : Sp := fun vs H _ E => ∃ v o, vs = [v] ∧ OD K H v o ∧ (∀ z ∈ itsI o, -(2 ^ 64) < z ∧ z < 2 ^ 64) ∧ dvE o ≠ 0 ∧ DvK C1 C2 o H E
/-- class_of, refused: bad divisors, or a bad place -/
def spCofX (K : PySem.W.Frag) (C1 C2 CE : Addr) : Sp := fun vs H _ E => ∃ u v, vs = [u, v] ∧
  ((∃ o, OD K H u o ∧ (∀ z ∈ itsI o, -(2 ^ 64) < z ∧ z < 2 ^ 64) ∧ dvE o ≠ 0 ∧ DvK C1 C2 o H E) ∨
   (∃ (a : Addr) (ds : List Int) (o : Option (List V)), u = .ref a ∧ SqT K H a (ds.map V.int) ∧ 1 ≤ ds.length ∧ ds.length ≤ 3 ∧ Divs ds ∧ OD K H v o ∧ plB o (ds.length : Int) = false ∧ PlK CE v H E))
/-- rests_of, refused: bad divisors, or a number that is no class -/
def spRsX (K : PySem.W.Frag) (C1 C2 CE : Addr) : Sp := fun vs H _ E => ∃ (u : V) (c : Int), vs = [u, .int c] ∧
  ((∃ o, OD K H u o ∧ (∀ z ∈ itsI o, -(2 ^ 64) < z ∧ z < 2 ^ 64) ∧ dvE o ≠ 0 ∧ DvK C1 C2 o H E) ∨
   (∃ (a : Addr) (ds : List Int), u = .ref a ∧ SqT K H a (ds.map V.int) ∧ 1 ≤ ds.length ∧ ds.length ≤ 3 ∧ Divs ds ∧ ¬ (0 ≤ c ∧ c < prodL ds) ∧ PlK CE (.int c) H E))
def spRests (K : PySem.W.Frag) : Sp := fun vs H Q _ => ∃ (a : Addr) (ds : List Int) (c : Int), vs = [.ref a, .int c] ∧ SqT K H a (ds.map V.int) ∧ 1 ≤ ds.length ∧ ds.length ≤ 3 ∧ Divs ds ∧ 0 ≤ c ∧ c < prodL ds ∧ ∀ H' p, Same H H' → SqT K H' p ((pAt ds c).map V.int) → Q (.ref p) H'
def spClassOf (K : PySem.W.Frag) : Sp := fun vs H Q _ => ∃ (a c : Addr) (ds ps : List Int), vs = [.ref a, .ref c] ∧ SqT K H a (ds.map V.int) ∧ SqT K H c (ps.map V.int) ∧ ds.length = ps.length ∧ Divs ds ∧ 1 ≤ ds.length ∧ ds.length ≤ 3 ∧ ∀ H', Same H H' → Q (.int (cls ds ps)) H'
section
variable {P : Program} {w : World} {K : PySem.W.Frag} {mg : Str → Option Value} {base : Heap}
theorem ok_chkdivX {f fN fM f1 f2 C1 C2 D1 D2 fS1 fS2 : Addr} {fd fdN fdM fd1 fd2 : FuncData} {k : Nat} (F : Fun K "check_divisors" "check_divisors" sChkDiv f fd) {t3 : Tok} (mC : mg "MAX_CLASSES" = some (.int 12 t3))
    (R1 : RaiseC K mg "InvalidDivisors" C1 D1 fS1 f1) (G1 : FnOk P w K mg base CX0 (k + 2) f1 fd1 ["self"] (spE0 K C1 "InvalidDivisors")) (b1 : Binds K fd1 ["self"] [])
    (R2 : RaiseC K mg "TooManyClasses" C2 D2 fS2 f2) (G2 : FnOk P w K mg base CX0 (k + 2) f2 fd2 ["self", "limit"] (spE1 K C2 "TooManyClasses" "limit")) (b2 : Binds K fd2 ["self", "limit"] [])
    (GN : FnOk P w K mg base CX0 (k + 3) fN fdN ["value", "least"] (spSidesO K)) (kN : PySem.W.keepIn K (.ref fN) = true) (bN : Binds K fdN ["value", "least"] []) (gN : mg "are_sides" = some (.ref fN))
    (GM : FnOk P w K mg base CX0 (k + 1) fM fdM ["numbers"] (spProdB K)) (kM : PySem.W.keepIn K (.ref fM) = true) (bM : Binds K fdM ["numbers"] []) (gM : mg "product" = some (.ref fM)) : FnOk P w K mg base (L2.CX P w) (k + 4) f fd ["divisors"] (spDivX K C1 C2) := by
  refine F.okX scChkDiv (fun vs H Q E h => ?_) (fun cdv A outer s H vs Q E hr h => ?_)
  · obtain ⟨v, o, rfl, _⟩ := h
    rfl
  · obtain ⟨v, o, rfl, hO, bd, hne, q⟩ := h
    have hr1 : Room (k + 1) _ := hr.mono (by omega)
    refine ⟨_, pss_cons (ps_if (pt_not (pt_val (pe_call GN hr (by rfl) gN kN bN .nil pass0 (pa_cons (pv 0) (pa_cons pe_int pa_nil)))))
        (pss_one (ps_raise rfl (takes_of rfl rfl rfl rfl) (pmk_oex0 R1.er.ox R1.iC R1.tI G1 hr b1 pass0 (by rfl) R1.at_))) pss_nil)
      (pss_one (ps_if (pt_cmpR op_gt (pe_call GM hr1 (by rfl) gM kM bM .nil pass0 (pa_cons (pv 0) pa_nil)) (pe_glob (v := .int 12) (by rfl) mC ⟨_, rfl⟩) (nomark _))
        (pss_one (ps_raise rfl (takes_of rfl rfl rfl rfl) (pmk_oex R2.er.ox R2.iC R2.tI G2 hr b2 .nil pass0 (by rfl) R2.at_ (pa_cons (pe_glob (v := .int 12) (by rfl) mC ⟨_, rfl⟩) pa_nil)))) pss_nil)), ?_⟩
    refine ⟨_, rfl, v, 1, o, rfl, hO, fun H1 sm => ⟨_, rfl, ?_⟩⟩
    have q1 := q.same sm
    cases hs : sdB o 1 with
    | false =>
      have e : dvE o = 1 := by
        unfold dvE
        rw [hs]
        rfl
      refine iteT fun a na => ⟨a, rfl, upd_same, fun dx nd ne => ?_⟩
      have nd' : H1 dx = none := by rw [← nd, upd_ne ne]
      refine ⟨rfl, dx, _, upd_same, by rw [upd_ne ne, upd_same], nd', (q1 dx _ fun b u h => ?_).1 e upd_same⟩
      have hb : b ≠ a := ne_of_none h na
      have hd : b ≠ dx := ne_of_none h nd'
      rw [upd_ne hd, del_ne hb, upd_ne hb, upd_ne hd, upd_ne hb]
      exact h
    | true =>
      obtain ⟨xs, rfl, ex, l1, l3, hz⟩ := sdB_ints hs
      have e : dvE (some xs) = if 12 < prodL (xs.map uI) then 2 else 0 := by
        unfold dvE
        rw [hs]
        rfl
      have hp : 12 < prodL (xs.map uI) := by
        refine Decidable.byContradiction fun z => hne ?_
        rw [e, if_neg z]
      have e2 : dvE (some xs) = 2 := by rw [e, if_pos hp]
      obtain ⟨a, rfl, hS, _⟩ := id hO
      rw [ex] at hS
      refine iteF ⟨_, rfl, a, xs.map uI, rfl, Same.sqT sm hS, bd, _, _, rfl, rfl, true, congrArg V.bl (decide_eq_true hp), iteT ⟨(by show 1 ≤ 1000; decide), fun b nb => ⟨b, .int 12, rfl, upd_same, fun dx nd ne => ⟨rfl, dx, _, ?_, upd_same, ?_, ?_⟩⟩⟩⟩
      · rw [upd_ne (Ne.symm ne), upd_same]
      · rw [← nd, upd_ne ne]
      · have nd' : H1 dx = none := by rw [← nd, upd_ne ne]
        exact (q1 dx _ fun c u h => made_ext (C := C2) nb nd' c u h).2 e2 upd_same
theorem ok_ccX {f fN C1 C2 : Addr} {fd fdN : FuncData} {k : Nat} (F : Fun K "class_count" "class_count" sClassCount f fd)
    (GN : FnOk P w K mg base (L2.CX P w) (k + 4) fN fdN ["divisors"] (spDivX K C1 C2)) (kN : PySem.W.keepIn K (.ref fN) = true) (bN : Binds K fdN ["divisors"] []) (gN : mg "check_divisors" = some (.ref fN)) : FnOk P w K mg base (L2.CX P w) (k + 5) f fd ["divisors"] (spDivX K C1 C2) := by
  refine F.okX scClassCount (fun vs H Q E h => ?_) (fun cdv A outer s H vs Q E hr h => ?_)
  · obtain ⟨v, o, rfl, _⟩ := h
    rfl
  · obtain ⟨v, o, rfl, hO, bd, hne, q⟩ := h
    exact ⟨_, pss_cons (ps_expr (pe_call GN hr (by rfl) gN kN bN .nil (passes_call (E := E) (takes_of rfl rfl rfl rfl) (fun _ _ _ _ h => h)) (pa_cons (pv 0) pa_nil))) pss_never, _, rfl, v, o, rfl, hO, bd, hne, q⟩
end
end Lk

namespace Lk
open PySem L2 Lx LamX
/-! ### the cells of a box -/
def stepC (found : List (List Int)) (s : Int) : List (List Int) := found.flatMap fun c => (rng0 s.toNat).map fun a => c ++ [a]
def cellsL (ds : List Int) : List (List Int) := ds.foldl stepC [[]]
theorem cellsL_snoc (ds : List Int) (d : Int) : cellsL (ds ++ [d]) = stepC (cellsL ds) d := by
  unfold cellsL
  rw [List.foldl_append]
  rfl
theorem range_mul {α : Type} (g : Nat → α) (m : Nat) : ∀ n : Nat, (List.range (n * m)).map g = (List.range n).flatMap fun q => (List.range m).map fun r => g (q * m + r)
  | 0 => by simp
  | n + 1 => by
    rw [Nat.succ_mul, List.range_add, List.map_append, range_mul g m n, List.range_succ, List.flatMap_append, List.map_map]
    simp [Function.comp_def]
theorem pAt_snoc (ds : List Int) (d c : Int) : pAt (ds ++ [d]) c = pAt ds (c / d) ++ [c % d] := by
  unfold pAt
  rw [List.reverse_append]
  show (restsR (d :: ds.reverse) c).reverse = _
  show ((c % d) :: restsR ds.reverse (c / d)).reverse = _
  rw [List.reverse_cons]
theorem cells_rev : ∀ r : List Int, (∀ z ∈ r, 1 ≤ z) → cellsL r.reverse = (List.range (prodL r.reverse).toNat).map fun (k : Nat) => pAt r.reverse (k : Int)
  | [], _ => rfl
  | x :: r, h => by
    have hx : 1 ≤ x := h x List.mem_cons_self
    obtain ⟨m, rfl⟩ : ∃ m : Nat, x = (m : Int) := ⟨x.toNat, by omega⟩
    have ih := cells_rev r fun z hz => h z (List.mem_cons_of_mem _ hz)
    have hp : 0 ≤ prodL r.reverse := by
      have := prodL_pos (l := r.reverse) fun z hz => h z (List.mem_cons_of_mem _ (List.mem_reverse.mp hz))
      omega
    rw [List.reverse_cons, cellsL_snoc, ih, prodL_app]
    obtain ⟨n, hn⟩ : ∃ n : Nat, prodL r.reverse = (n : Int) := ⟨(prodL r.reverse).toNat, by omega⟩
    rw [hn]
    have e1 : ((n : Int) * (m : Int)).toNat = n * m := by
      rw [← Int.natCast_mul]
      rfl
    rw [e1, range_mul]
    unfold stepC
    rw [List.flatMap_map]
    refine congrArg (fun f => List.flatMap f (List.range n)) (funext fun q => ?_)
    have e2 : ((m : Int)).toNat = m := rfl
    unfold rng0
    rw [e2, List.map_map]
    refine List.map_congr_left fun a ha => ?_
    have ham : a < m := List.mem_range.mp ha
    show pAt r.reverse (q : Int) ++ [(a : Int)] = pAt (r.reverse ++ [(m : Int)]) ((q * m + a : Nat) : Int)
    rw [pAt_snoc]
    have d1 : ((q * m + a : Nat) : Int) / (m : Int) = (q : Int) := by
      rw [← Int.natCast_ediv, Nat.mul_comm, Nat.mul_add_div (by omega), Nat.div_eq_of_lt ham]
      rfl
    have d2 : ((q * m + a : Nat) : Int) % (m : Int) = (a : Int) := by
      rw [← Int.natCast_emod, Nat.mul_comm, Nat.mul_add_mod, Nat.mod_eq_of_lt ham]
    rw [d1, d2]
theorem cells_pAt {ds : List Int} (h : ∀ z ∈ ds, 1 ≤ z) : cellsL ds = (List.range (prodL ds).toNat).map fun (k : Nat) => pAt ds (k : Int) := by
  have := cells_rev ds.reverse fun z hz => h z (List.mem_reverse.mp hz)
  rw [List.reverse_reverse] at this
  exact this
end Lk

namespace Lk
open PySem L2 Lx LamX
theorem HdsAt.apps {K : PySem.W.Frag} {H : Hp} : ∀ {l m : List (List Int)} {ws us : List V}, HdsAt K H l ws → HdsAt K H m us → HdsAt K H (l ++ m) (ws ++ us)
  | [], m, _, us, h, q => by
    have h : _ = [] := h
    rw [h]
    exact q
  | c :: r, m, _, us, ⟨a, wr, h1, h2, h3⟩, q => ⟨a, wr ++ us, by rw [h1]; rfl, h2, HdsAt.apps h3 q⟩
def spLCells (K : PySem.W.Frag) : Sp := fun vs H Q _ => ∃ (a : Addr) (ds : List Int), vs = [.ref a] ∧ SqT K H a (ds.map V.int) ∧ (∀ z ∈ ds, 0 ≤ z ∧ z ≤ 2000) ∧ (∀ i, (cellsL (ds.take i)).length ≤ 2000) ∧ ds.length ≤ 3 ∧
  ∀ H' p ws, Same H H' → H p = none → H' p = some (.lst ws) → HdsAt K H' (cellsL ds) ws → Q (.ref p) H'
theorem size2000 {n : Nat} (h : n ≤ 10000) : n < sizeLine := Nat.lt_of_le_of_lt h (by decide)
theorem cells_lens : ∀ (ds : List Int) (c : List Int), c ∈ cellsL ds → c.length = ds.length := by
  have key : ∀ (ds : List Int) (f : List (List Int)) (n : Nat), (∀ c ∈ f, c.length = n) → ∀ c ∈ ds.foldl stepC f, c.length = n + ds.length := by
    intro ds
    induction ds with
    | nil => intro f n h c hc; exact h c hc
    | cons d r ih =>
      intro f n h c hc
      have := ih (stepC f d) (n + 1) (fun c hc => by
        obtain ⟨x, hx, hc⟩ := List.mem_flatMap.mp hc
        obtain ⟨a, _, rfl⟩ := List.mem_map.mp hc
        rw [List.length_append, h x hx]
        rfl) c hc
      rw [this, List.length_cons]
      omega
  intro ds c hc
  have := key ds [[]] 0 (fun c hc => by rw [List.mem_singleton.mp hc]; rfl) c hc
  omega
section
variable {P : Program} {w : World} {K : PySem.W.Frag} {mg : Str → Option Value} {base : Heap}
end
end Lk

namespace Lk
open PySem L2 Lx LamX
def dTag (o : Option (List V)) : Str := if dvE o = 0 then "value" else if dvE o = 1 then "InvalidDivisors" else "TooManyClasses"
def dFld (o : Option (List V)) : V := if dvE o = 2 then .int 12 else .non
def spDErr (K : PySem.W.Frag) : Sp := fun vs H Q _ => ∃ v o, vs = [v] ∧ OD K H v o ∧ (∀ z ∈ itsI o, -(2 ^ 64) < z ∧ z < 2 ^ 64) ∧ ∀ H' T, Same H H' → SqT K H' T [.str (dTag o), dFld o] → Q (.ref T) H'
section
variable {P : Program} {w : World} {K : PySem.W.Frag} {mg : Str → Option Value} {base : Heap}
theorem ok_countB {f : Addr} {fd : FuncData} {k : Nat} (F : Fun K "_law_count" "_law_count" sCount f fd) : FnOk P w K mg base CX0 (k + 1) f fd ["_law_divisors_here"] (spProdB K) := by
  refine F.ok scCount (fun vs H Q E h => ?_) (fun cdv A outer s H vs Q E hr h => ?_)
  · obtain ⟨a, ns, rfl, _⟩ := h
    rfl
  · obtain ⟨a, ns, rfl, hS, bd, q⟩ := h
    refine ⟨_, pss_cons (ps_set (i := 1) scCount.nd rfl (.inl rfl) pe_int)
      (pss_cons (ps_for PassesOwn.never rfl (pi_tup (pv 0)) (pg_name (i := 2) scCount.nd rfl (.inl rfl)) (pss_one (ps_set (i := 1) scCount.nd rfl (.inl rfl) (pe_op op_mul (pv 1) (pv 2)))))
      (pss_one (ps_ret (pv 1)))), ?_⟩
    refine ⟨_, rfl, a, rfl, ⟨_, hS⟩, for_tup (K := K) (a := a) (xs := ns.map V.int) (fun i σ H2 => ∃ (v : Option V), σ = [some (.ref a), some (.int (prodL (ns.take i))), v] ∧ H2 = H)
      ⟨none, rfl, rfl⟩ (fun i σ H2 _ ⟨_, _, e⟩ => by rw [e]; exact hS) ?_ ?_⟩
    · rintro i y σ H2 hi ⟨v, rfl, rfl⟩
      obtain ⟨u, hu, rfl⟩ := map_get hi
      have b := bd u (List.mem_of_getElem? hu)
      refine ⟨_, rfl, _, rfl, _, _, rfl, rfl, .inr ⟨b.1, b.2⟩, some (.int u), ?_, rfl⟩
      rw [take_more hu, prodL_app]
      rfl
    · rintro σ H2 ⟨v, rfl, rfl⟩
      refine ⟨_, rfl, ?_⟩
      rw [List.length_map, List.take_length]
      exact q
theorem in123 (n : Nat) : inV (.int (n : Int)) [.int 1, .int 2, .int 3] = (decide (1 ≤ n) && decide (n ≤ 3)) := by
  match n with
  | 0 => rfl
  | 1 => rfl
  | 2 => rfl
  | 3 => rfl
  | m + 4 =>
    have e1 : ¬ (m + 4 ≤ 3) := by omega
    rw [decide_eq_false e1, Bool.and_false]
    show (decide ((1 : Int) = ((m + 4 : Nat) : Int)) || (decide ((2 : Int) = ((m + 4 : Nat) : Int)) || (decide ((3 : Int) = ((m + 4 : Nat) : Int)) || false))) = false
    rw [decide_eq_false (by omega), decide_eq_false (by omega), decide_eq_false (by omega)]
    rfl
end
end Lk

/-! a for in a generator's body -/
namespace LrA
open PySem PySem.Spec PyProof.Rows GenW L2

section
variable {M : Model} {A : Around} {R : GenEnd} {Y : Protocol} {n : Nat} {s₀ : Shared} {c : Code} {fs : List Frame} {s : Shared} {env : Env}
  {K : Flow → Sem PySem.Fin} {H : Value → Sem PySem.Fin} {gd : Bool → Bool} {lv : List Value → List Value}
theorem seg_For {target iter : Expr} {body orelse : List Stmt} {pos : Pos} (hs : ∀ x, foldedSetIterable iter env x = pure x)
    (h : wpAny M (A.over c fs) (eval iter env) (fun x s₁ => wpAny M (A.over c fs) (pyIter x) (fun it s₂ => ∀ p, Seg M A R Y n s₀ (.forLoop target it body orelse env) (M.den (.forLoop target it body orelse env))
      (.ret (fun r => ((match r with | .ok f => (.pure f : Sem Flow) | .error e => .raise e).onRaise (cameBack env)).wrap K H gd lv) none (gd false) (lv []) c p [] :: fs) s₂)
      (fun x s' => Seg M A R Y n s₀ c (H x) fs s') s₁) (fun x s' => Seg M A R Y n s₀ c (H x) fs s') s) :
    Seg M A R Y n s₀ c ((exec (.For target iter body orelse pos) env).wrap K H gd lv) fs s := by
  rw [exec_For]
  refine seg_bind_wrap (wpAny_standAt (seg_bind_wrap (wpAny_mono h (fun x s₁ h₁ => seg_bind_wrap (wpAny_of_eq (hs x) (seg_bind_wrap (wpAny_standAt (seg_bind_wrap (wpAny_holding
    (wpAny_mono h₁ (fun it s₂ h₂ => ?_) fun _ _ h' => h'))))))) fun _ _ h' => h')))
  exact seg_call h₂
end
section
variable {prog : Program} {w : World} {A : Around} {R : GenEnd} {Y : Protocol} {n : Nat} {s₀ : Shared} {fs : List Frame} {s : Shared} {env : Env}
theorem seg_forLoop {target : Expr} {it : Value} {body orelse : List Stmt}
    (h : wpAny (model prog w) (A.over (.forLoop target it body orelse env) fs) (pyNext it) (fun r s₁ => match r with
        | none => Seg (model prog w) A R Y n s₀ (.forLoop target it body orelse env) (.pure (.again (.block orelse env))) fs s₁
        | some v => wpAny (model prog w) (A.over (.forLoop target it body orelse env) fs) (letOwnedTupleGo target it v) (fun _ s₂ =>
            wpAny (model prog w) (A.over (.forLoop target it body orelse env) fs) (assign target env v) (fun _ s₃ =>
              Seg (model prog w) A R Y n s₀ (.forLoop target it body orelse env) ((execs body env).wrap (fun f => match f with
                | .next | .cont => .pure (.again (.forLoop target it body orelse env))
                | .brk => .pure (.done .next)
                | .ret v => .pure (.done (.ret v))) (fun e => (do noteFrame e env; theTreesLotGoes e : Sem Unit).wrap (fun _ => .raise e) .raise id id) id id) fs s₃)
              (fun x s' => Seg (model prog w) A R Y n s₀ (.forLoop target it body orelse env) ((do noteFrame x env; theTreesLotGoes x : Sem Unit).wrap (fun _ => .raise x) .raise id id) fs s') s₂)
            (fun x s' => Seg (model prog w) A R Y n s₀ (.forLoop target it body orelse env) ((do noteFrame x env; theTreesLotGoes x : Sem Unit).wrap (fun _ => .raise x) .raise id id) fs s') s₁)
      (fun x s' => Seg (model prog w) A R Y n s₀ (.forLoop target it body orelse env) ((do noteFrame x env; theTreesLotGoes x : Sem Unit).wrap (fun _ => .raise x) .raise id id) fs s') s) :
    Seg (model prog w) A R Y n s₀ (.forLoop target it body orelse env) ((model prog w).den (.forLoop target it body orelse env)) fs s := by
  show Seg _ A R Y n s₀ _ ((forTurn target it body orelse env).onRaise (fun x => do noteFrame x env; theTreesLotGoes x)) fs s
  unfold forTurn
  rw [Sem.onRaise_eq_wrap]
  have eH : (fun e => (do noteFrame e env; theTreesLotGoes e : Sem Unit).bind fun _ => (.raise e : Sem PySem.Fin)) = (fun e => (do noteFrame e env; theTreesLotGoes e : Sem Unit).wrap (fun _ => .raise e) .raise id id) := funext fun e => Sem.bind_eq_wrap _ _
  rw [eH]
  refine seg_bind_wrap (wpAny_standAt (seg_bind_wrap (wpAny_onRaise (wpAny_mono h (fun r s₁ h₁ => ?_) fun _ _ h' => wpAny_standAt h'))))
  cases r with
  | none => exact h₁
  | some v =>
    refine seg_bind_wrap (wpAny_mono h₁ (fun _ s₂ h₂ => ?_) fun _ _ h' => h')
    refine seg_bind_wrap (wpAny_mono h₂ (fun _ s₃ h₃ => ?_) fun _ _ h' => h')
    rw [Sem.bind_eq_wrap', Sem.wrap_wrap]
    refine Eq.mp (congrArg (fun t => Seg (model prog w) A R Y n s₀ (.forLoop target it body orelse env) t fs s₃) (Sem.wrap_congr (execs body env) _ _ (fun f => ?_) (fun e => ?_))) h₃
    · cases f <;> rfl
    · rfl
end
section
variable {X : Cx}
/-- a for whose body hands out; W: the invariant by the turn and a measure -/
def tGFor (wi : TI) (g : TG) (tb : TGn) : TGn := fun D ys σ H => wi σ H fun J H1 => ∃ W : Nat → Nat → List V → L2.St → Hp → Prop, (∃ m, W 0 m ys σ H1) ∧ ∀ i m ys σ H, W i m ys σ H →
  (J.stop i H ∧ D.nx ys σ H) ∨ (J.go i H ∧ ∃ N : List V → L2.St → Hp → Prop, (∀ ys' σ' H', N ys' σ' H' → ∃ m', m' < m ∧ W (i + 1) m' ys' σ' H') ∧
    ∀ x H', J.yld i H x H' → g x σ H' fun σ2 H2 => tb { D with nx := N, ct := N, bk := D.nx } ys σ2 H2)
theorem gs_for {tg iter : Expr} {body : List Stmt} {pos : Pos} {wi : TI} {g : TG} {tb : TGn} (hp : PassesOwn (model X.prog X.w) X.A X.env X.xe) (hc : X.calm = true) (hi : PI X tg iter wi) (hg : PG X tg g) (hb : GSs X body tb)
    (hs : ∀ x, foldedSetIterable iter X.env x = pure x := by intro _; rfl) : GS X (.For tg iter body [] pos) (tGFor wi g tb) := by
  refine ⟨fun A S ip R n ys s₀ c fs K J gd lv s σ H D gc hn k hI ht => ?_⟩
  obtain ⟨acc0, c0, r0, I0⟩ := hI
  refine seg_For hs ?_
  rw [gc.over]
  refine wpAny_mono (hi.run _ s σ H _ I0 ht) (fun v s1 h1 => wpAny_mono h1 (fun itv s2 h2 p => ?_) fun x s' hx => k.exc n s₀ x s' hx) fun x s' hx => k.exc n s₀ x s' hx
  obtain ⟨it, fp, tn, Jt, H2, e, I2, T, st2, f2, W, ⟨m0, w0⟩, turn⟩ := h2
  subst e
  have stat : ∀ {H' : Hp} {o : Obj}, (∀ b ∈ fp, H' b = none) → ∀ b ∈ fp, FpOk X ((S, o) :: ip) H' b := fun {H' o} hn b hb => by
    obtain ⟨_, z1, z2, z3, z4, z5⟩ := f2 b hb
    refine ⟨hn b hb, z1, z2, z3, z4, fun p hp => ?_⟩
    rcases List.mem_append.mp hp with hp | hp
    · exact z5 p (List.mem_append_left _ hp)
    · rcases List.mem_cons.mp hp with hp | hp
      · rw [hp]; exact z5 (S, lstObj acc0 c0) (List.mem_append_right _ List.mem_cons_self)
      · exact z5 p (List.mem_append_right _ (List.mem_cons_of_mem _ hp))
  have notS : ∀ b ∈ fp, b ≠ S := fun b hb => Ne.symm ((f2 b hb).2.2.2.2.2 (S, lstObj acc0 c0) (List.mem_append_right _ List.mem_cons_self))
  have gl := fun (kk : Result → Sem PySem.Fin) => gc_loop (k := kk) (c' := .forLoop tg (.ref it) body [] X.env) (l := lv []) (kp := []) (p := p) gc rfl rfl
  have loop : ∀ (m i n : Nat) (ys : List V) (s₀ s : Shared) (σ : L2.St) (H : Hp), n + ys.length = sizeLine → W i m ys σ H → GI X S ip ys σ H s → tn i s.heap → (∀ b ∈ fp, H b = none) →
      Seg (model X.prog X.w) A R (GY X S) n s₀ (.forLoop tg (.ref it) body [] X.env) ((model X.prog X.w).den (.forLoop tg (.ref it) body [] X.env))
        (.ret (fun r => ((match r with | .ok f => (.pure f : Sem Flow) | .error e => .raise e).onRaise (cameBack X.env)).wrap K J gd lv) none (gd false) (lv []) c p [] :: fs) s := by
    intro m
    induction m using Nat.strongRecOn with
    | ind m ih =>
      intro i n ys s₀ s3 σ3 H3 hn w3 hI st3 fr3
      have ee : ∀ (n : Nat) (s₀ : Shared) (x : Value) (s' : Shared), X.xe x s' → Seg (model X.prog X.w) A R (GY X S) n s₀ (.forLoop tg (.ref it) body [] X.env)
          ((do noteFrame x X.env; theTreesLotGoes x : Sem Unit).wrap (fun _ => .raise x) .raise id id)
          (.ret (fun r => ((match r with | .ok f => (.pure f : Sem Flow) | .error e => .raise e).onRaise (cameBack X.env)).wrap K J gd lv) none (gd false) (lv []) c p [] :: fs) s' := fun n s₀ x s' hx => by
        refine seg_wrap ?_
        rw [(gl _).over]
        refine wpAny_bind (wpAny_mono (hp x s' hx) (fun _ s'' hcb => wpAny_theTreesLotGoes ?_) fun y s'' hcb => ?_)
        · exact seg_leaf (.error x) (seg_cameBack gc k hcb)
        · exact seg_leaf (.error y) (seg_cameBack gc k hcb)
      refine seg_forLoop ?_
      rw [(gl _).over]
      obtain ⟨acc, cc, r, I3⟩ := hI
      rcases turn i m ys σ3 H3 w3 with ⟨stop, qn⟩ | ⟨go, N, hN, step⟩
      · refine wpAny_mono (T.done X rfl rfl rfl hc i _ s3 σ3 H3 X.xe I3 (stat fr3) st3 stop) (fun r' s4 ⟨hr, I4⟩ => ?_) fun x s' hx => ee n s₀ x s' hx
        subst hr
        refine seg_again rfl ?_
        exact seg_leaf (.ok .next) (k.ok n ys s₀ s4 .next hn ⟨σ3, H3, ⟨acc, cc, r, I4⟩, qn⟩)
      · refine wpAny_mono (T.item X rfl rfl rfl hc i _ s3 σ3 H3 X.xe I3 (stat fr3) st3 go) (fun r' s4 ⟨u, hr, h4⟩ => ?_) fun x s' hx => ee n s₀ x s' hx
        subst hr
        refine wpAny_mono h4 (fun _ s5 ⟨x, H5, I5, r5, y5, st5, fr5⟩ => ?_) fun x s' hx => ee n s₀ x s' hx
        have I5' := I5.pinned (stat fr5) (T.obj _ _ st5)
        refine wpAny_mono (hg.run _ s5 σ3 H5 x u _ I5' r5 (step x H5 y5)) (fun _ s6 ⟨σ6, H6, I6, q6⟩ => ?_) fun x s' hx => ee n s₀ x s' hx
        have gc' := fun (kk : Result → Sem PySem.Fin) => (show GC X S (ip ++ pinsAt fp s5.heap) A (.forLoop tg (.ref it) body [] X.env) (.ret kk none (gd false) (lv []) c p [] :: fs) id from
          { gl kk with ip := fun q hq => (List.mem_append.mp hq).elim (gc.ip q) fun z => notS _ (of_pinsAt z).1 })
        have back : ∀ {n' : Nat} {ys' : List V} {s₀' s7 : Shared} {σ7 : L2.St} {H7 : Hp}, n' + ys'.length = sizeLine → GI X S (ip ++ pinsAt fp s5.heap) ys' σ7 H7 s7 → N ys' σ7 H7 →
            Seg (model X.prog X.w) A R (GY X S) n' s₀' (.forLoop tg (.ref it) body [] X.env) (.pure (.again (.forLoop tg (.ref it) body [] X.env)))
              (.ret (fun r => ((match r with | .ok f => (.pure f : Sem Flow) | .error e => .raise e).onRaise (cameBack X.env)).wrap K J gd lv) none (gd false) (lv []) c p [] :: fs) s7 := fun {n' ys' s₀' s7 σ7 H7} hn' hI7 n7 => by
          obtain ⟨m', hm, w7⟩ := hN ys' σ7 H7 n7
          obtain ⟨acc7, c7, r7, I7⟩ := hI7
          refine seg_again rfl (ih m' hm (i + 1) n' ys' s₀' s7 σ7 H7 hn' w7 ⟨acc7, c7, r7, Inv.unpinned (pins := (S, lstObj acc7 c7) :: ip) I7⟩ (T.keep _ _ _ st5 fun b hb o e => ?_) fun b hb => ?_)
          · exact (I7.pin (b, o) (List.mem_append_right _ (List.mem_cons_of_mem _ (List.mem_append_right _ (mem_pinsAt hb e))))).1
          · obtain ⟨o, e, d⟩ := T.obj _ _ st5 b hb
            exact (I7.pin (b, o) (List.mem_append_right _ (List.mem_cons_of_mem _ (List.mem_append_right _ (mem_pinsAt hb e))))).2.1
        refine hb.run A S (ip ++ pinsAt fp s5.heap) R n ys s₀ _ _ _ _ id id s6 σ6 H6 { D with nx := N, ct := N, bk := D.nx } (gc' _) hn ⟨fun n' ys' s₀' s7 f hn' hs7 => ?_, fun n' s₀' x s' hx => ee n' s₀' x s' hx⟩ ⟨acc, cc, r, I6⟩ q6
        cases f with
        | next => obtain ⟨σ7, H7, I7, n7⟩ := hs7; exact back hn' I7 n7
        | cont => obtain ⟨σ7, H7, I7, n7⟩ := hs7; exact back hn' I7 n7
        | brk =>
          obtain ⟨σ7, H7, ⟨acc7, c7, r7, I7⟩, q7⟩ := hs7
          exact seg_leaf (.ok .next) (k.ok n' ys' s₀' s7 .next hn' ⟨σ7, H7, ⟨acc7, c7, r7, Inv.unpinned (pins := (S, lstObj acc7 c7) :: ip) I7⟩, q7⟩)
        | ret v =>
          obtain ⟨x7, σ7, H7, ⟨acc7, c7, r7, I7⟩, rr, q7⟩ := hs7
          exact seg_leaf (.ok (.ret v)) (k.ok n' ys' s₀' s7 (.ret v) hn' ⟨x7, σ7, H7, ⟨acc7, c7, r7, Inv.unpinned (pins := (S, lstObj acc7 c7) :: ip) I7⟩, rr, q7⟩)
  exact loop m0 0 n ys s₀ s2 σ H2 hn w0 ⟨acc0, c0, r0, I2⟩ st2 fun b hb => (f2 b hb).1
/-- over range(n) -/
theorem gfor_range {lo : Int} {n : Nat} {g : TG} {tb : TGn} {D : GEnds} {ys : List V} {σ : L2.St} {H : Hp} (Pv : Nat → List V → L2.St → Hp → Prop) (h0 : Pv 0 ys σ H)
    (hs : ∀ i ys σ H, i < n → Pv i ys σ H → g (.int (lo + i)) σ H fun σ2 H2 => tb { D with nx := Pv (i + 1), ct := Pv (i + 1), bk := D.nx } ys σ2 H2) (hd : ∀ ys σ H, Pv n ys σ H → D.nx ys σ H) :
    ∃ W : Nat → Nat → List V → L2.St → Hp → Prop, (∃ m, W 0 m ys σ H) ∧ ∀ i m ys σ H, W i m ys σ H →
      ((Itr lo n).stop i H ∧ D.nx ys σ H) ∨ ((Itr lo n).go i H ∧ ∃ N : List V → L2.St → Hp → Prop, (∀ ys' σ' H', N ys' σ' H' → ∃ m', m' < m ∧ W (i + 1) m' ys' σ' H') ∧
        ∀ x H', (Itr lo n).yld i H x H' → g x σ H' fun σ2 H2 => tb { D with nx := N, ct := N, bk := D.nx } ys σ2 H2) := by
  refine ⟨fun i m ys σ H => m = n - i ∧ i ≤ n ∧ Pv i ys σ H, ⟨n, by simp, Nat.zero_le _, h0⟩, ?_⟩
  rintro i m ys σ H ⟨rfl, hi, p⟩
  by_cases hlt : i < n
  · refine .inr ⟨hlt, Pv (i + 1), fun ys' σ' H' p' => ⟨n - (i + 1), by omega, rfl, hlt, p'⟩, fun x H' y => ?_⟩
    obtain ⟨e, y⟩ := y
    subst e y
    exact hs i ys σ _ hlt p
  · have e : i = n := by omega
    subst e
    exact .inl ⟨Nat.le_refl _, hd ys σ H p⟩
end
end LrA

namespace Lk
open PySem L2
abbrev sCells : Stmt := topS 31
theorem scCells : GScope ["box", "total", "number"] ["box"] (defScope sCells) := ⟨rfl, rfl, rfl, by decide +kernel, rfl, by decide +kernel, by decide +kernel⟩
end Lk

namespace Lk
open PySem L2 Lx LamX LrA
/-! ### the cells of a box -/
def spPlaceAtB (K : PySem.W.Frag) : Sp := fun vs H Q _ => ∃ (a : Addr) (ds : List Int) (c : Int), vs = [.ref a, .int c] ∧ SqT K H a (ds.map V.int) ∧ (∀ z ∈ ds, 1 ≤ z ∧ z < 2 ^ 30) ∧ ds.length ≤ 3 ∧ ∀ H' p, Same H H' → SqT K H' p ((pAt ds c).map V.int) → Q (.ref p) H'
/-- the cells of a box -/
def cellN (ns : List Int) : List (List Int) := (List.range (prodL ns).toNat).map fun (i : Nat) => pAt ns (i : Int)
def spCells (K : PySem.W.Frag) : SpG := fun vs H Q _ => ∃ (a : Addr) (ns : List Int), vs = [.ref a] ∧ SqT K H a (ns.map V.int) ∧ 1 ≤ ns.length ∧ ns.length ≤ 3 ∧ (∀ z ∈ ns, 0 ≤ z ∧ z < 2 ^ 64) ∧ 0 ≤ prodL ns ∧ prodL ns ≤ 2000 ∧ (1 ≤ prodL ns → ∀ z ∈ ns, 1 ≤ z ∧ z < 2 ^ 30) ∧
  ∀ H' ws, Same H H' → HdsAt K H' (cellN ns) ws → Q ws H'
section
variable {P : Program} {w : World} {K : PySem.W.Frag} {mg : Str → Option Value} {base : Heap}
theorem ok_placeatB {f : Addr} {fd : FuncData} {k : Nat} (F : Fun K "place_at" "place_at" sPlaceAt f fd) (mt : mg "tuple" = none) : FnOk P w K mg base CX0 (k + 1) f fd ["sides", "number"] (spPlaceAtB K) := by
  refine F.ok scPlaceAt (fun vs H Q E h => ?_) (fun cdv A outer s H vs Q E hr h => ?_)
  · obtain ⟨a, ds, c, rfl, _⟩ := h
    rfl
  · obtain ⟨a, ds, c, rfl, hA, hD, h3, q⟩ := h
    refine ⟨_, pss_cons (ps_set (i := 2) scPlaceAt.nd rfl (.inl rfl) (pe_lst pa_nil))
      (pss_cons (ps_for PassesOwn.never rfl (pi_tup (pe_revT (pv 0))) (pg_name (i := 3) scPlaceAt.nd rfl (.inl rfl))
        (pss_cons (ps_expr (pe_bm PySem.F.plainAttrs_list PySem.F.slot_list_append PySem.F.type_list_append mt_append (pv 2) (pa_cons (pe_op op_mod (pv 1) (pv 3)) pa_nil)))
        (pss_one (ps_set (i := 1) scPlaceAt.nd rfl (.inl rfl) (pe_op op_fdiv (pv 1) (pv 3))))))
      (pss_one (ps_ret (pe_callTy call_tuple_of (by rfl) mt (by decide +kernel) (pa_cons (pe_revL (pv 2)) pa_nil))))), ?_⟩
    refine ⟨Nat.zero_le _, fun o no => ?_⟩
    have s0 := same_new (o := .lst []) no
    refine ⟨_, rfl, a, _, rfl, Same.sqT s0 hA, fun r nr => ?_⟩
    have s1 := s0.trans (same_new (o := .tup (ds.map V.int).reverse) nr)
    have noR : o ≠ r := ne_of_none upd_same nr
    have er : (ds.map V.int).reverse = ds.reverse.map V.int := by rw [List.map_reverse]
    have hR : SqT K (upd (upd H o (.lst [])) r (.tup (ds.map V.int).reverse)) r (ds.reverse.map V.int) := by
      rw [← er]
      exact SqT.of upd_same
    refine ⟨r, rfl, ⟨_, hR⟩, for_tup (K := K) (a := r) (xs := ds.reverse.map V.int) (fun i σ H2 => ∃ v3 : Option V, σ = [some (.ref a), some (.int (quoR (ds.reverse.take i) c)), some (.ref o), v3] ∧ Same H H2 ∧ SqT K H2 r (ds.reverse.map V.int) ∧ H2 o = some (.lst ((restsR (ds.reverse.take i) c).map V.int)))
      ⟨none, rfl, s1, hR, by rw [upd_ne noR]; exact upd_same⟩ (fun i σ H2 _ ⟨_, _, _, h, _⟩ => h) ?_ ?_⟩
    · rintro i y σ H2 hi ⟨v3, rfl, sm, hR2, ho⟩
      obtain ⟨u, hu, rfl⟩ := map_get hi
      have hm : u ∈ ds := List.mem_reverse.mp (List.mem_of_getElem? hu)
      obtain ⟨u1, u12⟩ := hD u hm
      have hi3 : i < ds.reverse.length := (List.getElem?_eq_some_iff.mp hu).1
      rw [List.length_reverse] at hi3
      refine ⟨_, rfl, .inl ⟨rfl, _, SqL.of ho⟩, _, rfl, _, rfl, _, _, rfl, rfl, (by show (0 : Int) < u; omega), o, _, _, rfl, rfl, ho, ?_, ?_⟩
      · rw [List.length_map, restsR_len]
        exact small1000 (Nat.le_trans (List.length_take_le _ _) (by omega))
      refine ⟨_, rfl, _, rfl, _, u, rfl, rfl, ⟨by omega, by omega⟩, some (.int u), ?_, Same.upd_out sm no, ?_, ?_⟩
      · rw [take_more hu, quoR_app]
        rfl
      · exact tups_lst ho _ _ hR2
      · rw [upd_same, take_more hu, restsR_app, List.map_append]
        rfl
    · rintro σ H2 ⟨v3, rfl, sm, hR2, ho⟩
      rw [List.length_map, List.take_length] at ho
      refine ⟨_, rfl, o, _, rfl, SqL.of ho, fun l nl => ?_⟩
      have s3 := sm.trans (same_new (o := .lst ((restsR ds.reverse c).map V.int).reverse) nl)
      refine ⟨l, _, rfl, .inl ⟨SqL.of upd_same, fun p np => ?_⟩⟩
      refine q _ p (s3.trans (same_new np)) ?_
      unfold pAt
      rw [List.map_reverse]
      exact SqT.of upd_same
theorem okg_cells {f fS fM fA : Addr} {fd fdS fdM fdA : FuncData} {k : Nat} (F : Fun K "cells" "cells" sCells f fd) (mr : mg "range" = none) {t3 : Tok} (mC : mg "MAX_CELLS" = some (.int 2000 t3))
    (GS' : FnOk P w K mg base CX0 (k + 3) fS fdS ["value", "least"] (spSidesO K)) (kS : PySem.W.keepIn K (.ref fS) = true) (bS : Binds K fdS ["value", "least"] []) (gS : mg "are_sides" = some (.ref fS))
    (GM : FnOk P w K mg base CX0 (k + 1) fM fdM ["numbers"] (spProdB K)) (kM : PySem.W.keepIn K (.ref fM) = true) (bM : Binds K fdM ["numbers"] []) (gM : mg "product" = some (.ref fM))
    (GA : FnOk P w K mg base CX0 (k + 1) fA fdA ["sides", "number"] (spPlaceAtB K)) (kA : PySem.W.keepIn K (.ref fA) = true) (bA : Binds K fdA ["sides", "number"] []) (gA : mg "place_at" = some (.ref fA)) :
    GFn P w K mg base (k + 4) f fd ["box"] (spCells K) := by
  obtain ⟨oc, od, kV, doc, pm, an, cdv, ct, osl, rfl, lk, hcd⟩ := F.ex
  refine gfn_of lk hcd scCells (fun vs H Q E h => ?_) fun A outer s H vs Q E pn hr h => ?_
  · obtain ⟨a, ns, rfl, _⟩ := h
    rfl
  · obtain ⟨a, ns, rfl, hS, h1, h3, hz, hp0, hp, hone, q⟩ := h
    have hr1 : Room (k + 1) _ := hr.mono (by omega)
    refine ⟨_, gss_cons (gs_ps (ps_if (pt_not (pt_val (pe_call GS' hr (by rfl) gS kS bS .nil pass0 (pa_cons (pv 0) (pa_cons pe_int pa_nil))))) pss_never pss_nil))
      (gss_cons (gs_ps (ps_set (i := 1) scCells.nd rfl (.inl rfl) (pe_call GM hr1 (by rfl) gM kM bM .nil pass0 (pa_cons (pv 0) pa_nil))))
      (gss_cons (gs_ps (ps_if (pt_cmpR op_gt (pv 1) (pe_glob (v := .int 2000) (by rfl) mC ⟨_, rfl⟩) (nomark _)) pss_never pss_nil))
      (gss_cons (gs_for owns_gcx rfl (pi_range1 (by rfl) mr (pa_cons (pv 1) pa_nil)) (pg_name (i := 2) scCells.nd rfl (.inl rfl))
        (gss_cons (gs_yield (pe_call GA hr1 (by rfl) gA kA bA .nil pass0 (pa_cons (pv 0) (pa_cons (pv 2) pa_nil)))) gss_nil)) gss_nil))), ?_⟩
    have hsd : sdB (some (ns.map V.int)) 0 = true := by
      rw [sdB_some, isI_ints, List.length_map]
      have e : ((ns.map V.int).all fun x => decide ((0 : Int) ≤ uI x)) = true := by
        rw [List.all_eq_true]
        intro x hx
        obtain ⟨z, hz', rfl⟩ := List.mem_map.mp hx
        exact decide_eq_true (hz z hz').1
      rw [e]
      simp [h1, h3]
    have hO : OD K H (.ref a) (some (ns.map V.int)) := ⟨a, rfl, hS, by rw [List.length_map]; omega, fun x hx => by
      obtain ⟨z, _, rfl⟩ := List.mem_map.mp hx
      exact .inl rfl⟩
    refine ⟨_, rfl, _, _, _, rfl, hO, fun H1 sm => ⟨true, by rw [hsd], iteF ?_⟩⟩
    refine ⟨_, rfl, a, ns, rfl, Same.sqT sm hS, fun z hz' => ⟨by have := (hz z hz').1; omega, (hz z hz').2⟩, ?_⟩
    refine ⟨_, rfl, _, _, rfl, rfl, false, congrArg V.bl (decide_eq_false (by omega)), iteF ?_⟩
    refine ⟨_, rfl, _, rfl, by omega, by omega, ?_⟩
    refine gfor_range (fun i ys σ H2 => ∃ v2 : Option V, σ = [some (.ref a), some (.int (prodL ns)), v2] ∧ Same H H2 ∧ HdsAt K H2 ((List.range i).map fun (i : Nat) => pAt ns (i : Int)) ys) ⟨none, rfl, sm, rfl⟩ ?_ ?_
    · rintro i ys σ H2 hi ⟨v2, rfl, sm2, hd⟩
      have hl := hd.len
      rw [List.length_map, List.length_range] at hl
      refine ⟨by rw [hl]; exact Nat.lt_of_lt_of_le (Nat.lt_of_lt_of_le hi (show (prodL ns).toNat ≤ 2000 by omega)) (by decide +kernel), _, rfl, _, rfl, a, ns, _, rfl, Same.sqT sm2 hS, hone (by omega), h3, fun H' p sm3 hp' => ?_⟩
      refine ⟨_, rfl, sm2.trans sm3, ?_⟩
      rw [List.range_succ, List.map_append]
      have e : ((0 : Int) + i) = i := by omega
      rw [e] at hp'
      exact (hd.mono (Same.tups sm3)).app hp'
    · rintro ys σ H2 ⟨v2, rfl, sm2, hd⟩
      exact q H2 ys sm2 hd
end
end Lk

namespace Lk
open PySem L2 Lx LamX LrA
/-! ### check_box where it raises nothing -/
theorem sdB_box {ns : List Int} (h1 : 1 ≤ ns.length) (h3 : ns.length ≤ 3) (hz : ∀ z ∈ ns, 0 ≤ z) : sdB (some (ns.map V.int)) 0 = true := by
  rw [sdB_some, isI_ints, List.length_map]
  have e : ((ns.map V.int).all fun x => decide ((0 : Int) ≤ uI x)) = true := by
    rw [List.all_eq_true]
    intro x hx
    obtain ⟨z, hz', rfl⟩ := List.mem_map.mp hx
    exact decide_eq_true (hz z hz')
  rw [e]
  simp [h1, h3]
theorem prodL_nn : ∀ {l : List Int}, (∀ z ∈ l, 0 ≤ z) → 0 ≤ prodL l
  | [], _ => by simp [prodL]
  | x :: r, h => Int.mul_nonneg (h x List.mem_cons_self) (prodL_nn fun z hz => h z (List.mem_cons_of_mem _ hz))
/-- a box with cells: each side is at least 1 and at most their number -/
theorem prodL_sides : ∀ {l : List Int}, (∀ z ∈ l, 0 ≤ z) → 1 ≤ prodL l → ∀ z ∈ l, 1 ≤ z ∧ z ≤ prodL l
  | [], _, _, z, hz => by simp at hz
  | x :: r, h, hp, z, hz => by
    have hx := h x List.mem_cons_self
    have hr := fun z hz => h z (List.mem_cons_of_mem _ hz)
    have n := prodL_nn hr
    have hp' : 1 ≤ x * prodL r := hp
    have x1 : 1 ≤ x := by
      rcases Int.lt_or_le 0 x with g | g
      · omega
      · have : x = 0 := by omega
        rw [this, Int.zero_mul] at hp'
        omega
    have r1 : 1 ≤ prodL r := by
      rcases Int.lt_or_le 0 (prodL r) with g | g
      · omega
      · have : prodL r = 0 := by omega
        rw [this, Int.mul_zero] at hp'
        omega
    show 1 ≤ z ∧ z ≤ x * prodL r
    rcases List.mem_cons.mp hz with e | e
    · subst e
      have : z * 1 ≤ z * prodL r := Int.mul_le_mul_of_nonneg_left r1 hx
      omega
    · obtain ⟨y1, y2⟩ := prodL_sides hr r1 z e
      have : 1 * prodL r ≤ x * prodL r := Int.mul_le_mul_of_nonneg_right x1 n
      omega
def spChkBox (K : PySem.W.Frag) : Sp := fun vs H Q _ => ∃ (a : Addr) (ns : List Int), vs = [.ref a, .int ns.length] ∧ SqT K H a (ns.map V.int) ∧ 1 ≤ ns.length ∧ ns.length ≤ 3 ∧ (∀ z ∈ ns, 0 ≤ z) ∧ ∀ H', Same H H' → Q .non H'
section
variable {P : Program} {w : World} {K : PySem.W.Frag} {mg : Str → Option Value} {base : Heap}
theorem ok_chkbox {f fS : Addr} {fd fdS : FuncData} {k : Nat} (F : Fun K "check_box" "check_box" sChkBox f fd) (ml : mg "len" = none)
    (GS' : FnOk P w K mg base CX0 (k + 3) fS fdS ["value", "least"] (spSidesO K)) (kS : PySem.W.keepIn K (.ref fS) = true) (bS : Binds K fdS ["value", "least"] []) (gS : mg "are_sides" = some (.ref fS)) : FnOk P w K mg base CX0 (k + 4) f fd ["box", "directions"] (spChkBox K) := by
  refine F.ok scChkBox (fun vs H Q E h => ?_) (fun cdv A outer s H vs Q E hr h => ?_)
  · obtain ⟨a, ns, rfl, _⟩ := h
    rfl
  · obtain ⟨a, ns, rfl, hS, h1, h3, hz, q⟩ := h
    refine ⟨_, pss_one (ps_if (PW.pt (pw_or (pt_not (pt_val (pe_call GS' hr (by rfl) gS kS bS .nil pass0 (pa_cons (pv 0) (pa_cons pe_int pa_nil)))))
      (pw_or1 (pt_cmpR op_ne (pe_callB call_len_seq (by rfl) ml PySem.boot_len (pa_cons (pv 0) pa_nil)) (pv 1) (nomark _))))) pss_never pss_nil), ?_⟩
    have hO : OD K H (.ref a) (some (ns.map V.int)) := ⟨a, rfl, hS, by rw [List.length_map]; omega, fun x hx => by
      obtain ⟨z, _, rfl⟩ := List.mem_map.mp hx
      exact .inl rfl⟩
    refine ⟨_, rfl, _, _, _, rfl, hO, fun H1 sm => ⟨true, by rw [sdB_box h1 h3 hz], iteF ?_⟩⟩
    refine ⟨_, rfl, a, _, rfl, .inr (Same.sqT sm hS), _, rfl, ?_⟩
    exact ⟨rfl, _, rfl, iteNS (by rw [List.length_map]) (q H1 sm)⟩
end
end Lk

namespace Lk
open PySem L2 Lx LamX LrA
/-! ### cells, refused when the first cell is asked for -/
def bxE (o : Option (List V)) : Nat := if sdB o 0 = true then (if 2000 < prodL (itsI o) then 2 else 0) else 1
def BxK (C1 C2 : Addr) (v : V) (e : Nat) (H : Hp) (E : XK) : Prop := ∀ (d : Addr) (H' : Hp), (∀ b u, H b = some u → H' b = some u) →
  (e = 1 → H' d = some (.xd (xflds "given" v "InvalidBox")) → E (.ref C1) (some d) H') ∧ (e = 2 → H' d = some (.xd (xflds "limit" (.int 2000) "TooManyCells")) → E (.ref C2) (some d) H')
theorem BxK.same {C1 C2 : Addr} {v : V} {e : Nat} {H H1 : Hp} {E : XK} (k : BxK C1 C2 v e H E) (s : Same H H1) : BxK C1 C2 v e H1 E := fun d H' x => k d H' fun b u h => x b u (s b u h)
def spCellsX (K : PySem.W.Frag) (C1 C2 : Addr) : SpG := fun vs H _ E => ∃ (v : V) (o : Option (List V)), vs = [v] ∧ OD K H v o ∧ (∀ z ∈ itsI o, -(2 ^ 64) < z ∧ z < 2 ^ 64) ∧ bxE o ≠ 0 ∧ BxK C1 C2 v (bxE o) H E
section
variable {P : Program} {w : World} {K : PySem.W.Frag} {mg : Str → Option Value} {base : Heap}
theorem okg_cellsX {f fN fM f1 f2 C1 C2 D1 D2 fS1 fS2 : Addr} {fd fdN fdM fd1 fd2 : FuncData} {k : Nat} (F : Fun K "cells" "cells" sCells f fd) {t3 : Tok} (mC : mg "MAX_CELLS" = some (.int 2000 t3))
    (R1 : RaiseC K mg "InvalidBox" C1 D1 fS1 f1) (G1 : FnOk P w K mg base CX0 (k + 2) f1 fd1 ["self", "given"] (spE1 K C1 "InvalidBox" "given")) (b1 : Binds K fd1 ["self", "given"] [])
    (R2 : RaiseC K mg "TooManyCells" C2 D2 fS2 f2) (G2 : FnOk P w K mg base CX0 (k + 2) f2 fd2 ["self", "limit"] (spE1 K C2 "TooManyCells" "limit")) (b2 : Binds K fd2 ["self", "limit"] [])
    (GN : FnOk P w K mg base CX0 (k + 3) fN fdN ["value", "least"] (spSidesO K)) (kN : PySem.W.keepIn K (.ref fN) = true) (bN : Binds K fdN ["value", "least"] []) (gN : mg "are_sides" = some (.ref fN))
    (GM : FnOk P w K mg base CX0 (k + 1) fM fdM ["numbers"] (spProdB K)) (kM : PySem.W.keepIn K (.ref fM) = true) (bM : Binds K fdM ["numbers"] []) (gM : mg "product" = some (.ref fM)) :
    GFn P w K mg base (k + 4) f fd ["box"] (spCellsX K C1 C2) := by
  obtain ⟨oc, od, kV, doc, pm, an, cdv, ct, osl, rfl, lk, hcd⟩ := F.ex
  refine gfn_of lk hcd scCells (fun vs H Q E h => ?_) fun A outer s H vs Q E pn hr h => ?_
  · obtain ⟨v, o, rfl, _⟩ := h
    rfl
  · obtain ⟨v, o, rfl, hO, bd, hne, q⟩ := h
    have hr1 : Room (k + 1) _ := hr.mono (by omega)
    refine ⟨_, gss_cons (gs_ps (ps_if (pt_not (pt_val (pe_call GN hr (by rfl) gN kN bN .nil pass0 (pa_cons (pv 0) (pa_cons pe_int pa_nil)))))
        (pss_one (ps_raise rfl takes_gcx (pmk_oex R1.er.ox R1.iC R1.tI G1 hr b1 .nil pass0 (by rfl) R1.at_ (pa_cons (pv 0) pa_nil)))) pss_nil))
      (gss_cons (gs_ps (ps_set (i := 1) scCells.nd rfl (.inl rfl) (pe_call GM hr1 (by rfl) gM kM bM .nil pass0 (pa_cons (pv 0) pa_nil))))
      (gss_cons (gs_ps (ps_if (pt_cmpR op_gt (pv 1) (pe_glob (v := .int 2000) (by rfl) mC ⟨_, rfl⟩) (nomark _))
        (pss_one (ps_raise rfl takes_gcx (pmk_oex R2.er.ox R2.iC R2.tI G2 hr b2 .nil pass0 (by rfl) R2.at_ (pa_cons (pe_glob (v := .int 2000) (by rfl) mC ⟨_, rfl⟩) pa_nil)))) pss_nil))
      (gss_pss pss_never))), ?_⟩
    refine ⟨_, rfl, v, 0, o, rfl, hO, fun H1 sm => ⟨_, rfl, ?_⟩⟩
    have q1 := q.same sm
    cases hs : sdB o 0 with
    | false =>
      have e : bxE o = 1 := by
        unfold bxE
        rw [hs]
        rfl
      refine iteT ⟨_, rfl, (by show 1 ≤ 1000; decide), fun b nb => ⟨b, v, rfl, upd_same, fun dx nd ne => ⟨rfl, dx, _, ?_, upd_same, ?_, ?_⟩⟩⟩
      · rw [upd_ne (Ne.symm ne), upd_same]
      · rw [← nd, upd_ne ne]
      · have nd' : H1 dx = none := by rw [← nd, upd_ne ne]
        exact (q1 dx _ fun c u h => made_ext (C := C1) nb nd' c u h).1 e upd_same
    | true =>
      obtain ⟨xs, rfl, ex, l1, l3, hz⟩ := sdB_ints hs
      have e : bxE (some xs) = if 2000 < prodL (xs.map uI) then 2 else 0 := by
        unfold bxE
        rw [hs]
        rfl
      have hp : 2000 < prodL (xs.map uI) := by
        refine Decidable.byContradiction fun z => hne ?_
        rw [e, if_neg z]
      have e2 : bxE (some xs) = 2 := by rw [e, if_pos hp]
      obtain ⟨a, rfl, hS, _⟩ := id hO
      rw [ex] at hS
      refine iteF ⟨_, rfl, a, xs.map uI, rfl, Same.sqT sm hS, bd, ?_⟩
      refine ⟨_, rfl, _, _, rfl, rfl, true, congrArg V.bl (decide_eq_true hp), iteT ⟨(by show 1 ≤ 1000; decide), fun b nb => ⟨b, .int 2000, rfl, upd_same, fun dx nd ne => ⟨rfl, dx, _, ?_, upd_same, ?_, ?_⟩⟩⟩⟩
      · rw [upd_ne (Ne.symm ne), upd_same]
      · rw [← nd, upd_ne ne]
      · have nd' : H1 dx = none := by rw [← nd, upd_ne ne]
        exact (q1 dx _ fun c u h => made_ext (C := C2) nb nd' c u h).2 e2 upd_same
end
end Lk

namespace Lk
open PySem L2 Lx LamX LrA
/-! ### InvalidBox and TooManyCells are made -/
theorem kIB : KScope ["self", "given"] (defScope sIB) := ⟨rfl, rfl, rfl, by decide +kernel, by decide +kernel, by decide +kernel, by decide +kernel⟩
theorem kTC : KScope ["self", "limit"] (defScope sTC) := ⟨rfl, rfl, rfl, by decide +kernel, by decide +kernel, by decide +kernel, by decide +kernel⟩
section
variable {P : Program} {w : World} {K : PySem.W.Frag} {mg : Str → Option Value} {base : Heap}
theorem ok_ib {C D f cc cda fS : Addr} {fd fdS : FuncData} {k : Nat} (F : InitF P K mg "InvalidBox.__init__" sIB C f cc cda fd) (T : ErrC K C D fS) (hno : PySem.W.findIn K (.ref C) "given" = some none)
    (GS : FnOk P w K mg base CX0 (k + 1) fS fdS ["self", "tag", "why"] (spSE K D)) (bS : Binds K fdS ["self", "tag", "why"] []) : FnOk P w K mg base CX0 (k + 2) f fd ["self", "given"] (spE1 K C "InvalidBox" "given") := by
  obtain ⟨oc, od, kV, doc, pm, an, ct, osl, rfl, lk⟩ := F.ex
  obtain ⟨cl, cld, csl, ll⟩ := F.ll
  refine fn_ofK (N := ["self", "given"]) lk F.cd ll kIB (fun vs H Q E h => ?_) (fun A outer s s1 H vs Q E hr h I => ?_)
  · obtain ⟨a, v, rfl, _⟩ := h
    rfl
  · obtain ⟨a, v, rfl, ea, q⟩ := h
    have S : SupF (cxK CX0 P w K mg base ["self", "given"] "InvalidBox.__init__" (defScope sIB) f (.ref cda) cc A outer s H E) f cc cda C :=
      ⟨rfl, rfl, rfl, rfl, rfl, rfl, rfl, ⟨_, _, _, _, _, lk, rfl, rfl⟩, F.lc, F.ll, F.lD, F.ms, F.tp, F.op⟩
    refine ks_wpAt_execs_cons ?_
    refine sup_initF (X := cxK CX0 P w K mg base ["self", "given"] "InvalidBox.__init__" (defScope sIB) f (.ref cda) cc A outer s H E) S I rfl ea T.s1 T.m1 T.tS T.fS GS hr bS pass0 (pa_cons pe_str (pa_cons pe_str pa_nil)) (R := fun H1 => ∃ dx, H dx = none ∧ dx ≠ a ∧ H1 = upd (upd H dx (exd dx [("tag", .str "InvalidBox")])) a (exo a C (some dx)))
      ⟨a, C, _, _, rfl, T.ox, ea, T.s2, T.m2, T.ve, T.nt, fun dx n ne => ⟨dx, n, ne, rfl⟩⟩ (fun H1 s2 I2 e => ?_) rfl rfl rfl _ rfl rfl
    obtain ⟨dx, n, ne, rfl⟩ := e
    refine wpAt_of_wpAny ((pss_one (ps_ost (X := cxK CX0 P w K mg base ["self", "given"] "InvalidBox.__init__" (defScope sIB) f (.ref cda) cc A outer s H E) (pv 0) (pv 1))).run [] s2 _ _ _ I2 ?_)
    refine ⟨_, rfl, _, rfl, a, C, rfl, T.ox, hno, .inr ⟨dx, _, upd_same, ?_, (by show 1 ≤ 900; decide), q dx n ne⟩⟩
    rw [upd_ne ne, upd_same]
theorem ok_tc {C D f cc cda fS : Addr} {fd fdS : FuncData} {k : Nat} (F : InitF P K mg "TooManyCells.__init__" sTC C f cc cda fd) (T : ErrC K C D fS) (hno : PySem.W.findIn K (.ref C) "limit" = some none)
    (GS : FnOk P w K mg base CX0 (k + 1) fS fdS ["self", "tag", "why"] (spSE K D)) (bS : Binds K fdS ["self", "tag", "why"] []) : FnOk P w K mg base CX0 (k + 2) f fd ["self", "limit"] (spE1 K C "TooManyCells" "limit") := by
  obtain ⟨oc, od, kV, doc, pm, an, ct, osl, rfl, lk⟩ := F.ex
  obtain ⟨cl, cld, csl, ll⟩ := F.ll
  refine fn_ofK (N := ["self", "limit"]) lk F.cd ll kTC (fun vs H Q E h => ?_) (fun A outer s s1 H vs Q E hr h I => ?_)
  · obtain ⟨a, v, rfl, _⟩ := h
    rfl
  · obtain ⟨a, v, rfl, ea, q⟩ := h
    have S : SupF (cxK CX0 P w K mg base ["self", "limit"] "TooManyCells.__init__" (defScope sTC) f (.ref cda) cc A outer s H E) f cc cda C :=
      ⟨rfl, rfl, rfl, rfl, rfl, rfl, rfl, ⟨_, _, _, _, _, lk, rfl, rfl⟩, F.lc, F.ll, F.lD, F.ms, F.tp, F.op⟩
    refine ks_wpAt_execs_cons ?_
    refine sup_initF (X := cxK CX0 P w K mg base ["self", "limit"] "TooManyCells.__init__" (defScope sTC) f (.ref cda) cc A outer s H E) S I rfl ea T.s1 T.m1 T.tS T.fS GS hr bS pass0 (pa_cons pe_str (pa_cons pe_str pa_nil)) (R := fun H1 => ∃ dx, H dx = none ∧ dx ≠ a ∧ H1 = upd (upd H dx (exd dx [("tag", .str "TooManyCells")])) a (exo a C (some dx)))
      ⟨a, C, _, _, rfl, T.ox, ea, T.s2, T.m2, T.ve, T.nt, fun dx n ne => ⟨dx, n, ne, rfl⟩⟩ (fun H1 s2 I2 e => ?_) rfl rfl rfl _ rfl rfl
    obtain ⟨dx, n, ne, rfl⟩ := e
    refine wpAt_of_wpAny ((pss_one (ps_ost (X := cxK CX0 P w K mg base ["self", "limit"] "TooManyCells.__init__" (defScope sTC) f (.ref cda) cc A outer s H E) (pv 0) (pv 1))).run [] s2 _ _ _ I2 ?_)
    refine ⟨_, rfl, _, rfl, a, C, rfl, T.ox, hno, .inr ⟨dx, _, upd_same, ?_, (by show 1 ≤ 900; decide), q dx n ne⟩⟩
    rw [upd_ne ne, upd_same]
end
end Lk

namespace Lk
open PySem L2 Lx LamX LrA
/-! ### list(cells(box)) where nothing is raised -/
abbrev noE : XK := fun _ _ _ => False
theorem passF {X : Cx} : Passes (L2.CX X.prog X.w) X noE := by
  intro pins σ H s e s' I c
  obtain ⟨a, B, H', cls, d, _, _, _, _, _, _, _, hW⟩ := c
  exact hW.elim
theorem noStopF {K : PySem.W.Frag} : NoStop K noE := fun _ _ _ h => h.elim
theorem pe_cells {X : Cx} {k : Nat} {f : Addr} {fd : FuncData} {e : Expr} {te : TE} {p p' pos pos' : Pos} (G : GFn X.prog X.w X.K X.mg X.base k f fd ["box"] (spCells X.K)) (hr : Room (k + 3) X.A) (hr' : Room k X.A) (gc : Gl X "cells") (hm : X.mg "cells" = some (.ref f)) (hk : PySem.W.keepIn X.K (.ref f) = true) (hb : Binds X.K fd ["box"] [])
    (gl : Gl X "list") (ml : X.mg "list" = none) (he : PE X e te) (h1 : starEach [e] X.env = (false, eval e X.env) :: starEach [] X.env := by rfl) (h2 : starEach [Expr.Call (.Name "cells" p') [e] [] pos'] X.env = (false, eval (Expr.Call (.Name "cells" p') [e] [] pos') X.env) :: starEach [] X.env := by rfl) :
    PE X (.Call (.Name "list" p) [.Call (.Name "cells" p') [e] [] pos'] [] pos) (tListG (tCallG (spCells X.K) [] noE (tCons te tNil))) :=
  pe_listG (pgen_call G hr' gc hm hk hb .nil (pa_cons (hs := h1) he pa_nil) (by decide) h1 (by rfl)) passF noStopF hr gl ml (by decide +kernel) (by decide) (by decide) h2
end Lk

/-! sorted(xs, key=o.m) by the promise of m -/
namespace LqA
open PySem PySem.Spec PyProof.Rows L2

/-- o.m as a value -/
def tBound (C g : Addr) (m : Str) (ta : TE) : TE := fun σ H Q => ta σ H fun x H1 => ∃ a dx fs, x = .ref a ∧ H1 a = some (.ins C dx fs) ∧ fs.lookup m = none ∧ ∀ q, H1 q = none → Q (.ref q) (upd H1 q (.met g a))
theorem pe_bound {X : Cx} {e : Expr} {m : Str} {pos : Pos} {ta : TE} {C g : Addr} (he : PE X e ta) (c : Cls X.K C) (k : BMeth X.K C m g) (hb : attributeBase e m X.env (eval e X.env) = eval e X.env) : PE X (.Attribute e m pos) (tBound C g m ta) := by
  refine ⟨fun pins s σ H Q I h => attr_of hb (thn (he.run pins s σ H _ I h) fun u s1 ⟨x, H1, I1, rx, a, dx, fs, ex, ea, l, q⟩ => ?_)⟩
  subst ex
  exact op_getbound I1 ea c k l rx q

theorem reads_ints {h : Heap} : ∀ {ns : List Int} {its : List Value}, Vals (ns.map V.int) its → ReadsAll h its (ns.map PyData.int) []
  | [], _, .nil => .nil
  | _ :: _, _, .cons ⟨t, e⟩ r => by
    subst e
    exact ReadsAll.cons (as := []) (bs := []) (.int _ t) (reads_ints r)
/-- the key as data -/
abbrev kd (key : List Int → List Int) (c : List Int) : PyData := .tuple ((key c).map .int)

section
variable {X : Cx} {pins : List (Addr × Obj)} {σ : L2.St} {k : Nat} {g o q a kS : Addr} {sp : Sp} {E : XK} {EE : Value → Shared → Prop}
theorem reads_tup {s : Shared} {H : Hp} {t : Addr} {ns : List Int} (I : Inv X pins σ H s) (h : SqT X.K H t (ns.map V.int)) : Reads s.heap (.ref t) (.tuple (ns.map .int)) [] := by
  obtain ⟨its, rv, ⟨ob, h1, h2, n, h3⟩, _⟩ := I.tuple h
  exact .tuple h1 h2 h3 (reads_ints rv)
theorem key_call {Qv : VK} {G : Hp} {s : Shared} {p : Addr} (F : FnR X.prog X.w X.K X.mg X.base CX0 k g sp) (hr : Room (k + 2) X.A) (I : Inv X pins σ G s) (hq : G q = some (.met g o)) (h : sp [.ref o, .ref p] G Qv E) :
    wpAny (model X.prog X.w) X.A.in1.in1 (call (.ref q) [.ref p]) (EP X pins σ Qv) EE s := by
  refine wpAny_call (call_met I hq (codeAny_mono (F X.A.in1.in1 X.stack s G [.ref o, .ref p] [.ref o, .ref p] Qv E (Room.in1 (Room.in1 hr)) (I.env0.in1.in1) (.cons rfl (.cons rfl .nil)) h) fun r s' hz => ?_))
  cases r with
  | error e => exact False.elim hz
  | ok fl =>
    cases fl with
    | ret u => exact I.after hz
    | next => exact False.elim hz
    | brk => exact False.elim hz
    | cont => exact False.elim hz

/-- one call of the key: Z tells what stands before turn i -/
def KTurn (K : PySem.W.Frag) (g o q : Addr) (sp : Sp) (E : XK) (as : List Addr) (cs : List (List Int)) (key : List Int → List Int) (Z : Nat → Hp → Prop) : Prop :=
  ∀ (i : Nat) (p : Addr) (c : List Int) (G : Hp), as[i]? = some p → cs[i]? = some c → Z i G → G q = some (.met g o) ∧ sp [.ref o, .ref p] G (fun u G' => ∃ t, u = .ref t ∧ SqT K G' t ((key c).map V.int) ∧ (∀ b zs, SqT K G b zs → SqT K G' b zs) ∧ Z (i + 1) G') E
/-- an object is taken away -/
def freed (h : Heap) (b : Addr) : Heap := h.update b fun o => { o with data := .freed }
theorem freed_ne {h : Heap} {b c : Addr} (n : c ≠ b) : (freed h b).get? c = h.get? c := Heap.get?_update_ne _ _ _ _ n
theorem freed_at {h : Heap} {b : Addr} {ob : Obj} (e : h.get? b = some ob) : (freed h b).get? b = none := by
  have lt := Heap.lt_size e
  unfold freed Heap.update Heap.get?
  simp [lt, Array.getElem_modify]
theorem addrs_of {as : List Addr} {cs : List (List Int)} : ∀ {out : List Value} {ds : List (List Int)}, PySem.W.EachIs (fun v c => ∃ p, v = Value.ref p ∧ (p, c) ∈ as.zip cs) out ds → ∃ ps : List Addr, out = ps.map Value.ref ∧ PySem.W.EachIs (fun p c => (p, c) ∈ as.zip cs) ps ds
  | _, _, .nil => ⟨[], rfl, .nil⟩
  | _, _, .cons ⟨p, e, m⟩ t => by
    obtain ⟨ps, e2, h2⟩ := addrs_of t
    exact ⟨p :: ps, by rw [e, e2]; rfl, .cons m h2⟩
theorem zip_refs {as : List Addr} {cs : List (List Int)} (hl : as.length = cs.length) : PySem.W.EachIs (fun v c => ∃ p, v = Value.ref p ∧ (p, c) ∈ as.zip cs) (as.map Value.ref) cs := by
  refine PySem.W.EachIs.of_zip (by rw [List.length_map]; exact hl) fun z hz => ?_
  obtain ⟨i, hi⟩ := List.mem_iff_getElem?.mp hz
  rw [List.getElem?_zip_eq_some] at hi
  obtain ⟨h1, h2⟩ := hi
  rw [List.getElem?_map] at h1
  cases h3 : as[i]? with
  | none => rw [h3] at h1; cases h1
  | some p =>
    rw [h3] at h1
    refine ⟨p, (Option.some.inj h1).symm, List.mem_iff_getElem?.mpr ⟨i, ?_⟩⟩
    rw [List.getElem?_zip_eq_some]
    exact ⟨h3, h2⟩

theorem key_rest {e1 : Nat} {P : PySem.Fin → Shared → Prop} {as : List Addr} {cs : List (List Int)} {key : List Int → List Int} {Z : Nat → Hp → Prop} {s : Shared} {H : Hp}
    (F : FnR X.prog X.w X.K X.mg X.base CX0 k g sp) (hr : Room (k + 2) X.A) (hlen : cs.length = as.length) (hZ : as.length ≤ sizeLine) (hne : ∀ c ∈ cs, key c ≠ []) (turn : KTurn X.K g o q sp E as cs key Z)
    (I : Inv X pins σ H s) (fa : FpOk X pins H a) (fk : FpOk X pins H kS) (hka : kS ≠ a) (na : s.heap.get? a = some (seqObj "list" #[] e1)) (nk : s.heap.get? kS = some (seqObj "list" #[] 0)) (z0 : Z 0 H)
    (fin : ∀ G s' ps, Inv X pins σ (upd G a (.lst (ps.map V.ref))) s' → G a = none → Z as.length G → PySem.W.EachIs (fun p c => (p, c) ∈ as.zip cs) ps (cs.mergeSort (PySem.W.dataLe false (kd key))) → P (.done (.ret .none)) s') :
    wpAny (model X.prog X.w) X.A.in1.in1 (ksk_rest a (.ref q) false (as.map Value.ref).toArray e1 (.ref kS)) P EE s := by
  have lz : (as.map Value.ref).length = as.length := List.length_map _
  unfold ksk_rest
  refine wpAny_bind (wpAny_rule ?_)
  first | rw [List.forIn_toArray] | rw [← Array.forIn_toList]
  refine wpAny_bind (ksk_fold (fun i s' => ∃ G kA e, Inv X pins σ G s' ∧ FpOk X pins G a ∧ FpOk X pins G kS ∧ s'.heap.get? a = some (seqObj "list" #[] e1) ∧ s'.heap.get? kS = some (seqObj "list" kA e) ∧ Z i G ∧
    PySem.W.EachIs (fun v c => ∃ t, v = Value.ref t ∧ SqT X.K G t ((key c).map V.int)) kA.toList (cs.take i)) (as.map Value.ref) 0 s ⟨H, #[], 0, I, fa, fk, na, nk, z0, by rw [List.take_zero]; exact .nil⟩ ?_ ?_)
  · rintro j x s' hx ⟨G, kA, e, I', fa', fk', na', nk', z', hk⟩
    simp only [Nat.zero_add] at hk z' ⊢
    obtain ⟨p, hp, rfl⟩ : ∃ p, as[j]? = some p ∧ x = Value.ref p := by
      rw [List.getElem?_map] at hx
      cases h3 : as[j]? with
      | none => rw [h3] at hx; cases hx
      | some p => rw [h3] at hx; exact ⟨p, rfl, (Option.some.inj hx).symm⟩
    have hj : j < as.length := (List.getElem?_eq_some_iff.mp hp).1
    obtain ⟨c, hc⟩ : ∃ c, cs[j]? = some c := ⟨_, List.getElem?_eq_getElem (by omega)⟩
    obtain ⟨t1, t2⟩ := turn j p c G hp hc z'
    have hz : kA.size ≤ as.length := by
      have := hk.length
      rw [Array.length_toList, List.length_take] at this
      omega
    have Ip := I'.pinned (fp := [a, kS]) (fun b hb => by
      rcases List.mem_cons.mp hb with z | z
      · rw [z]; exact fa'
      · rw [List.mem_singleton.mp z]; exact fk') (fun b hb => by
      rcases List.mem_cons.mp hb with z | z
      · rw [z]; exact ⟨_, na', fun v z => by cases z⟩
      · rw [List.mem_singleton.mp z]; exact ⟨_, nk', fun v z => by cases z⟩)
    refine wpAny_bind (wpAny_attempt (wpAny_mono (key_call (EE := fun _ _ => False) F hr Ip t1 t2) (fun v s2 he => ?_) fun _ _ hF => hF.elim))
    obtain ⟨u, G', I2, ru, t, rfl, ht, tu, z2⟩ := he
    obtain rfl : v = Value.ref t := ru
    have pa := I2.pin (a, _) (List.mem_append_right _ (List.mem_append_right _ (mem_pinsAt (fp := [a, kS]) (by simp) na')))
    have pk := I2.pin (kS, _) (List.mem_append_right _ (List.mem_append_right _ (mem_pinsAt (fp := [a, kS]) (by simp) nk')))
    have fk2 : FpOk X pins G' kS := ⟨pk.2.1, fk'.2⟩
    have I3 := I2.unpinned
    obtain ⟨c2, hc2⟩ : ∃ c2, (s2.heap.update kS (Obj.mapSeq (·.push (Value.ref t)))).get? kS = some (seqObj "list" (kA.push (Value.ref t)) c2) := ⟨_, get?_update_seq pk.1 (·.push (Value.ref t))⟩
    try dsimp only
    refine wpAny_bind (listUpdate_at pk.1 rfl ?_ (Nat.le_trans hz hZ) (by rw [Array.size_push]; omega))
    refine wpAny_pure ⟨rfl, G', kA.push (Value.ref t), c2, I3.turnedL (ch := [kS]) (t' := s2.toks) (fun b ob hb e => (Heap.get?_update_ne _ _ _ _ (fun z => hb (by rw [z]; simp))).trans e) (fun b hb => by rw [List.mem_singleton.mp hb]; exact fk2), ⟨pa.2.1, fa'.2⟩, fk2, (Heap.get?_update_ne _ _ _ _ hka.symm).trans pa.1, hc2, z2, ?_⟩
    have ek : cs.take (j + 1) = cs.take j ++ [c] := by rw [List.take_add_one, hc]; rfl
    have ea : (kA.push (Value.ref t)).toList = kA.toList ++ [Value.ref t] := by simp
    rw [ea, ek]
    exact PySem.W.each_snoc (R := fun v c => ∃ t, v = Value.ref t ∧ SqT X.K G' t ((key c).map V.int)) ⟨t, rfl, ht⟩ (hk.mono fun v c ⟨t, e, h⟩ => ⟨t, e, tu _ _ h⟩)
  · rintro s' ⟨G, kA, e, I', fa', fk', na', nk', z', hk⟩
    rw [Nat.zero_add, lz] at z' hk
    rw [List.take_of_length_le (by omega)] at hk
    have hal : PySem.W.AllAlike (cs.map (kd key)) := PySem.W.AllAlike.of fun b b' => by
      show PySem.W.alike (.tuple _) (.tuple _) = true
      unfold PySem.W.alike
      exact PySem.W.alike_ints _ _
    have hsk : PySem.W.Sortable (cs.map (kd key)) := .inl fun d hd => by
      obtain ⟨c, hc, rfl⟩ := List.mem_map.mp hd
      cases h3 : key c with
      | nil => exact absurd h3 (hne c hc)
      | cons x r => exact ⟨.int x, r.map .int, by unfold kd; rw [h3]; rfl⟩
    have hk' : PySem.W.EachIs (fun v d => ∃ as, Reads s'.heap v d as) kA.toList (cs.map (kd key)) := PySem.W.each_map (R := fun v d => ∃ as, Reads s'.heap v d as) (kd key) (hk.mono fun v c ⟨t, e, h⟩ => ⟨[], by rw [e]; exact reads_tup I' h⟩)
    have hsz : kA.size = (as.map Value.ref).length := by
      have := hk.length
      rw [Array.length_toList] at this
      omega
    try dsimp only
    refine wpAny_bind (listItems_at nk' rfl ?_)
    refine PySem.W.keyH_end (κ := PySem.W.dataKind s'.heap (cs.map (kd key))) (h₁ := freed s'.heap kS) (vs := as.map Value.ref) (fun b ob hb e => ?_) (freed_at nk') nk' na' hka (PySem.W.SortsAt.data hk' hal hsk fun d hd => ?_) hsz (by rw [lz]; exact hZ) fun h3 tk3 c3 k3 n3 => ?_
    · rw [freed_ne (fun z => by rw [z, freed_at nk'] at e; cases e)] at e
      exact e
    · obtain ⟨c, hc, rfl⟩ := List.mem_map.mp hd
      have e : (kd key c).depth = 1 := by
        unfold kd PyData.depth
        rw [PySem.W.depth_ints]
      rw [e]
      have := hr.un
      show X.A.units + 1 + 1 + 1 < _
      omega
    · have ko : PySem.W.KeyedOut false (cs.map (kd key)) (as.map Value.ref) (PySem.W.sortVals (PySem.W.dataKind s'.heap (cs.map (kd key))) false kA.toList (as.map Value.ref)) := ⟨s'.heap, kA.toList, hal, rfl, hk'⟩
      obtain ⟨ps, hps, ep⟩ := addrs_of (PySem.W.keyedOut_each (kd key) ko (zip_refs hlen.symm))
      rw [hps] at n3
      have lp : ps.length = as.length := by
        have := ep.length
        rw [List.length_mergeSort] at this
        omega
      have I4 := I'.turnedL (t' := tk3) (h' := h3) (ch := [kS, a]) (fun b ob hb e => k3 b ob (fun z => hb (by rw [z]; simp)) (by rw [freed_ne fun z => hb (by rw [z]; simp)]; exact e)) (fun b hb => by
        rcases List.mem_cons.mp hb with z | z
        · rw [z]; exact fk'
        · rw [List.mem_singleton.mp z]; exact fa')
      exact fin G _ ps (I4.take (t' := tk3) (fun b ob _ e => e) fa' ⟨by rw [List.length_map]; omega, ps.map Value.ref, c3, vals_refs ps, n3⟩) fa'.1 z' ep
theorem refs_are : ∀ {as : List Addr} {its : List Value}, Vals (as.map V.ref) its → its = as.map Value.ref
  | [], _, .nil => rfl
  | a :: as, _, .cons e r => by
    have e' : _ = Value.ref a := e
    rw [e', refs_are r]
    rfl
/-- sorted(l, key=q), q the method g of o -/
def rSortK (K : PySem.W.Frag) (g : Addr) (sp : Sp) (E : XK) : List V → List V → Hp → VK → Prop := fun vs zs H Q => ∃ (l q o : Addr) (as : List Addr) (cs : List (List Int)) (key : List Int → List Int) (Z : Nat → Hp → Prop),
  vs = [.ref l] ∧ zs = [.ref q] ∧ SqL K H l (as.map V.ref) ∧ cs.length = as.length ∧ (∀ c ∈ cs, key c ≠ []) ∧ Z 0 H ∧ KTurn K g o q sp E as cs key Z ∧
  ∀ G ps b, Z as.length G → PySem.W.EachIs (fun p c => (p, c) ∈ as.zip cs) ps (cs.mergeSort (PySem.W.dataLe false (kd key))) → G b = none → Q (.ref b) (upd G b (.lst (ps.map V.ref)))
theorem cr_sortK (F : FnR X.prog X.w X.K X.mg X.base CX0 k g sp) (hr : Room (k + 2) X.A) : CallRK X (.builtin "sorted") [Str.ofString "key"] (rSortK X.K g sp E) := by
  intro pins s σ H vs zs us ws Q I r rz h
  obtain ⟨l, q, o, as, cs, key, Z, rfl, rfl, hs, hlen, hne, z0, turn, fin⟩ := h
  obtain rfl := Vals.ref1 r
  obtain ⟨w1, rfl, e1⟩ := vals1 rz
  obtain rfl : w1 = Value.ref q := e1
  obtain ⟨its, rv, hl, hz⟩ := I.list hs
  obtain rfl := refs_are rv
  rw [List.length_map] at hz
  have lz : (as.map Value.ref).length ≤ sizeLine := by rw [List.length_map]; exact hz
  have lz2 : (as.map Value.ref).toArray.size ≤ sizeLine := by rw [List.size_toArray]; exact lz
  refine PySem.W.sorted_of_sort hl.isList lz (ksk_s1 _ _) (fun _ => ksk_l1 _ _) fun E' => ?_
  show wpAny _ _ ([Str.ofString "key"].zip [Value.ref q] |> fun kw => Builtin.«list.sort» ⟨[.ref (s.heap.objs.size + 1)], kw⟩) _ _ _
  show wpAny _ _ (Builtin.«list.sort» ⟨[.ref (s.heap.objs.size + 1)], [(Str.ofString "key", Value.ref q)]⟩) _ _ _
  rw [ksk_t1]
  have ho := PySem.W.copyHeap_at s.heap (as.map Value.ref)
  obtain ⟨e1, ho1⟩ : ∃ e1, ((PySem.W.copyHeap s.heap (as.map Value.ref)).update (s.heap.objs.size + 1) (Obj.mapSeq fun _ => (#[] : Array Value))).get? (s.heap.objs.size + 1) = some (seqObj "list" #[] e1) := ⟨_, get?_update_seq ho fun _ => #[]⟩
  have la : s.heap.objs.size + 1 < (PySem.W.copyHeap s.heap (as.map Value.ref)).objs.size := Heap.lt_size ho
  have hsz : (((PySem.W.copyHeap s.heap (as.map Value.ref)).update (s.heap.objs.size + 1) (Obj.mapSeq fun _ => (#[] : Array Value))).push (seqObj "tuple" (as.map Value.ref).toArray 0)).objs.size = (PySem.W.copyHeap s.heap (as.map Value.ref)).objs.size + 1 := by
    rw [size_push', Heap.size_update]
  have hk2 : s.heap.objs.size + 2 < (((PySem.W.copyHeap s.heap (as.map Value.ref)).update (s.heap.objs.size + 1) (Obj.mapSeq fun _ => (#[] : Array Value))).push (seqObj "tuple" (as.map Value.ref).toArray 0)).objs.size := by rw [hsz]; omega
  unfold ksk_tree
  refine wpAny_bind (listItems_at ho rfl ?_)
  refine wpAny_bind (listUpdate_at ho rfl ?_ lz2 (Nat.zero_le _))
  refine wpAny_bind (seqEpoch_at ho1 rfl ?_)
  refine wpAny_bind (wpAny_newTuple ?_ (by show (as.map Value.ref).length ≤ _; exact lz))
  refine wpAny_bind (wpAny_newList ?_ (Nat.zero_le _))
  refine wpAny_holding ?_
  have I6 := I.kept (t' := s.toks) (h' := (((PySem.W.copyHeap s.heap (as.map Value.ref)).update (s.heap.objs.size + 1) (Obj.mapSeq fun _ => (#[] : Array Value))).push (seqObj "tuple" (as.map Value.ref).toArray 0)).push (seqObj "list" #[] 0)) fun b u e =>
    Heap.get?_push_of_some _ (Heap.get?_push_of_some _ ((Heap.get?_update_ne _ _ _ _ (Nat.ne_of_lt (Nat.lt_succ_of_lt (Heap.lt_size e)))).trans (PySem.W.copyHeap_old e)))
  refine key_rest (P := fun f s' => f = .done (.ret .none) ∧ EP X pins σ Q (.ref (s.heap.objs.size + 1)) s') (a := s.heap.objs.size + 1) (e1 := e1) (E := E) (cs := cs) (key := key) (Z := Z) (H := H) (o := o) F hr hlen hz hne turn I6 (I.fpOk (Nat.le_succ _) (I.hok.fresh (Nat.le_succ _))) (I.fpOk (Nat.le_trans (by omega) (Nat.le_of_lt hk2)) (I.hok.fresh (Nat.le_trans (by omega) (Nat.le_of_lt hk2)))) (Nat.ne_of_gt (Nat.lt_trans (Nat.lt_succ_self _) hk2))
    (Heap.get?_push_of_some _ (Heap.get?_push_of_some _ ho1)) (Heap.get?_push_size _ rfl) z0 fun G s' ps I' na z ep => ⟨rfl, .ref _, _, I', rfl, fin G ps _ z ep na⟩
end
end LqA

namespace Lk
open PySem L2 Lx LamX LrA LqA
/-! ### order: the cells of a box, sorted by their paths -/
def leF (ds : List Int) (t : Tr) : List Int → List Int → Bool := PySem.W.dataLe false (kd (full ds t))
def spOrder (K : PySem.W.Frag) (C : Addr) : Sp := fun vs H Q _ => ∃ (p b : Addr) (ds : List Int) (n : Nat) (t : Tr) (ns : List Int), vs = [.ref p, .ref b] ∧ ScanAt K C H p ds n t ∧ SqT K H b (ns.map V.int) ∧ ns.length = ds.length ∧ (∀ z ∈ ns, 0 ≤ z ∧ z < 2 ^ 64) ∧ prodL ns ≤ 2000 ∧
  ∀ (H' : Hp) (R : Addr) (ws : List V), Same H H' → H R = none → H' R = some (.lst ws) → HdsAt K H' ((cellN ns).mergeSort (leF ds t)) ws → Q (.ref R) H'
theorem hds_refs {K : PySem.W.Frag} {H : Hp} : ∀ {l : List (List Int)} {ws : List V}, HdsAt K H l ws → ∃ as : List Addr, ws = as.map V.ref ∧ as.length = l.length ∧ ∀ p c, (p, c) ∈ as.zip l → SqT K H p (c.map V.int)
  | [], _, h => ⟨[], h, rfl, fun p c z => by simp at z⟩
  | c :: r, _, ⟨a, wr, h1, h2, h3⟩ => by
    obtain ⟨as, e1, e2, e3⟩ := hds_refs h3
    refine ⟨a :: as, by rw [h1, e1]; rfl, by rw [List.length_cons, List.length_cons, e2], fun p c' z => ?_⟩
    rw [List.zip_cons_cons] at z
    rcases List.mem_cons.mp z with e | e
    · cases e
      exact h2
    · exact e3 p c' e
theorem hds_each {K : PySem.W.Frag} {H : Hp} : ∀ {ps : List Addr} {l : List (List Int)}, PySem.W.EachIs (fun p c => SqT K H p (c.map V.int)) ps l → HdsAt K H l (ps.map V.ref)
  | _, _, .nil => rfl
  | p :: ps, c :: l, .cons h t => ⟨p, ps.map V.ref, rfl, h, hds_each t⟩
theorem cellN_len {ns : List Int} {c : List Int} (h : c ∈ cellN ns) : c.length = ns.length := by
  obtain ⟨i, _, rfl⟩ := List.mem_map.mp h
  exact pAt_len ns i
theorem sorted_uniq {α : Type} {le : α → α → Bool} : ∀ {l m : List α}, l.Pairwise (fun a b => le a b = true) → m.Pairwise (fun a b => le a b = true) → l.Perm m → (∀ a ∈ l, ∀ b ∈ l, le a b = true → le b a = true → a = b) → l = m
  | [], m, _, _, p, _ => (List.Perm.eq_nil p.symm).symm
  | x :: l, [], _, _, p, _ => absurd p.length_eq (by simp)
  | x :: l, y :: m, hl, hm, p, anti => by
    have hx := List.pairwise_cons.mp hl
    have hy := List.pairwise_cons.mp hm
    have ym : y ∈ x :: l := p.mem_iff.mpr List.mem_cons_self
    have e : x = y := by
      rcases List.mem_cons.mp (p.mem_iff.mp (List.mem_cons_self (a := x) (l := l))) with z | z
      · exact z
      · rcases List.mem_cons.mp ym with u | u
        · exact u.symm
        · exact anti x List.mem_cons_self y ym (hx.1 y u) (hy.1 x z)
    subst e
    rw [sorted_uniq hx.2 hy.2 p.cons_inv fun a ha b hb => anti a (List.mem_cons_of_mem _ ha) b (List.mem_cons_of_mem _ hb)]
/-- an arrangement that is sorted by the paths is what sorting gives -/
theorem order_is {ds : List Int} {t : Tr} {l m : List (List Int)} (hm : m.Pairwise (fun a b => leF ds t a b = true)) (hp : m.Perm l) (anti : ∀ a ∈ m, ∀ b ∈ m, leF ds t a b = true → leF ds t b a = true → a = b) : l.mergeSort (leF ds t) = m := by
  have T : PySem.W.TotalLe (leF ds t) := by
    unfold leF PySem.W.dataLe
    exact PySem.W.sortLe_total _ _ _
  exact (sorted_uniq hm (PySem.W.sort_pairwise T l) (hp.trans (List.mergeSort_perm l _).symm) anti).symm
section
variable {P : Program} {w : World} {K : PySem.W.Frag} {mg : Str → Option Value} {base : Heap}
theorem ok_order {f fB fC fP C : Addr} {fd fdB fdC fdP : FuncData} {k : Nat} (F : Fun K "order" "Scan.order" sOrder f fd) (T : Txt K mg C) (ml : mg "len" = none) (mli : mg "list" = none) (mso : mg "sorted" = none)
    (GB : FnOk P w K mg base CX0 (k + 4) fB fdB ["box", "directions"] (spChkBox K)) (kB : PySem.W.keepIn K (.ref fB) = true) (bB : Binds K fdB ["box", "directions"] []) (gB : mg "check_box" = some (.ref fB))
    (GC : GFn P w K mg base (k + 4) fC fdC ["box"] (spCells K)) (kC : PySem.W.keepIn K (.ref fC) = true) (bC : Binds K fdC ["box"] []) (gC : mg "cells" = some (.ref fC))
    (GP : FnOk P w K mg base CX0 (k + 5) fP fdP ["self", "place"] (spSPath K C)) (bP : Binds K fdP ["self", "place"] []) (mP : BMeth K C "path" fP) :
    FnOk P w K mg base CX0 (k + 8) f fd ["self", "box"] (spOrder K C) := by
  refine F.ok scOrder (fun vs H Q E h => ?_) (fun cdv A outer s H vs Q E hr h => ?_)
  · obtain ⟨p, b, ds, n, t, ns, rfl, _⟩ := h
    rfl
  · obtain ⟨p, b, ds, n, t, ns, rfl, S, hB, ln, hz, h2k, q⟩ := h
    have hr4 : Room (k + 4) _ := hr.mono (by omega)
    have hr7 : Room (k + 4 + 3) _ := hr.mono (by omega)
    have hr7' : Room (k + 5 + 2) _ := hr.mono (by omega)
    have GR := FnOk.raw GP bP (dvs := []) .nil
    refine ⟨_, pss_cons (ps_expr (pe_call GB hr4 (by rfl) gB kB bB .nil pass0 (pa_cons (pv 1) (pa_cons (pe_callB call_len_seq (by rfl) ml PySem.boot_len (pa_cons (pe_fld (pv 0) rfl) pa_nil)) pa_nil))))
      (pss_cons (ps_set (i := 2) scOrder.nd rfl (.inl rfl) (pe_cells GC hr7 hr4 (by rfl) gC kC bC (by rfl) mli (pv 1)))
      (pss_one (ps_ret (pe_callBK (cr_sortK (E := noE) GR hr7') (by rfl) mso (by decide +kernel) (pa_cons (pv 2) pa_nil) (pk_cons (pe_bound (pv 0) T.cl mP rfl) pk_nil))))), ?_⟩
    obtain ⟨⟨dx, a, v, h1, h2, h3⟩, hD, l1, l3, hn, hw, hdp, hsz⟩ := id S
    have hz0 : ∀ z ∈ ns, 0 ≤ z := fun z h => (hz z h).1
    refine ⟨_, rfl, _, rfl, p, C, dx, _, _, rfl, h1, T.cl, T.n3, sf_div _ _ _ _, a, _, rfl, .inr h2, b, ns, ?_, hB, by omega, by omega, hz0, fun H1 s1 => ?_⟩
    · rw [List.length_map, ln]
      rfl
    refine ⟨_, rfl, b, ns, rfl, Same.sqT s1 hB, by omega, by omega, hz, prodL_nn hz0, h2k, fun g z hm => ?_, fun H2 ws s2 hW R nR => ?_⟩
    · obtain ⟨g1, g2⟩ := prodL_sides hz0 g z hm
      exact ⟨g1, by omega⟩
    obtain ⟨as, e1, e2, e3⟩ := hds_refs hW
    have s3 := same_new (o := .lst ws) nR
    have s13 := (s1.trans s2).trans s3
    refine ⟨_, rfl, _, rfl, p, dx, _, rfl, s13 _ _ h1, sf_no _ _ _ _ _ (by decide +kernel), fun qb nqb => ?_⟩
    have s4 := same_new (o := .met fP p) nqb
    refine ⟨R, qb, p, as, cellN ns, full ds t, fun _ G => Same (upd (upd H2 R (.lst ws)) qb (.met fP p)) G, rfl, rfl, ?_, e2.symm, fun c hc z => ?_, Same.refl _, fun i pa c G ha hc z => ⟨z _ _ upd_same, ?_⟩, fun G ps b' z ep nb => ?_⟩
    · rw [← e1]
      exact SqL.of (s4 _ _ upd_same)
    · have lc := cellN_len hc
      have : (full ds t c).length = 0 := by rw [z]; rfl
      unfold full at this
      rw [List.length_append] at this
      omega
    · have hm : (pa, c) ∈ as.zip (cellN ns) := List.mem_iff_getElem?.mpr ⟨i, by rw [List.getElem?_zip_eq_some]; exact ⟨ha, hc⟩⟩
      exact ⟨p, pa, ds, n, t, c, rfl, S.same ((s13.trans s4).trans z), Same.sqT ((s3.trans s4).trans z) (e3 pa c hm), by rw [cellN_len (List.mem_of_getElem? hc), ln], fun G' q' sg hq => ⟨q', rfl, hq, Same.tups sg, z.trans sg⟩⟩
    · have s5 := same_new (o := .lst (ps.map V.ref)) nb
      exact q _ b' _ (((s13.trans s4).trans z).trans s5) (((s13.trans s4).trans z).free nb) upd_same (hds_each (ep.mono fun p' c' hm => Same.sqT (((s3.trans s4).trans z).trans s5) (e3 p' c' hm)))
end
end Lk

namespace Lk
open PySem L2 Lx LamX
/-! ### multiples of divisors -/
def Mul (nds ds : List Int) : Prop := nds.length = ds.length ∧ ∀ (i : Nat) (u v : Int), nds[i]? = some u → ds[i]? = some v → u % v = 0
def muB (nds ds : List Int) : Bool := decide (nds.length = ds.length) && ((List.zipWith (fun u v => decide (u % v = 0)) nds ds).all id)
theorem muB_iff {nds ds : List Int} : muB nds ds = true ↔ Mul nds ds := by
  unfold muB Mul
  rw [Bool.and_eq_true_iff, decide_eq_true_eq]
  refine and_congr_right fun hl => ?_
  rw [List.all_eq_true]
  constructor
  · intro h i u v hu hv
    have : (List.zipWith (fun u v => decide (u % v = 0)) nds ds)[i]? = some (decide (u % v = 0)) := by rw [List.getElem?_zipWith, hu, hv]
    exact of_decide_eq_true (h _ (List.mem_of_getElem? this))
  · intro h b hb
    obtain ⟨i, hi⟩ := List.mem_iff_getElem?.mp hb
    rw [List.getElem?_zipWith] at hi
    cases hu : nds[i]? with
    | none => rw [hu] at hi; cases hi
    | some u =>
      cases hv : ds[i]? with
      | none => rw [hu, hv] at hi; cases hi
      | some v =>
        rw [hu, hv] at hi
        have hi : some (decide (u % v = 0)) = some b := hi
        cases hi
        exact decide_eq_true (h i u v hu hv)
theorem Mul.tail {u v : Int} {nds ds : List Int} (m : Mul (u :: nds) (v :: ds)) : u % v = 0 ∧ Mul nds ds := by
  refine ⟨m.2 0 u v rfl rfl, ?_, fun i a b ha hb => m.2 (i + 1) a b (by simpa using ha) (by simpa using hb)⟩
  have := m.1
  simpa using this
def zer (d : Nat) : List Int := List.replicate d 0
theorem plus_zer : ∀ (x : List Int), plus x (zer x.length) = x
  | [] => rfl
  | a :: x => by
    show (a + 0) :: plus x (zer x.length) = a :: x
    rw [plus_zer x, Int.add_zero]
theorem plus_zer' {x : List Int} {d : Nat} (h : x.length = d) : plus x (zer d) = x := by
  rw [← h]
  exact plus_zer x
theorem rst_cls : ∀ {nds ds z : List Int}, Mul nds ds → nds.length = z.length → ∀ n, clsF (ds.zip (rst nds z)) n = clsF (ds.zip z) n
  | [], [], _, _, _, n => by simp [rst, clsF]
  | [], _ :: _, _, m, _, n => by cases m.1
  | _ :: _, [], _, m, _, n => by cases m.1
  | u :: nds, v :: ds, [], _, h, n => by cases h
  | u :: nds, v :: ds, s :: z, m, h, n => by
    obtain ⟨hm, mt⟩ := m.tail
    show clsF (ds.zip (rst nds z)) (n * v + (s % u) % v) = clsF (ds.zip z) (n * v + s % v)
    rw [rst_cls mt (by simpa using h), Int.emod_emod_of_dvd s (Int.dvd_of_emod_eq_zero hm)]
theorem ref_src {ds nds z : List Int} {n' : Nat} (D : Divs nds) (hn : prodL nds = (n' : Int)) (m : Mul nds ds) (h1 : 1 ≤ ds.length) (h3 : ds.length ≤ 3) (hz : z.length = ds.length) :
    (srcM ds (idM ds.length) (zer ds.length) nds n').getD (cls nds z).toNat 0 = cls ds z := by
  have hz' : nds.length = z.length := by rw [m.1, hz]
  have b := cls_in D hn hz'
  rw [srcM_get (by omega), show (((cls nds z).toNat : Nat) : Int) = cls nds z by omega, mul_id h1 h3 (by rw [pAt_len, m.1]), pAt_cls hz' D.one]
  have lr : (rst nds z).length = ds.length := by
    unfold rst
    rw [List.length_map, List.length_zip, m.1]
    omega
  rw [plus_zer' lr]
  exact rst_cls m hz' 0
theorem ref_srcs {ds nds : List Int} {n n' : Nat} (D : Divs ds) (hn : prodL ds = (n : Int)) (D' : Divs nds) (hn' : prodL nds = (n' : Int)) (m : Mul nds ds) (h1 : 1 ≤ ds.length) (h3 : ds.length ≤ 3) : Srcs (srcM ds (idM ds.length) (zer ds.length) nds n') n := by
  constructor
  · intro c hc
    unfold srcM at hc
    obtain ⟨j, hj, rfl⟩ := List.mem_map.mp hc
    refine cls_in D hn ?_
    have lp : (pAt nds (j : Int)).length = ds.length := by rw [pAt_len, m.1]
    rw [mul_id h1 h3 lp, plus_zer' lp, lp]
  · intro c c0 c1
    have lp : (pAt ds c).length = ds.length := pAt_len ds c
    have b := cls_in (n := n') D' hn' (z := pAt ds c) (by rw [lp, m.1])
    refine ⟨(cls nds (pAt ds c)).toNat, by rw [srcM_len]; omega, ?_⟩
    rw [ref_src D' hn' m h1 h3 lp]
    exact cls_pAt D c0 (by rw [hn]; exact c1)
def rfT (ds nds : List Int) (n' : Nat) (e t : Tr) : Tr := mvT (srcM ds (idM ds.length) (zer ds.length) nds n') (idM ds.length) e t
theorem ref_ok {ds nds : List Int} {n n' : Nat} {t : Tr} (O : ScanOk ds n t) (D' : Divs nds) (hn' : prodL nds = (n' : Int)) (m : Mul nds ds) : ScanOk nds n' (rfT ds nds n' .pl t) := by
  refine ⟨D', by rw [m.1]; exact O.l1, by rw [m.1]; exact O.l3, hn', ?_, ?_, ?_⟩
  · have := mvT_wf (ref_srcs O.dv O.pr D' hn' m O.l1 O.l3) O.l1 O.l3 t O.wf
    rw [srcM_len] at this
    rw [m.1]
    exact this
  · unfold rfT
    rw [mvT_dep]
    exact O.dp
  · unfold rfT
    rw [mvT_size]
    exact O.sz
theorem ref_lt {ds nds : List Int} {n n' : Nat} {t : Tr} {x y : List Int} (O : ScanOk ds n t) (D' : Divs nds) (hn' : prodL nds = (n' : Int)) (m : Mul nds ds) (hx : x.length = ds.length) (hy : y.length = ds.length) :
    lx (full nds (rfT ds nds n' .pl t) x) (full nds (rfT ds nds n' .pl t) y) = lx (full ds t x) (full ds t y) := by
  have c1 := cls_in D' hn' (z := x) (by rw [m.1, hx])
  have c2 := cls_in D' hn' (z := y) (by rw [m.1, hy])
  have lz : (zer ds.length).length = ds.length := List.length_replicate
  have e := mv_lt (p := zer ds.length) (x := x) (y := y) (c1 := cls nds x) (c2 := cls nds y) (ref_srcs O.dv O.pr D' hn' m O.l1 O.l3) O.l1 O.l3 (by rw [srcM_len]; exact c1) (by rw [srcM_len]; exact c2) (by rw [lz]; exact hx) (by rw [lz]; exact hy) t O.wf
  rw [ref_src D' hn' m O.l1 O.l3 hx, ref_src D' hn' m O.l1 O.l3 hy, plus_zer' hx, plus_zer' hy] at e
  exact e
theorem ref_tied {ds nds : List Int} {n n' : Nat} {t : Tr} {x y : List Int} (O : ScanOk ds n t) (D' : Divs nds) (hn' : prodL nds = (n' : Int)) (m : Mul nds ds) (hx : x.length = ds.length) (hy : y.length = ds.length) :
    (pth (rfT ds nds n' .pl t) (cls nds x) x = pth (rfT ds nds n' .pl t) (cls nds y) y) ↔ (pth t (cls ds x) x = pth t (cls ds y) y) := by
  have c1 := cls_in D' hn' (z := x) (by rw [m.1, hx])
  have c2 := cls_in D' hn' (z := y) (by rw [m.1, hy])
  have lz : (zer ds.length).length = ds.length := List.length_replicate
  have e := mv_eq (p := zer ds.length) (x := x) (y := y) (c1 := cls nds x) (c2 := cls nds y) (ref_srcs O.dv O.pr D' hn' m O.l1 O.l3) O.l1 O.l3 (by rw [srcM_len]; exact c1) (by rw [srcM_len]; exact c2) (by rw [lz]; exact hx) (by rw [lz]; exact hy) t O.wf
  rw [ref_src D' hn' m O.l1 O.l3 hx, ref_src D' hn' m O.l1 O.l3 hy, plus_zer' hx, plus_zer' hy] at e
  exact e
end Lk

namespace Lk
open PySem L2 Lx LamX LrA LqA
/-! ### odd values are no places -/
def spOddN (K : PySem.W.Frag) : Sp := fun vs H Q _ => ∃ (b l : Addr), vs = [.ref b] ∧ BagAt H b l ∧ ∀ (v : V) (o : Option (List V)) (H' : Hp), OD K H' v o → OB o → (∀ c : Int, 1 ≤ c → c ≤ 3 → plB o c = false) → BagAt H' b l → But b H H' → Q v H'
theorem odd_none : ∀ c : Int, 1 ≤ c → c ≤ 3 → plB none c = false := fun _ _ _ => rfl
section
variable {P : Program} {w : World} {K : PySem.W.Frag} {mg : Str → Option Value} {base : Heap}
end
/-! ### cells -/
theorem cls_pAtG {ds : List Int} {c : Int} (D : ∀ d ∈ ds, 1 ≤ d) (h0 : 0 ≤ c) (h1 : c < prodL ds) : cls ds (pAt ds c) = c := by
  have e : (ds.zip (pAt ds c)).reverse = ds.reverse.zip (restsR ds.reverse c) := by
    unfold pAt
    have := List.reverse_zipWith (f := Prod.mk) (l := ds) (l' := (restsR ds.reverse c).reverse) (by simp [restsR_len])
    rw [List.reverse_reverse] at this
    exact this
  rw [cls_R, e]
  refine cls_back _ c (fun d hd => D d (List.mem_reverse.mp hd)) h0 ?_
  rw [prodL_perm (List.reverse_perm ds)]
  exact h1
theorem cellN_nil {ns : List Int} (h : prodL ns ≤ 0) : cellN ns = [] := by
  unfold cellN
  have : (prodL ns).toNat = 0 := by omega
  rw [this]
  rfl
theorem cellN_nodup {ns : List Int} (hz : ∀ z ∈ ns, 0 ≤ z) : (cellN ns).Nodup := by
  by_cases hp : 1 ≤ prodL ns
  · have h1 : ∀ z ∈ ns, 1 ≤ z := fun z h => (prodL_sides hz hp z h).1
    unfold cellN
    refine List.pairwise_map.mpr (List.Pairwise.imp_of_mem ?_ (List.nodup_range (n := (prodL ns).toNat)))
    intro a b ha hb ne e
    have la := List.mem_range.mp ha
    have lb := List.mem_range.mp hb
    have ea := cls_pAtG (c := (a : Int)) h1 (by omega) (by omega)
    have eb := cls_pAtG (c := (b : Int)) h1 (by omega) (by omega)
    rw [e, eb] at ea
    omega
  · rw [cellN_nil (by omega)]
    exact List.nodup_nil
theorem rst_get : ∀ {ns c : List Int} {i : Nat} {u s : Int}, (rst ns c)[i]? = some u → ns[i]? = some s → ∃ v, c[i]? = some v ∧ u = v % s
  | [], _, i, u, s, _, h2 => by simp at h2
  | d :: ns, [], i, u, s, h1, _ => by simp [rst] at h1
  | d :: ns, x :: c, 0, u, s, h1, h2 => by
    have e1 : x % d = u := Option.some.inj h1
    have e2 : d = s := Option.some.inj h2
    exact ⟨x, rfl, by rw [← e1, e2]⟩
  | d :: ns, x :: c, i + 1, u, s, h1, h2 => rst_get (ns := ns) (c := c) (i := i) h1 (by simpa using h2)
theorem mem_cellN {ns c : List Int} (hz : ∀ z ∈ ns, 0 ≤ z) (h : c ∈ cellN ns) {i : Nat} {u s : Int} (h1 : c[i]? = some u) (h2 : ns[i]? = some s) : 0 ≤ u ∧ u < s := by
  obtain ⟨j, hj, rfl⟩ := List.mem_map.mp h
  have lj := List.mem_range.mp hj
  have hp : 1 ≤ prodL ns := by omega
  have h1' : ∀ z ∈ ns, 1 ≤ z := fun z h => (prodL_sides hz hp z h).1
  have e := cls_pAtG (c := (j : Int)) h1' (by omega) (by omega)
  have e2 := pAt_cls (z := pAt ns (j : Int)) (by rw [pAt_len]) h1'
  rw [e] at e2
  rw [e2] at h1
  obtain ⟨v, _, rfl⟩ := rst_get h1 h2
  have s1 := h1' s (List.mem_of_getElem? h2)
  exact ⟨Int.emod_nonneg _ (by omega), Int.emod_lt_of_pos _ (by omega)⟩
theorem step_nil (l : List Int) : l.foldl stepC [] = [] := by
  induction l with
  | nil => rfl
  | cons x r ih => exact ih
theorem step_zero : ∀ (l : List Int) (f : List (List Int)), (0 : Int) ∈ l → l.foldl stepC f = []
  | x :: r, f, h => by
    rcases List.mem_cons.mp h with e | e
    · subst e
      show r.foldl stepC (stepC f 0) = []
      have : stepC f 0 = [] := by
        unfold stepC
        simp [rng0]
      rw [this]
      exact step_nil r
    · exact step_zero r _ e
theorem prodL_zero : ∀ {l : List Int}, (0 : Int) ∈ l → prodL l = 0
  | x :: r, h => by
    rcases List.mem_cons.mp h with e | e
    · subst e
      exact Int.zero_mul _
    · show x * prodL r = 0
      rw [prodL_zero e, Int.mul_zero]
theorem cellsL_cellN {ns : List Int} (hz : ∀ z ∈ ns, 0 ≤ z) : cellsL ns = cellN ns := by
  by_cases h0 : (0 : Int) ∈ ns
  · rw [cellN_nil (by rw [prodL_zero h0]; decide)]
    exact step_zero ns _ h0
  · exact cells_pAt fun z h => by
      have := hz z h
      have : z ≠ 0 := fun e => h0 (e ▸ h)
      omega
/-! ### the two orders -/
abbrev k2 (f : List Int → List Int) (c : List Int) : PyData := .tuple [.tuple ((f c).map .int), .tuple (c.map .int)]
theorem lt_ints (xs ys : List Int) : PySem.W.dataLt (.tuple (xs.map .int)) (.tuple (ys.map .int)) = decide (xs < ys) := by
  rw [PySem.W.dataLt_tuple]
  exact PySem.W.dataLt_ints xs ys
theorem alike_tup (xs ys : List Int) : PySem.W.alike (.tuple (xs.map .int)) (.tuple (ys.map .int)) = true := by
  unfold PySem.W.alike
  exact PySem.W.alike_ints _ _
theorem leF_not {ds : List Int} {t : Tr} {a b : List Int} (h : leF ds t a b = true) : ¬ full ds t b < full ds t a := by
  have e : leF ds t a b = !PySem.W.dataLt (kd (full ds t) b) (kd (full ds t) a) := rfl
  rw [e, lt_ints] at h
  simpa using h
theorem leF_anti {ds : List Int} {t : Tr} {a b : List Int} (hl : a.length = b.length) (h1 : leF ds t a b = true) (h2 : leF ds t b a = true) : a = b := by
  have e : full ds t a = full ds t b := List.le_antisymm (List.not_lt.mp (leF_not h1)) (List.not_lt.mp (leF_not h2))
  unfold full at e
  exact List.append_inj_right' e hl
theorem law_order {ds : List Int} {t : Tr} {l : List (List Int)} (hl : ∀ c ∈ l, c.length = ds.length) : l.mergeSort (PySem.W.dataLe false (k2 (full ds t))) = l.mergeSort (leF ds t) := by
  have T : PySem.W.TotalLe (PySem.W.dataLe false (k2 (full ds t))) := by
    unfold PySem.W.dataLe
    exact PySem.W.sortLe_total _ _ _
  have pm := List.mergeSort_perm l (PySem.W.dataLe false (k2 (full ds t)))
  refine (order_is ((PySem.W.sort_pairwise T l).imp fun {a b} h => ?_) pm fun a ha b hb => leF_anti ?_).symm
  · have e1 : PySem.W.dataLe false (k2 (full ds t)) a b = !PySem.W.dataLt (k2 (full ds t) b) (k2 (full ds t) a) := rfl
    have e2 : leF ds t a b = !PySem.W.dataLt (kd (full ds t) b) (kd (full ds t) a) := rfl
    rw [e1, PySem.W.dataLt_pair (alike_tup _ _) (alike_tup _ _)] at h
    rw [e2]
    cases hx : PySem.W.dataLt (kd (full ds t) b) (kd (full ds t) a) with
    | false => rfl
    | true =>
      cases hv : PyData.eqv (.tuple ((full ds t b).map .int)) (.tuple ((full ds t a).map .int)) with
      | false =>
        rw [hv] at h
        simp only [Bool.false_eq_true, if_false] at h
        have hx' : PySem.W.dataLt (.tuple ((full ds t b).map .int)) (.tuple ((full ds t a).map .int)) = true := hx
        rw [hx'] at h
        exact h
      | true =>
        have ee := (PySem.W.toks_eqv _ _ (alike_tup (full ds t b) (full ds t a))).1 hv
        have : PySem.W.dataLt (kd (full ds t) b) (kd (full ds t) a) = false := by
          unfold PySem.W.dataLt kd
          rw [ee]
          exact PyProof.Rows.lex_irrefl _
        rw [this] at hx
        cases hx
  · rw [hl a (pm.mem_iff.mp ha), hl b (pm.mem_iff.mp hb)]
/-! ### sorted(rows), rows of pairs of tuples -/
def rSortD (K : PySem.W.Frag) : List V → Hp → VK → Prop := fun vs H Q => ∃ (l : Addr) (as : List Addr) (cs : List (List Int)) (f : List Int → List Int), vs = [.ref l] ∧ SqL K H l (as.map V.ref) ∧ as.length = cs.length ∧
  (∀ p c, (p, c) ∈ as.zip cs → ∃ q1 q2, SqT K H p [.ref q1, .ref q2] ∧ SqT K H q1 ((f c).map V.int) ∧ SqT K H q2 (c.map V.int)) ∧
  ∀ ps b, PySem.W.EachIs (fun p c => (p, c) ∈ as.zip cs) ps (cs.mergeSort (PySem.W.dataLe false (k2 f))) → H b = none → Q (.ref b) (upd H b (.lst (ps.map V.ref)))
theorem cr_sortD {X : Cx} (hu : X.A.units + 64 < cLine) : CallR X (.builtin "sorted") (rSortD X.K) := by
  intro pins s σ H vs us Q I r h
  obtain ⟨l, as, cs, f, rfl, hs, hlen, hx, q⟩ := h
  obtain ⟨its, rv, hl, hz⟩ := I.list hs
  obtain ⟨u, rfl, ru⟩ := vals1 r
  obtain rfl : u = Value.ref l := ru
  obtain rfl := refs_are rv
  rw [List.length_map] at hz
  have er : PySem.W.EachIs (fun v c => ∃ as, Reads s.heap v (k2 f c) as) (as.map Value.ref) cs := (zip_refs hlen).mono fun v c ⟨p, e, m⟩ => by
    obtain ⟨q1, q2, h1, h2, h3⟩ := hx p c m
    obtain ⟨its, rv, ⟨ob, g1, g2, n, g3⟩, _⟩ := I.tuple h1
    obtain ⟨u1, u2, rfl, e1, e2⟩ := vals2 rv
    obtain rfl : u1 = Value.ref q1 := e1
    obtain rfl : u2 = Value.ref q2 := e2
    rw [e]
    exact ⟨_, .tuple g1 g2 g3 (.cons (reads_tup I h2) (.cons (reads_tup I h3) .nil))⟩
  have hal : PySem.W.AllAlike (cs.map (k2 f)) := PySem.W.AllAlike.of fun b b' => by
    show PySem.W.alike (.tuple [_, _]) (.tuple [_, _]) = true
    unfold PySem.W.alike PySem.W.alikeAll PySem.W.alikeAll
    rw [alike_tup, alike_tup]
    simp [PySem.W.alikeAll]
  have hk : PySem.W.Sortable (cs.map (k2 f)) := .inl fun d hd => by
    obtain ⟨c, _, rfl⟩ := List.mem_map.mp hd
    exact ⟨_, _, rfl⟩
  refine PySem.W.sorted_data (R := fun v c => ∃ p, v = Value.ref p ∧ (p, c) ∈ as.zip cs) hl.isList (zip_refs hlen) er hal hk (by omega) (fun c _ => ?_) fun out ho eo => ?_
  · have e : (k2 f c).depth ≤ 60 := by
      unfold k2 PyData.depth PyData.depthAll PyData.depthAll PyData.depthAll PyData.depth
      rw [PySem.W.depth_ints, PySem.W.depth_ints]
      decide
    omega
  · obtain ⟨ps, hps, ep⟩ := addrs_of eo
    subst hps
    have lp : ps.length = cs.length := by
      have := ep.length
      rw [List.length_mergeSort] at this
      exact this
    obtain ⟨en, he'⟩ := PyProof.Rows.sortedAll_at s.heap (as.map Value.ref) (ps.map Value.ref).toArray
    exact ⟨.ref _, upd H (s.heap.objs.size + 1) (.lst (ps.map V.ref)), I.laid (t' := s.toks) (fun _ _ => PyProof.Rows.sortedAll_old) (Nat.le_succ _) ⟨by rw [List.length_map]; omega, ps.map Value.ref, en, vals_refs ps, he'⟩, rfl, q _ _ ep (I.hok.fresh (Nat.le_succ _))⟩
end Lk

namespace Lk
open PySem L2 Lx LamX LrA LqA
/-! ### sum of a tuple -/
def rSumT (K : PySem.W.Frag) : List V → Hp → VK → Prop := fun vs H Q => ∃ (a : Addr) (ns : List Int), vs = [V.ref a] ∧ SqT K H a (ns.map V.int) ∧ Q (.int ns.sum) H
theorem cr_sumT {X : Cx} (hc : X.calm = true) : CallR X (.builtin "sum") (rSumT X.K) := by
  intro pins s σ H vs us Q I r h
  obtain ⟨a, ns, rfl, hs, q⟩ := h
  obtain ⟨its, rv, hl, _⟩ := I.tuple hs
  rw [Vals.ref1 r]
  have hi := rv.ints
  obtain ⟨xs, e⟩ := hi.allInts.items
  have hn : PySem.numsOf (PySem.intItems xs).toList = ns := by rw [← e]; exact hi.numsOf
  rw [PySem.nums_intItems] at hn
  rw [e] at hl
  refine PySem.W.ktm_sumG (I.ok.hd hc) hl fun h' tk t' hk => ?_
  rw [PySem.preSum_eq, List.take_of_length_le (by simp), hn]
  exact ⟨.int _, H, I.kept hk, ⟨_, rfl⟩, q⟩
/-! ### InvalidCount is made -/
def spChkDir : Sp := fun vs H Q _ => ∃ d : Int, vs = [.int d] ∧ 1 ≤ d ∧ d ≤ 3 ∧ ∀ H', Same H H' → Q .non H'
/-- no number of directions -/
def NoDir (v : V) : Prop := isI v = false ∨ ∃ d : Int, v = .int d ∧ ¬ (1 ≤ d ∧ d ≤ 3)
def CtK (C : Addr) (v : V) (H : Hp) (E : XK) : Prop := ∀ (d : Addr) (H' : Hp), (∀ b u, H b = some u → H' b = some u) → H' d = some (.xd (xflds "given" v "InvalidCount")) → E (.ref C) (some d) H'
def spChkDirX (K : PySem.W.Frag) (C : Addr) : Sp := fun vs H _ E => ∃ v : V, vs = [v] ∧ ItD K H v ∧ NoDir v ∧ CtK C v H E
def spNeg (K : PySem.W.Frag) : Sp := fun vs H Q _ => ∃ (a : Addr) (ns : List Int), vs = [.ref a] ∧ SqT K H a (ns.map V.int) ∧ ns.length ≤ 12 ∧ ∀ H' p, Same H H' → SqT K H' p ((ns.map fun z => -z).map V.int) → Q (.ref p) H'
/-- keys one inside of another, the last row outside -/
def chL (l : List (List Int)) (n : Nat) (e : Tr) : Tr := l.foldl (fun t row => Tr.key row (zer n) t) e
def spKCh (K : PySem.W.Frag) (tup : Bool) : Sp := fun vs H Q _ => ∃ (r : Addr) (n : Nat) (ev : V) (ws : List V) (rs : List (List Int)) (e : Tr), vs = [.ref r, .int n, ev] ∧ (if tup = true then SqT K H r ws else SqL K H r ws) ∧ HdsAt K H rs ws ∧ rs.length ≤ 12 ∧ n ≤ 100 ∧ TrAt K H e ev ∧
  ∀ H' u, Same H H' → TrAt K H' (chL rs.reverse n e) u → Q u H'
def parL (ds : List Int) (n : Nat) (c : Int) : List Int := (rng0 n).filter fun i => decide ((pAt ds i).sum % 2 = c)
def spPar (K : PySem.W.Frag) : Sp := fun vs H Q _ => ∃ (a : Addr) (ds : List Int) (c : Int) (n : Nat), vs = [.ref a, .int c] ∧ SqT K H a (ds.map V.int) ∧ Divs ds ∧ ds.length ≤ 3 ∧ prodL ds = (n : Int) ∧ ∀ H' p, Same H H' → SqT K H' p ((parL ds n c).map V.int) → Q (.ref p) H'
def spPDir (K : PySem.W.Frag) (C : Addr) : Sp := fun vs H Q _ => ∃ (p : Addr) (ds : List Int) (n : Nat) (t : Tr), vs = [.ref p] ∧ ScanAt K C H p ds n t ∧ Q (.int ds.length) H
theorem hds_rev {K : PySem.W.Frag} {H : Hp} {l : List (List Int)} {ws : List V} {i : Nat} {y : V} (h : HdsAt K H l ws) (e : ws.reverse[i]? = some y) : ∃ c a, l.reverse[i]? = some c ∧ y = .ref a ∧ SqT K H a (c.map V.int) := by
  have hl := h.len
  have hi : i < ws.reverse.length := (List.getElem?_eq_some_iff.mp e).1
  rw [List.length_reverse] at hi
  rw [List.getElem?_reverse hi] at e
  obtain ⟨c, a, e1, e2, e3⟩ := h.get e
  refine ⟨c, a, ?_, e2, e3⟩
  rw [List.getElem?_reverse (by omega), ← hl]
  exact e1
section
variable {P : Program} {w : World} {K : PySem.W.Frag} {mg : Str → Option Value} {base : Heap}
theorem ok_ptree {f C : Addr} {fd : FuncData} {k : Nat} (F : Fun K "tree" "Scan.tree" sPTree f fd) (T : Txt K mg C) : FnOk P w K mg base CX0 (k + 1) f fd ["self"] (getSp C "own_tree") := by
  refine F.ok scPTree (fun vs H Q E h => ?_) (fun cdv A outer s H vs Q E hr h => ?_)
  · obtain ⟨a, dx, fs, v, rfl, _⟩ := h
    rfl
  · obtain ⟨a, dx, fs, v, rfl, h1, h2, q⟩ := h
    exact ⟨_, pss_one (ps_ret (pe_fld (pv 0) rfl)), _, rfl, a, C, dx, fs, v, rfl, h1, T.cl, T.n4, h2, q⟩
theorem ok_pdir {f C : Addr} {fd : FuncData} {k : Nat} (F : Fun K "directions" "Scan.directions" sPDir f fd) (T : Txt K mg C) (ml : mg "len" = none) : FnOk P w K mg base CX0 (k + 1) f fd ["self"] (spPDir K C) := by
  refine F.ok scPDir (fun vs H Q E h => ?_) (fun cdv A outer s H vs Q E hr h => ?_)
  · obtain ⟨p, ds, n, t, rfl, _⟩ := h
    rfl
  · obtain ⟨p, ds, n, t, rfl, S, q⟩ := h
    obtain ⟨⟨dx, a, v, h1, h2, h3⟩, _⟩ := id S
    refine ⟨_, pss_one (ps_ret (pe_callB call_len_seq (by rfl) ml PySem.boot_len (pa_cons (pe_fld (pv 0) rfl) pa_nil))), _, rfl, p, C, dx, _, _, rfl, h1, T.cl, T.n3, sf_div _ _ _ _, a, _, rfl, .inr h2, ?_⟩
    rw [List.length_map]
    exact q
end
end Lk

namespace Lk
open PySem L2 Lx LamX LrA LqA
/-! ### the tree of the opposite scan -/
mutual
def trT (e : Tr) : Tr → Tr
  | .pl => e
  | .key row hs t => .key (row.map fun z => -z) (hs.map fun z => -z) (trT e t)
  | .fork gs => .fork (trA e gs .nil)
def trA (e : Tr) : Gs → Gs → Gs
  | .nil, acc => acc
  | .cons cs t r, acc => trA e r (.cons cs (trT e t) acc)
end
theorem trA_heads (e : Tr) : ∀ (g acc : Gs), (trA e g acc).heads = g.heads.reverse ++ acc.heads
  | .nil, acc => by simp [trA, Gs.heads]
  | .cons c t r, acc => by simp [trA, Gs.heads, trA_heads e r]
theorem trA_trees (e : Tr) : ∀ (g acc : Gs), (trA e g acc).trees = (g.trees.map (trT e)).reverse ++ acc.trees
  | .nil, acc => by simp [trA, Gs.trees]
  | .cons c t r, acc => by simp [trA, Gs.trees, trA_trees e r]
theorem gs_many {g : Gs} {d n : Nat} (hp : g.classes.Perm (rng0 n)) (hw : g.wf d n) : g.heads.length ≤ n := by
  have e1 : ∀ l : List (List Int), (∀ c ∈ l, c ≠ []) → l.length ≤ l.flatten.length := fun l => by
    induction l with
    | nil => intro _; simp
    | cons c r ih =>
      intro hc
      have h1 := ih fun x hx => hc x (List.mem_cons_of_mem _ hx)
      have h2 : 0 < c.length := List.length_pos_iff.mpr (hc c List.mem_cons_self)
      simp only [List.flatten_cons, List.length_append, List.length_cons]
      omega
  have e2 := e1 g.heads fun c hc => (Gs.wf_heads hw c hc).1
  rw [← Gs.flat, hp.length_eq, rng0_len] at e2
  exact e2
def spTurnT (K : PySem.W.Frag) (m : Nat) : Sp := fun vs H Q _ => ∃ (v ev : V) (t e : Tr) (d n : Nat), vs = [v, ev] ∧ TrAt K H t v ∧ TrAt K H e ev ∧ t.wf d n ∧ t.dep ≤ m ∧ d ≤ 3 ∧ n ≤ 12 ∧ ∀ H' u, Same H H' → TrAt K H' (trT e t) u → Q u H'
section
variable {P : Program} {w : World} {K : PySem.W.Frag} {mg : Str → Option Value} {base : Heap}
end
end Lk

namespace Lk
open PySem L2 Lx LamX LrA LqA
/-! ### rows_scan, snake_scan -/
theorem made_same {C x dx : Addr} {H : Hp} (nx : H x = none) (nd : H dx = none) : Same H (upd (upd H dx (.own x)) x (.ins C dx [])) := fun y o e => by
  rw [upd_ne (ne_of_none e nx), upd_ne (ne_of_none e nd)]
  exact e
def ones (d : Nat) : List Int := List.replicate d 1
theorem prodL_ones : ∀ d : Nat, prodL (ones d) = 1
  | 0 => rfl
  | d + 1 => by
    show (1 : Int) * prodL (ones d) = 1
    rw [prodL_ones d]
    rfl
theorem divs_ones (d : Nat) : Divs (ones d) := ⟨fun z hz => by rw [(List.mem_replicate.mp hz).2]; decide, by rw [prodL_ones]; decide⟩
def spRows (K : PySem.W.Frag) (C : Addr) : Sp := fun vs H Q _ => ∃ d : Nat, vs = [.int d] ∧ 1 ≤ d ∧ d ≤ 3 ∧ ∀ (H' : Hp) (q : Addr), Same H H' → ScanAt K C H' q (ones d) 1 .pl → Q (.ref q) H'
/-- what the snake is made of -/
structure SnF (d : Nat) (ds : List Int) (n : Nat) (ri : List (List Int)) (last : List Int) : Prop where
  e1 : List.replicate ((d : Int) - 1).toNat (V.int 2) ++ [V.int 1] = ds.map V.int
  id : idM d = ri ++ [last]
  dv : Divs ds
  l1 : 1 ≤ ds.length
  l3 : ds.length ≤ 3
  d2 : 2 ≤ d
  d3 : d ≤ 3
  pr : prodL ds = (n : Int)
  lr : ri.length ≤ 3
  ll : last.length ≤ 12
  n12 : n ≤ 12
def snT (ds : List Int) (n : Nat) (ri : List (List Int)) (last : List Int) : Tr := chL ri.reverse n (.fork (.cons (parL ds n 0) .pl (.cons (parL ds n 1) (.key (last.map fun z => -z) (zer n) .pl) .nil)))
def spSnake (K : PySem.W.Frag) (C : Addr) : Sp := fun vs H Q _ => ∃ d : Nat, vs = [.int d] ∧ ((d = 1 ∧ ∀ (H' : Hp) (q : Addr), Same H H' → ScanAt K C H' q [1] 1 .pl → Q (.ref q) H') ∨
  (∃ ds n ri last, SnF d ds n ri last ∧ (snT ds n ri last).wf ds.length n ∧ (snT ds n ri last).size ≤ 200 ∧ (snT ds n ri last).dep ≤ 20 ∧ ∀ (H' : Hp) (q : Addr), Same H H' → ScanAt K C H' q ds n (snT ds n ri last) → Q (.ref q) H'))
theorem hds_snoc {K : PySem.W.Frag} {H : Hp} {c : List Int} : ∀ {l : List (List Int)} {ws : List V}, HdsAt K H (l ++ [c]) ws → ∃ wi a, ws = wi ++ [.ref a] ∧ HdsAt K H l wi ∧ SqT K H a (c.map V.int)
  | [], ws, ⟨a, wr, h1, h2, h3⟩ => by
    have h3 : wr = [] := h3
    exact ⟨[], a, by rw [h1, h3]; rfl, rfl, h2⟩
  | x :: r, ws, ⟨a, wr, h1, h2, h3⟩ => by
    obtain ⟨wi, b, e1, e2, e3⟩ := hds_snoc h3
    exact ⟨.ref a :: wi, b, by rw [h1, e1]; rfl, ⟨a, wi, rfl, h2, e2⟩, e3⟩
theorem at_last (wi : List V) (y : V) : atI (wi ++ [y]) (-1) = some y := by
  unfold atI
  have e : ixN (wi ++ [y]).length (-1) = some wi.length := by
    unfold ixN
    rw [List.length_append]
    show (if _ then _ else _) = _
    split <;> rename_i h <;> simp at h ⊢ <;> omega
  rw [e]
  simp
theorem cut_last (wi : List V) (y : V) : cutV (wi ++ [y]) none (some (-1)) = wi := by
  unfold cutV
  simp [HT.sIx]
  have e : (-1 + ((wi.length : Int) + 1)).toNat = wi.length := by omega
  rw [e, List.take_left' rfl]
section
variable {P : Program} {w : World} {K : PySem.W.Frag} {mg : Str → Option Value} {base : Heap}
end
end Lk

namespace Lk
open PySem L2 Lx LamX LrA LqA
/-- where the turned tree ends: all numbers of the place, with their signs changed -/
def endT (d n : Nat) : Tr := chL ((idM d).map fun r => r.map fun z => -z).reverse n .pl
def tnT (ds : List Int) (n : Nat) (t : Tr) : Tr := trT (endT ds.length n) t
def spTurned (K : PySem.W.Frag) (C : Addr) : Sp := fun vs H Q _ => ∃ (p : Addr) (ds : List Int) (n : Nat) (t : Tr), vs = [.ref p] ∧ ScanAt K C H p ds n t ∧ (tnT ds n t).wf ds.length n ∧ (tnT ds n t).size ≤ 200 ∧ (tnT ds n t).dep ≤ 20 ∧
  ∀ (H' : Hp) (q : Addr), Same H H' → ScanAt K C H' q ds n (tnT ds n t) → Q (.ref q) H'
theorem sf_ct (ct nt : Int) (a : Addr) (v : V) : (sf ct nt a v).lookup ("class_total" : Str) = some (.int ct) := by
  unfold sf
  rfl
theorem hds_take {K : PySem.W.Frag} {H : Hp} : ∀ {l : List (List Int)} {ws : List V} {c : List Int} {a : Addr}, HdsAt K H l ws → SqT K H a (c.map V.int) → HdsAt K H (l ++ [c]) (ws ++ [.ref a]) := fun h1 h2 => h1.app h2
section
variable {P : Program} {w : World} {K : PySem.W.Frag} {mg : Str → Option Value} {base : Heap}
end
end Lk

namespace Lk
open PySem L2 Lx LamX LrA LqA
/-! ### the opposite order -/
def ngl (x : List Int) : List Int := x.map fun z => -z
theorem dot_ng : ∀ (r x : List Int), dotL (r.map fun z => -z) x = -dotL r x
  | [], x => by simp [dotL]
  | a :: r, [] => by simp [dotL]
  | a :: r, b :: x => by
    have ih := dot_ng r x
    unfold dotL at ih ⊢
    simp only [List.map_cons, List.zipWith_cons_cons, List.sum_cons]
    rw [ih, Int.neg_mul]
    omega
theorem getD_ng (hs : List Int) (i : Nat) : (hs.map fun z => -z).getD i 0 = -(hs.getD i 0) := by
  rw [List.getD_eq_getElem?_getD, List.getElem?_map, List.getD_eq_getElem?_getD]
  cases hs[i]? with
  | none => rfl
  | some a => rfl
theorem lx_ng : ∀ {x y u v : List Int}, x.length = y.length → lx (ngl x ++ u) (ngl y ++ v) = if x = y then lx u v else lx y x
  | [], [], u, v, _ => by simp [ngl]
  | a :: x, b :: y, u, v, h => by
    have ih := lx_ng (x := x) (y := y) (u := u) (v := v) (by simpa using h)
    show (if -a = -b then lx (ngl x ++ u) (ngl y ++ v) else decide (-a < -b)) = if a :: x = b :: y then lx u v else (if b = a then lx y x else decide (b < a))
    by_cases e : a = b
    · subst e
      rw [if_pos rfl, if_pos rfl, ih]
      by_cases e2 : x = y
      · rw [if_pos e2, if_pos (by rw [e2])]
      · rw [if_neg e2, if_neg (fun z => e2 (List.cons.inj z).2)]
    · rw [if_neg (by omega), if_neg (fun z => e (List.cons.inj z).1), if_neg (fun z => e z.symm)]
      by_cases l : b < a
      · rw [decide_eq_true l, decide_eq_true (by omega)]
      · rw [decide_eq_false l, decide_eq_false (by omega)]
  | [], _ :: _, _, _, h => by cases h
  | _ :: _, [], _, _, h => by cases h
theorem lx_ng2 {x y : List Int} (h : x.length = y.length) : lx (ngl x ++ x) (ngl y ++ y) = lx y x := by
  rw [lx_ng h]
  by_cases e : x = y
  · rw [if_pos e, e]
  · rw [if_neg e]
theorem ngl_inj : ∀ {x y : List Int}, ngl x = ngl y → x = y
  | [], [], _ => rfl
  | a :: x, b :: y, h => by
    have h' : -a = -b ∧ ngl x = ngl y := List.cons.inj h
    rw [ngl_inj h'.2, show a = b by omega]
  | [], _ :: _, h => by cases h
  | _ :: _, [], h => by cases h
/-- the only group of a class -/
theorem only_group {c : Int} {n : Nat} {g : Gs} (hp : g.classes.Perm (rng0 n)) (h0 : 0 ≤ c) (h1 : c < n) : ∃ (j : Nat) (cs : List Int) (t : Tr), g.heads[j]? = some cs ∧ g.trees[j]? = some t ∧ c ∈ cs ∧ ∀ m cs', m ≠ j → g.heads[m]? = some cs' → c ∉ cs' := by
  have hm : c ∈ g.heads.flatten := by
    rw [← Gs.flat]
    exact hp.mem_iff.mpr (mem_rng0 h0 h1)
  obtain ⟨j, cs, e1, e2, _⟩ := first_of hm
  have hj : j < g.heads.length := (List.getElem?_eq_some_iff.mp e1).1
  have hj2 : j < g.trees.length := by rw [← Gs.heads_len]; exact hj
  refine ⟨j, cs, g.trees[j], e1, List.getElem?_eq_getElem hj2, e2, fun m cs' hne hm' hc => ?_⟩
  have nd : g.heads.flatten.Nodup := by
    rw [← Gs.flat]
    exact hp.nodup_iff.mpr (rng0_nodup n)
  have pw := List.pairwise_iff_getElem.mp (List.pairwise_flatten.mp nd).2
  have hml : m < g.heads.length := (List.getElem?_eq_some_iff.mp hm').1
  have em : g.heads[m] = cs' := (List.getElem?_eq_some_iff.mp hm').2
  have ej : g.heads[j] = cs := (List.getElem?_eq_some_iff.mp e1).2
  rcases Nat.lt_or_gt_of_ne hne with l | l
  · have := pw m j hml hj l
    rw [em, ej] at this
    exact this c hc c e2 rfl
  · have := pw j m hj hml l
    rw [em, ej] at this
    exact this c e2 c hc rfl
theorem pth_group {c : Int} {g : Gs} {j : Nat} {cs : List Int} {t : Tr} (e : Tr) (x : List Int) (h1 : g.heads[j]? = some cs) (h2 : g.trees[j]? = some t) (h3 : c ∈ cs) (h4 : ∀ m cs', m ≠ j → g.heads[m]? = some cs' → c ∉ cs') :
    pthG g 0 c x = (j : Int) :: pth t c x ∧ pthG (trA e g .nil) 0 c x = ((g.heads.length : Int) - 1 - j) :: pth (trT e t) c x := by
  have hj : j < g.heads.length := (List.getElem?_eq_some_iff.mp h1).1
  have hl := Gs.heads_len g
  constructor
  · rw [pthG_at 0 c x h1 h2 h3 (fun m cs' hm hh => h4 m cs' (by omega) hh)]
    congr 1
    omega
  · have k1 : (trA e g .nil).heads[g.heads.length - 1 - j]? = some cs := by
      rw [trA_heads, show (Gs.nil).heads = [] from rfl, List.append_nil, List.getElem?_reverse (by omega)]
      rw [show g.heads.length - 1 - (g.heads.length - 1 - j) = j by omega]
      exact h1
    have k2 : (trA e g .nil).trees[g.heads.length - 1 - j]? = some (trT e t) := by
      rw [trA_trees, show (Gs.nil).trees = [] from rfl, List.append_nil, List.getElem?_reverse (by rw [List.length_map]; omega)]
      rw [List.length_map, ← hl, show g.heads.length - 1 - (g.heads.length - 1 - j) = j by omega, List.getElem?_map, h2]
      rfl
    rw [pthG_at 0 c x k1 k2 h3 (fun m cs' hm hh => ?_)]
    · congr 1
      omega
    · rw [trA_heads, show (Gs.nil).heads = [] from rfl, List.append_nil, List.getElem?_reverse (by omega)] at hh
      exact h4 _ cs' (by omega) hh
section
variable {e : Tr} {c1 c2 : Int} {x y : List Int} {d n : Nat}
mutual
theorem tr_lt (b1 : 0 ≤ c1 ∧ c1 < n) (b2 : 0 ≤ c2 ∧ c2 < n) (he : lx (pth e c1 x ++ x) (pth e c2 y ++ y) = lx y x) : ∀ t : Tr, t.wf d n → lx (pth (trT e t) c1 x ++ x) (pth (trT e t) c2 y ++ y) = lx (pth t c2 y ++ y) (pth t c1 x ++ x)
  | .pl, _ => by
    simp only [trT, pth, List.nil_append]
    exact he
  | .key row hs t, w => by
    simp only [Tr.wf] at w
    have ih := tr_lt b1 b2 he t w.2.2.2
    simp only [trT, pth, List.cons_append]
    rw [dot_ng, dot_ng, getD_ng, getD_ng]
    generalize hs.getD c1.toNat 0 = v1
    generalize hs.getD c2.toNat 0 = v2
    show (if -dotL row x + -v1 = -dotL row y + -v2 then lx (pth (trT e t) c1 x ++ x) (pth (trT e t) c2 y ++ y) else decide (-dotL row x + -v1 < -dotL row y + -v2)) = (if dotL row y + v2 = dotL row x + v1 then lx (pth t c2 y ++ y) (pth t c1 x ++ x) else decide (dotL row y + v2 < dotL row x + v1))
    rw [ih]
    by_cases z : dotL row y + v2 = dotL row x + v1
    · rw [if_pos z, if_pos (by omega)]
    · rw [if_neg z, if_neg (by omega)]
      by_cases l : dotL row y + v2 < dotL row x + v1
      · rw [decide_eq_true l, decide_eq_true (by omega)]
      · rw [decide_eq_false l, decide_eq_false (by omega)]
  | .fork g, w => by
    simp only [Tr.wf] at w
    obtain ⟨j1, cs1, t1, p1, p2, p3, p4⟩ := only_group w.1 b1.1 b1.2
    obtain ⟨j2, cs2, t2, r1, r2, r3, r4⟩ := only_group w.1 b2.1 b2.2
    obtain ⟨k1, k2⟩ := pth_group e x p1 p2 p3 p4
    obtain ⟨k3, k4⟩ := pth_group e y r1 r2 r3 r4
    simp only [trT, pth]
    rw [k1, k2, k3, k4]
    simp only [List.cons_append]
    show (if (g.heads.length : Int) - 1 - j1 = g.heads.length - 1 - j2 then lx (pth (trT e t1) c1 x ++ x) (pth (trT e t2) c2 y ++ y) else decide ((g.heads.length : Int) - 1 - j1 < g.heads.length - 1 - j2)) = (if (j2 : Int) = j1 then lx (pth t2 c2 y ++ y) (pth t1 c1 x ++ x) else decide ((j2 : Int) < j1))
    by_cases z : j1 = j2
    · subst z
      have et : t1 = t2 := Option.some.inj (p2.symm.trans r2)
      subst et
      rw [if_pos rfl, if_pos rfl]
      exact trG_lt b1 b2 he g w.2 t1 (List.mem_of_getElem? p2)
    · rw [if_neg (by omega), if_neg (by omega)]
      by_cases l : j2 < j1
      · rw [decide_eq_true (by omega), decide_eq_true (by omega)]
      · rw [decide_eq_false (by omega), decide_eq_false (by omega)]
theorem trG_lt (b1 : 0 ≤ c1 ∧ c1 < n) (b2 : 0 ≤ c2 ∧ c2 < n) (he : lx (pth e c1 x ++ x) (pth e c2 y ++ y) = lx y x) : ∀ g : Gs, g.wf d n → ∀ t ∈ g.trees, lx (pth (trT e t) c1 x ++ x) (pth (trT e t) c2 y ++ y) = lx (pth t c2 y ++ y) (pth t c1 x ++ x)
  | .nil, _, t, h => by simp [Gs.trees] at h
  | .cons cs u r, w, t, h => by
    simp only [Gs.wf] at w
    simp only [Gs.trees] at h
    rcases List.mem_cons.mp h with z | z
    · rw [z]
      exact tr_lt b1 b2 he u w.2.1
    · exact trG_lt b1 b2 he r w.2.2 t z
end
mutual
theorem tr_end (b1 : 0 ≤ c1 ∧ c1 < n) : ∀ t : Tr, t.wf d n → ∃ q, pth (trT e t) c1 x = q ++ pth e c1 x
  | .pl, _ => ⟨[], by simp [trT]⟩
  | .key row hs t, w => by
    simp only [Tr.wf] at w
    obtain ⟨q, hq⟩ := tr_end b1 t w.2.2.2
    exact ⟨_ :: q, by simp only [trT, pth, List.cons_append, hq]; rfl⟩
  | .fork g, w => by
    simp only [Tr.wf] at w
    obtain ⟨j1, cs1, t1, p1, p2, p3, p4⟩ := only_group w.1 b1.1 b1.2
    obtain ⟨k1, k2⟩ := pth_group e x p1 p2 p3 p4
    obtain ⟨q, hq⟩ := trG_end b1 g w.2 t1 (List.mem_of_getElem? p2)
    exact ⟨_ :: q, by simp only [trT, pth]; rw [k2, hq]; rfl⟩
theorem trG_end (b1 : 0 ≤ c1 ∧ c1 < n) : ∀ g : Gs, g.wf d n → ∀ t ∈ g.trees, ∃ q, pth (trT e t) c1 x = q ++ pth e c1 x
  | .nil, _, t, h => by simp [Gs.trees] at h
  | .cons cs u r, w, t, h => by
    simp only [Gs.wf] at w
    simp only [Gs.trees] at h
    rcases List.mem_cons.mp h with z | z
    · rw [z]
      exact tr_end b1 u w.2.1
    · exact trG_end b1 r w.2.2 t z
end
end
/-! ### nodes -/
mutual
def Tr.ends : Tr → Nat
  | .pl => 1
  | .key _ _ t => t.ends
  | .fork gs => gs.ends
def Gs.ends : Gs → Nat
  | .nil => 0
  | .cons _ t r => t.ends + r.ends
end
mutual
theorem trT_size (e : Tr) (k : Nat) (hk : e.size = k + 1) : ∀ t : Tr, (trT e t).size = t.size + k * t.ends
  | .pl => by simp [trT, Tr.size, Tr.ends, hk]; omega
  | .key _ _ t => by simp [trT, Tr.size, Tr.ends, trT_size e k hk t]; omega
  | .fork gs => by
    have := trA_size e k hk gs .nil
    simp only [Gs.size] at this
    simp [trT, Tr.size, Tr.ends, this]; omega
theorem trA_size (e : Tr) (k : Nat) (hk : e.size = k + 1) : ∀ g acc : Gs, (trA e g acc).size = g.size + k * g.ends + acc.size
  | .nil, acc => by simp [trA, Gs.size, Gs.ends]
  | .cons _ t r, acc => by
    simp only [trA, Gs.size, Gs.ends]
    rw [trA_size e k hk r]
    simp only [Gs.size]
    rw [trT_size e k hk t, Nat.mul_add]
    omega
end
mutual
theorem trT_ends (e : Tr) (hk : e.ends = 1) : ∀ t : Tr, (trT e t).ends = t.ends
  | .pl => by simp [trT, Tr.ends, hk]
  | .key _ _ t => by simp [trT, Tr.ends, trT_ends e hk t]
  | .fork gs => by
    have := trA_ends e hk gs .nil
    simp only [Gs.ends] at this
    simp [trT, Tr.ends, this]
theorem trA_ends (e : Tr) (hk : e.ends = 1) : ∀ g acc : Gs, (trA e g acc).ends = g.ends + acc.ends
  | .nil, acc => by simp [trA, Gs.ends]
  | .cons _ t r, acc => by
    simp only [trA]
    rw [trA_ends e hk r]
    simp only [Gs.ends]
    rw [trT_ends e hk t]
    omega
end
mutual
theorem trT_dep (e : Tr) (k : Nat) (hk : e.dep ≤ k + 1) : ∀ t : Tr, (trT e t).dep ≤ t.dep + k
  | .pl => by simp [trT, Tr.dep]; omega
  | .key _ _ t => by
    have := trT_dep e k hk t
    simp only [trT, Tr.dep]
    omega
  | .fork gs => by
    have := trA_dep e k hk gs .nil
    simp only [Gs.dep] at this
    simp only [trT, Tr.dep]
    omega
theorem trA_dep (e : Tr) (k : Nat) (hk : e.dep ≤ k + 1) : ∀ g acc : Gs, (trA e g acc).dep ≤ max (g.dep + k) acc.dep
  | .nil, acc => by simp only [trA]; omega
  | .cons _ t r, acc => by
    have h1 := trA_dep e k hk r (.cons ‹_› (trT e t) acc)
    have h2 := trT_dep e k hk t
    simp only [Gs.dep] at h1
    simp only [trA, Gs.dep]
    omega
end
mutual
theorem trT_wf (e : Tr) {d n : Nat} (he : e.wf d n) : ∀ t : Tr, t.wf d n → (trT e t).wf d n
  | .pl, _ => by simp only [trT]; exact he
  | .key row hs t, w => by
    simp only [Tr.wf] at w
    simp only [trT, Tr.wf]
    refine ⟨by rw [List.length_map]; exact w.1, by rw [List.length_map]; exact w.2.1, fun z hz => ?_, trT_wf e he t w.2.2.2⟩
    obtain ⟨u, hu, rfl⟩ := List.mem_map.mp hz
    have := w.2.2.1 u hu
    omega
  | .fork gs, w => by
    simp only [Tr.wf] at w
    simp only [trT, Tr.wf]
    refine ⟨?_, trA_wf e he gs .nil w.2 (by simp [Gs.wf])⟩
    rw [Gs.flat, trA_heads, show (Gs.nil).heads = [] from rfl, List.append_nil]
    refine List.Perm.trans ?_ w.1
    rw [Gs.flat]
    exact (List.reverse_perm gs.heads).flatten
theorem trA_wf (e : Tr) {d n : Nat} (he : e.wf d n) : ∀ g acc : Gs, g.wf d n → acc.wf d n → (trA e g acc).wf d n
  | .nil, acc, _, h => by simp only [trA]; exact h
  | .cons cs t r, acc, w, h => by
    simp only [Gs.wf] at w
    simp only [trA]
    refine trA_wf e he r _ w.2.2 ?_
    simp only [Gs.wf]
    exact ⟨w.1, trT_wf e he t w.2.1, h⟩
end
/-! ### where it ends -/
theorem endT1 (n : Nat) : endT 1 n = .key [-1] (zer n) .pl := rfl
theorem endT2 (n : Nat) : endT 2 n = .key [-1, 0] (zer n) (.key [0, -1] (zer n) .pl) := rfl
theorem endT3 (n : Nat) : endT 3 n = .key [-1, 0, 0] (zer n) (.key [0, -1, 0] (zer n) (.key [0, 0, -1] (zer n) .pl)) := rfl
theorem zer_at (n i : Nat) : (zer n)[i]?.getD 0 = 0 := by
  unfold zer
  rw [List.getElem?_replicate]
  split <;> rfl
theorem end_pth {d n : Nat} (h1 : 1 ≤ d) (h3 : d ≤ 3) {x : List Int} (h : x.length = d) (c : Int) : pth (endT d n) c x = ngl x := by
  rcases small_d h1 h3 with rfl | rfl | rfl
  · match x, h with
    | [a], _ => simp [endT1, pth, dotL, zer_at, ngl]
  · match x, h with
    | [a, b], _ => simp [endT2, pth, dotL, zer_at, ngl]
  · match x, h with
    | [a, b, c], _ => simp [endT3, pth, dotL, zer_at, ngl]
theorem end_size {d n : Nat} (h1 : 1 ≤ d) (h3 : d ≤ 3) : (endT d n).size = d + 1 ∧ (endT d n).dep = d + 1 ∧ (endT d n).ends = 1 ∧ (endT d n).wf d n := by
  have lz : (zer n).length = n := List.length_replicate
  rcases small_d h1 h3 with rfl | rfl | rfl
  · rw [endT1]
    refine ⟨by simp [Tr.size], by simp [Tr.dep], by simp [Tr.ends], ?_⟩
    simp [Tr.wf, lz]
  · rw [endT2]
    refine ⟨by simp [Tr.size], by simp [Tr.dep], by simp [Tr.ends], ?_⟩
    simp [Tr.wf, lz]
  · rw [endT3]
    refine ⟨by simp [Tr.size], by simp [Tr.dep], by simp [Tr.ends], ?_⟩
    simp [Tr.wf, lz]
section
variable {ds : List Int} {n : Nat} {t : Tr}
theorem tn_wf (l1 : 1 ≤ ds.length) (l3 : ds.length ≤ 3) (hw : t.wf ds.length n) : (tnT ds n t).wf ds.length n := trT_wf _ (end_size l1 l3).2.2.2 t hw
theorem tn_size (l1 : 1 ≤ ds.length) (l3 : ds.length ≤ 3) : (tnT ds n t).size = t.size + ds.length * t.ends := trT_size _ _ (end_size l1 l3).1 t
theorem tn_ends (l1 : 1 ≤ ds.length) (l3 : ds.length ≤ 3) : (tnT ds n t).ends = t.ends := trT_ends _ (end_size l1 l3).2.2.1 t
theorem tn_dep (l1 : 1 ≤ ds.length) (l3 : ds.length ≤ 3) : (tnT ds n t).dep ≤ t.dep + ds.length := trT_dep _ _ (by rw [(end_size l1 l3).2.1]; omega) t
/-- the opposite scan orders the other way -/
theorem tn_lt (D : Divs ds) (l1 : 1 ≤ ds.length) (l3 : ds.length ≤ 3) (hn : prodL ds = (n : Int)) (hw : t.wf ds.length n) {x y : List Int} (hx : x.length = ds.length) (hy : y.length = ds.length) :
    lx (full ds (tnT ds n t) x) (full ds (tnT ds n t) y) = lx (full ds t y) (full ds t x) := by
  refine tr_lt (cls_in D hn hx.symm) (cls_in D hn hy.symm) ?_ t hw
  rw [end_pth l1 l3 hx, end_pth l1 l3 hy]
  exact lx_ng2 (by omega)
/-- only equal places are tied -/
theorem tn_tied (D : Divs ds) (l1 : 1 ≤ ds.length) (l3 : ds.length ≤ 3) (hn : prodL ds = (n : Int)) (hw : t.wf ds.length n) {x y : List Int} (hx : x.length = ds.length) (hy : y.length = ds.length) :
    (pth (tnT ds n t) (cls ds x) x = pth (tnT ds n t) (cls ds y) y) ↔ x = y := by
  constructor
  · intro h
    obtain ⟨q1, e1⟩ := tr_end (e := endT ds.length n) (x := x) (cls_in D hn hx.symm) t hw
    obtain ⟨q2, e2⟩ := tr_end (e := endT ds.length n) (x := y) (cls_in D hn hy.symm) t hw
    unfold tnT at h
    rw [e1, e2, end_pth l1 l3 hx, end_pth l1 l3 hy] at h
    have hl : (ngl x).length = (ngl y).length := by unfold ngl; rw [List.length_map, List.length_map]; omega
    exact ngl_inj (List.append_inj_right' h hl)
  · intro h
    rw [h]
end
end Lk

namespace Lk
open PySem L2 Lx LamX LrA LqA
/-! ### trees with too many nodes, or too many one inside of another -/
theorem kIT : KScope ["self"] (defScope sIT) := ⟨rfl, rfl, rfl, by decide +kernel, by decide +kernel, by decide +kernel, by decide +kernel⟩
theorem shaped_of {t : Tr} (h : t.toD.depth ≤ 60) : SeqAt.shaped t.toD = true := by
  unfold SeqAt.shaped
  rw [Tr.can t, decide_eq_true (by omega)]
  rfl
theorem Gs.toDs_depth : ∀ {g : Gs} {k : Tr}, k ∈ g.trees → k.toD.depth ≤ PyData.depthAll g.toDs
  | .nil, k, h => by cases h
  | .cons cs t r, k, h => by
    simp only [Gs.toDs, PyData.depthAll, PyData.depth]
    rcases List.mem_cons.mp h with e | e
    · rw [e]
      omega
    · have := Gs.toDs_depth e
      omega
theorem Tr.kid_depth {t k : Tr} (h : k ∈ t.kids) : k.toD.depth ≤ t.toD.depth := by
  cases t with
  | pl => cases h
  | key _ _ t =>
    simp only [Tr.kids, List.mem_singleton] at h
    subst h
    simp only [Tr.toD, PyData.depth, PyData.depthAll]
    omega
  | fork gs =>
    have := Gs.toDs_depth (g := gs) (k := k) h
    simp only [Tr.toD, PyData.depth, PyData.depthAll]
    omega
theorem Gs.dep_most : ∀ (g : Gs), 1 ≤ g.dep → ∃ k ∈ g.trees, k.dep = g.dep
  | .nil, h => by simp [Gs.dep] at h
  | .cons cs t r, h => by
    simp only [Gs.dep] at h ⊢
    by_cases e : r.dep ≤ t.dep
    · exact ⟨t, List.mem_cons_self, by omega⟩
    · obtain ⟨k, hk, hd⟩ := Gs.dep_most r (by omega)
      exact ⟨k, List.mem_cons_of_mem _ hk, by omega⟩
theorem Tr.kid_most (t : Tr) (h : 2 ≤ t.dep) : ∃ k ∈ t.kids, k.dep + 1 = t.dep := by
  cases t with
  | pl => simp [Tr.dep] at h
  | key _ _ t => exact ⟨t, by simp [Tr.kids], by simp [Tr.dep]⟩
  | fork gs =>
    simp only [Tr.dep] at h
    obtain ⟨k, hk, hd⟩ := Gs.dep_most gs (by omega)
    exact ⟨k, hk, by simp [Tr.dep, hd]⟩
def ItK (C : Addr) (H : Hp) (E : XK) : Prop := ∀ (d : Addr) (H' : Hp), (∀ b u, H b = some u → H' b = some u) → H' d = some (.xd [("tag", .str "InvalidTree")]) → E (.ref C) (some d) H'
def spNodesX (K : PySem.W.Frag) (C : Addr) : Sp := fun vs H Q E => ∃ (v : V) (a : Addr) (t : Tr) (ds : List Int) (n : Nat), vs = [v, .ref a, .int 200, .int 20] ∧ TrAt K H t v ∧ SqT K H a (ds.map V.int) ∧ Divs ds ∧ ds.length ≤ 3 ∧ prodL ds = (n : Int) ∧ t.wf ds.length n ∧ t.size ≤ 900 ∧ t.toD.depth ≤ 60 ∧ (200 < t.size ∨ 20 < t.dep) ∧ ItK C H E
section
variable {P : Program} {w : World} {K : PySem.W.Frag} {mg : Str → Option Value} {base : Heap}
theorem ok_it {C D f cc cda fS : Addr} {fd fdS : FuncData} {k : Nat} (F : InitF P K mg "InvalidTree.__init__" sIT C f cc cda fd) (T : ErrC K C D fS)
    (GS : FnOk P w K mg base CX0 (k + 1) fS fdS ["self", "tag", "why"] (spSE K D)) (bS : Binds K fdS ["self", "tag", "why"] []) : FnOk P w K mg base CX0 (k + 2) f fd ["self"] (spE0 K C "InvalidTree") := by
  obtain ⟨oc, od, kV, doc, pm, an, ct, osl, rfl, lk⟩ := F.ex
  obtain ⟨cl, cld, csl, ll⟩ := F.ll
  refine fn_ofK (N := ["self"]) lk F.cd ll kIT (fun vs H Q E h => ?_) (fun A outer s s1 H vs Q E hr h I => ?_)
  · obtain ⟨a, rfl, _⟩ := h
    rfl
  · obtain ⟨a, rfl, ea, q⟩ := h
    have S : SupF (cxK CX0 P w K mg base ["self"] "InvalidTree.__init__" (defScope sIT) f (.ref cda) cc A outer s H E) f cc cda C :=
      ⟨rfl, rfl, rfl, rfl, rfl, rfl, rfl, ⟨_, _, _, _, _, lk, rfl, rfl⟩, F.lc, F.ll, F.lD, F.ms, F.tp, F.op⟩
    refine ks_wpAt_execs_cons ?_
    refine sup_initF (X := cxK CX0 P w K mg base ["self"] "InvalidTree.__init__" (defScope sIT) f (.ref cda) cc A outer s H E) S I rfl ea T.s1 T.m1 T.tS T.fS GS hr bS pass0 (pa_cons pe_str (pa_cons pe_str pa_nil)) (R := fun H1 => ∃ dx, H dx = none ∧ dx ≠ a ∧ H1 = upd (upd H dx (exd dx [("tag", .str "InvalidTree")])) a (exo a C (some dx)))
      ⟨a, C, _, _, rfl, T.ox, ea, T.s2, T.m2, T.ve, T.nt, fun dx n ne => ⟨dx, n, ne, rfl⟩⟩ (fun H1 s2 I2 e => ?_) rfl rfl rfl _ rfl rfl
    obtain ⟨dx, n, ne, rfl⟩ := e
    exact wpAt_of_wpAny ((pss_nil (X := cxK CX0 P w K mg base ["self"] "InvalidTree.__init__" (defScope sIT) f (.ref cda) cc A outer s H E)).run [] s2 _ _ _ I2 (q dx n ne))
theorem ok_nodesX {f fM fI C D fS fE : Addr} {fd fdM fdI fdE : FuncData} {k : Nat} (F : Fun K "count_nodes" "count_nodes" sNodes f fd) (ml : mg "len" = none)
    (R : RaiseC K mg "InvalidTree" C D fS fE) (GE : FnOk P w K mg base CX0 (k + 2) fE fdE ["self"] (spE0 K C "InvalidTree")) (bE : Binds K fdE ["self"] [])
    (GM : FnOk P w K mg base CX0 (k + 1) fM fdM ["numbers"] (spCount K)) (kM : PySem.W.keepIn K (.ref fM) = true) (bM : Binds K fdM ["numbers"] []) (gM : mg "product" = some (.ref fM))
    (GI : FnOk P w K mg base CX0 (k + 6) fI fdI ["node", "directions", "classes"] (spInner K)) (kI : PySem.W.keepIn K (.ref fI) = true) (bI : Binds K fdI ["node", "directions", "classes"] []) (gI : mg "inner_trees" = some (.ref fI)) :
    FnOk P w K mg base (L2.CX P w) (k + 7) f fd ["tree", "divisors", "most_nodes", "most_depth"] (spNodesX K C) := by
  refine F.okX scNodes (fun vs H Q E h => ?_) (fun cdv A outer s H vs Q E hr h => ?_)
  · obtain ⟨v, a, t, ds, n, rfl, _⟩ := h
    rfl
  · obtain ⟨v, a, t, ds, n, rfl, hT, hA, hD, hd, hn, hw, hz, hsh, hbad, q⟩ := h
    have hr1 : Room (k + 1) _ := hr.mono (by omega)
    have hr3 : Room (k + 2 + 1) _ := hr.mono (by omega)
    refine ⟨_, pss_cons (ps_set (i := 4) scNodes.nd rfl (.inl rfl) (pe_call GM hr1 (by rfl) gM kM bM .nil pass0 (pa_cons (pv 1) pa_nil)))
      (pss_cons (ps_set (i := 5) scNodes.nd rfl (.inl rfl) pe_int)
      (pss_cons (ps_set (i := 6) scNodes.nd rfl (.inl rfl) (pe_lst (pa_cons (pe_tup (pa_cons (pv 0) (pa_cons pe_int pa_nil))) pa_nil)))
      (pss_cons (ps_while (passes_of rfl) (pt_cmpR op_gt (pe_callB call_len_seq (by rfl) ml PySem.boot_len (pa_cons (pv 6) pa_nil)) pe_int (nomark _))
        (pss_cons (ps_asg (pe_bm0 PySem.F.plainAttrs_list PySem.F.slot_list_pop PySem.F.type_list_pop mt_pop (pv 6)) (pg_tup rfl (pgs_cons (pg_name (i := 7) scNodes.nd rfl (.inl rfl)) (pgs_cons (pg_name (i := 8) scNodes.nd rfl (.inl rfl)) pgs_nil))))
        (pss_cons (ps_aug (i := 5) scNodes.nd rfl (.inl rfl) pe_int ip_add)
        (pss_cons (ps_if (PW.pt (pw_or (pt_cmpR op_gt (pv 5) (pv 2) (nomark _)) (pw_or1 (pt_cmpR op_gt (pv 8) (pv 3) (nomark _))))) (pss_one (ps_raise rfl (takes_of rfl rfl rfl rfl) (pmk_oex0 R.er.ox R.iC R.tI GE hr3 bE pass0 (by rfl) R.at_))) pss_nil)
        (pss_one (ps_for (passes_of rfl) rfl (pi_list (pe_call GI hr (by rfl) gI kI bI .nil pass0 (pa_cons (pv 7) (pa_cons (pe_callB call_len_seq (by rfl) ml PySem.boot_len (pa_cons (pv 1) pa_nil)) (pa_cons (pv 4) pa_nil))))) (pg_name (i := 9) scNodes.nd rfl (.inl rfl))
          (pss_one (ps_expr (pe_bm PySem.F.plainAttrs_list PySem.F.slot_list_append PySem.F.type_list_append mt_append (pv 6) (pa_cons (pe_tup (pa_cons (pv 9) (pa_cons (pe_op op_add (pv 8) pe_int) pa_nil))) pa_nil))))))))))
      (pss_one (ps_ret (pv 5)))))), ?_⟩
    refine ⟨_, rfl, a, ds, rfl, hA, hD, ?_⟩
    rw [hn]
    refine ⟨_, rfl, (by show 2 ≤ sizeLine; decide), fun T nT => ?_⟩
    have s1 := same_new (o := .tup [v, .int 1]) nT
    refine ⟨(by show 1 ≤ sizeLine; decide), fun o no => ?_⟩
    have s2 := s1.trans (same_new (o := .lst [.ref T]) no)
    have noH : H o = none := s1.free no
    have hn12 : n ≤ 12 := by have := hD.most; omega
    refine ⟨fun m σ H2 => ∃ (l : List (Tr × Nat)) (ws : List V) (v7 v8 v9 : Option V), σ = [some v, some (.ref a), some (.int 200), some (.int 20), some (.int n), some (.int ((t.size - sizes l : Nat) : Int)), some (.ref o), v7, v8, v9] ∧ Same H H2 ∧ H2 o = some (.lst ws) ∧ WR K H2 l ws ∧ (∀ u ∈ l, u.1.wf ds.length n ∧ u.1.toD.depth ≤ 60 ∧ 1 ≤ u.2) ∧ sizes l ≤ t.size ∧ t.size - sizes l ≤ 200 ∧ (200 < t.size ∨ ∃ u ∈ l, 21 < u.1.dep + u.2) ∧ m = sizes l,
      ⟨_, [(t, 1)], [.ref T], none, none, none, ?_, s2, upd_same, ?_, ?_, ?_, by simp [sizes], hbad.imp id (fun z => ⟨(t, 1), List.mem_singleton.mpr rfl, by show 21 < t.dep + 1; omega⟩), rfl⟩, ?_⟩
    · simp [sizes]
      rfl
    · exact ⟨T, v, [], rfl, SqT.of (by rw [upd_ne (ne_of_none upd_same no)]; exact upd_same), TrAt.mono (Same.tups s2) hT, rfl⟩
    · intro u hu
      rw [List.mem_singleton.mp hu]
      exact ⟨hw, hsh, by show 1 ≤ 1; omega⟩
    · simp [sizes]
    · rintro m σ H2 ⟨l, ws, v7, v8, v9, rfl, sm, ho, hR, hu, hsz, hc200, hb, rfl⟩
      refine ⟨_, rfl, o, _, rfl, .inl (SqL.of ho), _, _, rfl, rfl, _, rfl, ite2 (fun e => ?_) (fun e => ?_)⟩
      · -- a turn
        have e1 : (0 : Int) < (ws.length : Int) := of_decide_eq_true e
        cases l with
        | nil =>
          have := hR.len
          simp at this
          rw [this] at e1
          exact absurd e1 (by decide)
        | cons u r =>
          obtain ⟨u, d⟩ := u
          obtain ⟨p, x, wr, rfl, hp, hx, hr2⟩ := hR
          have hu0 := hu (u, d) List.mem_cons_self
          have hu1 := Tr.deep u
          have szu := Tr.size_pos u
          have esz : sizes ((u, d) :: r) = u.size + sizes r := by simp [sizes]
          have hw1 : u.wf ds.length n := hu0.1
          have hw2 : u.toD.depth ≤ 60 := hu0.2.1
          have hw3 : 1 ≤ d := hu0.2.2
          refine ⟨fun σ' H' => ∃ (l' : List (Tr × Nat)) (ws : List V) (v7 v8 v9 : Option V), σ' = [some v, some (.ref a), some (.int 200), some (.int 20), some (.int n), some (.int ((t.size - sizes l' : Nat) : Int)), some (.ref o), v7, v8, v9] ∧ Same H H' ∧ H' o = some (.lst ws) ∧ WR K H' l' ws ∧ (∀ u ∈ l', u.1.wf ds.length n ∧ u.1.toD.depth ≤ 60 ∧ 1 ≤ u.2) ∧ sizes l' + 1 = sizes ((u, d) :: r) ∧ t.size - sizes l' ≤ 200 ∧ (200 < t.size ∨ ∃ u ∈ l', 21 < u.1.dep + u.2), fun σ' H' ⟨l', ws', y7, y8, y9, z1, z2, z3, z4, z5, z6, z7, z8⟩ => ⟨sizes l', by omega, l', ws', y7, y8, y9, z1, z2, z3, z4, z5, by omega, z7, z8, rfl⟩, ?_⟩
          -- node, depth = waiting.pop()
          have tu1 : Tups K H2 (upd H2 o (.lst wr)) := tups_lst ho
          refine ⟨_, rfl, .inl ⟨rfl, _, SqL.of ho⟩, o, _, .ref p, rfl, rfl, ho, ?_, p, [x, .int d], rfl, ?_, rfl, x, [.int d], rfl, .int d, [], rfl, rfl, ?_⟩
          · simp
          · rw [List.dropLast_concat]
            exact tu1 _ _ hp
          rw [List.dropLast_concat]
          refine ⟨_, rfl, _, _, rfl, rfl, ?_⟩
          have sm1 : Same H (upd H2 o (.lst wr)) := Same.upd_out sm noH
          have told : tMkO0 C (spE0 K C "InvalidTree") ([some v, some (.ref a), some (.int 200), some (.int 20), some (.int n), some (.int (((t.size - sizes ((u, d) :: r) : Nat) : Int) + 1)), some (.ref o), some x, some (.int d), v9]) (upd H2 o (.lst wr)) (fun cls dd H' => E cls dd H') := fun b nb => ⟨b, rfl, upd_same, fun dx nd ne => by
            have nd' : (upd H2 o (.lst wr)) dx = none := by rw [← nd, upd_ne ne]
            refine ⟨rfl, dx, _, upd_same, by rw [upd_ne ne, upd_same], nd', q dx _ (fun c u' h => ?_) upd_same⟩
            have h' := sm1 c u' h
            have hb' : c ≠ b := ne_of_none h' nb
            have hd' : c ≠ dx := ne_of_none h' nd'
            rw [upd_ne hd', del_ne hb', upd_ne hb', upd_ne hd', upd_ne hb']
            exact h'⟩
          by_cases g1 : 200 < t.size - sizes ((u, d) :: r) + 1
          · exact ⟨_, rfl, _, rfl, _, _, rfl, rfl, true, congrArg V.bl (decide_eq_true (by show (200 : Int) < ((t.size - sizes ((u, d) :: r) : Nat) : Int) + 1; omega)), iteT told⟩
          refine ⟨_, rfl, _, rfl, _, _, rfl, rfl, false, congrArg V.bl (decide_eq_false (by show ¬ (200 : Int) < ((t.size - sizes ((u, d) :: r) : Nat) : Int) + 1; omega)), iteF ?_⟩
          by_cases g2 : 20 < d
          · exact ⟨_, rfl, _, rfl, _, _, rfl, rfl, true, congrArg V.bl (decide_eq_true (by omega)), iteT told⟩
          refine ⟨_, rfl, _, rfl, _, _, rfl, rfl, false, congrArg V.bl (decide_eq_false (by omega)), iteF ?_⟩
          refine ⟨_, rfl, _, rfl, a, _, rfl, .inr (Same.sqT sm1 hA), _, rfl, x, u, ds.length, n, ?_, TrAt.mono tu1 hx, hw1, hd, hn12, shaped_of hw2, fun H3 c ks s3 nc hc hk => ?_⟩
          · rw [List.length_map]
            rfl
          have nco : c ≠ o := (ne_of_none upd_same nc).symm
          have ho3 := s3 _ _ (upd_same (H := H2) (a := o) (o := .lst wr))
          have klen := hk.len
          have kle : u.kids.length ≤ u.size := by
            have h1 := Tr.size_kids u
            have h2 : ∀ l : List Tr, l.length ≤ (l.map Tr.size).sum := fun l => by
              induction l with
              | nil => simp
              | cons y r ih =>
                have := Tr.size_pos y
                simp only [List.length_cons, List.map_cons, List.sum_cons]
                omega
            have := h2 u.kids
            omega
          refine ⟨c, rfl, ⟨_, SqL.of hc⟩, for_list (K := K) (a := c) (xs := ks) (fun i σ' H' => ∃ (ws' : List V) (v9 : Option V), σ' = [some v, some (.ref a), some (.int 200), some (.int 20), some (.int n), some (.int (((t.size - sizes ((u, d) :: r) : Nat) : Int) + 1)), some (.ref o), some x, some (.int d), v9] ∧ Same H H' ∧ H' c = some (.lst ks) ∧ TrsAt K H' u.kids ks ∧ H' o = some (.lst ws') ∧ WR K H' (((u.kids.take i).reverse.map fun y => (y, d + 1)) ++ r) ws')
            ⟨wr, v9, rfl, sm1.trans s3, hc, hk, ho3, by simpa using WR.mono (fun b ys e => Same.sqT s3 (tu1 b ys e)) hr2⟩ (fun i σ' H' _ ⟨_, _, _, _, z, _⟩ => SqL.of z) ?_ ?_⟩
          · rintro i y σ' H' hy ⟨ws', v9', rfl, sm', hc', hk', ho', hR'⟩
            obtain ⟨ky, hky, hyT⟩ := hk'.get hy
            refine ⟨_, rfl, .inl ⟨rfl, _, SqL.of ho'⟩, _, rfl, _, rfl, _, _, rfl, rfl, (by show 2 ≤ sizeLine; decide), fun T2 nT2 => ?_⟩
            have noT2 : o ≠ T2 := ne_of_none ho' nT2
            have ho2 : (upd H' T2 (.tup [y, .int ((d : Int) + 1)])) o = some (.lst ws') := by
              rw [upd_ne noT2]
              exact ho'
            have hi : i < ks.length := (List.getElem?_eq_some_iff.mp hy).1
            have lR := hR'.len
            refine ⟨o, _, _, rfl, rfl, ho2, ?_, ?_⟩
            · rw [lR]
              simp only [List.length_append, List.length_map, List.length_reverse, List.length_take]
              have := len_sizes r
              exact small1000 (by omega)
            · have tuA : Tups K H' (upd H' T2 (.tup [y, .int ((d : Int) + 1)])) := Same.tups (same_new nT2)
              have tuB : Tups K (upd H' T2 (.tup [y, .int ((d : Int) + 1)])) (upd (upd H' T2 (.tup [y, .int ((d : Int) + 1)])) o (.lst (ws' ++ [.ref T2]))) := tups_lst ho2
              have tuC : Tups K H' (upd (upd H' T2 (.tup [y, .int ((d : Int) + 1)])) o (.lst (ws' ++ [.ref T2]))) := fun b ys e => tuB b ys (tuA b ys e)
              refine ⟨_, _, rfl, Same.upd_out (sm'.trans (same_new nT2)) noH, ?_, TrsAt.mono tuC hk', upd_same, ?_⟩
              · rw [upd_ne nco, upd_ne (ne_of_none hc' nT2)]
                exact hc'
              · rw [take_more hky, List.reverse_append, List.map_append, List.append_assoc]
                refine ⟨T2, y, ws', rfl, tuB _ _ (SqT.of upd_same), TrAt.mono tuC hyT, WR.mono tuC hR'⟩
          · rintro σ' H' ⟨ws', v9', rfl, sm', hc', hk', ho', hR'⟩
            rw [List.take_of_length_le (by omega)] at hR'
            have es2 : sizes ((u.kids.reverse.map fun y => (y, d + 1)) ++ r) + 1 = sizes ((u, d) :: r) := by
              rw [sizes_app, esz, Tr.size_kids u]
              have : sizes (u.kids.reverse.map fun y => (y, d + 1)) = (u.kids.map Tr.size).sum := by
                unfold sizes
                rw [List.map_map, List.map_reverse]
                exact List.sum_reverse _
              omega
            refine ⟨_, ws', some x, some (.int d), v9', ?_, sm', ho', hR', ?_, es2, (by clear hb; omega), ?_⟩
            · have e9 : t.size - sizes ((u.kids.reverse.map fun y => (y, d + 1)) ++ r) = (t.size - sizes ((u, d) :: r)) + 1 := by
                clear hb
                omega
              rw [e9]
              rfl
            · intro y hy
              rcases List.mem_append.mp hy with h1 | h1
              · obtain ⟨y', hy', rfl⟩ := List.mem_map.mp h1
                have hm : y' ∈ u.kids := List.mem_reverse.mp hy'
                have := Tr.kid_dep hm
                exact ⟨Tr.kid_wf hm hw1, Nat.le_trans (Tr.kid_depth hm) hw2, by show 1 ≤ d + 1; omega⟩
              · exact hu y (List.mem_cons_of_mem _ h1)
            · refine hb.imp id fun ⟨y, hy, hyd⟩ => ?_
              rcases List.mem_cons.mp hy with z | z
              · subst z
                have hyd : 21 < u.dep + d := hyd
                obtain ⟨kd, hkm, hke⟩ := Tr.kid_most u (by omega)
                exact ⟨(kd, d + 1), List.mem_append_left _ (List.mem_map.mpr ⟨kd, List.mem_reverse.mpr hkm, rfl⟩), by show 21 < kd.dep + (d + 1); omega⟩
              · exact ⟨y, List.mem_append_right _ z, hyd⟩
      · -- the end
        have e1 : ¬ (0 : Int) < (ws.length : Int) := fun z => e (decide_eq_true z)
        have l0 : l = [] := by
          have := hR.len
          cases l with
          | nil => rfl
          | cons y r => rw [this, List.length_cons] at e1; omega
        subst l0
        exfalso
        have s0 : sizes [] = 0 := rfl
        rcases hb with z | ⟨y, hy, _⟩
        · omega
        · cases hy

end
end Lk

namespace Lk
open PySem L2 Lx LamX LrA LqA
/-! ### scans whose tree is too large are refused -/
def ItP (C p : Addr) (H : Hp) (E : XK) : Prop := ∀ (d : Addr) (H' : Hp), (∀ b u, H b = some u → b ≠ p → H' b = some u) → H' d = some (.xd [("tag", .str "InvalidTree")]) → E (.ref C) (some d) H'
def spInitX (K : PySem.W.Frag) (C CE : Addr) : Sp := fun vs H _ E => ∃ (p dx a : Addr) (v : V) (ds : List Int) (n : Nat) (t : Tr), vs = [.ref p, .ref a, v] ∧ H p = some (.ins C dx []) ∧ SqT K H a (ds.map V.int) ∧ TrAt K H t v ∧ Divs ds ∧ 1 ≤ ds.length ∧ ds.length ≤ 3 ∧ prodL ds = (n : Int) ∧ t.wf ds.length n ∧ t.size ≤ 900 ∧ t.toD.depth ≤ 60 ∧ (200 < t.size ∨ 20 < t.dep) ∧ ItP CE p H E
def spTurnedX (K : PySem.W.Frag) (C CE : Addr) : Sp := fun vs H _ E => ∃ (p : Addr) (ds : List Int) (n : Nat) (t : Tr), vs = [.ref p] ∧ ScanAt K C H p ds n t ∧ (tnT ds n t).size ≤ 900 ∧ (tnT ds n t).toD.depth ≤ 60 ∧ (200 < (tnT ds n t).size ∨ 20 < (tnT ds n t).dep) ∧ ItK CE H E
section
variable {P : Program} {w : World} {K : PySem.W.Frag} {mg : Str → Option Value} {base : Heap}
theorem ok_initX {f fC fN C CE : Addr} {fd fdC fdN : FuncData} {dvs : List V} {k : Nat} (F : FunD K "__init__" "Scan.__init__" (defArgs sInit) (defBody sInit) (defScope sInit) dvs [] f fd) (T : Txt K mg C)
    (GC : FnOk P w K mg base CX0 (k + 5) fC fdC ["divisors"] (spClassCount K)) (kC : PySem.W.keepIn K (.ref fC) = true) (bC : Binds K fdC ["divisors"] []) (gC : mg "class_count" = some (.ref fC))
    (GN : FnOk P w K mg base (L2.CX P w) (k + 7) fN fdN ["tree", "divisors", "most_nodes", "most_depth"] (spNodesX K CE)) (kN : PySem.W.keepIn K (.ref fN) = true) (bN : Binds K fdN ["tree", "divisors", "most_nodes", "most_depth"] []) (gN : mg "count_nodes" = some (.ref fN)) :
    FnOk P w K mg base (L2.CX P w) (k + 8) f fd ["self", "divisors", "tree"] (spInitX K C CE) := by
  refine F.ok (CX := L2.CX P w) scInit (fun vs H Q E h => ?_) (fun cdv A outer s H vs Q E hr h => ?_)
  · obtain ⟨p, dx, a, v, ds, n, t, rfl, _⟩ := h
    rfl
  · obtain ⟨p, dx, a, v, ds, n, t, rfl, hp, hA, hT, hD, l1, l3, hn, hw, hz, hdp, hbad, q⟩ := h
    have hr5 : Room (k + 5) _ := hr.mono (by omega)
    obtain ⟨u1, c1⟩ := T.c1
    obtain ⟨u2, c2⟩ := T.c2
    refine ⟨_, pss_cons (ps_fld (pv 0) (pe_call GC hr5 (by rfl) gC kC bC .nil pass0 (pa_cons (pv 1) pa_nil)) rfl)
      (pss_cons (ps_fld (pv 0) (pe_call GN hr (by rfl) gN kN bN .nil (passes_call (E := E) (takes_of rfl rfl rfl rfl) (fun _ _ _ _ h => h)) (pa_cons (pv 2) (pa_cons (pv 1) (pa_cons (ClX.pe_cval (pe_glob (v := .ref C) (by rfl) T.mgC rfl)) (pa_cons (ClX.pe_cval (pe_glob (v := .ref C) (by rfl) T.mgC rfl)) pa_nil))))) rfl)
      pss_never), ?_⟩
    refine ⟨_, rfl, a, ds, rfl, hA, l1, l3, hD, fun H1 s1 => ?_⟩
    have hp1 := s1 _ _ hp
    refine ⟨_, rfl, p, C, dx, [], rfl, hp1, T.cl, T.n1, (by show 0 < 1000; decide), ?_⟩
    have t1 : Tups K H1 (upd H1 p (.ins C dx (putF "class_total" (.int (prodL ds)) []))) := fun x ys e => by
      rcases e with (e | ⟨o, e⟩) | e
      · exact .inl (.inl (by rw [upd_ne (ne_of e hp1 (by intro z; cases z))]; exact e))
      · exact .inl (.inr ⟨o, by rw [upd_ne (ne_of e hp1 (by intro z; cases z))]; exact e⟩)
      · exact .inr e
    have t01 : Tups K H (upd H1 p (.ins C dx (putF "class_total" (.int (prodL ds)) []))) := fun x ys e => t1 x ys (Same.sqT s1 e)
    refine ⟨_, rfl, _, rfl, C, _, _, _, rfl, T.rd, c1, C, _, _, _, rfl, T.rd, c2, v, a, t, ds, n, rfl, TrAt.mono t01 hT, t01 _ _ hA, hD, l3, hn, hw, hz, hdp, hbad, fun d H' x hd => q d H' (fun b u e hb => x b u ?_) hd⟩
    rw [upd_ne hb]
    exact s1 _ _ e
end
end Lk

namespace Lk
open PySem L2 Lx LamX
/-- one of two places is odd: the first, or the second behind a good first -/
def spTwoX (K : PySem.W.Frag) (C CE : Addr) : Sp := fun vs H _ E => ∃ (p : Addr) (u v z : V) (o : Option (List V)) (ds : List Int) (n : Nat) (t : Tr), vs = [.ref p, u, v] ∧ ScanAt K C H p ds n t ∧ OD K H z o ∧ plB o (ds.length : Int) = false ∧
  (u = z ∨ (v = z ∧ ∃ (c : Addr) (x : List Int), u = .ref c ∧ SqT K H c (x.map V.int) ∧ x.length = ds.length)) ∧
  ∀ (d : Addr) (H' : Hp), (∀ b u, H b = some u → H' b = some u) → H' d = some (.xd (xflds "given" z "InvalidPlace")) → E (.ref CE) (some d) H'
section
variable {P : Program} {w : World} {K : PySem.W.Frag} {mg : Str → Option Value} {base : Heap}
theorem ok_spathX {f fC C CE : Addr} {fd fdC : FuncData} {k : Nat} (F : Fun K "path" "Scan.path" sSPath f fd) (T : Txt K mg C) (ml : mg "len" = none)
    (GC : FnOk P w K mg base (L2.CX P w) (k + 4) fC fdC ["place", "directions"] (spChkX K CE)) (kC : PySem.W.keepIn K (.ref fC) = true) (bC : Binds K fdC ["place", "directions"] []) (gC : mg "check_place" = some (.ref fC)) :
    FnOk P w K mg base (L2.CX P w) (k + 5) f fd ["self", "place"] (spShiftX K C CE) := by
  refine F.okX scSPath (fun vs H Q E h => ?_) (fun cdv A outer s H vs Q E hr h => ?_)
  · obtain ⟨p, v, o, ds, n, t, rfl, _⟩ := h
    rfl
  · obtain ⟨p, v, o, ds, n, t, rfl, S, hO, hp, q⟩ := h
    refine ⟨_, pss_cons (ps_expr (pe_call GC hr (by rfl) gC kC bC .nil (passes_call (E := E) (takes_of rfl rfl rfl rfl) (fun _ _ _ _ h => h)) (pa_cons (pv 1) (pa_cons (pe_callB call_len_seq (by rfl) ml PySem.boot_len (pa_cons (pe_fld (pv 0) rfl) pa_nil)) pa_nil)))) pss_never, ?_⟩
    obtain ⟨⟨dx, da, tv, h1, h2, h3⟩, _⟩ := id S
    have ld : ((ds.map V.int).length : Int) = (ds.length : Int) := by rw [List.length_map]
    refine ⟨_, rfl, _, rfl, p, C, dx, _, _, rfl, h1, T.cl, T.n3, sf_div _ _ _ _, da, _, rfl, .inr h2, ?_⟩
    rw [ld]
    exact ⟨v, _, o, rfl, hO, hp, q⟩
theorem ok_callX {f fP C CE : Addr} {fd fdP : FuncData} {k : Nat} (F : Fun K "__call__" "Scan.__call__" sCall f fd) (T : Txt K mg C)
    (GP : FnOk P w K mg base CX0 (k + 4) fP fdP ["self", "place"] (spSPath K C)) (GX : FnOk P w K mg base (L2.CX P w) (k + 5) fP fdP ["self", "place"] (spShiftX K C CE)) (bP : Binds K fdP ["self", "place"] []) (mP : Meth K C "path" fP) :
    FnOk P w K mg base (L2.CX P w) (k + 6) f fd ["self", "one", "other"] (spTwoX K C CE) := by
  refine F.okX scCall (fun vs H Q E h => ?_) (fun cdv A outer s H vs Q E hr h => ?_)
  · obtain ⟨p, u, v, z, o, ds, n, t, rfl, _⟩ := h
    rfl
  · obtain ⟨p, u, v, z, o, ds, n, t, rfl, S, hO, hp, hz, q⟩ := h
    have hr4 : Room (k + 4) _ := hr.mono (by omega)
    obtain ⟨⟨dx, a, tv, h1, h2, h3⟩, _⟩ := id S
    rcases hz with rfl | ⟨rfl, c, x, rfl, hc, lx⟩
    · refine ⟨_, pss_one (ps_ret (pe_cmpR (op_ltT hr.units0) (pe_meth (pv 0) T.cl mP GX hr bP .nil (passes_call (E := E) (takes_of rfl rfl rfl rfl) (fun _ _ _ _ h => h)) (pa_cons (pv 1) pa_nil)) (pe_meth (pv 0) T.cl mP GP hr4 bP .nil pass0 (pa_cons (pv 2) pa_nil)) (nomark _))), ?_⟩
      exact ⟨_, rfl, p, dx, _, rfl, h1, sf_path _ _ _ _, _, rfl, p, u, o, ds, n, t, rfl, S, hO, hp, q⟩
    · refine ⟨_, pss_one (ps_ret (pe_cmpR (op_ltT hr.units0) (pe_meth (pv 0) T.cl mP GP hr4 bP .nil pass0 (pa_cons (pv 1) pa_nil)) (pe_meth (pv 0) T.cl mP GX hr bP .nil (passes_call (E := E) (takes_of rfl rfl rfl rfl) (fun _ _ _ _ h => h)) (pa_cons (pv 2) pa_nil)) (nomark _))), ?_⟩
      refine ⟨_, rfl, p, dx, _, rfl, h1, sf_path _ _ _ _, _, rfl, p, c, ds, n, t, x, rfl, S, hc, lx, fun H1 r s1 hr1 => ?_⟩
      exact ⟨_, rfl, p, dx, _, rfl, s1 _ _ h1, sf_path _ _ _ _, _, rfl, p, v, o, ds, n, t, rfl, S.same s1, hO.mono (Same.tups s1), hp, fun d H' e => q d H' fun b u h => e b u (s1 b u h)⟩
theorem ok_tiedX {f fP C CE : Addr} {fd fdP : FuncData} {k : Nat} (F : Fun K "tied" "Scan.tied" sSTied f fd) (T : Txt K mg C) (ml : mg "len" = none)
    (GP : FnOk P w K mg base CX0 (k + 4) fP fdP ["self", "place"] (spSPath K C)) (GX : FnOk P w K mg base (L2.CX P w) (k + 5) fP fdP ["self", "place"] (spShiftX K C CE)) (bP : Binds K fdP ["self", "place"] []) (mP : Meth K C "path" fP) :
    FnOk P w K mg base (L2.CX P w) (k + 6) f fd ["self", "one", "other"] (spTwoX K C CE) := by
  refine F.okX scSTied (fun vs H Q E h => ?_) (fun cdv A outer s H vs Q E hr h => ?_)
  · obtain ⟨p, u, v, z, o, ds, n, t, rfl, _⟩ := h
    rfl
  · obtain ⟨p, u, v, z, o, ds, n, t, rfl, S, hO, hp, hz, q⟩ := h
    have hr4 : Room (k + 4) _ := hr.mono (by omega)
    obtain ⟨⟨dx, a, tv, h1, h2, h3⟩, _⟩ := id S
    rcases hz with rfl | ⟨rfl, c, x, rfl, hc, lx⟩
    · refine ⟨_, pss_cons (ps_set (i := 3) scSTied.nd rfl (.inl rfl) (pe_callB call_len_seq (by rfl) ml PySem.boot_len (pa_cons (pe_fld (pv 0) rfl) pa_nil)))
        (pss_cons (ps_set (i := 4) scSTied.nd rfl (.inl rfl) (pe_meth (pv 0) T.cl mP GX hr bP .nil (passes_call (E := E) (takes_of rfl rfl rfl rfl) (fun _ _ _ _ h => h)) (pa_cons (pv 1) pa_nil))) pss_never), ?_⟩
      refine ⟨_, rfl, p, C, dx, _, _, rfl, h1, T.cl, T.n3, sf_div _ _ _ _, a, _, rfl, .inr h2, ?_⟩
      exact ⟨_, rfl, p, dx, _, rfl, h1, sf_path _ _ _ _, _, rfl, p, u, o, ds, n, t, rfl, S, hO, hp, q⟩
    · refine ⟨_, pss_cons (ps_set (i := 3) scSTied.nd rfl (.inl rfl) (pe_callB call_len_seq (by rfl) ml PySem.boot_len (pa_cons (pe_fld (pv 0) rfl) pa_nil)))
        (pss_cons (ps_set (i := 4) scSTied.nd rfl (.inl rfl) (pe_meth (pv 0) T.cl mP GP hr4 bP .nil pass0 (pa_cons (pv 1) pa_nil)))
        (pss_cons (ps_set (i := 5) scSTied.nd rfl (.inl rfl) (pe_meth (pv 0) T.cl mP GX hr bP .nil (passes_call (E := E) (takes_of rfl rfl rfl rfl) (fun _ _ _ _ h => h)) (pa_cons (pv 2) pa_nil))) pss_never)), ?_⟩
      refine ⟨_, rfl, p, C, dx, _, _, rfl, h1, T.cl, T.n3, sf_div _ _ _ _, a, _, rfl, .inr h2, ?_⟩
      refine ⟨_, rfl, p, dx, _, rfl, h1, sf_path _ _ _ _, _, rfl, p, c, ds, n, t, x, rfl, S, hc, lx, fun H1 r s1 hr1 => ?_⟩
      exact ⟨_, rfl, p, dx, _, rfl, s1 _ _ h1, sf_path _ _ _ _, _, rfl, p, v, o, ds, n, t, rfl, S.same s1, hO.mono (Same.tups s1), hp, fun d H' e => q d H' fun b u h => e b u (s1 b u h)⟩
end
/-! ### a fork into as many groups as classes -/
def spForked (K : PySem.W.Frag) : Sp := fun vs H Q _ => ∃ (b l p : Addr) (ds : List Int) (n : Nat) (t : Tr), vs = [.ref b, .ref p] ∧ BagAt H b l ∧ PairAt K H p ds n t ∧
  ∀ (q : Addr) (u : Tr) (H' : Hp), PairAt K H' q ds n u → BagAt H' b l → But b H H' → Q (.ref q) H'
theorem flatten_single : ∀ l : List Int, (l.map fun x => [x]).flatten = l
  | [] => rfl
  | x :: r => by
    show [x] ++ (r.map fun x => [x]).flatten = x :: r
    rw [flatten_single r]
    rfl
theorem ints_of : ∀ {ys : List V}, (∀ y ∈ ys, ∃ i : Int, y = V.int i) → ∃ ns : List Int, ys = ns.map V.int
  | [], _ => ⟨[], rfl⟩
  | y :: r, h => by
    obtain ⟨i, rfl⟩ := h y List.mem_cons_self
    obtain ⟨ns, rfl⟩ := ints_of (ys := r) fun z hz => h z (List.mem_cons_of_mem _ hz)
    exact ⟨i :: ns, rfl⟩
def unI : V → Int
  | .int i => i
  | _ => 0
theorem unI_map (ns : List Int) : (ns.map V.int).map unI = ns := by
  rw [List.map_map]
  exact List.map_id _
theorem perm_ints {ns ms : List Int} (h : (ns.map V.int).Perm (ms.map V.int)) : ns.Perm ms := by
  have := h.map unI
  rwa [unI_map, unI_map] at this
section
variable {P : Program} {w : World} {K : PySem.W.Frag} {mg : Str → Option Value} {base : Heap}
end
end Lk

namespace Lk
open PySem L2 Lx LamX LrA LqA
theorem room65 {k : Nat} {A : Around} (r : Room k A) : A.units + 65 < cLine := by have := r.un; omega
/-! ### lists of places as data -/
abbrev dl (l : List (List Int)) : List PyData := l.map fun c => PyData.tuple (c.map .int)
theorem dp_ints {K : PySem.W.Frag} {H : Hp} : ∀ ns : List Int, DpAll K H (ns.map V.int) (ns.map PyData.int)
  | [] => .nil
  | x :: r => .cons (.int x) (dp_ints r)
theorem dp_tup {K : PySem.W.Frag} {H : Hp} {a : Addr} {ns : List Int} (h : SqT K H a (ns.map V.int)) : Dp K H (.ref a) (.tuple (ns.map .int)) := .tup h (dp_ints ns)
theorem dp_hds {K : PySem.W.Frag} {H : Hp} : ∀ {l : List (List Int)} {ws : List V}, HdsAt K H l ws → DpAll K H ws (dl l)
  | [], _, h => by
    have h : _ = [] := h
    rw [h]
    exact .nil
  | c :: r, _, ⟨a, wr, h1, h2, h3⟩ => by
    rw [h1]
    exact .cons (dp_tup h2) (dp_hds h3)
theorem lay_ints : ∀ ns : List Int, PyData.canLayAll0 (ns.map .int) = true
  | [] => rfl
  | x :: r => by
    show PyData.canLayAll0 (.int x :: r.map .int) = true
    unfold PyData.canLayAll0
    rw [lay_ints r]
    rfl
theorem lay_dl : ∀ l : List (List Int), PyData.canLayAll0 (dl l) = true
  | [] => rfl
  | c :: r => by
    show PyData.canLayAll0 (.tuple (c.map .int) :: dl r) = true
    unfold PyData.canLayAll0 PyData.canLay0
    rw [lay_dl r, lay_ints c]
    rfl
theorem dep_tup (c : List Int) : (PyData.tuple (c.map .int)).depth ≤ 1 := by
  unfold PyData.depth
  rw [PySem.W.depth_ints]
  decide
theorem dep_dl : ∀ l : List (List Int), PyData.depthAll (dl l) ≤ 1
  | [] => by simp [PyData.depthAll]
  | c :: r => by
    show PyData.depthAll (.tuple (c.map .int) :: dl r) ≤ 1
    unfold PyData.depthAll
    have h1 := dep_dl r
    have h2 := dep_tup c
    omega
theorem shp_tup (c : List Int) : SeqAt.shaped (.tuple (c.map .int)) = true := by
  unfold SeqAt.shaped
  have h := dep_tup c
  rw [decide_eq_true (show (PyData.tuple (c.map .int)).depth ≤ 64 by omega), Bool.and_true]
  unfold PyData.canLay0
  exact lay_ints c
theorem shp_dl (l : List (List Int)) : SeqAt.shaped (.list (dl l)) = true := by
  unfold SeqAt.shaped
  have h := dep_dl l
  have h2 : (PyData.list (dl l)).depth ≤ 64 := by
    unfold PyData.depth
    omega
  rw [decide_eq_true h2, Bool.and_true]
  unfold PyData.canLay0
  exact lay_dl l
theorem eqv_tups (a b : List Int) : PyData.eqv (.tuple (a.map .int)) (.tuple (b.map .int)) = decide (a = b) := by
  unfold PyData.eqv
  exact eqv_tup a b
theorem any_dl (x : List Int) : ∀ l : List (List Int), ((dl l).any fun z => PyData.eqv z (.tuple (x.map .int))) = decide (x ∈ l)
  | [] => by simp
  | c :: r => by
    show (PyData.eqv (.tuple (c.map .int)) (.tuple (x.map .int)) || ((dl r).any fun z => PyData.eqv z (.tuple (x.map .int)))) = _
    rw [any_dl x r, eqv_tups]
    by_cases e : c = x
    · simp [e]
    · have : ¬ x = c := fun z => e z.symm
      simp [e, this]
theorem first_ix {x : List Int} : ∀ {l : List (List Int)}, x ∈ l → ∃ j : Nat, l[j]? = some x ∧ ∀ m, m < j → l[m]? ≠ some x
  | c :: r, h => by
    by_cases e : c = x
    · exact ⟨0, by rw [e]; rfl, fun m hm => absurd hm (Nat.not_lt_zero _)⟩
    · rcases List.mem_cons.mp h with z | z
      · exact absurd z.symm e
      · obtain ⟨j, h1, h2⟩ := first_ix z
        refine ⟨j + 1, h1, fun m hm => ?_⟩
        match m, hm with
        | 0, _ => exact fun z => e (Option.some.inj z)
        | m + 1, hm => exact h2 m (by omega)
/-! ### order and rank, and what they refuse -/
def lnO : Option (List V) → Nat
  | none => 0
  | some xs => xs.length
def oxE (o : Option (List V)) (c : Nat) : Nat := if sdB o 0 = true ∧ lnO o = c then (if 2000 < prodL (itsI o) then 2 else 0) else 1
def spChkBoxX (K : PySem.W.Frag) (C1 : Addr) : Sp := fun vs H _ E => ∃ (v : V) (c : Nat) (o : Option (List V)), vs = [v, .int c] ∧ OD K H v o ∧ ¬ (sdB o 0 = true ∧ lnO o = c) ∧ ∀ (d : Addr) (H' : Hp), (∀ b u, H b = some u → H' b = some u) → H' d = some (.xd (xflds "given" v "InvalidBox")) → E (.ref C1) (some d) H'
def spOrdX (K : PySem.W.Frag) (C C1 C2 : Addr) : Sp := fun vs H _ E => ∃ (p : Addr) (v : V) (o : Option (List V)) (ds : List Int) (n : Nat) (t : Tr), vs = [.ref p, v] ∧ ScanAt K C H p ds n t ∧ OD K H v o ∧ OB o ∧ oxE o ds.length ≠ 0 ∧ BxK C1 C2 v (oxE o ds.length) H E
def BoxAt (K : PySem.W.Frag) (H : Hp) (b : Addr) (ns : List Int) (d : Nat) : Prop := SqT K H b (ns.map V.int) ∧ ns.length = d ∧ (∀ z ∈ ns, 0 ≤ z ∧ z < 2 ^ 64) ∧ prodL ns ≤ 2000
def spRank (K : PySem.W.Frag) (C : Addr) : Sp := fun vs H Q _ => ∃ (p b c : Addr) (ds : List Int) (n : Nat) (t : Tr) (ns x : List Int), vs = [.ref p, .ref b, .ref c] ∧ ScanAt K C H p ds n t ∧ BoxAt K H b ns ds.length ∧ SqT K H c (x.map V.int) ∧ x ∈ cellN ns ∧
  ∀ (H' : Hp) (j : Nat), Same H H' → ((cellN ns).mergeSort (leF ds t))[j]? = some x → Q (.int j) H'
def spRankX (K : PySem.W.Frag) (C C1 C2 CE : Addr) : Sp := fun vs H _ E => ∃ (p : Addr) (v u : V) (ds : List Int) (n : Nat) (t : Tr), vs = [.ref p, v, u] ∧ ScanAt K C H p ds n t ∧
  ((∃ o, OD K H v o ∧ OB o ∧ oxE o ds.length ≠ 0 ∧ BxK C1 C2 v (oxE o ds.length) H E) ∨
   (∃ b ns, v = .ref b ∧ BoxAt K H b ns ds.length ∧ ((∃ o, OD K H u o ∧ plB o ds.length = false) ∨ (∃ c x, u = .ref c ∧ SqT K H c (x.map V.int) ∧ x.length = ds.length ∧ x ∉ cellN ns)) ∧ PlK CE u H E))
section
variable {P : Program} {w : World} {K : PySem.W.Frag} {mg : Str → Option Value} {base : Heap}
theorem ok_chkboxX {f fS fI C D fE : Addr} {fd fdS fdI : FuncData} {k : Nat} (F : Fun K "check_box" "check_box" sChkBox f fd) (ml : mg "len" = none) (R : RaiseC K mg "InvalidBox" C D fE fI)
    (GI : FnOk P w K mg base CX0 (k + 2) fI fdI ["self", "given"] (spE1 K C "InvalidBox" "given")) (bI : Binds K fdI ["self", "given"] [])
    (GS' : FnOk P w K mg base CX0 (k + 3) fS fdS ["value", "least"] (spSidesO K)) (kS : PySem.W.keepIn K (.ref fS) = true) (bS : Binds K fdS ["value", "least"] []) (gS : mg "are_sides" = some (.ref fS)) : FnOk P w K mg base (L2.CX P w) (k + 4) f fd ["box", "directions"] (spChkBoxX K C) := by
  refine F.okX scChkBox (fun vs H Q E h => ?_) (fun cdv A outer s H vs Q E hr h => ?_)
  · obtain ⟨v, c, o, rfl, _⟩ := h
    rfl
  · obtain ⟨v, c, o, rfl, hO, hn, q⟩ := h
    refine ⟨_, pss_one (ps_if (PW.pt (pw_or (pt_not (pt_val (pe_call GS' hr (by rfl) gS kS bS .nil pass0 (pa_cons (pv 0) (pa_cons pe_int pa_nil)))))
      (pw_or1 (pt_cmpR op_ne (pe_callB call_len_seq (by rfl) ml PySem.boot_len (pa_cons (pv 0) pa_nil)) (pv 1) (nomark _))))) (pss_one (ps_raise rfl (takes_of rfl rfl rfl rfl) (pmk_oex R.er.ox R.iC R.tI GI hr bI .nil pass0 (by rfl) R.at_ (pa_cons (pv 0) pa_nil)))) pss_nil), ?_⟩
    refine ⟨_, rfl, _, _, _, rfl, hO, fun H1 sm => ?_⟩
    cases hs : sdB o 0 with
    | false =>
      refine ⟨false, rfl, iteT ⟨_, rfl, (by show 1 ≤ 1000; decide), fun a na => ⟨a, v, rfl, upd_same, fun dx nd ne => ⟨rfl, dx, _, ?_, upd_same, ?_, ?_⟩⟩⟩⟩
      · rw [upd_ne (Ne.symm ne), upd_same]
      · rw [← nd, upd_ne ne]
      · have nd' : H1 dx = none := by rw [← nd, upd_ne ne]
        exact q dx _ (fun b u e => made_ext (C := C) na nd' b u (sm b u e)) upd_same
    | true =>
      obtain ⟨xs, rfl, ex, l1, l3, hz⟩ := sdB_ints hs
      obtain ⟨a, rfl, hS, _⟩ := id hO
      have hne : xs.length ≠ c := fun e => hn ⟨hs, e⟩
      refine ⟨true, rfl, iteF ⟨_, rfl, a, _, rfl, .inr (Same.sqT sm hS), _, rfl, rfl, true, ?_, iteT ⟨_, rfl, (by show 1 ≤ 1000; decide), fun a' na => ⟨a', .ref a, rfl, upd_same, fun dx nd ne => ⟨rfl, dx, _, ?_, upd_same, ?_, ?_⟩⟩⟩⟩⟩
      · rw [decide_eq_false fun z => hne (by have := V.int.inj z; omega)]
        rfl
      · rw [upd_ne (Ne.symm ne), upd_same]
      · rw [← nd, upd_ne ne]
      · have nd' : H1 dx = none := by rw [← nd, upd_ne ne]
        exact q dx _ (fun b u e => made_ext (C := C) na nd' b u (sm b u e)) upd_same
theorem ok_orderX {f fB fC C C1 C2 : Addr} {fd fdB fdC : FuncData} {k : Nat} (F : Fun K "order" "Scan.order" sOrder f fd) (T : Txt K mg C) (ml : mg "len" = none) (mli : mg "list" = none) (hN2 : PySem.W.subIn K (.ref C2) (.type "StopIteration") = some false)
    (GB : FnOk P w K mg base CX0 (k + 4) fB fdB ["box", "directions"] (spChkBox K)) (GBX : FnOk P w K mg base (L2.CX P w) (k + 4) fB fdB ["box", "directions"] (spChkBoxX K C1)) (kB : PySem.W.keepIn K (.ref fB) = true) (bB : Binds K fdB ["box", "directions"] []) (gB : mg "check_box" = some (.ref fB))
    (GCX : GFn P w K mg base (k + 4) fC fdC ["box"] (spCellsX K C1 C2)) (kC : PySem.W.keepIn K (.ref fC) = true) (bC : Binds K fdC ["box"] []) (gC : mg "cells" = some (.ref fC)) :
    FnOk P w K mg base (L2.CX P w) (k + 8) f fd ["self", "box"] (spOrdX K C C1 C2) := by
  refine F.okX scOrder (fun vs H Q E h => ?_) (fun cdv A outer s H vs Q E hr h => ?_)
  · obtain ⟨p, v, o, ds, n, t, rfl, _⟩ := h
    rfl
  · obtain ⟨p, v, o, ds, n, t, rfl, S, hO, hB, hne, q⟩ := h
    have hr4 : Room (k + 4) _ := hr.mono (by omega)
    have hr7 : Room (k + 4 + 3) _ := hr.mono (by omega)
    obtain ⟨⟨dx, a, tv, h1, h2, h3⟩, hD, l1, l3, hn, hw, hdp, hsz⟩ := id S
    by_cases hb : sdB o 0 = true ∧ lnO o = ds.length
    rotate_left
    · have e1 : oxE o ds.length = 1 := by
        unfold oxE
        rw [if_neg hb]
      rw [e1] at q
      refine ⟨_, pss_cons (ps_expr (pe_call GBX hr4 (by rfl) gB kB bB .nil (passes_call (E := E) (takes_of rfl rfl rfl rfl) (fun _ _ _ _ h => h)) (pa_cons (pv 1) (pa_cons (pe_callB call_len_seq (by rfl) ml PySem.boot_len (pa_cons (pe_fld (pv 0) rfl) pa_nil)) pa_nil)))) pss_never, ?_⟩
      refine ⟨_, rfl, _, rfl, p, C, dx, _, _, rfl, h1, T.cl, T.n3, sf_div _ _ _ _, a, _, rfl, .inr h2, v, ds.length, o, ?_, hO, hb, fun d H' x h => (q d H' x).1 rfl h⟩
      rw [List.length_map]
      rfl
    · have e0 : oxE o ds.length = if 2000 < prodL (itsI o) then 2 else 0 := by
        unfold oxE
        rw [if_pos hb]
      have hp : 2000 < prodL (itsI o) := by
        refine Decidable.byContradiction fun z => hne ?_
        rw [e0, if_neg z]
      have e2 : oxE o ds.length = 2 := by rw [e0, if_pos hp]
      rw [e2] at q
      obtain ⟨hs, hl⟩ := hb
      obtain ⟨xs, rfl, ex, lx1, lx3, hz⟩ := sdB_ints hs
      obtain ⟨b, rfl, hS, _⟩ := id hO
      have hl : xs.length = ds.length := hl
      have eb : bxE (some xs) = 2 := by
        unfold bxE
        rw [if_pos hs, if_pos hp]
      rw [ex] at hS
      have ei : (itsI (some xs)).length = xs.length := List.length_map _
      refine ⟨_, pss_cons (ps_expr (pe_call GB hr4 (by rfl) gB kB bB .nil pass0 (pa_cons (pv 1) (pa_cons (pe_callB call_len_seq (by rfl) ml PySem.boot_len (pa_cons (pe_fld (pv 0) rfl) pa_nil)) pa_nil))))
        (pss_cons (ps_set (i := 2) scOrder.nd rfl (.inl rfl) (pe_listG (E := fun cls d H' => E cls d H' ∧ PySem.W.subIn K cls (.type "StopIteration") = some false) (pgen_call GCX hr4 (by rfl) gC kC bC .nil (pa_cons (pv 1) pa_nil) (by decide) (by rfl) (by rfl))
          (passes_call (takes_of rfl rfl rfl rfl) (fun _ _ _ _ h => h.1)) (fun _ _ _ h => h.2) hr7 (by rfl) mli (by decide +kernel) (by decide) (by decide) (by rfl))) pss_never), ?_⟩
      refine ⟨_, rfl, _, rfl, p, C, dx, _, _, rfl, h1, T.cl, T.n3, sf_div _ _ _ _, a, _, rfl, .inr h2, b, itsI (some xs), ?_, hS, by omega, by omega, fun z hm => ?_, fun H1 s1 => ?_⟩
      · rw [List.length_map, ei, hl]
        rfl
      · exact hz z hm
      refine ⟨_, rfl, .ref b, some xs, rfl, hO.mono (Same.tups s1), hB, by rw [eb]; decide, ?_⟩
      rw [eb]
      exact fun d H' x => ⟨fun z => (by cases z), fun _ h => ⟨((q.same s1) d H' x).2 rfl h, hN2⟩⟩
end
end Lk

namespace Lk
open PySem L2 Lx LamX LrA LqA
def mB (d : Int) : Int := if d = 1 then 13 else if d = 2 then 7 else 5
theorem mB_at {d : Int} (h1 : 1 ≤ d) (h3 : d ≤ 3) : atI [V.int 13, V.int 7, V.int 5] (d - 1) = some (.int (mB d)) := by
  have h : d = 1 ∨ d = 2 ∨ d = 3 := by omega
  rcases h with e | e | e
  · rw [e]; rfl
  · rw [e]; rfl
  · rw [e]; rfl
theorem prodL_le {m : Int} (hm : 1 ≤ m) : ∀ {l : List Int}, (∀ z ∈ l, 0 ≤ z ∧ z ≤ m) → prodL l ≤ m ^ l.length
  | [], _ => by simp [prodL]
  | x :: r, h => by
    have hx := h x List.mem_cons_self
    have ih := prodL_le hm (l := r) fun z hz => h z (List.mem_cons_of_mem _ hz)
    have n := prodL_nn (l := r) fun z hz => (h z (List.mem_cons_of_mem _ hz)).1
    show x * prodL r ≤ m ^ (r.length + 1)
    rw [Int.pow_succ, Int.mul_comm (m ^ r.length) m]
    exact Int.mul_le_mul hx.2 ih n (by omega)
def LBoxK (ns : List Int) : Prop := (∀ z ∈ ns, 0 ≤ z ∧ z ≤ 12) ∧ prodL ns ≤ 64
def spLBox : Sp := fun vs H Q _ => ∃ (b l : Addr) (d : Int), vs = [.ref b, .int d] ∧ BagAt H b l ∧ 1 ≤ d ∧ d ≤ 3 ∧
  ∀ (ns : List Int) (H' : Hp) (a : Addr), (ns.length : Int) = d → LBoxK ns → H a = none → H' a = some (.tup (ns.map V.int)) → BagAt H' b l → But b H H' → Q (.ref a) H'
section
variable {P : Program} {w : World} {K : PySem.W.Frag} {mg : Str → Option Value} {base : Heap}
end
/-! ### drawn trees, weighed: a node counts one, an end seven -/
mutual
def Tr.wz : Tr → Nat
  | .pl => 7
  | .key _ _ t => t.wz + 1
  | .fork gs => gs.wz + 1
def Gs.wz : Gs → Nat
  | .nil => 0
  | .cons _ t r => t.wz + r.wz
end
mutual
theorem Tr.wz_eq : ∀ t : Tr, t.wz = t.size + 6 * t.ends
  | .pl => by simp [Tr.wz, Tr.size, Tr.ends]
  | .key _ _ t => by simp [Tr.wz, Tr.size, Tr.ends, Tr.wz_eq t]; omega
  | .fork gs => by simp [Tr.wz, Tr.size, Tr.ends, Gs.wz_eq gs]; omega
theorem Gs.wz_eq : ∀ g : Gs, g.wz = g.size + 6 * g.ends
  | .nil => by simp [Gs.wz, Gs.size, Gs.ends]
  | .cons _ t r => by simp [Gs.wz, Gs.size, Gs.ends, Tr.wz_eq t, Gs.wz_eq r]; omega
end
theorem Gs.wz_snoc (cs : List Int) (t : Tr) : ∀ g : Gs, (g.snoc cs t).wz = g.wz + t.wz
  | .nil => by simp [Gs.snoc, Gs.wz]
  | .cons c u r => by simp [Gs.snoc, Gs.wz, Gs.wz_snoc cs t r]; omega
def zB : Nat → Nat
  | 0 => 7
  | n + 1 => 1 + 5 * zB n
theorem zB_pos7 : ∀ n, 7 ≤ zB n
  | 0 => Nat.le_refl _
  | n + 1 => by have := zB_pos7 n; simp only [zB]; omega
def spTreeW (K : PySem.W.Frag) (m : Nat) : Sp := fun vs H Q _ => ∃ (b l a : Addr) (ds : List Int) (n : Nat), vs = [.ref b, .ref a, .int m] ∧ BagAt H b l ∧ SqT K H a (ds.map V.int) ∧ Divs ds ∧ ds.length ≤ 3 ∧ prodL ds = (n : Int) ∧
  ∀ (t : Tr) (v : V) (H' : Hp), t.wf ds.length n → t.dep ≤ m + 1 → t.wz ≤ zB m → TrAt K H' t v → BagAt H' b l → But b H H' → Q v H'
def spSmall (K : PySem.W.Frag) : Sp := fun vs H Q _ => ∃ (b l : Addr) (d : Int), vs = [.ref b, .int d] ∧ BagAt H b l ∧ 1 ≤ d ∧ d ≤ 3 ∧
  ∀ (ds : List Int) (n : Nat) (t : Tr) (a p : Addr) (v : V) (H' : Hp), (ds.length : Int) = d → Divs ds → prodL ds = (n : Int) → t.wf ds.length n → t.dep ≤ 3 → t.size + 6 * t.ends ≤ 181 → SqT K H' a (ds.map V.int) → TrAt K H' t v → SqT K H' p [.ref a, v] → BagAt H' b l → But b H H' → Q (.ref p) H'
section
variable {P : Program} {w : World} {K : PySem.W.Frag} {mg : Str → Option Value} {base : Heap}
theorem ok_treeW {f fP fC fO fA : Addr} {fd fdP fdC fdO fdA : FuncData} {k : Nat} (F : Fun K "_law_tree" "_law_tree" sTree f fd) (mt : mg "tuple" = none) (mr : mg "range" = none)
    (gF : mg "_law_tree" = some (.ref f)) (bF : Binds K fd ["_law_bag_here", "_law_divisors_here", "_law_depth"] [])
    (GP : FnOk P w K mg base CX0 (k + 1) fP fdP ["_law_bag_here", "_law_amount"] spPull) (kp : PySem.W.keepIn K (.ref fP) = true) (bP : Binds K fdP ["_law_bag_here", "_law_amount"] []) (gP : mg "_law_pull" = some (.ref fP))
    (GC : FnOk P w K mg base CX0 (k + 1) fC fdC ["_law_divisors_here"] (spCount K)) (kC : PySem.W.keepIn K (.ref fC) = true) (bC : Binds K fdC ["_law_divisors_here"] []) (gC : mg "_law_count" = some (.ref fC))
    (GO : FnOk P w K mg base CX0 (k + 2) fO fdO ["_law_bag_here", "_law_things"] (spOf K)) (kO : PySem.W.keepIn K (.ref fO) = true) (bO : Binds K fdO ["_law_bag_here", "_law_things"] []) (gO : mg "_law_of" = some (.ref fO))
    (GA : FnOk P w K mg base CX0 (k + 2) fA fdA ["_law_bag_here", "_law_many", "_law_most"] (spParts K)) (kA : PySem.W.keepIn K (.ref fA) = true) (bA : Binds K fdA ["_law_bag_here", "_law_many", "_law_most"] []) (gA : mg "_law_parts" = some (.ref fA)) :
    ∀ m : Nat, FnOk P w K mg base CX0 (k + 3 + m) f fd ["_law_bag_here", "_law_divisors_here", "_law_depth"] (spTreeW K m)
  | 0 => by
    refine F.ok (k := k + 2) scTree (fun vs H Q E h => ?_) (fun cdv A outer s H vs Q E hr h => ?_)
    · obtain ⟨b, l, a, ds, n, rfl, _⟩ := h
      rfl
    · obtain ⟨b, l, a, ds, n, rfl, B, hA, hD, hd, hn, q⟩ := h
      have hr1 : Room (k + 1) _ := hr.mono (by omega)
      refine ⟨_, pss_cons (ps_par (i := 3) (j := 4) (by rfl) scTree.nd rfl rfl (by decide) rfl rfl (pa_cons (pe_call GC hr1 (by rfl) gC kC bC .nil pass0 (pa_cons (pv 1) pa_nil)) (pa_cons (pe_call GP hr1 (by rfl) gP kp bP .nil pass0 (pa_cons (pv 0) (pa_cons pe_int pa_nil))) pa_nil)) (by rfl))
        (pss_cons (ps_if (PW.pt (pw_or (pt_cmpR op_eq (pv 2) pe_int (nomark _)) (pw_or1 (pt_cmpR op_eq (pv 4) pe_int (nomark _))))) (pss_one (ps_ret (pe_tup (pa_cons pe_str pa_nil)))) pss_nil) pss_never), ?_⟩
      refine ⟨_, rfl, a, ds, rfl, hA, hD, _, rfl, b, l, 4, rfl, B, by decide, by decide, fun g H1 g0 g1 B1 bt => ?_⟩
      refine ⟨_, _, rfl, ?_⟩
      refine ⟨_, rfl, rfl, true, rfl, iteT ?_⟩
      refine ⟨(by show 1 ≤ sizeLine; decide), fun p np => ?_⟩
      refine q .pl _ _ (by simp [Tr.wf]) (by simp [Tr.dep]) (by simp [Tr.wz, zB]) ?_ (B1.new np) (bt.trans (new_but np))
      simp only [TrAt]
      exact ⟨p, rfl, SqT.of upd_same⟩
  | m + 1 => by
    have GT := ok_treeW F mt mr gF bF GP kp bP gP GC kC bC gC GO kO bO gO GA kA bA gA m
    refine F.ok (k := k + 3 + m) scTree (fun vs H Q E h => ?_) (fun cdv A outer s H vs Q E hr h => ?_)
    · obtain ⟨b, l, a, ds, n, rfl, _⟩ := h
      rfl
    · obtain ⟨b, l, a, ds, n, rfl, B, hA, hD, hd, hn, q⟩ := h
      have hr1 : Room (k + 1) _ := hr.mono (by omega)
      have hr2 : Room (k + 2) _ := hr.mono (by omega)
      have hn12 : n ≤ 12 := by have := hD.most; omega
      refine ⟨_, pss_cons (ps_par (i := 3) (j := 4) (by rfl) scTree.nd rfl rfl (by decide) rfl rfl (pa_cons (pe_call GC hr1 (by rfl) gC kC bC .nil pass0 (pa_cons (pv 1) pa_nil)) (pa_cons (pe_call GP hr1 (by rfl) gP kp bP .nil pass0 (pa_cons (pv 0) (pa_cons pe_int pa_nil))) pa_nil)) (by rfl))
        (pss_cons (ps_if (PW.pt (pw_or (pt_cmpR op_eq (pv 2) pe_int (nomark _)) (pw_or1 (pt_cmpR op_eq (pv 4) pe_int (nomark _))))) (pss_one (ps_ret (pe_tup (pa_cons pe_str pa_nil)))) pss_nil)
        (pss_cons (ps_if (pt_cmpR op_eq (pv 4) pe_int (nomark _))
          (pss_cons (ps_set (i := 5) scTree.nd rfl (.inl rfl) (pe_call GA hr2 (by rfl) gA kA bA .nil pass0 (pa_cons (pv 0) (pa_cons (pv 3) (pa_cons (pe_ifExp (pt_cmpR op_eq (pv 2) pe_int (nomark _)) pe_int pe_int) pa_nil)))))
          (pss_one (ps_ret (pe_tup (pa_cons pe_str (pa_cons (pe_callTy call_tuple_of (by rfl) mt (by decide +kernel) (pa_cons (pe_lc (own := [("_law_part", 9)]) (g := gName 9) (by rfl) scTree.nd (pi_list (pv 5))
            (blkOk_by (own := [("_law_part", 9)]) (N := ["_law_bag_here", "_law_divisors_here", "_law_depth", "_law_many", "_law_pick", "_law_parts_here", "_law_size", "_law_row", "_law_heights", "_law_part", "_law_one", "_law_number"]) (sc := defScope sTree) (by decide +kernel))
            (fun _ _ _ _ _ => pg_name (i := 9) scTree.nd rfl (Or.inl rfl)) (fun _ _ _ _ _ => pts_nil)
            (fun _ _ _ _ _ => pe_tup (pa_cons (pv 9) (pa_cons (pe_call GT hr (by rfl) gF F.kp bF .nil pass0 (pa_cons (pv 0) (pa_cons (pv 1) (pa_cons (pe_op op_sub (pv 2) pe_int) pa_nil)))) pa_nil)))) pa_nil)) pa_nil)))))) pss_nil)
        (pss_cons (ps_set (i := 6) scTree.nd rfl (.inr rfl) (pe_call GO hr2 (by rfl) gO kO bO .nil pass0 (pa_cons (pv 0) (pa_cons (pe_lst (pa_cons pe_int (pa_cons pe_int (pa_cons pe_int (pa_cons (pe_op op_pow pe_int pe_int) pa_nil))))) pa_nil))))
        (pss_cons (ps_set (i := 7) scTree.nd rfl (.inl rfl) (pe_callTy call_tuple_of (by rfl) mt (by decide +kernel) (pa_cons (pe_lc (own := [("_law_one", 10)]) (g := gName 10) (by rfl) scTree.nd (pi_tup (pv 1))
            (blkOk_by (own := [("_law_one", 10)]) (N := ["_law_bag_here", "_law_divisors_here", "_law_depth", "_law_many", "_law_pick", "_law_parts_here", "_law_size", "_law_row", "_law_heights", "_law_part", "_law_one", "_law_number"]) (sc := defScope sTree) (by decide +kernel))
            (fun _ _ _ _ _ => pg_name (i := 10) scTree.nd rfl (Or.inl rfl)) (fun _ _ _ _ _ => pts_nil)
            (fun _ _ _ _ _ => pe_op op_sub (pe_call GP hr1 (by rfl) gP kp bP .nil pass0 (pa_cons (pv 0) (pa_cons (pe_op op_add (pe_op op_mul pe_int (pv 6)) pe_int) pa_nil))) (pv 6))) pa_nil)))
        (pss_cons (ps_set (i := 8) scTree.nd rfl (.inl rfl) (pe_callTy call_tuple_of (by rfl) mt (by decide +kernel) (pa_cons (pe_lc (own := [("_law_number", 11)]) (g := gName 11) (by rfl) scTree.nd (pi_range1 (by rfl) mr (pa_cons (pv 3) pa_nil))
            (blkOk_by (own := [("_law_number", 11)]) (N := ["_law_bag_here", "_law_divisors_here", "_law_depth", "_law_many", "_law_pick", "_law_parts_here", "_law_size", "_law_row", "_law_heights", "_law_part", "_law_one", "_law_number"]) (sc := defScope sTree) (by decide +kernel))
            (fun _ _ _ _ _ => pg_name (i := 11) scTree.nd rfl (Or.inl rfl)) (fun _ _ _ _ _ => pts_nil)
            (fun _ _ _ _ _ => pe_ifExp (pt_cmpR op_lt (pv 6) pe_int (nomark _)) (pe_op op_sub (pe_call GP hr1 (by rfl) gP kp bP .nil pass0 (pa_cons (pv 0) (pa_cons pe_int pa_nil))) pe_int)
              (pe_op op_sub (pe_call GP hr1 (by rfl) gP kp bP .nil pass0 (pa_cons (pv 0) (pa_cons (pe_op op_mul pe_int (pv 6)) pa_nil))) (pe_op op_mul pe_int (pv 6))))) pa_nil)))
        (pss_one (ps_ret (pe_tup (pa_cons pe_str (pa_cons (pv 7) (pa_cons (pv 8) (pa_cons (pe_call GT hr (by rfl) gF F.kp bF .nil pass0 (pa_cons (pv 0) (pa_cons (pv 1) (pa_cons (pe_op op_sub (pv 2) pe_int) pa_nil)))) pa_nil)))))))))))), ?_⟩
      refine ⟨_, rfl, a, ds, rfl, hA, hD, _, rfl, b, l, 4, rfl, B, by decide, by decide, fun g H1 g0 g1 B1 bt => ?_⟩
      refine ⟨_, _, rfl, ?_⟩
      rw [hn]
      refine ⟨_, rfl, rfl, false, ?_, iteF ?_⟩
      · refine congrArg V.bl (decide_eq_false fun e => ?_)
        have := V.int.inj e
        omega
      refine ⟨_, rfl, rfl, _, rfl, ite2 (fun e => ?_) (fun e => ?_)⟩
      · -- places
        refine ⟨(by show 1 ≤ sizeLine; decide), fun p np => ?_⟩
        refine q .pl _ _ (by simp [Tr.wf]) (by simp [Tr.dep]) (by simp only [Tr.wz]; exact zB_pos7 _) ?_ (B1.new np) (bt.trans (new_but np))
        simp only [TrAt]
        exact ⟨p, rfl, SqT.of upd_same⟩
      have hA1 : SqT K H1 a (ds.map V.int) := bt.sqT B hA
      have em : ((m + 1 : Nat) : Int) - 1 = (m : Int) := by omega
      refine ⟨_, rfl, rfl, _, rfl, ite2 (fun e2 => ?_) (fun e2 => ?_)⟩
      · -- a fork
        refine ⟨_, rfl, _, rfl, _, rfl, rfl, _, rfl, ite2 (fun _ => ?_) (fun _ => ?_)⟩
        all_goals
          refine ⟨b, l, n, _, rfl, B1, hn12, by decide, by decide, fun hds H2 c ws hp hh h5 nc hc hW B2 bt2 => ?_⟩
          have ncb : c ≠ b := (B1.nb nc)
          refine ⟨_, rfl, c, rfl, ⟨_, SqL.of hc⟩, fun D nD => ?_⟩
          have nDb := B2.nb nD
          have nDl := B2.nl nD
          have lw := hW.len
          refine lc_list (K := K) (a := c) (xs := ws) (fun i H3 => ∃ (gs : Gs) (vs : List V), gs.heads = hds.take i ∧ gs.wf ds.length n ∧ gs.dep ≤ m + 1 ∧ gs.wz ≤ i * zB m ∧ H3 D = some (.lst vs) ∧ vs.length = i ∧ GsAt K H3 gs vs ∧ BagAt H3 b l ∧ But b H2 H3)
            ⟨.nil, [], rfl, by simp [Gs.wf], by simp [Gs.dep], by simp [Gs.wz], upd_same, rfl, by simp [GsAt], B2.new nD, new_but nD⟩ (fun i H3 _ ⟨_, _, _, _, _, _, _, _, _, _, b3⟩ => SqL.of (b3 c _ ncb hc)) ?_ ?_
          · rintro i y H3 hy ⟨gs, vs, g1, g2, g3, g4, hD3, lv, hG, B3, b3⟩
            obtain ⟨cs, ca, hcs, rfl, hca⟩ := hW.get hy
            have hi : i < ws.length := (List.getElem?_eq_some_iff.mp hy).1
            have hA3 : SqT K H3 a (ds.map V.int) := b3.sqT B2 (bt2.sqT B1 hA1)
            refine ⟨rfl, _, rfl, _, rfl, _, rfl, _, rfl, _, _, rfl, rfl, ?_⟩
            refine ⟨b, l, a, ds, n, ?_, B3, hA3, hD, hd, hn, fun t v H4 t1 t2 t3 t4 B4 b4 => ?_⟩
            · show [V.ref b, V.ref a, V.int (((m + 1 : Nat) : Int) - 1)] = _
              rw [em]
            refine ⟨(by show 2 ≤ sizeLine; decide), fun T nT => ?_⟩
            have hD4 := b4 D _ nDb hD3
            have hDT : (upd H4 T (.tup [.ref ca, v])) D = some (.lst vs) := by
              rw [upd_ne (ne_of_none hD4 nT)]
              exact hD4
            have tA : Tups K H3 H4 := But.tups B3 b4
            have tB : Tups K H4 (upd H4 T (.tup [.ref ca, v])) := Same.tups (same_new nT)
            have tC : Tups K (upd H4 T (.tup [.ref ca, v])) (upd (upd H4 T (.tup [.ref ca, v])) D (.lst (vs ++ [.ref T]))) := tups_lst hDT
            have tBC : Tups K H4 (upd (upd H4 T (.tup [.ref ca, v])) D (.lst (vs ++ [.ref T]))) := fun x ys e => tC x ys (tB x ys e)
            refine ⟨vs, hDT, ?_, gs.snoc cs t, vs ++ [.ref T], ?_, Gs.wf_snoc (hh cs (List.mem_of_getElem? hcs)) t1 g2, ?_, ?_, upd_same, ?_, ?_, (B4.new nT).upd nDb nDl, ?_⟩
            · exact small1000 (by omega)
            · rw [Gs.heads_snoc, take_more hcs, g1]
            · rw [Gs.dep_snoc]
              omega
            · rw [Gs.wz_snoc, Nat.succ_mul]
              omega
            · rw [List.length_append, lv]
              rfl
            · exact GsAt.snoc (tC _ _ (SqT.of upd_same)) (tBC _ _ (tA _ _ (b3.sqT B2 hca))) (TrAt.mono tBC t4) (GsAt.mono (fun x ys e => tBC x ys (tA x ys e)) hG)
            · intro x u nx hu
              have h3 := b3 x u nx hu
              have h4 := b4 x u nx h3
              rw [upd_ne (ne_of_none hu nD), upd_ne (ne_of_none h4 nT)]
              exact h4
          · rintro H3 ⟨gs, vs, g1, g2, g3, g4, hD3, lv, hG, B3, b3⟩
            rw [List.take_of_length_le (by omega)] at g1
            refine ⟨D, _, rfl, .inl ⟨SqL.of hD3, fun T nT => ?_⟩⟩
            refine ⟨(by show 2 ≤ sizeLine; decide), fun p np => ?_⟩
            have tA : Tups K H3 (upd H3 T (.tup vs)) := Same.tups (same_new nT)
            have tB : Tups K (upd H3 T (.tup vs)) (upd (upd H3 T (.tup vs)) p (.tup [.str "fork", .ref T])) := Same.tups (same_new np)
            refine q (.fork gs) _ _ ?_ ?_ ?_ ?_ ((B3.new nT).new np) (((bt.trans bt2).trans b3).trans ((new_but nT).trans (new_but np)))
            · simp only [Tr.wf]
              exact ⟨by rw [Gs.flat, g1]; exact hp, g2⟩
            · simp only [Tr.dep]
              omega
            · simp only [Tr.wz]
              show gs.wz + 1 ≤ 1 + 5 * zB m
              have : ws.length * zB m ≤ 5 * zB m := Nat.mul_le_mul_right _ (by omega)
              omega
            · simp only [TrAt]
              exact ⟨p, T, vs, rfl, SqT.of upd_same, tB _ _ (SqT.of upd_same), GsAt.mono (fun x ys e => tB x ys (tA x ys e)) hG⟩
      · -- a key
        refine ⟨_, rfl, _, _, rfl, rfl, ⟨by decide, by decide, by decide⟩, ?_⟩
        refine ⟨(by show 4 ≤ sizeLine; decide), fun c nc => ?_⟩
        refine ⟨b, l, c, _, rfl, B1.new nc, B1.nb nc, SqL.of upd_same, (by show 0 < 4; decide), (by show 4 < 1000; decide), fun v H2 hv B2 bt2 => ?_⟩
        have b12 : But b H1 H2 := (new_but nc).trans bt2
        obtain ⟨z, rfl, z1, z9⟩ : ∃ z : Int, v = .int z ∧ 1 ≤ z ∧ z ≤ 1000000000 := by
          rcases List.mem_cons.mp hv with e | hv
          · exact ⟨3, e, by decide, by decide⟩
          rcases List.mem_cons.mp hv with e | hv
          · exact ⟨3, e, by decide, by decide⟩
          rcases List.mem_cons.mp hv with e | hv
          · exact ⟨9, e, by decide, by decide⟩
          · exact ⟨10 ^ (9 : Int).toNat, List.mem_singleton.mp hv, by decide, by decide⟩
        have hA2 : SqT K H2 a (ds.map V.int) := b12.sqT B1 hA1
        -- the row
        refine ⟨_, rfl, a, rfl, ⟨_, hA2⟩, fun D nD => ?_⟩
        have nDb := B2.nb nD
        have nDl := B2.nl nD
        refine lc_tup (K := K) (a := a) (xs := ds.map V.int) (fun i H3 => ∃ rs : List Int, rs.length = i ∧ (∀ y ∈ rs, -(2 ^ 64) < y ∧ y < 2 ^ 64) ∧ H3 D = some (.lst (rs.map V.int)) ∧ BagAt H3 b l ∧ But b H2 H3) ⟨[], rfl, by simp, upd_same, B2.new nD, new_but nD⟩ (fun i H3 _ ⟨_, _, _, _, _, b3⟩ => b3.sqT B2 hA2) ?_ ?_
        · rintro i y H3 hy ⟨rs, rl, rb, hD3, B3, b3⟩
          have hi : i < (ds.map V.int).length := (List.getElem?_eq_some_iff.mp hy).1
          rw [List.length_map] at hi
          refine ⟨rfl, _, rfl, _, rfl, _, _, rfl, rfl, .inl ⟨by decide, by decide⟩, _, _, rfl, rfl, b, l, _, rfl, B3, by omega, ?_, fun g H4 g0 g1 B4 b4 => ?_⟩
          · have : ((2 * z + 1)).natAbs < 10000000000 := by omega
            exact Nat.lt_trans this (by decide)
          · have hD4 := b4 D _ nDb hD3
            refine ⟨_, rfl, _, _, rfl, rfl, _, hD4, ?_, rs ++ [g - z], ?_, ?_, ?_, B4.upd nDb nDl, ?_⟩
            · rw [List.length_map]
              exact small1000 (by omega)
            · rw [List.length_append, rl]
              rfl
            · intro x hx
              rcases List.mem_append.mp hx with h | h
              · exact rb x h
              · rw [List.mem_singleton.mp h]
                omega
            · rw [upd_same, List.map_append]
              rfl
            · intro x u nx hu
              rw [upd_ne (ne_of_none hu nD)]
              exact b4 x u nx (b3 x u nx hu)
        rintro H3 ⟨rs, rl, rb, hD3, B3, b3⟩
        rw [List.length_map] at rl
        refine ⟨D, _, rfl, .inl ⟨SqL.of hD3, fun R nR => ?_⟩⟩
        have B3R := B3.new (o := .tup (rs.map V.int)) nR
        have b3R : But b H2 (upd H3 R (.tup (rs.map V.int))) := b3.trans (new_but nR)
        -- the heights
        refine ⟨_, rfl, n, rfl, by omega, by omega, fun D2 nD2 => ?_⟩
        have nD2b := B3R.nb nD2
        have nD2l := B3R.nl nD2
        refine lc_range (lo := 0) (n := (n : Int).toNat) (fun i H4 => ∃ hs : List Int, hs.length = i ∧ H4 D2 = some (.lst (hs.map V.int)) ∧ BagAt H4 b l ∧ But b (upd H3 R (.tup (rs.map V.int))) H4) ⟨[], rfl, upd_same, B3R.new nD2, new_but nD2⟩ ?_ ?_
        · rintro i H4 hi ⟨hs, hl, hD4, B4, b4⟩
          have fin : ∀ (y : Int) (H5 : Hp), BagAt H5 b l → But b H4 H5 → ∃ acc, H5 D2 = some (.lst acc) ∧ acc.length < sizeLine ∧ ∃ hs' : List Int, hs'.length = i + 1 ∧ (upd H5 D2 (.lst (acc ++ [.int y]))) D2 = some (.lst (hs'.map V.int)) ∧ BagAt (upd H5 D2 (.lst (acc ++ [.int y]))) b l ∧ But b (upd H3 R (.tup (rs.map V.int))) (upd H5 D2 (.lst (acc ++ [.int y]))) := fun y H5 B5 b5 => by
            refine ⟨hs.map V.int, b5 D2 _ nD2b hD4, ?_, hs ++ [y], ?_, ?_, B5.upd nD2b nD2l, ?_⟩
            · rw [List.length_map]
              exact small1000 (by omega)
            · rw [List.length_append, hl]
              rfl
            · rw [upd_same, List.map_append]
              rfl
            · intro x u nx hu
              rw [upd_ne (ne_of_none hu nD2)]
              exact b5 x u nx (b4 x u nx hu)
          refine ⟨rfl, _, rfl, _, _, rfl, rfl, _, rfl, ite2 (fun e3 => ?_) (fun e3 => ?_)⟩
          · exact ⟨_, rfl, b, l, 9, rfl, B4, by decide, by decide, fun g H5 g0 g1 B5 b5 => ⟨_, _, rfl, rfl, fin _ H5 B5 b5⟩⟩
          · refine ⟨_, rfl, _, rfl, _, _, rfl, rfl, .inl ⟨by decide, by decide⟩, b, l, _, rfl, B4, by omega, ?_, fun g H5 g0 g1 B5 b5 => ?_⟩
            · have : ((4 * z)).natAbs < 10000000000 := by omega
              exact Nat.lt_trans this (by decide)
            · exact ⟨_, rfl, _, _, rfl, rfl, .inl ⟨by decide, by decide⟩, _, _, rfl, rfl, fin _ H5 B5 b5⟩
        rintro H4 ⟨hs, hl, hD4, B4, b4⟩
        refine ⟨D2, _, rfl, .inl ⟨SqL.of hD4, fun S nS => ?_⟩⟩
        have B4S := B4.new (o := .tup (hs.map V.int)) nS
        have hA4 : SqT K (upd H4 S (.tup (hs.map V.int))) a (ds.map V.int) := Same.sqT (same_new nS) (b4.sqT B3R (b3R.sqT B2 hA2))
        have hR4 : SqT K (upd H4 S (.tup (hs.map V.int))) R (rs.map V.int) := Same.sqT (same_new nS) (b4.sqT B3R (SqT.of upd_same))
        have hS4 : SqT K (upd H4 S (.tup (hs.map V.int))) S (hs.map V.int) := SqT.of upd_same
        refine ⟨_, rfl, _, rfl, _, rfl, _, rfl, _, rfl, _, _, rfl, rfl, ?_⟩
        refine ⟨b, l, a, ds, n, ?_, B4S, hA4, hD, hd, hn, fun t v H5 t1 t2 t3 t4 B5 b5 => ?_⟩
        · show [V.ref b, V.ref a, V.int (((m + 1 : Nat) : Int) - 1)] = _
          rw [em]
        refine ⟨(by show 4 ≤ sizeLine; decide), fun p np => ?_⟩
        have tN : Tups K H5 (upd H5 p (.tup [.str "key", .ref R, .ref S, v])) := Same.tups (same_new np)
        refine q (.key rs hs t) _ _ ?_ ?_ ?_ ?_ (B5.new np) (((((bt.trans b12).trans b3R).trans b4).trans (new_but nS)).trans (b5.trans (new_but np)))
        · simp only [Tr.wf]
          exact ⟨rl, by omega, rb, t1⟩
        · simp only [Tr.dep]
          omega
        · simp only [Tr.wz]
          show t.wz + 1 ≤ 1 + 5 * zB m
          omega
        · simp only [TrAt]
          exact ⟨p, R, S, v, rfl, SqT.of upd_same, tN _ _ (b5.sqT B4S hR4), tN _ _ (b5.sqT B4S hS4), TrAt.mono tN t4⟩
theorem ok_small {f fD fT : Addr} {fd fdD fdT : FuncData} {k : Nat} (F : Fun K "_law_small_scan" "_law_small_scan" sSmallScan f fd)
    (GD : FnOk P w K mg base CX0 (k + 3) fD fdD ["_law_bag_here", "_law_directions"] spDivisors) (kD : PySem.W.keepIn K (.ref fD) = true) (bD : Binds K fdD ["_law_bag_here", "_law_directions"] []) (gD : mg "_law_divisors" = some (.ref fD))
    (GT : FnOk P w K mg base CX0 (k + 5) fT fdT ["_law_bag_here", "_law_divisors_here", "_law_depth"] (spTreeW K 2)) (kT : PySem.W.keepIn K (.ref fT) = true) (bT : Binds K fdT ["_law_bag_here", "_law_divisors_here", "_law_depth"] []) (gT : mg "_law_tree" = some (.ref fT)) :
    FnOk P w K mg base CX0 (k + 6) f fd ["_law_bag_here", "_law_directions"] (spSmall K) := by
  refine F.ok scSmallScan (fun vs H Q E h => ?_) (fun cdv A outer s H vs Q E hr h => ?_)
  · obtain ⟨b, l, d, rfl, _⟩ := h
    rfl
  · obtain ⟨b, l, d, rfl, B, d0, d1, q⟩ := h
    have hr3 : Room (k + 3) _ := hr.mono (by omega)
    refine ⟨_, pss_cons (ps_set (i := 2) scSmallScan.nd rfl (.inl rfl) (pe_call GD hr3 (by rfl) gD kD bD .nil pass0 (pa_cons (pv 0) (pa_cons (pv 1) pa_nil))))
      (pss_one (ps_ret (pe_tup (pa_cons (pv 2) (pa_cons (pe_call GT hr (by rfl) gT kT bT .nil pass0 (pa_cons (pv 0) (pa_cons (pv 2) (pa_cons pe_int pa_nil)))) pa_nil))))), ?_⟩
    refine ⟨_, rfl, _, rfl, b, l, d, rfl, B, d0, d1, fun ns H1 a ln D na ha B1 bt => ?_⟩
    have pp := prodL_pos D.one
    have en : prodL ns = (((prodL ns).toNat : Nat) : Int) := by omega
    refine ⟨_, rfl, _, rfl, _, rfl, b, l, a, ns, _, rfl, B1, SqT.of ha, D, by omega, en, fun t v H2 t1 t2 t3 t4 B2 bt2 => ?_⟩
    refine ⟨(by show 2 ≤ sizeLine; decide), fun p np => ?_⟩
    have s3 := same_new (o := .tup [.ref a, v]) np
    exact q ns _ t a p v _ ln D en t1 t2 (by rw [← Tr.wz_eq]; exact t3) (Same.sqT s3 (bt2.sqT B1 (SqT.of ha))) (TrAt.mono (Same.tups s3) t4) (SqT.of upd_same) (B2.new np) ((bt.trans bt2).trans (new_but np))
end
end Lk

namespace Lk
open PySem L2 Lx LamX LrA LqA
/-! ### the law's own measure of a tree: level by level -/
def Tr.hd : Tr → Str
  | .pl => "places"
  | .key _ _ _ => "key"
  | .fork _ => "fork"
theorem TrAt.head {K : PySem.W.Frag} {H : Hp} {t : Tr} {v : V} (h : TrAt K H t v) : ∃ a xs, v = .ref a ∧ SqT K H a (.str t.hd :: xs) := by
  cases t with
  | pl =>
    simp only [TrAt] at h
    obtain ⟨a, h1, h2⟩ := h
    exact ⟨a, _, h1, h2⟩
  | key row hs t =>
    simp only [TrAt] at h
    obtain ⟨a, ra, ha, tv, h1, h2, _⟩ := h
    exact ⟨a, _, h1, h2⟩
  | fork gs =>
    simp only [TrAt] at h
    obtain ⟨a, ga, vs, h1, h2, _⟩ := h
    exact ⟨a, _, h1, h2⟩
def kKid : Tr → List Tr
  | .key _ _ u => [u]
  | _ => []
def fKid : Tr → List Tr
  | .fork g => g.trees
  | _ => []
def pOne : Tr → Nat
  | .pl => 1
  | _ => 0
def lowK (l : List Tr) : List Tr := l.flatMap kKid
def lowF (l : List Tr) : List Tr := l.flatMap fKid
def cntP (l : List Tr) : Nat := (l.map pOne).sum
def szs (l : List Tr) : Nat := (l.map Tr.size).sum
def ens (l : List Tr) : Nat := (l.map Tr.ends).sum
theorem szs_app (l m : List Tr) : szs (l ++ m) = szs l + szs m := by simp [szs]
theorem ens_app (l m : List Tr) : ens (l ++ m) = ens l + ens m := by simp [ens]
theorem Gs.ens_trees : ∀ g : Gs, g.ends = ens g.trees
  | .nil => by simp [Gs.ends, Gs.trees, ens]
  | .cons _ t r => by simp [Gs.ends, Gs.trees, ens, Gs.ens_trees r]
theorem szs_cons (t : Tr) (l : List Tr) : szs (t :: l) = t.size + szs l := by simp [szs]
theorem ens_cons (t : Tr) (l : List Tr) : ens (t :: l) = t.ends + ens l := by simp [ens]
theorem szs_low : ∀ l : List Tr, szs l = l.length + szs (lowK l) + szs (lowF l)
  | [] => rfl
  | t :: r => by
    have ih := szs_low r
    have e1 : lowK (t :: r) = kKid t ++ lowK r := rfl
    have e2 : lowF (t :: r) = fKid t ++ lowF r := rfl
    have e3 : t.size = 1 + szs (kKid t) + szs (fKid t) := by
      rw [Tr.size_kids]
      cases t <;> simp [kKid, fKid, Tr.kids, szs]
    rw [e1, e2, szs_app, szs_app, szs_cons, List.length_cons]
    omega
theorem ens_low : ∀ l : List Tr, ens l = cntP l + ens (lowK l) + ens (lowF l)
  | [] => rfl
  | t :: r => by
    have ih := ens_low r
    have e1 : lowK (t :: r) = kKid t ++ lowK r := rfl
    have e2 : lowF (t :: r) = fKid t ++ lowF r := rfl
    have e4 : cntP (t :: r) = pOne t + cntP r := by simp [cntP]
    have e3 : t.ends = pOne t + ens (kKid t) + ens (fKid t) := by
      cases t with
      | pl => simp [kKid, fKid, pOne, ens, Tr.ends]
      | key _ _ u => simp [kKid, fKid, pOne, ens, Tr.ends]
      | fork g => simp [kKid, fKid, pOne, Tr.ends, Gs.ens_trees, ens]
    rw [e1, e2, ens_app, ens_app, ens_cons, e4]
    omega
theorem low_take {l : List Tr} {i : Nat} {t : Tr} (h : l[i]? = some t) : lowK (l.take (i + 1)) = lowK (l.take i) ++ kKid t ∧ lowF (l.take (i + 1)) = lowF (l.take i) ++ fKid t ∧ cntP (l.take (i + 1)) = cntP (l.take i) + pOne t := by
  rw [take_more h]
  refine ⟨by simp [lowK], by simp [lowF], by simp [cntP]⟩
theorem TrsAt.apps {K : PySem.W.Frag} {H : Hp} : ∀ {l m : List Tr} {ws us : List V}, TrsAt K H l ws → TrsAt K H m us → TrsAt K H (l ++ m) (ws ++ us)
  | [], m, _, us, h, q => by
    have h : _ = [] := h
    rw [h]
    exact q
  | t :: r, m, _, us, ⟨v, vr, h1, h2, h3⟩, q => by
    rw [h1]
    exact ⟨v, vr ++ us, rfl, h2, TrsAt.apps h3 q⟩
theorem TrsAt.dps {K : PySem.W.Frag} {H : Hp} : ∀ {l : List Tr} {ws : List V}, TrsAt K H l ws → DpAll K H ws (l.map Tr.toD)
  | [], _, h => by
    have h : _ = [] := h
    rw [h]
    exact .nil
  | t :: r, _, ⟨v, vr, h1, h2, h3⟩ => by
    rw [h1]
    exact .cons h2.dp (TrsAt.dps h3)
theorem can_trs : ∀ l : List Tr, PyData.canLayAll0 (l.map Tr.toD) = true
  | [] => rfl
  | t :: r => by simp [PyData.canLayAll0, Tr.can t, can_trs r]
theorem dep_trs : ∀ {l : List Tr}, (∀ t ∈ l, t.dep ≤ 20) → PyData.depthAll (l.map Tr.toD) ≤ 60
  | [], _ => by simp [PyData.depthAll]
  | t :: r, h => by
    have h1 := Tr.deep t
    have h2 := h t List.mem_cons_self
    have h3 := dep_trs (l := r) fun u hu => h u (List.mem_cons_of_mem _ hu)
    simp only [List.map_cons, PyData.depthAll]
    omega
theorem shp_trs {l : List Tr} (h : ∀ t ∈ l, t.dep ≤ 20) : SeqAt.shaped (.list (l.map Tr.toD)) = true := by
  unfold SeqAt.shaped
  have h3 := dep_trs h
  rw [decide_eq_true (show (PyData.list (l.map Tr.toD)).depth ≤ 64 by simp only [PyData.depth]; omega), Bool.and_true]
  simp only [PyData.canLay0]
  exact can_trs l
theorem eqv_nil : ∀ l : List Tr, PyData.eqv (.list (l.map Tr.toD)) (.list []) = decide (l = [])
  | [] => by simp [PyData.eqv, PyData.eqvAll]
  | t :: r => by simp [PyData.eqv, PyData.eqvAll]
theorem low_dep {l : List Tr} (h : ∀ t ∈ l, t.dep ≤ 20) : (∀ t ∈ lowK l, t.dep ≤ 20) ∧ (∀ t ∈ lowF l, t.dep ≤ 20) := by
  constructor
  · intro t ht
    obtain ⟨u, hu, hm⟩ := List.mem_flatMap.mp ht
    have := h u hu
    cases u with
    | pl => cases hm
    | key _ _ x =>
      rw [List.mem_singleton.mp hm]
      simp only [Tr.dep] at this
      omega
    | fork g => cases hm
  · intro t ht
    obtain ⟨u, hu, hm⟩ := List.mem_flatMap.mp ht
    have := h u hu
    cases u with
    | pl => cases hm
    | key _ _ x => cases hm
    | fork g =>
      have h2 := Gs.dep_trees g t hm
      simp only [Tr.dep] at this
      omega
theorem szs_len : ∀ l : List Tr, l.length ≤ szs l
  | [] => Nat.le_refl _
  | t :: r => by
    have h1 := szs_len r
    have h2 := Tr.size_pos t
    rw [szs_cons, List.length_cons]
    omega
theorem lowK_len (l : List Tr) : (lowK l).length + (lowF l).length ≤ szs l := by
  have h1 := szs_low l
  have h2 := szs_len (lowK l)
  have h3 := szs_len (lowF l)
  omega
theorem hd_pl {t : Tr} : pOne t = if V.str t.hd = V.str "places" then 1 else 0 := by
  cases t with
  | pl => rfl
  | key _ _ _ => rw [if_neg (by show ¬ V.str "key" = V.str "places"; decide +kernel)]; rfl
  | fork _ => rw [if_neg (by show ¬ V.str "fork" = V.str "places"; decide +kernel)]; rfl
def spMeas (K : PySem.W.Frag) : Sp := fun vs H Q _ => ∃ (v : V) (t : Tr), vs = [v] ∧ TrAt K H t v ∧ t.dep ≤ 20 ∧ t.size ≤ 200 ∧
  ∀ (H' : Hp) (p : Addr) (dp : Int), Same H H' → H p = none → H' p = some (.tup [.int t.size, .int dp, .int t.ends]) → Q (.ref p) H'
section
variable {P : Program} {w : World} {K : PySem.W.Frag} {mg : Str → Option Value} {base : Heap}
abbrev nMeas : List Str := ["_law_tree_here", "_law_level", "_law_nodes", "_law_deep", "_law_ends", "_law_lower", "_law_one", "_law_group"]
end
end Lk

namespace Lk
open PySem L2 Lx LamX LrA LqA
/-! ### the opposite order of a box -/
theorem lx_lt : ∀ x y : List Int, lx x y = decide (x < y)
  | [], [] => by simp [lx, HT.lexLt]
  | [], b :: y => by simp [lx, HT.lexLt]
  | a :: x, [] => by simp [lx, HT.lexLt]
  | a :: x, b :: y => by
    show (if a = b then lx x y else decide (a < b)) = _
    rw [lx_lt x y]
    by_cases e : a = b
    · subst e
      rw [if_pos rfl]
      simp
    · rw [if_neg e]
      simp [List.cons_lt_cons_iff, e]
theorem leF_lx (ds : List Int) (t : Tr) (a b : List Int) : leF ds t a b = !lx (full ds t b) (full ds t a) := by
  have e : leF ds t a b = !PySem.W.dataLt (kd (full ds t) b) (kd (full ds t) a) := rfl
  rw [e, lt_ints, lx_lt]
theorem order_rev {ds : List Int} {n : Nat} {t : Tr} (D : Divs ds) (l1 : 1 ≤ ds.length) (l3 : ds.length ≤ 3) (hn : prodL ds = (n : Int)) (hw : t.wf ds.length n) {l : List (List Int)} (hl : ∀ c ∈ l, c.length = ds.length) :
    l.mergeSort (leF ds (tnT ds n t)) = (l.mergeSort (leF ds t)).reverse := by
  have T : PySem.W.TotalLe (leF ds t) := by
    unfold leF PySem.W.dataLe
    exact PySem.W.sortLe_total _ _ _
  have pm : (l.mergeSort (leF ds t)).reverse.Perm l := (List.reverse_perm _).trans (List.mergeSort_perm l _)
  have hm : ∀ c ∈ l.mergeSort (leF ds t), c.length = ds.length := fun c hc => hl c ((List.mergeSort_perm l _).mem_iff.mp hc)
  refine order_is ?_ pm fun a ha b hb h1 h2 => ?_
  · rw [List.pairwise_reverse]
    refine (PySem.W.sort_pairwise T l).imp_of_mem fun {a b} ha hb h => ?_
    rw [leF_lx] at h ⊢
    rw [tn_lt D l1 l3 hn hw (hm a ha) (hm b hb)]
    exact h
  · have la := hl a (pm.mem_iff.mp ha)
    have lb := hl b (pm.mem_iff.mp hb)
    exact leF_anti (by omega) h1 h2
/-! ### a tree is the same as itself -/
theorem head_len {g : Gs} {n : Nat} (hp : g.classes.Perm (rng0 n)) {c : List Int} (hc : c ∈ g.heads) : c.length ≤ n := by
  have e : c.length ≤ g.heads.flatten.length := (List.sublist_flatten_of_mem hc).length_le
  rw [← Gs.flat, hp.length_eq, rng0_len] at e
  exact e
theorem dd_ints {K : PySem.W.Frag} {H : Hp} {m : Nat} {a b : Addr} {ns : List Int} (h : SqT K H a (ns.map V.int)) (h' : SqT K H b (ns.map V.int)) (hl : ns.length ≤ 1000) : DD K H (m + 1) (.ref a) (.ref b) := by
  refine .inr ⟨a, b, _, _, rfl, rfl, .inl ⟨h, h'⟩, rfl, by rw [List.length_map]; exact hl, fun i x y f1 f2 => ?_⟩
  rw [f1] at f2
  cases f2
  obtain ⟨z, _, rfl⟩ := map_get f1
  cases m with
  | zero => exact ⟨rfl, rfl⟩
  | succ m => exact .inl ⟨rfl, rfl⟩
theorem DD.more {K : PySem.W.Frag} {H : Hp} {u v : V} {m : Nat} (h : DD K H m u v) : ∀ k : Nat, DD K H (m + k) u v
  | 0 => h
  | k + 1 => (DD.more h k).up
theorem DD.le {K : PySem.W.Frag} {H : Hp} {u v : V} {m j : Nat} (h : DD K H m u v) (e : m ≤ j) : DD K H j u v := by
  have := DD.more h (j - m)
  rw [show m + (j - m) = j by omega] at this
  exact this
mutual
theorem TrAt.dd {K : PySem.W.Frag} {H : Hp} {d n : Nat} (d3 : d ≤ 3) (n12 : n ≤ 12) : ∀ {t : Tr} {v u : V}, TrAt K H t v → TrAt K H t u → t.wf d n → DD K H (3 * t.dep) v u
  | .pl, v, u, h, g, _ => by
    simp only [TrAt] at h g
    obtain ⟨a, rfl, h2⟩ := h
    obtain ⟨b, rfl, g2⟩ := g
    simp only [Tr.dep]
    refine .inr ⟨a, b, _, _, rfl, rfl, .inl ⟨h2, g2⟩, rfl, (by show 1 ≤ 1000; decide), fun i x y f1 f2 => ?_⟩
    rw [f1] at f2
    cases f2
    rw [List.mem_singleton.mp (List.mem_of_getElem? f1)]
    exact .inl ⟨rfl, rfl⟩
  | .key row hs t, v, u, h, g, w => by
    simp only [TrAt] at h g
    simp only [Tr.wf] at w
    obtain ⟨a, ra, ha, tv, rfl, h2, h3, h4, h5⟩ := h
    obtain ⟨b, rb, hb, tu, rfl, g2, g3, g4, g5⟩ := g
    have ih := TrAt.dd d3 n12 h5 g5 w.2.2.2
    have dp := (Tr.deep t).2
    simp only [Tr.dep]
    rw [show 3 * (t.dep + 1) = (3 * t.dep + 2) + 1 by omega]
    refine .inr ⟨a, b, _, _, rfl, rfl, .inl ⟨h2, g2⟩, rfl, (by show 4 ≤ 1000; decide), fun i x y f1 f2 => ?_⟩
    match i, f1, f2 with
    | 0, f1, f2 => cases f1; cases f2; exact .inl ⟨rfl, rfl⟩
    | 1, f1, f2 => cases f1; cases f2; exact dd_ints h3 g3 (by omega)
    | 2, f1, f2 => cases f1; cases f2; exact dd_ints h4 g4 (by omega)
    | 3, f1, f2 => cases f1; cases f2; exact ih.le (by omega)
    | j + 4, f1, f2 => cases f1
  | .fork gs, v, u, h, g, w => by
    simp only [TrAt] at h g
    simp only [Tr.wf] at w
    obtain ⟨a, ga, vs, rfl, h2, h3, h4⟩ := h
    obtain ⟨b, gb, us, rfl, g2, g3, g4⟩ := g
    have gm := gs_many w.1 w.2
    have ih := GsAt.dd d3 n12 h4 g4 w.2 (fun c hc => by have := head_len w.1 hc; omega)
    have lv := h4.len
    have lu := g4.len
    simp only [Tr.dep]
    rw [show 3 * (gs.dep + 1) = (3 * gs.dep + 2) + 1 by omega]
    refine .inr ⟨a, b, _, _, rfl, rfl, .inl ⟨h2, g2⟩, rfl, (by show 2 ≤ 1000; decide), fun i x y f1 f2 => ?_⟩
    match i, f1, f2 with
    | 0, f1, f2 => cases f1; cases f2; exact .inl ⟨rfl, rfl⟩
    | 1, f1, f2 =>
      cases f1
      cases f2
      exact .inr ⟨ga, gb, vs, us, rfl, rfl, .inl ⟨h3, g3⟩, by omega, by omega, fun i x y f1 f2 => ih i x y f1 f2⟩
    | j + 2, f1, f2 => cases f1
theorem GsAt.dd {K : PySem.W.Frag} {H : Hp} {d n : Nat} (d3 : d ≤ 3) (n12 : n ≤ 12) : ∀ {g : Gs} {vs us : List V}, GsAt K H g vs → GsAt K H g us → g.wf d n → (∀ c ∈ g.heads, c.length ≤ 1000) → ∀ (i : Nat) (v u : V), vs[i]? = some v → us[i]? = some u → DD K H (3 * g.dep + 1) v u
  | .nil, vs, us, h, _, _, _, i, v, u, hv, _ => by
    simp only [GsAt] at h
    subst h
    simp at hv
  | .cons cs t r, vs, us, h, g, w, hc, i, v, u, hv, hu => by
    simp only [GsAt] at h g
    simp only [Gs.wf] at w
    obtain ⟨pa, ca, tv, vr, rfl, h2, h3, h4, h5⟩ := h
    obtain ⟨pb, cb, tu, ur, rfl, g2, g3, g4, g5⟩ := g
    simp only [Gs.dep]
    match i, hv, hu with
    | 0, hv, hu =>
      cases hv
      cases hu
      have ih := TrAt.dd d3 n12 h4 g4 w.2.1
      have dp := (Tr.deep t).2
      refine .inr ⟨pa, pb, _, _, rfl, rfl, .inl ⟨h2, g2⟩, rfl, (by show 2 ≤ 1000; decide), fun i x y f1 f2 => ?_⟩
      match i, f1, f2 with
      | 0, f1, f2 =>
        cases f1
        cases f2
        exact (dd_ints (m := 0) h3 g3 (hc cs (by simp only [Gs.heads]; exact List.mem_cons_self))).le (by omega)
      | 1, f1, f2 => cases f1; cases f2; exact ih.le (by omega)
      | j + 2, f1, f2 => cases f1
    | i + 1, hv, hu =>
      have ih := GsAt.dd d3 n12 h5 g5 w.2.2 (fun c h => hc c (by simp only [Gs.heads]; exact List.mem_cons_of_mem _ h)) i v u (by simpa using hv) (by simpa using hu)
      exact ih.le (by omega)
end
/-! ### a deep tree and a wide one -/
def deepT : Nat → Tr
  | 0 => .pl
  | k + 1 => .key [1, (k : Int)] [0] (deepT k)
theorem deep_wf : ∀ {k : Nat}, k ≤ 20 → (deepT k).wf 2 1
  | 0, _ => by simp [deepT, Tr.wf]
  | k + 1, h => by
    simp only [deepT, Tr.wf]
    refine ⟨rfl, rfl, fun z hz => ?_, deep_wf (by omega)⟩
    rcases List.mem_cons.mp hz with e | hz
    · rw [e]; decide
    · rw [List.mem_singleton.mp hz]; omega
theorem deep_size : ∀ k : Nat, (deepT k).size = k + 1 ∧ (deepT k).dep = k + 1 ∧ (deepT k).ends = 1
  | 0 => by simp [deepT, Tr.size, Tr.dep, Tr.ends]
  | k + 1 => by
    have := deep_size k
    simp only [deepT, Tr.size, Tr.dep, Tr.ends]
    omega
theorem deep_turn (e : Tr) : ∀ k : Nat, (trT e (deepT k)).dep = k + e.dep ∧ (trT e (deepT k)).toD.depth ≤ k + max 2 e.toD.depth
  | 0 => by simp only [deepT, trT]; omega
  | k + 1 => by
    have := deep_turn e k
    have z1 := depInts ([1, (k : Int)].map fun z => -z)
    have z2 := depInts (([0] : List Int).map fun z => -z)
    simp only [deepT, trT, Tr.dep, Tr.toD, PyData.depth, PyData.depthAll, z1, z2]
    omega
def wideT : Nat → Tr
  | 0 => .pl
  | k + 1 => .fork (.cons [0] (wideT k) (.cons [1] (wideT k) .nil))
theorem wide_wf : ∀ (k d : Nat), (wideT k).wf d 2
  | 0, d => by simp [wideT, Tr.wf]
  | k + 1, d => by
    simp only [wideT, Tr.wf, Gs.wf, Gs.classes]
    refine ⟨by decide, ⟨by decide, by simp⟩, wide_wf k d, ⟨by decide, by simp⟩, wide_wf k d, trivial⟩
theorem wide6 : (wideT 6).size = 127 ∧ (wideT 6).dep = 7 ∧ (wideT 6).ends = 64 := by decide +kernel
def wideD (d : Nat) : List Int := 2 :: List.replicate (d - 1) 1
theorem wideD_ok : ∀ {d : Nat}, 1 ≤ d → d ≤ 3 → Divs (wideD d) ∧ (wideD d).length = d ∧ prodL (wideD d) = ((2 : Nat) : Int)
  | 1, _, _ => ⟨⟨by decide, by decide⟩, rfl, by decide⟩
  | 2, _, _ => ⟨⟨by decide, by decide⟩, rfl, by decide⟩
  | 3, _, _ => ⟨⟨by decide, by decide⟩, rfl, by decide⟩
  | d + 4, _, h => by omega
def spWide (K : PySem.W.Frag) (C : Addr) : Sp := fun vs H Q _ => ∃ d : Nat, vs = [.int d] ∧ 1 ≤ d ∧ d ≤ 3 ∧ ∀ (H' : Hp) (x : Addr), Same H H' → ScanAt K C H' x (wideD d) 2 (wideT 6) → Q (.ref x) H'
section
variable {P : Program} {w : World} {K : PySem.W.Frag} {mg : Str → Option Value} {base : Heap}
end
end Lk

namespace Lk
open PySem L2 Lx LamX
/-! ### refined scans -/
def spMults (K : PySem.W.Frag) : Sp := fun vs H Q _ => ∃ (a b : Addr) (nds ds : List Int), vs = [.ref a, .ref b] ∧ SqT K H a (nds.map V.int) ∧ SqT K H b (ds.map V.int) ∧ (∀ z ∈ ds, 1 ≤ z) ∧ nds.length ≤ 12 ∧ ds.length ≤ 12 ∧ ∀ H', Same H H' → Q (.bl (muB nds ds)) H'
def spRefT (K : PySem.W.Frag) (C : Addr) : Sp := fun vs H Q _ => ∃ (p a : Addr) (ev : V) (ds : List Int) (n : Nat) (t e : Tr) (nds : List Int) (n' : Nat), vs = [.ref p, .ref a, ev] ∧ ScanAt K C H p ds n t ∧ SqT K H a (nds.map V.int) ∧ TrAt K H e ev ∧ Divs nds ∧ nds.length = ds.length ∧ prodL nds = (n' : Int) ∧
  ∀ H' u, Same H H' → TrAt K H' (rfT ds nds n' e t) u → Q u H'
def spRefd (K : PySem.W.Frag) (C : Addr) : Sp := fun vs H Q _ => ∃ (p a : Addr) (ds : List Int) (n : Nat) (t : Tr) (nds : List Int) (n' : Nat), vs = [.ref p, .ref a] ∧ ScanAt K C H p ds n t ∧ SqT K H a (nds.map V.int) ∧ Divs nds ∧ Mul nds ds ∧ prodL nds = (n' : Int) ∧
  ∀ (H' : Hp) (q : Addr), Same H H' → ScanAt K C H' q nds n' (rfT ds nds n' .pl t) → Q (.ref q) H'
/-- which error refined calls for -/
def rfE (o : Option (List V)) (ds : List Int) : Nat := if dvE o = 0 then (if muB (itsI o) ds = true then 0 else 1) else dvE o
def ErK (C1 C2 : Addr) (e : Nat) (H : Hp) (E : XK) : Prop := ∀ (d : Addr) (H' : Hp), (∀ b u, H b = some u → H' b = some u) →
  (e = 1 → H' d = some (.xd [("tag", .str "InvalidDivisors")]) → E (.ref C1) (some d) H') ∧ (e = 2 → H' d = some (.xd (xflds "limit" (.int 12) "TooManyClasses")) → E (.ref C2) (some d) H')
theorem ErK.same {C1 C2 : Addr} {e : Nat} {H H1 : Hp} {E : XK} (k : ErK C1 C2 e H E) (s : Same H H1) : ErK C1 C2 e H1 E := fun d H' x => k d H' fun b u h => x b u (s b u h)
def spRefX (K : PySem.W.Frag) (C C1 C2 : Addr) : Sp := fun vs H _ E => ∃ (p : Addr) (v : V) (o : Option (List V)) (ds : List Int) (n : Nat) (t : Tr), vs = [.ref p, v] ∧ ScanAt K C H p ds n t ∧ OD K H v o ∧ OB o ∧ rfE o ds ≠ 0 ∧ ErK C1 C2 (rfE o ds) H E
def spChkMul (K : PySem.W.Frag) : Sp := fun vs H Q _ => ∃ (a b : Addr) (nds ds : List Int), vs = [.ref a, .ref b] ∧ SqT K H a (nds.map V.int) ∧ SqT K H b (ds.map V.int) ∧ 1 ≤ nds.length ∧ nds.length ≤ 3 ∧ Divs nds ∧ (∀ z ∈ ds, 1 ≤ z) ∧ ds.length ≤ 12 ∧ Mul nds ds ∧ ∀ H', Same H H' → Q .non H'
def spChkMulX (K : PySem.W.Frag) (C1 C2 : Addr) : Sp := fun vs H _ E => ∃ (v : V) (b : Addr) (o : Option (List V)) (ds : List Int), vs = [v, .ref b] ∧ OD K H v o ∧ OB o ∧ SqT K H b (ds.map V.int) ∧ (∀ z ∈ ds, 1 ≤ z) ∧ ds.length ≤ 12 ∧ rfE o ds ≠ 0 ∧ ErK C1 C2 (rfE o ds) H E
theorem dvE_zero {o : Option (List V)} (h : dvE o = 0) : ∃ xs, o = some xs ∧ xs = (itsI o).map V.int ∧ 1 ≤ (itsI o).length ∧ (itsI o).length ≤ 3 ∧ Divs (itsI o) := by
  unfold dvE at h
  cases hs : sdB o 1 with
  | false =>
    rw [hs] at h
    cases h
  | true =>
    rw [hs, if_pos rfl] at h
    obtain ⟨xs, rfl, ex, l1, l3, hz⟩ := sdB_ints hs
    refine ⟨xs, rfl, ex, ?_, ?_, hz, ?_⟩
    · show 1 ≤ (xs.map uI).length
      rw [List.length_map]
      exact l1
    · show (xs.map uI).length ≤ 3
      rw [List.length_map]
      exact l3
    · refine Decidable.byContradiction fun z => ?_
      have z' : ¬ prodL (xs.map uI) ≤ 12 := z
      rw [if_pos (show 12 < prodL (itsI (some xs)) by show 12 < prodL (xs.map uI); omega)] at h
      cases h
section
variable {P : Program} {w : World} {K : PySem.W.Frag} {mg : Str → Option Value} {base : Heap}
theorem ok_reft {f fI fG C : Addr} {fd fdI fdG : FuncData} {k : Nat} (F : Fun K "refined_tree" "Scan.refined_tree" sRefTree f fd) (T : Txt K mg C) (ml : mg "len" = none)
    (GI : FnOk P w K mg base CX0 (k + 1) fI fdI ["directions"] (spIdent K)) (kI : PySem.W.keepIn K (.ref fI) = true) (bI : Binds K fdI ["directions"] []) (gI : mg "identity" = some (.ref fI))
    (GG : FnOk P w K mg base CX0 (k + 24) fG fdG ["self", "divisors", "matrix", "place", "ends"] (spChanged K C)) (bG : Binds K fdG ["self", "divisors", "matrix", "place", "ends"] []) (mG : Meth K C "changed_tree" fG) :
    FnOk P w K mg base CX0 (k + 25) f fd ["self", "divisors", "ends"] (spRefT K C) := by
  refine F.ok scRefTree (fun vs H Q E h => ?_) (fun cdv A outer s H vs Q E hr h => ?_)
  · obtain ⟨p, a, ev, ds, n, t, e, nds, n', rfl, _⟩ := h
    rfl
  · obtain ⟨p, a, ev, ds, n, t, e, nds, n', rfl, S, hA, hE, D', l2, hn', q⟩ := h
    have hr1 : Room (k + 1) _ := hr.mono (by omega)
    refine ⟨_, pss_cons (ps_set (i := 3) scRefTree.nd rfl (.inl rfl) (pe_callB call_len_seq (by rfl) ml PySem.boot_len (pa_cons (pe_fld (pv 0) rfl) pa_nil)))
      (pss_one (ps_ret (pe_meth (pv 0) T.cl mG GG hr bG .nil pass0 (pa_cons (pv 1) (pa_cons (pe_call GI hr1 (by rfl) gI kI bI .nil pass0 (pa_cons (pv 3) pa_nil)) (pa_cons (pe_op op_repO (pe_tup (pa_cons pe_int pa_nil)) (pv 3)) (pa_cons (pv 2) pa_nil))))))), ?_⟩
    obtain ⟨⟨dx, da, tv, h1, h2, h3⟩, hD, l1, l3, hn, hw, hdp, hz⟩ := id S
    have ld : ((ds.map V.int).length : Int) = (ds.length : Int) := by rw [List.length_map]
    refine ⟨_, rfl, p, C, dx, _, _, rfl, h1, T.cl, T.n3, sf_div _ _ _ _, da, _, rfl, .inr h2, ?_⟩
    rw [ld]
    refine ⟨_, rfl, p, dx, _, rfl, h1, sf_no _ _ _ _ _ (by decide +kernel), _, rfl, _, rfl, ds.length, rfl, l3, fun H2 m ws s2 hM hW => ?_⟩
    refine ⟨(by show 1 ≤ sizeLine; decide), fun z nz => ?_⟩
    have s3 := same_new (o := .tup [.int 0]) nz
    refine ⟨_, rfl, rep_reads (SqT.of upd_same) (by omega) (by omega) fun H4 c s4 hc => ?_⟩
    have s24 := s3.trans s4
    have s14 := s2.trans s24
    have hc' : SqT K H4 c ((zer ds.length).map V.int) := by
      have e : (zer ds.length).map V.int = List.replicate (ds.length : Int).toNat (V.int 0) := by
        unfold zer
        rw [List.map_replicate]
        rfl
      rw [e]
      exact hc
    exact ⟨_, rfl, p, a, m, c, ev, ds, n, t, e, idM ds.length, ws, zer ds.length, nds, n', rfl, S.same s14, Same.sqT s14 hA, Same.sqT s24 hM, HdsAt.mono (Same.tups s24) hW, hc', TrAt.mono (Same.tups s14) hE, D', l2, idM_mat l1 l3, List.length_replicate, hn', fun H5 u s5 hu => q H5 u (s14.trans s5) hu⟩
/-- two promises are one -/
theorem FnOk.or {CX : CXT} {k : Nat} {f : Addr} {fd : FuncData} {ps : List Str} {sp sp' : Sp} (F : FnOk P w K mg base CX k f fd ps sp) (G : FnOk P w K mg base CX k f fd ps sp') : FnOk P w K mg base CX k f fd ps (fun vs H Q E => sp vs H Q E ∨ sp' vs H Q E) :=
  ⟨fun vs H Q E h => h.elim (F.len vs H Q E) (G.len vs H Q E), fun A outer s H args us vs Q E hr he hb hv hs => hs.elim (F.run A outer s H args us vs Q E hr he hb hv) (G.run A outer s H args us vs Q E hr he hb hv)⟩
theorem FnOk.any {CX : CXT} {k : Nat} {f : Addr} {fd : FuncData} {ps : List Str} {sp : Sp} (F : FnOk P w K mg base CX0 k f fd ps sp) : FnOk P w K mg base CX k f fd ps sp :=
  ⟨F.len, fun A outer s H args us vs Q E hr he hb hv hs => codeAny_mono (F.run A outer s H args us vs Q E hr he hb hv hs) fun r s' h => by
    cases r with
    | error e => exact False.elim h
    | ok fl => cases fl <;> exact h⟩
end
end Lk

namespace Lk
open PySem L2 Lx LamX LrA LqA
/-! ### forth and back -/
abbrev T2 : Tr := snT [2, 1] 2 [[1, 0]] [0, 1]
abbrev T3 : Tr := snT [2, 2, 1] 4 [[1, 0, 0], [0, 1, 0]] [0, 0, 1]
theorem snF2 : SnF 2 [2, 1] 2 [[1, 0]] [0, 1] := ⟨rfl, by decide +kernel, ⟨by decide, by decide⟩, by decide, by decide, by decide, by decide, rfl, by decide, by decide, by decide⟩
theorem snF3 : SnF 3 [2, 2, 1] 4 [[1, 0, 0], [0, 1, 0]] [0, 0, 1] := ⟨rfl, by decide +kernel, ⟨by decide, by decide⟩, by decide, by decide, by decide, by decide, rfl, by decide, by decide, by decide⟩
theorem T2_is : T2 = .key [1, 0] [0, 0] (.fork (.cons [0] .pl (.cons [1] (.key [0, -1] [0, 0] .pl) .nil))) := by
  have e0 : parL [2, 1] 2 0 = [0] := by decide +kernel
  have e1 : parL [2, 1] 2 1 = [1] := by decide +kernel
  unfold T2 snT
  rw [e0, e1]
  rfl
theorem T3_is : T3 = .key [1, 0, 0] [0, 0, 0, 0] (.key [0, 1, 0] [0, 0, 0, 0] (.fork (.cons [0, 3] .pl (.cons [1, 2] (.key [0, 0, -1] [0, 0, 0, 0] .pl) .nil)))) := by
  have e0 : parL [2, 2, 1] 4 0 = [0, 3] := by decide +kernel
  have e1 : parL [2, 2, 1] 4 1 = [1, 2] := by decide +kernel
  unfold T3 snT
  rw [e0, e1]
  rfl
theorem T2_wf : T2.wf [(2 : Int), 1].length 2 ∧ T2.size ≤ 200 ∧ T2.dep ≤ 20 := by
  rw [T2_is]
  refine ⟨?_, by decide, by decide⟩
  simp only [Tr.wf, Gs.wf]
  exact ⟨rfl, rfl, by decide, by decide +kernel, ⟨by decide, by decide⟩, trivial, ⟨by decide, by decide⟩, ⟨rfl, rfl, by decide, trivial⟩, trivial⟩
theorem T3_wf : T3.wf [(2 : Int), 2, 1].length 4 ∧ T3.size ≤ 200 ∧ T3.dep ≤ 20 := by
  rw [T3_is]
  refine ⟨?_, by decide, by decide⟩
  simp only [Tr.wf, Gs.wf]
  exact ⟨rfl, rfl, by decide, ⟨rfl, rfl, by decide, by decide +kernel, ⟨by decide, by decide⟩, trivial, ⟨by decide, by decide⟩, ⟨rfl, rfl, by decide, trivial⟩, trivial⟩⟩
theorem path2 (p a : Int) : pth T2 (cls [2, 1] [p, a]) [p, a] = if p % 2 = 0 then [p, 0] else [p, 1, -a] := by
  have ec : cls [2, 1] [p, a] = p % 2 := by simp [cls, clsF]
  rw [ec, T2_is]
  rcases Int.emod_two_eq p with e | e
  · rw [e]
    simp [pth, pthG, dotL]
  · rw [e]
    simp [pth, pthG, dotL]
theorem path3 (p r a : Int) : pth T3 (cls [2, 2, 1] [p, r, a]) [p, r, a] = if (p + r) % 2 = 0 then [p, r, 0] else [p, r, 1, -a] := by
  have ec : cls [2, 2, 1] [p, r, a] = p % 2 * 2 + r % 2 := by simp [cls, clsF]
  rw [ec, T3_is]
  rcases Int.emod_two_eq p with e | e <;> rcases Int.emod_two_eq r with e' | e'
  · rw [e, e', if_pos (by omega)]
    simp [pth, pthG, dotL]
  · rw [e, e', if_neg (by omega)]
    simp [pth, pthG, dotL]
  · rw [e, e', if_neg (by omega)]
    simp [pth, pthG, dotL]
  · rw [e, e', if_pos (by omega)]
    simp [pth, pthG, dotL]
/-- what is due -/
def snD (xi : List Int) (a : Int) (yi : List Int) (b : Int) : Bool := if xi = yi ∧ xi.sum % 2 = 1 then HT.lexLt (yi ++ [b]) (xi ++ [a]) else HT.lexLt (xi ++ [a]) (yi ++ [b])
def snE (xi : List Int) (a : Int) (yi : List Int) (b : Int) : Bool := decide (xi ++ [a] = yi ++ [b]) || (decide (xi = yi) && decide (xi.sum % 2 = 0))
/-- the three snakes -/
def Sn (d : Nat) (ds : List Int) (n : Nat) (t : Tr) : Prop := (d = 1 ∧ ds = [1] ∧ n = 1 ∧ t = .pl) ∨ (d = 2 ∧ ds = [2, 1] ∧ n = 2 ∧ t = T2) ∨ (d = 3 ∧ ds = [2, 2, 1] ∧ n = 4 ∧ t = T3)
theorem Sn.len {d : Nat} {ds : List Int} {n : Nat} {t : Tr} (h : Sn d ds n t) : ds.length = d := by
  rcases h with ⟨rfl, rfl, _⟩ | ⟨rfl, rfl, _⟩ | ⟨rfl, rfl, _⟩ <;> rfl
theorem len1 {l : List Int} (h : l.length = 1) : ∃ p, l = [p] := by
  match l, h with
  | [p], _ => exact ⟨p, rfl⟩
theorem len2 {l : List Int} (h : l.length = 2) : ∃ p r, l = [p, r] := by
  match l, h with
  | [p, r], _ => exact ⟨p, r, rfl⟩
theorem snake_lt {d : Nat} {ds : List Int} {n : Nat} {t : Tr} {xi yi : List Int} {a b : Int} (h : Sn d ds n t) (hx : xi.length + 1 = d) (hy : yi.length + 1 = d) : HT.lexLt (full ds t (xi ++ [a])) (full ds t (yi ++ [b])) = snD xi a yi b := by
  rcases h with ⟨rfl, rfl, rfl, rfl⟩ | ⟨rfl, rfl, rfl, rfl⟩ | ⟨rfl, rfl, rfl, rfl⟩
  · have e1 : xi = [] := List.length_eq_zero_iff.mp (by omega)
    have e2 : yi = [] := List.length_eq_zero_iff.mp (by omega)
    subst e1 e2
    unfold snD
    rw [if_neg (by simp)]
    simp [full, pth]
  · obtain ⟨p, rfl⟩ := len1 (l := xi) (by omega)
    obtain ⟨q, rfl⟩ := len1 (l := yi) (by omega)
    unfold full snD
    show HT.lexLt (pth T2 (cls [2, 1] [p, a]) [p, a] ++ [p, a]) (pth T2 (cls [2, 1] [q, b]) [q, b] ++ [q, b]) = _
    rw [path2, path2]
    by_cases e : p = q
    · subst e
      rcases Int.emod_two_eq p with e | e
      · simp [e, HT.lexLt]
      · simp [e, HT.lexLt]
        by_cases e3 : a = b
        · simp [e3]
        · have : ¬ b = a := fun z => e3 z.symm
          simp [e3, this]
    · rcases Int.emod_two_eq p with e1 | e1 <;> rcases Int.emod_two_eq q with e2 | e2 <;> simp [e, e1, e2, HT.lexLt]
  · obtain ⟨p, r, rfl⟩ := len2 (l := xi) (by omega)
    obtain ⟨q, s, rfl⟩ := len2 (l := yi) (by omega)
    unfold full snD
    show HT.lexLt (pth T3 (cls [2, 2, 1] [p, r, a]) [p, r, a] ++ [p, r, a]) (pth T3 (cls [2, 2, 1] [q, s, b]) [q, s, b] ++ [q, s, b]) = _
    rw [path3, path3]
    have es : ∀ u v : Int, ([u, v] : List Int).sum = u + v := fun u v => by simp
    rw [es]
    by_cases e : p = q ∧ r = s
    · obtain ⟨rfl, rfl⟩ := e
      rcases Int.emod_two_eq (p + r) with e | e
      · simp [e, HT.lexLt]
      · simp [e, HT.lexLt]
        by_cases e3 : a = b
        · simp [e3]
        · have : ¬ b = a := fun z => e3 z.symm
          simp [e3, this]
    · by_cases e' : p = q
      · have e'' : ¬ r = s := fun z => e ⟨e', z⟩
        subst e'
        rcases Int.emod_two_eq (p + r) with e1 | e1 <;> rcases Int.emod_two_eq (p + s) with e2 | e2 <;> simp [e'', e1, e2, HT.lexLt]
      · rcases Int.emod_two_eq (p + r) with e1 | e1 <;> rcases Int.emod_two_eq (q + s) with e2 | e2 <;> simp [e', e1, e2, HT.lexLt]
theorem snake_tied {d : Nat} {ds : List Int} {n : Nat} {t : Tr} {xi yi : List Int} {a b : Int} (h : Sn d ds n t) (hx : xi.length + 1 = d) (hy : yi.length + 1 = d) : decide (pth t (cls ds (xi ++ [a])) (xi ++ [a]) = pth t (cls ds (yi ++ [b])) (yi ++ [b])) = snE xi a yi b := by
  rcases h with ⟨rfl, rfl, rfl, rfl⟩ | ⟨rfl, rfl, rfl, rfl⟩ | ⟨rfl, rfl, rfl, rfl⟩
  · have e1 : xi = [] := List.length_eq_zero_iff.mp (by omega)
    have e2 : yi = [] := List.length_eq_zero_iff.mp (by omega)
    subst e1 e2
    unfold snE
    simp [pth]
  · obtain ⟨p, rfl⟩ := len1 (l := xi) (by omega)
    obtain ⟨q, rfl⟩ := len1 (l := yi) (by omega)
    unfold snE
    show decide (pth T2 (cls [2, 1] [p, a]) [p, a] = pth T2 (cls [2, 1] [q, b]) [q, b]) = _
    rw [path2, path2]
    by_cases e : p = q
    · subst e
      rcases Int.emod_two_eq p with e | e <;> simp [e]
    · rcases Int.emod_two_eq p with e1 | e1 <;> rcases Int.emod_two_eq q with e2 | e2 <;> simp [e, e1, e2]
  · obtain ⟨p, r, rfl⟩ := len2 (l := xi) (by omega)
    obtain ⟨q, s, rfl⟩ := len2 (l := yi) (by omega)
    unfold snE
    show decide (pth T3 (cls [2, 2, 1] [p, r, a]) [p, r, a] = pth T3 (cls [2, 2, 1] [q, s, b]) [q, s, b]) = _
    rw [path3, path3]
    have es : ∀ u v : Int, ([u, v] : List Int).sum = u + v := fun u v => by simp
    rw [es]
    by_cases e : p = q ∧ r = s
    · obtain ⟨rfl, rfl⟩ := e
      rcases Int.emod_two_eq (p + r) with e | e <;> simp [e]
    · rcases Int.emod_two_eq (p + r) with e1 | e1 <;> rcases Int.emod_two_eq (q + s) with e2 | e2 <;> simp [e1, e2] <;> (try omega) <;> (intro h1 h2; exact absurd ⟨h1, h2⟩ e)
end Lk

namespace Lk
open PySem L2 Lx LamX LrA LqA
/-! ### common divisors and multiples -/
def lcmI (a b : Int) : Int := ((Nat.lcm a.natAbs b.natAbs : Nat) : Int)
def comD (ds es : List Int) : List Int := List.zipWith lcmI ds es
def gcdI (a b : Int) : Int := ((Nat.gcd a.natAbs b.natAbs : Nat) : Int)
def spGcd : Sp := fun vs H Q _ => ∃ a b : Int, vs = [.int a, .int b] ∧ Q (.int (gcdI a b)) H
def spLcm : Sp := fun vs H Q _ => ∃ a b : Int, vs = [.int a, .int b] ∧ 1 ≤ a ∧ 1 ≤ b ∧ a < 2 ^ 30 ∧ b < 2 ^ 30 ∧ Q (.int (lcmI a b)) H
def spCom (K : PySem.W.Frag) : Sp := fun vs H Q _ => ∃ (a b : Addr) (ds es : List Int), vs = [.ref a, .ref b] ∧ SqT K H a (ds.map V.int) ∧ SqT K H b (es.map V.int) ∧ ds.length = es.length ∧ ds.length ≤ 3 ∧ (∀ z ∈ ds, 1 ≤ z ∧ z < 2 ^ 30) ∧ (∀ z ∈ es, 1 ≤ z ∧ z < 2 ^ 30) ∧
  ∀ H' p, Same H H' → H p = none → H' p = some (.tup ((comD ds es).map V.int)) → Q (.ref p) H'
theorem abs_nat (i : Int) : (if i < 0 then -i else i) = (i.natAbs : Int) := by
  by_cases h : i < 0
  · rw [if_pos h]; omega
  · rw [if_neg h]; omega
theorem gcd_step {m n : Nat} (h : 0 < n) : Nat.gcd n (m % n) = Nat.gcd m n := by
  rw [Nat.gcd_comm m n, Nat.gcd_rec n m, Nat.gcd_comm]
theorem lcm_div {a b : Int} (ha : 1 ≤ a) (hb : 1 ≤ b) : a * b / gcdI a b = lcmI a b := by
  obtain ⟨m, rfl⟩ := Int.eq_ofNat_of_zero_le (show 0 ≤ a by omega)
  obtain ⟨n, rfl⟩ := Int.eq_ofNat_of_zero_le (show 0 ≤ b by omega)
  show (m : Int) * (n : Int) / ((Nat.gcd m n : Nat) : Int) = ((Nat.lcm m n : Nat) : Int)
  rw [← Int.natCast_mul, ← Int.natCast_ediv]
  rfl
theorem gcd_bound {a b : Int} (ha : 1 ≤ a) (h : a < 2 ^ 30) : 0 < gcdI a b ∧ gcdI a b < 2 ^ 30 := by
  have h1 : Nat.gcd a.natAbs b.natAbs ≤ a.natAbs := Nat.gcd_le_left _ (by omega)
  have h2 : 0 < Nat.gcd a.natAbs b.natAbs := Nat.gcd_pos_of_pos_left _ (by omega)
  unfold gcdI
  omega
theorem lcm_pos {a b : Int} (ha : 1 ≤ a) (hb : 1 ≤ b) : 1 ≤ lcmI a b := by
  have : 0 < Nat.lcm a.natAbs b.natAbs := Nat.lcm_pos (by omega) (by omega)
  unfold lcmI
  omega
theorem lcm_le {a b : Int} (ha : 1 ≤ a) (hb : 1 ≤ b) : lcmI a b ≤ a * b := by
  obtain ⟨m, rfl⟩ := Int.eq_ofNat_of_zero_le (show 0 ≤ a by omega)
  obtain ⟨n, rfl⟩ := Int.eq_ofNat_of_zero_le (show 0 ≤ b by omega)
  show ((Nat.lcm m n : Nat) : Int) ≤ (m : Int) * (n : Int)
  rw [← Int.natCast_mul]
  have h : Nat.lcm m n ∣ m * n := Nat.lcm_dvd (Nat.dvd_mul_right m n) (Nat.dvd_mul_left n m)
  exact Int.ofNat_le.mpr (Nat.le_of_dvd (Nat.mul_pos (by omega) (by omega)) h)
theorem lcm_mod {a b : Int} (ha : 1 ≤ a) (hb : 1 ≤ b) : lcmI a b % a = 0 ∧ lcmI a b % b = 0 := by
  obtain ⟨m, rfl⟩ := Int.eq_ofNat_of_zero_le (show 0 ≤ a by omega)
  obtain ⟨n, rfl⟩ := Int.eq_ofNat_of_zero_le (show 0 ≤ b by omega)
  constructor
  · show ((Nat.lcm m n : Nat) : Int) % (m : Int) = 0
    exact Int.emod_eq_zero_of_dvd (Int.natCast_dvd_natCast.mpr (Nat.dvd_lcm_left m n))
  · show ((Nat.lcm m n : Nat) : Int) % (n : Int) = 0
    exact Int.emod_eq_zero_of_dvd (Int.natCast_dvd_natCast.mpr (Nat.dvd_lcm_right m n))
theorem com_len {ds es : List Int} (h : ds.length = es.length) : (comD ds es).length = ds.length := by
  unfold comD
  rw [List.length_zipWith]
  omega
theorem com_mul : ∀ {ds es : List Int}, ds.length = es.length → (∀ z ∈ ds, 1 ≤ z) → (∀ z ∈ es, 1 ≤ z) → Mul (comD ds es) ds ∧ Mul (comD ds es) es := fun {ds es} hl h1 h2 => by
  have key : ∀ (i : Nat) (u : Int), (comD ds es)[i]? = some u → ∃ a b, ds[i]? = some a ∧ es[i]? = some b ∧ u = lcmI a b := fun i u h => by
    unfold comD at h
    rw [List.getElem?_zipWith] at h
    cases ea : ds[i]? with
    | none => rw [ea] at h; simp at h
    | some a =>
      cases eb : es[i]? with
      | none => rw [ea, eb] at h; simp at h
      | some b =>
        rw [ea, eb] at h
        simp at h
        exact ⟨a, b, rfl, rfl, h.symm⟩
  refine ⟨⟨com_len hl, fun i u v hu hv => ?_⟩, ⟨by rw [com_len hl, hl], fun i u v hu hv => ?_⟩⟩
  · obtain ⟨a, b, ea, eb, rfl⟩ := key i u hu
    rw [ea] at hv
    cases hv
    exact (lcm_mod (h1 _ (List.mem_of_getElem? ea)) (h2 _ (List.mem_of_getElem? eb))).1
  · obtain ⟨a, b, ea, eb, rfl⟩ := key i u hu
    rw [eb] at hv
    cases hv
    exact (lcm_mod (h1 _ (List.mem_of_getElem? ea)) (h2 _ (List.mem_of_getElem? eb))).2
theorem com_one {ds es : List Int} (h1 : ∀ z ∈ ds, 1 ≤ z) (h2 : ∀ z ∈ es, 1 ≤ z) : ∀ z ∈ comD ds es, 1 ≤ z := fun z hz => by
  obtain ⟨i, hi⟩ := List.mem_iff_getElem?.mp hz
  unfold comD at hi
  rw [List.getElem?_zipWith] at hi
  cases ea : ds[i]? with
  | none => rw [ea] at hi; simp at hi
  | some a =>
    cases eb : es[i]? with
    | none => rw [ea, eb] at hi; simp at hi
    | some b =>
      rw [ea, eb] at hi
      simp at hi
      rw [← hi]
      exact lcm_pos (h1 _ (List.mem_of_getElem? ea)) (h2 _ (List.mem_of_getElem? eb))
theorem com_prod : ∀ {ds es : List Int}, (∀ z ∈ ds, 1 ≤ z) → (∀ z ∈ es, 1 ≤ z) → ds.length = es.length → prodL (comD ds es) ≤ prodL ds * prodL es
  | [], [], _, _, _ => by decide
  | a :: r, b :: s, h1, h2, hl => by
    have ih := com_prod (ds := r) (es := s) (fun z h => h1 z (List.mem_cons_of_mem _ h)) (fun z h => h2 z (List.mem_cons_of_mem _ h)) (by simpa using hl)
    have pa := h1 a List.mem_cons_self
    have pb := h2 b List.mem_cons_self
    have p1 := prodL_pos (l := r) fun z h => h1 z (List.mem_cons_of_mem _ h)
    have p2 := prodL_pos (l := s) fun z h => h2 z (List.mem_cons_of_mem _ h)
    have p0 := prodL_pos (com_one (ds := r) (es := s) (fun z h => h1 z (List.mem_cons_of_mem _ h)) (fun z h => h2 z (List.mem_cons_of_mem _ h)))
    show lcmI a b * prodL (comD r s) ≤ (a * prodL r) * (b * prodL s)
    have e : (a * prodL r) * (b * prodL s) = (a * b) * (prodL r * prodL s) := by
      rw [Int.mul_assoc, Int.mul_assoc, Int.mul_left_comm (prodL r)]
    rw [e]
    exact Int.mul_le_mul (lcm_le pa pb) ih (by omega) (Int.mul_nonneg (by omega) (by omega))
  | [], _ :: _, _, _, h => by cases h
  | _ :: _, [], _, _, h => by cases h
section
variable {P : Program} {w : World} {K : PySem.W.Frag} {mg : Str → Option Value} {base : Heap}
theorem ok_gcd {f : Addr} {fd : FuncData} {k : Nat} (F : Fun K "greatest_divisor" "greatest_divisor" sGcd f fd) (ma : mg "abs" = none) : FnOk P w K mg base CX0 (k + 1) f fd ["one", "other"] spGcd := by
  refine F.ok scGcd (fun vs H Q E h => ?_) (fun cdv A outer s H vs Q E hr h => ?_)
  · obtain ⟨a, b, rfl, _⟩ := h
    rfl
  · obtain ⟨a, b, rfl, q⟩ := h
    refine ⟨_, pss_cons (ps_set (i := 0) scGcd.nd rfl (.inl rfl) (pe_callB call_abs (by rfl) ma (by decide +kernel) (pa_cons (pv 0) pa_nil)))
      (pss_cons (ps_set (i := 1) scGcd.nd rfl (.inl rfl) (pe_callB call_abs (by rfl) ma (by decide +kernel) (pa_cons (pv 1) pa_nil)))
      (pss_cons (ps_while PassesOwn.never (pt_cmpR op_ne (pv 1) pe_int (nomark _))
        (pss_one (ps_par (i := 0) (j := 1) (by rfl) scGcd.nd rfl rfl (by decide) rfl rfl (pa_cons (pv 1) (pa_cons (pe_op op_mod (pv 0) (pv 1)) pa_nil)) (by rfl))))
      (pss_one (ps_ret (pv 0))))), ?_⟩
    refine ⟨_, rfl, a, rfl, _, rfl, b, rfl, ?_⟩
    rw [abs_nat, abs_nat]
    refine ⟨fun m σ H2 => ∃ x y : Nat, σ = [some (.int x), some (.int y)] ∧ H2 = H ∧ Nat.gcd x y = Nat.gcd a.natAbs b.natAbs ∧ m = y, ⟨_, a.natAbs, b.natAbs, rfl, rfl, rfl, rfl⟩, ?_⟩
    rintro m σ H2 ⟨x, y, rfl, rfl, hg, rfl⟩
    by_cases hy : m = 0
    · subst hy
      refine ⟨_, rfl, rfl, false, congrArg V.bl (by show (!decide (V.int 0 = V.int 0)) = false; rw [decide_eq_true rfl]; rfl), iteF ⟨_, rfl, ?_⟩⟩
      rw [Nat.gcd_zero_right] at hg
      rw [hg]
      exact q
    · refine ⟨_, rfl, rfl, true, congrArg V.bl (by rw [decide_eq_false (fun z => hy (by have := V.int.inj z; omega))]; rfl), iteT ?_⟩
      refine ⟨fun σ' H' => ∃ x' y' : Nat, σ' = [some (.int x'), some (.int y')] ∧ H' = H2 ∧ Nat.gcd x' y' = Nat.gcd a.natAbs b.natAbs ∧ y' < m, fun σ' H' ⟨x', y', z1, z2, z3, z4⟩ => ⟨y', z4, x', y', z1, z2, z3, rfl⟩, ?_⟩
      refine ⟨_, rfl, _, rfl, _, rfl, _, _, rfl, rfl, by omega, _, _, rfl, m, x % m, ?_, rfl, ?_, Nat.mod_lt _ (by omega)⟩
      · rw [Int.natCast_emod]
        rfl
      · rw [gcd_step (by omega)]
        exact hg
theorem ok_lcm {f fG : Addr} {fd fdG : FuncData} {k : Nat} (F : Fun K "least_multiple" "least_multiple" sLcm f fd)
    (GG : FnOk P w K mg base CX0 (k + 1) fG fdG ["one", "other"] spGcd) (kG : PySem.W.keepIn K (.ref fG) = true) (bG : Binds K fdG ["one", "other"] []) (gG : mg "greatest_divisor" = some (.ref fG)) : FnOk P w K mg base CX0 (k + 2) f fd ["one", "other"] spLcm := by
  refine F.ok scLcm (fun vs H Q E h => ?_) (fun cdv A outer s H vs Q E hr h => ?_)
  · obtain ⟨a, b, rfl, _⟩ := h
    rfl
  · obtain ⟨a, b, rfl, a1, b1, a2, b2, q⟩ := h
    refine ⟨_, pss_one (ps_ret (pe_op op_fdiv (pe_op op_mul (pv 0) (pv 1)) (pe_call GG hr (by rfl) gG kG bG .nil pass0 (pa_cons (pv 0) (pa_cons (pv 1) pa_nil))))), ?_⟩
    have gb := gcd_bound (b := b) a1 a2
    refine ⟨_, rfl, _, rfl, _, _, rfl, rfl, .inl ⟨by omega, by omega⟩, _, rfl, _, rfl, a, b, rfl, _, _, rfl, rfl, ⟨gb.1, gb.2⟩, ?_⟩
    show Q (.int (a * b / gcdI a b)) H
    rw [lcm_div a1 b1]
    exact q
theorem ok_common {f fG : Addr} {fd fdG : FuncData} {k : Nat} (F : Fun K "common_divisors" "common_divisors" sCommon f fd) (mt : mg "tuple" = none) (mz : mg "zip" = none)
    (GG : FnOk P w K mg base CX0 (k + 2) fG fdG ["one", "other"] spLcm) (kG : PySem.W.keepIn K (.ref fG) = true) (bG : Binds K fdG ["one", "other"] []) (gG : mg "least_multiple" = some (.ref fG)) : FnOk P w K mg base CX0 (k + 3) f fd ["one", "other"] (spCom K) := by
  refine F.ok scCommon (fun vs H Q E h => ?_) (fun cdv A outer s H vs Q E hr h => ?_)
  · obtain ⟨a, b, ns, ms, rfl, _⟩ := h
    rfl
  · obtain ⟨a, b, ns, ms, rfl, hA, hB, hl, h3, b1, b2, q⟩ := h
    refine ⟨_, pss_one (ps_ret (pe_callTy call_tuple_of (by rfl) mt (by decide +kernel) (pa_cons (pe_lc (own := [("first", 2), ("second", 3)]) (g := gTup K 2 (gCons (gName 2) (gCons (gName 3) gNil))) (by rfl) scCommon.nd (RZ.pi_zipA (by rfl) mz (pa_cons (pv 0) (pa_cons (pv 1) pa_nil)))
      (blkOk_by (own := [("first", 2), ("second", 3)]) (N := ["one", "other", "first", "second"]) (sc := defScope sCommon) (by decide +kernel))
      (fun _ _ _ _ _ => pg_tup rfl (pgs_cons (pg_name (i := 2) scCommon.nd rfl (.inl rfl)) (pgs_cons (pg_name (i := 3) scCommon.nd rfl (.inl rfl)) pgs_nil))) (fun _ _ _ _ _ => pts_nil)
      (fun _ _ _ _ _ => pe_call GG hr (by rfl) gG kG bG .nil pass0 (pa_cons (pv 2) (pa_cons (pv 3) pa_nil)))) pa_nil))), ?_⟩
    have hle : (ns.map V.int).length = (ms.map V.int).length := by rw [List.length_map, List.length_map, hl]
    refine ⟨_, rfl, _, rfl, a, b, ns.map V.int, ms.map V.int, rfl, .inr ⟨hA, hB, fun D nD => ?_⟩⟩
    refine lc_it (walk_zipT hle) (fun i H2 => Same H H2 ∧ H2 D = some (.lst (((comD ns ms).take i).map V.int))) ⟨same_new nD, upd_same⟩ (fun i H2 _ ⟨sm, _⟩ => ⟨Same.sqT sm hA, Same.sqT sm hB⟩) ?_ ?_
    · rintro i x H2 H3 hi ⟨sm, hD⟩ ⟨T, x1, x2, rfl, nT, rfl, f1, f2⟩
      obtain ⟨u, hu, rfl⟩ := map_get f1
      obtain ⟨v, hv, rfl⟩ := map_get f2
      have nDT : D ≠ T := ne_of_none hD nT
      have gz : (comD ns ms)[i]? = some (lcmI u v) := by
        unfold comD
        rw [List.getElem?_zipWith, hu, hv]
      have bu := b1 u (List.mem_of_getElem? hu)
      have bv := b2 v (List.mem_of_getElem? hv)
      refine ⟨T, _, rfl, SqT.of upd_same, rfl, _, _, rfl, _, _, rfl, rfl, rfl, ?_⟩
      refine ⟨_, rfl, _, rfl, u, v, rfl, bu.1, bv.1, bu.2, bv.2, _, (by rw [upd_ne nDT]; exact hD), ?_, ?_, ?_⟩
      · rw [List.length_map]
        refine Nat.lt_of_le_of_lt (List.length_take_le _ _) (small1000 ?_)
        rw [List.length_map] at hi
        omega
      · intro c o e
        have e2 := sm c o e
        rw [upd_ne (ne_of_none e nD), upd_ne (ne_of_none e2 nT)]
        exact e2
      · rw [upd_same, take_more gz, List.map_append]
        rfl
    · rintro H2 ⟨sm, hD⟩
      have e : (comD ns ms).take (ns.map V.int).length = comD ns ms := List.take_of_length_le (by
        rw [com_len hl, List.length_map]
        omega)
      rw [e] at hD
      refine ⟨D, _, rfl, .inl ⟨SqL.of hD, fun p np => ?_⟩⟩
      exact q _ p (sm.trans (same_new np)) (sm.free np) upd_same
theorem ok_lgcd {f : Addr} {fd : FuncData} {k : Nat} (F : Fun K "_law_gcd" "_law_gcd" sLGcd f fd) (ma : mg "abs" = none) (mi : mg "int" = none) : FnOk P w K mg base CX0 (k + 1) f fd ["_law_one", "_law_other"] spGcd := by
  refine F.ok scLGcd (fun vs H Q E h => ?_) (fun cdv A outer s H vs Q E hr h => ?_)
  · obtain ⟨a, b, rfl, _⟩ := h
    rfl
  · obtain ⟨a, b, rfl, q⟩ := h
    refine ⟨_, pss_cons (ps_par (i := 0) (j := 1) (by rfl) scLGcd.nd rfl rfl (by decide) rfl rfl (pa_cons (pe_callB call_abs (by rfl) ma (by decide +kernel) (pa_cons (pv 0) pa_nil)) (pa_cons (pe_callB call_abs (by rfl) ma (by decide +kernel) (pa_cons (pv 1) pa_nil)) pa_nil)) (by rfl))
      (pss_cons (ps_while PassesOwn.never (pt_cmpR op_gt (pv 1) pe_int (nomark _))
        (pss_one (ps_par (i := 0) (j := 1) (by rfl) scLGcd.nd rfl rfl (by decide) rfl rfl (pa_cons (pv 1) (pa_cons (pe_op op_mod (pe_callTy call_int1 (by rfl) mi (by decide +kernel) (pa_cons (pv 0) pa_nil)) (pv 1)) pa_nil)) (by rfl))))
      (pss_one (ps_ret (pv 0)))), ?_⟩
    refine ⟨_, rfl, a, rfl, _, rfl, b, rfl, _, _, rfl, ?_⟩
    rw [abs_nat, abs_nat]
    refine ⟨fun m σ H2 => ∃ x y : Nat, σ = [some (.int x), some (.int y)] ∧ H2 = H ∧ Nat.gcd x y = Nat.gcd a.natAbs b.natAbs ∧ m = y, ⟨_, a.natAbs, b.natAbs, rfl, rfl, rfl, rfl⟩, ?_⟩
    rintro m σ H2 ⟨x, y, rfl, rfl, hg, rfl⟩
    by_cases hy : m = 0
    · subst hy
      refine ⟨_, rfl, _, _, rfl, rfl, false, congrArg V.bl (decide_eq_false (by decide)), iteF ⟨_, rfl, ?_⟩⟩
      rw [Nat.gcd_zero_right] at hg
      rw [hg]
      exact q
    · refine ⟨_, rfl, _, _, rfl, rfl, true, congrArg V.bl (decide_eq_true (by omega)), iteT ?_⟩
      refine ⟨fun σ' H' => ∃ x' y' : Nat, σ' = [some (.int x'), some (.int y')] ∧ H' = H2 ∧ Nat.gcd x' y' = Nat.gcd a.natAbs b.natAbs ∧ y' < m, fun σ' H' ⟨x', y', z1, z2, z3, z4⟩ => ⟨y', z4, x', y', z1, z2, z3, rfl⟩, ?_⟩
      refine ⟨_, rfl, _, rfl, .inl ⟨_, rfl, _, rfl, _, _, rfl, rfl, by omega, _, _, rfl, m, x % m, ?_, rfl, ?_, Nat.mod_lt _ (by omega)⟩⟩
      · rw [Int.natCast_emod]
        rfl
      · rw [gcd_step (by omega)]
        exact hg
theorem ok_llcm {f fG : Addr} {fd fdG : FuncData} {k : Nat} (F : Fun K "_law_lcm" "_law_lcm" sLLcm f fd)
    (GG : FnOk P w K mg base CX0 (k + 1) fG fdG ["_law_one", "_law_other"] spGcd) (kG : PySem.W.keepIn K (.ref fG) = true) (bG : Binds K fdG ["_law_one", "_law_other"] []) (gG : mg "_law_gcd" = some (.ref fG)) : FnOk P w K mg base CX0 (k + 2) f fd ["_law_one", "_law_other"] spLcm := by
  refine F.ok scLLcm (fun vs H Q E h => ?_) (fun cdv A outer s H vs Q E hr h => ?_)
  · obtain ⟨a, b, rfl, _⟩ := h
    rfl
  · obtain ⟨a, b, rfl, a1, b1, a2, b2, q⟩ := h
    refine ⟨_, pss_one (ps_ret (pe_op op_fdiv (pe_op op_mul (pv 0) (pv 1)) (pe_call GG hr (by rfl) gG kG bG .nil pass0 (pa_cons (pv 0) (pa_cons (pv 1) pa_nil))))), ?_⟩
    have gb := gcd_bound (b := b) a1 a2
    refine ⟨_, rfl, _, rfl, _, _, rfl, rfl, .inl ⟨by omega, by omega⟩, _, rfl, _, rfl, a, b, rfl, _, _, rfl, rfl, ⟨gb.1, gb.2⟩, ?_⟩
    show Q (.int (a * b / gcdI a b)) H
    rw [lcm_div a1 b1]
    exact q
theorem ok_lcommon {f fG : Addr} {fd fdG : FuncData} {k : Nat} (F : Fun K "_law_common" "_law_common" sLCommon f fd) (mt : mg "tuple" = none) (mz : mg "zip" = none)
    (GG : FnOk P w K mg base CX0 (k + 2) fG fdG ["_law_one", "_law_other"] spLcm) (kG : PySem.W.keepIn K (.ref fG) = true) (bG : Binds K fdG ["_law_one", "_law_other"] []) (gG : mg "_law_lcm" = some (.ref fG)) : FnOk P w K mg base CX0 (k + 3) f fd ["_law_one", "_law_other"] (spCom K) := by
  refine F.ok scLCommon (fun vs H Q E h => ?_) (fun cdv A outer s H vs Q E hr h => ?_)
  · obtain ⟨a, b, ns, ms, rfl, _⟩ := h
    rfl
  · obtain ⟨a, b, ns, ms, rfl, hA, hB, hl, h3, b1, b2, q⟩ := h
    refine ⟨_, pss_one (ps_ret (pe_callTy call_tuple_of (by rfl) mt (by decide +kernel) (pa_cons (pe_lc (own := [("_law_a", 2), ("_law_b", 3)]) (g := gTup K 2 (gCons (gName 2) (gCons (gName 3) gNil))) (by rfl) scLCommon.nd (RZ.pi_zipA (by rfl) mz (pa_cons (pv 0) (pa_cons (pv 1) pa_nil)))
      (blkOk_by (own := [("_law_a", 2), ("_law_b", 3)]) (N := ["_law_one", "_law_other", "_law_a", "_law_b"]) (sc := defScope sLCommon) (by decide +kernel))
      (fun _ _ _ _ _ => pg_tup rfl (pgs_cons (pg_name (i := 2) scLCommon.nd rfl (.inl rfl)) (pgs_cons (pg_name (i := 3) scLCommon.nd rfl (.inl rfl)) pgs_nil))) (fun _ _ _ _ _ => pts_nil)
      (fun _ _ _ _ _ => pe_call GG hr (by rfl) gG kG bG .nil pass0 (pa_cons (pv 2) (pa_cons (pv 3) pa_nil)))) pa_nil))), ?_⟩
    have hle : (ns.map V.int).length = (ms.map V.int).length := by rw [List.length_map, List.length_map, hl]
    refine ⟨_, rfl, _, rfl, a, b, ns.map V.int, ms.map V.int, rfl, .inr ⟨hA, hB, fun D nD => ?_⟩⟩
    refine lc_it (walk_zipT hle) (fun i H2 => Same H H2 ∧ H2 D = some (.lst (((comD ns ms).take i).map V.int))) ⟨same_new nD, upd_same⟩ (fun i H2 _ ⟨sm, _⟩ => ⟨Same.sqT sm hA, Same.sqT sm hB⟩) ?_ ?_
    · rintro i x H2 H3 hi ⟨sm, hD⟩ ⟨T, x1, x2, rfl, nT, rfl, f1, f2⟩
      obtain ⟨u, hu, rfl⟩ := map_get f1
      obtain ⟨v, hv, rfl⟩ := map_get f2
      have nDT : D ≠ T := ne_of_none hD nT
      have gz : (comD ns ms)[i]? = some (lcmI u v) := by
        unfold comD
        rw [List.getElem?_zipWith, hu, hv]
      have bu := b1 u (List.mem_of_getElem? hu)
      have bv := b2 v (List.mem_of_getElem? hv)
      refine ⟨T, _, rfl, SqT.of upd_same, rfl, _, _, rfl, _, _, rfl, rfl, rfl, ?_⟩
      refine ⟨_, rfl, _, rfl, u, v, rfl, bu.1, bv.1, bu.2, bv.2, _, (by rw [upd_ne nDT]; exact hD), ?_, ?_, ?_⟩
      · rw [List.length_map]
        refine Nat.lt_of_le_of_lt (List.length_take_le _ _) (small1000 ?_)
        rw [List.length_map] at hi
        omega
      · intro c o e
        have e2 := sm c o e
        rw [upd_ne (ne_of_none e nD), upd_ne (ne_of_none e2 nT)]
        exact e2
      · rw [upd_same, take_more gz, List.map_append]
        rfl
    · rintro H2 ⟨sm, hD⟩
      have e : (comD ns ms).take (ns.map V.int).length = comD ns ms := List.take_of_length_le (by
        rw [com_len hl, List.length_map]
        omega)
      rw [e] at hD
      refine ⟨D, _, rfl, .inl ⟨SqL.of hD, fun p np => ?_⟩⟩
      exact q _ p (sm.trans (same_new np)) (sm.free np) upd_same
end
end Lk

namespace Lk
open PySem L2 Lx LamX LrA LqA
/-! ### trees by divisors with more classes -/
def spSourcesB (K : PySem.W.Frag) : Sp := fun vs H Q _ => ∃ (a m c e : Addr) (ds : List Int) (mat : List (List Int)) (ws : List V) (x nds : List Int) (d n : Nat), vs = [.ref a, .ref m, .ref c, .ref e] ∧ SqT K H a (ds.map V.int) ∧ SqT K H m ws ∧ HdsAt K H mat ws ∧ SqT K H c (x.map V.int) ∧ SqT K H e (nds.map V.int) ∧
  Divs ds ∧ (∀ z ∈ nds, 1 ≤ z ∧ z < 2 ^ 30) ∧ n ≤ 1000 ∧ ds.length = d ∧ nds.length = d ∧ Mat mat d ∧ x.length = d ∧ d ≤ 3 ∧ prodL nds = (n : Int) ∧ ∀ H' p, Same H H' → H' p = some (.lst ((srcM ds mat x nds n).map V.int)) → Q (.ref p) H'
def spChangedB (K : PySem.W.Frag) (C : Addr) : Sp := fun vs H Q _ => ∃ (p a m c : Addr) (ev : V) (ds : List Int) (n : Nat) (t e : Tr) (mat : List (List Int)) (ws : List V) (x nds : List Int) (n' : Nat), vs = [.ref p, .ref a, .ref m, .ref c, ev] ∧ ScanAt K C H p ds n t ∧ SqT K H a (nds.map V.int) ∧ SqT K H m ws ∧ HdsAt K H mat ws ∧
  SqT K H c (x.map V.int) ∧ TrAt K H e ev ∧ (∀ z ∈ nds, 1 ≤ z ∧ z < 2 ^ 30) ∧ n' ≤ 1000 ∧ nds.length = ds.length ∧ Mat mat ds.length ∧ x.length = ds.length ∧ prodL nds = (n' : Int) ∧ ∀ H' u, Same H H' → TrAt K H' (mvT (srcM ds mat x nds n') mat e t) u → Q u H'
def spRefTB (K : PySem.W.Frag) (C : Addr) : Sp := fun vs H Q _ => ∃ (p a : Addr) (ev : V) (ds : List Int) (n : Nat) (t e : Tr) (nds : List Int) (n' : Nat), vs = [.ref p, .ref a, ev] ∧ ScanAt K C H p ds n t ∧ SqT K H a (nds.map V.int) ∧ TrAt K H e ev ∧ (∀ z ∈ nds, 1 ≤ z ∧ z < 2 ^ 30) ∧ n' ≤ 1000 ∧ nds.length = ds.length ∧ prodL nds = (n' : Int) ∧
  ∀ H' u, Same H H' → TrAt K H' (rfT ds nds n' e t) u → Q u H'
section
variable {P : Program} {w : World} {K : PySem.W.Frag} {mg : Str → Option Value} {base : Heap}
theorem ok_sourcesB {f fM fA fT fL fC : Addr} {fd fdM fdA fdT fdL fdC : FuncData} {k : Nat} (F : Fun K "source_classes" "source_classes" sSources f fd) (mr : mg "range" = none)
    (GM : FnOk P w K mg base CX0 (k + 1) fM fdM ["numbers"] (spProdB K)) (kM : PySem.W.keepIn K (.ref fM) = true) (bM : Binds K fdM ["numbers"] []) (gM : mg "product" = some (.ref fM))
    (GA : FnOk P w K mg base CX0 (k + 1) fA fdA ["one", "other"] (spPlus K)) (kA : PySem.W.keepIn K (.ref fA) = true) (bA : Binds K fdA ["one", "other"] []) (gA : mg "added" = some (.ref fA))
    (GT : FnOk P w K mg base CX0 (k + 2) fT fdT ["matrix", "place"] (spTimes K)) (kT : PySem.W.keepIn K (.ref fT) = true) (bT : Binds K fdT ["matrix", "place"] []) (gT : mg "times" = some (.ref fT))
    (GL : FnOk P w K mg base CX0 (k + 1) fL fdL ["sides", "number"] (spPlaceAtB K)) (kL : PySem.W.keepIn K (.ref fL) = true) (bL : Binds K fdL ["sides", "number"] []) (gL : mg "place_at" = some (.ref fL))
    (GC : FnOk P w K mg base CX0 (k + 1) fC fdC ["divisors", "place"] (spClassAt K)) (kC : PySem.W.keepIn K (.ref fC) = true) (bC : Binds K fdC ["divisors", "place"] []) (gC : mg "class_at" = some (.ref fC)) :
    FnOk P w K mg base CX0 (k + 3) f fd ["divisors", "matrix", "place", "new_divisors"] (spSourcesB K) := by
  refine F.ok scSources (fun vs H Q E h => ?_) (fun cdv A outer s H vs Q E hr h => ?_)
  · obtain ⟨a, m, c, e, ds, mat, ws, x, nds, d, n, rfl, _⟩ := h
    rfl
  · obtain ⟨a, m, c, e, ds, mat, ws, x, nds, d, n, rfl, hA, hM, hW, hC, hE, D1, D2, hn12, l1, l2, MM, lx, d3, hn, q⟩ := h
    have hr1 : Room (k + 1) _ := hr.mono (by omega)
    refine ⟨_, pss_cons (ps_set (i := 4) scSources.nd rfl (.inl rfl) (pe_lst pa_nil))
      (pss_cons (ps_for PassesOwn.never rfl (pi_range1 (by rfl) mr (pa_cons (pe_call GM hr1 (by rfl) gM kM bM .nil pass0 (pa_cons (pv 3) pa_nil)) pa_nil)) (pg_name (i := 5) scSources.nd rfl (.inl rfl))
        (pss_cons (ps_set (i := 6) scSources.nd rfl (.inl rfl) (pe_call GA hr1 (by rfl) gA kA bA .nil pass0 (pa_cons (pe_call GT hr (by rfl) gT kT bT .nil pass0 (pa_cons (pv 1) (pa_cons (pe_call GL hr1 (by rfl) gL kL bL .nil pass0 (pa_cons (pv 3) (pa_cons (pv 5) pa_nil))) pa_nil))) (pa_cons (pv 2) pa_nil))))
        (pss_one (ps_expr (pe_bm PySem.F.plainAttrs_list PySem.F.slot_list_append PySem.F.type_list_append mt_append (pv 4) (pa_cons (pe_call GC hr1 (by rfl) gC kC bC .nil pass0 (pa_cons (pv 0) (pa_cons (pv 6) pa_nil))) pa_nil))))))
      (pss_one (ps_ret (pv 4)))), ?_⟩
    refine ⟨Nat.zero_le _, fun o no => ?_⟩
    have s0 := same_new (o := .lst []) no
    refine ⟨_, rfl, e, nds, rfl, Same.sqT s0 hE, (fun z hz => by have := D2 z hz; omega), ?_⟩
    rw [hn]
    refine ⟨n, rfl, by omega, by omega, for_range (lo := 0) (n := (n : Int).toNat) (fun i σ H2 => ∃ v5 v6 : Option V, σ = [some (.ref a), some (.ref m), some (.ref c), some (.ref e), some (.ref o), v5, v6] ∧ Same H H2 ∧ H2 o = some (.lst (((srcM ds mat x nds n).take i).map V.int)))
      ⟨none, none, rfl, s0, upd_same⟩ ?_ ?_⟩
    · rintro i σ H2 hi ⟨v5, v6, rfl, sm, ho⟩
      have e0 : (0 : Int) + (i : Int) = (i : Int) := by omega
      have hin : i < n := by omega
      rw [e0]
      refine ⟨_, rfl, _, rfl, _, rfl, e, nds, i, rfl, Same.sqT sm hE, D2, by omega, fun H3 p3 s3 g3 => ?_⟩
      have sm3 := sm.trans s3
      have pl := pAt_len nds (i : Int)
      refine ⟨m, p3, mat, ws, _, rfl, Same.sqT sm3 hM, HdsAt.mono (Same.tups sm3) hW, g3, fun r hr' => ⟨by rw [(MM.rw_ r hr').1]; omega, (MM.rw_ r hr').2⟩, by omega, by rw [MM.ln]; omega, fun H4 p4 s4 g4 => ?_⟩
      have sm4 := sm3.trans s4
      have lm : (mulM mat (pAt nds (i : Int))).length = d := by unfold mulM; rw [List.length_map, MM.ln]
      refine ⟨_, rfl, p4, c, mulM mat (pAt nds (i : Int)), x, rfl, g4, Same.sqT sm4 hC, by omega, by omega, fun H5 p5 s5 n5 g5 => ?_⟩
      have sm5 := sm4.trans s5
      have ho5 := s5 _ _ (s4 _ _ (s3 _ _ ho))
      refine ⟨_, rfl, .inl ⟨rfl, _, SqL.of ho5⟩, _, rfl, _, rfl, a, p5, ds, _, rfl, Same.sqT sm5 hA, SqT.of g5, ?_, D1, fun H6 s6 => ?_⟩
      · show ds.length = (plus (mulM mat (pAt nds (i : Int))) x).length
        rw [plus_len (by omega)]
        omega
      refine ⟨o, _, _, rfl, rfl, s6 _ _ ho5, ?_, _, _, rfl, Same.upd_out (sm5.trans s6) no, ?_⟩
      · rw [List.length_map]
        exact small1000 (by rw [List.length_take]; omega)
      · have gi : (srcM ds mat x nds n)[i]? = some (cls ds (plus (mulM mat (pAt nds (i : Int))) x)) := by
          unfold srcM
          rw [List.getElem?_map, List.getElem?_range hin]
          rfl
        rw [upd_same, take_more gi, List.map_append]
        rfl
    · rintro σ H2 ⟨v5, v6, rfl, sm, ho⟩
      rw [List.take_of_length_le (by unfold srcM; rw [List.length_map, List.length_range]; omega)] at ho
      exact ⟨_, rfl, q H2 o sm ho⟩
theorem ok_changedB {f fS fM C : Addr} {fd fdS fdM : FuncData} {k : Nat} (F : Fun K "changed_tree" "Scan.changed_tree" sChanged f fd) (T : Txt K mg C)
    (GS : FnOk P w K mg base CX0 (k + 3) fS fdS ["divisors", "matrix", "place", "new_divisors"] (spSourcesB K)) (kS : PySem.W.keepIn K (.ref fS) = true) (bS : Binds K fdS ["divisors", "matrix", "place", "new_divisors"] []) (gS : mg "source_classes" = some (.ref fS))
    (GM : FnOk P w K mg base CX0 (k + 3 + 20) fM fdM ["tree", "matrix", "sources", "ends"] (spMoved K 20)) (kM : PySem.W.keepIn K (.ref fM) = true) (bM : Binds K fdM ["tree", "matrix", "sources", "ends"] []) (gM : mg "moved_tree" = some (.ref fM)) :
    FnOk P w K mg base CX0 (k + 24) f fd ["self", "divisors", "matrix", "place", "ends"] (spChangedB K C) := by
  refine F.ok scChanged (fun vs H Q E h => ?_) (fun cdv A outer s H vs Q E hr h => ?_)
  · obtain ⟨p, a, m, c, ev, ds, n, t, e, mat, ws, x, nds, n', rfl, _⟩ := h
    rfl
  · obtain ⟨p, a, m, c, ev, ds, n, t, e, mat, ws, x, nds, n', rfl, S, hA, hM, hW, hC, hE, D2, n12', l2, MM, lx, hn', q⟩ := h
    have hr3 : Room (k + 3) _ := hr.mono (by omega)
    have hr23 : Room (k + 3 + 20) _ := hr.mono (by omega)
    refine ⟨_, pss_cons (ps_set (i := 5) scChanged.nd rfl (.inl rfl) (pe_call GS hr3 (by rfl) gS kS bS .nil pass0 (pa_cons (pe_fld (pv 0) rfl) (pa_cons (pv 2) (pa_cons (pv 3) (pa_cons (pv 1) pa_nil))))))
      (pss_one (ps_ret (pe_call GM hr23 (by rfl) gM kM bM .nil pass0 (pa_cons (pe_fld (pv 0) rfl) (pa_cons (pv 2) (pa_cons (pv 5) (pa_cons (pv 4) pa_nil))))))), ?_⟩
    obtain ⟨⟨dx, da, tv, h1, h2, h3⟩, hD, l1, l3, hn, hw, hdp, hz⟩ := id S
    refine ⟨_, rfl, p, C, dx, _, _, rfl, h1, T.cl, T.n3, sf_div _ _ _ _, _, rfl, _, rfl, _, rfl, da, m, c, a, ds, mat, ws, x, nds, ds.length, n', rfl, h2, hM, hW, hC, hA, hD, D2, n12', rfl, l2, MM, lx, l3, hn', fun H1 sl s1 hsl => ?_⟩
    have n12 : n ≤ 12 := by have := hD.most; omega
    refine ⟨_, rfl, p, C, dx, _, _, rfl, s1 _ _ h1, T.cl, T.n4, sf_tree _ _ _ _, _, rfl, _, rfl, _, rfl, tv, ev, m, sl, t, e, mat, ws, srcM ds mat x nds n', ds.length, n, rfl, TrAt.mono (Same.tups s1) h3, Same.sqT s1 hM, HdsAt.mono (Same.tups s1) hW, SqL.of hsl, TrAt.mono (Same.tups s1) hE, hw, hdp, MM, l3, n12, fun c hc => ?_, by rw [srcM_len]; omega, fun H2 u s2 hu => q H2 u (s1.trans s2) hu⟩
    unfold srcM at hc
    obtain ⟨j, hj, rfl⟩ := List.mem_map.mp hc
    have lm : (mulM mat (pAt nds (j : Int))).length = ds.length := by
      unfold mulM
      rw [List.length_map, MM.ln]
    refine cls_in hD hn ?_
    rw [plus_len (by omega)]
    exact lx.symm
theorem ok_reftB {f fI fG C : Addr} {fd fdI fdG : FuncData} {k : Nat} (F : Fun K "refined_tree" "Scan.refined_tree" sRefTree f fd) (T : Txt K mg C) (ml : mg "len" = none)
    (GI : FnOk P w K mg base CX0 (k + 1) fI fdI ["directions"] (spIdent K)) (kI : PySem.W.keepIn K (.ref fI) = true) (bI : Binds K fdI ["directions"] []) (gI : mg "identity" = some (.ref fI))
    (GG : FnOk P w K mg base CX0 (k + 24) fG fdG ["self", "divisors", "matrix", "place", "ends"] (spChangedB K C)) (bG : Binds K fdG ["self", "divisors", "matrix", "place", "ends"] []) (mG : Meth K C "changed_tree" fG) :
    FnOk P w K mg base CX0 (k + 25) f fd ["self", "divisors", "ends"] (spRefTB K C) := by
  refine F.ok scRefTree (fun vs H Q E h => ?_) (fun cdv A outer s H vs Q E hr h => ?_)
  · obtain ⟨p, a, ev, ds, n, t, e, nds, n', rfl, _⟩ := h
    rfl
  · obtain ⟨p, a, ev, ds, n, t, e, nds, n', rfl, S, hA, hE, D', n12', l2, hn', q⟩ := h
    have hr1 : Room (k + 1) _ := hr.mono (by omega)
    refine ⟨_, pss_cons (ps_set (i := 3) scRefTree.nd rfl (.inl rfl) (pe_callB call_len_seq (by rfl) ml PySem.boot_len (pa_cons (pe_fld (pv 0) rfl) pa_nil)))
      (pss_one (ps_ret (pe_meth (pv 0) T.cl mG GG hr bG .nil pass0 (pa_cons (pv 1) (pa_cons (pe_call GI hr1 (by rfl) gI kI bI .nil pass0 (pa_cons (pv 3) pa_nil)) (pa_cons (pe_op op_repO (pe_tup (pa_cons pe_int pa_nil)) (pv 3)) (pa_cons (pv 2) pa_nil))))))), ?_⟩
    obtain ⟨⟨dx, da, tv, h1, h2, h3⟩, hD, l1, l3, hn, hw, hdp, hz⟩ := id S
    have ld : ((ds.map V.int).length : Int) = (ds.length : Int) := by rw [List.length_map]
    refine ⟨_, rfl, p, C, dx, _, _, rfl, h1, T.cl, T.n3, sf_div _ _ _ _, da, _, rfl, .inr h2, ?_⟩
    rw [ld]
    refine ⟨_, rfl, p, dx, _, rfl, h1, sf_no _ _ _ _ _ (by decide +kernel), _, rfl, _, rfl, ds.length, rfl, l3, fun H2 m ws s2 hM hW => ?_⟩
    refine ⟨(by show 1 ≤ sizeLine; decide), fun z nz => ?_⟩
    have s3 := same_new (o := .tup [.int 0]) nz
    refine ⟨_, rfl, rep_reads (SqT.of upd_same) (by omega) (by omega) fun H4 c s4 hc => ?_⟩
    have s24 := s3.trans s4
    have s14 := s2.trans s24
    have hc' : SqT K H4 c ((zer ds.length).map V.int) := by
      have e : (zer ds.length).map V.int = List.replicate (ds.length : Int).toNat (V.int 0) := by
        unfold zer
        rw [List.map_replicate]
        rfl
      rw [e]
      exact hc
    exact ⟨_, rfl, p, a, m, c, ev, ds, n, t, e, idM ds.length, ws, zer ds.length, nds, n', rfl, S.same s14, Same.sqT s14 hA, Same.sqT s24 hM, HdsAt.mono (Same.tups s24) hW, hc', TrAt.mono (Same.tups s14) hE, D', n12', l2, idM_mat l1 l3, List.length_replicate, hn', fun H5 u s5 hu => q H5 u (s14.trans s5) hu⟩
end
end Lk

namespace Lk
open PySem L2 Lx LamX LrA LqA
/-! ### moved trees with other ends -/
theorem dot_row {mat : List (List Int)} {row x : List Int} {d : Nat} (h1 : 1 ≤ d) (h3 : d ≤ 3) (M : mat.length = d) (hr : ∀ r ∈ mat, r.length = d) (lr : row.length = d) (lx : x.length = d) : dotL (rowM row mat) x = dotL row (mulM mat x) := by
  rcases small_d h1 h3 with rfl | rfl | rfl
  · match mat, row, x, M, lr, lx, hr with
    | [m], [p], [u], _, _, _, hr =>
      have k1 := hr m (by simp)
      match m, k1 with
      | [a], _ => simp [dotL, rowM, colM, mulM, List.range_succ]; grind
  · match mat, row, x, M, lr, lx, hr with
    | [m, n], [p, q], [u, v], _, _, _, hr =>
      have k1 := hr m (by simp)
      have k2 := hr n (by simp)
      match m, n, k1, k2 with
      | [a, b], [c, e], _, _ => simp [dotL, rowM, colM, mulM, List.range_succ]; grind
  · match mat, row, x, M, lr, lx, hr with
    | [m, n, o], [p, q, r], [u, v, w], _, _, _, hr =>
      have k1 := hr m (by simp)
      have k2 := hr n (by simp)
      have k3 := hr o (by simp)
      match m, n, o, k1, k2, k3 with
      | [a, b, c], [e, f, g], [h, i, j], _, _, _ => simp [dotL, rowM, colM, mulM, List.range_succ]; grind
section
variable {srcs : List Int} {mat : List (List Int)} {d n : Nat} {c : Int} {x : List Int}
mutual
theorem mv_pth (S : ∀ c ∈ srcs, 0 ≤ c ∧ c < n) (h1 : 1 ≤ d) (h3 : d ≤ 3) (M : mat.length = d) (hr : ∀ r ∈ mat, r.length = d) (e : Tr) (b : 0 ≤ c ∧ c < srcs.length) (hx : x.length = d) : ∀ t : Tr, t.wf d n → pth (mvT srcs mat e t) c x = pth t (srcs.getD c.toNat 0) (mulM mat x) ++ pth e c x
  | .pl, _ => by simp [mvT, pth]
  | .key row hs t, w => by
    simp only [Tr.wf] at w
    have ih := mv_pth S h1 h3 M hr e b hx t w.2.2.2
    simp only [mvT, pth, List.cons_append]
    rw [dot_row h1 h3 M hr w.1 hx, mv_height b.1 b.2, ih]
  | .fork g, w => by
    simp only [Tr.wf] at w
    have hsr : 0 ≤ srcs.getD c.toNat 0 ∧ srcs.getD c.toNat 0 < n := by
      have hl : c.toNat < srcs.length := by omega
      rw [List.getD_eq_getElem?_getD, List.getElem?_eq_getElem hl]
      exact S _ (List.getElem_mem hl)
    obtain ⟨j, cs, t, p1, p2, p3, p4⟩ := only_group w.1 hsr.1 hsr.2
    have k1 : (mvG srcs mat e g).heads[j]? = some (movC srcs cs) := by
      rw [mvG_heads, List.getElem?_map, p1]
      rfl
    have k2 : (mvG srcs mat e g).trees[j]? = some (mvT srcs mat e t) := by
      rw [mvG_trees, List.getElem?_map, p2]
      rfl
    simp only [mvT, pth]
    rw [pthG_at 0 _ (mulM mat x) p1 p2 p3 (fun m cs' hm hh => p4 m cs' (by omega) hh), pthG_at 0 c x k1 k2 ((mem_movC b.1 b.2).mpr p3) (fun m cs' hm hh => ?_), mvG_pth S h1 h3 M hr e b hx g w.2 t (List.mem_of_getElem? p2)]
    · rfl
    · rw [mvG_heads, List.getElem?_map] at hh
      cases hg : g.heads[m]? with
      | none => rw [hg] at hh; cases hh
      | some cs0 =>
        rw [hg] at hh
        have ec : movC srcs cs0 = cs' := Option.some.inj hh
        rw [← ec]
        intro hc
        exact p4 m cs0 (by omega) hg ((mem_movC b.1 b.2).mp hc)
theorem mvG_pth (S : ∀ c ∈ srcs, 0 ≤ c ∧ c < n) (h1 : 1 ≤ d) (h3 : d ≤ 3) (M : mat.length = d) (hr : ∀ r ∈ mat, r.length = d) (e : Tr) (b : 0 ≤ c ∧ c < srcs.length) (hx : x.length = d) : ∀ g : Gs, g.wf d n → ∀ t ∈ g.trees, pth (mvT srcs mat e t) c x = pth t (srcs.getD c.toNat 0) (mulM mat x) ++ pth e c x
  | .nil, _, t, h => by simp [Gs.trees] at h
  | .cons cs u r, w, t, h => by
    simp only [Gs.wf] at w
    simp only [Gs.trees] at h
    rcases List.mem_cons.mp h with z | z
    · rw [z]
      exact mv_pth S h1 h3 M hr e b hx u w.2.1
    · exact mvG_pth S h1 h3 M hr e b hx r w.2.2 t z
end
end
mutual
theorem mvT_sizeE (srcs : List Int) (mat : List (List Int)) (e : Tr) (k : Nat) (hk : e.size = k + 1) : ∀ t : Tr, (mvT srcs mat e t).size = t.size + k * t.ends
  | .pl => by simp [mvT, Tr.size, Tr.ends, hk]; omega
  | .key _ _ t => by simp [mvT, Tr.size, Tr.ends, mvT_sizeE srcs mat e k hk t]; omega
  | .fork gs => by simp [mvT, Tr.size, Tr.ends, mvG_sizeE srcs mat e k hk gs]; omega
theorem mvG_sizeE (srcs : List Int) (mat : List (List Int)) (e : Tr) (k : Nat) (hk : e.size = k + 1) : ∀ g : Gs, (mvG srcs mat e g).size = g.size + k * g.ends
  | .nil => by simp [mvG, Gs.size, Gs.ends]
  | .cons _ t r => by
    simp only [mvG, Gs.size, Gs.ends]
    rw [mvT_sizeE srcs mat e k hk t, mvG_sizeE srcs mat e k hk r, Nat.mul_add]
    omega
end
mutual
theorem mvT_depE (srcs : List Int) (mat : List (List Int)) (e : Tr) (k : Nat) (hk : e.dep ≤ k + 1) : ∀ t : Tr, (mvT srcs mat e t).dep ≤ t.dep + k
  | .pl => by simp [mvT, Tr.dep]; omega
  | .key _ _ t => by
    have := mvT_depE srcs mat e k hk t
    simp only [mvT, Tr.dep]
    omega
  | .fork gs => by
    have := mvG_depE srcs mat e k hk gs
    simp only [mvT, Tr.dep]
    omega
theorem mvG_depE (srcs : List Int) (mat : List (List Int)) (e : Tr) (k : Nat) (hk : e.dep ≤ k + 1) : ∀ g : Gs, (mvG srcs mat e g).dep ≤ g.dep + k
  | .nil => by simp [mvG, Gs.dep]
  | .cons _ t r => by
    have h1 := mvT_depE srcs mat e k hk t
    have h2 := mvG_depE srcs mat e k hk r
    simp only [mvG, Gs.dep]
    omega
end
mutual
theorem mvT_endsE (srcs : List Int) (mat : List (List Int)) (e : Tr) : ∀ t : Tr, (mvT srcs mat e t).ends = t.ends * e.ends
  | .pl => by simp [mvT, Tr.ends]
  | .key _ _ t => by simp [mvT, Tr.ends, mvT_endsE srcs mat e t]
  | .fork gs => by simp [mvT, Tr.ends, mvG_endsE srcs mat e gs]
theorem mvG_endsE (srcs : List Int) (mat : List (List Int)) (e : Tr) : ∀ g : Gs, (mvG srcs mat e g).ends = g.ends * e.ends
  | .nil => by simp [mvG, Gs.ends]
  | .cons _ t r => by
    simp only [mvG, Gs.ends]
    rw [mvT_endsE srcs mat e t, mvG_endsE srcs mat e r, Nat.add_mul]
end
mutual
theorem mvT_wfE {srcs : List Int} {d n : Nat} {e : Tr} (S : Srcs srcs n) (h1 : 1 ≤ d) (h3 : d ≤ 3) (he : e.wf d srcs.length) : ∀ t : Tr, t.wf d n → (mvT srcs (idM d) e t).wf d srcs.length
  | .pl, _ => by simp only [mvT]; exact he
  | .key row hs t, w => by
    simp only [Tr.wf] at w
    simp only [mvT, Tr.wf]
    rw [row_id h1 h3 w.1]
    exact ⟨w.1, by rw [List.length_map], w.2.2.1, mvT_wfE S h1 h3 he t w.2.2.2⟩
  | .fork gs, w => by
    simp only [Tr.wf] at w
    simp only [mvT, Tr.wf]
    refine ⟨?_, mvG_wfE S h1 h3 he gs w.2 fun c hc => mem_rng.mp (w.1.mem_iff.mp hc)⟩
    rw [Gs.flat, mvG_heads]
    have nd : gs.heads.flatten.Nodup := by
      rw [← Gs.flat]
      exact w.1.nodup_iff.mpr (rng0_nodup n)
    refine (parts_perm (f := fun j => srcs.getD j.toNat 0) (rng0 srcs.length) gs.heads nd).trans ?_
    rw [List.filter_eq_self.mpr fun j hj => ?_]
    have hj' := mem_rng.mp hj
    have hs := S.at (j := j.toNat) (by omega)
    refine decide_eq_true ?_
    rw [← Gs.flat]
    exact w.1.mem_iff.mpr (mem_rng0 hs.1 hs.2)
theorem mvG_wfE {srcs : List Int} {d n : Nat} {e : Tr} (S : Srcs srcs n) (h1 : 1 ≤ d) (h3 : d ≤ 3) (he : e.wf d srcs.length) : ∀ g : Gs, g.wf d n → (∀ c ∈ g.classes, 0 ≤ c ∧ c < n) → (mvG srcs (idM d) e g).wf d srcs.length
  | .nil, _, _ => by simp [mvG, Gs.wf]
  | .cons cs t r, w, hc => by
    simp only [Gs.wf] at w
    simp only [mvG, Gs.wf]
    simp only [Gs.classes] at hc
    refine ⟨⟨fun e => ?_, ?_⟩, mvT_wfE S h1 h3 he t w.2.1, mvG_wfE S h1 h3 he r w.2.2 fun c h => hc c (List.mem_append_right _ h)⟩
    · obtain ⟨c, hcm⟩ := List.exists_mem_of_ne_nil cs w.1.1
      have hb := hc c (List.mem_append_left _ hcm)
      obtain ⟨j, hj, ej⟩ := S.all_ c hb.1 hb.2
      have : ((j : Nat) : Int) ∈ movC srcs cs := (mem_movC (by omega) (by omega)).mpr (by rw [Int.toNat_natCast, ej]; exact hcm)
      rw [e] at this
      cases this
    · unfold movC
      exact (rng0_lt _).filter _
end
/-! ### two paths part at a number, or are equal -/
section
variable {c1 c2 : Int} {x y : List Int} {d n : Nat}
def Apart (p q : List Int) : Prop := ∃ (u r s : List Int) (a b : Int), a ≠ b ∧ p = u ++ a :: r ∧ q = u ++ b :: s
theorem Apart.cons {p q : List Int} (z : Int) (h : Apart p q) : Apart (z :: p) (z :: q) := by
  obtain ⟨u, r, s, a, b, h1, h2, h3⟩ := h
  exact ⟨z :: u, r, s, a, b, h1, by rw [h2]; rfl, by rw [h3]; rfl⟩
mutual
theorem pth_apart (b1 : 0 ≤ c1 ∧ c1 < n) (b2 : 0 ≤ c2 ∧ c2 < n) : ∀ t : Tr, t.wf d n → pth t c1 x = pth t c2 y ∨ Apart (pth t c1 x) (pth t c2 y)
  | .pl, _ => .inl (by simp [pth])
  | .key row hs t, w => by
    simp only [Tr.wf] at w
    simp only [pth]
    by_cases e : dotL row x + hs.getD c1.toNat 0 = dotL row y + hs.getD c2.toNat 0
    · rw [e]
      rcases pth_apart b1 b2 t w.2.2.2 with h | h
      · exact .inl (by rw [h])
      · exact .inr (h.cons _)
    · exact .inr ⟨[], _, _, _, _, e, rfl, rfl⟩
  | .fork g, w => by
    simp only [Tr.wf] at w
    obtain ⟨j1, cs1, t1, p1, p2, p3, p4⟩ := only_group w.1 b1.1 b1.2
    obtain ⟨j2, cs2, t2, r1, r2, r3, r4⟩ := only_group w.1 b2.1 b2.2
    simp only [pth]
    rw [pthG_at 0 c1 x p1 p2 p3 (fun m cs' hm hh => p4 m cs' (by omega) hh), pthG_at 0 c2 y r1 r2 r3 (fun m cs' hm hh => r4 m cs' (by omega) hh)]
    by_cases z : j1 = j2
    · subst z
      have et : t1 = t2 := Option.some.inj (p2.symm.trans r2)
      subst et
      rcases pthG_apart b1 b2 g w.2 t1 (List.mem_of_getElem? p2) with h | h
      · exact .inl (by rw [h])
      · exact .inr (h.cons _)
    · exact .inr ⟨[], _, _, _, _, (by omega), rfl, rfl⟩
theorem pthG_apart (b1 : 0 ≤ c1 ∧ c1 < n) (b2 : 0 ≤ c2 ∧ c2 < n) : ∀ g : Gs, g.wf d n → ∀ t ∈ g.trees, pth t c1 x = pth t c2 y ∨ Apart (pth t c1 x) (pth t c2 y)
  | .nil, _, t, h => by simp [Gs.trees] at h
  | .cons cs u r, w, t, h => by
    simp only [Gs.wf] at w
    simp only [Gs.trees] at h
    rcases List.mem_cons.mp h with z | z
    · rw [z]
      exact pth_apart b1 b2 u w.2.1
    · exact pthG_apart b1 b2 r w.2.2 t z
end
end
theorem lx_apart : ∀ {u r s : List Int} {a b : Int}, a ≠ b → lx (u ++ a :: r) (u ++ b :: s) = decide (a < b)
  | [], r, s, a, b, h => by
    show (if a = b then lx r s else decide (a < b)) = _
    rw [if_neg h]
  | z :: u, r, s, a, b, h => by
    show (if z = z then lx (u ++ a :: r) (u ++ b :: s) else decide (z < z)) = _
    rw [if_pos rfl]
    exact lx_apart h
theorem lx_pre : ∀ (u r s : List Int), lx (u ++ r) (u ++ s) = lx r s
  | [], r, s => rfl
  | z :: u, r, s => by
    show (if z = z then lx (u ++ r) (u ++ s) else decide (z < z)) = _
    rw [if_pos rfl]
    exact lx_pre u r s
theorem lx_then {p q a b x y : List Int} (h : p = q ∨ Apart p q) : lx (p ++ a) (q ++ b) = if p = q then lx a b else lx (p ++ x) (q ++ y) := by
  rcases h with h | ⟨u, r, s, z, v, hne, rfl, rfl⟩
  · rw [if_pos h, h, lx_pre]
  · have ne : ¬ (u ++ z :: r = u ++ v :: s) := fun e => hne (List.cons.inj (List.append_cancel_left e)).1
    rw [if_neg ne, List.append_assoc, List.append_assoc, List.append_assoc, List.append_assoc]
    show lx (u ++ z :: (r ++ a)) (u ++ v :: (s ++ b)) = lx (u ++ z :: (r ++ x)) (u ++ v :: (s ++ y))
    rw [lx_apart hne, lx_apart hne]
theorem eq_then {p q a b : List Int} (h : p = q ∨ Apart p q) : (p ++ a = q ++ b) ↔ (p = q ∧ a = b) := by
  constructor
  · intro e
    rcases h with h | ⟨u, r, s, z, v, hne, rfl, rfl⟩
    · subst h
      exact ⟨rfl, List.append_cancel_left e⟩
    · rw [List.append_assoc, List.append_assoc] at e
      exact absurd (List.cons.inj (List.append_cancel_left e)).1 hne
  · rintro ⟨rfl, rfl⟩
    rfl
/-! ### one scan, then another -/
/-- the tree of `then` -/
def thT (ds es nds : List Int) (n' : Nat) (t u : Tr) : Tr := rfT ds nds n' (rfT es nds n' .pl u) t
section
variable {ds es : List Int} {n m n' : Nat} {t u : Tr}
theorem th_full (O : ScanOk ds n t) (O2 : ScanOk es m u) (hl : ds.length = es.length) (D' : Divs (comD ds es)) (hn' : prodL (comD ds es) = (n' : Int)) {x : List Int} (hx : x.length = ds.length) :
    pth (thT ds es (comD ds es) n' t u) (cls (comD ds es) x) x = pth t (cls ds x) x ++ pth u (cls es x) x := by
  obtain ⟨M1, M2⟩ := com_mul hl O.dv.one O2.dv.one
  have c1 := cls_in D' hn' (z := x) (by rw [com_len hl, hx])
  have S1 := ref_srcs O.dv O.pr D' hn' M1 O.l1 O.l3
  have S2 := ref_srcs O2.dv O2.pr D' hn' M2 O2.l1 O2.l3
  have im := idM_mat O.l1 O.l3
  have im2 := idM_mat O2.l1 O2.l3
  have e1 := mv_pth (mat := idM ds.length) S1.ran O.l1 O.l3 im.ln (fun r h => (im.rw_ r h).1) (rfT es (comD ds es) n' .pl u) (by rw [srcM_len]; exact c1) hx t O.wf
  have e2 := mv_pth (mat := idM es.length) S2.ran O2.l1 O2.l3 im2.ln (fun r h => (im2.rw_ r h).1) .pl (by rw [srcM_len]; exact c1) (x := x) (by omega) u O2.wf
  rw [ref_src D' hn' M1 O.l1 O.l3 hx, mul_id O.l1 O.l3 hx] at e1
  rw [ref_src D' hn' M2 O2.l1 O2.l3 (by omega), mul_id O2.l1 O2.l3 (by omega)] at e2
  have e3 : pth Tr.pl (cls (comD ds es) x) x = [] := by simp [pth]
  rw [e3, List.append_nil] at e2
  show pth (mvT _ _ (rfT es (comD ds es) n' .pl u) t) _ x = _
  rw [e1]
  show _ ++ pth (mvT _ _ .pl u) _ x = _
  rw [e2]
theorem th_apart (O : ScanOk ds n t) {x y : List Int} (hx : x.length = ds.length) (hy : y.length = ds.length) : pth t (cls ds x) x = pth t (cls ds y) y ∨ Apart (pth t (cls ds x) x) (pth t (cls ds y) y) :=
  pth_apart (cls_in O.dv O.pr hx.symm) (cls_in O.dv O.pr hy.symm) t O.wf
theorem th_lt (O : ScanOk ds n t) (O2 : ScanOk es m u) (hl : ds.length = es.length) (D' : Divs (comD ds es)) (hn' : prodL (comD ds es) = (n' : Int)) {x y : List Int} (hx : x.length = ds.length) (hy : y.length = ds.length) :
    lx (full (comD ds es) (thT ds es (comD ds es) n' t u) x) (full (comD ds es) (thT ds es (comD ds es) n' t u) y) = if pth t (cls ds x) x = pth t (cls ds y) y then lx (full es u x) (full es u y) else lx (full ds t x) (full ds t y) := by
  unfold full
  rw [th_full O O2 hl D' hn' hx, th_full O O2 hl D' hn' hy, List.append_assoc, List.append_assoc]
  exact lx_then (th_apart O hx hy)
theorem th_tied (O : ScanOk ds n t) (O2 : ScanOk es m u) (hl : ds.length = es.length) (D' : Divs (comD ds es)) (hn' : prodL (comD ds es) = (n' : Int)) {x y : List Int} (hx : x.length = ds.length) (hy : y.length = ds.length) :
    (pth (thT ds es (comD ds es) n' t u) (cls (comD ds es) x) x = pth (thT ds es (comD ds es) n' t u) (cls (comD ds es) y) y) ↔ (pth t (cls ds x) x = pth t (cls ds y) y ∧ pth u (cls es x) x = pth u (cls es y) y) := by
  rw [th_full O O2 hl D' hn' hx, th_full O O2 hl D' hn' hy]
  exact eq_then (th_apart O hx hy)
theorem th_size (nds : List Int) : (thT ds es nds n' t u).size = t.size + (u.size - 1) * t.ends := by
  unfold thT rfT
  refine mvT_sizeE _ _ _ _ ?_ t
  rw [mvT_size]
  have := Tr.size_pos u
  omega
theorem th_dep (nds : List Int) : (thT ds es nds n' t u).dep + 1 ≤ t.dep + u.dep := by
  have h := (Tr.deep u).2
  have := mvT_depE (srcM ds (idM ds.length) (zer ds.length) nds n') (idM ds.length) (rfT es nds n' .pl u) (u.dep - 1) (by unfold rfT; rw [mvT_dep]; omega) t
  unfold thT
  show (mvT _ _ (rfT es nds n' .pl u) t).dep + 1 ≤ _
  omega
theorem th_wf (O : ScanOk ds n t) (O2 : ScanOk es m u) (hl : ds.length = es.length) (D' : Divs (comD ds es)) (hn' : prodL (comD ds es) = (n' : Int)) : (thT ds es (comD ds es) n' t u).wf (comD ds es).length n' := by
  obtain ⟨M1, M2⟩ := com_mul hl O.dv.one O2.dv.one
  have S1 := ref_srcs O.dv O.pr D' hn' M1 O.l1 O.l3
  have w2 := (ref_ok O2 D' hn' M2).wf
  rw [com_len hl] at w2 ⊢
  have := mvT_wfE (e := rfT es (comD ds es) n' .pl u) S1 O.l1 O.l3 (by rw [srcM_len]; exact w2) t O.wf
  rw [srcM_len] at this
  exact this
end
end Lk

namespace Lk
open PySem L2 Lx LamX LrA LqA
/-! ### Scan.then -/
theorem kUL : KScope ["self"] (defScope sUL) := ⟨rfl, rfl, rfl, by decide +kernel, by decide +kernel, by decide +kernel, by decide +kernel⟩
def TgK (tg : Str) (C : Addr) (H : Hp) (E : XK) : Prop := ∀ (d : Addr) (H' : Hp), (∀ b u, H b = some u → H' b = some u) → H' d = some (.xd [("tag", .str tg)]) → E (.ref C) (some d) H'
def TmK (C : Addr) (H : Hp) (E : XK) : Prop := ∀ (d : Addr) (H' : Hp), (∀ b u, H b = some u → H' b = some u) → H' d = some (.xd (xflds "limit" (.int 12) "TooManyClasses")) → E (.ref C) (some d) H'
def spThen (K : PySem.W.Frag) (C : Addr) : Sp := fun vs H Q _ => ∃ (p q : Addr) (ds es : List Int) (n m n' : Nat) (t u : Tr), vs = [.ref p, .ref q] ∧ ScanAt K C H p ds n t ∧ ScanAt K C H q es m u ∧ ds.length = es.length ∧ Divs (comD ds es) ∧ prodL (comD ds es) = (n' : Int) ∧
  (thT ds es (comD ds es) n' t u).size ≤ 200 ∧ (thT ds es (comD ds es) n' t u).dep ≤ 20 ∧ ∀ (H' : Hp) (r : Addr), Same H H' → ScanAt K C H' r (comD ds es) n' (thT ds es (comD ds es) n' t u) → Q (.ref r) H'
def spThenX (K : PySem.W.Frag) (C CE : Addr) : Sp := fun vs H _ E => ∃ (p q : Addr) (ds es : List Int) (n m n' : Nat) (t u : Tr), vs = [.ref p, .ref q] ∧ ScanAt K C H p ds n t ∧ ScanAt K C H q es m u ∧ ds.length = es.length ∧ Divs (comD ds es) ∧ prodL (comD ds es) = (n' : Int) ∧
  (thT ds es (comD ds es) n' t u).size ≤ 900 ∧ (thT ds es (comD ds es) n' t u).toD.depth ≤ 60 ∧ (200 < (thT ds es (comD ds es) n' t u).size ∨ 20 < (thT ds es (comD ds es) n' t u).dep) ∧ ItK CE H E
def spThenM (K : PySem.W.Frag) (C C2 : Addr) : Sp := fun vs H _ E => ∃ (p q : Addr) (ds es : List Int) (n m : Nat) (t u : Tr), vs = [.ref p, .ref q] ∧ ScanAt K C H p ds n t ∧ ScanAt K C H q es m u ∧ ds.length = es.length ∧ 12 < prodL (comD ds es) ∧ TmK C2 H E
def spThenU (K : PySem.W.Frag) (C CU : Addr) : Sp := fun vs H _ E => ∃ (p q : Addr) (ds es : List Int) (n m : Nat) (t u : Tr), vs = [.ref p, .ref q] ∧ ScanAt K C H p ds n t ∧ ScanAt K C H q es m u ∧ ds.length ≠ es.length ∧ TgK "Unlike" CU H E
def spInitM (K : PySem.W.Frag) (C C2 : Addr) : Sp := fun vs H _ E => ∃ (p dx a : Addr) (v : V) (ds : List Int), vs = [.ref p, .ref a, v] ∧ H p = some (.ins C dx []) ∧ SqT K H a (ds.map V.int) ∧ 1 ≤ ds.length ∧ ds.length ≤ 3 ∧ (∀ z ∈ ds, 1 ≤ z ∧ z < 2 ^ 64) ∧ 12 < prodL ds ∧ TmK C2 H E
theorem le_prod : ∀ {l : List Int}, (∀ z ∈ l, 1 ≤ z) → ∀ {z : Int}, z ∈ l → z ≤ prodL l
  | [], _, z, h => by cases h
  | a :: r, h, z, hz => by
    have ha := h a List.mem_cons_self
    have hr : ∀ z ∈ r, 1 ≤ z := fun z h' => h z (List.mem_cons_of_mem _ h')
    have pr := prodL_pos hr
    show z ≤ a * prodL r
    rcases List.mem_cons.mp hz with e | e
    · subst e
      have : z * 1 ≤ z * prodL r := Int.mul_le_mul_of_nonneg_left pr (by omega)
      omega
    · have h1 := le_prod hr e
      have : 1 * prodL r ≤ a * prodL r := Int.mul_le_mul_of_nonneg_right ha (by omega)
      omega
theorem itsI_ints (ds : List Int) : itsI (some (ds.map V.int)) = ds := by
  show (ds.map V.int).map uI = ds
  rw [List.map_map]
  exact List.map_id'' (fun _ => rfl) ds
theorem dvE_two {ds : List Int} (l1 : 1 ≤ ds.length) (l3 : ds.length ≤ 3) (h1 : ∀ z ∈ ds, 1 ≤ z) (h : 12 < prodL ds) : dvE (some (ds.map V.int)) = 2 := by
  have hs : sdB (some (ds.map V.int)) 1 = true := by
    rw [sdB_some, List.length_map, decide_eq_true l1, decide_eq_true l3]
    have a1 : (ds.map V.int).all isI = true := List.all_eq_true.mpr fun x hx => by
      obtain ⟨z, _, rfl⟩ := List.mem_map.mp hx
      rfl
    have a2 : ((ds.map V.int).all fun x => decide (1 ≤ uI x)) = true := List.all_eq_true.mpr fun x hx => by
      obtain ⟨z, hz, rfl⟩ := List.mem_map.mp hx
      exact decide_eq_true (h1 z hz)
    rw [a1, a2]
    rfl
  unfold dvE
  rw [if_pos hs, itsI_ints, if_pos h]
theorem od_ints {K : PySem.W.Frag} {H : Hp} {a : Addr} {ds : List Int} (h : SqT K H a (ds.map V.int)) (l3 : ds.length ≤ 3) : OD K H (.ref a) (some (ds.map V.int)) := by
  refine ⟨a, rfl, h, by rw [List.length_map]; omega, fun x hx => .inl ?_⟩
  obtain ⟨z, _, rfl⟩ := List.mem_map.mp hx
  rfl
section
variable {P : Program} {w : World} {K : PySem.W.Frag} {mg : Str → Option Value} {base : Heap}
theorem ok_ul {C D f cc cda fS : Addr} {fd fdS : FuncData} {k : Nat} (F : InitF P K mg "Unlike.__init__" sUL C f cc cda fd) (T : ErrC K C D fS)
    (GS : FnOk P w K mg base CX0 (k + 1) fS fdS ["self", "tag", "why"] (spSE K D)) (bS : Binds K fdS ["self", "tag", "why"] []) : FnOk P w K mg base CX0 (k + 2) f fd ["self"] (spE0 K C "Unlike") := by
  obtain ⟨oc, od, kV, doc, pm, an, ct, osl, rfl, lk⟩ := F.ex
  obtain ⟨cl, cld, csl, ll⟩ := F.ll
  refine fn_ofK (N := ["self"]) lk F.cd ll kUL (fun vs H Q E h => ?_) (fun A outer s s1 H vs Q E hr h I => ?_)
  · obtain ⟨a, rfl, _⟩ := h
    rfl
  · obtain ⟨a, rfl, ea, q⟩ := h
    have S : SupF (cxK CX0 P w K mg base ["self"] "Unlike.__init__" (defScope sUL) f (.ref cda) cc A outer s H E) f cc cda C :=
      ⟨rfl, rfl, rfl, rfl, rfl, rfl, rfl, ⟨_, _, _, _, _, lk, rfl, rfl⟩, F.lc, F.ll, F.lD, F.ms, F.tp, F.op⟩
    refine ks_wpAt_execs_cons ?_
    refine sup_initF (X := cxK CX0 P w K mg base ["self"] "Unlike.__init__" (defScope sUL) f (.ref cda) cc A outer s H E) S I rfl ea T.s1 T.m1 T.tS T.fS GS hr bS pass0 (pa_cons pe_str (pa_cons pe_str pa_nil)) (R := fun H1 => ∃ dx, H dx = none ∧ dx ≠ a ∧ H1 = upd (upd H dx (exd dx [("tag", .str "Unlike")])) a (exo a C (some dx)))
      ⟨a, C, _, _, rfl, T.ox, ea, T.s2, T.m2, T.ve, T.nt, fun dx n ne => ⟨dx, n, ne, rfl⟩⟩ (fun H1 s2 I2 e => ?_) rfl rfl rfl _ rfl rfl
    obtain ⟨dx, n, ne, rfl⟩ := e
    exact wpAt_of_wpAny ((pss_nil (X := cxK CX0 P w K mg base ["self"] "Unlike.__init__" (defScope sUL) f (.ref cda) cc A outer s H E)).run [] s2 _ _ _ I2 (q dx n ne))
theorem ok_initM {f fC C C1 C2 : Addr} {fd fdC : FuncData} {dvs : List V} {k : Nat} (F : FunD K "__init__" "Scan.__init__" (defArgs sInit) (defBody sInit) (defScope sInit) dvs [] f fd)
    (GC : FnOk P w K mg base (L2.CX P w) (k + 5) fC fdC ["divisors"] (spDivX K C1 C2)) (kC : PySem.W.keepIn K (.ref fC) = true) (bC : Binds K fdC ["divisors"] []) (gC : mg "class_count" = some (.ref fC)) :
    FnOk P w K mg base (L2.CX P w) (k + 8) f fd ["self", "divisors", "tree"] (spInitM K C C2) := by
  refine F.ok (CX := L2.CX P w) scInit (fun vs H Q E h => ?_) (fun cdv A outer s H vs Q E hr h => ?_)
  · obtain ⟨p, dx, a, v, ds, rfl, _⟩ := h
    rfl
  · obtain ⟨p, dx, a, v, ds, rfl, hp, hA, l1, l3, hz, h12, q⟩ := h
    have hr5 : Room (k + 5) _ := hr.mono (by omega)
    have e2 := dvE_two l1 l3 (fun z h => (hz z h).1) h12
    refine ⟨_, pss_cons (ps_fld (pv 0) (pe_call GC hr5 (by rfl) gC kC bC .nil (passes_call (E := E) (takes_of rfl rfl rfl rfl) (fun _ _ _ _ h => h)) (pa_cons (pv 1) pa_nil)) rfl) pss_never, ?_⟩
    refine ⟨_, rfl, .ref a, some (ds.map V.int), rfl, od_ints hA l3, ?_, by rw [e2]; decide, fun d H' x => ⟨fun z => ?_, fun _ hd => q d H' x hd⟩⟩
    · rw [itsI_ints]
      exact fun z h => by have := hz z h; omega
    · rw [e2] at z
      exact absurd z (by decide)
theorem ok_then {f fC fR fG C pA : Addr} {fd fdC fdR fdG : FuncData} {k : Nat} (F : Fun K "then" "Scan.then" sThen f fd) (T : Txt K mg C) (ml : mg "len" = none) (mP : mg "PLACES" = some (.ref pA)) (hP : ∀ H, SqT K H pA [V.str "places"])
    (GC : FnOk P w K mg base CX0 (k + 3) fC fdC ["one", "other"] (spCom K)) (kC : PySem.W.keepIn K (.ref fC) = true) (bC : Binds K fdC ["one", "other"] []) (gC : mg "common_divisors" = some (.ref fC))
    (GR : FnOk P w K mg base CX0 (k + 25) fR fdR ["self", "divisors", "ends"] (spRefTB K C)) (bR : Binds K fdR ["self", "divisors", "ends"] []) (mR : Meth K C "refined_tree" fR)
    (GG : FnOk P w K mg base CX0 (k + 8) fG fdG ["self", "divisors", "tree"] (spInit K C)) (bG : Binds K fdG ["self", "divisors", "tree"] []) (MI : Mk K C fG) :
    FnOk P w K mg base CX0 (k + 26) f fd ["self", "other"] (spThen K C) := by
  refine F.ok scThen (fun vs H Q E h => ?_) (fun cdv A outer s H vs Q E hr h => ?_)
  · obtain ⟨p, q, ds, es, n, m, n', t, u, rfl, _⟩ := h
    rfl
  · obtain ⟨p, q, ds, es, n, m, n', t, u, rfl, S1, S2, hl, D', hn', sz', dp', r⟩ := h
    have hr3 : Room (k + 3) _ := hr.mono (by omega)
    have hr9 : Room (k + 8 + 1) _ := hr.mono (by omega)
    refine ⟨_, pss_cons (ps_if (pt_cmpR op_ne (pe_callB call_len_seq (by rfl) ml PySem.boot_len (pa_cons (pe_fld (pv 0) rfl) pa_nil)) (pe_callB call_len_seq (by rfl) ml PySem.boot_len (pa_cons (pe_fld (pv 1) rfl) pa_nil)) (nomark _)) pss_never pss_nil)
      (pss_cons (ps_set (i := 2) scThen.nd rfl (.inl rfl) (pe_call GC hr3 (by rfl) gC kC bC .nil pass0 (pa_cons (pe_fld (pv 0) rfl) (pa_cons (pe_fld (pv 1) rfl) pa_nil))))
      (pss_cons (ps_set (i := 3) scThen.nd rfl (.inl rfl) (pe_meth (pv 1) T.cl mR GR hr bR .nil pass0 (pa_cons (pv 2) (pa_cons (pe_glob (v := .ref pA) (by rfl) mP rfl) pa_nil))))
      (pss_one (ps_ret (pe_make MI GG hr9 (by rfl) T.mgC bG .nil pass0 (pa_cons (pv 2) (pa_cons (pe_meth (pv 0) T.cl mR GR hr bR .nil pass0 (pa_cons (pv 2) (pa_cons (pv 3) pa_nil))) pa_nil))))))), ?_⟩
    obtain ⟨⟨dx, da, tv, h1, h2, h3⟩, hD, l1, l3, hn, hw, hdp, hz⟩ := id S1
    obtain ⟨⟨dy, ea, uv, g1, g2, g3⟩, gD, k1, k3, gn, gw, gdp, gz⟩ := id S2
    refine ⟨_, rfl, p, C, dx, _, _, rfl, h1, T.cl, T.n3, sf_div _ _ _ _, da, _, rfl, .inr h2, _, rfl, q, C, dy, _, _, rfl, g1, T.cl, T.n3, sf_div _ _ _ _, ea, _, rfl, .inr g2, rfl, false, ?_, iteF ?_⟩
    · refine congrArg V.bl ?_
      rw [List.length_map, List.length_map, hl, decide_eq_true rfl]
      rfl
    have bd : ∀ z ∈ ds, 1 ≤ z ∧ z < 2 ^ 30 := fun z hz => ⟨hD.one z hz, by have := le_prod hD.one hz; have := hD.most; omega⟩
    have be : ∀ z ∈ es, 1 ≤ z ∧ z < 2 ^ 30 := fun z hz => ⟨gD.one z hz, by have := le_prod gD.one hz; have := gD.most; omega⟩
    have c1 := com_one hD.one gD.one
    have cp : prodL (comD ds es) ≤ 144 := by
      have h4 := com_prod hD.one gD.one hl
      have h5 : prodL ds * prodL es ≤ 12 * 12 := Int.mul_le_mul hD.most gD.most (by have := prodL_pos gD.one; omega) (by decide)
      omega
    have cb : ∀ z ∈ comD ds es, 1 ≤ z ∧ z < 2 ^ 30 := fun z hz => ⟨c1 z hz, by have := le_prod c1 hz; omega⟩
    have cl := com_len hl
    have p0 := prodL_pos c1
    refine ⟨_, rfl, p, C, dx, _, _, rfl, h1, T.cl, T.n3, sf_div _ _ _ _, _, rfl, q, C, dy, _, _, rfl, g1, T.cl, T.n3, sf_div _ _ _ _, da, ea, ds, es, rfl, h2, g2, hl, l3, bd, be, fun H1 c s1 nc hc => ?_⟩
    have hc1 : SqT K H1 c ((comD ds es).map V.int) := SqT.of hc
    refine ⟨_, rfl, q, dy, _, rfl, s1 _ _ g1, sf_no _ _ _ _ _ (by decide +kernel), _, rfl, q, c, .ref pA, es, m, u, .pl, comD ds es, n', rfl, S2.same s1, hc1, ?_, cb, by omega, by omega, hn', fun H2 ev s2 hev => ?_⟩
    · simp only [TrAt]
      exact ⟨pA, rfl, hP _⟩
    have s12 := s1.trans s2
    refine ⟨_, rfl, _, rfl, p, dx, _, rfl, s12 _ _ h1, sf_no _ _ _ _ _ (by decide +kernel), _, rfl, _, rfl, p, c, ev, ds, n, t, rfT es (comD ds es) n' .pl u, comD ds es, n', rfl, S1.same s12, Same.sqT s2 hc1, hev, cb, by omega, cl, hn', fun H3 v3 s3 hv3 => ?_⟩
    have s13 := s12.trans s3
    refine fun x dx' nx ndx nex => ?_
    have s5 := made_same (C := C) nx ndx
    have hc3 := Same.sqT (s2.trans s3) hc1
    refine ⟨x, dx', c, v3, comD ds es, n', thT ds es (comD ds es) n' t u, rfl, upd_same, Same.sqT s5 hc3, TrAt.mono (Same.tups s5) hv3, D', by omega, by omega, hn', th_wf ⟨hD, l1, l3, hn, hw, hdp, hz⟩ ⟨gD, k1, k3, gn, gw, gdp, gz⟩ hl D' hn', sz', dp', fun H6 S6 k6 => ⟨rfl, ?_⟩⟩
    exact r H6 x (s13.trans (L2.Same.made nx ndx k6)) S6
theorem ok_thenX {f fC fR fG C pA CE : Addr} {fd fdC fdR fdG : FuncData} {k : Nat} (F : Fun K "then" "Scan.then" sThen f fd) (T : Txt K mg C) (ml : mg "len" = none) (mP : mg "PLACES" = some (.ref pA)) (hP : ∀ H, SqT K H pA [V.str "places"])
    (GC : FnOk P w K mg base CX0 (k + 3) fC fdC ["one", "other"] (spCom K)) (kC : PySem.W.keepIn K (.ref fC) = true) (bC : Binds K fdC ["one", "other"] []) (gC : mg "common_divisors" = some (.ref fC))
    (GR : FnOk P w K mg base CX0 (k + 25) fR fdR ["self", "divisors", "ends"] (spRefTB K C)) (bR : Binds K fdR ["self", "divisors", "ends"] []) (mR : Meth K C "refined_tree" fR)
    (GG : FnOk P w K mg base (L2.CX P w) (k + 8) fG fdG ["self", "divisors", "tree"] (spInitX K C CE)) (bG : Binds K fdG ["self", "divisors", "tree"] []) (MI : Mk K C fG) :
    FnOk P w K mg base (L2.CX P w) (k + 26) f fd ["self", "other"] (spThenX K C CE) := by
  refine F.okX scThen (fun vs H Q E h => ?_) (fun cdv A outer s H vs Q E hr h => ?_)
  · obtain ⟨p, q, ds, es, n, m, n', t, u, rfl, _⟩ := h
    rfl
  · obtain ⟨p, q, ds, es, n, m, n', t, u, rfl, S1, S2, hl, D', hn', sz', sh', bad, r⟩ := h
    have hr3 : Room (k + 3) _ := hr.mono (by omega)
    have hr9 : Room (k + 8 + 1) _ := hr.mono (by omega)
    refine ⟨_, pss_cons (ps_if (pt_cmpR op_ne (pe_callB call_len_seq (by rfl) ml PySem.boot_len (pa_cons (pe_fld (pv 0) rfl) pa_nil)) (pe_callB call_len_seq (by rfl) ml PySem.boot_len (pa_cons (pe_fld (pv 1) rfl) pa_nil)) (nomark _)) pss_never pss_nil)
      (pss_cons (ps_set (i := 2) scThen.nd rfl (.inl rfl) (pe_call GC hr3 (by rfl) gC kC bC .nil pass0 (pa_cons (pe_fld (pv 0) rfl) (pa_cons (pe_fld (pv 1) rfl) pa_nil))))
      (pss_cons (ps_set (i := 3) scThen.nd rfl (.inl rfl) (pe_meth (pv 1) T.cl mR GR hr bR .nil pass0 (pa_cons (pv 2) (pa_cons (pe_glob (v := .ref pA) (by rfl) mP rfl) pa_nil))))
      (pss_one (ps_ret (pe_make MI GG hr9 (by rfl) T.mgC bG .nil (passes_call (E := E) (takes_of rfl rfl rfl rfl) (fun _ _ _ _ h => h)) (pa_cons (pv 2) (pa_cons (pe_meth (pv 0) T.cl mR GR hr bR .nil pass0 (pa_cons (pv 2) (pa_cons (pv 3) pa_nil))) pa_nil))))))), ?_⟩
    obtain ⟨⟨dx, da, tv, h1, h2, h3⟩, hD, l1, l3, hn, hw, hdp, hz⟩ := id S1
    obtain ⟨⟨dy, ea, uv, g1, g2, g3⟩, gD, k1, k3, gn, gw, gdp, gz⟩ := id S2
    refine ⟨_, rfl, p, C, dx, _, _, rfl, h1, T.cl, T.n3, sf_div _ _ _ _, da, _, rfl, .inr h2, _, rfl, q, C, dy, _, _, rfl, g1, T.cl, T.n3, sf_div _ _ _ _, ea, _, rfl, .inr g2, rfl, false, ?_, iteF ?_⟩
    · refine congrArg V.bl ?_
      rw [List.length_map, List.length_map, hl, decide_eq_true rfl]
      rfl
    have bd : ∀ z ∈ ds, 1 ≤ z ∧ z < 2 ^ 30 := fun z hz => ⟨hD.one z hz, by have := le_prod hD.one hz; have := hD.most; omega⟩
    have be : ∀ z ∈ es, 1 ≤ z ∧ z < 2 ^ 30 := fun z hz => ⟨gD.one z hz, by have := le_prod gD.one hz; have := gD.most; omega⟩
    have c1 := com_one hD.one gD.one
    have cp : prodL (comD ds es) ≤ 144 := by
      have h4 := com_prod hD.one gD.one hl
      have h5 : prodL ds * prodL es ≤ 12 * 12 := Int.mul_le_mul hD.most gD.most (by have := prodL_pos gD.one; omega) (by decide)
      omega
    have cb : ∀ z ∈ comD ds es, 1 ≤ z ∧ z < 2 ^ 30 := fun z hz => ⟨c1 z hz, by have := le_prod c1 hz; omega⟩
    have cl := com_len hl
    have p0 := prodL_pos c1
    refine ⟨_, rfl, p, C, dx, _, _, rfl, h1, T.cl, T.n3, sf_div _ _ _ _, _, rfl, q, C, dy, _, _, rfl, g1, T.cl, T.n3, sf_div _ _ _ _, da, ea, ds, es, rfl, h2, g2, hl, l3, bd, be, fun H1 c s1 nc hc => ?_⟩
    have hc1 : SqT K H1 c ((comD ds es).map V.int) := SqT.of hc
    refine ⟨_, rfl, q, dy, _, rfl, s1 _ _ g1, sf_no _ _ _ _ _ (by decide +kernel), _, rfl, q, c, .ref pA, es, m, u, .pl, comD ds es, n', rfl, S2.same s1, hc1, ?_, cb, by omega, by omega, hn', fun H2 ev s2 hev => ?_⟩
    · simp only [TrAt]
      exact ⟨pA, rfl, hP _⟩
    have s12 := s1.trans s2
    refine ⟨_, rfl, _, rfl, p, dx, _, rfl, s12 _ _ h1, sf_no _ _ _ _ _ (by decide +kernel), _, rfl, _, rfl, p, c, ev, ds, n, t, rfT es (comD ds es) n' .pl u, comD ds es, n', rfl, S1.same s12, Same.sqT s2 hc1, hev, cb, by omega, cl, hn', fun H3 v3 s3 hv3 => ?_⟩
    have s13 := s12.trans s3
    refine fun x dx' nx ndx nex => ?_
    have s5 := made_same (C := C) nx ndx
    have hc3 := Same.sqT (s2.trans s3) hc1
    refine ⟨x, dx', c, v3, comD ds es, n', thT ds es (comD ds es) n' t u, rfl, upd_same, Same.sqT s5 hc3, TrAt.mono (Same.tups s5) hv3, D', by omega, by omega, hn', th_wf ⟨hD, l1, l3, hn, hw, hdp, hz⟩ ⟨gD, k1, k3, gn, gw, gdp, gz⟩ hl D' hn', sz', sh', bad, fun d H' y hd => r d H' (fun b o e => y b o (s5 _ _ (s13 _ _ e)) ?_) hd⟩
    exact ne_of_none (s13 _ _ e) nx
theorem ok_thenM {f fC fR fG C pA C2 : Addr} {fd fdC fdR fdG : FuncData} {k : Nat} (F : Fun K "then" "Scan.then" sThen f fd) (T : Txt K mg C) (ml : mg "len" = none) (mP : mg "PLACES" = some (.ref pA)) (hP : ∀ H, SqT K H pA [V.str "places"])
    (GC : FnOk P w K mg base CX0 (k + 3) fC fdC ["one", "other"] (spCom K)) (kC : PySem.W.keepIn K (.ref fC) = true) (bC : Binds K fdC ["one", "other"] []) (gC : mg "common_divisors" = some (.ref fC))
    (GR : FnOk P w K mg base CX0 (k + 25) fR fdR ["self", "divisors", "ends"] (spRefTB K C)) (bR : Binds K fdR ["self", "divisors", "ends"] []) (mR : Meth K C "refined_tree" fR)
    (GG : FnOk P w K mg base (L2.CX P w) (k + 8) fG fdG ["self", "divisors", "tree"] (spInitM K C C2)) (bG : Binds K fdG ["self", "divisors", "tree"] []) (MI : Mk K C fG) :
    FnOk P w K mg base (L2.CX P w) (k + 26) f fd ["self", "other"] (spThenM K C C2) := by
  refine F.okX scThen (fun vs H Q E h => ?_) (fun cdv A outer s H vs Q E hr h => ?_)
  · obtain ⟨p, q, ds, es, n, m, t, u, rfl, _⟩ := h
    rfl
  · obtain ⟨p, q, ds, es, n, m, t, u, rfl, S1, S2, hl, h12, r⟩ := h
    have hr3 : Room (k + 3) _ := hr.mono (by omega)
    have hr9 : Room (k + 8 + 1) _ := hr.mono (by omega)
    refine ⟨_, pss_cons (ps_if (pt_cmpR op_ne (pe_callB call_len_seq (by rfl) ml PySem.boot_len (pa_cons (pe_fld (pv 0) rfl) pa_nil)) (pe_callB call_len_seq (by rfl) ml PySem.boot_len (pa_cons (pe_fld (pv 1) rfl) pa_nil)) (nomark _)) pss_never pss_nil)
      (pss_cons (ps_set (i := 2) scThen.nd rfl (.inl rfl) (pe_call GC hr3 (by rfl) gC kC bC .nil pass0 (pa_cons (pe_fld (pv 0) rfl) (pa_cons (pe_fld (pv 1) rfl) pa_nil))))
      (pss_cons (ps_set (i := 3) scThen.nd rfl (.inl rfl) (pe_meth (pv 1) T.cl mR GR hr bR .nil pass0 (pa_cons (pv 2) (pa_cons (pe_glob (v := .ref pA) (by rfl) mP rfl) pa_nil))))
      (pss_one (ps_ret (pe_make MI GG hr9 (by rfl) T.mgC bG .nil (passes_call (E := E) (takes_of rfl rfl rfl rfl) (fun _ _ _ _ h => h)) (pa_cons (pv 2) (pa_cons (pe_meth (pv 0) T.cl mR GR hr bR .nil pass0 (pa_cons (pv 2) (pa_cons (pv 3) pa_nil))) pa_nil))))))), ?_⟩
    obtain ⟨⟨dx, da, tv, h1, h2, h3⟩, hD, l1, l3, hn, hw, hdp, hz⟩ := id S1
    obtain ⟨⟨dy, ea, uv, g1, g2, g3⟩, gD, k1, k3, gn, gw, gdp, gz⟩ := id S2
    refine ⟨_, rfl, p, C, dx, _, _, rfl, h1, T.cl, T.n3, sf_div _ _ _ _, da, _, rfl, .inr h2, _, rfl, q, C, dy, _, _, rfl, g1, T.cl, T.n3, sf_div _ _ _ _, ea, _, rfl, .inr g2, rfl, false, ?_, iteF ?_⟩
    · refine congrArg V.bl ?_
      rw [List.length_map, List.length_map, hl, decide_eq_true rfl]
      rfl
    have bd : ∀ z ∈ ds, 1 ≤ z ∧ z < 2 ^ 30 := fun z hz => ⟨hD.one z hz, by have := le_prod hD.one hz; have := hD.most; omega⟩
    have be : ∀ z ∈ es, 1 ≤ z ∧ z < 2 ^ 30 := fun z hz => ⟨gD.one z hz, by have := le_prod gD.one hz; have := gD.most; omega⟩
    have c1 := com_one hD.one gD.one
    have cp : prodL (comD ds es) ≤ 144 := by
      have h4 := com_prod hD.one gD.one hl
      have h5 : prodL ds * prodL es ≤ 12 * 12 := Int.mul_le_mul hD.most gD.most (by have := prodL_pos gD.one; omega) (by decide)
      omega
    have cb : ∀ z ∈ comD ds es, 1 ≤ z ∧ z < 2 ^ 30 := fun z hz => ⟨c1 z hz, by have := le_prod c1 hz; omega⟩
    have cl := com_len hl
    have p0 := prodL_pos c1
    refine ⟨_, rfl, p, C, dx, _, _, rfl, h1, T.cl, T.n3, sf_div _ _ _ _, _, rfl, q, C, dy, _, _, rfl, g1, T.cl, T.n3, sf_div _ _ _ _, da, ea, ds, es, rfl, h2, g2, hl, l3, bd, be, fun H1 c s1 nc hc => ?_⟩
    have hc1 : SqT K H1 c ((comD ds es).map V.int) := SqT.of hc
    obtain ⟨n', hn'⟩ : ∃ n' : Nat, prodL (comD ds es) = (n' : Int) := ⟨(prodL (comD ds es)).toNat, by omega⟩
    refine ⟨_, rfl, q, dy, _, rfl, s1 _ _ g1, sf_no _ _ _ _ _ (by decide +kernel), _, rfl, q, c, .ref pA, es, m, u, .pl, comD ds es, n', rfl, S2.same s1, hc1, ?_, cb, by omega, by omega, hn', fun H2 ev s2 hev => ?_⟩
    · simp only [TrAt]
      exact ⟨pA, rfl, hP _⟩
    have s12 := s1.trans s2
    refine ⟨_, rfl, _, rfl, p, dx, _, rfl, s12 _ _ h1, sf_no _ _ _ _ _ (by decide +kernel), _, rfl, _, rfl, p, c, ev, ds, n, t, rfT es (comD ds es) n' .pl u, comD ds es, n', rfl, S1.same s12, Same.sqT s2 hc1, hev, cb, by omega, cl, hn', fun H3 v3 s3 hv3 => ?_⟩
    have s13 := s12.trans s3
    refine fun x dx' nx ndx nex => ?_
    have s5 := made_same (C := C) nx ndx
    have hc3 := Same.sqT (s2.trans s3) hc1
    exact ⟨x, dx', c, v3, comD ds es, rfl, upd_same, Same.sqT s5 hc3, by omega, by omega, fun z h => by have := cb z h; omega, h12, fun d H' y hd => r d H' (fun b o e => y b o (s5 _ _ (s13 _ _ e))) hd⟩
theorem ok_thenU {f fE C CU DU fS : Addr} {fd fdE : FuncData} {k : Nat} (F : Fun K "then" "Scan.then" sThen f fd) (T : Txt K mg C) (ml : mg "len" = none)
    (R : RaiseC K mg "Unlike" CU DU fS fE) (GE : FnOk P w K mg base CX0 (k + 2) fE fdE ["self"] (spE0 K CU "Unlike")) (bE : Binds K fdE ["self"] []) :
    FnOk P w K mg base (L2.CX P w) (k + 26) f fd ["self", "other"] (spThenU K C CU) := by
  refine F.okX scThen (fun vs H Q E h => ?_) (fun cdv A outer s H vs Q E hr h => ?_)
  · obtain ⟨p, q, ds, es, n, m, t, u, rfl, _⟩ := h
    rfl
  · obtain ⟨p, q, ds, es, n, m, t, u, rfl, S1, S2, hl, r⟩ := h
    have hr3 : Room (k + 2 + 1) _ := hr.mono (by omega)
    refine ⟨_, pss_cons (ps_if (pt_cmpR op_ne (pe_callB call_len_seq (by rfl) ml PySem.boot_len (pa_cons (pe_fld (pv 0) rfl) pa_nil)) (pe_callB call_len_seq (by rfl) ml PySem.boot_len (pa_cons (pe_fld (pv 1) rfl) pa_nil)) (nomark _)) (pss_one (ps_raise rfl (takes_of rfl rfl rfl rfl) (pmk_oex0 R.er.ox R.iC R.tI GE hr3 bE pass0 (by rfl) R.at_))) pss_nil) pss_never, ?_⟩
    obtain ⟨⟨dx, da, tv, h1, h2, h3⟩, hD, l1, l3, hn, hw, hdp, hz⟩ := id S1
    obtain ⟨⟨dy, ea, uv, g1, g2, g3⟩, gD, k1, k3, gn, gw, gdp, gz⟩ := id S2
    refine ⟨_, rfl, p, C, dx, _, _, rfl, h1, T.cl, T.n3, sf_div _ _ _ _, da, _, rfl, .inr h2, _, rfl, q, C, dy, _, _, rfl, g1, T.cl, T.n3, sf_div _ _ _ _, ea, _, rfl, .inr g2, rfl, true, ?_, iteT ?_⟩
    · refine congrArg V.bl ?_
      rw [List.length_map, List.length_map, decide_eq_false fun z => hl (by have := V.int.inj z; omega)]
      rfl
    exact fun b nb => ⟨b, rfl, upd_same, fun d nd ne => by
      have nd' : H d = none := by rw [← nd, upd_ne ne]
      refine ⟨rfl, d, _, upd_same, by rw [upd_ne ne, upd_same], nd', r d _ (fun c u' h => ?_) upd_same⟩
      have hb' : c ≠ b := ne_of_none h nb
      have hd' : c ≠ d := ne_of_none h nd'
      rw [upd_ne hd', del_ne hb', upd_ne hb', upd_ne hd', upd_ne hb']
      exact h⟩
end
end Lk

namespace Lk
open PySem L2 Lx LamX LrA LqA
/-! ### Scan.__eq__ -/
mutual
theorem Tr.eqv_self : ∀ t : Tr, PyData.eqv t.toD t.toD = true
  | .pl => by simp [Tr.toD, PyData.eqv, PyData.eqvAll]
  | .key row hs t => by simp [Tr.toD, PyData.eqv, PyData.eqvAll, eqv_ints, Tr.eqv_self t]
  | .fork gs => by simp [Tr.toD, PyData.eqv, PyData.eqvAll, Gs.eqv_self gs]
theorem Gs.eqv_self : ∀ g : Gs, PyData.eqvAll g.toDs g.toDs = true
  | .nil => by simp [Gs.toDs, PyData.eqvAll]
  | .cons cs t r => by simp [Gs.toDs, PyData.eqv, PyData.eqvAll, eqv_ints, Tr.eqv_self t, Gs.eqv_self r]
end
def Alike (K : PySem.W.Frag) (C : Addr) : Addr → Addr → Hp → Prop := fun a b H => ∃ (ds : List Int) (n : Nat) (t : Tr), ScanAt K C H a ds n t ∧ ScanAt K C H b ds n t
theorem eq_trees {K : PySem.W.Frag} {H : Hp} {u v : V} {t : Tr} {Q : VK} (h : TrAt K H t u) (g : TrAt K H t v) (hd : t.dep ≤ 20) (q : Q (.bl true) H) : rEqD K u v H Q := by
  refine ⟨t.toD, t.toD, h.dp, g.dp, Tr.shaped hd, Tr.shaped hd, ?_⟩
  rw [Tr.eqv_self]
  exact q
section
variable {P : Program} {w : World} {K : PySem.W.Frag} {mg : Str → Option Value} {base : Heap}
theorem ok_seq {f C : Addr} {fd : FuncData} {k : Nat} (F : Fun K "__eq__" "Scan.__eq__" sSEq f fd) (T : Txt K mg C) (IC : C8.InsC K C) (ms : mg "isinstance" = none) : FnOk P w K mg base CX0 (k + 1) f fd ["self", "other"] (spEq (Alike K C)) := by
  refine F.ok scSEq (fun vs H Q E h => ?_) (fun cdv A outer s H vs Q E hr h => ?_)
  · obtain ⟨a, b, rfl, _⟩ := h
    rfl
  · obtain ⟨a, b, rfl, ⟨ds, n, t, S1, S2⟩, q⟩ := h
    refine ⟨_, pss_one (ps_ret (pe_and (pe_callB (C8.call_isC IC) (by rfl) ms (by decide +kernel) (pa_cons (pv 1) (pa_cons (pe_glob (v := .ref C) (by rfl) T.mgC rfl) pa_nil)))
      (pe_and (pe_cmpR (op_eqD hr.units) (pe_fld (pv 0) rfl) (pe_fld (pv 1) rfl) (nomark _)) (pe_one (pe_cmpR (op_eqD hr.units) (pe_fld (pv 0) rfl) (pe_fld (pv 1) rfl) (nomark _)))))), ?_⟩
    obtain ⟨⟨dx, da, tv, h1, h2, h3⟩, hD, l1, l3, hn, hw, hdp, hz⟩ := id S1
    obtain ⟨⟨dy, ea, uv, g1, g2, g3⟩, _⟩ := id S2
    refine ⟨_, rfl, b, dy, _, rfl, g1, true, rfl, iteT ?_⟩
    refine ⟨_, rfl, a, C, dx, _, _, rfl, h1, T.cl, T.n3, sf_div _ _ _ _, _, rfl, b, C, dy, _, _, rfl, g1, T.cl, T.n3, sf_div _ _ _ _, eq_tups h2 g2 ⟨true, congrArg V.bl (decide_eq_true rfl), iteT ?_⟩⟩
    refine ⟨_, rfl, a, C, dx, _, _, rfl, h1, T.cl, T.n4, sf_tree _ _ _ _, _, rfl, b, C, dy, _, _, rfl, g1, T.cl, T.n4, sf_tree _ _ _ _, eq_trees h3 g3 hdp ?_⟩
    exact q H Ext.rfl'
end
end Lk

namespace Lk
open PySem L2 Lx LamX LrA LqA
/-! ### floor keys -/
abbrev FK := List Int × Int × Int
def hgt (ds : List Int) (n : Nat) (k : FK) : List Int := (List.range n).map fun (j : Nat) => k.2.1 - (dotL k.1 (pAt ds (j : Int)) + k.2.1) % k.2.2
def flT (ds : List Int) (n : Nat) : List FK → Tr
  | [] => .pl
  | k :: r => .key k.1 (hgt ds n k) (flT ds n r)
def FkAt (K : PySem.W.Frag) (H : Hp) : List FK → List V → Prop
  | [], ws => ws = []
  | k :: r, ws => ∃ a ra wr, ws = .ref a :: wr ∧ SqT K H a [.ref ra, .int k.2.1, .int k.2.2] ∧ SqT K H ra (k.1.map V.int) ∧ FkAt K H r wr
theorem FkAt.mono {K : PySem.W.Frag} {H H' : Hp} (e : Tups K H H') : ∀ {l : List FK} {ws : List V}, FkAt K H l ws → FkAt K H' l ws
  | [], _, h => h
  | k :: r, _, ⟨a, ra, wr, h1, h2, h3, h4⟩ => ⟨a, ra, wr, h1, e _ _ h2, e _ _ h3, FkAt.mono e h4⟩
theorem FkAt.len {K : PySem.W.Frag} {H : Hp} : ∀ {l : List FK} {ws : List V}, FkAt K H l ws → ws.length = l.length
  | [], _, h => by
    have h : _ = [] := h
    rw [h]
    rfl
  | k :: r, _, ⟨a, ra, wr, h1, h2, h3, h4⟩ => by
    rw [h1, List.length_cons, List.length_cons, h4.len]
theorem FkAt.get {K : PySem.W.Frag} {H : Hp} : ∀ {l : List FK} {ws : List V} {i : Nat} {y : V}, FkAt K H l ws → ws[i]? = some y → ∃ k a ra, l[i]? = some k ∧ y = .ref a ∧ SqT K H a [.ref ra, .int k.2.1, .int k.2.2] ∧ SqT K H ra (k.1.map V.int)
  | [], _, i, y, h, e => by
    have h : _ = [] := h
    rw [h] at e
    simp at e
  | k :: r, _, 0, y, ⟨a, ra, wr, h1, h2, h3, h4⟩, e => by
    rw [h1] at e
    cases e
    exact ⟨k, a, ra, rfl, rfl, h2, h3⟩
  | k :: r, _, i + 1, y, ⟨a, ra, wr, h1, h2, h3, h4⟩, e => by
    rw [h1] at e
    obtain ⟨k', a', ra', e1, e2⟩ := h4.get (i := i) (by simpa using e)
    exact ⟨k', a', ra', by simpa using e1, e2⟩
theorem FkAt.app {K : PySem.W.Frag} {H : Hp} {k : FK} {a ra : Addr} (h2 : SqT K H a [.ref ra, .int k.2.1, .int k.2.2]) (h3 : SqT K H ra (k.1.map V.int)) : ∀ {l : List FK} {ws : List V}, FkAt K H l ws → FkAt K H (l ++ [k]) (ws ++ [.ref a])
  | [], _, h => by
    have h : _ = [] := h
    subst h
    exact ⟨a, ra, [], rfl, h2, h3, rfl⟩
  | k' :: r, _, ⟨a', ra', wr, h1, g2, g3, h4⟩ => by
    subst h1
    exact ⟨a', ra', wr ++ [.ref a], rfl, g2, g3, FkAt.app h2 h3 h4⟩
def spFloor (K : PySem.W.Frag) (tup : Bool) : Sp := fun vs H Q _ => ∃ (a e : Addr) (ws : List V) (ks : List FK) (ds : List Int) (n : Nat), vs = [.ref a, .ref e] ∧ (if tup = true then SqT K H a ws else SqL K H a ws) ∧ FkAt K H ks ws ∧ SqT K H e (ds.map V.int) ∧ Divs ds ∧ ds.length ≤ 3 ∧ prodL ds = (n : Int) ∧
  (∀ k ∈ ks, k.1.length = ds.length ∧ B64 k.1 ∧ 1 ≤ k.2.2) ∧ ks.length ≤ 30 ∧ ∀ H' u, Same H H' → TrAt K H' (flT ds n ks) u → Q u H'
section
variable {P : Program} {w : World} {K : PySem.W.Frag} {mg : Str → Option Value} {base : Heap}
theorem fl_step {ds : List Int} {n : Nat} {ks : List FK} {i : Nat} {k : FK} (h : ks.reverse[i]? = some k) : flT ds n (ks.drop (ks.length - (i + 1))) = .key k.1 (hgt ds n k) (flT ds n (ks.drop (ks.length - i))) := by
  have hi : i < ks.length := by
    have := (List.getElem?_eq_some_iff.mp h).1
    rw [List.length_reverse] at this
    exact this
  rw [List.getElem?_reverse hi] at h
  have hj : ks.length - 1 - i < ks.length := by omega
  have e : ks.drop (ks.length - (i + 1)) = ks[ks.length - 1 - i] :: ks.drop (ks.length - i) := by
    have := List.drop_eq_getElem_cons hj
    rw [show ks.length - 1 - i + 1 = ks.length - i by omega] at this
    rw [show ks.length - (i + 1) = ks.length - 1 - i by omega]
    exact this
  rw [e]
  have ek : ks[ks.length - 1 - i] = k := by
    have := List.getElem?_eq_getElem hj
    rw [this] at h
    exact Option.some.inj h
  rw [ek]
  rfl
theorem ok_floorL {f fM fD fL pA : Addr} {fd fdM fdD fdL : FuncData} {k : Nat} (F : Fun K "floor_tree" "floor_tree" sFloorT f fd) (mr : mg "range" = none) (mt : mg "tuple" = none) (mP : mg "PLACES" = some (.ref pA)) (hP : ∀ H, SqT K H pA [V.str "places"])
    (GM : FnOk P w K mg base CX0 (k + 1) fM fdM ["numbers"] (spCount K)) (kM : PySem.W.keepIn K (.ref fM) = true) (bM : Binds K fdM ["numbers"] []) (gM : mg "product" = some (.ref fM))
    (GD : FnOk P w K mg base CX0 (k + 1) fD fdD ["row", "place"] (spDot K)) (kD : PySem.W.keepIn K (.ref fD) = true) (bD : Binds K fdD ["row", "place"] []) (gD : mg "dot" = some (.ref fD))
    (GL : FnOk P w K mg base CX0 (k + 1) fL fdL ["sides", "number"] (spPlaceAt K)) (kL : PySem.W.keepIn K (.ref fL) = true) (bL : Binds K fdL ["sides", "number"] []) (gL : mg "place_at" = some (.ref fL)) :
    FnOk P w K mg base CX0 (k + 2) f fd ["keys", "divisors"] (spFloor K false) := by
  refine F.ok scFloorT (fun vs H Q E h => ?_) (fun cdv A outer s H vs Q E hr h => ?_)
  · obtain ⟨a, e, ws, ks, ds, n, rfl, _⟩ := h
    rfl
  · obtain ⟨a, e, ws, ks, ds, n, rfl, hA, hW, hE, D, l3, hn, hk, hl, q⟩ := h
    have hA : SqL K H a ws := hA
    have lw := hW.len
    have n12 : n ≤ 12 := by have := D.most; omega
    refine ⟨_, pss_cons (ps_set (i := 2) scFloorT.nd rfl (.inl rfl) (pe_glob (v := .ref pA) (by rfl) mP rfl))
      (pss_cons (ps_for PassesOwn.never rfl (pi_list (pe_revL (pv 0))) (pg_tup rfl (pgs_cons (pg_name (i := 3) scFloorT.nd rfl (.inl rfl)) (pgs_cons (pg_name (i := 4) scFloorT.nd rfl (.inl rfl)) (pgs_cons (pg_name (i := 5) scFloorT.nd rfl (.inl rfl)) pgs_nil))))
        (pss_cons (ps_set (i := 6) scFloorT.nd rfl (.inl rfl) (pe_lst pa_nil))
        (pss_cons (ps_for PassesOwn.never rfl (pi_range1 (by rfl) mr (pa_cons (pe_call GM hr (by rfl) gM kM bM .nil pass0 (pa_cons (pv 1) pa_nil)) pa_nil)) (pg_name (i := 7) scFloorT.nd rfl (.inl rfl))
          (pss_one (ps_expr (pe_bm PySem.F.plainAttrs_list PySem.F.slot_list_append PySem.F.type_list_append mt_append (pv 6) (pa_cons (pe_op op_sub (pv 4) (pe_op op_mod (pe_op op_add (pe_call GD hr (by rfl) gD kD bD .nil pass0 (pa_cons (pv 3) (pa_cons (pe_call GL hr (by rfl) gL kL bL .nil pass0 (pa_cons (pv 1) (pa_cons (pv 7) pa_nil))) pa_nil))) (pv 4)) (pv 5))) pa_nil)))))
        (pss_one (ps_set (i := 2) scFloorT.nd rfl (.inl rfl) (pe_tup (pa_cons pe_str (pa_cons (pv 3) (pa_cons (pe_callTy call_tuple_of (by rfl) mt (by decide +kernel) (pa_cons (pv 6) pa_nil)) (pa_cons (pv 2) pa_nil))))))))))
      (pss_one (ps_ret (pv 2)))), ?_⟩
    refine ⟨_, rfl, a, _, rfl, hA, fun rr nrr => ?_⟩
    have s1 := same_new (o := .lst ws.reverse) nrr
    refine ⟨rr, rfl, ⟨_, SqL.of upd_same⟩, for_list (K := K) (a := rr) (xs := ws.reverse) (fun i σ G => ∃ (u : V) (v3 v4 v5 v6 v7 : Option V), σ = [some (.ref a), some (.ref e), some u, v3, v4, v5, v6, v7] ∧ Same (upd H rr (.lst ws.reverse)) G ∧ TrAt K G (flT ds n (ks.drop (ks.length - i))) u)
      ⟨.ref pA, none, none, none, none, none, rfl, Same.refl _, ?_⟩ (fun i σ G _ ⟨_, _, _, _, _, _, _, sm, _⟩ => SqL.of (sm _ _ upd_same)) ?_ ?_⟩
    · rw [Nat.sub_zero, List.drop_length]
      simp only [flT, TrAt]
      exact ⟨pA, rfl, hP _⟩
    · rintro i y σ G hy ⟨u, v3, v4, v5, v6, v7, rfl, sm, hU⟩
      have hi : i < ws.length := by
        have := (List.getElem?_eq_some_iff.mp hy).1
        rw [List.length_reverse] at this
        exact this
      have hy' := hy
      rw [List.getElem?_reverse hi] at hy'
      obtain ⟨kk, ka, ra, e1, rfl, g1, g2⟩ := hW.get hy'
      have e1' : ks.reverse[i]? = some kk := by
        rw [List.getElem?_reverse (by omega), ← lw]
        exact e1
      obtain ⟨lr, br, v1⟩ := hk kk (List.mem_of_getElem? e1)
      have sH := s1.trans sm
      refine ⟨ka, _, rfl, Same.sqT sH g1, rfl, _, _, rfl, _, _, rfl, _, _, rfl, rfl, ?_⟩
      refine ⟨Nat.zero_le _, fun o no => ?_⟩
      have t1 := same_new (o := .lst []) no
      refine ⟨_, rfl, e, ds, rfl, Same.sqT (sH.trans t1) hE, D, ?_⟩
      rw [hn]
      refine ⟨n, rfl, by omega, by omega, for_range (lo := 0) (n := (n : Int).toNat) (fun j σ G2 => ∃ v7 : Option V, σ = [some (.ref a), some (.ref e), some u, some (.ref ra), some (.int kk.2.1), some (.int kk.2.2), some (.ref o), v7] ∧ Same G G2 ∧ G2 o = some (.lst (((hgt ds n kk).take j).map V.int)))
        ⟨v7, rfl, t1, upd_same⟩ ?_ ?_⟩
      · rintro j σ G2 hj ⟨v7, rfl, s2, ho⟩
        have e0 : (0 : Int) + (j : Int) = (j : Int) := by omega
        have hjn : j < n := by omega
        rw [e0]
        have sH2 := sH.trans s2
        refine ⟨_, rfl, .inl ⟨rfl, _, SqL.of ho⟩, _, rfl, _, rfl, _, rfl, _, rfl, e, ds, j, rfl, Same.sqT sH2 hE, D, l3, fun G3 p3 s3 g3 => ?_⟩
        refine ⟨ra, p3, kk.1, pAt ds (j : Int), rfl, Same.sqT (sH2.trans s3) g2, g3, by rw [pAt_len]; exact lr, by omega, br, fun G4 s4 => ?_⟩
        have s34 := s3.trans s4
        refine ⟨_, rfl, _, _, rfl, rfl, _, rfl, _, _, rfl, rfl, by omega, _, _, rfl, rfl, o, _, _, rfl, rfl, s34 _ _ ho, ?_, _, rfl, Same.upd_out (s2.trans s34) no, ?_⟩
        · rw [List.length_map]
          exact small1000 (by rw [List.length_take]; omega)
        · have gj : (hgt ds n kk)[j]? = some (kk.2.1 - (dotL kk.1 (pAt ds (j : Int)) + kk.2.1) % kk.2.2) := by
            unfold hgt
            rw [List.getElem?_map, List.getElem?_range hjn]
            rfl
          rw [upd_same, take_more gj, List.map_append]
          rfl
      · rintro σ G2 ⟨v7, rfl, s2, ho⟩
        rw [List.take_of_length_le (by unfold hgt; rw [List.length_map, List.length_range]; omega)] at ho
        refine ⟨_, rfl, _, rfl, o, _, rfl, .inl ⟨SqL.of ho, fun S nS => ?_⟩⟩
        refine ⟨_, rfl, (by show 4 ≤ sizeLine; decide), fun T nT => ?_⟩
        have t2 := same_new (o := .tup ((hgt ds n kk).map V.int)) nS
        have t3 := same_new (o := .tup [.str "key", .ref ra, .ref S, u]) nT
        have t23 := t2.trans t3
        have s2T := s2.trans t23
        refine ⟨.ref T, _, _, _, _, _, rfl, sm.trans s2T, ?_⟩
        rw [fl_step e1']
        simp only [TrAt]
        exact ⟨T, ra, S, u, rfl, SqT.of upd_same, Same.sqT (sH.trans s2T) g2, Same.sqT t3 (SqT.of upd_same), TrAt.mono (Same.tups s2T) hU⟩
    · rintro σ G ⟨u, v3, v4, v5, v6, v7, rfl, sm, hU⟩
      rw [List.length_reverse, lw, Nat.sub_self] at hU
      exact ⟨_, rfl, q G u (s1.trans sm) hU⟩
end
/-! ### the path by floor keys -/
theorem hgt_len (ds : List Int) (n : Nat) (k : FK) : (hgt ds n k).length = n := by
  unfold hgt
  rw [List.length_map, List.length_range]
theorem hgt_at {ds : List Int} {n : Nat} {k : FK} {c : Int} (h0 : 0 ≤ c) (h1 : c < n) : (hgt ds n k).getD c.toNat 0 = k.2.1 - (dotL k.1 (pAt ds c) + k.2.1) % k.2.2 := by
  have hl : c.toNat < n := by omega
  unfold hgt
  rw [List.getD_eq_getElem?_getD, List.getElem?_map, List.getElem?_range hl]
  show k.2.1 - (dotL k.1 (pAt ds (c.toNat : Int)) + k.2.1) % k.2.2 = _
  rw [show ((c.toNat : Nat) : Int) = c by omega]
theorem fl_pth {ds : List Int} {n : Nat} (D : Divs ds) (hn : prodL ds = (n : Int)) {x : List Int} (hx : x.length = ds.length) : ∀ ks : List FK, pth (flT ds n ks) (cls ds x) x = ks.map fun k => dotL k.1 x + (k.2.1 - (dotL k.1 (rst ds x) + k.2.1) % k.2.2)
  | [] => by simp [flT, pth]
  | k :: r => by
    have b := cls_in D hn hx.symm
    simp only [flT, pth, List.map_cons]
    rw [hgt_at b.1 b.2, pAt_cls hx.symm D.one, fl_pth D hn hx r]
theorem fl_size (ds : List Int) (n : Nat) : ∀ ks : List FK, (flT ds n ks).size = ks.length + 1 ∧ (flT ds n ks).dep = ks.length + 1 ∧ (flT ds n ks).ends = 1
  | [] => by simp [flT, Tr.size, Tr.dep, Tr.ends]
  | k :: r => by
    have := fl_size ds n r
    simp only [flT, Tr.size, Tr.dep, Tr.ends, List.length_cons]
    omega
theorem fl_wf {ds : List Int} {n : Nat} : ∀ {ks : List FK}, (∀ k ∈ ks, k.1.length = ds.length ∧ B64 k.1 ∧ 1 ≤ k.2.2) → (flT ds n ks).wf ds.length n
  | [], _ => by simp [flT, Tr.wf]
  | k :: r, h => by
    have hk := h k List.mem_cons_self
    simp only [flT, Tr.wf]
    exact ⟨hk.1, hgt_len ds n k, hk.2.1, fl_wf fun k' hk' => h k' (List.mem_cons_of_mem _ hk')⟩
end Lk

namespace Lk
open PySem L2 Lx LamX LrA LqA
/-! ### blocks -/
def blK (ss : List Int) : List FK := List.zipWith (fun r s => (r, (0, s))) (idM ss.length) ss
def blT (ss : List Int) (n : Nat) : Tr := flT ss n (blK ss)
def blQ (ss x : List Int) : List Int := List.zipWith (fun a s => a / s) x ss
def blP (ss x : List Int) : List Int := List.zipWith (fun a s => a - a % s) x ss
theorem bl_key {ss : List Int} (l1 : 1 ≤ ss.length) (l3 : ss.length ≤ 3) (h : ∀ z ∈ ss, 1 ≤ z) : (∀ k ∈ blK ss, k.1.length = ss.length ∧ B64 k.1 ∧ 1 ≤ k.2.2) ∧ (blK ss).length = ss.length := by
  have im := idM_mat l1 l3
  constructor
  · intro k hk
    obtain ⟨i, hi⟩ := List.mem_iff_getElem?.mp hk
    unfold blK at hi
    rw [List.getElem?_zipWith] at hi
    cases ea : (idM ss.length)[i]? with
    | none => rw [ea] at hi; simp at hi
    | some r =>
      cases eb : ss[i]? with
      | none => rw [ea, eb] at hi; simp at hi
      | some s =>
        rw [ea, eb] at hi
        simp at hi
        rw [← hi]
        have := im.rw_ r (List.mem_of_getElem? ea)
        exact ⟨this.1, this.2, h s (List.mem_of_getElem? eb)⟩
  · unfold blK
    rw [List.length_zipWith, im.ln]
    omega
theorem bl_pth {ss : List Int} {n : Nat} (D : Divs ss) (hn : prodL ss = (n : Int)) (l1 : 1 ≤ ss.length) (l3 : ss.length ≤ 3) {x : List Int} (hx : x.length = ss.length) : pth (blT ss n) (cls ss x) x = blP ss x := by
  unfold blT
  rw [fl_pth D hn hx]
  have h1 := D.one
  match ss, x, hx, l1, l3, h1 with
  | [s], [a], _, _, _, h1 => simp [blK, blP, rst, dotL, idM1]; omega
  | [s, t], [a, b], _, _, _, h1 => simp [blK, blP, rst, dotL, idM2]; omega
  | [s, t, u], [a, b, c], _, _, _, h1 => simp [blK, blP, rst, dotL, idM3]; omega
theorem part_q {a b s : Int} (h : 1 ≤ s) : (a - a % s = b - b % s ↔ a / s = b / s) ∧ (a - a % s < b - b % s ↔ a / s < b / s) := by
  have ea : a - a % s = s * (a / s) := by have := Int.mul_ediv_add_emod a s; omega
  have eb : b - b % s = s * (b / s) := by have := Int.mul_ediv_add_emod b s; omega
  rw [ea, eb]
  constructor
  · constructor
    · intro e
      exact Int.eq_of_mul_eq_mul_left (by omega) e
    · intro e
      rw [e]
  · constructor
    · intro e
      exact Int.lt_of_mul_lt_mul_left e (by omega)
    · intro e
      exact Int.mul_lt_mul_of_pos_left e (by omega)
theorem bl_eq : ∀ {ss x y : List Int}, (∀ z ∈ ss, 1 ≤ z) → x.length = ss.length → y.length = ss.length → (blP ss x = blP ss y ↔ blQ ss x = blQ ss y)
  | [], [], [], _, _, _ => by simp [blP, blQ]
  | s :: ss, a :: x, b :: y, h, h1, h2 => by
    have ih := bl_eq (ss := ss) (x := x) (y := y) (fun z hz => h z (List.mem_cons_of_mem _ hz)) (by simpa using h1) (by simpa using h2)
    have hs := (part_q (a := a) (b := b) (h s List.mem_cons_self)).1
    show (a - a % s) :: blP ss x = (b - b % s) :: blP ss y ↔ (a / s) :: blQ ss x = (b / s) :: blQ ss y
    rw [List.cons.injEq, List.cons.injEq, hs, ih]
  | [], _ :: _, _, _, h, _ => by cases h
  | [], [], _ :: _, _, _, h => by cases h
  | _ :: _, [], _, _, h, _ => by cases h
  | _ :: _, _ :: _, [], _, _, h => by cases h
theorem bl_lt : ∀ {ss x y A B : List Int}, (∀ z ∈ ss, 1 ≤ z) → x.length = ss.length → y.length = ss.length → lx (blP ss x ++ A) (blP ss y ++ B) = if blQ ss x = blQ ss y then lx A B else lx (blQ ss x) (blQ ss y)
  | [], [], [], A, B, _, _, _ => by simp [blP, blQ]
  | s :: ss, a :: x, b :: y, A, B, h, h1, h2 => by
    have ih := bl_lt (ss := ss) (x := x) (y := y) (A := A) (B := B) (fun z hz => h z (List.mem_cons_of_mem _ hz)) (by simpa using h1) (by simpa using h2)
    obtain ⟨p1, p2⟩ := part_q (a := a) (b := b) (h s List.mem_cons_self)
    show (if a - a % s = b - b % s then lx (blP ss x ++ A) (blP ss y ++ B) else decide (a - a % s < b - b % s)) = if (a / s) :: blQ ss x = (b / s) :: blQ ss y then lx A B else (if a / s = b / s then lx (blQ ss x) (blQ ss y) else decide (a / s < b / s))
    rw [ih]
    by_cases e : a / s = b / s
    · rw [if_pos (p1.mpr e), if_pos e]
      by_cases e2 : blQ ss x = blQ ss y
      · rw [if_pos e2, if_pos (by rw [e, e2])]
      · rw [if_neg e2, if_neg (fun z => e2 (List.cons.inj z).2)]
    · rw [if_neg (fun z => e (p1.mp z)), if_neg (fun z => e (List.cons.inj z).1), if_neg e]
      exact decide_eq_decide.mpr p2
  | [], _ :: _, _, _, _, _, h, _ => by cases h
  | [], [], _ :: _, _, _, _, _, h => by cases h
  | _ :: _, [], _, _, _, _, h, _ => by cases h
  | _ :: _, _ :: _, [], _, _, _, _, h => by cases h
theorem bl_ok {ss : List Int} {n : Nat} (D : Divs ss) (l1 : 1 ≤ ss.length) (l3 : ss.length ≤ 3) (hn : prodL ss = (n : Int)) : ScanOk ss n (blT ss n) ∧ (blT ss n).size = ss.length + 1 ∧ (blT ss n).dep = ss.length + 1 ∧ (blT ss n).ends = 1 := by
  obtain ⟨k1, k2⟩ := bl_key l1 l3 D.one
  obtain ⟨s1, s2, s3⟩ := fl_size ss n (blK ss)
  rw [k2] at s1 s2
  refine ⟨⟨D, l1, l3, hn, fl_wf k1, ?_, ?_⟩, s1, s2, s3⟩
  · show (flT ss n (blK ss)).dep ≤ 20
    omega
  · show (flT ss n (blK ss)).size ≤ 200
    omega
/-! ### blocks_scan -/
def BxE (C : Addr) (v : V) (H : Hp) (E : XK) : Prop := ∀ (d : Addr) (H' : Hp), (∀ b u, H b = some u → H' b = some u) → H' d = some (.xd (xflds "given" v "InvalidBox")) → E (.ref C) (some d) H'
def spBlocks (K : PySem.W.Frag) (C : Addr) : Sp := fun vs H Q _ => ∃ (a : Addr) (ss : List Int) (n : Nat), vs = [.ref a, .non] ∧ SqT K H a (ss.map V.int) ∧ Divs ss ∧ 1 ≤ ss.length ∧ ss.length ≤ 3 ∧ prodL ss = (n : Int) ∧ ∀ (H' : Hp) (x : Addr), Same H H' → ScanAt K C H' x ss n (blT ss n) → Q (.ref x) H'
def spBlocksI (K : PySem.W.Frag) (C : Addr) (sp : Sp) : Sp := fun vs H Q E => ∃ (a q : Addr) (ss : List Int) (n : Nat), vs = [.ref a, .ref q] ∧ SqT K H a (ss.map V.int) ∧ Divs ss ∧ 1 ≤ ss.length ∧ ss.length ≤ 3 ∧ prodL ss = (n : Int) ∧ (∃ dx fs, H q = some (.ins C dx fs)) ∧ ∀ (H' : Hp) (x : Addr), Same H H' → ScanAt K C H' x ss n (blT ss n) → sp [.ref x, .ref q] H' Q E
def spBlocksB (K : PySem.W.Frag) (CB : Addr) : Sp := fun vs H _ E => ∃ (v u : V) (o : Option (List V)), vs = [v, u] ∧ OD K H v o ∧ sdB o 1 = false ∧ BxE CB v H E
def spBlocksM (K : PySem.W.Frag) (C2 : Addr) : Sp := fun vs H _ E => ∃ (a : Addr) (u : V) (ss : List Int), vs = [.ref a, u] ∧ SqT K H a (ss.map V.int) ∧ 1 ≤ ss.length ∧ ss.length ≤ 3 ∧ (∀ z ∈ ss, 1 ≤ z ∧ z < 2 ^ 64) ∧ 12 < prodL ss ∧ TmK C2 H E
theorem sdB_one {ss : List Int} (l1 : 1 ≤ ss.length) (l3 : ss.length ≤ 3) (h1 : ∀ z ∈ ss, 1 ≤ z) : sdB (some (ss.map V.int)) 1 = true := by
  rw [sdB_some, List.length_map, decide_eq_true l1, decide_eq_true l3]
  have a1 : (ss.map V.int).all isI = true := List.all_eq_true.mpr fun x hx => by
    obtain ⟨z, _, rfl⟩ := List.mem_map.mp hx
    rfl
  have a2 : ((ss.map V.int).all fun x => decide (1 ≤ uI x)) = true := List.all_eq_true.mpr fun x hx => by
    obtain ⟨z, hz, rfl⟩ := List.mem_map.mp hx
    exact decide_eq_true (h1 z hz)
  rw [a1, a2]
  rfl
section
variable {P : Program} {w : World} {K : PySem.W.Frag} {mg : Str → Option Value} {base : Heap}
abbrev nBl : List Str := ["sides", "inner", "keys", "blocks", "row", "side"]
theorem ok_blocksB {f fS fB CB DB fSB : Addr} {fd fdS fdB : FuncData} {kws : List (Str × V)} {k : Nat} (F : FunD K "blocks_scan" "blocks_scan" (defArgs sBlocks) (defBody sBlocks) (defScope sBlocks) [] kws f fd)
    (R : RaiseC K mg "InvalidBox" CB DB fSB fB) (GB : FnOk P w K mg base CX0 (k + 2) fB fdB ["self", "given"] (spE1 K CB "InvalidBox" "given")) (bB : Binds K fdB ["self", "given"] [])
    (GS : FnOk P w K mg base CX0 (k + 3) fS fdS ["value", "least"] (spSidesO K)) (kS : PySem.W.keepIn K (.ref fS) = true) (bS : Binds K fdS ["value", "least"] []) (gS : mg "are_sides" = some (.ref fS)) :
    FnOk P w K mg base (L2.CX P w) (k + 28) f fd ["sides", "inner"] (spBlocksB K CB) := by
  refine F.ok (CX := L2.CX P w) scBlocks (fun vs H Q E h => ?_) (fun cdv A outer s H vs Q E hr h => ?_)
  · obtain ⟨v, u, o, rfl, _⟩ := h
    rfl
  · obtain ⟨v, u, o, rfl, hO, hs, q⟩ := h
    have hr3 : Room (k + 3) _ := hr.mono (by omega)
    have hr2 : Room (k + 2 + 1) _ := hr.mono (by omega)
    refine ⟨_, pss_cons (ps_if (pt_not (pt_val (pe_call GS hr3 (by rfl) gS kS bS .nil pass0 (pa_cons (pv 0) (pa_cons pe_int pa_nil))))) (pss_one (ps_raise rfl (takes_of rfl rfl rfl rfl) (pmk_oex R.er.ox R.iC R.tI GB hr2 bB .nil pass0 (by rfl) R.at_ (pa_cons (pv 0) pa_nil)))) pss_nil) pss_never, ?_⟩
    refine ⟨_, rfl, v, 1, o, rfl, hO, fun H1 sm => ?_⟩
    rw [hs]
    refine ⟨false, rfl, iteT ⟨_, rfl, (by show 1 ≤ 1000; decide), fun a na => ⟨a, v, rfl, upd_same, fun dx nd ne => ⟨rfl, dx, _, ?_, upd_same, ?_, ?_⟩⟩⟩⟩
    · rw [upd_ne (Ne.symm ne), upd_same]
    · rw [← nd, upd_ne ne]
    · have nd' : H1 dx = none := by rw [← nd, upd_ne ne]
      exact q dx _ (fun b u e => made_ext (C := CB) na nd' b u (sm b u e)) upd_same
theorem ok_blocksM {f fS fT fM C2 D2 fS2 : Addr} {fd fdS fdT fdM : FuncData} {kws : List (Str × V)} {k : Nat} (F : FunD K "blocks_scan" "blocks_scan" (defArgs sBlocks) (defBody sBlocks) (defScope sBlocks) [] kws f fd) {t3 : Tok} (mC : mg "MAX_CLASSES" = some (.int 12 t3))
    (R : RaiseC K mg "TooManyClasses" C2 D2 fS2 fT) (GT : FnOk P w K mg base CX0 (k + 2) fT fdT ["self", "limit"] (spE1 K C2 "TooManyClasses" "limit")) (bT : Binds K fdT ["self", "limit"] [])
    (GS : FnOk P w K mg base CX0 (k + 3) fS fdS ["value", "least"] (spSidesO K)) (kS : PySem.W.keepIn K (.ref fS) = true) (bS : Binds K fdS ["value", "least"] []) (gS : mg "are_sides" = some (.ref fS))
    (GM : FnOk P w K mg base CX0 (k + 1) fM fdM ["numbers"] (spProdB K)) (kM : PySem.W.keepIn K (.ref fM) = true) (bM : Binds K fdM ["numbers"] []) (gM : mg "product" = some (.ref fM)) :
    FnOk P w K mg base (L2.CX P w) (k + 28) f fd ["sides", "inner"] (spBlocksM K C2) := by
  refine F.ok (CX := L2.CX P w) scBlocks (fun vs H Q E h => ?_) (fun cdv A outer s H vs Q E hr h => ?_)
  · obtain ⟨a, u, ss, rfl, _⟩ := h
    rfl
  · obtain ⟨a, u, ss, rfl, hA, l1, l3, hz, h12, q⟩ := h
    have hr1 : Room (k + 1) _ := hr.mono (by omega)
    have hr3 : Room (k + 3) _ := hr.mono (by omega)
    have hr2 : Room (k + 2 + 1) _ := hr.mono (by omega)
    refine ⟨_, pss_cons (ps_if (pt_not (pt_val (pe_call GS hr3 (by rfl) gS kS bS .nil pass0 (pa_cons (pv 0) (pa_cons pe_int pa_nil))))) pss_never pss_nil)
      (pss_cons (ps_if (pt_cmpR op_gt (pe_call GM hr1 (by rfl) gM kM bM .nil pass0 (pa_cons (pv 0) pa_nil)) (pe_glob (v := .int 12) (by rfl) mC ⟨_, rfl⟩) (nomark _))
        (pss_one (ps_raise rfl (takes_of rfl rfl rfl rfl) (pmk_oex R.er.ox R.iC R.tI GT hr2 bT .nil pass0 (by rfl) R.at_ (pa_cons (pe_glob (v := .int 12) (by rfl) mC ⟨_, rfl⟩) pa_nil)))) pss_nil) pss_never), ?_⟩
    refine ⟨_, rfl, .ref a, 1, some (ss.map V.int), rfl, od_ints hA l3, fun H1 sm => ?_⟩
    rw [sdB_one l1 l3 fun z h => (hz z h).1]
    refine ⟨true, rfl, iteF ⟨_, rfl, a, ss, rfl, Same.sqT sm hA, fun z h => by have := hz z h; omega, _, _, rfl, rfl, true, congrArg V.bl (decide_eq_true h12), iteT ⟨(by show 1 ≤ 1000; decide), fun b nb => ⟨b, .int 12, rfl, upd_same, fun dx nd ne => ⟨rfl, dx, _, ?_, upd_same, ?_, ?_⟩⟩⟩⟩⟩
    · rw [upd_ne (Ne.symm ne), upd_same]
    · rw [← nd, upd_ne ne]
    · have nd' : H1 dx = none := by rw [← nd, upd_ne ne]
      exact q dx _ (fun c u h => made_ext (C := C2) nb nd' c u (sm c u h)) upd_same
theorem blocks_body {CX : CXT} {f fS fM fI fF fG fTh C : Addr} {fd fdS fdM fdI fdF fdG fdTh : FuncData} {kws : List (Str × V)} {sp : Sp} {k : Nat} (F : FunD K "blocks_scan" "blocks_scan" (defArgs sBlocks) (defBody sBlocks) (defScope sBlocks) [] kws f fd) (T : Txt K mg C) (ml : mg "len" = none) (mz : mg "zip" = none) {t3 : Tok} (mC : mg "MAX_CLASSES" = some (.int 12 t3))
    (GS : FnOk P w K mg base CX0 (k + 3) fS fdS ["value", "least"] (spSidesO K)) (kS : PySem.W.keepIn K (.ref fS) = true) (bS : Binds K fdS ["value", "least"] []) (gS : mg "are_sides" = some (.ref fS))
    (GM : FnOk P w K mg base CX0 (k + 1) fM fdM ["numbers"] (spProdB K)) (kM : PySem.W.keepIn K (.ref fM) = true) (bM : Binds K fdM ["numbers"] []) (gM : mg "product" = some (.ref fM))
    (GI : FnOk P w K mg base CX0 (k + 1) fI fdI ["directions"] (spIdent K)) (kI : PySem.W.keepIn K (.ref fI) = true) (bI : Binds K fdI ["directions"] []) (gI : mg "identity" = some (.ref fI))
    (GF : FnOk P w K mg base CX0 (k + 2) fF fdF ["keys", "divisors"] (spFloor K false)) (kF : PySem.W.keepIn K (.ref fF) = true) (bF : Binds K fdF ["keys", "divisors"] []) (gF : mg "floor_tree" = some (.ref fF))
    (GG : FnOk P w K mg base CX0 (k + 8) fG fdG ["self", "divisors", "tree"] (spInit K C)) (bG : Binds K fdG ["self", "divisors", "tree"] []) (MI : Mk K C fG)
    (GTh : FnOk P w K mg base CX (k + 26) fTh fdTh ["self", "other"] sp) (bTh : Binds K fdTh ["self", "other"] []) (mTh : Meth K C "then" fTh)
    (hpass : ∀ (cdv : Value) (A : Around) (outer : List Env) (s : Shared) (H : Hp) (E : XK), Passes CX (cxOf CX P w K mg base nBl "blocks_scan" (defScope sBlocks) f cdv A outer s H E) E) :
    FnOk P w K mg base CX (k + 28) f fd ["sides", "inner"] (fun vs H Q E => spBlocks K C vs H Q E ∨ spBlocksI K C sp vs H Q E) := by
  refine F.ok (CX := CX) scBlocks (fun vs H Q E h => ?_) (fun cdv A outer s H vs Q E hr h => ?_)
  · rcases h with ⟨a, ss, n, rfl, _⟩ | ⟨a, q, ss, n, rfl, _⟩
    · rfl
    · rfl
  · have hc : ∃ (a : Addr) (u : V) (ss : List Int) (n : Nat), vs = [.ref a, u] ∧ SqT K H a (ss.map V.int) ∧ Divs ss ∧ 1 ≤ ss.length ∧ ss.length ≤ 3 ∧ prodL ss = (n : Int) ∧ ((u = .non ∧ ∀ (H' : Hp) (x : Addr), Same H H' → ScanAt K C H' x ss n (blT ss n) → Q (.ref x) H') ∨ (∃ q, u = .ref q ∧ ∀ (H' : Hp) (x : Addr), Same H H' → ScanAt K C H' x ss n (blT ss n) → sp [.ref x, .ref q] H' Q E)) := by
      rcases h with ⟨a, ss, n, rfl, h1, h2, h3, h4, h5, h6⟩ | ⟨a, q, ss, n, rfl, h1, h2, h3, h4, h5, h6, h7⟩
      · exact ⟨a, _, ss, n, rfl, h1, h2, h3, h4, h5, .inl ⟨rfl, h6⟩⟩
      · exact ⟨a, _, ss, n, rfl, h1, h2, h3, h4, h5, .inr ⟨q, rfl, h7⟩⟩
    obtain ⟨a, u, ss, n, rfl, hA, D, l1, l3, hn, hq⟩ := hc
    have hr1 : Room (k + 1) _ := hr.mono (by omega)
    have hr2 : Room (k + 2) _ := hr.mono (by omega)
    have hr3 : Room (k + 3) _ := hr.mono (by omega)
    have hr9 : Room (k + 8 + 1) _ := hr.mono (by omega)
    have hr26 : Room (k + 26) _ := hr.mono (by omega)
    refine ⟨_, pss_cons (ps_if (pt_not (pt_val (pe_call GS hr3 (by rfl) gS kS bS .nil pass0 (pa_cons (pv 0) (pa_cons pe_int pa_nil))))) pss_never pss_nil)
      (pss_cons (ps_if (pt_cmpR op_gt (pe_call GM hr1 (by rfl) gM kM bM .nil pass0 (pa_cons (pv 0) pa_nil)) (pe_glob (v := .int 12) (by rfl) mC ⟨_, rfl⟩) (nomark _)) pss_never pss_nil)
      (pss_cons (ps_setLc (i := 2) (own := [("row", 4), ("side", 5)]) (g := gTup K 2 (gCons (gName 4) (gCons (gName 5) gNil))) (by rfl) scBlocks.nd rfl rfl (sw_true rfl rfl rfl (by decide +kernel)) (RZ.pi_zipA (by rfl) mz (pa_cons (pe_call GI hr1 (by rfl) gI kI bI .nil pass0 (pa_cons (pe_callB call_len_seq (by rfl) ml PySem.boot_len (pa_cons (pv 0) pa_nil)) pa_nil)) (pa_cons (pv 0) pa_nil)))
        (blkOk_by (own := [("row", 4), ("side", 5)]) (N := nBl) (sc := defScope sBlocks) (by decide +kernel))
        (fun _ _ _ _ _ => pg_tup rfl (pgs_cons (pg_name (i := 4) scBlocks.nd rfl (.inl rfl)) (pgs_cons (pg_name (i := 5) scBlocks.nd rfl (.inl rfl)) pgs_nil))) (fun _ _ _ _ _ => pts_nil)
        (fun _ _ _ _ _ => pe_tup (pa_cons (pv 4) (pa_cons pe_int (pa_cons (pv 5) pa_nil)))))
      (pss_cons (ps_set (i := 3) scBlocks.nd rfl (.inl rfl) (pe_make MI GG hr9 (by rfl) T.mgC bG .nil pass0 (pa_cons (pv 0) (pa_cons (pe_call GF hr2 (by rfl) gF kF bF .nil pass0 (pa_cons (pv 2) (pa_cons (pv 0) pa_nil))) pa_nil))))
      (pss_cons (ps_if (pt_cmpR op_isN (pv 1) pe_non (nomark _)) (pss_one (ps_ret (pv 3))) pss_nil)
      (pss_one (ps_ret (pe_meth (pv 3) T.cl mTh GTh hr26 bTh .nil (hpass _ _ _ _ _ _) (pa_cons (pv 1) pa_nil)))))))), ?_⟩
    have dm := D.most
    refine ⟨_, rfl, .ref a, 1, some (ss.map V.int), rfl, od_ints hA l3, fun H1 s1 => ?_⟩
    rw [sdB_one l1 l3 D.one]
    refine ⟨true, rfl, iteF ⟨_, rfl, a, ss, rfl, Same.sqT s1 hA, fun z h => ?_, _, _, rfl, rfl, false, congrArg V.bl (decide_eq_false (by omega)), iteF ?_⟩⟩
    · have h1 := D.one z h
      have h2 := le_prod D.one h
      omega
    have hA1 := Same.sqT s1 hA
    have ln : ((ss.map V.int).length : Int) = (ss.length : Int) := by rw [List.length_map]
    refine ⟨_, rfl, a, _, rfl, .inr hA1, ?_⟩
    rw [ln]
    refine ⟨ss.length, rfl, l3, fun H2 mA ws s2 hM hW => ?_⟩
    have hA2 := Same.sqT s2 hA1
    have im := idM_mat l1 l3
    have lw := hW.len
    have lb := (bl_key l1 l3 D.one).2
    have hle : ws.length = (ss.map V.int).length := by rw [lw, im.ln, List.length_map]
    refine ⟨_, rfl, mA, a, ws, ss.map V.int, rfl, .inr ⟨hM, hA2, fun DD nDD => ?_⟩⟩
    refine lc_it (walk_zipT hle) (fun i H3 => ∃ us, Same H2 H3 ∧ H3 DD = some (.lst us) ∧ FkAt K H3 ((blK ss).take i) us) ⟨[], same_new nDD, upd_same, rfl⟩ (fun i H3 _ ⟨_, sm, _⟩ => ⟨Same.sqT sm hM, Same.sqT sm hA2⟩) ?_ ?_
    · rintro i x H3 H4 hi ⟨us, sm, hD, hU⟩ ⟨T', x1, x2, rfl, nT', rfl, f1, f2⟩
      obtain ⟨r, ra, er, rfl, hra⟩ := hW.get f1
      obtain ⟨sv, hv, rfl⟩ := map_get f2
      have gz : (blK ss)[i]? = some (r, (0, sv)) := by
        unfold blK
        rw [List.getElem?_zipWith, er, hv]
      have nDT : DD ≠ T' := ne_of_none hD nT'
      have lu := hU.len
      refine ⟨T', _, rfl, SqT.of upd_same, rfl, _, _, rfl, _, _, rfl, rfl, rfl, ?_⟩
      have z1 := same_new (o := .tup [.ref ra, .int sv]) nT'
      refine ⟨_, rfl, _, rfl, (by show 3 ≤ sizeLine; decide), fun TT nTT => ?_⟩
      have z2 := same_new (o := .tup [.ref ra, .int 0, .int sv]) nTT
      have z12 := z1.trans z2
      have hD2 := z12 _ _ hD
      have tu : Tups K (upd (upd H3 T' (.tup [.ref ra, .int sv])) TT (.tup [.ref ra, .int 0, .int sv])) (upd (upd (upd H3 T' (.tup [.ref ra, .int sv])) TT (.tup [.ref ra, .int 0, .int sv])) DD (.lst (us ++ [.ref TT]))) := tups_lst hD2
      refine ⟨us, hD2, ?_, us ++ [.ref TT], Same.upd_out (sm.trans z12) nDD, upd_same, ?_⟩
      · refine small1000 ?_
        have := List.length_take_le i (blK ss)
        rw [lu]
        have h3' := List.length_take_le' i (blK ss)
        omega
      · rw [take_more gz]
        exact FkAt.app (k := (r, (0, sv))) (tu _ _ (SqT.of upd_same)) (tu _ _ (Same.sqT (sm.trans z12) hra)) (FkAt.mono (fun b ys e => tu b ys (Same.sqT z12 e)) hU)
    rintro H3 ⟨us, sm, hD, hU⟩
    rw [List.take_of_length_le (by rw [lb, hle, List.length_map]; omega)] at hU
    have s13 := (s1.trans s2).trans sm
    have hA3 := Same.sqT sm hA2
    refine ⟨_, rfl, _, rfl, _, rfl, DD, a, us, blK ss, ss, n, rfl, (show SqL K H3 DD us from SqL.of hD), hU, hA3, D, l3, hn, (bl_key l1 l3 D.one).1, by omega, fun H4 tv s4 htv => ?_⟩
    refine fun x dx nx ndx nex => ?_
    have s5 := made_same (C := C) nx ndx
    obtain ⟨O, _⟩ := bl_ok D l1 l3 hn
    refine ⟨x, dx, a, tv, ss, n, blT ss n, rfl, upd_same, Same.sqT (s4.trans s5) hA3, TrAt.mono (Same.tups s5) htv, D, l1, l3, hn, O.wf, O.sz, O.dp, fun H6 S6 k6 => ⟨rfl, ?_⟩⟩
    have s16 := (s13.trans s4).trans (L2.Same.made nx ndx k6)
    rcases hq with ⟨rfl, hq⟩ | ⟨qq, rfl, hq⟩
    · exact ⟨_, rfl, rfl, true, congrArg V.bl (decide_eq_true rfl), iteT ⟨_, rfl, hq H6 x s16 S6⟩⟩
    · obtain ⟨⟨dx6, a6, v6, h6, _, _⟩, _⟩ := id S6
      exact ⟨_, rfl, rfl, false, congrArg V.bl (decide_eq_false (by intro z; cases z)), iteF ⟨_, rfl, x, dx6, _, rfl, h6, sf_no _ _ _ _ _ (by decide +kernel), _, rfl, hq H6 x s16 S6⟩⟩
end
end Lk



namespace Lx
open PySem L2 PySem.Spec PyProof.Rows LamX Lk
/-- _law_try(e) in X itself, e a lambda that was made in X -/
theorem pe_keptO {X : Cx} {g fF CS : Addr} {k : Nat} {ms : List Lm} {e : Expr} {te : TE} {p pos : Pos} (R : TryT X.K X.mg g) (FT : FieldT X.K X.mg fF) (hS : X.mg "ScanError" = some (.ref CS)) (hg : Gl X "_law_try") (ok : ∀ m ∈ ms, LmOk X m k) (hr : Room (k + 2) X.A) (hr2 : Room 2 X.A) (he : PE X e te)
    (hst : starEach [e] X.env = (false, eval e X.env) :: starEach [] X.env := by rfl) : PE X (.Call (.Name "_law_try" p) [e] [] pos) (fun σ H Q => tKept X CS ms σ te σ H Q) := by
  obtain ⟨oc, od, kV, doc, pm, an, cdv, ct, osl, lk, hcd⟩ := R.lk
  refine ⟨fun pins s σ H Q I h => ?_⟩
  refine wpAny_Call_Name_kw (ld_glob I hg R.at_ ?_ (by decide))
  refine PySem.W.callWith_K (h₀ := X.base) I.ok.mod.kin R.kp ?_ hst (by rfl)
  rw [hst]
  refine Calls.spliced_cons (thn (he.run pins s σ H _ I h) fun u s1 h1 => ?_)
  obtain ⟨v, H1, I1, rv, f, c', fd, m, rfl, hm, hf, li, hc, df, q⟩ := h1
  obtain rfl : u = Value.ref f := rv
  refine Calls.spliced_nil ⟨I1.kIn, ?_⟩
  have C := CellsAt.of I1
  have rc : codeAny (model X.prog X.w) X.A (.call (.ref g) ⟨[.ref f], []⟩) (CR C8.CX0 X.stack X.prog X.w H1 s1 Q C8.E0) s1 := by
    refine run_ofS (N := ["_law_ask", "_law_e"]) (ps := ["_law_ask"]) (us := [.ref f]) (vs := [.ref f]) lk hcd scTry hr I1.env0 ((Binds.all fun us hl => match us, hl with | [_], _ => rfl) s1 [.ref f] I1.kIn rfl) (.cons rfl .nil) rfl fun hr' => ?_
    have G := try_gives (X := X) (g := g) (cdg := cdv) (q := X.env.qual ++ "<lambda>") (k := 0) FT hS fun s => hr2.deeper _
    have act : ∀ (W : WX) (pn' : List (Addr × Obj)) (xe' : Value → Shared → Prop) (E : XK) (p1 p2 : Pos), Takes ((cxOf C8.CX0 X.prog X.w X.K X.mg X.base ["_law_ask", "_law_e"] "_law_try" (defScope sTry) g cdv X.A X.stack s1 H1 C8.E0).tr pn' xe') W → (∀ cls d σ' H', E cls d H' → W cls d σ' H') →
        PE ((cxOf C8.CX0 X.prog X.w X.K X.mg X.base ["_law_ask", "_law_e"] "_law_try" (defScope sTry) g cdv X.A X.stack s1 H1 C8.E0).tr pn' xe') (.Call (.Name "_law_ask" p1) [] [] p2) (fun σZ HZ Q => σZ[0]? = some (some (.ref f)) ∧ HZ c' = some (CodeO c' (X.env.qual ++ "<lambda>")) ∧ (HZ f = some (LamO f fd) ∧ Dfl HZ m fd ∧ m.t E σ HZ Q)) := by
      intro W pn' xe' E p1 p2 tk hW
      refine ⟨fun pz sz σz Hz Qz Iz hz => ?_⟩
      obtain ⟨z1, z2, z3, z4, z5⟩ := hz
      refine wpAny_Call_Name_kw (thn ((pe_var (pos := p1) (i := 0) rfl (.inl rfl) (by decide) (by decide)).run pz sz σz Hz (fun v G1 => v = .ref f ∧ G1 = Hz) Iz ⟨.ref f, z1, rfl, rfl⟩) fun u s2 h2 => ?_)
      obtain ⟨v, G1, I2, r2, rfl, rfl⟩ := h2
      obtain rfl : u = Value.ref f := r2
      have un : Un (frs X.stack) [] H1 G1 s1.heap s2.heap := I2.base
      have C2 := C.un un fun x c _ => by simp
      have call := lam_run (E := E) (Q := Qz) (ok m hm) C2 I2.env0 hr' I2.nolimit z3 li z2 z4 z5
      refine PySem.W.callWith_F0 ⟨_, _, _, _, (I2.hok f _ z3).1⟩ ?_
      have hx : Passes (L2.CX X.prog X.w) ((cxOf C8.CX0 X.prog X.w X.K X.mg X.base ["_law_ask", "_law_e"] "_law_try" (defScope sTry) g cdv X.A X.stack s1 H1 C8.E0).tr pn' xe') E := passes_call tk hW
      refine wpAny_call (codeAny_mono call fun r s' hq => ?_)
      cases r with
      | error e => exact hx pz σz G1 s2 e s' I2 hq
      | ok fl =>
        cases fl with
        | ret u => exact I2.after hq
        | next => exact False.elim hq
        | brk => exact False.elim hq
        | cont => exact False.elim hq
    obtain ⟨t', ht', hq'⟩ := G f c' s1 H1 Q (fun E H2 Q2 => H2 f = some (LamO f fd) ∧ Dfl H2 m fd ∧ m.t E σ H2 Q2) act hc q
    exact ⟨t', ht'.nox, hq'⟩
  refine wpAny_call (codeAny_mono rc fun r s2 hq => ?_)
  cases r with
  | error e => exact (show False from hq).elim
  | ok fl =>
    cases fl with
    | ret u => exact I1.after hq
    | next => exact False.elim hq
    | brk => exact False.elim hq
    | cont => exact False.elim hq
end Lx

namespace Lk
open PySem L2 Lx LamX LrA LqA
abbrev lN : List Str := ["_law_script", "_law_bag_here", "_law_turn", "_law_directions", "_law_sides", "_law_pair", "_law_plain", "_law_inner_z", "_law_word", "_law_scan", "_law_wide", "_law_k", "_law_one", "_law_two", "_law_blocks", "_law_due", "_law_bad", "_law_other", "_law_at", "_law_place_here", "_law_side"]
abbrev lX (P : Program) (w : World) (K : PySem.W.Frag) (mg : Str → Option Value) (base : Heap) (f cda : Addr) (A : Around) (outer : List Env) (s : Shared) (H : Hp) (E : XK) : Cx := (cxOf CX0 P w K mg base lN "law" (defScope sLaw) f (.ref cda) A outer s H E).nox
def scPl : Scope := { kind := .function, names := [(Str.ofString ".0", .local), (Str.ofString "_law_place_here", .local), (Str.ofString "tuple", .globalImplicit), (Str.ofString "zip", .globalImplicit), (Str.ofString "_law_sides", .cell)], isGenerator := false, isCoroutine := false }
def gl2 : List V → List V → List V := fun a b => a ++ b
def glV : List Value → List Value → List Value := fun a b => a ++ b
def spB1 (K : PySem.W.Frag) (C C2 : Addr) : Sp := fun vs H Q E => (spBlocks K C vs H Q E ∨ spBlocksI K C (fun vs H Q E => spThen K C vs H Q E ∨ spThenM K C C2 vs H Q E) vs H Q E) ∨ spBlocksM K C2 vs H Q E
def spB3 (K : PySem.W.Frag) (C CU : Addr) : Sp := fun vs H Q E => spBlocks K C vs H Q E ∨ spBlocksI K C (spThenU K C CU) vs H Q E
def spB0 (K : PySem.W.Frag) (C : Addr) : Sp := fun vs H Q E => spBlocks K C vs H Q E ∨ spBlocksI K C (spThen K C) vs H Q E
def tQuo (K : PySem.W.Frag) : TE := tCB (fun xs H Q => ∃ p ys, xs = [.ref p] ∧ ((SqL K H p ys ∧ ∀ l, H l = none → Q (.ref l) (upd H l (.tup ys))) ∨ (SqT K H p ys ∧ Q (.ref p) H))) (tCons (tLc (RZ.iZipA K (tCons (tVar 19) (tCons (tVar 4) tNil))) (gTup K 2 (gCons (gName 18) (gCons (gName 20) gNil))) tYes (tOp (rI CDiv fun i j => .int (i / j)) (tCB (fun xs H Q => (∃ i, xs = [.int i] ∧ Q (.int i) H) ∨ ∃ k, xs = [.bl k] ∧ Q (.int (if k then 1 else 0)) H) (tCons (tVar 18) tNil)) (tCB (fun xs H Q => ∃ i j, xs = [.int i, .int j] ∧ Q (.int (if j > i then j else i)) H) (tCons (tC (.int 1)) (tCons (tVar 20) tNil)))) [18, 20]) tNil)
structure St15 (K : PySem.W.Frag) (C Pt b l a p : Addr) (ss es : List Int) (m : Nat) (u : Tr) (G : Hp) : Prop where
  bg : BagAt G b l
  tb : Tabs [(Pt, lamQ)] G
  ha : SqT K G a (ss.map V.int)
  px : PairAt K G p es m u
section
variable {K : PySem.W.Frag} {C Pt b l a p : Addr} {ss es : List Int} {m : Nat} {u : Tr} {G G' : Hp}
theorem St15.same (S : St15 K C Pt b l a p ss es m u G) (e : Same G G') : St15 K C Pt b l a p ss es m u G' := ⟨BagAt.same S.bg e, S.tb.ext e, Same.sqT e S.ha, S.px.mono (Same.tups e)⟩
theorem St15.but (S : St15 K C Pt b l a p ss es m u G) (e : But b G G') (B : BagAt G' b l) : St15 K C Pt b l a p ss es m u G' := ⟨B, Tabs.but S.tb S.bg e, e.sqT S.bg S.ha, S.px.mono (But.tups S.bg e)⟩
theorem St15.extN (S : St15 K C Pt b l a p ss es m u G) (e : ExtN G G') (tb : Tabs [(Pt, lamQ)] G') : St15 K C Pt b l a p ss es m u G' := ⟨S.bg.extN e, tb, ExtN.tups e _ _ S.ha, S.px.mono (ExtN.tups e)⟩
end
def In15 (K : PySem.W.Frag) (C : Addr) (es : List Int) (m : Nat) (u : Tr) (G : Hp) (pl : Bool) (iv : V) : Prop := (pl = true ∧ iv = .non) ∨ (pl = false ∧ ∃ q, iv = .ref q ∧ ScanAt K C G q es m u)
section
variable {K : PySem.W.Frag} {C : Addr} {es : List Int} {m : Nat} {u : Tr} {G G' : Hp} {pl : Bool} {iv : V}
theorem In15.same (h : In15 K C es m u G pl iv) (e : Same G G') : In15 K C es m u G' pl iv := h.imp id fun ⟨a, q, b, c⟩ => ⟨a, q, b, c.same e⟩
theorem In15.extN (h : In15 K C es m u G pl iv) (e : ExtN G G') : In15 K C es m u G' pl iv := h.imp id fun ⟨a, q, b, c⟩ => ⟨a, q, b, c.extN e⟩
theorem In15.but {b l : Addr} (h : In15 K C es m u G pl iv) (B : BagAt G b l) (e : But b G G') : In15 K C es m u G' pl iv := h.imp id fun ⟨a, q, b, c⟩ => ⟨a, q, b, c.but B e⟩
end
def rd15 (pl : Bool) (ss es : List Int) : List Int := if pl = true then ss else comD ss es
def rt15 (pl : Bool) (ss es : List Int) (n n' : Nat) (u : Tr) : Tr := if pl = true then blT ss n else thT ss es (comD ss es) n' (blT ss n) u
def rn15 (pl : Bool) (n n' : Nat) : Nat := if pl = true then n else n'
def W15 (pl : Bool) (ss es : List Int) : Bool := decide (12 < prodL ss) || (!pl && decide (12 < prodL (comD ss es)))
def Bo15 (K : PySem.W.Frag) (C : Addr) (pl : Bool) (ss es : List Int) (n n' : Nat) (u : Tr) (G : Hp) (wd bo : V) : Prop :=
  (W15 pl ss es = false ∧ wd = .str "value" ∧ ∃ r, bo = .ref r ∧ ScanAt K C G r (rd15 pl ss es) (rn15 pl n n') (rt15 pl ss es n n' u)) ∨ (W15 pl ss es = true ∧ wd = .str "TooManyClasses" ∧ bo = .int 12)
section
variable {K : PySem.W.Frag} {C : Addr} {ss es : List Int} {n n' m : Nat} {u : Tr} {G G' : Hp} {pl : Bool} {wd bo : V}
theorem Bo15.same (h : Bo15 K C pl ss es n n' u G wd bo) (e : Same G G') : Bo15 K C pl ss es n n' u G' wd bo := h.imp (fun ⟨a, b, r, c, d⟩ => ⟨a, b, r, c, d.same e⟩) id
theorem w15_no (h1 : ∀ z ∈ ss, 1 ≤ z) (h2 : ∀ z ∈ es, 1 ≤ z) (h : W15 pl ss es = false) : Divs ss ∧ (pl = false → Divs (comD ss es)) := by
  unfold W15 at h
  obtain ⟨a, b⟩ := Bool.or_eq_false_iff.mp h
  have a' := of_decide_eq_false a
  refine ⟨⟨h1, by omega⟩, fun e => ⟨com_one h1 h2, ?_⟩⟩
  rw [e] at b
  have b' := of_decide_eq_false (show decide (12 < prodL (comD ss es)) = false from b)
  omega
theorem ord15 (O2 : ScanOk es m u) (hl : ss.length = es.length) (l1 : 1 ≤ ss.length) (l3 : ss.length ≤ 3) (hn : prodL ss = (n : Int)) (hn' : prodL (comD ss es) = (n' : Int)) (h1 : ∀ z ∈ ss, 1 ≤ z) (hw : W15 pl ss es = false) {x y : List Int} (hx : x.length = ss.length) (hy : y.length = ss.length) :
    HT.lexLt (full (rd15 pl ss es) (rt15 pl ss es n n' u) x) (full (rd15 pl ss es) (rt15 pl ss es n n' u) y) = (if blQ ss x = blQ ss y then (if pl = true then HT.lexLt x y else HT.lexLt (full es u x) (full es u y)) else HT.lexLt (blQ ss x) (blQ ss y)) ∧
    decide (pth (rt15 pl ss es n n' u) (cls (rd15 pl ss es) x) x = pth (rt15 pl ss es n n' u) (cls (rd15 pl ss es) y) y) = (if blQ ss x = blQ ss y then (if pl = true then true else decide (pth u (cls es x) x = pth u (cls es y) y)) else false) := by
  obtain ⟨D, D'⟩ := w15_no h1 O2.dv.one hw
  have bx := bl_pth D hn l1 l3 hx
  have by_ := bl_pth D hn l1 l3 hy
  have be := bl_eq (ss := ss) (x := x) (y := y) h1 hx hy
  cases pl with
  | true =>
    have e1 : rd15 true ss es = ss := rfl
    have e2 : rt15 true ss es n n' u = blT ss n := rfl
    rw [e1, e2, bx, by_]
    constructor
    · show lx (pth (blT ss n) (cls ss x) x ++ x) (pth (blT ss n) (cls ss y) y ++ y) = _
      rw [bx, by_, bl_lt h1 hx hy]
      rfl
    · by_cases e : blQ ss x = blQ ss y
      · rw [if_pos e, decide_eq_true (be.mpr e)]
        rfl
      · rw [if_neg e, decide_eq_false fun z => e (be.mp z)]
  | false =>
    have e1 : rd15 false ss es = comD ss es := rfl
    have e2 : rt15 false ss es n n' u = thT ss es (comD ss es) n' (blT ss n) u := rfl
    have O := (bl_ok D l1 l3 hn).1
    have lt := th_lt O O2 hl (D' rfl) hn' hx hy
    have ti := th_tied O O2 hl (D' rfl) hn' hx hy
    rw [bx, by_] at lt ti
    rw [e1, e2]
    constructor
    · refine lt.trans ?_
      by_cases e : blQ ss x = blQ ss y
      · rw [if_pos e, if_pos (be.mpr e)]
        rfl
      · rw [if_neg e, if_neg fun z => e (be.mp z)]
        show lx (pth (blT ss n) (cls ss x) x ++ x) (pth (blT ss n) (cls ss y) y ++ y) = _
        rw [bx, by_, bl_lt h1 hx hy, if_neg e]
    · by_cases e : blQ ss x = blQ ss y
      · rw [if_pos e]
        exact decide_eq_decide.mpr ⟨fun h => (ti.mp h).2, fun h => ti.mpr ⟨be.mpr e, h⟩⟩
      · rw [if_neg e]
        exact decide_eq_false fun h => e (be.mp (ti.mp h).1)
end
theorem end15 : (cellN [2, 4]).mergeSort (leF [2, 2] (blT [2, 2] 4)) = [[0, 0], [0, 1], [1, 0], [1, 1], [0, 2], [0, 3], [1, 2], [1, 3]] :=
  order_is (by decide +kernel) (by decide +kernel) (by decide +kernel)
theorem quo_max {s : Int} (h : 1 ≤ s) : (if s > 1 then s else 1) = s := by
  by_cases e : s > 1
  · rw [if_pos e]
  · rw [if_neg e]; omega
theorem ne_pairs {K : PySem.W.Frag} {H : Hp} {a b : Addr} {x y : V} {d e : PyData} {Q : VK} (ha : SqT K H a [x, y]) (hb : SqT K H b [x, y]) (hx : Dp K H x d) (hy : Dp K H y e) (s : SeqAt.shaped (.tuple [d, e]) = true) (z : PyData.eqv (.tuple [d, e]) (.tuple [d, e]) = true) (q : Q (.bl false) H) : rNeD K (.ref a) (.ref b) H Q := by
  refine ⟨.tuple [d, e], .tuple [d, e], .tup ha (.cons hx (.cons hy .nil)), .tup hb (.cons hx (.cons hy .nil)), s, s, ?_⟩
  rw [z]
  exact q
theorem dd_pairV {K : PySem.W.Frag} {H : Hp} {a b : Addr} {tg : Str} {u : V} (ha : SqT K H a [.str tg, u]) (hb : SqT K H b [.str tg, u]) (hu : DD K H 2 u u) : DD K H 3 (.ref a) (.ref b) := by
  refine .inr ⟨a, b, _, _, rfl, rfl, .inl ⟨ha, hb⟩, rfl, (by show 2 ≤ 1000; decide), fun i x y f1 f2 => ?_⟩
  rw [f1] at f2
  cases f2
  rcases List.mem_cons.mp (List.mem_of_getElem? f1) with e | e
  · rw [e]
    exact .inl ⟨rfl, rfl⟩
  · rw [List.mem_singleton.mp e]
    exact hu
theorem snoc_of {l : List Int} (h : 1 ≤ l.length) : ∃ li a, l = li ++ [a] := by
  have hne : l ≠ [] := fun e => by rw [e] at h; exact absurd h (by decide)
  exact ⟨l.dropLast, l.getLast hne, (List.dropLast_concat_getLast hne).symm⟩
theorem map_snoc (li : List Int) (a : Int) : (li ++ [a]).map V.int = li.map V.int ++ [.int a] := by rw [List.map_append]; rfl
def Bd15 (K : PySem.W.Frag) (H : Hp) (v : V) : Prop := ∃ o, OD K H v o ∧ sdB o 1 = false
theorem Bd15.mono {K : PySem.W.Frag} {H H' : Hp} {v : V} (h : Bd15 K H v) (e : Tups K H H') : Bd15 K H' v := by
  obtain ⟨o, h1, h2⟩ := h
  exact ⟨o, OD.mono e h1, h2⟩
theorem bd_sc {K : PySem.W.Frag} {H : Hp} {v : V} (h : scal v = true) : Bd15 K H v := ⟨none, h, rfl⟩
theorem bd_tup {K : PySem.W.Frag} {H : Hp} {a : Addr} {xs : List V} (h : SqT K H a xs) (hl : xs.length ≤ 12) (hs : ∀ x ∈ xs, scal x = true) (z : sdB (some xs) 1 = false) : Bd15 K H (.ref a) := ⟨some xs, ⟨a, rfl, h, hl, fun x hx => .inl (hs x hx)⟩, z⟩
theorem sdB_low {xs : List Int} {z : Int} (hz : z < 1) : sdB (some (xs.map V.int ++ [V.int z])) 1 = false := by
  rw [sdB_some]
  have : ((xs.map V.int ++ [V.int z]).all fun x => decide (1 ≤ uI x)) = false := by
    rw [List.all_append]
    have : ([V.int z].all fun x => decide (1 ≤ uI x)) = false := by
      show (decide (1 ≤ z) && true) = false
      rw [decide_eq_false (by omega)]
      rfl
    rw [this, Bool.and_false]
  rw [this, Bool.and_false, Bool.and_false]
theorem sc_ints {xs : List Int} {z : Int} : ∀ x ∈ xs.map V.int ++ [V.int z], scal x = true := fun x hx => by
  rcases List.mem_append.mp hx with h | h
  · obtain ⟨y, _, rfl⟩ := List.mem_map.mp h
    rfl
  · rw [List.mem_singleton.mp h]
    rfl
section
variable {P : Program} {w : World} {K : PySem.W.Frag} {mg : Str → Option Value} {base : Heap}
theorem ok_law {f g fF CS C CB C2 CU cda Pt dd pNd fB fP fO fL fA fSm fS fCm fCt fBf fLt fI fBl fC_ fTd fOr fEq fNd : Addr} {fdB fdP fdO fdL fdA fdSm fdS fdCm fdCt fdBf fdLt fdI fdBl fdC_ fdTd fdOr fdEq fdNd : FuncData} {dJ dB : List Value} {k : Nat}
    {oc kV doc pm ct : Value} {od an : Option Addr} {osl : Array (Option Value)} (lk : K.lookup f = some ⟨oc, od, .func (PySem.W.fnOf "law" "law" (defArgs sLaw) (defBody sLaw) (defScope sLaw) .none kV doc pm an (.ref cda) ct), osl⟩) (hcd : PySem.W.codeIn K (.ref cda) "law" = true) (TB : TabB base mg cda Pt)
    (T : Txt K mg C) (mr : mg "range" = none) (mt : mg "tuple" = none) (mz : mg "zip" = none) (mi : mg "int" = none) (mx : mg "max" = none)
    (GB : FnOk P w K mg base CX0 (k + 1) fB fdB ["_law_script"] (spBag K)) (kB : PySem.W.keepIn K (.ref fB) = true) (bB : Binds K fdB ["_law_script"] []) (gB : mg "_law_bag" = some (.ref fB))
    (GP : FnOk P w K mg base CX0 (k + 1) fP fdP ["_law_bag_here", "_law_amount"] spPull) (kP : PySem.W.keepIn K (.ref fP) = true) (bP : Binds K fdP ["_law_bag_here", "_law_amount"] []) (gP : mg "_law_pull" = some (.ref fP))
    (GO : FnOk P w K mg base CX0 (k + 2) fO fdO ["_law_bag_here", "_law_things"] (spOf K)) (kO : PySem.W.keepIn K (.ref fO) = true) (bO : Binds K fdO ["_law_bag_here", "_law_things"] []) (gO : mg "_law_of" = some (.ref fO))
    (GL : FnOk P w K mg base CX0 (k + 2) fL fdL ["_law_bag_here", "_law_directions", "_law_size"] spPlace) (kL : PySem.W.keepIn K (.ref fL) = true) (bL : Binds K fdL ["_law_bag_here", "_law_directions", "_law_size"] []) (gL : mg "_law_place" = some (.ref fL))
    (GA : FnOk P w K mg base CX0 (k + 1) fA fdA ["_law_one", "_law_other"] (spPlus K)) (kA : PySem.W.keepIn K (.ref fA) = true) (bA : Binds K fdA ["_law_one", "_law_other"] []) (gA : mg "_law_plus" = some (.ref fA))
    (GSm : FnOk P w K mg base CX0 (k + 1 + 4) fSm fdSm ["_law_found", "_law_due"] (spSame K 4)) (kSm : PySem.W.keepIn K (.ref fSm) = true) (bSm : Binds K fdSm ["_law_found", "_law_due"] []) (gSm : mg "_law_same" = some (.ref fSm))
    (GS : FnOk P w K mg base CX0 (k + 6) fS fdS ["_law_bag_here", "_law_directions"] (spSmall K)) (kS : PySem.W.keepIn K (.ref fS) = true) (bS : Binds K fdS ["_law_bag_here", "_law_directions"] []) (gS : mg "_law_small_scan" = some (.ref fS))
    (GCm : FnOk P w K mg base CX0 (k + 3) fCm fdCm ["_law_one", "_law_other"] (spCom K)) (kCm : PySem.W.keepIn K (.ref fCm) = true) (bCm : Binds K fdCm ["_law_one", "_law_other"] []) (gCm : mg "_law_common" = some (.ref fCm))
    (GCt : FnOk P w K mg base CX0 (k + 1) fCt fdCt ["_law_divisors_here"] (spProdB K)) (kCt : PySem.W.keepIn K (.ref fCt) = true) (bCt : Binds K fdCt ["_law_divisors_here"] []) (gCt : mg "_law_count" = some (.ref fCt))
    (GBf : FnOk P w K mg base CX0 (k + 3) fBf fdBf ["_law_pair", "_law_one", "_law_other"] (spBefore K)) (kBf : PySem.W.keepIn K (.ref fBf) = true) (bBf : Binds K fdBf ["_law_pair", "_law_one", "_law_other"] []) (gBf : mg "_law_before" = some (.ref fBf))
    (GLt : FnOk P w K mg base CX0 (k + 4) fLt fdLt ["_law_pair", "_law_one", "_law_other"] (spLTied K)) (kLt : PySem.W.keepIn K (.ref fLt) = true) (bLt : Binds K fdLt ["_law_pair", "_law_one", "_law_other"] []) (gLt : mg "_law_tied" = some (.ref fLt))
    (GI : FnOk P w K mg base CX0 (k + 8) fI fdI ["self", "divisors", "tree"] (spInit K C)) (bI : Binds K fdI ["self", "divisors", "tree"] []) (MI : Mk K C fI) (bJ : Binds K fdI ["self", "divisors", "tree"] dJ) (rJ : Vals [V.ref dd] dJ) (hdd : ∀ H, SqT K H dd [V.str "places"])
    (GBl : FnOk P w K mg base CX0 (k + 28) fBl fdBl ["sides", "inner"] (spB0 K C)) (GB1 : FnOk P w K mg base (L2.CX P w) (k + 28) fBl fdBl ["sides", "inner"] (spB1 K C C2)) (GBB : FnOk P w K mg base (L2.CX P w) (k + 28) fBl fdBl ["sides", "inner"] (spBlocksB K CB)) (GB3 : FnOk P w K mg base (L2.CX P w) (k + 28) fBl fdBl ["sides", "inner"] (spB3 K C CU))
    (kBl : PySem.W.keepIn K (.ref fBl) = true) (bBl : Binds K fdBl ["sides", "inner"] dB) (rBl : Vals [V.non] dB) (KBl : KBn K fdBl ["sides", "inner"] 1 ["inner"] glV gl2) (gBl : mg "blocks_scan" = some (.ref fBl))
    (GC : FnOk P w K mg base CX0 (k + 5) fC_ fdC_ ["self", "one", "other"] (spCall K C)) (bC : Binds K fdC_ ["self", "one", "other"] []) (cO : StX.CallO K C fC_)
    (GTd : FnOk P w K mg base CX0 (k + 5) fTd fdTd ["self", "one", "other"] (spTied K C)) (bTd : Binds K fdTd ["self", "one", "other"] []) (mTd : Meth K C "tied" fTd)
    (GOr : FnOk P w K mg base CX0 (k + 8) fOr fdOr ["self", "box"] (spOrder K C)) (bOr : Binds K fdOr ["self", "box"] []) (mOr : Meth K C "order" fOr)
    (GEq : FnOk P w K mg base CX0 (k + 1) fEq fdEq ["self", "other"] (spEq (Alike K C))) (bEq : Binds K fdEq ["self", "other"] []) (aEq : PySem.W.findIn K (.ref C) "__eq__" = some (some (.ref fEq))) (iEq : PySem.W.isFn K (.ref fEq) = true)
    (GNd : FnOk P w K mg base CX0 (k + 1) fNd fdNd ["self"] (getSp C "node_total")) (bNd : Binds K fdNd ["self"] []) (pNd_ : PropOf K C "nodes" pNd fNd)
    (TR : TryT K mg g) (FT : FieldT K mg fF) (hSE : mg "ScanError" = some (.ref CS)) (hExB : PySem.W.exmOne K (.ref CB) (.ref CS) = some true) (RDB : RdC K CB) (hEx2 : PySem.W.exmOne K (.ref C2) (.ref CS) = some true) (RD2 : RdC K C2) (hExU : PySem.W.exmOne K (.ref CU) (.ref CS) = some true) (RDU : RdC K CU) :
    FnOk P w K mg base CX0 (k + 32) f (PySem.W.fnOf "law" "law" (defArgs sLaw) (defBody sLaw) (defScope sLaw) .none kV doc pm an (.ref cda) ct) ["_law_script"] (spLaw K Pt) := by
  refine fn_of lk hcd scLaw (fun vs H Q E h => ?_) (fun A outer s H vs Q E hr h => ?_)
  · obtain ⟨a, ns, rfl, _⟩ := h
    rfl
  · obtain ⟨a0, ns, rfl, hS0, hTb, q⟩ := h
    have hr1 : Room (k + 1) _ := hr.mono (by omega)
    have hr2 : Room (k + 2) _ := hr.mono (by omega)
    have hr3 : Room (k + 3) _ := hr.mono (by omega)
    have hr4 : Room (k + 4) _ := hr.mono (by omega)
    have hr5 : Room (k + 5) _ := hr.mono (by omega)
    have hr6 : Room (k + 6) _ := hr.mono (by omega)
    have hr8 : Room (k + 8) _ := hr.mono (by omega)
    have hr9 : Room (k + 8 + 1) _ := hr.mono (by omega)
    have hrSm : Room (k + 1 + 4) _ := hr.mono (by omega)
    have hr28 : Room (k + 28) _ := hr.mono (by omega)
    have hr30 : Room (k + 28 + 2) _ := hr.mono (by omega)
    have hrp : Room (k + 1 + 1) _ := hr.mono (by omega)
    have hrq : Room 2 _ := hr.mono (by omega)
    have GR := FnOk.raw GC bC (dvs := []) .nil
    suffices hh : ∃ t, PSs (lX P w K mg base f cda A outer s H E) (defBody sLaw) t ∧ t { nx := fun _ H' => Q .non H', rt := Q } (start lN [.ref a0]) H by
      obtain ⟨t, h1, h2⟩ := hh
      exact ⟨t, h1.nox, h2⟩
    refine ⟨_, (pss_cons (ps_set (i := 1) scLaw.nd rfl (.inr rfl) (pe_call GB hr1 (by rfl) gB kB bB .nil pass0 (pa_cons (pv 0) pa_nil)))
          (pss_cons (ps_for PassesOwn.never rfl (pi_range1 (by rfl) mr (pa_cons pe_int pa_nil)) (pg_name (i := 2) scLaw.nd rfl (.inl rfl))
          (pss_cons (ps_set (i := 3) scLaw.nd rfl (.inl rfl) (pe_op op_add pe_int (pe_call GP hr1 (by rfl) gP kP bP .nil pass0 (pa_cons (pv 1) (pa_cons pe_int pa_nil)))))
          (pss_cons (ps_set (i := 4) scLaw.nd rfl (.inr rfl) (pe_callTy call_tuple_of (by rfl) mt (by decide +kernel) (pa_cons (pe_lc (own := [("_law_at", 18)]) (g := gName 18) (by rfl) scLaw.nd (pi_range1 (by rfl) mr (pa_cons (pv 3) pa_nil))
            (blkOk_by (own := [("_law_at", 18)]) (N := lN) (sc := defScope sLaw) (by decide +kernel)) (fun _ _ _ _ _ => pg_name (i := 18) scLaw.nd rfl (Or.inl rfl)) (fun _ _ _ _ _ => pts_nil)
            (fun _ _ _ _ _ => pe_op op_add pe_int (pe_call GP hr1 (by rfl) gP kP bP .nil pass0 (pa_cons (pv 1) (pa_cons pe_int pa_nil))))) pa_nil)))
          (pss_cons (ps_par (i := 5) (j := 6) (by rfl) scLaw.nd rfl rfl (by decide) rfl rfl (pa_cons (pe_call GS hr6 (by rfl) gS kS bS .nil pass0 (pa_cons (pv 1) (pa_cons (pv 3) pa_nil))) (pa_cons (pe_cmpR op_eq (pe_call GP hr1 (by rfl) gP kP bP .nil pass0 (pa_cons (pv 1) (pa_cons pe_int pa_nil))) pe_int (nomark _)) pa_nil)) (by rfl))
          (C8.pss_cut (ps_set (i := 7) scLaw.nd rfl (.inr rfl) (pe_ifExp (pt_val (pv 6)) pe_non (pe_make MI GI hr9 (by rfl) T.mgC bI .nil pass0 (pa_cons (pe_ix ix_tup (pv 5) pe_int (fun _ _ => rfl)) (pa_cons (pe_ix ix_tup (pv 5) pe_int (fun _ _ => rfl)) pa_nil)))))
          (C8.pss_cut (ps_asg (pe_tried (k := k + 28) TR FT hSE (by rfl) TB rfl hr30 hrq (lamS_by (sc := defScope sLaw) (by decide +kernel)) rfl (fun _ _ _ _ _ => rfl)
              (t := fun E => tCallN 1 (["inner"] : List Str).length (spB1 K C C2) gl2 E (tCons (tVar 4) tNil) (tCons (tVar 7) tNil))
              (fun A outer s H E f c' hr' => pe_callN GB1 hr' (by rfl) gBl kBl KBl (passes_call (E := E) (takes_of rfl rfl rfl rfl) (fun _ _ _ _ h => h)) (pa_cons (pv 4) pa_nil) (pk_cons (pv 7) pk_nil))) (pg_tup rfl (pgs_cons (pg_name (i := 8) scLaw.nd rfl (.inl rfl)) (pgs_cons (pg_name (i := 9) scLaw.nd rfl (.inl rfl)) pgs_nil))))
          (C8.pss_cut (ps_set (i := 10) scLaw.nd rfl (.inl rfl) (pe_or (pe_cmpR op_gt (pe_call GCt hr1 (by rfl) gCt kCt bCt .nil pass0 (pa_cons (pv 4) pa_nil)) pe_int (nomark _)) (pe_one (pe_and (pe_not (pv 6)) (pe_one (pe_cmpR op_gt (pe_call GCt hr1 (by rfl) gCt kCt bCt .nil pass0 (pa_cons (pe_call GCm hr3 (by rfl) gCm kCm bCm .nil pass0 (pa_cons (pv 4) (pa_cons (pe_ix ix_tup (pv 5) pe_int (fun _ _ => rfl)) pa_nil))) pa_nil)) pe_int (nomark _)))))))
          (C8.pss_cut (ps_if (pt_val (pv 10)) (pss_one (ps_if (pt_cmpR (op_neD hr.units) (pe_tup (pa_cons (pv 8) (pa_cons (pv 9) pa_nil))) (pe_tup (pa_cons pe_str (pa_cons pe_int pa_nil))) (nomark _)) (pss_one (ps_ret pe_bl)) pss_nil)) (pss_one (ps_if (PW.pt (pw_or (pt_cmpR op_ne (pv 8) pe_str (nomark _)) (pw_or1 (PW.pt (pw_and (pt_val (pv 6)) (pw_and1 (pt_not (pt_cmpR (op_eqG (rcG_ins GEq aEq iEq bEq pass0) hr1) (pe_call GBl hr28 (by rfl) gBl kBl bBl rBl pass0 (pa_cons (pv 4) pa_nil)) (pv 9) (nomark _))))))))) (pss_one (ps_ret pe_bl)) pss_nil)))
          (C8.pss_cut (ps_for PassesOwn.never rfl (pi_range1 (by rfl) mr (pa_cons (pe_ifExp (pt_cmpR op_eq (pv 8) pe_str (nomark _)) pe_int pe_int) pa_nil)) (pg_name (i := 11) scLaw.nd rfl (.inl rfl))
          (pss_cons (ps_set (i := 12) scLaw.nd rfl (.inl rfl) (pe_call GL hr2 (by rfl) gL kL bL .nil pass0 (pa_cons (pv 1) (pa_cons (pv 3) (pa_cons (pe_call GO hr2 (by rfl) gO kO bO .nil pass0 (pa_cons (pv 1) (pa_cons (pe_lst (pa_cons pe_int (pa_cons (pe_op op_pow pe_int pe_int) pa_nil))) pa_nil))) pa_nil)))))
          (pss_cons (ps_set (i := 13) scLaw.nd rfl (.inl rfl) (pe_call GA hr1 (by rfl) gA kA bA .nil pass0 (pa_cons (pv 12) (pa_cons (pe_call GL hr2 (by rfl) gL kL bL .nil pass0 (pa_cons (pv 1) (pa_cons (pv 3) (pa_cons pe_int pa_nil)))) pa_nil))))
          (pss_cons (ps_setLc (i := 14) (own := [("_law_place_here", 19)]) (g := gName 19) (by rfl) scLaw.nd rfl rfl (sw_true rfl rfl rfl (by decide +kernel)) (pi_list (pe_lst (pa_cons (pv 12) (pa_cons (pv 13) pa_nil))))
            (blkOk_by (own := [("_law_place_here", 19)]) (N := lN) (sc := defScope sLaw) (by decide +kernel)) (fun _ _ _ _ _ => pg_name (i := 19) scLaw.nd rfl (Or.inl rfl)) (fun _ _ _ _ _ => pts_nil)
            (te := tQuo K)
            (fun _ _ _ _ _ => pe_callTy call_tuple_of (by rfl) mt (by decide +kernel) (pa_cons (pe_lc (own := [("_law_at", 18), ("_law_side", 20)]) (g := gTup K 2 (gCons (gName 18) (gCons (gName 20) gNil))) (by rfl) scLaw.nd (RZ.pi_zipA (by rfl) mz (pa_cons (pv 19) (pa_cons (pv 4) pa_nil)))
              (blkOk_by (own := [("_law_at", 18), ("_law_side", 20)]) (N := lN) (sc := scPl) (by decide +kernel))
              (fun _ _ _ _ _ => pg_tup rfl (pgs_cons (pg_name (i := 18) scLaw.nd rfl (.inl rfl)) (pgs_cons (pg_name (i := 20) scLaw.nd rfl (.inl rfl)) pgs_nil))) (fun _ _ _ _ _ => pts_nil)
              (fun _ _ _ _ _ => (pe_op op_fdiv (pe_callTy call_int1 (by rfl) mi (by decide +kernel) (pa_cons (pv 18) pa_nil)) (pe_callB (call_max2 rfl) (by rfl) mx (by decide +kernel) (pa_cons pe_int (pa_cons (pv 20) pa_nil)))))) pa_nil)))
          (pss_cons (ps_set (i := 15) scLaw.nd rfl (.inl rfl) (pe_lst (pa_cons (pe_cmpR (op_ltT hr.units0) (pe_ix ix_list (pv 14) pe_int (fun _ _ => rfl)) (pe_ix ix_list (pv 14) pe_int (fun _ _ => rfl)) (nomark _)) (pa_cons pe_bl pa_nil))))
          (C8.pss_cut (ps_if (pt_cmpR (op_eqD hr.units) (pe_ix ix_list (pv 14) pe_int (fun _ _ => rfl)) (pe_ix ix_list (pv 14) pe_int (fun _ _ => rfl)) (nomark _)) (pss_one (ps_set (i := 15) scLaw.nd rfl (.inl rfl) (pe_ifExp (pt_val (pv 6)) (pe_lst (pa_cons (pe_cmpR (op_ltT hr.units0) (pv 12) (pv 13) (nomark _)) (pa_cons pe_bl pa_nil))) (pe_lst (pa_cons (pe_call GBf hr3 (by rfl) gBf kBf bBf .nil pass0 (pa_cons (pv 5) (pa_cons (pv 12) (pa_cons (pv 13) pa_nil)))) (pa_cons (pe_call GLt hr4 (by rfl) gLt kLt bLt .nil pass0 (pa_cons (pv 5) (pa_cons (pv 12) (pa_cons (pv 13) pa_nil)))) pa_nil)))))) pss_nil)
          (pss_one (ps_if (pt_not (pt_val (pe_call GSm hrSm (by rfl) gSm kSm bSm .nil pass0 (pa_cons (pe_lst (pa_cons (StX.pe_callO (pv 9) cO GR hr5 pass0 (pa_cons (pv 12) (pa_cons (pv 13) pa_nil))) (pa_cons (pe_meth (pv 9) T.cl mTd GTd hr5 bTd .nil pass0 (pa_cons (pv 12) (pa_cons (pv 13) pa_nil))) pa_nil))) (pa_cons (pv 15) pa_nil))))) (pss_one (ps_ret pe_bl)) pss_nil))))))))
          (pss_cons (ps_set (i := 16) scLaw.nd rfl (.inr rfl) (pe_call GO hr2 (by rfl) gO kO bO .nil pass0 (pa_cons (pv 1) (pa_cons (pe_lst (pa_cons pe_non (pa_cons (pe_tup pa_nil) (pa_cons pe_int (pa_cons (pe_tup (pa_cons pe_int (pa_cons pe_int (pa_cons pe_int (pa_cons pe_int pa_nil))))) (pa_cons (pe_op op_catA (pe_slice sl_tupA (pv 4) po_none (po_some (pe_un un_neg pe_int))) (pe_tup (pa_cons pe_int pa_nil))) (pa_cons (pe_op op_catA (pe_slice sl_tupA (pv 4) po_none (po_some (pe_un un_neg pe_int))) (pe_tup (pa_cons (pe_un un_neg pe_int) pa_nil))) (pa_cons (pe_tup (pa_cons pe_str pa_nil)) (pa_cons (pe_tup (pa_cons pe_bl pa_nil)) (pa_cons (pe_tup (pa_cons pe_int (pa_cons pe_non pa_nil))) pa_nil)))))))))) pa_nil))))
          (pss_cons (ps_if (pt_not (pt_val (pe_call GSm hrSm (by rfl) gSm kSm bSm .nil pass0 (pa_cons (pe_tried (k := k + 28) TR FT hSE (by rfl) TB rfl hr30 hrq (lamS_by (sc := defScope sLaw) (by decide +kernel)) rfl (fun _ _ _ _ _ => rfl)
              (t := fun E => tProp C (getSp C "node_total") [] E (tCallN 1 (["inner"] : List Str).length (spBlocksB K CB) gl2 E (tCons (tVar 16) tNil) (tCons (tVar 7) tNil)))
              (fun A outer s H E f c' hr' => pe_prop (pe_callN GBB hr' (by rfl) gBl kBl KBl (passes_call (E := E) (takes_of rfl rfl rfl rfl) (fun _ _ _ _ h => h)) (pa_cons (pv 16) pa_nil) (pk_cons (pv 7) pk_nil)) T.cl pNd_ GNd (hr'.mono (by omega)) bNd .nil pass0 rfl)) (pa_cons (pe_tup (pa_cons pe_str (pa_cons (pv 16) pa_nil))) pa_nil))))) (pss_one (ps_ret pe_bl)) pss_nil)
          (pss_cons (ps_set (i := 17) scLaw.nd rfl (.inr rfl) (pe_make MI GI hr9 (by rfl) T.mgC bJ rJ pass0 (pa_cons (pe_op op_repO (pe_tup (pa_cons pe_int pa_nil)) (pe_op op_add (pe_op op_mod (pv 3) pe_int) pe_int)) pa_nil)))
          (pss_one (ps_if (PW.pt (pw_and (pt_cmpR op_lt (pe_call GCt hr1 (by rfl) gCt kCt bCt .nil pass0 (pa_cons (pv 4) pa_nil)) pe_int (nomark _)) (pw_and1 (pt_cmpR (op_neD hr.units) (pe_tried (k := k + 28) TR FT hSE (by rfl) TB rfl hr30 hrq (lamS_by (sc := defScope sLaw) (by decide +kernel)) rfl (fun _ _ _ _ _ => rfl)
              (t := fun E => tProp C (getSp C "node_total") [] E (tCallN 1 (["inner"] : List Str).length (spB3 K C CU) gl2 E (tCons (tVar 4) tNil) (tCons (tVar 17) tNil)))
              (fun A outer s H E f c' hr' => pe_prop (pe_callN GB3 hr' (by rfl) gBl kBl KBl (passes_call (E := E) (takes_of rfl rfl rfl rfl) (fun _ _ _ _ h => h)) (pa_cons (pv 4) pa_nil) (pk_cons (pv 17) pk_nil)) T.cl pNd_ GNd (hr'.mono (by omega)) bNd .nil pass0 rfl)) (pe_tup (pa_cons pe_str (pa_cons pe_non pa_nil))) (nomark _))))) (pss_one (ps_ret pe_bl)) pss_nil))))))))))))))
          (pss_one (ps_ret (pe_cmpR (op_eqD hr.units) (pe_meth (pe_call GBl hr28 (by rfl) gBl kBl bBl rBl pass0 (pa_cons (pe_tup (pa_cons pe_int (pa_cons pe_int pa_nil))) pa_nil)) T.cl mOr GOr hr8 bOr .nil pass0 (pa_cons (pe_tup (pa_cons pe_int (pa_cons pe_int pa_nil))) pa_nil)) (pe_lst (pa_cons (pe_tup (pa_cons pe_int (pa_cons pe_int pa_nil))) (pa_cons (pe_tup (pa_cons pe_int (pa_cons pe_int pa_nil))) (pa_cons (pe_tup (pa_cons pe_int (pa_cons pe_int pa_nil))) (pa_cons (pe_tup (pa_cons pe_int (pa_cons pe_int pa_nil))) (pa_cons (pe_tup (pa_cons pe_int (pa_cons pe_int pa_nil))) (pa_cons (pe_tup (pa_cons pe_int (pa_cons pe_int pa_nil))) (pa_cons (pe_tup (pa_cons pe_int (pa_cons pe_int pa_nil))) (pa_cons (pe_tup (pa_cons pe_int (pa_cons pe_int pa_nil))) pa_nil))))))))) (nomark _)))))), ?_⟩
    refine ⟨_, rfl, a0, ns, rfl, hS0, fun H1 b l s1 nb nl B => ?_⟩
    have tb0 : Tabs [(Pt, lamQ)] H := fun p hp => by
      rw [List.mem_singleton.mp hp]
      exact TabS.nil hTb
    have caughtB : ∀ (G : Hp) (v : V) (Q' : VK), (∀ (G' : Hp) (T' : Addr), Same G G' → G' T' = none → Q' (.ref T') (upd G' T' (.tup [.str "InvalidBox", v]))) → BxE CB v G (Caught K CS Q') := fun G v Q' hq d' G' up hd' => by
      refine ⟨hExB, CB, d', _, "InvalidBox", v, rfl, rfl, RDB, hd', rfl, ?_, fun G2 T2 up2 nT2 => hq G2 T2 (fun b u e => up2 b u (up b u e)) nT2⟩
      unfold FieldIs
      rw [if_pos (by decide +kernel)]
      rfl
    have caughtU : ∀ (G : Hp) (Q' : VK), (∀ (G' : Hp) (T' : Addr), Same G G' → G' T' = none → Q' (.ref T') (upd G' T' (.tup [.str "Unlike", .non]))) → TgK "Unlike" CU G (Caught K CS Q') := fun G Q' hq d' G' up hd' => by
      refine ⟨hExU, CU, d', _, "Unlike", .non, rfl, rfl, RDU, hd', rfl, ?_, fun G2 T2 up2 nT2 => hq G2 T2 (fun b u e => up2 b u (up b u e)) nT2⟩
      unfold FieldIs
      rw [if_neg (by decide +kernel), if_neg (by decide +kernel), if_neg (by decide +kernel), if_neg (by decide +kernel), if_neg (by decide +kernel), if_neg (by decide +kernel)]
    have caughtM : ∀ (G : Hp) (Q' : VK), (∀ (G' : Hp) (T' : Addr), Same G G' → G' T' = none → Q' (.ref T') (upd G' T' (.tup [.str "TooManyClasses", .int 12]))) → TmK C2 G (Caught K CS Q') := fun G Q' hq d' G' up hd' => by
      refine ⟨hEx2, C2, d', _, "TooManyClasses", .int 12, rfl, rfl, RD2, hd', rfl, ?_, fun G2 T2 up2 nT2 => hq G2 T2 (fun b u e => up2 b u (up b u e)) nT2⟩
      unfold FieldIs
      rw [if_neg (by decide +kernel), if_pos (by decide +kernel)]
      rfl
    have dn : ∀ {G : Hp} {s : Str}, Dp K G (.str s) (.str s) := .str _
    refine ⟨6, rfl, by decide, by decide, for_range (lo := 0) (n := (6 : Int).toNat) (fun i σ H2 => ∃ (v2 v3 v4 v5 v6 v7 v8 v9 v10 v11 v12 v13 v14 v15 v16 v17 : Option V), σ = [some (.ref a0), some (.ref b), v2, v3, v4, v5, v6, v7, v8, v9, v10, v11, v12, v13, v14, v15, v16, v17, none, none, none] ∧ BagAt H2 b l ∧ Tabs [(Pt, lamQ)] H2)
      ⟨none, none, none, none, none, none, none, none, none, none, none, none, none, none, none, none, rfl, B, tb0.ext s1⟩ ?_ ?_⟩
    rotate_left
    · rintro σ H2 ⟨v2, v3, v4, v5, v6, v7, v8, v9, v10, v11, v12, v13, v14, v15, v16, v17, rfl, B2, _⟩
      refine ⟨(by show 2 ≤ sizeLine; decide), fun T0 n0 => .inl ⟨T0, [2, 2], 4, rfl, SqT.of upd_same, ⟨by decide, by decide⟩, by decide, by decide, by decide, fun H5 x s5 S5 => ?_⟩⟩
      obtain ⟨⟨dx5, a5, v5', h5, _, _⟩, _⟩ := id S5
      refine ⟨x, dx5, _, rfl, h5, sf_no _ _ _ _ _ (by decide +kernel), (by show 2 ≤ sizeLine; decide), fun T10 n10 => ?_⟩
      refine ⟨x, T10, [2, 2], 4, blT [2, 2] 4, [2, 4], rfl, S5.same (same_new n10), SqT.of upd_same, rfl, by decide, by decide, fun H7 R ws s7 _ hR hW => ?_⟩
      rw [end15] at hW
      obtain ⟨a1, _, e1, k1, a2, _, e2, k2, a3, _, e3, k3, a4, _, e4, k4, a5, _, e5, k5, a6, _, e6, k6, a7, _, e7, k7, a8, _, e8, k8, k9⟩ := hW
      have k9 : _ = [] := k9
      subst k9 e8 e7 e6 e5 e4 e3 e2 e1
      refine ⟨(by show 2 ≤ sizeLine; decide), fun b1 m1 => ⟨(by show 2 ≤ sizeLine; decide), fun b2 m2 => ⟨(by show 2 ≤ sizeLine; decide), fun b3 m3 => ⟨(by show 2 ≤ sizeLine; decide), fun b4 m4 => ⟨(by show 2 ≤ sizeLine; decide), fun b5 m5 => ⟨(by show 2 ≤ sizeLine; decide), fun b6 m6 => ⟨(by show 2 ≤ sizeLine; decide), fun b7 m7 => ⟨(by show 2 ≤ sizeLine; decide), fun b8 m8 => ⟨(by show 8 ≤ sizeLine; decide), fun LL nL => ?_⟩⟩⟩⟩⟩⟩⟩⟩⟩
      have z1 := same_new (o := .tup [.int 0, .int 0]) m1
      have z2 := same_new (o := .tup [.int 0, .int 1]) m2
      have z3 := same_new (o := .tup [.int 1, .int 0]) m3
      have z4 := same_new (o := .tup [.int 1, .int 1]) m4
      have z5 := same_new (o := .tup [.int 0, .int 2]) m5
      have z6 := same_new (o := .tup [.int 0, .int 3]) m6
      have z7 := same_new (o := .tup [.int 1, .int 2]) m7
      have z8 := same_new (o := .tup [.int 1, .int 3]) m8
      have z9 := same_new (o := .lst [.ref b1, .ref b2, .ref b3, .ref b4, .ref b5, .ref b6, .ref b7, .ref b8]) nL
      have z89 := z8.trans z9
      have z79 := z7.trans z89
      have z69 := z6.trans z79
      have z59 := z5.trans z69
      have z49 := z4.trans z59
      have z39 := z3.trans z49
      have z29 := z2.trans z39
      have z19 := z1.trans z29
      have dt : ∀ {G : Hp} {p : Addr} {i j : Int}, SqT K G p [.int i, .int j] → Dp K G (.ref p) (.tuple [.int i, .int j]) := fun h => .tup h (.cons (.int _) (.cons (.int _) .nil))
      refine ⟨.list [.tuple [.int 0, .int 0], .tuple [.int 0, .int 1], .tuple [.int 1, .int 0], .tuple [.int 1, .int 1], .tuple [.int 0, .int 2], .tuple [.int 0, .int 3], .tuple [.int 1, .int 2], .tuple [.int 1, .int 3]], .list [.tuple [.int 0, .int 0], .tuple [.int 0, .int 1], .tuple [.int 1, .int 0], .tuple [.int 1, .int 1], .tuple [.int 0, .int 2], .tuple [.int 0, .int 3], .tuple [.int 1, .int 2], .tuple [.int 1, .int 3]],
        .lst (SqL.of (z19 _ _ hR)) (.cons (dt (Same.sqT z19 k1)) (.cons (dt (Same.sqT z19 k2)) (.cons (dt (Same.sqT z19 k3)) (.cons (dt (Same.sqT z19 k4)) (.cons (dt (Same.sqT z19 k5)) (.cons (dt (Same.sqT z19 k6)) (.cons (dt (Same.sqT z19 k7)) (.cons (dt (Same.sqT z19 k8)) .nil)))))))),
        .lst (SqL.of upd_same) (.cons (dt (Same.sqT z29 (SqT.of upd_same))) (.cons (dt (Same.sqT z39 (SqT.of upd_same))) (.cons (dt (Same.sqT z49 (SqT.of upd_same))) (.cons (dt (Same.sqT z59 (SqT.of upd_same))) (.cons (dt (Same.sqT z69 (SqT.of upd_same))) (.cons (dt (Same.sqT z79 (SqT.of upd_same))) (.cons (dt (Same.sqT z89 (SqT.of upd_same))) (.cons (dt (Same.sqT z9 (SqT.of upd_same))) .nil)))))))), by decide, by decide, ?_⟩
      exact q _
    rintro i σ H2 hi ⟨v2, v3, v4, v5, v6, v7, v8, v9, v10, v11, v12, v13, v14, v15, v16, v17, rfl, B2, tb2⟩
    refine ⟨_, rfl, b, l, 3, rfl, B2, by decide, by decide, fun g3 H3 g0 g1 B3 bt3 => ?_⟩
    refine ⟨_, _, rfl, rfl, ?_⟩
    obtain ⟨d, hd⟩ : ∃ d : Nat, (1 + g3 : Int) = (d : Int) := ⟨(1 + g3).toNat, by omega⟩
    have hv : (fun (i j : Int) => V.int (i + j)) 1 g3 = V.int (d : Int) := congrArg V.int hd
    rw [hv]
    have tb3 := Tabs.but tb2 B2 bt3
    -- the sides
    refine ⟨_, rfl, d, rfl, by omega, by omega, fun D nD => ?_⟩
    have nDb := B3.nb nD
    have nDl := B3.nl nD
    refine lc_range (lo := 0) (n := (d : Int).toNat) (fun i H2 => ∃ ns : List Int, ns.length = i ∧ (∀ z ∈ ns, 1 ≤ z ∧ z ≤ 4) ∧ H2 D = some (.lst (ns.map V.int)) ∧ BagAt H2 b l ∧ But b H3 H2) ⟨[], rfl, fun z h => by simp at h, upd_same, B3.new nD, new_but nD⟩ ?_ ?_
    · rintro i H4 hi ⟨ns, hl, hb, hD, B4, bt⟩
      refine ⟨rfl, _, rfl, b, l, 4, rfl, B4, by decide, by decide, fun g H5 g0 g1 B5 bt5 => ?_⟩
      have hD5 := bt5 D _ nDb hD
      refine ⟨_, _, rfl, rfl, ns.map V.int, hD5, ?_, ns ++ [1 + g], ?_, fun z hz => ?_, ?_, B5.upd nDb nDl, ?_⟩
      · rw [List.length_map]
        exact small1000 (by omega)
      · rw [List.length_append, hl]
        rfl
      · rcases List.mem_append.mp hz with h | h
        · exact hb z h
        · rw [List.mem_singleton.mp h]
          omega
      · rw [upd_same, List.map_append]
        rfl
      · intro a u na hu
        rw [upd_ne (ne_of_none hu nD)]
        exact bt5 a u na (bt a u na hu)
    rintro H4 ⟨ss, hl, hb, hD, B4, bt4⟩
    refine ⟨D, _, rfl, .inl ⟨SqL.of hD, fun a na => ?_⟩⟩
    have u5 := same_new (o := .tup (ss.map V.int)) na
    have ha5 : SqT K (upd H4 a (.tup (ss.map V.int))) a (ss.map V.int) := SqT.of upd_same
    have B5 := BagAt.same B4 u5
    have tb5 := (Tabs.but tb3 B3 bt4).ext u5
    generalize upd H4 a (.tup (ss.map V.int)) = H5 at ha5 B5 tb5
    have l1 : 1 ≤ ss.length := by omega
    have l3 : ss.length ≤ 3 := by omega
    have s1' : ∀ z ∈ ss, 1 ≤ z := fun z h => (hb z h).1
    -- the pair, plain or not
    refine ⟨_, rfl, _, rfl, b, l, d, rfl, B5, by omega, by omega, fun es m u e p uv H6 le De hm uw udp uz he hu hp B6 bt6 => ?_⟩
    refine ⟨_, rfl, b, l, 3, rfl, B6, by decide, by decide, fun gp H7 gp0 gp1 B7 bt7 => ⟨rfl, _, _, rfl, ?_⟩⟩
    have hll : ss.length = es.length := by omega
    have O2 : ScanOk es m u := ⟨De, by omega, by omega, hm, uw, by omega, by omega⟩
    have S7 : St15 K C Pt b l a p ss es m u H7 := by
      refine ⟨B7, Tabs.but (Tabs.but tb5 B5 bt6) B6 bt7, bt7.sqT B6 (bt6.sqT B5 ha5), ⟨⟨e, uv, bt7.sqT B6 hp, bt7.sqT B6 he, TrAt.mono (But.tups B6 bt7) hu⟩, O2⟩⟩
    generalize decide (V.int gp = V.int 0) = pl
    clear ha5 B5 tb5 hp he hu B6 B7 bt7 bt6 tb3 B3 bt3 tb2 B2 hD bt4 B4
    have c1 := com_one s1' De.one
    have p0 := prodL_pos c1
    have p1 := prodL_pos s1'
    have sm4 : ∀ z ∈ ss, 1 ≤ z ∧ z < 2 ^ 30 := fun z h => by have := hb z h; omega
    have se4 : ∀ z ∈ es, 1 ≤ z ∧ z < 2 ^ 30 := fun z hz => ⟨De.one z hz, by have := le_prod De.one hz; have := De.most; omega⟩
    have pss : prodL ss ≤ 64 := by
      have key : ∀ l : List Int, (∀ z ∈ l, 1 ≤ z ∧ z ≤ 4) → l.length ≤ 3 → prodL l ≤ 64 := fun l h hl => by
        match l, h, hl with
        | [], _, _ => decide
        | [x], h, _ =>
          have hx := h x (by simp)
          show x * 1 ≤ 64
          omega
        | [x, y], h, _ =>
          have hx := h x (by simp)
          have hy := h y (by simp)
          have : x * (y * 1) ≤ 4 * 4 := Int.mul_le_mul hx.2 (by omega) (by omega) (by omega)
          show x * (y * 1) ≤ 64
          omega
        | [x, y, z], h, _ =>
          have hx := h x (by simp)
          have hy := h y (by simp)
          have hz := h z (by simp)
          have h1 : y * (z * 1) ≤ 4 * 4 := Int.mul_le_mul hy.2 (by omega) (by omega) (by omega)
          have h2 : 0 ≤ y * (z * 1) := Int.mul_nonneg (by omega) (by omega)
          have : x * (y * (z * 1)) ≤ 4 * 16 := Int.mul_le_mul hx.2 h1 h2 (by omega)
          show x * (y * (z * 1)) ≤ 64
          omega
      exact key ss hb l3
    have cp : prodL (comD ss es) ≤ 768 := by
      have h4 := com_prod s1' De.one hll
      have h5 : prodL ss * prodL es ≤ 64 * 12 := Int.mul_le_mul pss De.most (by have := prodL_pos De.one; omega) (by decide)
      omega
    obtain ⟨n, hn⟩ : ∃ n : Nat, prodL ss = (n : Int) := ⟨(prodL ss).toNat, by omega⟩
    obtain ⟨n', hn'⟩ : ∃ n' : Nat, prodL (comD ss es) = (n' : Int) := ⟨(prodL (comD ss es)).toNat, by omega⟩
    -- the inner scan
    refine ⟨fun σ' G => ∃ (w2 w8 w9 w10 w11 w12 w13 w14 w15 w16 w17 : Option V) (iv : V), σ' = [some (.ref a0), some (.ref b), w2, some (.int d), some (.ref a), some (.ref p), some (.bl pl), some iv, w8, w9, w10, w11, w12, w13, w14, w15, w16, w17, none, none, none] ∧ St15 K C Pt b l a p ss es m u G ∧ In15 K C es m u G pl iv, ?_, ?_⟩
    · cases pl with
      | true => exact ⟨_, rfl, true, rfl, iteT ⟨_, _, _, _, _, _, _, _, _, _, _, _, rfl, S7, .inl ⟨rfl, rfl⟩⟩⟩
      | false =>
        obtain ⟨⟨e', uv', hp', he', hu'⟩, _⟩ := S7.px
        refine ⟨_, rfl, false, rfl, iteF ⟨_, rfl, p, _, _, _, rfl, rfl, hp', atI_nat (j := 0) rfl, _, rfl, p, _, _, _, rfl, rfl, hp', atI_nat (j := 1) rfl, fun x dx nx ndx nex => ?_⟩⟩
        have y1 := made_same (C := C) nx ndx
        refine ⟨x, dx, e', uv', es, m, u, rfl, upd_same, Same.sqT y1 he', TrAt.mono (Same.tups y1) hu', De, O2.l1, O2.l3, hm, uw, O2.sz, O2.dp, fun H8 X8 k8 => ⟨rfl, ?_⟩⟩
        exact ⟨_, _, _, _, _, _, _, _, _, _, _, _, rfl, S7.same (L2.Same.made nx ndx k8), .inr ⟨rfl, x, rfl, X8⟩⟩
    clear S7
    rintro σ' G ⟨w2, w8, w9, w10, w11, w12, w13, w14, w15, w16, w17, iv, rfl, S, hin⟩
    -- what blocks_scan answers
    refine ⟨fun σ' G => ∃ (w2 w10 w11 w12 w13 w14 w15 w16 w17 : Option V) (wd bo : V), σ' = [some (.ref a0), some (.ref b), w2, some (.int d), some (.ref a), some (.ref p), some (.bl pl), some iv, some wd, some bo, w10, w11, w12, w13, w14, w15, w16, w17, none, none, none] ∧ St15 K C Pt b l a p ss es m u G ∧ In15 K C es m u G pl iv ∧ Bo15 K C pl ss es n n' u G wd bo, ?_, ?_⟩
    · refine ⟨S.tb, fun G1 xG1 tb1 => ?_⟩
      have S1 := S.extN xG1 tb1
      have hin1 := hin.extN xG1
      have good : ∀ (G2 : Hp) (r : Addr), Same G1 G2 → W15 pl ss es = false → ScanAt K C G2 r (rd15 pl ss es) (rn15 pl n n') (rt15 pl ss es n n' u) → 2 ≤ sizeLine ∧ ∀ T', G2 T' = none → ∃ p_1 xs, V.ref T' = .ref p_1 ∧ SqT K (upd G2 T' (.tup [.str "value", .ref r])) p_1 xs ∧ xs = [.str "value", .ref r] ∧ St15 K C Pt b l a p ss es m u (upd G2 T' (.tup [.str "value", .ref r])) ∧ In15 K C es m u (upd G2 T' (.tup [.str "value", .ref r])) pl iv ∧ Bo15 K C pl ss es n n' u (upd G2 T' (.tup [.str "value", .ref r])) (.str "value") (.ref r) := fun G2 r s2 hw R2 => ⟨(by show 2 ≤ sizeLine; decide), fun T' nT' => by
        have u3 := same_new (o := .tup [.str "value", .ref r]) nT'
        exact ⟨T', _, rfl, SqT.of upd_same, rfl, (S1.same s2).same u3, (hin1.same s2).same u3, .inl ⟨hw, rfl, r, rfl, R2.same u3⟩⟩⟩
      refine ⟨_, rfl, _, rfl, rfl, rfl, ?_⟩
      by_cases h12 : prodL ss ≤ 12
      rotate_left
      · refine .inr ⟨a, iv, ss, rfl, S1.ha, l1, l3, fun z h => by have := hb z h; omega, by omega, caughtM G1 _ fun G2 T' s2 nT' => ⟨T', _, rfl, SqT.of upd_same, rfl, _, _, rfl, _, _, rfl, rfl, ?_⟩⟩
        have u3 := same_new (o := .tup [.str "TooManyClasses", .int 12]) nT'
        refine ⟨_, _, _, _, _, _, _, _, _, _, _, rfl, (S1.same s2).same u3, (hin1.same s2).same u3, .inr ⟨?_, rfl, rfl⟩⟩
        unfold W15
        rw [decide_eq_true (by omega)]
        rfl
      have Ds : Divs ss := ⟨s1', h12⟩
      obtain ⟨Ob, bz, bdp, ben⟩ := bl_ok Ds l1 l3 hn
      rcases hin1 with ⟨rfl, rfl⟩ | ⟨rfl, qq, rfl, Qq⟩
      · refine .inl (.inl ⟨a, ss, n, rfl, S1.ha, Ds, l1, l3, hn, fun G2 r s2 R2 => ⟨(by show 2 ≤ sizeLine; decide), fun T' nT' => ⟨T', _, rfl, SqT.of upd_same, rfl, _, _, rfl, _, _, rfl, rfl, ?_⟩⟩⟩)
        have u3 := same_new (o := .tup [.str "value", .ref r]) nT'
        refine ⟨_, _, _, _, _, _, _, _, _, _, _, rfl, (S1.same s2).same u3, .inl ⟨rfl, rfl⟩, .inl ⟨?_, rfl, r, rfl, R2.same u3⟩⟩
        unfold W15
        rw [decide_eq_false (by omega)]
        rfl
      · obtain ⟨⟨dq, aq, vq, hq1, _, _⟩, _⟩ := id Qq
        refine .inl (.inr ⟨a, qq, ss, n, rfl, S1.ha, Ds, l1, l3, hn, ⟨_, _, hq1⟩, fun G2 x s2 X2 => ?_⟩)
        by_cases h12' : prodL (comD ss es) ≤ 12
        · have D' : Divs (comD ss es) := ⟨c1, h12'⟩
          have z1 := th_size (ds := ss) (es := es) (n' := n') (t := blT ss n) (u := u) (comD ss es)
          have z2 := th_dep (ds := ss) (es := es) (n' := n') (t := blT ss n) (u := u) (comD ss es)
          rw [ben] at z1
          refine .inl ⟨x, qq, ss, es, n, m, n', blT ss n, u, rfl, X2, Qq.same s2, hll, D', hn', by omega, by omega, fun G3 r s3 R3 => ⟨(by show 2 ≤ sizeLine; decide), fun T' nT' => ⟨T', _, rfl, SqT.of upd_same, rfl, _, _, rfl, _, _, rfl, rfl, ?_⟩⟩⟩
          have u3 := (s2.trans s3).trans (same_new (o := .tup [.str "value", .ref r]) nT')
          refine ⟨_, _, _, _, _, _, _, _, _, _, _, rfl, S1.same u3, .inr ⟨rfl, qq, rfl, Qq.same u3⟩, .inl ⟨?_, rfl, r, rfl, R3.same (same_new nT')⟩⟩
          unfold W15
          rw [decide_eq_false (by omega), decide_eq_false (by omega)]
          rfl
        · refine .inr ⟨x, qq, ss, es, n, m, blT ss n, u, rfl, X2, Qq.same s2, hll, by omega, caughtM G2 _ fun G3 T' s3 nT' => ⟨T', _, rfl, SqT.of upd_same, rfl, _, _, rfl, _, _, rfl, rfl, ?_⟩⟩
          have u3 := (s2.trans s3).trans (same_new (o := .tup [.str "TooManyClasses", .int 12]) nT')
          refine ⟨_, _, _, _, _, _, _, _, _, _, _, rfl, S1.same u3, .inr ⟨rfl, qq, rfl, Qq.same u3⟩, .inr ⟨?_, rfl, rfl⟩⟩
          unfold W15
          rw [decide_eq_false (by omega), decide_eq_true (by omega)]
          rfl
    clear S hin
    rintro σ' G ⟨w2, w10, w11, w12, w13, w14, w15, w16, w17, wd, bo, rfl, S, hin, hbo⟩
    -- too wide or not
    refine ⟨fun σ' G => ∃ (w2 w11 w12 w13 w14 w15 w16 w17 : Option V), σ' = [some (.ref a0), some (.ref b), w2, some (.int d), some (.ref a), some (.ref p), some (.bl pl), some iv, some wd, some bo, some (.bl (W15 pl ss es)), w11, w12, w13, w14, w15, w16, w17, none, none, none] ∧ St15 K C Pt b l a p ss es m u G ∧ In15 K C es m u G pl iv ∧ Bo15 K C pl ss es n n' u G wd bo, ?_, ?_⟩
    · refine ⟨_, rfl, a, ss, rfl, S.ha, fun z h => by have := hb z h; omega, _, _, rfl, rfl, _, rfl, ?_⟩
      by_cases h12 : (12 : Int) < prodL ss
      · rw [decide_eq_true h12]
        refine iteT ⟨w2, w11, w12, w13, w14, w15, w16, w17, ?_, S, hin, hbo⟩
        unfold W15
        rw [decide_eq_true h12]
        rfl
      rw [decide_eq_false h12]
      refine iteF ⟨_, rfl, pl, rfl, ?_⟩
      cases pl with
      | true =>
        refine ⟨_, rfl, iteF ⟨w2, w11, w12, w13, w14, w15, w16, w17, ?_, S, hin, hbo⟩⟩
        unfold W15
        rw [decide_eq_false h12]
        rfl
      | false =>
        obtain ⟨⟨e', uv', hp', he', hu'⟩, _⟩ := S.px
        refine ⟨_, rfl, iteT ⟨_, rfl, _, rfl, p, _, _, _, rfl, rfl, hp', atI_nat (j := 0) rfl, a, e', ss, es, rfl, S.ha, he', hll, l3, sm4, se4, fun G2 c s2 nc hc => ?_⟩⟩
        refine ⟨c, comD ss es, rfl, SqT.of hc, fun z hz => ?_, _, _, rfl, rfl, ?_⟩
        · have h1 := c1 z hz
          have h2 := le_prod c1 hz
          omega
        refine ⟨w2, w11, w12, w13, w14, w15, w16, w17, ?_, S.same s2, hin.same s2, hbo.same s2⟩
        unfold W15
        rw [decide_eq_false h12]
        rfl
    clear S hin hbo
    rintro σ' G ⟨w2, w11, w12, w13, w14, w15, w16, w17, rfl, S, hin, hbo⟩
    refine ⟨fun σ' G => ∃ (w2 w11 w12 w13 w14 w15 w16 w17 : Option V), σ' = [some (.ref a0), some (.ref b), w2, some (.int d), some (.ref a), some (.ref p), some (.bl pl), some iv, some wd, some bo, some (.bl (W15 pl ss es)), w11, w12, w13, w14, w15, w16, w17, none, none, none] ∧ St15 K C Pt b l a p ss es m u G ∧ In15 K C es m u G pl iv ∧ Bo15 K C pl ss es n n' u G wd bo, ?_, ?_⟩
    · rcases id hbo with ⟨hw, rfl, r, rfl, R⟩ | ⟨hw, rfl, rfl⟩
      · rw [hw]
        refine ⟨_, rfl, false, rfl, iteF ?_⟩
        refine ⟨_, rfl, rfl, false, congrArg V.bl (by rw [decide_eq_true rfl]; rfl), iteF ?_⟩
        cases pl with
        | false => exact ⟨_, rfl, false, rfl, iteF ⟨_, _, _, _, _, _, _, _, rfl, S, hin, hbo⟩⟩
        | true =>
          obtain ⟨Ds, _⟩ := w15_no s1' De.one hw
          refine ⟨_, rfl, true, rfl, iteT ⟨_, rfl, .inl ⟨a, ss, n, rfl, S.ha, Ds, l1, l3, hn, fun G2 r2 s2 R2 => ?_⟩⟩⟩
          obtain ⟨⟨dr2, ar2, vr2, hr2', _, _⟩, _⟩ := id R2
          obtain ⟨⟨dr, ar, vr, hr1', _, _⟩, _⟩ := id R
          refine ⟨_, rfl, ⟨r2, r, dr2, dr, _, _, rfl, rfl, hr2', s2 _ _ hr1', ss, n, blT ss n, R2, R.same s2⟩, fun G3 s3 => ⟨true, rfl, iteF ?_⟩⟩
          have s23 : Same G G3 := s2.trans s3
          exact ⟨_, _, _, _, _, _, _, _, rfl, S.same s23, hin.same s23, hbo.same s23⟩
      · rw [hw]
        refine ⟨_, rfl, true, rfl, iteT ?_⟩
        refine ⟨_, rfl, _, rfl, (by show 2 ≤ sizeLine; decide), fun T1 nT1 => ⟨(by show 2 ≤ sizeLine; decide), fun T2 nT2 => ?_⟩⟩
        have u1 := same_new (o := .tup [.str "TooManyClasses", .int 12]) nT1
        have u2 := same_new (o := .tup [.str "TooManyClasses", .int 12]) nT2
        refine ne_pairs (Same.sqT u2 (SqT.of upd_same)) (SqT.of upd_same) dn (.int _) (by decide +kernel) (by decide +kernel) ⟨false, rfl, iteF ?_⟩
        exact ⟨_, _, _, _, _, _, _, _, rfl, S.same (u1.trans u2), hin.same (u1.trans u2), hbo.same (u1.trans u2)⟩
    clear S hin hbo
    rintro σ' G ⟨w2, w11, w12, w13, w14, w15, w16, w17, rfl, S, hin, hbo⟩
    -- pairs of places
    refine ⟨fun σ' G => ∃ (w2 w8 w9 w10 w11 w12 w13 w14 w15 w16 w17 : Option V), σ' = [some (.ref a0), some (.ref b), w2, some (.int d), some (.ref a), some (.ref p), some (.bl pl), some iv, w8, w9, w10, w11, w12, w13, w14, w15, w16, w17, none, none, none] ∧ St15 K C Pt b l a p ss es m u G ∧ In15 K C es m u G pl iv, ?_, ?_⟩
    · rcases id hbo with ⟨hw, rfl, r, rfl, R⟩ | ⟨hw, rfl, rfl⟩
      rotate_left
      · refine ⟨_, rfl, rfl, false, congrArg V.bl (decide_eq_false (by decide +kernel)), iteF ⟨0, rfl, by decide, by decide, ?_⟩⟩
        refine for_range (lo := 0) (n := (0 : Int).toNat) (fun i σ G0 => σ = _ ∧ G0 = G) ⟨rfl, rfl⟩ (fun i σ G0 hi _ => absurd hi (by show ¬ i < 0; omega)) ?_
        rintro σ G0 ⟨rfl, rfl⟩
        exact ⟨_, _, _, _, _, _, _, _, _, _, _, rfl, S, hin⟩
      have ors : ∀ {x y : List Int}, x.length = ss.length → y.length = ss.length → _ := fun {x y} hx hy => ord15 (n := n) (n' := n') (x := x) (y := y) O2 hll l1 l3 hn hn' s1' hw hx hy
      refine ⟨_, rfl, rfl, true, congrArg V.bl (decide_eq_true rfl), iteT ⟨8, rfl, by decide, by decide, ?_⟩⟩
      refine for_range (lo := 0) (n := (8 : Int).toNat) (fun i σ G0 => ∃ (w2 w10 w11 w12 w13 w14 w15 w16 w17 : Option V), σ = [some (.ref a0), some (.ref b), w2, some (.int d), some (.ref a), some (.ref p), some (.bl pl), some iv, some (.str "value"), some (.ref r), w10, w11, w12, w13, w14, w15, w16, w17, none, none, none] ∧ St15 K C Pt b l a p ss es m u G0 ∧ In15 K C es m u G0 pl iv ∧ ScanAt K C G0 r (rd15 pl ss es) (rn15 pl n n') (rt15 pl ss es n n' u))
        ⟨_, _, _, _, _, _, _, _, _, rfl, S, hin, R⟩ ?_ ?_
      · rintro j σ G0 hj ⟨w2, w10, w11, w12, w13, w14, w15, w16, w17, rfl, S0, i0, R0⟩
        have C0 := S0.bg
        refine ⟨_, rfl, _, rfl, _, rfl, _, _, rfl, rfl, ⟨by decide, by decide, by decide⟩, (by show 2 ≤ sizeLine; decide), fun L nL => ?_⟩
        refine ⟨b, l, L, _, rfl, C0.new nL, C0.nb nL, SqL.of upd_same, (by show 0 < 2; decide), (by show 2 < 1000; decide), fun z G1 hz6 C1 e1 => ?_⟩
        obtain ⟨zi, rfl, z0, z1⟩ : ∃ zi : Int, z = .int zi ∧ 0 ≤ zi ∧ zi ≤ 2 ^ 100 := by
          rcases List.mem_cons.mp hz6 with e | hz6
          · exact ⟨9, e, by decide, by decide⟩
          · exact ⟨10 ^ (20 : Int).toNat, List.mem_singleton.mp hz6, by decide, by decide⟩
        refine ⟨b, l, d, zi, rfl, C1, by omega, by omega, z0, z1, fun xs G2 c1' lx1 m1 k1 C2' e2 => ?_⟩
        refine ⟨_, rfl, _, rfl, _, rfl, b, l, d, 2, rfl, C2', by omega, by omega, by decide, by decide, fun sh G3 c2 lx2 m2 k2 C3 e3 => ?_⟩
        refine ⟨c1', c2, xs, sh, rfl, e3.sqT C2' (SqT.of k1), SqT.of k2, by omega, by omega, fun G4 c3 t4 m3 k3 => ?_⟩
        have C4 := BagAt.same C3 t4
        have e04 : But b G0 G4 := (((new_but nL).trans e1).trans (e2.trans e3)).trans (But.same t4)
        have S4 := S0.but e04 C4
        have i4 := i0.but C0 e04
        have R4 := R0.but C0 e04
        have q1 : SqT K G4 c1' (xs.map V.int) := Same.sqT t4 (e3.sqT C2' (SqT.of k1))
        have q3 : SqT K G4 c3 ((plus xs sh).map V.int) := SqT.of k3
        have lxs : xs.length = ss.length := by omega
        have lys : (plus xs sh).length = ss.length := by
          rw [plus_len (by omega)]
          omega
        generalize plus xs sh = ys at q3 lys k3
        -- the blocks
        refine ⟨_, rfl, _, rfl, (by show 2 ≤ sizeLine; decide), fun LL nLL => ?_⟩
        have uL := same_new (o := .lst [.ref c1', .ref c3]) nLL
        refine ⟨LL, rfl, ⟨_, SqL.of upd_same⟩, fun D nD => ?_⟩
        have hp2 : HdsAt K G4 [xs, ys] [.ref c1', .ref c3] := ⟨c1', _, rfl, q1, c3, _, rfl, q3, rfl⟩
        refine lc_list (K := K) (a := LL) (xs := [.ref c1', .ref c3]) (fun i H5 => Same (upd G4 LL (.lst [.ref c1', .ref c3])) H5 ∧ ∃ ws, H5 D = some (.lst ws) ∧ HdsAt K H5 (([xs, ys].map (blQ ss)).take i) ws) ⟨same_new nD, [], upd_same, rfl⟩ (fun i H5 _ ⟨sm, _⟩ => SqL.of (sm _ _ upd_same)) ?_ ?_
        · rintro i5 y H5 hy ⟨sm, ws, hD, hW⟩
          obtain ⟨zs, ca, ez, rfl, hca⟩ := hp2.get hy
          have lzs : zs.length = ss.length := by
            rcases List.mem_cons.mp (List.mem_of_getElem? ez) with e | e
            · rw [e]; exact lxs
            · rw [List.mem_singleton.mp e]; exact lys
          have sG := uL.trans sm
          have hca5 := Same.sqT sG hca
          have ha5 := Same.sqT sG S4.ha
          have hle : (zs.map V.int).length = (ss.map V.int).length := by rw [List.length_map, List.length_map, lzs]
          refine ⟨rfl, _, rfl, _, rfl, ca, a, zs.map V.int, ss.map V.int, rfl, .inr ⟨hca5, ha5, fun D3 nD3 => ?_⟩⟩
          refine lc_it (walk_zipT hle) (fun i H6 => Same H5 H6 ∧ H6 D3 = some (.lst (((blQ ss zs).take i).map V.int))) ⟨same_new nD3, upd_same⟩ (fun i H6 _ ⟨s6, _⟩ => ⟨Same.sqT s6 hca5, Same.sqT s6 ha5⟩) ?_ ?_
          · rintro i6 x H6 H7 hi6 ⟨s6, hD3⟩ ⟨T6, x1, x2, rfl, nT6, rfl, f1, f2⟩
            obtain ⟨za, hza, rfl⟩ := map_get f1
            obtain ⟨sv, hsv, rfl⟩ := map_get f2
            have nDT : D3 ≠ T6 := ne_of_none hD3 nT6
            have bs := sm4 sv (List.mem_of_getElem? hsv)
            have gz : (blQ ss zs)[i6]? = some (za / sv) := by
              unfold blQ
              rw [List.getElem?_zipWith, hza, hsv]
            have em : (if sv > 1 then sv else 1) = sv := quo_max bs.1
            refine ⟨T6, _, rfl, SqT.of upd_same, rfl, _, _, rfl, _, _, rfl, rfl, rfl, ?_⟩
            refine ⟨_, rfl, .inl ⟨_, rfl, _, rfl, 1, sv, rfl, _, _, rfl, rfl, ⟨by rw [em]; omega, by rw [em]; exact bs.2⟩, _, (by rw [upd_ne nDT]; exact hD3), ?_, ?_, ?_⟩⟩
            · rw [List.length_map]
              refine Nat.lt_of_le_of_lt (List.length_take_le _ _) (small1000 ?_)
              rw [List.length_map] at hi6
              omega
            · intro c o e
              have e2' := s6 c o e
              rw [upd_ne (ne_of_none e nD3), upd_ne (ne_of_none e2' nT6)]
              exact e2'
            · rw [upd_same, take_more gz, List.map_append, em]
              rfl
          · rintro H6 ⟨s6, hD3⟩
            have e : (blQ ss zs).take (zs.map V.int).length = blQ ss zs := List.take_of_length_le (by
              unfold blQ
              rw [List.length_zipWith, List.length_map]
              omega)
            rw [e] at hD3
            refine ⟨D3, _, rfl, .inl ⟨SqL.of hD3, fun T6 nT6 => ?_⟩⟩
            have s67 := s6.trans (same_new (o := .tup ((blQ ss zs).map V.int)) nT6)
            have hD7 := s67 _ _ hD
            have lw := hW.len
            have tu : Tups K (upd H6 T6 (.tup ((blQ ss zs).map V.int))) (upd (upd H6 T6 (.tup ((blQ ss zs).map V.int))) D (.lst (ws ++ [.ref T6]))) := tups_lst hD7
            refine ⟨ws, hD7, ?_, Same.upd_out (sm.trans s67) nD, ws ++ [.ref T6], upd_same, ?_⟩
            · rw [lw]
              exact small1000 (Nat.le_trans (List.length_take_le' _ _) (by show 2 ≤ 1000; decide))
            · have gq : ([xs, ys].map (blQ ss))[i5]? = some (blQ ss zs) := by rw [List.getElem?_map, ez]; rfl
              rw [take_more gq]
              exact HdsAt.app (HdsAt.mono (fun b' ys' e' => tu b' ys' (Same.sqT s67 e')) hW) (tu _ _ (SqT.of upd_same))
        rintro H5 ⟨sm, ws, hD, hW⟩
        obtain ⟨qa, _, rfl, hqa, qb, wr, rfl, hqb, wr0⟩ := hW
        have wr0 : wr = [] := wr0
        subst wr0
        have s45 := uL.trans sm
        -- due
        refine ⟨_, rfl, D, _, _, _, rfl, rfl, SqL.of hD, atI_nat (j := 0) rfl, _, rfl, D, _, _, _, rfl, rfl, SqL.of hD, atI_nat (j := 1) rfl, qa, qb, _, _, rfl, rfl, hqa, hqb, (by show 2 ≤ sizeLine; decide), fun L5 nL5 => ?_⟩
        have u5 := same_new (o := .lst [.bl (HT.lexLt (blQ ss xs) (blQ ss ys)), .bl false]) nL5
        have s46 := s45.trans u5
        have hD6 := u5 _ _ hD
        obtain ⟨or1, or2⟩ := ors lxs lys
        refine ⟨fun σ' G => ∃ (w2 w10 w11 w14 w16 w17 : Option V) (L6 : Addr), σ' = [some (.ref a0), some (.ref b), w2, some (.int d), some (.ref a), some (.ref p), some (.bl pl), some iv, some (.str "value"), some (.ref r), w10, w11, some (.ref c1'), some (.ref c3), w14, some (.ref L6), w16, w17, none, none, none] ∧ Same G4 G ∧ G L6 = some (.lst [.bl (HT.lexLt (full (rd15 pl ss es) (rt15 pl ss es n n' u) xs) (full (rd15 pl ss es) (rt15 pl ss es n n' u) ys)), .bl (decide (pth (rt15 pl ss es n n' u) (cls (rd15 pl ss es) xs) xs = pth (rt15 pl ss es n n' u) (cls (rd15 pl ss es) ys) ys))]), ?_, ?_⟩
        · refine ⟨_, rfl, D, _, _, _, rfl, rfl, SqL.of hD6, atI_nat (j := 0) rfl, _, rfl, D, _, _, _, rfl, rfl, SqL.of hD6, atI_nat (j := 1) rfl, eq_tups (Same.sqT u5 hqa) (Same.sqT u5 hqb) ⟨_, rfl, ?_⟩⟩
          rw [or1, or2]
          by_cases e : blQ ss xs = blQ ss ys
          rotate_left
          · rw [decide_eq_false e, if_neg e, if_neg e]
            exact iteF ⟨_, _, _, _, _, _, L5, rfl, s46, upd_same⟩
          rw [decide_eq_true e, if_pos e, if_pos e]
          refine iteT ?_
          cases pl with
          | true =>
            rw [if_pos rfl, if_pos rfl]
            refine ⟨_, rfl, true, rfl, iteT ⟨_, rfl, _, rfl, c1', c3, _, _, rfl, rfl, Same.sqT s46 q1, Same.sqT s46 q3, (by show 2 ≤ sizeLine; decide), fun L6 nL6 => ?_⟩⟩
            exact ⟨_, _, _, _, _, _, L6, rfl, s46.trans (same_new nL6), upd_same⟩
          | false =>
            rw [if_neg (by decide), if_neg (by decide)]
            refine ⟨_, rfl, false, rfl, iteF ⟨_, rfl, _, rfl, _, rfl, p, c1', c3, es, m, u, xs, ys, rfl, (S4.same s46).px, Same.sqT s46 q1, Same.sqT s46 q3, by omega, by omega, fun G7 t7 => ?_⟩⟩
            have s47 := s46.trans t7
            refine ⟨_, rfl, _, rfl, _, rfl, p, c1', c3, es, m, u, xs, ys, rfl, (S4.same s47).px, Same.sqT s47 q1, Same.sqT s47 q3, by omega, by omega, fun G8 t8 => ⟨(by show 2 ≤ sizeLine; decide), fun L6 nL6 => ?_⟩⟩
            exact ⟨_, _, _, _, _, _, L6, rfl, (s47.trans t8).trans (same_new nL6), upd_same⟩
        clear hD6 u5 s46 hqa hqb hD
        rintro σ' G6 ⟨w2, w10, w11, w14, w16, w17, L6, rfl, s6, hL6⟩
        have R6 := R4.same s6
        have q16 := Same.sqT s6 q1
        have q36 := Same.sqT s6 q3
        have lrd : (rd15 pl ss es).length = ss.length := by
          cases pl with
          | true => rfl
          | false => exact com_len hll
        refine ⟨_, rfl, r, rfl, _, rfl, _, rfl, callo R6 q16 q36 (by omega) (by omega) fun G7 t7 => ?_⟩
        obtain ⟨⟨dr7, ar7, vr7, hr7, _, _⟩, _⟩ := id (R6.same t7)
        refine ⟨_, rfl, r, dr7, _, rfl, hr7, sf_no _ _ _ _ _ (by decide +kernel), _, rfl, _, rfl, r, c1', c3, _, _, _, xs, ys, rfl, R6.same t7, Same.sqT t7 q16, Same.sqT t7 q36, by omega, by omega, fun G8 t8 => ?_⟩
        have t78 := t7.trans t8
        refine ⟨(by show 2 ≤ sizeLine; decide), fun M1 nM1 => ⟨_, rfl, .ref M1, .ref L6, rfl, (dd_bools (bs := [HT.lexLt (full (rd15 pl ss es) (rt15 pl ss es n n' u) xs) (full (rd15 pl ss es) (rt15 pl ss es n n' u) ys), decide (pth (rt15 pl ss es n n' u) (cls (rd15 pl ss es) xs) xs = pth (rt15 pl ss es n n' u) (cls (rd15 pl ss es) ys) ys)]) (SqL.of upd_same) (SqL.of ((t78.trans (same_new nM1)) _ _ hL6)) (by show 2 ≤ 1000; decide)).le (by decide), fun GA tA => ⟨true, rfl, iteF ?_⟩⟩⟩
        have tF := ((s6.trans t78).trans (same_new nM1)).trans tA
        exact ⟨_, _, _, _, _, _, _, _, _, rfl, S4.same tF, i4.same tF, R4.same tF⟩
      · rintro σ G0 ⟨w2, w10, w11, w12, w13, w14, w15, w16, w17, rfl, S0, i0, _⟩
        exact ⟨_, _, _, _, _, _, _, _, _, _, _, rfl, S0, i0⟩
    clear S hin hbo
    rintro σ' G ⟨w2, w8, w9, w10, w11, w12, w13, w14, w15, w16, w17, rfl, S, hin⟩
    -- bad sides
    obtain ⟨si, sx, rfl⟩ := snoc_of (l := ss) l1
    have lsi : si.length ≤ 2 := by rw [List.length_append] at l3; simp at l3; omega
    have haG := S.ha
    rw [map_snoc] at haG
    refine ⟨_, rfl, (by show 0 ≤ sizeLine; decide), fun t1 n1 => ⟨(by show 4 ≤ sizeLine; decide), fun t2 n2 => ?_⟩⟩
    have y1 := same_new (o := .tup []) n1
    have y2 := same_new (o := .tup [.int 1, .int 1, .int 1, .int 1]) n2
    have y12 := y1.trans y2
    refine ⟨_, rfl, _, rfl, _, rfl, cut_reads (Same.sqT y12 haG) fun G3 r3 y3 h3 => ⟨(by show 1 ≤ sizeLine; decide), fun t4 n4 => ?_⟩⟩
    rw [cut_last] at h3
    have y4 := same_new (o := .tup [.int 0]) n4
    refine cat_reads (Same.sqT y4 h3) (SqT.of upd_same) (by rw [List.length_map]; show si.length + 1 ≤ 1000; omega) fun G5 r5 y5 h5 => ?_
    have y15 := ((y12.trans y3).trans y4).trans y5
    refine ⟨_, rfl, _, rfl, _, rfl, cut_reads (Same.sqT y15 haG) fun G6 r6 y6 h6 => ⟨_, rfl, (by show 1 ≤ sizeLine; decide), fun t7 n7 => ?_⟩⟩
    rw [cut_last] at h6
    have y7 := same_new (o := .tup [.int (-1)]) n7
    refine cat_reads (Same.sqT y7 h6) (SqT.of upd_same) (by rw [List.length_map]; show si.length + 1 ≤ 1000; omega) fun G8 r8 y8 h8 => ?_
    have y58 := (y6.trans y7).trans y8
    have y18 := y15.trans y58
    refine ⟨(by show 1 ≤ sizeLine; decide), fun t9 n9 => ⟨(by show 1 ≤ sizeLine; decide), fun t10 n10 => ⟨(by show 2 ≤ sizeLine; decide), fun t11 n11 => ⟨(by show 9 ≤ sizeLine; decide), fun LB nLB => ?_⟩⟩⟩⟩
    have y9 := same_new (o := .tup [.str "2"]) n9
    have y10 := same_new (o := .tup [.bl true]) n10
    have y11 := same_new (o := .tup [.int 2, .non]) n11
    have y911 := (y9.trans y10).trans y11
    have y1B := y18.trans y911
    have BB := BagAt.same S.bg y1B
    refine ⟨b, l, LB, _, rfl, BB.new nLB, BB.nb nLB, SqL.of upd_same, (by show 0 < 9; decide), (by show 9 < 1000; decide), fun bv J hyv BJ eJ => ?_⟩
    have eLJ := (new_but (b := b) nLB).trans eJ
    have SJ := (S.same y1B).but eLJ BJ
    have iJ := (hin.same y1B).but BB eLJ
    have carry : ∀ {q : Addr} {zs : List V}, SqT K (upd (upd (upd G8 t9 (.tup [.str "2"])) t10 (.tup [.bl true])) t11 (.tup [.int 2, .non])) q zs → SqT K J q zs := fun h => eLJ.sqT BB h
    have hbd : Bd15 K J bv := by
      rcases List.mem_cons.mp hyv with z | hyv
      · rw [z]; exact bd_sc rfl
      rcases List.mem_cons.mp hyv with z | hyv
      · rw [z]; exact bd_tup (carry (Same.sqT ((((y2.trans y3).trans y4).trans y5).trans (y58.trans y911)) (SqT.of upd_same))) (by show 0 ≤ 12; decide) (by simp) (by decide +kernel)
      rcases List.mem_cons.mp hyv with z | hyv
      · rw [z]; exact bd_sc rfl
      rcases List.mem_cons.mp hyv with z | hyv
      · rw [z]; exact bd_tup (carry (Same.sqT (((y3.trans y4).trans y5).trans (y58.trans y911)) (SqT.of upd_same))) (by show 4 ≤ 12; decide) (by decide +kernel) (by decide +kernel)
      rcases List.mem_cons.mp hyv with z | hyv
      · rw [z]; exact bd_tup (carry (Same.sqT (y58.trans y911) h5)) (by rw [List.length_append, List.length_map]; show si.length + 1 ≤ 12; omega) sc_ints (sdB_low (by decide))
      rcases List.mem_cons.mp hyv with z | hyv
      · rw [z]; exact bd_tup (carry (Same.sqT y911 h8)) (by rw [List.length_append, List.length_map]; show si.length + 1 ≤ 12; omega) sc_ints (sdB_low (by decide))
      rcases List.mem_cons.mp hyv with z | hyv
      · rw [z]; exact bd_tup (carry (Same.sqT (y10.trans y11) (SqT.of upd_same))) (by show 1 ≤ 12; decide) (by decide +kernel) (by decide +kernel)
      rcases List.mem_cons.mp hyv with z | hyv
      · rw [z]; exact bd_tup (carry (Same.sqT y11 (SqT.of upd_same))) (by show 1 ≤ 12; decide) (by decide +kernel) (by decide +kernel)
      · rw [List.mem_singleton.mp hyv]; exact bd_tup (carry (SqT.of upd_same)) (by show 2 ≤ 12; decide) (by decide +kernel) (by decide +kernel)
    -- .. are refused
    refine ⟨SJ.tb, fun G1 xG1 tb1 => ?_⟩
    have S1 := SJ.extN xG1 tb1
    have i1 := iJ.extN xG1
    have hb1 := hbd.mono (ExtN.tups xG1)
    obtain ⟨o, hO, hs⟩ := id hb1
    refine ⟨_, rfl, _, rfl, rfl, rfl, bv, iv, o, rfl, hO, hs, caughtB G1 bv _ fun G2 T2 x2 nT2 => ⟨_, rfl, (by show 2 ≤ sizeLine; decide), fun T3 nT3 => ?_⟩⟩
    have v2' := same_new (o := .tup [.str "InvalidBox", bv]) nT2
    have v3' := same_new (o := .tup [.str "InvalidBox", bv]) nT3
    have x13 := (x2.trans v2').trans v3'
    refine ⟨.ref T2, .ref T3, rfl, (dd_pairV (Same.sqT v3' (SqT.of upd_same)) (SqT.of upd_same) (OD.mono (Same.tups x13) hO).dd).le (by decide), fun G4 x4 => ⟨true, rfl, iteF ?_⟩⟩
    have S4 := S1.same (x13.trans x4)
    have i4 := i1.same (x13.trans x4)
    -- another number of directions
    refine ⟨(by show 1 ≤ sizeLine; decide), fun z nz => ⟨_, rfl, _, _, rfl, rfl, (by show (0 : Int) < 3; decide), _, _, rfl, rfl, rep_reads (SqT.of upd_same) (by omega) (by omega) fun G5' c4 s1 hc4 => ?_⟩⟩
    have s01 := (same_new (o := .tup [.int 1]) nz).trans s1
    obtain ⟨k', hk'⟩ : ∃ k' : Nat, k' = d % 3 + 1 := ⟨_, rfl⟩
    have hc5 : SqT K G5' c4 ((ones k').map V.int) := by
      have e : (ones k').map V.int = List.replicate ((d : Int) % 3 + 1).toNat (V.int 1) := by
        unfold ones
        rw [List.map_replicate, show ((d : Int) % 3 + 1).toNat = k' by omega]
      rw [e]
      exact hc4
    have lk' : (ones k').length = k' := List.length_replicate
    refine fun z' dz nz' ndz nez => ?_
    have s4 := made_same (C := C) nz' ndz
    refine ⟨z', dz, c4, .ref dd, ones k', 1, .pl, rfl, upd_same, Same.sqT s4 hc5, ?_, divs_ones k', by omega, by omega, prodL_ones k', ?_, by decide, by decide, fun G6' Z6 k6 => ⟨rfl, ?_⟩⟩
    · simp only [TrAt]
      exact ⟨dd, rfl, hdd _⟩
    · simp only [Tr.wf]
    have S6 := S4.same (s01.trans (L2.Same.made nz' ndz k6))
    refine ⟨_, rfl, a, si ++ [sx], rfl, S6.ha, fun z h => by have := hb z h; omega, _, _, rfl, rfl, ?_⟩
    by_cases h13 : prodL (si ++ [sx]) < 13
    rotate_left
    · exact ⟨false, congrArg V.bl (decide_eq_false h13), iteF ⟨_, _, _, _, _, _, _, _, _, _, _, _, _, _, _, _, rfl, S6.bg, S6.tb⟩⟩
    refine ⟨true, congrArg V.bl (decide_eq_true h13), iteT ⟨S6.tb, fun G7 xG7 tb7 => ?_⟩⟩
    have S7 := S6.extN xG7 tb7
    have Z7 := Z6.extN xG7
    obtain ⟨⟨dz7, az7, vz7, hz7, _, _⟩, _⟩ := id Z7
    refine ⟨_, rfl, _, rfl, rfl, rfl, .inr ⟨a, z', si ++ [sx], n, rfl, S7.ha, ⟨s1', by omega⟩, l1, l3, hn, ⟨_, _, hz7⟩, fun G8' x8 s8 X8 => ?_⟩⟩
    refine ⟨x8, z', si ++ [sx], ones k', n, 1, blT (si ++ [sx]) n, .pl, rfl, X8, Z7.same s8, by omega, caughtU G8' _ fun G9 T9 t9' nT9 => ⟨(by show 2 ≤ sizeLine; decide), fun T10 nT10 => ?_⟩⟩
    have u9 := same_new (o := .tup [.str "Unlike", .non]) nT9
    have u10 := same_new (o := .tup [.str "Unlike", .non]) nT10
    refine ne_pairs (Same.sqT u10 (SqT.of upd_same)) (SqT.of upd_same) dn .non (by decide +kernel) (by decide +kernel) ⟨false, rfl, iteF ?_⟩
    have S9 := S7.same ((s8.trans t9').trans (u9.trans u10))
    exact ⟨_, _, _, _, _, _, _, _, _, _, _, _, _, _, _, _, rfl, S9.bg, S9.tb⟩
end
end Lk

namespace Lk
open PySem L2 Lx LamX LrA LqA
/-- what the top has written of a def -/
structure Def (K : PySem.W.Frag) (mg : Str → Option Value) (x : Str) (st : Stmt) (ps : List Str) (f : Addr) (fd : FuncData) : Prop where
  fn : Fun K x x st f fd
  at_ : mg x = some (.ref f)
  bd : Binds K fd ps []
theorem def_mk {K : PySem.W.Frag} {h : Heap} {mg : Str → Option Value} {x : Str} {st : Stmt} {ps : List Str} {f : Addr} {oc : Value} {od an : Option Addr} {sl : Array (Option Value)} {kV dc pm cd ct : Value} (X : K.In h) (G : h.Ns mainGlobals mg)
    (a : PySem.W.nsIn K mainGlobals x = some (some (.ref f))) (l : K.lookup f = some ⟨oc, od, .func (PySem.W.fnOf x x (defArgs st) (defBody st) (defScope st) .none kV dc pm an cd ct), sl⟩) (c : PySem.W.codeIn K cd x = true) (k : PySem.W.keepIn K (.ref f) = true)
    (hb : ∀ (kV doc pm : Value) (an : Option Addr) (cdv ct : Value) (us : List Value), us.length = ps.length → bindArgs (PySem.W.fnOf x x (defArgs st) (defBody st) (defScope st) .none kV doc pm an cdv ct) ⟨us, []⟩ = pure (ps.zip us)) :
    Def K mg x st ps f (PySem.W.fnOf x x (defArgs st) (defBody st) (defScope st) .none kV dc pm an cd ct) := by
  have F := fun_mk (st := st) l c k
  exact ⟨F, PySem.W.mg_of X G a, F.binds hb⟩

theorem kb_inner {K : PySem.W.Frag} {fd : FuncData} (h : ∀ (u v : Value) (s : Shared), BindsTo s fd ⟨[u], [("inner", v)]⟩ [("sides", u), ("inner", v)]) : KBn K fd ["sides", "inner"] 1 ["inner"] glV gl2 := by
  refine ⟨fun s us ws _ h1 h2 => ?_, fun r1 r2 => r1.append r2⟩
  match us, ws, h1, h2 with
  | [u], [v], _, _ => exact h u v s
theorem all_mk {l : PySem.W.OpenLaw} {w : World} {K : PySem.W.Frag} {h : Heap} {mg : Str → Option Value} {fa : Addr} (X : K.In h) (G : h.Ns mainGlobals mg) (hfa : mg "law" = some (.ref fa))
    {C} {fI} {TD} {dd} {oT} {dT} {nT} {slT} {t200} {t20} {oc_I} {od_I} {kV_I} {dc_I} {pm_I} {an_I} {cd_I} {ct_I} {sl_I} {ddA} {ddP} {ddN} {ddS} {f_eSE} {oc_eSE} {od_eSE} {kV_eSE} {dc_eSE} {pm_eSE} {an_eSE} {ct_eSE} {sl_eSE} {cda_eSE} {cc_eSE} {ccl_eSE} {cdd_eSE} {vs_eSE} {ccs_eSE} {file_eSE} {tf_eSE} {cl_eSE} {cld_eSE} {csl_eSE} {cdD_eSE} {E_eSE} {f_eIB} {oc_eIB} {od_eIB} {kV_eIB} {dc_eIB} {pm_eIB} {an_eIB} {ct_eIB} {sl_eIB} {cda_eIB} {cc_eIB} {ccl_eIB} {cdd_eIB} {vs_eIB} {ccs_eIB} {file_eIB} {tf_eIB} {cl_eIB} {cld_eIB} {csl_eIB} {cdD_eIB} {E_eIB} {nm_eIB} {q_eIB} {N_eIB} {bs_eIB} {bm_eIB} {sn_eIB} {sub_eIB} {ab_eIB} {col_eIB} {ddd_eIB} {m0_eIB} {m1_eIB} {m2_eIB} {m3_eIB} {m5_eIB} {f_eUL} {oc_eUL} {od_eUL} {kV_eUL} {dc_eUL} {pm_eUL} {an_eUL} {ct_eUL} {sl_eUL} {cda_eUL} {cc_eUL} {ccl_eUL} {cdd_eUL} {vs_eUL} {ccs_eUL} {file_eUL} {tf_eUL} {cl_eUL} {cld_eUL} {csl_eUL} {cdD_eUL} {E_eUL} {nm_eUL} {q_eUL} {N_eUL} {bs_eUL} {bm_eUL} {sn_eUL} {sub_eUL} {ab_eUL} {col_eUL} {ddd_eUL} {m0_eUL} {m1_eUL} {m2_eUL} {m3_eUL} {m5_eUL} {f_eTM} {oc_eTM} {od_eTM} {kV_eTM} {dc_eTM} {pm_eTM} {an_eTM} {ct_eTM} {sl_eTM} {cda_eTM} {cc_eTM} {ccl_eTM} {cdd_eTM} {vs_eTM} {ccs_eTM} {file_eTM} {tf_eTM} {cl_eTM} {cld_eTM} {csl_eTM} {cdD_eTM} {E_eTM} {nm_eTM} {q_eTM} {N_eTM} {bs_eTM} {bm_eTM} {sn_eTM} {sub_eTM} {ab_eTM} {col_eTM} {ddd_eTM} {m0_eTM} {m1_eTM} {m2_eTM} {m3_eTM} {m5_eTM} {f_eID} {oc_eID} {od_eID} {kV_eID} {dc_eID} {pm_eID} {an_eID} {ct_eID} {sl_eID} {cda_eID} {cc_eID} {ccl_eID} {cdd_eID} {vs_eID} {ccs_eID} {file_eID} {tf_eID} {cl_eID} {cld_eID} {csl_eID} {cdD_eID} {E_eID} {nm_eID} {q_eID} {N_eID} {bs_eID} {bm_eID} {sn_eID} {sub_eID} {ab_eID} {col_eID} {ddd_eID} {m0_eID} {m1_eID} {m2_eID} {m3_eID} {m5_eID} {f_Law} {oc_Law} {od_Law} {kV_Law} {dc_Law} {pm_Law} {an_Law} {ct_Law} {sl_Law} {cda} {Pt} {dcd} {vsL} {slcd} {fileL} {tfL} {flagsL} {tgL} {inFL} {textL} {ttL} {f_Try} {oc_Try} {od_Try} {kV_Try} {dc_Try} {pm_Try} {an_Try} {cd_Try} {ct_Try} {sl_Try} {f_Field} {oc_Field} {od_Field} {kV_Field} {dc_Field} {pm_Field} {an_Field} {cd_Field} {ct_Field} {sl_Field} {f_mCall} {oc_mCall} {od_mCall} {kV_mCall} {dc_mCall} {pm_mCall} {an_mCall} {cd_mCall} {ct_mCall} {sl_mCall} {f_mThen} {oc_mThen} {od_mThen} {kV_mThen} {dc_mThen} {pm_mThen} {an_mThen} {cd_mThen} {ct_mThen} {sl_mThen} {f_mSEq} {oc_mSEq} {od_mSEq} {kV_mSEq} {dc_mSEq} {pm_mSEq} {an_mSEq} {cd_mSEq} {ct_mSEq} {sl_mSEq} {f_mSPath} {oc_mSPath} {od_mSPath} {kV_mSPath} {dc_mSPath} {pm_mSPath} {an_mSPath} {cd_mSPath} {ct_mSPath} {sl_mSPath} {f_mOrder} {oc_mOrder} {od_mOrder} {kV_mOrder} {dc_mOrder} {pm_mOrder} {an_mOrder} {cd_mOrder} {ct_mOrder} {sl_mOrder} {f_ChkPlace} {oc_ChkPlace} {od_ChkPlace} {kV_ChkPlace} {dc_ChkPlace} {pm_ChkPlace} {an_ChkPlace} {cd_ChkPlace} {ct_ChkPlace} {sl_ChkPlace} {f_AreNums} {oc_AreNums} {od_AreNums} {kV_AreNums} {dc_AreNums} {pm_AreNums} {an_AreNums} {cd_AreNums} {ct_AreNums} {sl_AreNums} {f_IsNum} {oc_IsNum} {od_IsNum} {kV_IsNum} {dc_IsNum} {pm_IsNum} {an_IsNum} {cd_IsNum} {ct_IsNum} {sl_IsNum} {f_Path} {oc_Path} {od_Path} {kV_Path} {dc_Path} {pm_Path} {an_Path} {cd_Path} {ct_Path} {sl_Path} {f_ClassAt} {oc_ClassAt} {od_ClassAt} {kV_ClassAt} {dc_ClassAt} {pm_ClassAt} {an_ClassAt} {cd_ClassAt} {ct_ClassAt} {sl_ClassAt} {f_Dot} {oc_Dot} {od_Dot} {kV_Dot} {dc_Dot} {pm_Dot} {an_Dot} {cd_Dot} {ct_Dot} {sl_Dot} {f_Gix} {oc_Gix} {od_Gix} {kV_Gix} {dc_Gix} {pm_Gix} {an_Gix} {cd_Gix} {ct_Gix} {sl_Gix} {f_Blocks} {oc_Blocks} {od_Blocks} {kD_Blocks} {dc_Blocks} {pm_Blocks} {an_Blocks} {cd_Blocks} {ct_Blocks} {sl_Blocks} {f_Bag} {oc_Bag} {od_Bag} {kV_Bag} {dc_Bag} {pm_Bag} {an_Bag} {cd_Bag} {ct_Bag} {sl_Bag} {f_Pull} {oc_Pull} {od_Pull} {kV_Pull} {dc_Pull} {pm_Pull} {an_Pull} {cd_Pull} {ct_Pull} {sl_Pull} {f_Of} {oc_Of} {od_Of} {kV_Of} {dc_Of} {pm_Of} {an_Of} {cd_Of} {ct_Of} {sl_Of} {f_Place} {oc_Place} {od_Place} {kV_Place} {dc_Place} {pm_Place} {an_Place} {cd_Place} {ct_Place} {sl_Place} {f_Plus} {oc_Plus} {od_Plus} {kV_Plus} {dc_Plus} {pm_Plus} {an_Plus} {cd_Plus} {ct_Plus} {sl_Plus} {f_LSame} {oc_LSame} {od_LSame} {kV_LSame} {dc_LSame} {pm_LSame} {an_LSame} {cd_LSame} {ct_LSame} {sl_LSame} {f_SmallScan} {oc_SmallScan} {od_SmallScan} {kV_SmallScan} {dc_SmallScan} {pm_SmallScan} {an_SmallScan} {cd_SmallScan} {ct_SmallScan} {sl_SmallScan} {f_Divisors} {oc_Divisors} {od_Divisors} {kV_Divisors} {dc_Divisors} {pm_Divisors} {an_Divisors} {cd_Divisors} {ct_Divisors} {sl_Divisors} {f_Mixed} {oc_Mixed} {od_Mixed} {kV_Mixed} {dc_Mixed} {pm_Mixed} {an_Mixed} {cd_Mixed} {ct_Mixed} {sl_Mixed} {f_Tree} {oc_Tree} {od_Tree} {kV_Tree} {dc_Tree} {pm_Tree} {an_Tree} {cd_Tree} {ct_Tree} {sl_Tree} {f_Count} {oc_Count} {od_Count} {kV_Count} {dc_Count} {pm_Count} {an_Count} {cd_Count} {ct_Count} {sl_Count} {f_Parts} {oc_Parts} {od_Parts} {kV_Parts} {dc_Parts} {pm_Parts} {an_Parts} {cd_Parts} {ct_Parts} {sl_Parts} {f_LCommon} {oc_LCommon} {od_LCommon} {kV_LCommon} {dc_LCommon} {pm_LCommon} {an_LCommon} {cd_LCommon} {ct_LCommon} {sl_LCommon} {f_LLcm} {oc_LLcm} {od_LLcm} {kV_LLcm} {dc_LLcm} {pm_LLcm} {an_LLcm} {cd_LLcm} {ct_LLcm} {sl_LLcm} {f_LGcd} {oc_LGcd} {od_LGcd} {kV_LGcd} {dc_LGcd} {pm_LGcd} {an_LGcd} {cd_LGcd} {ct_LGcd} {sl_LGcd} {f_Before} {oc_Before} {od_Before} {kV_Before} {dc_Before} {pm_Before} {an_Before} {cd_Before} {ct_Before} {sl_Before} {f_LPath} {oc_LPath} {od_LPath} {kV_LPath} {dc_LPath} {pm_LPath} {an_LPath} {cd_LPath} {ct_LPath} {sl_LPath} {f_LClass} {oc_LClass} {od_LClass} {kV_LClass} {dc_LClass} {pm_LClass} {an_LClass} {cd_LClass} {ct_LClass} {sl_LClass} {f_LTied} {oc_LTied} {od_LTied} {kV_LTied} {dc_LTied} {pm_LTied} {an_LTied} {cd_LTied} {ct_LTied} {sl_LTied} {f_Cut} {oc_Cut} {od_Cut} {kV_Cut} {dc_Cut} {pm_Cut} {an_Cut} {cd_Cut} {ct_Cut} {sl_Cut} {f_ClassCount} {oc_ClassCount} {od_ClassCount} {kV_ClassCount} {dc_ClassCount} {pm_ClassCount} {an_ClassCount} {cd_ClassCount} {ct_ClassCount} {sl_ClassCount} {f_ChkDiv} {oc_ChkDiv} {od_ChkDiv} {kV_ChkDiv} {dc_ChkDiv} {pm_ChkDiv} {an_ChkDiv} {cd_ChkDiv} {ct_ChkDiv} {sl_ChkDiv} {t_MAX_CLASSES} {f_AreSides} {oc_AreSides} {od_AreSides} {kV_AreSides} {dc_AreSides} {pm_AreSides} {an_AreSides} {cd_AreSides} {ct_AreSides} {sl_AreSides} {t_MAX_DIRECTIONS} {f_Product} {oc_Product} {od_Product} {kV_Product} {dc_Product} {pm_Product} {an_Product} {cd_Product} {ct_Product} {sl_Product} {f_Nodes} {oc_Nodes} {od_Nodes} {kV_Nodes} {dc_Nodes} {pm_Nodes} {an_Nodes} {cd_Nodes} {ct_Nodes} {sl_Nodes} {f_Inner} {oc_Inner} {od_Inner} {kV_Inner} {dc_Inner} {pm_Inner} {an_Inner} {cd_Inner} {ct_Inner} {sl_Inner} {pA} {tP} {dA} {nA} {slA} {f_IsKey} {oc_IsKey} {od_IsKey} {kV_IsKey} {dc_IsKey} {pm_IsKey} {an_IsKey} {cd_IsKey} {ct_IsKey} {sl_IsKey} {f_IsFork} {oc_IsFork} {od_IsFork} {kV_IsFork} {dc_IsFork} {pm_IsFork} {an_IsFork} {cd_IsFork} {ct_IsFork} {sl_IsFork} {f_Groups} {oc_Groups} {od_Groups} {kV_Groups} {dc_Groups} {pm_Groups} {an_Groups} {cd_Groups} {ct_Groups} {sl_Groups} {f_Asc} {oc_Asc} {od_Asc} {kV_Asc} {dc_Asc} {pm_Asc} {an_Asc} {cd_Asc} {ct_Asc} {sl_Asc} {f_Common} {oc_Common} {od_Common} {kV_Common} {dc_Common} {pm_Common} {an_Common} {cd_Common} {ct_Common} {sl_Common} {f_Lcm} {oc_Lcm} {od_Lcm} {kV_Lcm} {dc_Lcm} {pm_Lcm} {an_Lcm} {cd_Lcm} {ct_Lcm} {sl_Lcm} {f_Gcd} {oc_Gcd} {od_Gcd} {kV_Gcd} {dc_Gcd} {pm_Gcd} {an_Gcd} {cd_Gcd} {ct_Gcd} {sl_Gcd} {f_mRefTree} {oc_mRefTree} {od_mRefTree} {kV_mRefTree} {dc_mRefTree} {pm_mRefTree} {an_mRefTree} {cd_mRefTree} {ct_mRefTree} {sl_mRefTree} {f_Ident} {oc_Ident} {od_Ident} {kV_Ident} {dc_Ident} {pm_Ident} {an_Ident} {cd_Ident} {ct_Ident} {sl_Ident} {f_mChanged} {oc_mChanged} {od_mChanged} {kV_mChanged} {dc_mChanged} {pm_mChanged} {an_mChanged} {cd_mChanged} {ct_mChanged} {sl_mChanged} {f_Sources} {oc_Sources} {od_Sources} {kV_Sources} {dc_Sources} {pm_Sources} {an_Sources} {cd_Sources} {ct_Sources} {sl_Sources} {f_Added} {oc_Added} {od_Added} {kV_Added} {dc_Added} {pm_Added} {an_Added} {cd_Added} {ct_Added} {sl_Added} {f_Times} {oc_Times} {od_Times} {kV_Times} {dc_Times} {pm_Times} {an_Times} {cd_Times} {ct_Times} {sl_Times} {f_PlaceAt} {oc_PlaceAt} {od_PlaceAt} {kV_PlaceAt} {dc_PlaceAt} {pm_PlaceAt} {an_PlaceAt} {cd_PlaceAt} {ct_PlaceAt} {sl_PlaceAt} {f_MovedT} {oc_MovedT} {od_MovedT} {kV_MovedT} {dc_MovedT} {pm_MovedT} {an_MovedT} {cd_MovedT} {ct_MovedT} {sl_MovedT} {f_RowTimes} {oc_RowTimes} {od_RowTimes} {kV_RowTimes} {dc_RowTimes} {pm_RowTimes} {an_RowTimes} {cd_RowTimes} {ct_RowTimes} {sl_RowTimes} {f_Column} {oc_Column} {od_Column} {kV_Column} {dc_Column} {pm_Column} {an_Column} {cd_Column} {ct_Column} {sl_Column} {f_MovedC} {oc_MovedC} {od_MovedC} {kV_MovedC} {dc_MovedC} {pm_MovedC} {an_MovedC} {cd_MovedC} {ct_MovedC} {sl_MovedC} {f_FloorT} {oc_FloorT} {od_FloorT} {kV_FloorT} {dc_FloorT} {pm_FloorT} {an_FloorT} {cd_FloorT} {ct_FloorT} {sl_FloorT} {f_mSTied} {oc_mSTied} {od_mSTied} {kV_mSTied} {dc_mSTied} {pm_mSTied} {an_mSTied} {cd_mSTied} {ct_mSTied} {sl_mSTied} {f_ChkBox} {oc_ChkBox} {od_ChkBox} {kV_ChkBox} {dc_ChkBox} {pm_ChkBox} {an_ChkBox} {cd_ChkBox} {ct_ChkBox} {sl_ChkBox} {f_CellsP} {oc_CellsP} {od_CellsP} {kV_CellsP} {dc_CellsP} {pm_CellsP} {an_CellsP} {cd_CellsP} {ct_CellsP} {sl_CellsP} {t_MAX_CELLS} {f_pPNodes} {p_pPNodes} {rest_pPNodes} {oc_pPNodes} {od_pPNodes} {kV_pPNodes} {dc_pPNodes} {pm_pPNodes} {an_pPNodes} {cd_pPNodes} {ct_pPNodes} {sl_pPNodes}
    (aC : PySem.W.nsIn K mainGlobals "Scan" = some (some (.ref C)))
    (aI : PySem.W.findIn K (.ref C) "__init__" = some (some (.ref fI)))
    (iI : PySem.W.isFn K (.ref fI) = true)
    (l_I : K.lookup fI = some ⟨oc_I, od_I, .func (PySem.W.fnOf "__init__" "Scan.__init__" (defArgs sInit) (defBody sInit) (defScope sInit) (.ref TD) kV_I dc_I pm_I an_I cd_I ct_I), sl_I⟩)
    (c_I : PySem.W.codeIn K cd_I "Scan.__init__" = true)
    (k_I : PySem.W.keepIn K (.ref fI) = true)
    (lT : K.lookup TD = some ⟨oT, dT, .seq #[.ref dd] nT, slT⟩)
    (pg : PySem.W.plainGet K C Str.empty = true)
    (hd : PySem.W.hasDictIn K C = true)
    (po : PySem.W.plainOver K C = true)
    (sa : PySem.W.findIn K (.ref C) "__setattr__" = some (some (.builtin "object.__setattr__")))
    (mkC : PySem.W.makesIn K C = true)
    (kC : PySem.W.keepIn K (.ref C) = true)
    (nf0 : PySem.W.findIn K (.ref C) "class_total" = some none)
    (nf1 : PySem.W.findIn K (.ref C) "node_total" = some none)
    (nf2 : PySem.W.findIn K (.ref C) "own_divisors" = some none)
    (nf3 : PySem.W.findIn K (.ref C) "own_tree" = some none)
    (rd : PySem.W.readsIn K C (.type "type") = true)
    (ga : PySem.W.specialIn K (.ref C) "__getattribute__" = some (some (.builtin "type.__getattribute__")))
    (v1 : PySem.W.findCls K (.ref C) (.type "type") "MAX_NODES" = some (.val (.int 200 t200)))
    (v2 : PySem.W.findCls K (.ref C) (.type "type") "MAX_DEPTH" = some (.val (.int 20 t20)))
    (ldd : K.lookup dd = some ⟨.type "tuple", ddA, .seq #[.str "places" ddP] ddN, ddS⟩)
    (z_super : PySem.W.nsIn K mainGlobals "super" = some none)
    (spT : (l.prog.main.scope.names.lookup ("super" : Str)).isSome = false)
    (spO : PySem.W.nsIn K cStatics "thirdparty.any" = some none)
    (aE_eSE : PySem.W.nsIn K mainGlobals "ScanError" = some (some (.ref E_eSE)))
    (iE_eSE : PySem.W.findIn K (.ref E_eSE) "__init__" = some (some (.ref f_eSE)))
    (lE_eSE : K.lookup f_eSE = some ⟨oc_eSE, od_eSE, .func (PySem.W.ksFn "__init__" "ScanError.__init__" (defArgs sSE) (defBody sSE) (defScope sSE) .none kV_eSE dc_eSE pm_eSE an_eSE (.ref cda_eSE) ct_eSE cc_eSE), sl_eSE⟩)
    (cE_eSE : PySem.W.codeIn K (.ref cda_eSE) "ScanError.__init__" = true)
    (lcE_eSE : K.lookup cda_eSE = some ⟨ccl_eSE, cdd_eSE, .fields vs_eSE, ccs_eSE⟩)
    (v2E_eSE : vs_eSE[2]? = some (.str file_eSE tf_eSE))
    (flE_eSE : ((l.prog.main.file : Str) == file_eSE) = true)
    (llE_eSE : K.lookup cc_eSE = some ⟨cl_eSE, cld_eSE, .cell (some (.ref E_eSE)), csl_eSE⟩)
    (lDE_eSE : PySem.W.clsIn K E_eSE = some cdD_eSE)
    (aE_eIB : PySem.W.nsIn K mainGlobals "InvalidBox" = some (some (.ref E_eIB)))
    (iE_eIB : PySem.W.findIn K (.ref E_eIB) "__init__" = some (some (.ref f_eIB)))
    (lE_eIB : K.lookup f_eIB = some ⟨oc_eIB, od_eIB, .func (PySem.W.ksFn "__init__" "InvalidBox.__init__" (defArgs sIB) (defBody sIB) (defScope sIB) .none kV_eIB dc_eIB pm_eIB an_eIB (.ref cda_eIB) ct_eIB cc_eIB), sl_eIB⟩)
    (cE_eIB : PySem.W.codeIn K (.ref cda_eIB) "InvalidBox.__init__" = true)
    (lcE_eIB : K.lookup cda_eIB = some ⟨ccl_eIB, cdd_eIB, .fields vs_eIB, ccs_eIB⟩)
    (v2E_eIB : vs_eIB[2]? = some (.str file_eIB tf_eIB))
    (flE_eIB : ((l.prog.main.file : Str) == file_eIB) = true)
    (llE_eIB : K.lookup cc_eIB = some ⟨cl_eIB, cld_eIB, .cell (some (.ref E_eIB)), csl_eIB⟩)
    (lDE_eIB : PySem.W.clsIn K E_eIB = some cdD_eIB)
    (xL_eIB : K.lookup E_eIB = some (excClassObj nm_eIB q_eIB E_eIB N_eIB bs_eIB bm_eIB true sn_eIB sub_eIB ab_eIB col_eIB ddd_eIB m0_eIB m1_eIB m2_eIB m3_eIB m5_eIB "ValueError.__new__"))
    (xR_eIB : PySem.HandSPX.refsVE bm_eIB = true)
    (sa_eIB : PySem.W.findIn K (.ref E_eIB) "__setattr__" = some (some (.builtin "object.__setattr__")))
    (exC_eIB : PySem.W.subIn K (.ref E_eIB) (.type "BaseException") = some true)
    (tyC_eIB : PySem.W.typeIn K (.ref E_eIB) = some (.type "type"))
    (kpC_eIB : PySem.W.keepIn K (.ref E_eIB) = true)
    (s1_eIB : PySem.W.mroIn K E_eIB (.ref E_eIB) = some true)
    (s2_eIB : PySem.W.mroIn K E_eIB (.ref E_eSE) = some true)
    (m1x_eIB : PySem.W.ks_superIn K E_eIB E_eIB "__init__" = some (some (.ref f_eSE)))
    (m2x_eIB : PySem.W.ks_superIn K E_eIB E_eSE "__init__" = some (some (.builtin "ValueError.__init__")))
    (ve_eIB : PySem.W.subIn K (.ref E_eIB) (.type "ValueError") = some true)
    (tS_eSE : PySem.W.typeIn K (.ref f_eSE) = some (.type "function"))
    (fS_eSE : PySem.W.fnIn K f_eSE = true)
    (tI_eIB : PySem.W.typeIn K (.ref f_eIB) = some (.type "function"))
    (no_tag_eIB : PySem.W.findIn K (.ref E_eIB) "tag" = some none)
    (no_given_eIB : PySem.W.findIn K (.ref E_eIB) "given" = some none)
    (no_limit_eIB : PySem.W.findIn K (.ref E_eIB) "limit" = some none)
    (no_index_eIB : PySem.W.findIn K (.ref E_eIB) "index" = some none)
    (no_name_eIB : PySem.W.findIn K (.ref E_eIB) "name" = some none)
    (no_first_eIB : PySem.W.findIn K (.ref E_eIB) "first" = some none)
    (no_line_eIB : PySem.W.findIn K (.ref E_eIB) "line" = some none)
    (xga_eIB : PySem.W.findIn K (.ref E_eIB) "__getattribute__" = some (some (.builtin "BaseException.__getattribute__")))
    (xgg_eIB : PySem.W.findIn K (.ref E_eIB) "__getattr__" = some none)
    (xhd_eIB : PySem.W.hasDictIn K E_eIB = true)
    (xex_eIB : PySem.W.exmOne K (.ref E_eIB) (.ref E_eSE) = some true)
    (aE_eUL : PySem.W.nsIn K mainGlobals "Unlike" = some (some (.ref E_eUL)))
    (iE_eUL : PySem.W.findIn K (.ref E_eUL) "__init__" = some (some (.ref f_eUL)))
    (lE_eUL : K.lookup f_eUL = some ⟨oc_eUL, od_eUL, .func (PySem.W.ksFn "__init__" "Unlike.__init__" (defArgs sUL) (defBody sUL) (defScope sUL) .none kV_eUL dc_eUL pm_eUL an_eUL (.ref cda_eUL) ct_eUL cc_eUL), sl_eUL⟩)
    (cE_eUL : PySem.W.codeIn K (.ref cda_eUL) "Unlike.__init__" = true)
    (lcE_eUL : K.lookup cda_eUL = some ⟨ccl_eUL, cdd_eUL, .fields vs_eUL, ccs_eUL⟩)
    (v2E_eUL : vs_eUL[2]? = some (.str file_eUL tf_eUL))
    (flE_eUL : ((l.prog.main.file : Str) == file_eUL) = true)
    (llE_eUL : K.lookup cc_eUL = some ⟨cl_eUL, cld_eUL, .cell (some (.ref E_eUL)), csl_eUL⟩)
    (lDE_eUL : PySem.W.clsIn K E_eUL = some cdD_eUL)
    (xL_eUL : K.lookup E_eUL = some (excClassObj nm_eUL q_eUL E_eUL N_eUL bs_eUL bm_eUL true sn_eUL sub_eUL ab_eUL col_eUL ddd_eUL m0_eUL m1_eUL m2_eUL m3_eUL m5_eUL "ValueError.__new__"))
    (xR_eUL : PySem.HandSPX.refsVE bm_eUL = true)
    (sa_eUL : PySem.W.findIn K (.ref E_eUL) "__setattr__" = some (some (.builtin "object.__setattr__")))
    (exC_eUL : PySem.W.subIn K (.ref E_eUL) (.type "BaseException") = some true)
    (tyC_eUL : PySem.W.typeIn K (.ref E_eUL) = some (.type "type"))
    (kpC_eUL : PySem.W.keepIn K (.ref E_eUL) = true)
    (s1_eUL : PySem.W.mroIn K E_eUL (.ref E_eUL) = some true)
    (s2_eUL : PySem.W.mroIn K E_eUL (.ref E_eSE) = some true)
    (m1x_eUL : PySem.W.ks_superIn K E_eUL E_eUL "__init__" = some (some (.ref f_eSE)))
    (m2x_eUL : PySem.W.ks_superIn K E_eUL E_eSE "__init__" = some (some (.builtin "ValueError.__init__")))
    (ve_eUL : PySem.W.subIn K (.ref E_eUL) (.type "ValueError") = some true)
    (tI_eUL : PySem.W.typeIn K (.ref f_eUL) = some (.type "function"))
    (no_tag_eUL : PySem.W.findIn K (.ref E_eUL) "tag" = some none)
    (no_given_eUL : PySem.W.findIn K (.ref E_eUL) "given" = some none)
    (no_limit_eUL : PySem.W.findIn K (.ref E_eUL) "limit" = some none)
    (no_index_eUL : PySem.W.findIn K (.ref E_eUL) "index" = some none)
    (no_name_eUL : PySem.W.findIn K (.ref E_eUL) "name" = some none)
    (no_first_eUL : PySem.W.findIn K (.ref E_eUL) "first" = some none)
    (no_line_eUL : PySem.W.findIn K (.ref E_eUL) "line" = some none)
    (xga_eUL : PySem.W.findIn K (.ref E_eUL) "__getattribute__" = some (some (.builtin "BaseException.__getattribute__")))
    (xgg_eUL : PySem.W.findIn K (.ref E_eUL) "__getattr__" = some none)
    (xhd_eUL : PySem.W.hasDictIn K E_eUL = true)
    (xex_eUL : PySem.W.exmOne K (.ref E_eUL) (.ref E_eSE) = some true)
    (aE_eTM : PySem.W.nsIn K mainGlobals "TooManyClasses" = some (some (.ref E_eTM)))
    (iE_eTM : PySem.W.findIn K (.ref E_eTM) "__init__" = some (some (.ref f_eTM)))
    (lE_eTM : K.lookup f_eTM = some ⟨oc_eTM, od_eTM, .func (PySem.W.ksFn "__init__" "TooManyClasses.__init__" (defArgs sTM) (defBody sTM) (defScope sTM) .none kV_eTM dc_eTM pm_eTM an_eTM (.ref cda_eTM) ct_eTM cc_eTM), sl_eTM⟩)
    (cE_eTM : PySem.W.codeIn K (.ref cda_eTM) "TooManyClasses.__init__" = true)
    (lcE_eTM : K.lookup cda_eTM = some ⟨ccl_eTM, cdd_eTM, .fields vs_eTM, ccs_eTM⟩)
    (v2E_eTM : vs_eTM[2]? = some (.str file_eTM tf_eTM))
    (flE_eTM : ((l.prog.main.file : Str) == file_eTM) = true)
    (llE_eTM : K.lookup cc_eTM = some ⟨cl_eTM, cld_eTM, .cell (some (.ref E_eTM)), csl_eTM⟩)
    (lDE_eTM : PySem.W.clsIn K E_eTM = some cdD_eTM)
    (xL_eTM : K.lookup E_eTM = some (excClassObj nm_eTM q_eTM E_eTM N_eTM bs_eTM bm_eTM true sn_eTM sub_eTM ab_eTM col_eTM ddd_eTM m0_eTM m1_eTM m2_eTM m3_eTM m5_eTM "ValueError.__new__"))
    (xR_eTM : PySem.HandSPX.refsVE bm_eTM = true)
    (sa_eTM : PySem.W.findIn K (.ref E_eTM) "__setattr__" = some (some (.builtin "object.__setattr__")))
    (exC_eTM : PySem.W.subIn K (.ref E_eTM) (.type "BaseException") = some true)
    (tyC_eTM : PySem.W.typeIn K (.ref E_eTM) = some (.type "type"))
    (kpC_eTM : PySem.W.keepIn K (.ref E_eTM) = true)
    (s1_eTM : PySem.W.mroIn K E_eTM (.ref E_eTM) = some true)
    (s2_eTM : PySem.W.mroIn K E_eTM (.ref E_eSE) = some true)
    (m1x_eTM : PySem.W.ks_superIn K E_eTM E_eTM "__init__" = some (some (.ref f_eSE)))
    (m2x_eTM : PySem.W.ks_superIn K E_eTM E_eSE "__init__" = some (some (.builtin "ValueError.__init__")))
    (ve_eTM : PySem.W.subIn K (.ref E_eTM) (.type "ValueError") = some true)
    (tI_eTM : PySem.W.typeIn K (.ref f_eTM) = some (.type "function"))
    (no_tag_eTM : PySem.W.findIn K (.ref E_eTM) "tag" = some none)
    (no_given_eTM : PySem.W.findIn K (.ref E_eTM) "given" = some none)
    (no_limit_eTM : PySem.W.findIn K (.ref E_eTM) "limit" = some none)
    (no_index_eTM : PySem.W.findIn K (.ref E_eTM) "index" = some none)
    (no_name_eTM : PySem.W.findIn K (.ref E_eTM) "name" = some none)
    (no_first_eTM : PySem.W.findIn K (.ref E_eTM) "first" = some none)
    (no_line_eTM : PySem.W.findIn K (.ref E_eTM) "line" = some none)
    (xga_eTM : PySem.W.findIn K (.ref E_eTM) "__getattribute__" = some (some (.builtin "BaseException.__getattribute__")))
    (xgg_eTM : PySem.W.findIn K (.ref E_eTM) "__getattr__" = some none)
    (xhd_eTM : PySem.W.hasDictIn K E_eTM = true)
    (xex_eTM : PySem.W.exmOne K (.ref E_eTM) (.ref E_eSE) = some true)
    (aE_eID : PySem.W.nsIn K mainGlobals "InvalidDivisors" = some (some (.ref E_eID)))
    (iE_eID : PySem.W.findIn K (.ref E_eID) "__init__" = some (some (.ref f_eID)))
    (lE_eID : K.lookup f_eID = some ⟨oc_eID, od_eID, .func (PySem.W.ksFn "__init__" "InvalidDivisors.__init__" (defArgs sID) (defBody sID) (defScope sID) .none kV_eID dc_eID pm_eID an_eID (.ref cda_eID) ct_eID cc_eID), sl_eID⟩)
    (cE_eID : PySem.W.codeIn K (.ref cda_eID) "InvalidDivisors.__init__" = true)
    (lcE_eID : K.lookup cda_eID = some ⟨ccl_eID, cdd_eID, .fields vs_eID, ccs_eID⟩)
    (v2E_eID : vs_eID[2]? = some (.str file_eID tf_eID))
    (flE_eID : ((l.prog.main.file : Str) == file_eID) = true)
    (llE_eID : K.lookup cc_eID = some ⟨cl_eID, cld_eID, .cell (some (.ref E_eID)), csl_eID⟩)
    (lDE_eID : PySem.W.clsIn K E_eID = some cdD_eID)
    (xL_eID : K.lookup E_eID = some (excClassObj nm_eID q_eID E_eID N_eID bs_eID bm_eID true sn_eID sub_eID ab_eID col_eID ddd_eID m0_eID m1_eID m2_eID m3_eID m5_eID "ValueError.__new__"))
    (xR_eID : PySem.HandSPX.refsVE bm_eID = true)
    (sa_eID : PySem.W.findIn K (.ref E_eID) "__setattr__" = some (some (.builtin "object.__setattr__")))
    (exC_eID : PySem.W.subIn K (.ref E_eID) (.type "BaseException") = some true)
    (tyC_eID : PySem.W.typeIn K (.ref E_eID) = some (.type "type"))
    (kpC_eID : PySem.W.keepIn K (.ref E_eID) = true)
    (s1_eID : PySem.W.mroIn K E_eID (.ref E_eID) = some true)
    (s2_eID : PySem.W.mroIn K E_eID (.ref E_eSE) = some true)
    (m1x_eID : PySem.W.ks_superIn K E_eID E_eID "__init__" = some (some (.ref f_eSE)))
    (m2x_eID : PySem.W.ks_superIn K E_eID E_eSE "__init__" = some (some (.builtin "ValueError.__init__")))
    (ve_eID : PySem.W.subIn K (.ref E_eID) (.type "ValueError") = some true)
    (tI_eID : PySem.W.typeIn K (.ref f_eID) = some (.type "function"))
    (no_tag_eID : PySem.W.findIn K (.ref E_eID) "tag" = some none)
    (no_given_eID : PySem.W.findIn K (.ref E_eID) "given" = some none)
    (no_limit_eID : PySem.W.findIn K (.ref E_eID) "limit" = some none)
    (no_index_eID : PySem.W.findIn K (.ref E_eID) "index" = some none)
    (no_name_eID : PySem.W.findIn K (.ref E_eID) "name" = some none)
    (no_first_eID : PySem.W.findIn K (.ref E_eID) "first" = some none)
    (no_line_eID : PySem.W.findIn K (.ref E_eID) "line" = some none)
    (xga_eID : PySem.W.findIn K (.ref E_eID) "__getattribute__" = some (some (.builtin "BaseException.__getattribute__")))
    (xgg_eID : PySem.W.findIn K (.ref E_eID) "__getattr__" = some none)
    (xhd_eID : PySem.W.hasDictIn K E_eID = true)
    (xex_eID : PySem.W.exmOne K (.ref E_eID) (.ref E_eSE) = some true)
    (icA : PySem.W.findIn K (.ref C) "__class__" = some (some (.builtin "object.__class__")))
    (icN : PySem.W.specialIn K (.builtin "object.__class__") "__get__" = some (some (.builtin "getset_descriptor.__get__")))
    (icT : PySem.W.takesIn K (.builtin "object.__class__") = some true)
    (icM : PySem.W.mroIn K C (.type "object") = some true)
    (icK : PySem.W.kitOne K (.ref C) (.ref C) = some true)
    (a_Law : PySem.W.nsIn K mainGlobals "law" = some (some (.ref f_Law)))
    (l_Law : K.lookup f_Law = some ⟨oc_Law, od_Law, .func (PySem.W.fnOf "law" "law" (defArgs sLaw) (defBody sLaw) (defScope sLaw) .none kV_Law dc_Law pm_Law an_Law (.ref cda) ct_Law), sl_Law⟩)
    (c_Law : PySem.W.codeIn K (.ref cda) "law" = true)
    (k_Law : PySem.W.keepIn K (.ref f_Law) = true)
    (lcd : K.lookup cda = some ⟨.type "code", dcd, .fields vsL, slcd⟩)
    (v11 : vsL[11]? = some (.ref Pt))
    (v11d : vsL.getD 11 .none = .ref Pt)
    (v18 : vsL.getD 18 .none = .str fileL tfL)
    (v7 : vsL.getD 7 .none = .int flagsL tgL)
    (v9 : vsL.getD 9 .none = .bool inFL)
    (v10 : vsL.getD 10 .none = .int textL ttL)
    (vne : cda ≠ Pt)
    (lPt : K.lookup Pt = none)
    (tab : h.get? Pt = some { cls := .none, data := .fields #[] })
    (a_Try : PySem.W.nsIn K mainGlobals "_law_try" = some (some (.ref f_Try)))
    (l_Try : K.lookup f_Try = some ⟨oc_Try, od_Try, .func (PySem.W.fnOf "_law_try" "_law_try" (defArgs sTry) (defBody sTry) (defScope sTry) .none kV_Try dc_Try pm_Try an_Try cd_Try ct_Try), sl_Try⟩)
    (c_Try : PySem.W.codeIn K cd_Try "_law_try" = true)
    (k_Try : PySem.W.keepIn K (.ref f_Try) = true)
    (a_Field : PySem.W.nsIn K mainGlobals "_law_field" = some (some (.ref f_Field)))
    (l_Field : K.lookup f_Field = some ⟨oc_Field, od_Field, .func (PySem.W.fnOf "_law_field" "_law_field" (defArgs sField) (defBody sField) (defScope sField) .none kV_Field dc_Field pm_Field an_Field cd_Field ct_Field), sl_Field⟩)
    (c_Field : PySem.W.codeIn K cd_Field "_law_field" = true)
    (k_Field : PySem.W.keepIn K (.ref f_Field) = true)
    (am_mCall : PySem.W.findIn K (.ref C) "__call__" = some (some (.ref f_mCall)))
    (im_mCall : PySem.W.isFn K (.ref f_mCall) = true)
    (l_mCall : K.lookup f_mCall = some ⟨oc_mCall, od_mCall, .func (PySem.W.fnOf "__call__" "Scan.__call__" (defArgs sCall) (defBody sCall) (defScope sCall) .none kV_mCall dc_mCall pm_mCall an_mCall cd_mCall ct_mCall), sl_mCall⟩)
    (c_mCall : PySem.W.codeIn K cd_mCall "Scan.__call__" = true)
    (k_mCall : PySem.W.keepIn K (.ref f_mCall) = true)
    (am_mThen : PySem.W.findIn K (.ref C) "then" = some (some (.ref f_mThen)))
    (im_mThen : PySem.W.isFn K (.ref f_mThen) = true)
    (l_mThen : K.lookup f_mThen = some ⟨oc_mThen, od_mThen, .func (PySem.W.fnOf "then" "Scan.then" (defArgs sThen) (defBody sThen) (defScope sThen) .none kV_mThen dc_mThen pm_mThen an_mThen cd_mThen ct_mThen), sl_mThen⟩)
    (c_mThen : PySem.W.codeIn K cd_mThen "Scan.then" = true)
    (k_mThen : PySem.W.keepIn K (.ref f_mThen) = true)
    (am_mSEq : PySem.W.findIn K (.ref C) "__eq__" = some (some (.ref f_mSEq)))
    (im_mSEq : PySem.W.isFn K (.ref f_mSEq) = true)
    (l_mSEq : K.lookup f_mSEq = some ⟨oc_mSEq, od_mSEq, .func (PySem.W.fnOf "__eq__" "Scan.__eq__" (defArgs sSEq) (defBody sSEq) (defScope sSEq) .none kV_mSEq dc_mSEq pm_mSEq an_mSEq cd_mSEq ct_mSEq), sl_mSEq⟩)
    (c_mSEq : PySem.W.codeIn K cd_mSEq "Scan.__eq__" = true)
    (k_mSEq : PySem.W.keepIn K (.ref f_mSEq) = true)
    (am_mSPath : PySem.W.findIn K (.ref C) "path" = some (some (.ref f_mSPath)))
    (im_mSPath : PySem.W.isFn K (.ref f_mSPath) = true)
    (l_mSPath : K.lookup f_mSPath = some ⟨oc_mSPath, od_mSPath, .func (PySem.W.fnOf "path" "Scan.path" (defArgs sSPath) (defBody sSPath) (defScope sSPath) .none kV_mSPath dc_mSPath pm_mSPath an_mSPath cd_mSPath ct_mSPath), sl_mSPath⟩)
    (c_mSPath : PySem.W.codeIn K cd_mSPath "Scan.path" = true)
    (k_mSPath : PySem.W.keepIn K (.ref f_mSPath) = true)
    (am_mOrder : PySem.W.findIn K (.ref C) "order" = some (some (.ref f_mOrder)))
    (im_mOrder : PySem.W.isFn K (.ref f_mOrder) = true)
    (l_mOrder : K.lookup f_mOrder = some ⟨oc_mOrder, od_mOrder, .func (PySem.W.fnOf "order" "Scan.order" (defArgs sOrder) (defBody sOrder) (defScope sOrder) .none kV_mOrder dc_mOrder pm_mOrder an_mOrder cd_mOrder ct_mOrder), sl_mOrder⟩)
    (c_mOrder : PySem.W.codeIn K cd_mOrder "Scan.order" = true)
    (k_mOrder : PySem.W.keepIn K (.ref f_mOrder) = true)
    (bg_mSPath : PySem.W.specialIn K (.ref f_mSPath) "__get__" = some (some (.builtin "function.__get__")))
    (bt_mSPath : PySem.W.takesIn K (.ref f_mSPath) = some false)
    (bf_mSPath : PySem.W.fnIn K f_mSPath = true)
    (z_len : PySem.W.nsIn K mainGlobals "len" = some none)
    (a_ChkPlace : PySem.W.nsIn K mainGlobals "check_place" = some (some (.ref f_ChkPlace)))
    (l_ChkPlace : K.lookup f_ChkPlace = some ⟨oc_ChkPlace, od_ChkPlace, .func (PySem.W.fnOf "check_place" "check_place" (defArgs sChkPlace) (defBody sChkPlace) (defScope sChkPlace) .none kV_ChkPlace dc_ChkPlace pm_ChkPlace an_ChkPlace cd_ChkPlace ct_ChkPlace), sl_ChkPlace⟩)
    (c_ChkPlace : PySem.W.codeIn K cd_ChkPlace "check_place" = true)
    (k_ChkPlace : PySem.W.keepIn K (.ref f_ChkPlace) = true)
    (a_AreNums : PySem.W.nsIn K mainGlobals "are_numbers" = some (some (.ref f_AreNums)))
    (l_AreNums : K.lookup f_AreNums = some ⟨oc_AreNums, od_AreNums, .func (PySem.W.fnOf "are_numbers" "are_numbers" (defArgs sAreNums) (defBody sAreNums) (defScope sAreNums) .none kV_AreNums dc_AreNums pm_AreNums an_AreNums cd_AreNums ct_AreNums), sl_AreNums⟩)
    (c_AreNums : PySem.W.codeIn K cd_AreNums "are_numbers" = true)
    (k_AreNums : PySem.W.keepIn K (.ref f_AreNums) = true)
    (z_isinstance : PySem.W.nsIn K mainGlobals "isinstance" = some none)
    (z_tuple : PySem.W.nsIn K mainGlobals "tuple" = some none)
    (z_all : PySem.W.nsIn K mainGlobals "all" = some none)
    (a_IsNum : PySem.W.nsIn K mainGlobals "is_number" = some (some (.ref f_IsNum)))
    (l_IsNum : K.lookup f_IsNum = some ⟨oc_IsNum, od_IsNum, .func (PySem.W.fnOf "is_number" "is_number" (defArgs sIsNum) (defBody sIsNum) (defScope sIsNum) .none kV_IsNum dc_IsNum pm_IsNum an_IsNum cd_IsNum ct_IsNum), sl_IsNum⟩)
    (c_IsNum : PySem.W.codeIn K cd_IsNum "is_number" = true)
    (k_IsNum : PySem.W.keepIn K (.ref f_IsNum) = true)
    (z_int : PySem.W.nsIn K mainGlobals "int" = some none)
    (z_bool : PySem.W.nsIn K mainGlobals "bool" = some none)
    (a_Path : PySem.W.nsIn K mainGlobals "tree_path" = some (some (.ref f_Path)))
    (l_Path : K.lookup f_Path = some ⟨oc_Path, od_Path, .func (PySem.W.fnOf "tree_path" "tree_path" (defArgs sPath) (defBody sPath) (defScope sPath) .none kV_Path dc_Path pm_Path an_Path cd_Path ct_Path), sl_Path⟩)
    (c_Path : PySem.W.codeIn K cd_Path "tree_path" = true)
    (k_Path : PySem.W.keepIn K (.ref f_Path) = true)
    (a_ClassAt : PySem.W.nsIn K mainGlobals "class_at" = some (some (.ref f_ClassAt)))
    (l_ClassAt : K.lookup f_ClassAt = some ⟨oc_ClassAt, od_ClassAt, .func (PySem.W.fnOf "class_at" "class_at" (defArgs sClassAt) (defBody sClassAt) (defScope sClassAt) .none kV_ClassAt dc_ClassAt pm_ClassAt an_ClassAt cd_ClassAt ct_ClassAt), sl_ClassAt⟩)
    (c_ClassAt : PySem.W.codeIn K cd_ClassAt "class_at" = true)
    (k_ClassAt : PySem.W.keepIn K (.ref f_ClassAt) = true)
    (z_zip : PySem.W.nsIn K mainGlobals "zip" = some none)
    (a_Dot : PySem.W.nsIn K mainGlobals "dot" = some (some (.ref f_Dot)))
    (l_Dot : K.lookup f_Dot = some ⟨oc_Dot, od_Dot, .func (PySem.W.fnOf "dot" "dot" (defArgs sDot) (defBody sDot) (defScope sDot) .none kV_Dot dc_Dot pm_Dot an_Dot cd_Dot ct_Dot), sl_Dot⟩)
    (c_Dot : PySem.W.codeIn K cd_Dot "dot" = true)
    (k_Dot : PySem.W.keepIn K (.ref f_Dot) = true)
    (z_sum : PySem.W.nsIn K mainGlobals "sum" = some none)
    (a_Gix : PySem.W.nsIn K mainGlobals "group_index" = some (some (.ref f_Gix)))
    (l_Gix : K.lookup f_Gix = some ⟨oc_Gix, od_Gix, .func (PySem.W.fnOf "group_index" "group_index" (defArgs sGix) (defBody sGix) (defScope sGix) .none kV_Gix dc_Gix pm_Gix an_Gix cd_Gix ct_Gix), sl_Gix⟩)
    (c_Gix : PySem.W.codeIn K cd_Gix "group_index" = true)
    (k_Gix : PySem.W.keepIn K (.ref f_Gix) = true)
    (a_Blocks : PySem.W.nsIn K mainGlobals "blocks_scan" = some (some (.ref f_Blocks)))
    (l_Blocks : K.lookup f_Blocks = some ⟨oc_Blocks, od_Blocks, .func (PySem.W.fnOf "blocks_scan" "blocks_scan" (defArgs sBlocks) (defBody sBlocks) (defScope sBlocks) .none (.ref kD_Blocks) dc_Blocks pm_Blocks an_Blocks cd_Blocks ct_Blocks), sl_Blocks⟩)
    (c_Blocks : PySem.W.codeIn K cd_Blocks "blocks_scan" = true)
    (k_Blocks : PySem.W.keepIn K (.ref f_Blocks) = true)
    (kd_Blocks : PySem.W.nsIn K kD_Blocks "inner" = some (some .none))
    (z_range : PySem.W.nsIn K mainGlobals "range" = some none)
    (z_max : PySem.W.nsIn K mainGlobals "max" = some none)
    (a_Bag : PySem.W.nsIn K mainGlobals "_law_bag" = some (some (.ref f_Bag)))
    (l_Bag : K.lookup f_Bag = some ⟨oc_Bag, od_Bag, .func (PySem.W.fnOf "_law_bag" "_law_bag" (defArgs sBag) (defBody sBag) (defScope sBag) .none kV_Bag dc_Bag pm_Bag an_Bag cd_Bag ct_Bag), sl_Bag⟩)
    (c_Bag : PySem.W.codeIn K cd_Bag "_law_bag" = true)
    (k_Bag : PySem.W.keepIn K (.ref f_Bag) = true)
    (z_list : PySem.W.nsIn K mainGlobals "list" = some none)
    (a_Pull : PySem.W.nsIn K mainGlobals "_law_pull" = some (some (.ref f_Pull)))
    (l_Pull : K.lookup f_Pull = some ⟨oc_Pull, od_Pull, .func (PySem.W.fnOf "_law_pull" "_law_pull" (defArgs sPull) (defBody sPull) (defScope sPull) .none kV_Pull dc_Pull pm_Pull an_Pull cd_Pull ct_Pull), sl_Pull⟩)
    (c_Pull : PySem.W.codeIn K cd_Pull "_law_pull" = true)
    (k_Pull : PySem.W.keepIn K (.ref f_Pull) = true)
    (a_Of : PySem.W.nsIn K mainGlobals "_law_of" = some (some (.ref f_Of)))
    (l_Of : K.lookup f_Of = some ⟨oc_Of, od_Of, .func (PySem.W.fnOf "_law_of" "_law_of" (defArgs sOf) (defBody sOf) (defScope sOf) .none kV_Of dc_Of pm_Of an_Of cd_Of ct_Of), sl_Of⟩)
    (c_Of : PySem.W.codeIn K cd_Of "_law_of" = true)
    (k_Of : PySem.W.keepIn K (.ref f_Of) = true)
    (a_Place : PySem.W.nsIn K mainGlobals "_law_place" = some (some (.ref f_Place)))
    (l_Place : K.lookup f_Place = some ⟨oc_Place, od_Place, .func (PySem.W.fnOf "_law_place" "_law_place" (defArgs sPlace) (defBody sPlace) (defScope sPlace) .none kV_Place dc_Place pm_Place an_Place cd_Place ct_Place), sl_Place⟩)
    (c_Place : PySem.W.codeIn K cd_Place "_law_place" = true)
    (k_Place : PySem.W.keepIn K (.ref f_Place) = true)
    (a_Plus : PySem.W.nsIn K mainGlobals "_law_plus" = some (some (.ref f_Plus)))
    (l_Plus : K.lookup f_Plus = some ⟨oc_Plus, od_Plus, .func (PySem.W.fnOf "_law_plus" "_law_plus" (defArgs sPlus) (defBody sPlus) (defScope sPlus) .none kV_Plus dc_Plus pm_Plus an_Plus cd_Plus ct_Plus), sl_Plus⟩)
    (c_Plus : PySem.W.codeIn K cd_Plus "_law_plus" = true)
    (k_Plus : PySem.W.keepIn K (.ref f_Plus) = true)
    (a_LSame : PySem.W.nsIn K mainGlobals "_law_same" = some (some (.ref f_LSame)))
    (l_LSame : K.lookup f_LSame = some ⟨oc_LSame, od_LSame, .func (PySem.W.fnOf "_law_same" "_law_same" (defArgs sLSame) (defBody sLSame) (defScope sLSame) .none kV_LSame dc_LSame pm_LSame an_LSame cd_LSame ct_LSame), sl_LSame⟩)
    (c_LSame : PySem.W.codeIn K cd_LSame "_law_same" = true)
    (k_LSame : PySem.W.keepIn K (.ref f_LSame) = true)
    (z_dict : PySem.W.nsIn K mainGlobals "dict" = some none)
    (z_str : PySem.W.nsIn K mainGlobals "str" = some none)
    (a_SmallScan : PySem.W.nsIn K mainGlobals "_law_small_scan" = some (some (.ref f_SmallScan)))
    (l_SmallScan : K.lookup f_SmallScan = some ⟨oc_SmallScan, od_SmallScan, .func (PySem.W.fnOf "_law_small_scan" "_law_small_scan" (defArgs sSmallScan) (defBody sSmallScan) (defScope sSmallScan) .none kV_SmallScan dc_SmallScan pm_SmallScan an_SmallScan cd_SmallScan ct_SmallScan), sl_SmallScan⟩)
    (c_SmallScan : PySem.W.codeIn K cd_SmallScan "_law_small_scan" = true)
    (k_SmallScan : PySem.W.keepIn K (.ref f_SmallScan) = true)
    (a_Divisors : PySem.W.nsIn K mainGlobals "_law_divisors" = some (some (.ref f_Divisors)))
    (l_Divisors : K.lookup f_Divisors = some ⟨oc_Divisors, od_Divisors, .func (PySem.W.fnOf "_law_divisors" "_law_divisors" (defArgs sDivisors) (defBody sDivisors) (defScope sDivisors) .none kV_Divisors dc_Divisors pm_Divisors an_Divisors cd_Divisors ct_Divisors), sl_Divisors⟩)
    (c_Divisors : PySem.W.codeIn K cd_Divisors "_law_divisors" = true)
    (k_Divisors : PySem.W.keepIn K (.ref f_Divisors) = true)
    (z_min : PySem.W.nsIn K mainGlobals "min" = some none)
    (a_Mixed : PySem.W.nsIn K mainGlobals "_law_mixed" = some (some (.ref f_Mixed)))
    (l_Mixed : K.lookup f_Mixed = some ⟨oc_Mixed, od_Mixed, .func (PySem.W.fnOf "_law_mixed" "_law_mixed" (defArgs sMixed) (defBody sMixed) (defScope sMixed) .none kV_Mixed dc_Mixed pm_Mixed an_Mixed cd_Mixed ct_Mixed), sl_Mixed⟩)
    (c_Mixed : PySem.W.codeIn K cd_Mixed "_law_mixed" = true)
    (k_Mixed : PySem.W.keepIn K (.ref f_Mixed) = true)
    (a_Tree : PySem.W.nsIn K mainGlobals "_law_tree" = some (some (.ref f_Tree)))
    (l_Tree : K.lookup f_Tree = some ⟨oc_Tree, od_Tree, .func (PySem.W.fnOf "_law_tree" "_law_tree" (defArgs sTree) (defBody sTree) (defScope sTree) .none kV_Tree dc_Tree pm_Tree an_Tree cd_Tree ct_Tree), sl_Tree⟩)
    (c_Tree : PySem.W.codeIn K cd_Tree "_law_tree" = true)
    (k_Tree : PySem.W.keepIn K (.ref f_Tree) = true)
    (a_Count : PySem.W.nsIn K mainGlobals "_law_count" = some (some (.ref f_Count)))
    (l_Count : K.lookup f_Count = some ⟨oc_Count, od_Count, .func (PySem.W.fnOf "_law_count" "_law_count" (defArgs sCount) (defBody sCount) (defScope sCount) .none kV_Count dc_Count pm_Count an_Count cd_Count ct_Count), sl_Count⟩)
    (c_Count : PySem.W.codeIn K cd_Count "_law_count" = true)
    (k_Count : PySem.W.keepIn K (.ref f_Count) = true)
    (a_Parts : PySem.W.nsIn K mainGlobals "_law_parts" = some (some (.ref f_Parts)))
    (l_Parts : K.lookup f_Parts = some ⟨oc_Parts, od_Parts, .func (PySem.W.fnOf "_law_parts" "_law_parts" (defArgs sParts) (defBody sParts) (defScope sParts) .none kV_Parts dc_Parts pm_Parts an_Parts cd_Parts ct_Parts), sl_Parts⟩)
    (c_Parts : PySem.W.codeIn K cd_Parts "_law_parts" = true)
    (k_Parts : PySem.W.keepIn K (.ref f_Parts) = true)
    (a_LCommon : PySem.W.nsIn K mainGlobals "_law_common" = some (some (.ref f_LCommon)))
    (l_LCommon : K.lookup f_LCommon = some ⟨oc_LCommon, od_LCommon, .func (PySem.W.fnOf "_law_common" "_law_common" (defArgs sLCommon) (defBody sLCommon) (defScope sLCommon) .none kV_LCommon dc_LCommon pm_LCommon an_LCommon cd_LCommon ct_LCommon), sl_LCommon⟩)
    (c_LCommon : PySem.W.codeIn K cd_LCommon "_law_common" = true)
    (k_LCommon : PySem.W.keepIn K (.ref f_LCommon) = true)
    (a_LLcm : PySem.W.nsIn K mainGlobals "_law_lcm" = some (some (.ref f_LLcm)))
    (l_LLcm : K.lookup f_LLcm = some ⟨oc_LLcm, od_LLcm, .func (PySem.W.fnOf "_law_lcm" "_law_lcm" (defArgs sLLcm) (defBody sLLcm) (defScope sLLcm) .none kV_LLcm dc_LLcm pm_LLcm an_LLcm cd_LLcm ct_LLcm), sl_LLcm⟩)
    (c_LLcm : PySem.W.codeIn K cd_LLcm "_law_lcm" = true)
    (k_LLcm : PySem.W.keepIn K (.ref f_LLcm) = true)
    (a_LGcd : PySem.W.nsIn K mainGlobals "_law_gcd" = some (some (.ref f_LGcd)))
    (l_LGcd : K.lookup f_LGcd = some ⟨oc_LGcd, od_LGcd, .func (PySem.W.fnOf "_law_gcd" "_law_gcd" (defArgs sLGcd) (defBody sLGcd) (defScope sLGcd) .none kV_LGcd dc_LGcd pm_LGcd an_LGcd cd_LGcd ct_LGcd), sl_LGcd⟩)
    (c_LGcd : PySem.W.codeIn K cd_LGcd "_law_gcd" = true)
    (k_LGcd : PySem.W.keepIn K (.ref f_LGcd) = true)
    (z_abs : PySem.W.nsIn K mainGlobals "abs" = some none)
    (a_Before : PySem.W.nsIn K mainGlobals "_law_before" = some (some (.ref f_Before)))
    (l_Before : K.lookup f_Before = some ⟨oc_Before, od_Before, .func (PySem.W.fnOf "_law_before" "_law_before" (defArgs sBefore) (defBody sBefore) (defScope sBefore) .none kV_Before dc_Before pm_Before an_Before cd_Before ct_Before), sl_Before⟩)
    (c_Before : PySem.W.codeIn K cd_Before "_law_before" = true)
    (k_Before : PySem.W.keepIn K (.ref f_Before) = true)
    (a_LPath : PySem.W.nsIn K mainGlobals "_law_path" = some (some (.ref f_LPath)))
    (l_LPath : K.lookup f_LPath = some ⟨oc_LPath, od_LPath, .func (PySem.W.fnOf "_law_path" "_law_path" (defArgs sLPath) (defBody sLPath) (defScope sLPath) .none kV_LPath dc_LPath pm_LPath an_LPath cd_LPath ct_LPath), sl_LPath⟩)
    (c_LPath : PySem.W.codeIn K cd_LPath "_law_path" = true)
    (k_LPath : PySem.W.keepIn K (.ref f_LPath) = true)
    (a_LClass : PySem.W.nsIn K mainGlobals "_law_class" = some (some (.ref f_LClass)))
    (l_LClass : K.lookup f_LClass = some ⟨oc_LClass, od_LClass, .func (PySem.W.fnOf "_law_class" "_law_class" (defArgs sLClass) (defBody sLClass) (defScope sLClass) .none kV_LClass dc_LClass pm_LClass an_LClass cd_LClass ct_LClass), sl_LClass⟩)
    (c_LClass : PySem.W.codeIn K cd_LClass "_law_class" = true)
    (k_LClass : PySem.W.keepIn K (.ref f_LClass) = true)
    (a_LTied : PySem.W.nsIn K mainGlobals "_law_tied" = some (some (.ref f_LTied)))
    (l_LTied : K.lookup f_LTied = some ⟨oc_LTied, od_LTied, .func (PySem.W.fnOf "_law_tied" "_law_tied" (defArgs sLTied) (defBody sLTied) (defScope sLTied) .none kV_LTied dc_LTied pm_LTied an_LTied cd_LTied ct_LTied), sl_LTied⟩)
    (c_LTied : PySem.W.codeIn K cd_LTied "_law_tied" = true)
    (k_LTied : PySem.W.keepIn K (.ref f_LTied) = true)
    (a_Cut : PySem.W.nsIn K mainGlobals "_law_cut" = some (some (.ref f_Cut)))
    (l_Cut : K.lookup f_Cut = some ⟨oc_Cut, od_Cut, .func (PySem.W.fnOf "_law_cut" "_law_cut" (defArgs sCut) (defBody sCut) (defScope sCut) .none kV_Cut dc_Cut pm_Cut an_Cut cd_Cut ct_Cut), sl_Cut⟩)
    (c_Cut : PySem.W.codeIn K cd_Cut "_law_cut" = true)
    (k_Cut : PySem.W.keepIn K (.ref f_Cut) = true)
    (a_ClassCount : PySem.W.nsIn K mainGlobals "class_count" = some (some (.ref f_ClassCount)))
    (l_ClassCount : K.lookup f_ClassCount = some ⟨oc_ClassCount, od_ClassCount, .func (PySem.W.fnOf "class_count" "class_count" (defArgs sClassCount) (defBody sClassCount) (defScope sClassCount) .none kV_ClassCount dc_ClassCount pm_ClassCount an_ClassCount cd_ClassCount ct_ClassCount), sl_ClassCount⟩)
    (c_ClassCount : PySem.W.codeIn K cd_ClassCount "class_count" = true)
    (k_ClassCount : PySem.W.keepIn K (.ref f_ClassCount) = true)
    (a_ChkDiv : PySem.W.nsIn K mainGlobals "check_divisors" = some (some (.ref f_ChkDiv)))
    (l_ChkDiv : K.lookup f_ChkDiv = some ⟨oc_ChkDiv, od_ChkDiv, .func (PySem.W.fnOf "check_divisors" "check_divisors" (defArgs sChkDiv) (defBody sChkDiv) (defScope sChkDiv) .none kV_ChkDiv dc_ChkDiv pm_ChkDiv an_ChkDiv cd_ChkDiv ct_ChkDiv), sl_ChkDiv⟩)
    (c_ChkDiv : PySem.W.codeIn K cd_ChkDiv "check_divisors" = true)
    (k_ChkDiv : PySem.W.keepIn K (.ref f_ChkDiv) = true)
    (n_MAX_CLASSES : PySem.W.nsIn K mainGlobals "MAX_CLASSES" = some (some (.int 12 t_MAX_CLASSES)))
    (a_AreSides : PySem.W.nsIn K mainGlobals "are_sides" = some (some (.ref f_AreSides)))
    (l_AreSides : K.lookup f_AreSides = some ⟨oc_AreSides, od_AreSides, .func (PySem.W.fnOf "are_sides" "are_sides" (defArgs sAreSides) (defBody sAreSides) (defScope sAreSides) .none kV_AreSides dc_AreSides pm_AreSides an_AreSides cd_AreSides ct_AreSides), sl_AreSides⟩)
    (c_AreSides : PySem.W.codeIn K cd_AreSides "are_sides" = true)
    (k_AreSides : PySem.W.keepIn K (.ref f_AreSides) = true)
    (n_MAX_DIRECTIONS : PySem.W.nsIn K mainGlobals "MAX_DIRECTIONS" = some (some (.int 3 t_MAX_DIRECTIONS)))
    (a_Product : PySem.W.nsIn K mainGlobals "product" = some (some (.ref f_Product)))
    (l_Product : K.lookup f_Product = some ⟨oc_Product, od_Product, .func (PySem.W.fnOf "product" "product" (defArgs sProduct) (defBody sProduct) (defScope sProduct) .none kV_Product dc_Product pm_Product an_Product cd_Product ct_Product), sl_Product⟩)
    (c_Product : PySem.W.codeIn K cd_Product "product" = true)
    (k_Product : PySem.W.keepIn K (.ref f_Product) = true)
    (a_Nodes : PySem.W.nsIn K mainGlobals "count_nodes" = some (some (.ref f_Nodes)))
    (l_Nodes : K.lookup f_Nodes = some ⟨oc_Nodes, od_Nodes, .func (PySem.W.fnOf "count_nodes" "count_nodes" (defArgs sNodes) (defBody sNodes) (defScope sNodes) .none kV_Nodes dc_Nodes pm_Nodes an_Nodes cd_Nodes ct_Nodes), sl_Nodes⟩)
    (c_Nodes : PySem.W.codeIn K cd_Nodes "count_nodes" = true)
    (k_Nodes : PySem.W.keepIn K (.ref f_Nodes) = true)
    (a_Inner : PySem.W.nsIn K mainGlobals "inner_trees" = some (some (.ref f_Inner)))
    (l_Inner : K.lookup f_Inner = some ⟨oc_Inner, od_Inner, .func (PySem.W.fnOf "inner_trees" "inner_trees" (defArgs sInner) (defBody sInner) (defScope sInner) .none kV_Inner dc_Inner pm_Inner an_Inner cd_Inner ct_Inner), sl_Inner⟩)
    (c_Inner : PySem.W.codeIn K cd_Inner "inner_trees" = true)
    (k_Inner : PySem.W.keepIn K (.ref f_Inner) = true)
    (aP : PySem.W.nsIn K mainGlobals "PLACES" = some (some (.ref pA)))
    (lA : K.lookup pA = some ⟨.type "tuple", dA, .seq #[.str "places" tP] nA, slA⟩)
    (a_IsKey : PySem.W.nsIn K mainGlobals "is_key" = some (some (.ref f_IsKey)))
    (l_IsKey : K.lookup f_IsKey = some ⟨oc_IsKey, od_IsKey, .func (PySem.W.fnOf "is_key" "is_key" (defArgs sIsKey) (defBody sIsKey) (defScope sIsKey) .none kV_IsKey dc_IsKey pm_IsKey an_IsKey cd_IsKey ct_IsKey), sl_IsKey⟩)
    (c_IsKey : PySem.W.codeIn K cd_IsKey "is_key" = true)
    (k_IsKey : PySem.W.keepIn K (.ref f_IsKey) = true)
    (a_IsFork : PySem.W.nsIn K mainGlobals "is_fork" = some (some (.ref f_IsFork)))
    (l_IsFork : K.lookup f_IsFork = some ⟨oc_IsFork, od_IsFork, .func (PySem.W.fnOf "is_fork" "is_fork" (defArgs sIsFork) (defBody sIsFork) (defScope sIsFork) .none kV_IsFork dc_IsFork pm_IsFork an_IsFork cd_IsFork ct_IsFork), sl_IsFork⟩)
    (c_IsFork : PySem.W.codeIn K cd_IsFork "is_fork" = true)
    (k_IsFork : PySem.W.keepIn K (.ref f_IsFork) = true)
    (a_Groups : PySem.W.nsIn K mainGlobals "are_groups" = some (some (.ref f_Groups)))
    (l_Groups : K.lookup f_Groups = some ⟨oc_Groups, od_Groups, .func (PySem.W.fnOf "are_groups" "are_groups" (defArgs sGroups) (defBody sGroups) (defScope sGroups) .none kV_Groups dc_Groups pm_Groups an_Groups cd_Groups ct_Groups), sl_Groups⟩)
    (c_Groups : PySem.W.codeIn K cd_Groups "are_groups" = true)
    (k_Groups : PySem.W.keepIn K (.ref f_Groups) = true)
    (z_sorted : PySem.W.nsIn K mainGlobals "sorted" = some none)
    (a_Asc : PySem.W.nsIn K mainGlobals "is_ascending" = some (some (.ref f_Asc)))
    (l_Asc : K.lookup f_Asc = some ⟨oc_Asc, od_Asc, .func (PySem.W.fnOf "is_ascending" "is_ascending" (defArgs sAsc) (defBody sAsc) (defScope sAsc) .none kV_Asc dc_Asc pm_Asc an_Asc cd_Asc ct_Asc), sl_Asc⟩)
    (c_Asc : PySem.W.codeIn K cd_Asc "is_ascending" = true)
    (k_Asc : PySem.W.keepIn K (.ref f_Asc) = true)
    (a_Common : PySem.W.nsIn K mainGlobals "common_divisors" = some (some (.ref f_Common)))
    (l_Common : K.lookup f_Common = some ⟨oc_Common, od_Common, .func (PySem.W.fnOf "common_divisors" "common_divisors" (defArgs sCommon) (defBody sCommon) (defScope sCommon) .none kV_Common dc_Common pm_Common an_Common cd_Common ct_Common), sl_Common⟩)
    (c_Common : PySem.W.codeIn K cd_Common "common_divisors" = true)
    (k_Common : PySem.W.keepIn K (.ref f_Common) = true)
    (a_Lcm : PySem.W.nsIn K mainGlobals "least_multiple" = some (some (.ref f_Lcm)))
    (l_Lcm : K.lookup f_Lcm = some ⟨oc_Lcm, od_Lcm, .func (PySem.W.fnOf "least_multiple" "least_multiple" (defArgs sLcm) (defBody sLcm) (defScope sLcm) .none kV_Lcm dc_Lcm pm_Lcm an_Lcm cd_Lcm ct_Lcm), sl_Lcm⟩)
    (c_Lcm : PySem.W.codeIn K cd_Lcm "least_multiple" = true)
    (k_Lcm : PySem.W.keepIn K (.ref f_Lcm) = true)
    (a_Gcd : PySem.W.nsIn K mainGlobals "greatest_divisor" = some (some (.ref f_Gcd)))
    (l_Gcd : K.lookup f_Gcd = some ⟨oc_Gcd, od_Gcd, .func (PySem.W.fnOf "greatest_divisor" "greatest_divisor" (defArgs sGcd) (defBody sGcd) (defScope sGcd) .none kV_Gcd dc_Gcd pm_Gcd an_Gcd cd_Gcd ct_Gcd), sl_Gcd⟩)
    (c_Gcd : PySem.W.codeIn K cd_Gcd "greatest_divisor" = true)
    (k_Gcd : PySem.W.keepIn K (.ref f_Gcd) = true)
    (am_mRefTree : PySem.W.findIn K (.ref C) "refined_tree" = some (some (.ref f_mRefTree)))
    (im_mRefTree : PySem.W.isFn K (.ref f_mRefTree) = true)
    (l_mRefTree : K.lookup f_mRefTree = some ⟨oc_mRefTree, od_mRefTree, .func (PySem.W.fnOf "refined_tree" "Scan.refined_tree" (defArgs sRefTree) (defBody sRefTree) (defScope sRefTree) .none kV_mRefTree dc_mRefTree pm_mRefTree an_mRefTree cd_mRefTree ct_mRefTree), sl_mRefTree⟩)
    (c_mRefTree : PySem.W.codeIn K cd_mRefTree "Scan.refined_tree" = true)
    (k_mRefTree : PySem.W.keepIn K (.ref f_mRefTree) = true)
    (a_Ident : PySem.W.nsIn K mainGlobals "identity" = some (some (.ref f_Ident)))
    (l_Ident : K.lookup f_Ident = some ⟨oc_Ident, od_Ident, .func (PySem.W.fnOf "identity" "identity" (defArgs sIdent) (defBody sIdent) (defScope sIdent) .none kV_Ident dc_Ident pm_Ident an_Ident cd_Ident ct_Ident), sl_Ident⟩)
    (c_Ident : PySem.W.codeIn K cd_Ident "identity" = true)
    (k_Ident : PySem.W.keepIn K (.ref f_Ident) = true)
    (am_mChanged : PySem.W.findIn K (.ref C) "changed_tree" = some (some (.ref f_mChanged)))
    (im_mChanged : PySem.W.isFn K (.ref f_mChanged) = true)
    (l_mChanged : K.lookup f_mChanged = some ⟨oc_mChanged, od_mChanged, .func (PySem.W.fnOf "changed_tree" "Scan.changed_tree" (defArgs sChanged) (defBody sChanged) (defScope sChanged) .none kV_mChanged dc_mChanged pm_mChanged an_mChanged cd_mChanged ct_mChanged), sl_mChanged⟩)
    (c_mChanged : PySem.W.codeIn K cd_mChanged "Scan.changed_tree" = true)
    (k_mChanged : PySem.W.keepIn K (.ref f_mChanged) = true)
    (a_Sources : PySem.W.nsIn K mainGlobals "source_classes" = some (some (.ref f_Sources)))
    (l_Sources : K.lookup f_Sources = some ⟨oc_Sources, od_Sources, .func (PySem.W.fnOf "source_classes" "source_classes" (defArgs sSources) (defBody sSources) (defScope sSources) .none kV_Sources dc_Sources pm_Sources an_Sources cd_Sources ct_Sources), sl_Sources⟩)
    (c_Sources : PySem.W.codeIn K cd_Sources "source_classes" = true)
    (k_Sources : PySem.W.keepIn K (.ref f_Sources) = true)
    (a_Added : PySem.W.nsIn K mainGlobals "added" = some (some (.ref f_Added)))
    (l_Added : K.lookup f_Added = some ⟨oc_Added, od_Added, .func (PySem.W.fnOf "added" "added" (defArgs sAdded) (defBody sAdded) (defScope sAdded) .none kV_Added dc_Added pm_Added an_Added cd_Added ct_Added), sl_Added⟩)
    (c_Added : PySem.W.codeIn K cd_Added "added" = true)
    (k_Added : PySem.W.keepIn K (.ref f_Added) = true)
    (a_Times : PySem.W.nsIn K mainGlobals "times" = some (some (.ref f_Times)))
    (l_Times : K.lookup f_Times = some ⟨oc_Times, od_Times, .func (PySem.W.fnOf "times" "times" (defArgs sTimes) (defBody sTimes) (defScope sTimes) .none kV_Times dc_Times pm_Times an_Times cd_Times ct_Times), sl_Times⟩)
    (c_Times : PySem.W.codeIn K cd_Times "times" = true)
    (k_Times : PySem.W.keepIn K (.ref f_Times) = true)
    (a_PlaceAt : PySem.W.nsIn K mainGlobals "place_at" = some (some (.ref f_PlaceAt)))
    (l_PlaceAt : K.lookup f_PlaceAt = some ⟨oc_PlaceAt, od_PlaceAt, .func (PySem.W.fnOf "place_at" "place_at" (defArgs sPlaceAt) (defBody sPlaceAt) (defScope sPlaceAt) .none kV_PlaceAt dc_PlaceAt pm_PlaceAt an_PlaceAt cd_PlaceAt ct_PlaceAt), sl_PlaceAt⟩)
    (c_PlaceAt : PySem.W.codeIn K cd_PlaceAt "place_at" = true)
    (k_PlaceAt : PySem.W.keepIn K (.ref f_PlaceAt) = true)
    (a_MovedT : PySem.W.nsIn K mainGlobals "moved_tree" = some (some (.ref f_MovedT)))
    (l_MovedT : K.lookup f_MovedT = some ⟨oc_MovedT, od_MovedT, .func (PySem.W.fnOf "moved_tree" "moved_tree" (defArgs sMovedT) (defBody sMovedT) (defScope sMovedT) .none kV_MovedT dc_MovedT pm_MovedT an_MovedT cd_MovedT ct_MovedT), sl_MovedT⟩)
    (c_MovedT : PySem.W.codeIn K cd_MovedT "moved_tree" = true)
    (k_MovedT : PySem.W.keepIn K (.ref f_MovedT) = true)
    (a_RowTimes : PySem.W.nsIn K mainGlobals "row_times" = some (some (.ref f_RowTimes)))
    (l_RowTimes : K.lookup f_RowTimes = some ⟨oc_RowTimes, od_RowTimes, .func (PySem.W.fnOf "row_times" "row_times" (defArgs sRowTimes) (defBody sRowTimes) (defScope sRowTimes) .none kV_RowTimes dc_RowTimes pm_RowTimes an_RowTimes cd_RowTimes ct_RowTimes), sl_RowTimes⟩)
    (c_RowTimes : PySem.W.codeIn K cd_RowTimes "row_times" = true)
    (k_RowTimes : PySem.W.keepIn K (.ref f_RowTimes) = true)
    (a_Column : PySem.W.nsIn K mainGlobals "column" = some (some (.ref f_Column)))
    (l_Column : K.lookup f_Column = some ⟨oc_Column, od_Column, .func (PySem.W.fnOf "column" "column" (defArgs sColumn) (defBody sColumn) (defScope sColumn) .none kV_Column dc_Column pm_Column an_Column cd_Column ct_Column), sl_Column⟩)
    (c_Column : PySem.W.codeIn K cd_Column "column" = true)
    (k_Column : PySem.W.keepIn K (.ref f_Column) = true)
    (a_MovedC : PySem.W.nsIn K mainGlobals "moved_classes" = some (some (.ref f_MovedC)))
    (l_MovedC : K.lookup f_MovedC = some ⟨oc_MovedC, od_MovedC, .func (PySem.W.fnOf "moved_classes" "moved_classes" (defArgs sMovedC) (defBody sMovedC) (defScope sMovedC) .none kV_MovedC dc_MovedC pm_MovedC an_MovedC cd_MovedC ct_MovedC), sl_MovedC⟩)
    (c_MovedC : PySem.W.codeIn K cd_MovedC "moved_classes" = true)
    (k_MovedC : PySem.W.keepIn K (.ref f_MovedC) = true)
    (z_enumerate : PySem.W.nsIn K mainGlobals "enumerate" = some none)
    (a_FloorT : PySem.W.nsIn K mainGlobals "floor_tree" = some (some (.ref f_FloorT)))
    (l_FloorT : K.lookup f_FloorT = some ⟨oc_FloorT, od_FloorT, .func (PySem.W.fnOf "floor_tree" "floor_tree" (defArgs sFloorT) (defBody sFloorT) (defScope sFloorT) .none kV_FloorT dc_FloorT pm_FloorT an_FloorT cd_FloorT ct_FloorT), sl_FloorT⟩)
    (c_FloorT : PySem.W.codeIn K cd_FloorT "floor_tree" = true)
    (k_FloorT : PySem.W.keepIn K (.ref f_FloorT) = true)
    (fi_mCall : PySem.W.fnIn K f_mCall = true)
    (am_mSTied : PySem.W.findIn K (.ref C) "tied" = some (some (.ref f_mSTied)))
    (im_mSTied : PySem.W.isFn K (.ref f_mSTied) = true)
    (l_mSTied : K.lookup f_mSTied = some ⟨oc_mSTied, od_mSTied, .func (PySem.W.fnOf "tied" "Scan.tied" (defArgs sSTied) (defBody sSTied) (defScope sSTied) .none kV_mSTied dc_mSTied pm_mSTied an_mSTied cd_mSTied ct_mSTied), sl_mSTied⟩)
    (c_mSTied : PySem.W.codeIn K cd_mSTied "Scan.tied" = true)
    (k_mSTied : PySem.W.keepIn K (.ref f_mSTied) = true)
    (a_ChkBox : PySem.W.nsIn K mainGlobals "check_box" = some (some (.ref f_ChkBox)))
    (l_ChkBox : K.lookup f_ChkBox = some ⟨oc_ChkBox, od_ChkBox, .func (PySem.W.fnOf "check_box" "check_box" (defArgs sChkBox) (defBody sChkBox) (defScope sChkBox) .none kV_ChkBox dc_ChkBox pm_ChkBox an_ChkBox cd_ChkBox ct_ChkBox), sl_ChkBox⟩)
    (c_ChkBox : PySem.W.codeIn K cd_ChkBox "check_box" = true)
    (k_ChkBox : PySem.W.keepIn K (.ref f_ChkBox) = true)
    (a_CellsP : PySem.W.nsIn K mainGlobals "cells" = some (some (.ref f_CellsP)))
    (l_CellsP : K.lookup f_CellsP = some ⟨oc_CellsP, od_CellsP, .func (PySem.W.fnOf "cells" "cells" (defArgs sCells) (defBody sCells) (defScope sCells) .none kV_CellsP dc_CellsP pm_CellsP an_CellsP cd_CellsP ct_CellsP), sl_CellsP⟩)
    (c_CellsP : PySem.W.codeIn K cd_CellsP "cells" = true)
    (k_CellsP : PySem.W.keepIn K (.ref f_CellsP) = true)
    (n_MAX_CELLS : PySem.W.nsIn K mainGlobals "MAX_CELLS" = some (some (.int 2000 t_MAX_CELLS)))
    (ap_pPNodes : PySem.W.findIn K (.ref C) "nodes" = some (some (.ref p_pPNodes)))
    (gp_pPNodes : PySem.W.specialIn K (.ref p_pPNodes) "__get__" = some (some (.builtin "property.__get__")))
    (tp_pPNodes : PySem.W.takesIn K (.ref p_pPNodes) = some true)
    (rp_pPNodes : PySem.W.recIn K p_pPNodes "property" = some (.ref f_pPNodes :: rest_pPNodes))
    (l_pPNodes : K.lookup f_pPNodes = some ⟨oc_pPNodes, od_pPNodes, .func (PySem.W.fnOf "nodes" "Scan.nodes" (defArgs sPNodes) (defBody sPNodes) (defScope sPNodes) .none kV_pPNodes dc_pPNodes pm_pPNodes an_pPNodes cd_pPNodes ct_pPNodes), sl_pPNodes⟩)
    (c_pPNodes : PySem.W.codeIn K cd_pPNodes "Scan.nodes" = true)
    (k_pPNodes : PySem.W.keepIn K (.ref f_pPNodes) = true) :
    LawAtS l w K CX0 32 63 "_law_script" mg fa h := by
  have ee := hfa.symm.trans (PySem.W.mg_of X G a_Law)
  cases ee
  have T : Txt K mg C := ⟨⟨pg, hd, po, sa⟩, nf0, nf1, nf2, nf3, PySem.W.mg_of X G aC, ⟨rd, ga⟩, ⟨_, v1, ⟨_, rfl⟩⟩, ⟨_, v2, ⟨_, rfl⟩⟩⟩
  have FI : FunD K "__init__" "Scan.__init__" (defArgs sInit) (defBody sInit) (defScope sInit) [V.ref dd] [] fI _ := ⟨⟨_, _, _, _, _, _, _, _, _, _, rfl, l_I, c_I, .inr ⟨by simp, TD, _, [.ref dd], _, rfl, lT, rfl, .cons rfl .nil⟩, .inl rfl⟩, k_I⟩
  obtain ⟨dsI, rI, bI⟩ := FI.binds1 (ps := ["self", "divisors", "tree"]) 3 1 (by simp) rfl fun TT kV doc pm an cdv ct us its h1 h2 => match us, its, h1, h2 with | [_, _, _], [_], _, _ => ⟨_, rfl, rfl⟩
  have eI : dsI = [] := by
    cases rI
    rfl
  subst eI
  have MI : Mk K C fI := ⟨mkC, aI, iI, kC⟩
  have hdd : ∀ H, SqT K H dd [V.str "places"] := fun H => .inr ⟨_, _, _, ldd, rfl, rfl, (by show 1 ≤ sizeLine; decide), .cons ⟨_, rfl⟩ .nil⟩
  obtain ⟨dJ, rJ, bJ⟩ := FI.binds1 (ps := ["self", "divisors", "tree"]) 2 0 (by simp) rfl fun TT kV doc pm an cdv ct us its h1 h2 => match us, its, h1, h2 with | [_, _], [_], _, _ => ⟨_, rfl, rfl⟩
  have b_super := PySem.W.mg_none_of X G z_super
  have I_eSE : InitF l.prog K mg "ScanError.__init__" sSE E_eSE f_eSE cc_eSE cda_eSE _ := ⟨⟨_, _, _, _, _, _, _, _, rfl, lE_eSE⟩, cE_eSE, ⟨_, _, _, _, _, _, lcE_eSE, v2E_eSE, flE_eSE⟩, ⟨_, _, _, llE_eSE⟩, ⟨_, lDE_eSE⟩, b_super, spT, spO⟩
  have B_eSE : Binds K (PySem.W.ksFn "__init__" "ScanError.__init__" (defArgs sSE) (defBody sSE) (defScope sSE) .none kV_eSE dc_eSE pm_eSE an_eSE (.ref cda_eSE) ct_eSE cc_eSE) ["self", "tag", "why"] [] := Binds.all fun us hl => match us, hl with | [_, _, _], _ => rfl
  have at_eSE := PySem.W.mg_of X G aE_eSE
  have I_eIB : InitF l.prog K mg "InvalidBox.__init__" sIB E_eIB f_eIB cc_eIB cda_eIB _ := ⟨⟨_, _, _, _, _, _, _, _, rfl, lE_eIB⟩, cE_eIB, ⟨_, _, _, _, _, _, lcE_eIB, v2E_eIB, flE_eIB⟩, ⟨_, _, _, llE_eIB⟩, ⟨_, lDE_eIB⟩, b_super, spT, spO⟩
  have B_eIB : Binds K (PySem.W.ksFn "__init__" "InvalidBox.__init__" (defArgs sIB) (defBody sIB) (defScope sIB) .none kV_eIB dc_eIB pm_eIB an_eIB (.ref cda_eIB) ct_eIB cc_eIB) ["self", "given"] [] := Binds.all fun us hl => match us, hl with | [_, _], _ => rfl
  have at_eIB := PySem.W.mg_of X G aE_eIB
  have ER_eIB : ErrC K E_eIB E_eSE f_eSE := ⟨⟨⟨_, _, _, _, _, _, _, _, _, _, _, _, _, _, _, xL_eIB, xR_eIB⟩, sa_eIB, exC_eIB, tyC_eIB, kpC_eIB⟩, s1_eIB, s2_eIB, m1x_eIB, m2x_eIB, ve_eIB, no_tag_eIB, tS_eSE, fS_eSE⟩
  have R_eIB : RaiseC K mg "InvalidBox" E_eIB E_eSE f_eSE f_eIB := ⟨ER_eIB, iE_eIB, tI_eIB, at_eIB⟩
  have RD_eIB : RdC K E_eIB := ⟨⟨xga_eIB, xgg_eIB, exC_eIB, xhd_eIB⟩, fun n hn => by
    simp only [List.mem_cons, List.not_mem_nil, or_false] at hn
    rcases hn with rfl | rfl | rfl | rfl | rfl | rfl | rfl
    · exact no_tag_eIB
    · exact no_given_eIB
    · exact no_limit_eIB
    · exact no_index_eIB
    · exact no_name_eIB
    · exact no_first_eIB
    · exact no_line_eIB⟩
  have I_eUL : InitF l.prog K mg "Unlike.__init__" sUL E_eUL f_eUL cc_eUL cda_eUL _ := ⟨⟨_, _, _, _, _, _, _, _, rfl, lE_eUL⟩, cE_eUL, ⟨_, _, _, _, _, _, lcE_eUL, v2E_eUL, flE_eUL⟩, ⟨_, _, _, llE_eUL⟩, ⟨_, lDE_eUL⟩, b_super, spT, spO⟩
  have B_eUL : Binds K (PySem.W.ksFn "__init__" "Unlike.__init__" (defArgs sUL) (defBody sUL) (defScope sUL) .none kV_eUL dc_eUL pm_eUL an_eUL (.ref cda_eUL) ct_eUL cc_eUL) ["self"] [] := Binds.all fun us hl => match us, hl with | [_], _ => rfl
  have at_eUL := PySem.W.mg_of X G aE_eUL
  have ER_eUL : ErrC K E_eUL E_eSE f_eSE := ⟨⟨⟨_, _, _, _, _, _, _, _, _, _, _, _, _, _, _, xL_eUL, xR_eUL⟩, sa_eUL, exC_eUL, tyC_eUL, kpC_eUL⟩, s1_eUL, s2_eUL, m1x_eUL, m2x_eUL, ve_eUL, no_tag_eUL, tS_eSE, fS_eSE⟩
  have R_eUL : RaiseC K mg "Unlike" E_eUL E_eSE f_eSE f_eUL := ⟨ER_eUL, iE_eUL, tI_eUL, at_eUL⟩
  have RD_eUL : RdC K E_eUL := ⟨⟨xga_eUL, xgg_eUL, exC_eUL, xhd_eUL⟩, fun n hn => by
    simp only [List.mem_cons, List.not_mem_nil, or_false] at hn
    rcases hn with rfl | rfl | rfl | rfl | rfl | rfl | rfl
    · exact no_tag_eUL
    · exact no_given_eUL
    · exact no_limit_eUL
    · exact no_index_eUL
    · exact no_name_eUL
    · exact no_first_eUL
    · exact no_line_eUL⟩
  have I_eTM : InitF l.prog K mg "TooManyClasses.__init__" sTM E_eTM f_eTM cc_eTM cda_eTM _ := ⟨⟨_, _, _, _, _, _, _, _, rfl, lE_eTM⟩, cE_eTM, ⟨_, _, _, _, _, _, lcE_eTM, v2E_eTM, flE_eTM⟩, ⟨_, _, _, llE_eTM⟩, ⟨_, lDE_eTM⟩, b_super, spT, spO⟩
  have B_eTM : Binds K (PySem.W.ksFn "__init__" "TooManyClasses.__init__" (defArgs sTM) (defBody sTM) (defScope sTM) .none kV_eTM dc_eTM pm_eTM an_eTM (.ref cda_eTM) ct_eTM cc_eTM) ["self", "limit"] [] := Binds.all fun us hl => match us, hl with | [_, _], _ => rfl
  have at_eTM := PySem.W.mg_of X G aE_eTM
  have ER_eTM : ErrC K E_eTM E_eSE f_eSE := ⟨⟨⟨_, _, _, _, _, _, _, _, _, _, _, _, _, _, _, xL_eTM, xR_eTM⟩, sa_eTM, exC_eTM, tyC_eTM, kpC_eTM⟩, s1_eTM, s2_eTM, m1x_eTM, m2x_eTM, ve_eTM, no_tag_eTM, tS_eSE, fS_eSE⟩
  have R_eTM : RaiseC K mg "TooManyClasses" E_eTM E_eSE f_eSE f_eTM := ⟨ER_eTM, iE_eTM, tI_eTM, at_eTM⟩
  have RD_eTM : RdC K E_eTM := ⟨⟨xga_eTM, xgg_eTM, exC_eTM, xhd_eTM⟩, fun n hn => by
    simp only [List.mem_cons, List.not_mem_nil, or_false] at hn
    rcases hn with rfl | rfl | rfl | rfl | rfl | rfl | rfl
    · exact no_tag_eTM
    · exact no_given_eTM
    · exact no_limit_eTM
    · exact no_index_eTM
    · exact no_name_eTM
    · exact no_first_eTM
    · exact no_line_eTM⟩
  have I_eID : InitF l.prog K mg "InvalidDivisors.__init__" sID E_eID f_eID cc_eID cda_eID _ := ⟨⟨_, _, _, _, _, _, _, _, rfl, lE_eID⟩, cE_eID, ⟨_, _, _, _, _, _, lcE_eID, v2E_eID, flE_eID⟩, ⟨_, _, _, llE_eID⟩, ⟨_, lDE_eID⟩, b_super, spT, spO⟩
  have B_eID : Binds K (PySem.W.ksFn "__init__" "InvalidDivisors.__init__" (defArgs sID) (defBody sID) (defScope sID) .none kV_eID dc_eID pm_eID an_eID (.ref cda_eID) ct_eID cc_eID) ["self"] [] := Binds.all fun us hl => match us, hl with | [_], _ => rfl
  have at_eID := PySem.W.mg_of X G aE_eID
  have ER_eID : ErrC K E_eID E_eSE f_eSE := ⟨⟨⟨_, _, _, _, _, _, _, _, _, _, _, _, _, _, _, xL_eID, xR_eID⟩, sa_eID, exC_eID, tyC_eID, kpC_eID⟩, s1_eID, s2_eID, m1x_eID, m2x_eID, ve_eID, no_tag_eID, tS_eSE, fS_eSE⟩
  have R_eID : RaiseC K mg "InvalidDivisors" E_eID E_eSE f_eSE f_eID := ⟨ER_eID, iE_eID, tI_eID, at_eID⟩
  have RD_eID : RdC K E_eID := ⟨⟨xga_eID, xgg_eID, exC_eID, xhd_eID⟩, fun n hn => by
    simp only [List.mem_cons, List.not_mem_nil, or_false] at hn
    rcases hn with rfl | rfl | rfl | rfl | rfl | rfl | rfl
    · exact no_tag_eID
    · exact no_given_eID
    · exact no_limit_eID
    · exact no_index_eID
    · exact no_name_eID
    · exact no_first_eID
    · exact no_line_eID⟩
  have IC : C8.InsC K C := ⟨⟨pg, hd, po, sa⟩, icA, icN, icT, icM, icK⟩
  have b_Law : Binds K (PySem.W.fnOf "law" "law" (defArgs sLaw) (defBody sLaw) (defScope sLaw) .none kV_Law dc_Law pm_Law an_Law (.ref cda) ct_Law) ["_law_script"] [] := Binds.all fun us hl => match us, hl with | [_], _ => rfl
  have D_Try := def_mk (st := sTry) (ps := ["_law_ask"]) X G a_Try l_Try c_Try k_Try fun _ _ _ _ _ _ us hl => match us, hl with | [_], _ => rfl
  have D_Field := def_mk (st := sField) (ps := ["_law_e"]) X G a_Field l_Field c_Field k_Field fun _ _ _ _ _ _ us hl => match us, hl with | [_], _ => rfl
  have TR : TryT K mg f_Try := ⟨PySem.W.mg_of X G a_Try, k_Try, _, _, _, _, _, _, _, _, _, l_Try, c_Try⟩
  have FT : FieldT K mg f_Field := ⟨PySem.W.mg_of X G a_Field, k_Field, _, _, _, _, _, _, _, _, _, l_Field, c_Field⟩
  have F_mCall := fun_mk (st := sCall) l_mCall c_mCall k_mCall
  have B_mCall := F_mCall.binds (ps := ["self", "one", "other"]) fun _ _ _ _ _ _ us hl => match us, hl with | [_, _, _], _ => rfl
  have M_mCall : Meth K C "__call__" f_mCall := ⟨am_mCall, im_mCall, k_mCall⟩
  have F_mThen := fun_mk (st := sThen) l_mThen c_mThen k_mThen
  have B_mThen := F_mThen.binds (ps := ["self", "other"]) fun _ _ _ _ _ _ us hl => match us, hl with | [_, _], _ => rfl
  have M_mThen : Meth K C "then" f_mThen := ⟨am_mThen, im_mThen, k_mThen⟩
  have F_mSEq := fun_mk (st := sSEq) l_mSEq c_mSEq k_mSEq
  have B_mSEq := F_mSEq.binds (ps := ["self", "other"]) fun _ _ _ _ _ _ us hl => match us, hl with | [_, _], _ => rfl
  have M_mSEq : Meth K C "__eq__" f_mSEq := ⟨am_mSEq, im_mSEq, k_mSEq⟩
  have F_mSPath := fun_mk (st := sSPath) l_mSPath c_mSPath k_mSPath
  have B_mSPath := F_mSPath.binds (ps := ["self", "place"]) fun _ _ _ _ _ _ us hl => match us, hl with | [_, _], _ => rfl
  have M_mSPath : Meth K C "path" f_mSPath := ⟨am_mSPath, im_mSPath, k_mSPath⟩
  have F_mOrder := fun_mk (st := sOrder) l_mOrder c_mOrder k_mOrder
  have B_mOrder := F_mOrder.binds (ps := ["self", "box"]) fun _ _ _ _ _ _ us hl => match us, hl with | [_, _], _ => rfl
  have M_mOrder : Meth K C "order" f_mOrder := ⟨am_mOrder, im_mOrder, k_mOrder⟩
  have BM_mSPath : BMeth K C "path" f_mSPath := ⟨M_mSPath, bg_mSPath, bt_mSPath, by decide +kernel, bf_mSPath⟩
  have b_len := PySem.W.mg_none_of X G z_len
  have D_ChkPlace := def_mk (st := sChkPlace) (ps := ["place", "directions"]) X G a_ChkPlace l_ChkPlace c_ChkPlace k_ChkPlace fun _ _ _ _ _ _ us hl => match us, hl with | [_, _], _ => rfl
  have D_AreNums := def_mk (st := sAreNums) (ps := ["value", "count"]) X G a_AreNums l_AreNums c_AreNums k_AreNums fun _ _ _ _ _ _ us hl => match us, hl with | [_, _], _ => rfl
  have b_isinstance := PySem.W.mg_none_of X G z_isinstance
  have b_tuple := PySem.W.mg_none_of X G z_tuple
  have b_all := PySem.W.mg_none_of X G z_all
  have D_IsNum := def_mk (st := sIsNum) (ps := ["value"]) X G a_IsNum l_IsNum c_IsNum k_IsNum fun _ _ _ _ _ _ us hl => match us, hl with | [_], _ => rfl
  have b_int := PySem.W.mg_none_of X G z_int
  have b_bool := PySem.W.mg_none_of X G z_bool
  have D_Path := def_mk (st := sPath) (ps := ["tree", "divisors", "place"]) X G a_Path l_Path c_Path k_Path fun _ _ _ _ _ _ us hl => match us, hl with | [_, _, _], _ => rfl
  have D_ClassAt := def_mk (st := sClassAt) (ps := ["divisors", "place"]) X G a_ClassAt l_ClassAt c_ClassAt k_ClassAt fun _ _ _ _ _ _ us hl => match us, hl with | [_, _], _ => rfl
  have b_zip := PySem.W.mg_none_of X G z_zip
  have D_Dot := def_mk (st := sDot) (ps := ["row", "place"]) X G a_Dot l_Dot c_Dot k_Dot fun _ _ _ _ _ _ us hl => match us, hl with | [_, _], _ => rfl
  have b_sum := PySem.W.mg_none_of X G z_sum
  have D_Gix := def_mk (st := sGix) (ps := ["groups", "number"]) X G a_Gix l_Gix c_Gix k_Gix fun _ _ _ _ _ _ us hl => match us, hl with | [_, _], _ => rfl
  have FBl : FunD K "blocks_scan" "blocks_scan" (defArgs sBlocks) (defBody sBlocks) (defScope sBlocks) [] [("inner", V.non)] f_Blocks (PySem.W.fnOf "blocks_scan" "blocks_scan" (defArgs sBlocks) (defBody sBlocks) (defScope sBlocks) .none (.ref kD_Blocks) dc_Blocks pm_Blocks an_Blocks cd_Blocks ct_Blocks) := ⟨⟨_, _, _, _, _, _, _, _, _, _, rfl, l_Blocks, c_Blocks, .inl ⟨rfl, rfl⟩, .inr ⟨kD_Blocks, rfl, fun q hq => by rw [List.mem_singleton.mp hq]; exact ⟨_, kd_Blocks, rfl⟩⟩⟩, k_Blocks⟩
  obtain ⟨dB, rBl, bBl⟩ := FBl.binds0 (ps := ["sides", "inner"]) 1 (by simp) rfl fun D doc pm an cdv ct us ks h1 h2 => match us, ks, h1, h2 with | [_], [_], _, _ => ⟨_, _, _, _, _, _, rfl, rfl, rfl⟩
  have KBl := kb_inner (K := K) (fun u v s => BindsTo.of_eq (s := s) (fd := (PySem.W.fnOf "blocks_scan" "blocks_scan" (defArgs sBlocks) (defBody sBlocks) (defScope sBlocks) .none (.ref kD_Blocks) dc_Blocks pm_Blocks an_Blocks cd_Blocks ct_Blocks)) rfl)
  have atBl := PySem.W.mg_of X G a_Blocks
  have b_range := PySem.W.mg_none_of X G z_range
  have b_max := PySem.W.mg_none_of X G z_max
  have D_Bag := def_mk (st := sBag) (ps := ["_law_script"]) X G a_Bag l_Bag c_Bag k_Bag fun _ _ _ _ _ _ us hl => match us, hl with | [_], _ => rfl
  have b_list := PySem.W.mg_none_of X G z_list
  have D_Pull := def_mk (st := sPull) (ps := ["_law_bag_here", "_law_amount"]) X G a_Pull l_Pull c_Pull k_Pull fun _ _ _ _ _ _ us hl => match us, hl with | [_, _], _ => rfl
  have D_Of := def_mk (st := sOf) (ps := ["_law_bag_here", "_law_things"]) X G a_Of l_Of c_Of k_Of fun _ _ _ _ _ _ us hl => match us, hl with | [_, _], _ => rfl
  have D_Place := def_mk (st := sPlace) (ps := ["_law_bag_here", "_law_directions", "_law_size"]) X G a_Place l_Place c_Place k_Place fun _ _ _ _ _ _ us hl => match us, hl with | [_, _, _], _ => rfl
  have D_Plus := def_mk (st := sPlus) (ps := ["_law_one", "_law_other"]) X G a_Plus l_Plus c_Plus k_Plus fun _ _ _ _ _ _ us hl => match us, hl with | [_, _], _ => rfl
  have D_LSame := def_mk (st := sLSame) (ps := ["_law_found", "_law_due"]) X G a_LSame l_LSame c_LSame k_LSame fun _ _ _ _ _ _ us hl => match us, hl with | [_, _], _ => rfl
  have b_dict := PySem.W.mg_none_of X G z_dict
  have b_str := PySem.W.mg_none_of X G z_str
  have D_SmallScan := def_mk (st := sSmallScan) (ps := ["_law_bag_here", "_law_directions"]) X G a_SmallScan l_SmallScan c_SmallScan k_SmallScan fun _ _ _ _ _ _ us hl => match us, hl with | [_, _], _ => rfl
  have D_Divisors := def_mk (st := sDivisors) (ps := ["_law_bag_here", "_law_directions"]) X G a_Divisors l_Divisors c_Divisors k_Divisors fun _ _ _ _ _ _ us hl => match us, hl with | [_, _], _ => rfl
  have b_min := PySem.W.mg_none_of X G z_min
  have D_Mixed := def_mk (st := sMixed) (ps := ["_law_bag_here", "_law_things"]) X G a_Mixed l_Mixed c_Mixed k_Mixed fun _ _ _ _ _ _ us hl => match us, hl with | [_, _], _ => rfl
  have D_Tree := def_mk (st := sTree) (ps := ["_law_bag_here", "_law_divisors_here", "_law_depth"]) X G a_Tree l_Tree c_Tree k_Tree fun _ _ _ _ _ _ us hl => match us, hl with | [_, _, _], _ => rfl
  have D_Count := def_mk (st := sCount) (ps := ["_law_divisors_here"]) X G a_Count l_Count c_Count k_Count fun _ _ _ _ _ _ us hl => match us, hl with | [_], _ => rfl
  have D_Parts := def_mk (st := sParts) (ps := ["_law_bag_here", "_law_many", "_law_most"]) X G a_Parts l_Parts c_Parts k_Parts fun _ _ _ _ _ _ us hl => match us, hl with | [_, _, _], _ => rfl
  have D_LCommon := def_mk (st := sLCommon) (ps := ["_law_one", "_law_other"]) X G a_LCommon l_LCommon c_LCommon k_LCommon fun _ _ _ _ _ _ us hl => match us, hl with | [_, _], _ => rfl
  have D_LLcm := def_mk (st := sLLcm) (ps := ["_law_one", "_law_other"]) X G a_LLcm l_LLcm c_LLcm k_LLcm fun _ _ _ _ _ _ us hl => match us, hl with | [_, _], _ => rfl
  have D_LGcd := def_mk (st := sLGcd) (ps := ["_law_one", "_law_other"]) X G a_LGcd l_LGcd c_LGcd k_LGcd fun _ _ _ _ _ _ us hl => match us, hl with | [_, _], _ => rfl
  have b_abs := PySem.W.mg_none_of X G z_abs
  have D_Before := def_mk (st := sBefore) (ps := ["_law_pair", "_law_one", "_law_other"]) X G a_Before l_Before c_Before k_Before fun _ _ _ _ _ _ us hl => match us, hl with | [_, _, _], _ => rfl
  have D_LPath := def_mk (st := sLPath) (ps := ["_law_divisors_here", "_law_tree_here", "_law_place_here"]) X G a_LPath l_LPath c_LPath k_LPath fun _ _ _ _ _ _ us hl => match us, hl with | [_, _, _], _ => rfl
  have D_LClass := def_mk (st := sLClass) (ps := ["_law_divisors_here", "_law_place_here"]) X G a_LClass l_LClass c_LClass k_LClass fun _ _ _ _ _ _ us hl => match us, hl with | [_, _], _ => rfl
  have D_LTied := def_mk (st := sLTied) (ps := ["_law_pair", "_law_one", "_law_other"]) X G a_LTied l_LTied c_LTied k_LTied fun _ _ _ _ _ _ us hl => match us, hl with | [_, _, _], _ => rfl
  have D_Cut := def_mk (st := sCut) (ps := ["_law_pair", "_law_place_here"]) X G a_Cut l_Cut c_Cut k_Cut fun _ _ _ _ _ _ us hl => match us, hl with | [_, _], _ => rfl
  have D_ClassCount := def_mk (st := sClassCount) (ps := ["divisors"]) X G a_ClassCount l_ClassCount c_ClassCount k_ClassCount fun _ _ _ _ _ _ us hl => match us, hl with | [_], _ => rfl
  have D_ChkDiv := def_mk (st := sChkDiv) (ps := ["divisors"]) X G a_ChkDiv l_ChkDiv c_ChkDiv k_ChkDiv fun _ _ _ _ _ _ us hl => match us, hl with | [_], _ => rfl
  have g_MAX_CLASSES := PySem.W.mg_of X G n_MAX_CLASSES
  have D_AreSides := def_mk (st := sAreSides) (ps := ["value", "least"]) X G a_AreSides l_AreSides c_AreSides k_AreSides fun _ _ _ _ _ _ us hl => match us, hl with | [_, _], _ => rfl
  have g_MAX_DIRECTIONS := PySem.W.mg_of X G n_MAX_DIRECTIONS
  have D_Product := def_mk (st := sProduct) (ps := ["numbers"]) X G a_Product l_Product c_Product k_Product fun _ _ _ _ _ _ us hl => match us, hl with | [_], _ => rfl
  have D_Nodes := def_mk (st := sNodes) (ps := ["tree", "divisors", "most_nodes", "most_depth"]) X G a_Nodes l_Nodes c_Nodes k_Nodes fun _ _ _ _ _ _ us hl => match us, hl with | [_, _, _, _], _ => rfl
  have D_Inner := def_mk (st := sInner) (ps := ["node", "directions", "classes"]) X G a_Inner l_Inner c_Inner k_Inner fun _ _ _ _ _ _ us hl => match us, hl with | [_, _, _], _ => rfl
  have mP := PySem.W.mg_of X G aP
  have hP : ∀ H, SqT K H pA [V.str "places"] := fun H => .inr ⟨_, _, _, lA, rfl, rfl, (by show 1 ≤ sizeLine; decide), .cons ⟨_, rfl⟩ .nil⟩
  have D_IsKey := def_mk (st := sIsKey) (ps := ["node", "directions", "classes"]) X G a_IsKey l_IsKey c_IsKey k_IsKey fun _ _ _ _ _ _ us hl => match us, hl with | [_, _, _], _ => rfl
  have D_IsFork := def_mk (st := sIsFork) (ps := ["node", "classes"]) X G a_IsFork l_IsFork c_IsFork k_IsFork fun _ _ _ _ _ _ us hl => match us, hl with | [_, _], _ => rfl
  have D_Groups := def_mk (st := sGroups) (ps := ["value", "classes"]) X G a_Groups l_Groups c_Groups k_Groups fun _ _ _ _ _ _ us hl => match us, hl with | [_, _], _ => rfl
  have b_sorted := PySem.W.mg_none_of X G z_sorted
  have D_Asc := def_mk (st := sAsc) (ps := ["value"]) X G a_Asc l_Asc c_Asc k_Asc fun _ _ _ _ _ _ us hl => match us, hl with | [_], _ => rfl
  have D_Common := def_mk (st := sCommon) (ps := ["one", "other"]) X G a_Common l_Common c_Common k_Common fun _ _ _ _ _ _ us hl => match us, hl with | [_, _], _ => rfl
  have D_Lcm := def_mk (st := sLcm) (ps := ["one", "other"]) X G a_Lcm l_Lcm c_Lcm k_Lcm fun _ _ _ _ _ _ us hl => match us, hl with | [_, _], _ => rfl
  have D_Gcd := def_mk (st := sGcd) (ps := ["one", "other"]) X G a_Gcd l_Gcd c_Gcd k_Gcd fun _ _ _ _ _ _ us hl => match us, hl with | [_, _], _ => rfl
  have F_mRefTree := fun_mk (st := sRefTree) l_mRefTree c_mRefTree k_mRefTree
  have B_mRefTree := F_mRefTree.binds (ps := ["self", "divisors", "ends"]) fun _ _ _ _ _ _ us hl => match us, hl with | [_, _, _], _ => rfl
  have M_mRefTree : Meth K C "refined_tree" f_mRefTree := ⟨am_mRefTree, im_mRefTree, k_mRefTree⟩
  have D_Ident := def_mk (st := sIdent) (ps := ["directions"]) X G a_Ident l_Ident c_Ident k_Ident fun _ _ _ _ _ _ us hl => match us, hl with | [_], _ => rfl
  have F_mChanged := fun_mk (st := sChanged) l_mChanged c_mChanged k_mChanged
  have B_mChanged := F_mChanged.binds (ps := ["self", "divisors", "matrix", "place", "ends"]) fun _ _ _ _ _ _ us hl => match us, hl with | [_, _, _, _, _], _ => rfl
  have M_mChanged : Meth K C "changed_tree" f_mChanged := ⟨am_mChanged, im_mChanged, k_mChanged⟩
  have D_Sources := def_mk (st := sSources) (ps := ["divisors", "matrix", "place", "new_divisors"]) X G a_Sources l_Sources c_Sources k_Sources fun _ _ _ _ _ _ us hl => match us, hl with | [_, _, _, _], _ => rfl
  have D_Added := def_mk (st := sAdded) (ps := ["one", "other"]) X G a_Added l_Added c_Added k_Added fun _ _ _ _ _ _ us hl => match us, hl with | [_, _], _ => rfl
  have D_Times := def_mk (st := sTimes) (ps := ["matrix", "place"]) X G a_Times l_Times c_Times k_Times fun _ _ _ _ _ _ us hl => match us, hl with | [_, _], _ => rfl
  have D_PlaceAt := def_mk (st := sPlaceAt) (ps := ["sides", "number"]) X G a_PlaceAt l_PlaceAt c_PlaceAt k_PlaceAt fun _ _ _ _ _ _ us hl => match us, hl with | [_, _], _ => rfl
  have D_MovedT := def_mk (st := sMovedT) (ps := ["tree", "matrix", "sources", "ends"]) X G a_MovedT l_MovedT c_MovedT k_MovedT fun _ _ _ _ _ _ us hl => match us, hl with | [_, _, _, _], _ => rfl
  have D_RowTimes := def_mk (st := sRowTimes) (ps := ["row", "matrix"]) X G a_RowTimes l_RowTimes c_RowTimes k_RowTimes fun _ _ _ _ _ _ us hl => match us, hl with | [_, _], _ => rfl
  have D_Column := def_mk (st := sColumn) (ps := ["matrix", "at"]) X G a_Column l_Column c_Column k_Column fun _ _ _ _ _ _ us hl => match us, hl with | [_, _], _ => rfl
  have D_MovedC := def_mk (st := sMovedC) (ps := ["classes", "sources"]) X G a_MovedC l_MovedC c_MovedC k_MovedC fun _ _ _ _ _ _ us hl => match us, hl with | [_, _], _ => rfl
  have b_enumerate := PySem.W.mg_none_of X G z_enumerate
  have D_FloorT := def_mk (st := sFloorT) (ps := ["keys", "divisors"]) X G a_FloorT l_FloorT c_FloorT k_FloorT fun _ _ _ _ _ _ us hl => match us, hl with | [_, _], _ => rfl
  have F_mSTied := fun_mk (st := sSTied) l_mSTied c_mSTied k_mSTied
  have B_mSTied := F_mSTied.binds (ps := ["self", "one", "other"]) fun _ _ _ _ _ _ us hl => match us, hl with | [_, _, _], _ => rfl
  have M_mSTied : Meth K C "tied" f_mSTied := ⟨am_mSTied, im_mSTied, k_mSTied⟩
  have D_ChkBox := def_mk (st := sChkBox) (ps := ["box", "directions"]) X G a_ChkBox l_ChkBox c_ChkBox k_ChkBox fun _ _ _ _ _ _ us hl => match us, hl with | [_, _], _ => rfl
  have D_CellsP := def_mk (st := sCells) (ps := ["box"]) X G a_CellsP l_CellsP c_CellsP k_CellsP fun _ _ _ _ _ _ us hl => match us, hl with | [_], _ => rfl
  have g_MAX_CELLS := PySem.W.mg_of X G n_MAX_CELLS
  have F_pPNodes := fun_mk (st := sPNodes) l_pPNodes c_pPNodes k_pPNodes
  have B_pPNodes := F_pPNodes.binds (ps := ["self"]) fun _ _ _ _ _ _ us hl => match us, hl with | [_], _ => rfl
  have P_pPNodes : PropOf K C "nodes" p_pPNodes f_pPNodes := ⟨ap_pPNodes, gp_pPNodes, tp_pPNodes, _, rp_pPNodes⟩
  refine ⟨PySem.W.fnOf "law" "law" (defArgs sLaw) (defBody sLaw) (defScope sLaw) .none kV_Law dc_Law pm_Law an_Law (.ref cda) ct_Law, [(cda, Pt)], spLaw K Pt, fun p hp => ?_, fun p hp => ?_, fun p hp => ?_, fun s v => .of_eq rfl, fun H a ns _ _ hH hS => ⟨a, ns, rfl, hS, hH _ (List.mem_singleton.mpr rfl), fun _ => rfl⟩, fun base _ _ TB => ?_⟩
  · rw [List.mem_singleton.mp hp]
    exact tab
  · rw [List.mem_singleton.mp hp]
    exact lPt
  · rw [List.mem_singleton.mp hp]
    exact ⟨_, vsL, fileL, tfL, flagsL, tgL, inFL, textL, ttL, X _ _ lcd, rfl, rfl, v11, v11d, v18, v7, v9, v10, vne⟩
  have Gnum := ok_isnum (P := l.prog) (w := w) (mg := mg) (base := base) (k := 0) D_IsNum.fn b_int b_bool b_isinstance
  have Gnums := ok_nums (P := l.prog) (w := w) (mg := mg) (base := base) (k := 0) D_AreNums.fn b_isinstance b_tuple b_len b_all Gnum D_IsNum.fn.kp D_IsNum.bd D_IsNum.at_
  have Gchkp := ok_chkplace (P := l.prog) (w := w) (mg := mg) (base := base) (k := 0) D_ChkPlace.fn Gnums D_AreNums.fn.kp D_AreNums.bd D_AreNums.at_
  have Gca := ok_classat (P := l.prog) (w := w) (mg := mg) (base := base) (k := 0) D_ClassAt.fn b_zip
  have Gdot := ok_dot (P := l.prog) (w := w) (mg := mg) (base := base) (k := 0) D_Dot.fn b_sum b_zip
  have Ggix := ok_gix (P := l.prog) (w := w) (mg := mg) (base := base) (k := 0) D_Gix.fn
  have Gtp := ok_tpath (P := l.prog) (w := w) (mg := mg) (base := base) (k := 0) D_Path.fn b_tuple Gca D_ClassAt.fn.kp D_ClassAt.bd D_ClassAt.at_ Gdot D_Dot.fn.kp D_Dot.bd D_Dot.at_ Ggix D_Gix.fn.kp D_Gix.bd D_Gix.at_
  have Gsp := ok_spath (P := l.prog) (w := w) (mg := mg) (base := base) (k := 0) F_mSPath T b_len Gchkp D_ChkPlace.fn.kp D_ChkPlace.bd D_ChkPlace.at_ Gtp D_Path.fn.kp D_Path.bd D_Path.at_
  have Gbag := ok_bag (P := l.prog) (w := w) (mg := mg) (base := base) (k := 0) D_Bag.fn b_int b_list
  have Gpull := ok_pull (P := l.prog) (w := w) (mg := mg) (base := base) (k := 0) D_Pull.fn b_len b_int
  have Gof := ok_of (P := l.prog) (w := w) (mg := mg) (base := base) (k := 0) D_Of.fn b_len Gpull D_Pull.fn.kp D_Pull.bd D_Pull.at_
  have Gplace := ok_place (P := l.prog) (w := w) (mg := mg) (base := base) (k := 0) D_Place.fn b_tuple b_range Gpull D_Pull.fn.kp D_Pull.bd D_Pull.at_
  have Gplus := ok_plus (P := l.prog) (w := w) (mg := mg) (base := base) (k := 0) D_Plus.fn b_tuple b_zip
  have Gsm := ok_same (P := l.prog) (w := w) (mg := mg) (base := base) (k := 0) D_LSame.fn b_isinstance b_list b_tuple b_dict b_bool b_int b_str b_len b_all b_zip D_LSame.at_ D_LSame.bd 4
  have Gmix := ok_mixed (P := l.prog) (w := w) (mg := mg) (base := base) (k := 0) D_Mixed.fn b_len Gpull D_Pull.fn.kp D_Pull.bd D_Pull.at_
  have Gdiv := ok_divisors (P := l.prog) (w := w) (mg := mg) (base := base) (k := 0) D_Divisors.fn b_tuple b_range b_min Gpull D_Pull.fn.kp D_Pull.bd D_Pull.at_ Gmix D_Mixed.fn.kp D_Mixed.bd D_Mixed.at_
  have Gcnt := ok_count (P := l.prog) (w := w) (mg := mg) (base := base) (k := 0) D_Count.fn
  have Gparts := ok_parts (P := l.prog) (w := w) (mg := mg) (base := base) (k := 0) D_Parts.fn b_tuple b_range Gpull D_Pull.fn.kp D_Pull.bd D_Pull.at_
  have Gtreew := ok_treeW (P := l.prog) (w := w) (mg := mg) (base := base) (k := 0) D_Tree.fn b_tuple b_range D_Tree.at_ D_Tree.bd Gpull D_Pull.fn.kp D_Pull.bd D_Pull.at_ Gcnt D_Count.fn.kp D_Count.bd D_Count.at_ Gof D_Of.fn.kp D_Of.bd D_Of.at_ Gparts D_Parts.fn.kp D_Parts.bd D_Parts.at_ 2
  have Gsmall := ok_small (P := l.prog) (w := w) (mg := mg) (base := base) (k := 0) D_SmallScan.fn Gdiv D_Divisors.fn.kp D_Divisors.bd D_Divisors.at_ Gtreew D_Tree.fn.kp D_Tree.bd D_Tree.at_
  have Glgcd := ok_lgcd (P := l.prog) (w := w) (mg := mg) (base := base) (k := 0) D_LGcd.fn b_abs b_int
  have Gllcm := ok_llcm (P := l.prog) (w := w) (mg := mg) (base := base) (k := 0) D_LLcm.fn Glgcd D_LGcd.fn.kp D_LGcd.bd D_LGcd.at_
  have Glcom := ok_lcommon (P := l.prog) (w := w) (mg := mg) (base := base) (k := 0) D_LCommon.fn b_tuple b_zip Gllcm D_LLcm.fn.kp D_LLcm.bd D_LLcm.at_
  have GcntB := ok_countB (P := l.prog) (w := w) (mg := mg) (base := base) (k := 0) D_Count.fn
  have Glc := ok_lclass (P := l.prog) (w := w) (mg := mg) (base := base) (k := 0) D_LClass.fn b_range b_len b_int
  have Glp := ok_lpath (P := l.prog) (w := w) (mg := mg) (base := base) (k := 0) D_LPath.fn b_tuple b_range b_len b_sum b_zip Glc D_LClass.fn.kp D_LClass.bd D_LClass.at_
  have Gbf := ok_before (P := l.prog) (w := w) (mg := mg) (base := base) (k := 0) D_Before.fn Glp D_LPath.fn.kp D_LPath.bd D_LPath.at_
  have Gcut := ok_cut (P := l.prog) (w := w) (mg := mg) (base := base) (k := 0) D_Cut.fn b_len Glp D_LPath.fn.kp D_LPath.bd D_LPath.at_
  have Glt := ok_ltied (P := l.prog) (w := w) (mg := mg) (base := base) (k := 0) D_LTied.fn Gcut D_Cut.fn.kp D_Cut.bd D_Cut.at_
  have Gsides := ok_sides (P := l.prog) (w := w) (mg := mg) (base := base) (k := 0) D_AreSides.fn b_isinstance b_tuple b_len b_min g_MAX_DIRECTIONS Gnums D_AreNums.fn.kp D_AreNums.bd D_AreNums.at_
  have Gprod := ok_product (P := l.prog) (w := w) (mg := mg) (base := base) (k := 0) D_Product.fn
  have Gchkd := ok_chkdiv (P := l.prog) (w := w) (mg := mg) (base := base) (k := 0) D_ChkDiv.fn g_MAX_CLASSES Gsides D_AreSides.fn.kp D_AreSides.bd D_AreSides.at_ Gprod D_Product.fn.kp D_Product.bd D_Product.at_
  have Gcc := ok_classcount (P := l.prog) (w := w) (mg := mg) (base := base) (k := 0) D_ClassCount.fn Gchkd D_ChkDiv.fn.kp D_ChkDiv.bd D_ChkDiv.at_ Gprod D_Product.fn.kp D_Product.bd D_Product.at_
  have Gik := ok_iskey (P := l.prog) (w := w) (mg := mg) (base := base) (k := 0) D_IsKey.fn b_len Gnums D_AreNums.fn.kp D_AreNums.bd D_AreNums.at_
  have Gasc := ok_asc (P := l.prog) (w := w) (mg := mg) (base := base) (k := 0) D_Asc.fn b_isinstance b_tuple b_len b_all b_zip Gnums D_AreNums.fn.kp D_AreNums.bd D_AreNums.at_
  have Ggr := ok_groups (P := l.prog) (w := w) (mg := mg) (base := base) (k := 0) D_Groups.fn b_isinstance b_tuple b_len b_sorted b_list b_range Gasc D_Asc.fn.kp D_Asc.bd D_Asc.at_
  have Gif := ok_isfork (P := l.prog) (w := w) (mg := mg) (base := base) (k := 0) D_IsFork.fn b_len Ggr D_Groups.fn.kp D_Groups.bd D_Groups.at_
  have Ginn := ok_inner (P := l.prog) (w := w) (mg := mg) (base := base) (k := 0) D_Inner.fn b_isinstance b_tuple mP hP Gik D_IsKey.fn.kp D_IsKey.bd D_IsKey.at_ Gif D_IsFork.fn.kp D_IsFork.bd D_IsFork.at_
  have Gnod := ok_nodes (P := l.prog) (w := w) (mg := mg) (base := base) (k := 0) D_Nodes.fn b_len Gprod D_Product.fn.kp D_Product.bd D_Product.at_ Ginn D_Inner.fn.kp D_Inner.bd D_Inner.at_
  have Gin := ok_init (P := l.prog) (w := w) (mg := mg) (base := base) (k := 0) FI T Gcc D_ClassCount.fn.kp D_ClassCount.bd D_ClassCount.at_ Gnod D_Nodes.fn.kp D_Nodes.bd D_Nodes.at_
  have Ggcd := ok_gcd (P := l.prog) (w := w) (mg := mg) (base := base) (k := 0) D_Gcd.fn b_abs
  have Glcm := ok_lcm (P := l.prog) (w := w) (mg := mg) (base := base) (k := 0) D_Lcm.fn Ggcd D_Gcd.fn.kp D_Gcd.bd D_Gcd.at_
  have Gcom := ok_common (P := l.prog) (w := w) (mg := mg) (base := base) (k := 0) D_Common.fn b_tuple b_zip Glcm D_Lcm.fn.kp D_Lcm.bd D_Lcm.at_
  have Gident := ok_ident (P := l.prog) (w := w) (mg := mg) (base := base) (k := 0) D_Ident.fn b_tuple b_range
  have GprodB := ok_prodB (P := l.prog) (w := w) (mg := mg) (base := base) (k := 0) D_Product.fn
  have Gadded := ok_added (P := l.prog) (w := w) (mg := mg) (base := base) (k := 0) D_Added.fn b_tuple b_zip
  have Gtimes := ok_times (P := l.prog) (w := w) (mg := mg) (base := base) (k := 0) D_Times.fn b_tuple Gdot D_Dot.fn.kp D_Dot.bd D_Dot.at_
  have Gpb := ok_placeatB (P := l.prog) (w := w) (mg := mg) (base := base) (k := 0) D_PlaceAt.fn b_tuple
  have GsrcB := ok_sourcesB (P := l.prog) (w := w) (mg := mg) (base := base) (k := 0) D_Sources.fn b_range GprodB D_Product.fn.kp D_Product.bd D_Product.at_ Gadded D_Added.fn.kp D_Added.bd D_Added.at_ Gtimes D_Times.fn.kp D_Times.bd D_Times.at_ Gpb D_PlaceAt.fn.kp D_PlaceAt.bd D_PlaceAt.at_ Gca D_ClassAt.fn.kp D_ClassAt.bd D_ClassAt.at_
  have Gcol := ok_column (P := l.prog) (w := w) (mg := mg) (base := base) (k := 0) D_Column.fn b_tuple
  have Grt := ok_rowtimes (P := l.prog) (w := w) (mg := mg) (base := base) (k := 0) D_RowTimes.fn b_tuple b_range b_len Gdot D_Dot.fn.kp D_Dot.bd D_Dot.at_ Gcol D_Column.fn.kp D_Column.bd D_Column.at_
  have Gmvc := ok_movedc (P := l.prog) (w := w) (mg := mg) (base := base) (k := 0) D_MovedC.fn b_tuple b_enumerate
  have Gmvt := ok_moved (P := l.prog) (w := w) (mg := mg) (base := base) (k := 0) D_MovedT.fn b_tuple D_MovedT.at_ D_MovedT.bd Grt D_RowTimes.fn.kp D_RowTimes.bd D_RowTimes.at_ Gmvc D_MovedC.fn.kp D_MovedC.bd D_MovedC.at_ 20
  have GchgB := ok_changedB (P := l.prog) (w := w) (mg := mg) (base := base) (k := 0) F_mChanged T GsrcB D_Sources.fn.kp D_Sources.bd D_Sources.at_ Gmvt D_MovedT.fn.kp D_MovedT.bd D_MovedT.at_
  have GrtB := ok_reftB (P := l.prog) (w := w) (mg := mg) (base := base) (k := 0) F_mRefTree T b_len Gident D_Ident.fn.kp D_Ident.bd D_Ident.at_ GchgB B_mChanged M_mChanged
  have Gth := ok_then (P := l.prog) (w := w) (mg := mg) (base := base) (k := 0) F_mThen T b_len mP hP Gcom D_Common.fn.kp D_Common.bd D_Common.at_ GrtB B_mRefTree M_mRefTree Gin bI MI
  have Gse := ok_se (P := l.prog) (w := w) (mg := mg) (base := base) (k := 0) I_eSE
  have Gid := ok_id (P := l.prog) (w := w) (mg := mg) (base := base) (k := 0) I_eID ER_eID Gse B_eSE
  have Gtm := ok_tm (P := l.prog) (w := w) (mg := mg) (base := base) (k := 0) I_eTM ER_eTM no_limit_eTM Gse B_eSE
  have GnumO := ok_isnumO (P := l.prog) (w := w) (mg := mg) (base := base) (k := 0) D_IsNum.fn b_int b_bool b_isinstance
  have GnumsO := ok_numsO (P := l.prog) (w := w) (mg := mg) (base := base) (k := 0) D_AreNums.fn b_isinstance b_tuple b_len b_all GnumO D_IsNum.fn.kp D_IsNum.bd D_IsNum.at_
  have GsidesO := ok_sidesO (P := l.prog) (w := w) (mg := mg) (base := base) (k := 0) D_AreSides.fn b_isinstance b_tuple b_len b_min g_MAX_DIRECTIONS GnumsO D_AreNums.fn.kp D_AreNums.bd D_AreNums.at_
  have GcdX := ok_chkdivX (P := l.prog) (w := w) (mg := mg) (base := base) (k := 0) D_ChkDiv.fn g_MAX_CLASSES R_eID Gid B_eID R_eTM Gtm B_eTM GsidesO D_AreSides.fn.kp D_AreSides.bd D_AreSides.at_ GprodB D_Product.fn.kp D_Product.bd D_Product.at_
  have GccX := ok_ccX (P := l.prog) (w := w) (mg := mg) (base := base) (k := 0) D_ClassCount.fn GcdX D_ChkDiv.fn.kp D_ChkDiv.bd D_ChkDiv.at_
  have GinM := ok_initM (C := C) (P := l.prog) (w := w) (mg := mg) (base := base) (k := 0) FI GccX D_ClassCount.fn.kp D_ClassCount.bd D_ClassCount.at_
  have GthM := ok_thenM (P := l.prog) (w := w) (mg := mg) (base := base) (k := 0) F_mThen T b_len mP hP Gcom D_Common.fn.kp D_Common.bd D_Common.at_ GrtB B_mRefTree M_mRefTree GinM bI MI
  have Gul := ok_ul (P := l.prog) (w := w) (mg := mg) (base := base) (k := 0) I_eUL ER_eUL Gse B_eSE
  have GthU := ok_thenU (P := l.prog) (w := w) (mg := mg) (base := base) (k := 0) F_mThen T b_len R_eUL Gul B_eUL
  have Gpat := ok_placeat (P := l.prog) (w := w) (mg := mg) (base := base) (k := 0) D_PlaceAt.fn b_tuple
  have Gfl := ok_floorL (P := l.prog) (w := w) (mg := mg) (base := base) (k := 0) D_FloorT.fn b_range b_tuple mP hP Gprod D_Product.fn.kp D_Product.bd D_Product.at_ Gdot D_Dot.fn.kp D_Dot.bd D_Dot.at_ Gpat D_PlaceAt.fn.kp D_PlaceAt.bd D_PlaceAt.at_
  have Gb0 := blocks_body (CX := CX0) (sp := spThen K C) (P := l.prog) (w := w) (mg := mg) (base := base) (k := 0) FBl T b_len b_zip g_MAX_CLASSES GsidesO D_AreSides.fn.kp D_AreSides.bd D_AreSides.at_ GprodB D_Product.fn.kp D_Product.bd D_Product.at_ Gident D_Ident.fn.kp D_Ident.bd D_Ident.at_ Gfl D_FloorT.fn.kp D_FloorT.bd D_FloorT.at_ Gin bI MI Gth B_mThen M_mThen (fun _ _ _ _ _ _ => pass0)
  have Gb1 := blocks_body (CX := L2.CX l.prog w) (sp := fun vs H Q E => spThen K C vs H Q E ∨ spThenM K C E_eTM vs H Q E) (P := l.prog) (w := w) (mg := mg) (base := base) (k := 0) FBl T b_len b_zip g_MAX_CLASSES GsidesO D_AreSides.fn.kp D_AreSides.bd D_AreSides.at_ GprodB D_Product.fn.kp D_Product.bd D_Product.at_ Gident D_Ident.fn.kp D_Ident.bd D_Ident.at_ Gfl D_FloorT.fn.kp D_FloorT.bd D_FloorT.at_ Gin bI MI (FnOk.or (FnOk.any Gth) GthM) B_mThen M_mThen (fun _ _ _ _ _ _ => passes_call (takes_of rfl rfl rfl rfl) (fun _ _ _ _ h => h))
  have GbM := ok_blocksM (P := l.prog) (w := w) (mg := mg) (base := base) (k := 0) FBl g_MAX_CLASSES R_eTM Gtm B_eTM GsidesO D_AreSides.fn.kp D_AreSides.bd D_AreSides.at_ GprodB D_Product.fn.kp D_Product.bd D_Product.at_
  have Gib := ok_ib (P := l.prog) (w := w) (mg := mg) (base := base) (k := 0) I_eIB ER_eIB no_given_eIB Gse B_eSE
  have GbB := ok_blocksB (P := l.prog) (w := w) (mg := mg) (base := base) (k := 0) FBl R_eIB Gib B_eIB GsidesO D_AreSides.fn.kp D_AreSides.bd D_AreSides.at_
  have Gb3 := blocks_body (CX := L2.CX l.prog w) (sp := spThenU K C E_eUL) (P := l.prog) (w := w) (mg := mg) (base := base) (k := 0) FBl T b_len b_zip g_MAX_CLASSES GsidesO D_AreSides.fn.kp D_AreSides.bd D_AreSides.at_ GprodB D_Product.fn.kp D_Product.bd D_Product.at_ Gident D_Ident.fn.kp D_Ident.bd D_Ident.at_ Gfl D_FloorT.fn.kp D_FloorT.bd D_FloorT.at_ Gin bI MI GthU B_mThen M_mThen (fun _ _ _ _ _ _ => passes_call (takes_of rfl rfl rfl rfl) (fun _ _ _ _ h => h))
  have Gcl := ok_call (P := l.prog) (w := w) (mg := mg) (base := base) (k := 0) F_mCall T Gsp B_mSPath M_mSPath
  have Gtd := ok_tied (P := l.prog) (w := w) (mg := mg) (base := base) (k := 0) F_mSTied T b_len Gsp B_mSPath M_mSPath
  have Gcb := ok_chkbox (P := l.prog) (w := w) (mg := mg) (base := base) (k := 0) D_ChkBox.fn b_len GsidesO D_AreSides.fn.kp D_AreSides.bd D_AreSides.at_
  have Gcells := okg_cells (P := l.prog) (w := w) (mg := mg) (base := base) (k := 0) D_CellsP.fn b_range g_MAX_CELLS GsidesO D_AreSides.fn.kp D_AreSides.bd D_AreSides.at_ GprodB D_Product.fn.kp D_Product.bd D_Product.at_ Gpb D_PlaceAt.fn.kp D_PlaceAt.bd D_PlaceAt.at_
  have Gor := ok_order (P := l.prog) (w := w) (mg := mg) (base := base) (k := 0) F_mOrder T b_len b_list b_sorted Gcb D_ChkBox.fn.kp D_ChkBox.bd D_ChkBox.at_ Gcells D_CellsP.fn.kp D_CellsP.bd D_CellsP.at_ (Gsp.mono (by omega)) B_mSPath BM_mSPath
  have Geq := ok_seq (P := l.prog) (w := w) (mg := mg) (base := base) (k := 0) F_mSEq T IC b_isinstance
  have Gnd := ok_pnodes (P := l.prog) (w := w) (mg := mg) (base := base) (k := 0) F_pPNodes T
  exact ok_law (k := 0) l_Law c_Law (TB _ (List.mem_singleton.mpr rfl)) T b_range b_tuple b_zip b_int b_max Gbag D_Bag.fn.kp D_Bag.bd D_Bag.at_ Gpull D_Pull.fn.kp D_Pull.bd D_Pull.at_ Gof D_Of.fn.kp D_Of.bd D_Of.at_ Gplace D_Place.fn.kp D_Place.bd D_Place.at_ Gplus D_Plus.fn.kp D_Plus.bd D_Plus.at_ Gsm D_LSame.fn.kp D_LSame.bd D_LSame.at_ Gsmall D_SmallScan.fn.kp D_SmallScan.bd D_SmallScan.at_ Glcom D_LCommon.fn.kp D_LCommon.bd D_LCommon.at_ GcntB D_Count.fn.kp D_Count.bd D_Count.at_ Gbf D_Before.fn.kp D_Before.bd D_Before.at_ Glt D_LTied.fn.kp D_LTied.bd D_LTied.at_ Gin bI MI bJ rJ hdd Gb0 (FnOk.or Gb1 GbM) GbB Gb3 k_Blocks bBl rBl KBl atBl Gcl B_mCall ⟨am_mCall, im_mCall, fi_mCall⟩ Gtd B_mSTied M_mSTied Gor B_mOrder M_mOrder Geq B_mSEq am_mSEq im_mSEq Gnd B_pPNodes P_pPNodes TR FT at_eSE xex_eIB RD_eIB xex_eTM RD_eTM xex_eUL RD_eUL
end Lk
open PySem PySem.W PyProof.Rows
set_option maxRecDepth 100000 in
set_option maxHeartbeats 0 in
theorem PySem.Challenge.cw_lookscan_k15_blocks_holds : PySem.Challenge.rw_lookscan_k15_blocks.Holds := by
  w_on; o_law; k_head; (case hw => w_witness2)
  k_fill
  refine LamX.walk_ofTs (l := PySem.Challenge.rw_lookscan_k15_blocks) (n := 63) (k := 32) (x := "_law_script") (CX := fun _ => L2.CX0) rfl (by decide) rfl ⟨rfl, by decide, by decide⟩ (fun w h Y => PySem.W.km_in_of Y) ?F (fun _ _ _ _ _ h => h)
  case F =>
    intro w mg fa h YX KX G hmg
    refine' Lk.all_mk KX G hmg ?aC ?aI ?iI ?l_I ?c_I ?k_I ?lT ?pg ?hd ?po ?sa ?mkC ?kC ?nf0 ?nf1 ?nf2 ?nf3 ?rd ?ga ?v1 ?v2 ?ldd ?z_super ?spT ?spO ?aE_eSE ?iE_eSE ?lE_eSE ?cE_eSE ?lcE_eSE ?v2E_eSE ?flE_eSE ?llE_eSE ?lDE_eSE ?aE_eIB ?iE_eIB ?lE_eIB ?cE_eIB ?lcE_eIB ?v2E_eIB ?flE_eIB ?llE_eIB ?lDE_eIB ?xL_eIB ?xR_eIB ?sa_eIB ?exC_eIB ?tyC_eIB ?kpC_eIB ?s1_eIB ?s2_eIB ?m1x_eIB ?m2x_eIB ?ve_eIB ?tS_eSE ?fS_eSE ?tI_eIB ?no_tag_eIB ?no_given_eIB ?no_limit_eIB ?no_index_eIB ?no_name_eIB ?no_first_eIB ?no_line_eIB ?xga_eIB ?xgg_eIB ?xhd_eIB ?xex_eIB ?aE_eUL ?iE_eUL ?lE_eUL ?cE_eUL ?lcE_eUL ?v2E_eUL ?flE_eUL ?llE_eUL ?lDE_eUL ?xL_eUL ?xR_eUL ?sa_eUL ?exC_eUL ?tyC_eUL ?kpC_eUL ?s1_eUL ?s2_eUL ?m1x_eUL ?m2x_eUL ?ve_eUL ?tI_eUL ?no_tag_eUL ?no_given_eUL ?no_limit_eUL ?no_index_eUL ?no_name_eUL ?no_first_eUL ?no_line_eUL ?xga_eUL ?xgg_eUL ?xhd_eUL ?xex_eUL ?aE_eTM ?iE_eTM ?lE_eTM ?cE_eTM ?lcE_eTM ?v2E_eTM ?flE_eTM ?llE_eTM ?lDE_eTM ?xL_eTM ?xR_eTM ?sa_eTM ?exC_eTM ?tyC_eTM ?kpC_eTM ?s1_eTM ?s2_eTM ?m1x_eTM ?m2x_eTM ?ve_eTM ?tI_eTM ?no_tag_eTM ?no_given_eTM ?no_limit_eTM ?no_index_eTM ?no_name_eTM ?no_first_eTM ?no_line_eTM ?xga_eTM ?xgg_eTM ?xhd_eTM ?xex_eTM ?aE_eID ?iE_eID ?lE_eID ?cE_eID ?lcE_eID ?v2E_eID ?flE_eID ?llE_eID ?lDE_eID ?xL_eID ?xR_eID ?sa_eID ?exC_eID ?tyC_eID ?kpC_eID ?s1_eID ?s2_eID ?m1x_eID ?m2x_eID ?ve_eID ?tI_eID ?no_tag_eID ?no_given_eID ?no_limit_eID ?no_index_eID ?no_name_eID ?no_first_eID ?no_line_eID ?xga_eID ?xgg_eID ?xhd_eID ?xex_eID ?icA ?icN ?icT ?icM ?icK ?a_Law ?l_Law ?c_Law ?k_Law ?lcd ?v11 ?v11d ?v18 ?v7 ?v9 ?v10 ?vne ?lPt ?tab ?a_Try ?l_Try ?c_Try ?k_Try ?a_Field ?l_Field ?c_Field ?k_Field ?am_mCall ?im_mCall ?l_mCall ?c_mCall ?k_mCall ?am_mThen ?im_mThen ?l_mThen ?c_mThen ?k_mThen ?am_mSEq ?im_mSEq ?l_mSEq ?c_mSEq ?k_mSEq ?am_mSPath ?im_mSPath ?l_mSPath ?c_mSPath ?k_mSPath ?am_mOrder ?im_mOrder ?l_mOrder ?c_mOrder ?k_mOrder ?bg_mSPath ?bt_mSPath ?bf_mSPath ?z_len ?a_ChkPlace ?l_ChkPlace ?c_ChkPlace ?k_ChkPlace ?a_AreNums ?l_AreNums ?c_AreNums ?k_AreNums ?z_isinstance ?z_tuple ?z_all ?a_IsNum ?l_IsNum ?c_IsNum ?k_IsNum ?z_int ?z_bool ?a_Path ?l_Path ?c_Path ?k_Path ?a_ClassAt ?l_ClassAt ?c_ClassAt ?k_ClassAt ?z_zip ?a_Dot ?l_Dot ?c_Dot ?k_Dot ?z_sum ?a_Gix ?l_Gix ?c_Gix ?k_Gix ?a_Blocks ?l_Blocks ?c_Blocks ?k_Blocks ?kd_Blocks ?z_range ?z_max ?a_Bag ?l_Bag ?c_Bag ?k_Bag ?z_list ?a_Pull ?l_Pull ?c_Pull ?k_Pull ?a_Of ?l_Of ?c_Of ?k_Of ?a_Place ?l_Place ?c_Place ?k_Place ?a_Plus ?l_Plus ?c_Plus ?k_Plus ?a_LSame ?l_LSame ?c_LSame ?k_LSame ?z_dict ?z_str ?a_SmallScan ?l_SmallScan ?c_SmallScan ?k_SmallScan ?a_Divisors ?l_Divisors ?c_Divisors ?k_Divisors ?z_min ?a_Mixed ?l_Mixed ?c_Mixed ?k_Mixed ?a_Tree ?l_Tree ?c_Tree ?k_Tree ?a_Count ?l_Count ?c_Count ?k_Count ?a_Parts ?l_Parts ?c_Parts ?k_Parts ?a_LCommon ?l_LCommon ?c_LCommon ?k_LCommon ?a_LLcm ?l_LLcm ?c_LLcm ?k_LLcm ?a_LGcd ?l_LGcd ?c_LGcd ?k_LGcd ?z_abs ?a_Before ?l_Before ?c_Before ?k_Before ?a_LPath ?l_LPath ?c_LPath ?k_LPath ?a_LClass ?l_LClass ?c_LClass ?k_LClass ?a_LTied ?l_LTied ?c_LTied ?k_LTied ?a_Cut ?l_Cut ?c_Cut ?k_Cut ?a_ClassCount ?l_ClassCount ?c_ClassCount ?k_ClassCount ?a_ChkDiv ?l_ChkDiv ?c_ChkDiv ?k_ChkDiv ?n_MAX_CLASSES ?a_AreSides ?l_AreSides ?c_AreSides ?k_AreSides ?n_MAX_DIRECTIONS ?a_Product ?l_Product ?c_Product ?k_Product ?a_Nodes ?l_Nodes ?c_Nodes ?k_Nodes ?a_Inner ?l_Inner ?c_Inner ?k_Inner ?aP ?lA ?a_IsKey ?l_IsKey ?c_IsKey ?k_IsKey ?a_IsFork ?l_IsFork ?c_IsFork ?k_IsFork ?a_Groups ?l_Groups ?c_Groups ?k_Groups ?z_sorted ?a_Asc ?l_Asc ?c_Asc ?k_Asc ?a_Common ?l_Common ?c_Common ?k_Common ?a_Lcm ?l_Lcm ?c_Lcm ?k_Lcm ?a_Gcd ?l_Gcd ?c_Gcd ?k_Gcd ?am_mRefTree ?im_mRefTree ?l_mRefTree ?c_mRefTree ?k_mRefTree ?a_Ident ?l_Ident ?c_Ident ?k_Ident ?am_mChanged ?im_mChanged ?l_mChanged ?c_mChanged ?k_mChanged ?a_Sources ?l_Sources ?c_Sources ?k_Sources ?a_Added ?l_Added ?c_Added ?k_Added ?a_Times ?l_Times ?c_Times ?k_Times ?a_PlaceAt ?l_PlaceAt ?c_PlaceAt ?k_PlaceAt ?a_MovedT ?l_MovedT ?c_MovedT ?k_MovedT ?a_RowTimes ?l_RowTimes ?c_RowTimes ?k_RowTimes ?a_Column ?l_Column ?c_Column ?k_Column ?a_MovedC ?l_MovedC ?c_MovedC ?k_MovedC ?z_enumerate ?a_FloorT ?l_FloorT ?c_FloorT ?k_FloorT ?fi_mCall ?am_mSTied ?im_mSTied ?l_mSTied ?c_mSTied ?k_mSTied ?a_ChkBox ?l_ChkBox ?c_ChkBox ?k_ChkBox ?a_CellsP ?l_CellsP ?c_CellsP ?k_CellsP ?n_MAX_CELLS ?ap_pPNodes ?gp_pPNodes ?tp_pPNodes ?rp_pPNodes ?l_pPNodes ?c_pPNodes ?k_pPNodes
    (case aC => k_is)
    (case aI => k_is)
    (case iI => k_is)
    (case l_I => k_is)
    (case c_I => k_is)
    (case k_I => k_is)
    (case lT => k_is)
    (case pg => k_is)
    (case hd => k_is)
    (case po => k_is)
    (case sa => k_is)
    (case mkC => k_is)
    (case kC => k_is)
    (case nf0 => k_is)
    (case nf1 => k_is)
    (case nf2 => k_is)
    (case nf3 => k_is)
    (case rd => k_is)
    (case ga => k_is)
    (case v1 => k_is)
    (case v2 => k_is)
    (case ldd => k_is)
    (case z_super => k_is)
    (case spT => rfl)
    (case spO => k_is)
    (case aE_eSE => k_is)
    (case iE_eSE => k_is)
    (case lE_eSE => k_is)
    (case cE_eSE => k_is)
    (case lcE_eSE => k_is)
    (case v2E_eSE => rfl)
    (case flE_eSE => decide +kernel)
    (case llE_eSE => k_is)
    (case lDE_eSE => k_is)
    (case aE_eIB => k_is)
    (case iE_eIB => k_is)
    (case lE_eIB => k_is)
    (case cE_eIB => k_is)
    (case lcE_eIB => k_is)
    (case v2E_eIB => rfl)
    (case flE_eIB => decide +kernel)
    (case llE_eIB => k_is)
    (case lDE_eIB => k_is)
    (case xL_eIB => k_is)
    (case xR_eIB => decide +kernel)
    (case sa_eIB => k_is)
    (case exC_eIB => k_is)
    (case tyC_eIB => k_is)
    (case kpC_eIB => k_is)
    (case s1_eIB => k_is)
    (case s2_eIB => k_is)
    (case m1x_eIB => kernel_rfl)
    (case m2x_eIB => kernel_rfl)
    (case ve_eIB => k_is)
    (case tS_eSE => k_is)
    (case fS_eSE => k_is)
    (case tI_eIB => k_is)
    (case no_tag_eIB => k_is)
    (case no_given_eIB => k_is)
    (case no_limit_eIB => k_is)
    (case no_index_eIB => k_is)
    (case no_name_eIB => k_is)
    (case no_first_eIB => k_is)
    (case no_line_eIB => k_is)
    (case xga_eIB => k_is)
    (case xgg_eIB => k_is)
    (case xhd_eIB => k_is)
    (case xex_eIB => kernel_rfl)
    (case aE_eUL => k_is)
    (case iE_eUL => k_is)
    (case lE_eUL => k_is)
    (case cE_eUL => k_is)
    (case lcE_eUL => k_is)
    (case v2E_eUL => rfl)
    (case flE_eUL => decide +kernel)
    (case llE_eUL => k_is)
    (case lDE_eUL => k_is)
    (case xL_eUL => k_is)
    (case xR_eUL => decide +kernel)
    (case sa_eUL => k_is)
    (case exC_eUL => k_is)
    (case tyC_eUL => k_is)
    (case kpC_eUL => k_is)
    (case s1_eUL => k_is)
    (case s2_eUL => k_is)
    (case m1x_eUL => kernel_rfl)
    (case m2x_eUL => kernel_rfl)
    (case ve_eUL => k_is)
    (case tI_eUL => k_is)
    (case no_tag_eUL => k_is)
    (case no_given_eUL => k_is)
    (case no_limit_eUL => k_is)
    (case no_index_eUL => k_is)
    (case no_name_eUL => k_is)
    (case no_first_eUL => k_is)
    (case no_line_eUL => k_is)
    (case xga_eUL => k_is)
    (case xgg_eUL => k_is)
    (case xhd_eUL => k_is)
    (case xex_eUL => kernel_rfl)
    (case aE_eTM => k_is)
    (case iE_eTM => k_is)
    (case lE_eTM => k_is)
    (case cE_eTM => k_is)
    (case lcE_eTM => k_is)
    (case v2E_eTM => rfl)
    (case flE_eTM => decide +kernel)
    (case llE_eTM => k_is)
    (case lDE_eTM => k_is)
    (case xL_eTM => k_is)
    (case xR_eTM => decide +kernel)
    (case sa_eTM => k_is)
    (case exC_eTM => k_is)
    (case tyC_eTM => k_is)
    (case kpC_eTM => k_is)
    (case s1_eTM => k_is)
    (case s2_eTM => k_is)
    (case m1x_eTM => kernel_rfl)
    (case m2x_eTM => kernel_rfl)
    (case ve_eTM => k_is)
    (case tI_eTM => k_is)
    (case no_tag_eTM => k_is)
    (case no_given_eTM => k_is)
    (case no_limit_eTM => k_is)
    (case no_index_eTM => k_is)
    (case no_name_eTM => k_is)
    (case no_first_eTM => k_is)
    (case no_line_eTM => k_is)
    (case xga_eTM => k_is)
    (case xgg_eTM => k_is)
    (case xhd_eTM => k_is)
    (case xex_eTM => kernel_rfl)
    (case aE_eID => k_is)
    (case iE_eID => k_is)
    (case lE_eID => k_is)
    (case cE_eID => k_is)
    (case lcE_eID => k_is)
    (case v2E_eID => rfl)
    (case flE_eID => decide +kernel)
    (case llE_eID => k_is)
    (case lDE_eID => k_is)
    (case xL_eID => k_is)
    (case xR_eID => decide +kernel)
    (case sa_eID => k_is)
    (case exC_eID => k_is)
    (case tyC_eID => k_is)
    (case kpC_eID => k_is)
    (case s1_eID => k_is)
    (case s2_eID => k_is)
    (case m1x_eID => kernel_rfl)
    (case m2x_eID => kernel_rfl)
    (case ve_eID => k_is)
    (case tI_eID => k_is)
    (case no_tag_eID => k_is)
    (case no_given_eID => k_is)
    (case no_limit_eID => k_is)
    (case no_index_eID => k_is)
    (case no_name_eID => k_is)
    (case no_first_eID => k_is)
    (case no_line_eID => k_is)
    (case xga_eID => k_is)
    (case xgg_eID => k_is)
    (case xhd_eID => k_is)
    (case xex_eID => kernel_rfl)
    (case icA => k_is)
    (case icN => k_is)
    (case icT => k_is)
    (case icM => k_is)
    (case icK => kernel_rfl)
    (case a_Law => k_is)
    (case l_Law => k_is)
    (case c_Law => k_is)
    (case k_Law => k_is)
    (case lcd => k_is)
    (case v11 => rfl)
    (case v11d => rfl)
    (case v18 => rfl)
    (case v7 => rfl)
    (case v9 => rfl)
    (case v10 => rfl)
    (case vne => decide)
    (case lPt => kernel_rfl)
    (case tab => exact PySem.W.km_tabs_of YX _ (by decide))
    (case a_Try => k_is)
    (case l_Try => k_is)
    (case c_Try => k_is)
    (case k_Try => k_is)
    (case a_Field => k_is)
    (case l_Field => k_is)
    (case c_Field => k_is)
    (case k_Field => k_is)
    (case am_mCall => k_is)
    (case im_mCall => k_is)
    (case l_mCall => k_is)
    (case c_mCall => k_is)
    (case k_mCall => k_is)
    (case am_mThen => k_is)
    (case im_mThen => k_is)
    (case l_mThen => k_is)
    (case c_mThen => k_is)
    (case k_mThen => k_is)
    (case am_mSEq => k_is)
    (case im_mSEq => k_is)
    (case l_mSEq => k_is)
    (case c_mSEq => k_is)
    (case k_mSEq => k_is)
    (case am_mSPath => k_is)
    (case im_mSPath => k_is)
    (case l_mSPath => k_is)
    (case c_mSPath => k_is)
    (case k_mSPath => k_is)
    (case am_mOrder => k_is)
    (case im_mOrder => k_is)
    (case l_mOrder => k_is)
    (case c_mOrder => k_is)
    (case k_mOrder => k_is)
    (case bg_mSPath => k_is)
    (case bt_mSPath => k_is)
    (case bf_mSPath => k_is)
    (case z_len => k_is)
    (case a_ChkPlace => k_is)
    (case l_ChkPlace => k_is)
    (case c_ChkPlace => k_is)
    (case k_ChkPlace => k_is)
    (case a_AreNums => k_is)
    (case l_AreNums => k_is)
    (case c_AreNums => k_is)
    (case k_AreNums => k_is)
    (case z_isinstance => k_is)
    (case z_tuple => k_is)
    (case z_all => k_is)
    (case a_IsNum => k_is)
    (case l_IsNum => k_is)
    (case c_IsNum => k_is)
    (case k_IsNum => k_is)
    (case z_int => k_is)
    (case z_bool => k_is)
    (case a_Path => k_is)
    (case l_Path => k_is)
    (case c_Path => k_is)
    (case k_Path => k_is)
    (case a_ClassAt => k_is)
    (case l_ClassAt => k_is)
    (case c_ClassAt => k_is)
    (case k_ClassAt => k_is)
    (case z_zip => k_is)
    (case a_Dot => k_is)
    (case l_Dot => k_is)
    (case c_Dot => k_is)
    (case k_Dot => k_is)
    (case z_sum => k_is)
    (case a_Gix => k_is)
    (case l_Gix => k_is)
    (case c_Gix => k_is)
    (case k_Gix => k_is)
    (case a_Blocks => k_is)
    (case l_Blocks => k_is)
    (case c_Blocks => k_is)
    (case k_Blocks => k_is)
    (case kd_Blocks => k_is)
    (case z_range => k_is)
    (case z_max => k_is)
    (case a_Bag => k_is)
    (case l_Bag => k_is)
    (case c_Bag => k_is)
    (case k_Bag => k_is)
    (case z_list => k_is)
    (case a_Pull => k_is)
    (case l_Pull => k_is)
    (case c_Pull => k_is)
    (case k_Pull => k_is)
    (case a_Of => k_is)
    (case l_Of => k_is)
    (case c_Of => k_is)
    (case k_Of => k_is)
    (case a_Place => k_is)
    (case l_Place => k_is)
    (case c_Place => k_is)
    (case k_Place => k_is)
    (case a_Plus => k_is)
    (case l_Plus => k_is)
    (case c_Plus => k_is)
    (case k_Plus => k_is)
    (case a_LSame => k_is)
    (case l_LSame => k_is)
    (case c_LSame => k_is)
    (case k_LSame => k_is)
    (case z_dict => k_is)
    (case z_str => k_is)
    (case a_SmallScan => k_is)
    (case l_SmallScan => k_is)
    (case c_SmallScan => k_is)
    (case k_SmallScan => k_is)
    (case a_Divisors => k_is)
    (case l_Divisors => k_is)
    (case c_Divisors => k_is)
    (case k_Divisors => k_is)
    (case z_min => k_is)
    (case a_Mixed => k_is)
    (case l_Mixed => k_is)
    (case c_Mixed => k_is)
    (case k_Mixed => k_is)
    (case a_Tree => k_is)
    (case l_Tree => k_is)
    (case c_Tree => k_is)
    (case k_Tree => k_is)
    (case a_Count => k_is)
    (case l_Count => k_is)
    (case c_Count => k_is)
    (case k_Count => k_is)
    (case a_Parts => k_is)
    (case l_Parts => k_is)
    (case c_Parts => k_is)
    (case k_Parts => k_is)
    (case a_LCommon => k_is)
    (case l_LCommon => k_is)
    (case c_LCommon => k_is)
    (case k_LCommon => k_is)
    (case a_LLcm => k_is)
    (case l_LLcm => k_is)
    (case c_LLcm => k_is)
    (case k_LLcm => k_is)
    (case a_LGcd => k_is)
    (case l_LGcd => k_is)
    (case c_LGcd => k_is)
    (case k_LGcd => k_is)
    (case z_abs => k_is)
    (case a_Before => k_is)
    (case l_Before => k_is)
    (case c_Before => k_is)
    (case k_Before => k_is)
    (case a_LPath => k_is)
    (case l_LPath => k_is)
    (case c_LPath => k_is)
    (case k_LPath => k_is)
    (case a_LClass => k_is)
    (case l_LClass => k_is)
    (case c_LClass => k_is)
    (case k_LClass => k_is)
    (case a_LTied => k_is)
    (case l_LTied => k_is)
    (case c_LTied => k_is)
    (case k_LTied => k_is)
    (case a_Cut => k_is)
    (case l_Cut => k_is)
    (case c_Cut => k_is)
    (case k_Cut => k_is)
    (case a_ClassCount => k_is)
    (case l_ClassCount => k_is)
    (case c_ClassCount => k_is)
    (case k_ClassCount => k_is)
    (case a_ChkDiv => k_is)
    (case l_ChkDiv => k_is)
    (case c_ChkDiv => k_is)
    (case k_ChkDiv => k_is)
    (case n_MAX_CLASSES => k_is)
    (case a_AreSides => k_is)
    (case l_AreSides => k_is)
    (case c_AreSides => k_is)
    (case k_AreSides => k_is)
    (case n_MAX_DIRECTIONS => k_is)
    (case a_Product => k_is)
    (case l_Product => k_is)
    (case c_Product => k_is)
    (case k_Product => k_is)
    (case a_Nodes => k_is)
    (case l_Nodes => k_is)
    (case c_Nodes => k_is)
    (case k_Nodes => k_is)
    (case a_Inner => k_is)
    (case l_Inner => k_is)
    (case c_Inner => k_is)
    (case k_Inner => k_is)
    (case aP => k_is)
    (case lA => k_is)
    (case a_IsKey => k_is)
    (case l_IsKey => k_is)
    (case c_IsKey => k_is)
    (case k_IsKey => k_is)
    (case a_IsFork => k_is)
    (case l_IsFork => k_is)
    (case c_IsFork => k_is)
    (case k_IsFork => k_is)
    (case a_Groups => k_is)
    (case l_Groups => k_is)
    (case c_Groups => k_is)
    (case k_Groups => k_is)
    (case z_sorted => k_is)
    (case a_Asc => k_is)
    (case l_Asc => k_is)
    (case c_Asc => k_is)
    (case k_Asc => k_is)
    (case a_Common => k_is)
    (case l_Common => k_is)
    (case c_Common => k_is)
    (case k_Common => k_is)
    (case a_Lcm => k_is)
    (case l_Lcm => k_is)
    (case c_Lcm => k_is)
    (case k_Lcm => k_is)
    (case a_Gcd => k_is)
    (case l_Gcd => k_is)
    (case c_Gcd => k_is)
    (case k_Gcd => k_is)
    (case am_mRefTree => k_is)
    (case im_mRefTree => k_is)
    (case l_mRefTree => k_is)
    (case c_mRefTree => k_is)
    (case k_mRefTree => k_is)
    (case a_Ident => k_is)
    (case l_Ident => k_is)
    (case c_Ident => k_is)
    (case k_Ident => k_is)
    (case am_mChanged => k_is)
    (case im_mChanged => k_is)
    (case l_mChanged => k_is)
    (case c_mChanged => k_is)
    (case k_mChanged => k_is)
    (case a_Sources => k_is)
    (case l_Sources => k_is)
    (case c_Sources => k_is)
    (case k_Sources => k_is)
    (case a_Added => k_is)
    (case l_Added => k_is)
    (case c_Added => k_is)
    (case k_Added => k_is)
    (case a_Times => k_is)
    (case l_Times => k_is)
    (case c_Times => k_is)
    (case k_Times => k_is)
    (case a_PlaceAt => k_is)
    (case l_PlaceAt => k_is)
    (case c_PlaceAt => k_is)
    (case k_PlaceAt => k_is)
    (case a_MovedT => k_is)
    (case l_MovedT => k_is)
    (case c_MovedT => k_is)
    (case k_MovedT => k_is)
    (case a_RowTimes => k_is)
    (case l_RowTimes => k_is)
    (case c_RowTimes => k_is)
    (case k_RowTimes => k_is)
    (case a_Column => k_is)
    (case l_Column => k_is)
    (case c_Column => k_is)
    (case k_Column => k_is)
    (case a_MovedC => k_is)
    (case l_MovedC => k_is)
    (case c_MovedC => k_is)
    (case k_MovedC => k_is)
    (case z_enumerate => k_is)
    (case a_FloorT => k_is)
    (case l_FloorT => k_is)
    (case c_FloorT => k_is)
    (case k_FloorT => k_is)
    (case fi_mCall => k_is)
    (case am_mSTied => k_is)
    (case im_mSTied => k_is)
    (case l_mSTied => k_is)
    (case c_mSTied => k_is)
    (case k_mSTied => k_is)
    (case a_ChkBox => k_is)
    (case l_ChkBox => k_is)
    (case c_ChkBox => k_is)
    (case k_ChkBox => k_is)
    (case a_CellsP => k_is)
    (case l_CellsP => k_is)
    (case c_CellsP => k_is)
    (case k_CellsP => k_is)
    (case n_MAX_CELLS => k_is)
    (case ap_pPNodes => k_is)
    (case gp_pPNodes => k_is)
    (case tp_pPNodes => k_is)
    (case rp_pPNodes => k_is)
    (case l_pPNodes => k_is)
    (case c_pPNodes => k_is)
    (case k_pPNodes => k_is)
