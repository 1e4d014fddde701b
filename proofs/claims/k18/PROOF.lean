import PyProof.Rows.All
import Wide.All
import OpenK.AllK
import Wide.FinOn
import HandS.ForMost
import HandS.Wide
import HandS.Codes
import HandS.Conv
import HandS.More
import HandS.IsInst
import HandS.Zip
import HandS.TupAny
import HandS.Star
import HandS.ClsMeth
import HandS.Deep
import HandS.Flow
import HandS.Walk
import KE.DatumOrd
import HandS.ForExc
import HandS.ExcInit
import KE.KSuper
import KE.KExcSuper
import HandS.TryMany
import HandS.HotCalls
import HandS.ExcField
import HandS.Lambda
import HandS.EndTab
import HandS.Property
import HandS.Defaults
import KE.KSortedM
import HandS.Rev
import HandS.RevTup
import HandS.TupMul
import HandS.Keys
import HandS.TupSets
import HandS.SetKeys
import HandS.Style
import HandS.WordsExc
import HandS.EndOwn
import KE.KDflt
import HandS.GenList
import HandS.SortKw
import HandS.Iter
import HandS.Words
import KE.SortKeyHeap
import KE.KTupSum
import KE.GoesMore
import HandS.SlotsOwn
import KE.GoesZip
import PyProof.StrOps2
import HandS.OwnEq
import HandS.MakeKw
import KE.KStateDown
import KE.KNestM
import HandS.Head0
import HandS.Head1
import HandS.Head2
import HandS.HeadHook1
import HandS.HeadHook2
import HandS.HeadHook3
import HandS.HeadHook4
import HandS.HeadWalk
import PySem.Challenge.RW_lookscan_k18_tables_are_checked
set_option Elab.async false
set_option linter.all false
set_option maxRecDepth 100000
set_option maxHeartbeats 4000000
namespace Lk
open PySem L2
def topS (i : Nat) : Stmt := PySem.Challenge.pw_lookscan_k18_tables_are_checked.main.body.getD i (.Pass ⟨0, 0, 0, 0⟩)
abbrev sAdded : Stmt := topS 2
theorem scAdded : FnScope ["one", "other", "first", "second"] ["one", "other"] (defScope sAdded) := ⟨rfl, rfl, rfl, by decide +kernel, rfl, by decide +kernel, by decide +kernel⟩
abbrev sProduct : Stmt := topS 3
theorem scProduct : FnScope ["numbers", "total", "number"] ["numbers"] (defScope sProduct) := ⟨rfl, rfl, rfl, by decide +kernel, rfl, by decide +kernel, by decide +kernel⟩
abbrev sSE : Stmt := inClass (topS 5) 0
abbrev sIP : Stmt := inClass (topS 6) 0
abbrev sID : Stmt := inClass (topS 7) 0
abbrev sTM : Stmt := inClass (topS 8) 0
abbrev sIL : Stmt := inClass (topS 9) 0
abbrev sIW : Stmt := inClass (topS 10) 0
abbrev sIsNum : Stmt := topS 16
theorem scIsNum : FnScope ["value"] ["value"] (defScope sIsNum) := ⟨rfl, rfl, rfl, by decide +kernel, rfl, by decide +kernel, by decide +kernel⟩
abbrev sAreNums : Stmt := topS 17
theorem scAreNums : FnScope ["value", "count", "item"] ["value", "count"] (defScope sAreNums) := ⟨rfl, rfl, rfl, by decide +kernel, rfl, by decide +kernel, by decide +kernel⟩
abbrev sAreSides : Stmt := topS 18
theorem scAreSides : FnScope ["value", "least"] ["value", "least"] (defScope sAreSides) := ⟨rfl, rfl, rfl, by decide +kernel, rfl, by decide +kernel, by decide +kernel⟩
abbrev sChkPlace : Stmt := topS 19
theorem scChkPlace : FnScope ["place", "directions"] ["place", "directions"] (defScope sChkPlace) := ⟨rfl, rfl, rfl, by decide +kernel, rfl, by decide +kernel, by decide +kernel⟩
abbrev sChkDiv : Stmt := topS 20
theorem scChkDiv : FnScope ["divisors"] ["divisors"] (defScope sChkDiv) := ⟨rfl, rfl, rfl, by decide +kernel, rfl, by decide +kernel, by decide +kernel⟩
abbrev sPlaceAt : Stmt := topS 21
theorem scPlaceAt : FnScope ["sides", "number", "backwards", "side"] ["sides", "number"] (defScope sPlaceAt) := ⟨rfl, rfl, rfl, by decide +kernel, rfl, by decide +kernel, by decide +kernel⟩
abbrev sClassAt : Stmt := topS 22
theorem scClassAt : FnScope ["divisors", "place", "number", "divisor", "step"] ["divisors", "place"] (defScope sClassAt) := ⟨rfl, rfl, rfl, by decide +kernel, rfl, by decide +kernel, by decide +kernel⟩
abbrev sClassCount : Stmt := topS 23
theorem scClassCount : FnScope ["divisors"] ["divisors"] (defScope sClassCount) := ⟨rfl, rfl, rfl, by decide +kernel, rfl, by decide +kernel, by decide +kernel⟩
abbrev sIsLook : Stmt := topS 27
theorem scIsLook : FnScope ["value", "directions", "number"] ["value", "directions"] (defScope sIsLook) := ⟨rfl, rfl, rfl, by decide +kernel, rfl, by decide +kernel, by decide +kernel⟩
abbrev sChkLooks : Stmt := topS 28
theorem scChkLooks : FnScope ["looks", "directions", "seen", "index", "look"] ["looks", "directions"] (defScope sChkLooks) := ⟨rfl, rfl, rfl, by decide +kernel, rfl, by decide +kernel, by decide +kernel⟩
abbrev sWordAt : Stmt := topS 29
theorem scWordAt : FnScope ["scan", "looks", "place", "own", "look"] ["scan", "looks", "place"] (defScope sWordAt) := ⟨rfl, rfl, rfl, by decide +kernel, rfl, by decide +kernel, by decide +kernel⟩
abbrev sWordsBy : Stmt := topS 30
theorem scWordsBy : FnScope ["scan", "divisors", "looks", "number"] ["scan", "divisors", "looks"] (defScope sWordsBy) := ⟨rfl, rfl, rfl, by decide +kernel, rfl, by decide +kernel, by decide +kernel⟩
abbrev sIsWord : Stmt := topS 32
theorem scIsWord : FnScope ["value", "length", "letter"] ["value", "length"] (defScope sIsWord) := ⟨rfl, rfl, rfl, by decide +kernel, rfl, by decide +kernel, by decide +kernel⟩
abbrev sChkWords : Stmt := topS 33
theorem scChkWords : FnScope ["words", "classes", "length", "index", "word"] ["words", "classes", "length"] (defScope sChkWords) := ⟨rfl, rfl, rfl, by decide +kernel, rfl, by decide +kernel, by decide +kernel⟩
abbrev sTInit : Stmt := inClass (topS 34) 0
theorem scTInit : FnScope ["self", "divisors", "looks", "words", "classes"] ["self", "divisors", "looks", "words"] (defScope sTInit) := ⟨rfl, rfl, rfl, by decide +kernel, rfl, by decide +kernel, by decide +kernel⟩
abbrev sTOf : Stmt := inClass (topS 34) 1
theorem scTOf : FnScope ["cls", "scan", "looks", "checked"] ["cls", "scan", "looks"] (defScope sTOf) := ⟨rfl, rfl, rfl, by decide +kernel, rfl, by decide +kernel, by decide +kernel⟩
abbrev sTPDiv : Stmt := inClass (topS 34) 2
theorem scTPDiv : FnScope ["self"] ["self"] (defScope sTPDiv) := ⟨rfl, rfl, rfl, by decide +kernel, rfl, by decide +kernel, by decide +kernel⟩
abbrev sTLooks : Stmt := inClass (topS 34) 3
theorem scTLooks : FnScope ["self"] ["self"] (defScope sTLooks) := ⟨rfl, rfl, rfl, by decide +kernel, rfl, by decide +kernel, by decide +kernel⟩
abbrev sTWords : Stmt := inClass (topS 34) 4
theorem scTWords : FnScope ["self"] ["self"] (defScope sTWords) := ⟨rfl, rfl, rfl, by decide +kernel, rfl, by decide +kernel, by decide +kernel⟩
abbrev sTEq : Stmt := inClass (topS 34) 5
theorem scTEq : FnScope ["self", "other"] ["self", "other"] (defScope sTEq) := ⟨rfl, rfl, rfl, by decide +kernel, rfl, by decide +kernel, by decide +kernel⟩
abbrev sTLen : Stmt := inClass (topS 34) 6
theorem scTLen : FnScope ["self"] ["self"] (defScope sTLen) := ⟨rfl, rfl, rfl, by decide +kernel, rfl, by decide +kernel, by decide +kernel⟩
abbrev sTRepr : Stmt := inClass (topS 34) 7
theorem scTRepr : FnScope ["self"] ["self"] (defScope sTRepr) := ⟨rfl, rfl, rfl, by decide +kernel, rfl, by decide +kernel, by decide +kernel⟩
abbrev sTSees : Stmt := inClass (topS 34) 8
theorem scTSees : FnScope ["self", "place", "look", "word"] ["self", "place", "look"] (defScope sTSees) := ⟨rfl, rfl, rfl, by decide +kernel, rfl, by decide +kernel, by decide +kernel⟩
abbrev sBag : Stmt := topS 36
theorem scBag : FnScope ["_law_script", "_law_salt", "_law_cell"] ["_law_script"] (defScope sBag) := ⟨rfl, rfl, rfl, by decide +kernel, rfl, by decide +kernel, by decide +kernel⟩
abbrev sPull : Stmt := topS 37
theorem scPull : FnScope ["_law_bag_here", "_law_amount", "_law_cell", "_law_got", "_law_seed"] ["_law_bag_here", "_law_amount"] (defScope sPull) := ⟨rfl, rfl, rfl, by decide +kernel, rfl, by decide +kernel, by decide +kernel⟩
abbrev sOf : Stmt := topS 38
theorem scOf : FnScope ["_law_bag_here", "_law_things"] ["_law_bag_here", "_law_things"] (defScope sOf) := ⟨rfl, rfl, rfl, by decide +kernel, rfl, by decide +kernel, by decide +kernel⟩
abbrev sMixed : Stmt := topS 39
theorem scMixed : FnScope ["_law_bag_here", "_law_things", "_law_found", "_law_thing"] ["_law_bag_here", "_law_things"] (defScope sMixed) := ⟨rfl, rfl, rfl, by decide +kernel, rfl, by decide +kernel, by decide +kernel⟩
abbrev sLSame : Stmt := topS 40
theorem scLSame : FnScope ["_law_found", "_law_due", "_law_one", "_law_other", "_law_key"] ["_law_found", "_law_due"] (defScope sLSame) := ⟨rfl, rfl, rfl, by decide +kernel, rfl, by decide +kernel, by decide +kernel⟩
abbrev sField : Stmt := topS 41
theorem scField : FnScope ["_law_e"] ["_law_e"] (defScope sField) := ⟨rfl, rfl, rfl, by decide +kernel, rfl, by decide +kernel, by decide +kernel⟩
abbrev sTry : Stmt := topS 42
theorem scTry : FnScope ["_law_ask", "_law_e"] ["_law_ask"] (defScope sTry) := ⟨rfl, rfl, rfl, by decide +kernel, rfl, by decide +kernel, by decide +kernel⟩
abbrev sOdd : Stmt := topS 43
theorem scOdd : FnScope ["_law_bag_here"] ["_law_bag_here"] (defScope sOdd) := ⟨rfl, rfl, rfl, by decide +kernel, rfl, by decide +kernel, by decide +kernel⟩
abbrev sCount : Stmt := topS 44
theorem scCount : FnScope ["_law_divisors_z", "_law_found", "_law_one"] ["_law_divisors_z"] (defScope sCount) := ⟨rfl, rfl, rfl, by decide +kernel, rfl, by decide +kernel, by decide +kernel⟩
abbrev sDivisors : Stmt := topS 45
theorem scDivisors : FnScope ["_law_bag_here", "_law_directions", "_law_found", "_law_left", "_law_at", "_law_one"] ["_law_bag_here", "_law_directions"] (defScope sDivisors) := ⟨rfl, rfl, rfl, by decide +kernel, rfl, by decide +kernel, by decide +kernel⟩
abbrev sLLooks : Stmt := topS 46
theorem scLLooks : FnScope ["_law_bag_here", "_law_directions", "_law_found", "_law_size", "_law_k", "_law_look", "_law_at"] ["_law_bag_here", "_law_directions"] (defScope sLLooks) := ⟨rfl, rfl, rfl, by decide +kernel, rfl, by decide +kernel, by decide +kernel⟩
abbrev sIsPlace : Stmt := topS 47
theorem scIsPlace : FnScope ["_law_value", "_law_directions", "_law_one"] ["_law_value", "_law_directions"] (defScope sIsPlace) := ⟨rfl, rfl, rfl, by decide +kernel, rfl, by decide +kernel, by decide +kernel⟩
abbrev sDivErr : Stmt := topS 48
theorem scDivErr : FnScope ["_law_value"] ["_law_value"] (defScope sDivErr) := ⟨rfl, rfl, rfl, by decide +kernel, rfl, by decide +kernel, by decide +kernel⟩
abbrev sLWords : Stmt := topS 49
theorem scLWords : FnScope ["_law_bag_here", "_law_many", "_law_looks_z", "_law_rows", "_law_k", "_law_look"] ["_law_bag_here", "_law_many", "_law_looks_z"] (defScope sLWords) := ⟨rfl, rfl, rfl, by decide +kernel, rfl, by decide +kernel, by decide +kernel⟩
abbrev sBentWords : Stmt := topS 50
theorem scBentWords : FnScope ["_law_bag_here", "_law_words_z", "_law_many", "_law_bent", "_law_k", "_law_pick", "_law_at"] ["_law_bag_here", "_law_words_z", "_law_many"] (defScope sBentWords) := ⟨rfl, rfl, rfl, by decide +kernel, rfl, by decide +kernel, by decide +kernel⟩
abbrev sOtherErr : Stmt := topS 51
theorem scOtherErr : FnScope ["_law_bag_here", "_law_divisors_z", "_law_looks_z", "_law_odd_here", "_law_due"] ["_law_bag_here", "_law_divisors_z", "_law_looks_z"] (defScope sOtherErr) := ⟨rfl, rfl, rfl, by decide +kernel, rfl, by decide +kernel, by decide +kernel⟩
abbrev sLaw : Stmt := topS 52
theorem scLaw : FnScope ["_law_script", "_law_bag_here", "_law_turn", "_law_directions", "_law_divisors_z", "_law_looks_z", "_law_many", "_law_words_z", "_law_bent", "_law_given", "_law_wrong", "_law_due", "_law_table", "_law_other", "_law_otherwise", "_law_at", "_law_sign"] ["_law_script"] (defScope sLaw) := ⟨rfl, rfl, rfl, by decide +kernel, rfl, by decide +kernel, by decide +kernel⟩
end Lk

/-! sets of tuples of ints, filled by add and asked by in -/
namespace TsX
open PySem PySem.Spec PyProof.Rows L2
abbrev sHash (P : Program) (w : World) (k : List Int) : Int := thash P w k
abbrev pb (t : SetTable) (h : Int) : SetTable.Probe := runAt t.mask (SetTable.bits h % (t.mask + 1)) (SetTable.bits h)
abbrev pj (t : SetTable) (h : Int) (c : Nat) : Nat := way t.mask h c
theorem pb_dummy (m : Nat) : ∀ (n : Nat) (p : SetTable.Probe), p.dummy = none → (nth m p n).dummy = none
  | 0, _, h => h
  | n + 1, p, h => pb_dummy m n (adv m p) (by unfold adv; split <;> exact h)
section
variable {P : Program} {w : World} {A : Around} {E : Value → Shared → Prop} {s : Shared} {a : Addr} {L : List (Addr × List Int)} {es : Array (Int × Value)} {ep : Nat} {t : SetTable}
/-- asked whether k is in: the walk along the way of its hash -/
theorem seek {x : Addr} {k : List Int} (R : SetTR P w s.heap a L es ep t) (ix : IsT P w s.heap k x) (un : A.units < cLine) {K : Nat} (kf : K < 10 * SetTable.turns t.mask)
    (free : pj t (sHash P w k) K ∉ t.place.toList) (held : ∀ c, c < K → pj t (sHash P w k) c ∈ t.place.toList) {Q : SetFound → Shared → Prop}
    (yes : k ∈ L.map (·.2) → ∀ i, Q (.there (some i)) s) (no : k ∉ L.map (·.2) → Q (.free (pj t (sHash P w k) K) false) s) :
    ∀ (f c : Nat) (sd : Option SetTable.Probe), sd.getD (t.probeStart (sHash P w k)) = nth t.mask (pb t (sHash P w k)) c → c ≤ K → K - c < f →
      (∀ (i : Nat) p, L[i]? = some p → p.2 = k → ∃ c', c ≤ c' ∧ c' < K ∧ t.place.toList[i]? = some (pj t (sHash P w k) c')) →
      wpAny (model P w) A (setSearchFrom a (.ref x) (sHash P w k) false f sd) Q E s
  | 0, _, _, _, _, z, _ => absurd z (Nat.not_lt_zero _)
  | f + 1, c, sd, e0, cK, lf, left => by
    obtain ⟨o, ob, ex, dat⟩ := R.ob
    have rj : ∀ q, (nth t.mask (nth t.mask (pb t (sHash P w k)) c) q).j = pj t (sHash P w k) (c + q) := fun q => congrArg SetTable.Probe.j (nth_add t.mask c _ q).symm
    have hAt : ∀ (i : Nat) p, L[i]? = some p → (es[i]?.map (·.1)).getD 0 = sHash P w p.2 := fun i p e => by
      rw [R.entry e]
      rfl
    rw [setSearchFrom_succ]
    refine wpAny_bind (wpAny_setState_of ob dat R.fits ?_)
    dsimp only
    refine wp_if_neg R.gw ?_
    try refine wpAny_bind (wpAny_pure ?_)
    rcases go_spec t R.tab.ris R.tab.dm (fun i => (es[i]?.map (·.1)).getD 0) (sHash P w k) (10 * SetTable.turns t.mask) (K - c) _ (pb_dummy t.mask c _ rfl) (by omega)
      (fun q lq => by rw [rj q]; exact held (c + q) (by omega)) (by rw [rj (K - c), Nat.add_sub_cancel' cK]; exact free) with ⟨q, i, lq, ei, _, not, pr⟩ | ⟨not, pr⟩
    · have pr2 : t.probe (fun i => (es[i]?.map (·.1)).getD 0) (sHash P w k) (sd.getD (t.probeStart (sHash P w k))) = some (.candidate (pj t (sHash P w k) (c + q)) i (nth t.mask (pb t (sHash P w k)) (c + (q + 1)))) := by
        rw [e0, ← rj q, nth_add t.mask c _ (q + 1)]
        exact pr
      rw [pr2]
      dsimp only
      rw [rj q] at ei
      have li : i < L.length := by
        have u1 := (List.getElem?_eq_some_iff.mp ei).1
        have u2 := R.tab.sz
        rw [List.length_map] at u2
        rw [Array.length_toList] at u1
        omega
      obtain ⟨p, ep_⟩ : ∃ p, L[i]? = some p := ⟨L[i], List.getElem?_eq_getElem li⟩
      have pm := List.mem_of_getElem? ep_
      have cand : wpAny (model P w) A (searchRest a (.ref x) (sHash P w k) false f es t (pj t (sHash P w k) (c + q)) i (nth t.mask (pb t (sHash P w k)) (c + (q + 1)))) Q E s := by
        have live := slot_live R.tab.ris ei
        unfold searchRest
        rw [R.entry ep_]
        dsimp only
        refine wpAny_bind (wpAny_holding (wpAny_eqBool_tuple un (R.tup p pm) ix ?_))
        refine wpAny_bind (wpAny_setState_of ob dat R.fits ?_)
        dsimp only
        refine wp_if_neg (by simp) ?_
        try refine wpAny_bind (wpAny_pure ?_)
        rw [sameMem]
        dsimp only
        simp only [if_true, live, R.entry ep_]
        refine wpAny_bind (wpAny_isSame_ref_self (wpAny_bind (wpAny_pure ?_)))
        simp only [if_true]
        by_cases ek : p.2 = k
        · refine wp_if_pos (by simp [ek]) ?_
          exact wpAny_pure (yes (List.mem_map.mpr ⟨p, pm, ek⟩) i)
        · refine wp_if_neg (by simp [ek]) ?_
          refine seek R ix un kf free held yes no f (c + (q + 1)) _ rfl (by omega) (by omega) fun i1 p1 e1 k1 => ?_
          obtain ⟨c1, l1, l2, l3⟩ := left i1 p1 e1 k1
          refine ⟨c1, ?_, l2, l3⟩
          by_cases b1 : c1 < c + q
          · exact absurd ((hAt i1 p1 e1).trans (congrArg (sHash P w) k1)) (not (c1 - c) i1 (by omega) (by rw [rj (c1 - c), Nat.add_sub_cancel' l1]; exact l3))
          · by_cases b2 : c1 = c + q
            · rw [b2] at l3
              have two := (slot_live R.tab.ris l3).symm.trans live
              injection two with two
              rw [two, ep_] at e1
              exact absurd ((congrArg Prod.snd (Option.some.inj e1)).trans k1) ek
            · omega
      by_cases le : t.led = true
      · refine wp_if_neg (by simp [le]) ?_
        try refine wpAny_bind (wpAny_pure ?_)
        exact cand
      · refine wp_if_pos (by simp [le]) ?_
        refine wpAny_bind (seen_tup ix (fun y ym => ?_) ?_)
        · obtain ⟨e, em, rfl⟩ := List.mem_map.mp ym
          have e2 : e ∈ es.toList := by
            have := (Array.mem_filter.mp (Array.mem_toList_iff.mp em)).1
            exact Array.mem_toList_iff.mpr this
          rw [R.rows] at e2
          obtain ⟨p2, m2, rfl⟩ := List.mem_map.mp e2
          exact ⟨p2.2, p2.1, rfl, R.tup p2 m2⟩
        · refine wp_if_neg (by decide) ?_
          try refine wpAny_bind (wpAny_pure ?_)
          exact cand
    · have pr2 : t.probe (fun i => (es[i]?.map (·.1)).getD 0) (sHash P w k) (sd.getD (t.probeStart (sHash P w k))) = some (.empty (pj t (sHash P w k) K) none) := by
        rw [e0, show pj t (sHash P w k) K = (nth t.mask (nth t.mask (pb t (sHash P w k)) c) (K - c)).j by rw [rj (K - c), Nat.add_sub_cancel' cK]]
        exact pr
      rw [pr2]
      dsimp only
      refine wpAny_pure (no fun mem => ?_)
      obtain ⟨p1, m1, k1⟩ := List.mem_map.mp mem
      obtain ⟨i1, e1⟩ := List.getElem?_of_mem m1
      obtain ⟨c1, l1, l2, l3⟩ := left i1 p1 e1 k1
      exact absurd ((hAt i1 p1 e1).trans (congrArg (sHash P w) k1)) (not (c1 - c) i1 (by omega) (by rw [rj (c1 - c), Nat.add_sub_cancel' l1]; exact l3))
/-- setFind of a tuple -/
theorem find_tup {x : Addr} {k : List Int} (R : SetTR P w s.heap a L es ep t) (ix : IsT P w s.heap k x) (un : A.units < cLine) {Q : Option Nat → Shared → Prop}
    (q : ∀ r : Option Nat, r.isSome = decide (k ∈ L.map (·.2)) → Q r s) : wpAny (model P w) A (setFind a (.ref x) (sHash P w k)) Q E s := by
  obtain ⟨o, ob, ex, dat⟩ := R.ob
  have room := R.room
  obtain ⟨K, kf, free, held⟩ := R.tab.first (by rw [List.length_map]; omega) (sHash P w k)
  have big : K < 100000 := by
    have : 10 * SetTable.turns t.mask ≤ 1420 := by
      rcases R.tab.mok with e | e | e <;> rw [e] <;> decide
    omega
  unfold setFind
  rw [show (100000 : Nat) = 99999 + 1 from rfl]
  unfold setFindIn
  refine wpAny_bind (wpAny_setState_of ob dat R.fits ?_)
  dsimp only
  refine wp_if_neg (by simp [byScan, Value.scannable]) ?_
  try refine wpAny_bind (wpAny_pure ?_)
  refine wpAny_bind ?_
  unfold setSearch
  refine seek R ix un kf free held (fun m i => ?_) (fun m => ?_) 100000 0 none rfl (Nat.zero_le _) (by omega) fun i p e ek => ?_
  · exact wpAny_pure (q _ (by simpa using m))
  · exact wpAny_pure (q _ (by simpa using m))
  · have hi : (L.map fun p => thash P w p.2)[i]? = some (sHash P w k) := by rw [List.getElem?_map, e, ← ek]; rfl
    have li : i < t.place.toList.length := by
      have u1 := (List.getElem?_eq_some_iff.mp e).1
      have u2 := R.tab.sz
      rw [List.length_map] at u2
      rw [Array.length_toList]
      omega
    obtain ⟨c, lc, e1⟩ := R.tab.before free hi (List.getElem?_eq_getElem li)
    exact ⟨c, Nat.zero_le _, lc, (List.getElem?_eq_getElem li).trans (congrArg some e1.symm)⟩
end
end TsX

namespace TsX
open PySem PySem.Spec PyProof.Rows L2
section
variable {P : Program} {w : World} {A : Around} {E : Value → Shared → Prop} {s : Shared} {a : Addr} {L : List (Addr × List Int)} {es : Array (Int × Value)} {ep : Nat} {t : SetTable}
theorem ty_set (R : SetTR P w s.heap a L es ep t) : s.TypeIs (.ref a) "set" := by
  obtain ⟨o, ob, ex, _⟩ := R.ob
  exact ⟨o, ob, ex.1⟩
/-- a.add(t) -/
theorem add_call {x : Addr} {k : List Int} (R : SetTR P w s.heap a L es ep t) (ix : IsT P w s.heap k x) (un : A.units + 1 < cLine) (few : L.length + 1 < 64) {Q : Value → Shared → Prop}
    (q : ∀ (h' : Heap) (tk : Nat) L' es' ep' t', Heap.SameBut a s.heap h' → SetTR P w h' a L' es' ep' t' → (k ∈ L.map (·.2) → L' = L) → (k ∉ L.map (·.2) → L'.Perm ((x, k) :: L)) → Q .none { s with heap := h', toks := tk }) :
    wpAny (model P w) A (call (.builtin "set.add") [.ref a, .ref x]) Q E s := by
  refine wpAny_call_entry F.slot_set_add (ty_set R) F.entry_set_add ?_ (F.args_set_add_2 _ _)
  unfold Builtin.«set.add» Builtin.Frozenset.oneOther
  simp only [List.isEmpty_nil, bind_assoc]
  unfold Builtin.Frozenset.addrOf setAdd
  refine wpAny_bind (wpAny_pure ?_); try dsimp only
  refine wpAny_bind (wpAny_pure ?_); try dsimp only
  refine wpAny_bind (wpAny_holding (wpAny_bind (wpAny_pyHash_tuple ?_ (s := s) ix ?_)))
  · show A.units + 1 < cLine
    exact un
  · refine add_at (s := { s with toks := s.toks + (k.length + 1) }) R ix ?_ few fun b h' L' es' ep' t' sb R' c1 c2 => ?_
    · show A.units + 1 < cLine
      exact un
    · exact wpAny_pure ⟨_, rfl, q h' _ L' es' ep' t' sb R' c1 c2⟩
/-- t in a -/
theorem in_call {x : Addr} {k : List Int} (R : SetTR P w s.heap a L es ep t) (ix : IsT P w s.heap k x) (un : A.units + 1 < cLine) {Q : Value → Shared → Prop}
    (q : ∀ tk, Q (.bool (decide (k ∈ L.map (·.2)))) { s with toks := tk }) : wpAny (model P w) A (compareOp .In (.ref x) (.ref a)) Q E s := by
  show wpAny _ _ (do return .bool (← contains (.ref a) (.ref x))) Q E s
  refine wpAny_bind ?_
  unfold contains
  try with_reducible refine wpAny_holding ?_
  refine wpAny_bind (wpAny_specialOf (ty_set R) F.slot_set_contains.lookup ?_)
  show wpAny _ _ (if (some (Value.builtin "set.__contains__") == some Value.none) = true then _ else _) _ E s
  rw [if_neg (by rw [beq_builtin_none]; exact Bool.false_ne_true)]
  refine wpAny_bind (wpAny_callSpecialUnlessNone?_slot (name := Str.ofString "__contains__") (ty_set R) F.slot_set_contains (wpAny_call_entry F.slot_set_contains (ty_set R) entry_set_contains ?_ (F.args_set_contains_2 _ _)))
  unfold Builtin.«frozenset.__contains__» Builtin.Frozenset.oneOther
  simp only [List.isEmpty_nil, bind_assoc]
  unfold Builtin.Frozenset.addrOf Builtin.Frozenset.withSetAsKey setContains
  refine wpAny_bind (wpAny_pure ?_); try dsimp only
  refine wpAny_bind (wpAny_pure ?_); try dsimp only
  refine wpAny_bind (wpAny_tryCatch (wpAny_holding (wpAny_bind (wpAny_pyHash_tuple ?_ (s := s) ix ?_))))
  · show A.units + 1 < cLine
    exact un
  · refine wpAny_bind (find_tup (s := { s with toks := s.toks + (k.length + 1) }) R ix ?_ fun r hr => ?_)
    · show A.units + 1 < cLine
      exact un
    · refine wpAny_pure ?_
      show wpAny _ _ (ret (Value.bool r.isSome)) _ _ _
      rw [hr]
      exact wpAny_pure ⟨_, rfl, wpAny_truthy_bool (wpAny_pure (q _))⟩
end
end TsX

namespace TsX
open PySem PySem.Spec PyProof.Rows L2
section
variable {X : Cx}
theorem setT_at {pins : List (Addr × Obj)} {σ : L2.St} {H : Hp} {s : Shared} {a : Addr} {L : List (Addr × List Int)} (I : Inv X pins σ H s) (ha : H a = some (SetTO X.prog X.w a L)) (hL : ∀ p ∈ L, SqT X.K H p.1 (p.2.map V.int)) : ∃ es ep t, SetTR X.prog X.w s.heap a L es ep t :=
  SetT0.full ((I.hok a _ ha).1) fun p hp => I.isT (hL p hp)
/-- set() -/
def rTNew (P : Program) (w : World) : List V → Hp → VK → Prop := fun xs H Q => xs = [] ∧ ∀ p, H p = none → Q (.ref p) (upd H p (SetTO P w p []))
theorem cr_tnew : CallR X (.type "set") (rTNew X.prog X.w) := by
  intro pins s σ H xs us Q I r h
  obtain ⟨rfl, q⟩ := h
  cases r
  refine setR_new fun _ => ?_
  have R := setTR_fresh (P := X.prog) (w := X.w) (h := s.heap.push { cls := .type "set", dict := none, data := .set #[] 0 (.fresh 0 0 (!X.w.params.followText "set-order")) }) (a := s.heap.objs.size) (Heap.get?_push_size _ rfl)
  exact ⟨.ref _, upd H s.heap.objs.size (SetTO X.prog X.w s.heap.objs.size []), I.laid (t' := s.toks) (fun b u e => Heap.get?_push_of_some _ e) (Nat.le_refl _) (setTO_new R.t0), rfl, q _ (I.hok.fresh (Nat.le_refl _))⟩
/-- a.add(t) -/
def rTAdd (K : PySem.W.Frag) (P : Program) (w : World) : V → List V → Hp → VK → Prop := fun x xs H Q => ∃ (a t : Addr) (k : List Int) (L : List (Addr × List Int)), x = V.ref a ∧ xs = [V.ref t] ∧ SqT K H t (k.map V.int) ∧ H a = some (SetTO P w a L) ∧ (∀ p ∈ L, SqT K H p.1 (p.2.map V.int)) ∧ L.length + 1 < 64 ∧
  ∀ L', (k ∈ L.map (·.2) → L' = L) → (k ∉ L.map (·.2) → L'.Perm ((t, k) :: L)) → Q .non (upd H a (SetTO P w a L'))
theorem mt_tadd (hu : X.A.units + 64 < cLine) : MtR X "set.add" (rTAdd X.K X.prog X.w) := by
  intro pins s σ H x xs v us Q I rx rxs h
  obtain ⟨a, t, k, L, rfl, rfl, ht, ha, hL, few, q⟩ := h
  cases rx
  rw [Vals.ref1 rxs]
  obtain ⟨es, ep, tb, R⟩ := setT_at I ha hL
  refine add_call R (I.isT ht) (by omega) few fun h' tk L' es' ep' t' sb R' c1 c2 => ?_
  have he : ∃ u, h'.get? a = some u := by
    obtain ⟨o, ho, _⟩ := R'.ob
    exact ⟨o, ho⟩
  exact ⟨.non, upd H a (SetTO X.prog X.w a L'), I.write (e := a) (t' := tk) (by rw [ha]; trivial) (.inl rfl) (fun b u hb hu => (sb.2 b hb).trans hu) he (setTO_new R'.t0), rfl, q L' c1 c2⟩
def tTAdd (K : PySem.W.Frag) (P : Program) (w : World) (to : TE) (t : TA) : TE := fun σ H Q => to σ H fun x H1 => (∃ a L, x = V.ref a ∧ H1 a = some (SetTO P w a L)) ∧ t σ H1 fun xs H2 => rTAdd K P w x xs H2 Q
variable {o e : Expr} {es : List Expr} {to : TE} {t : TA} {apos cpos : Pos}
theorem pe_tadd (hu : X.A.units + 64 < cLine) (ho : PE X o to) (ha : PA X (e :: es) t)
    (base : attributeBase o "add" X.env (eval o X.env) = eval o X.env := by rfl)
    (few : ((backTo cpos (starEach (e :: es) X.env)).all (fun x => !x.1) && (backToKw cpos (keywordEach [] X.env)).all (fun x => x.1.isSome) && decide ((e :: es).length + ([] : List Keyword).length + (if ([] : List Keyword).isEmpty then 0 else 1) < 30)) = true := by rfl)
    (line : (apos.endLine == cpos.line) = true := by rfl) (st : starEach (e :: es) X.env = (false, eval e X.env) :: starEach es X.env := by rfl) (pl : (backTo cpos (starEach es X.env)).any (·.1) = false := by rfl) :
    PE X (.Call (.Attribute o "add" apos) (e :: es) [] cpos) (tTAdd X.K X.prog X.w to t) := by
  refine ⟨fun pins s σ H Q I h => wpAny_Call_method_late base few line rfl (thn (ho.run pins s σ H _ I h) fun v s1 ⟨x, H1, I1, r1, ty, q1⟩ => ?_)⟩
  obtain ⟨a, L, rfl, at_⟩ := ty
  cases r1
  obtain ⟨es', ep', tb', ob, _⟩ := (SetT0.ex (I1.hok a _ at_).1)
  obtain ⟨o', ho', ex', _⟩ := ob
  refine ⟨"set", "set.add", F.plainAttrs_set, F.slot_set_add, F.type_set_add, ⟨o', ho', ex'.1⟩, (fun b e => by cases e; exact ⟨o', ho', ex'.2.1⟩), ?_⟩
  have run := ha.run cpos pins s1 σ H1 _ I1 q1
  rw [st] at run ⊢
  refine Calls.callWith_builtin (by show (false || (backTo cpos (starEach es X.env)).any (·.1)) = false; rw [pl]; rfl) (Calls.evalArgs_plain (thn run fun us s2 ⟨vs, H2, I2, r2, q2⟩ => ?_))
  exact mt_tadd hu pins s2 σ H2 (.ref a) vs (.ref a) us Q I2 rfl r2 q2
/-- t in a -/
def rTIn (K : PySem.W.Frag) (P : Program) (w : World) : V → V → Hp → VK → Prop := fun x y H Q => ∃ (t a : Addr) (k : List Int) (L : List (Addr × List Int)), x = V.ref t ∧ y = V.ref a ∧ SqT K H t (k.map V.int) ∧ H a = some (SetTO P w a L) ∧ (∀ p ∈ L, SqT K H p.1 (p.2.map V.int)) ∧ Q (.bl (decide (k ∈ L.map (·.2)))) H
theorem or_tin (hu : X.A.units + 64 < cLine) : OpR X (compareOp .In) (rTIn X.K X.prog X.w) := by
  intro pins s σ H x y v u Q I rx ry h
  obtain ⟨t, a, k, L, rfl, rfl, ht, ha, hL, q⟩ := h
  cases rx
  cases ry
  obtain ⟨es, ep, tb, R⟩ := setT_at I ha hL
  exact in_call R (I.isT ht) (by omega) fun tk => ⟨.bl _, H, I.tok _, rfl, q⟩
end
end TsX

namespace Lk
open PySem L2
/-! ### the bag: the script's ints, a place in them, what is left of a great one, a seed -/
structure BagS (H : Hp) (b l : Addr) (ns : List Int) (i big seed : Int) : Prop where
  ob : H b = some (.lst [.ref l, .int i, .int big, .int seed])
  ls : H l = some (.lst (ns.map V.int))
  i0 : 0 ≤ i
  i1 : i ≤ ns.length
  g0 : 0 ≤ big
  s0 : 0 ≤ seed
  s1 : seed < 2147483647
def BagAt (H : Hp) (b l : Addr) : Prop := ∃ ns i big seed, BagS H b l ns i big seed
/-- all that was tracked but b is as it was -/
def But (b : Addr) (H H' : Hp) : Prop := ∀ a o, a ≠ b → H a = some o → H' a = some o
theorem But.refl (b : Addr) (H : Hp) : But b H H := fun _ _ _ h => h
theorem But.trans {b : Addr} {H H1 H2 : Hp} (x : But b H H1) (y : But b H1 H2) : But b H H2 := fun a o n h => y a o n (x a o n h)
theorem But.same {b : Addr} {H H1 : Hp} (x : Same H H1) : But b H H1 := fun a o _ h => x a o h
theorem but_upd {b : Addr} {H : Hp} {o : HO} : But b H (upd H b o) := fun a u n h => by
  rw [upd_ne n]
  exact h
theorem BagS.ne {H : Hp} {b l : Addr} {ns : List Int} {i big seed : Int} (B : BagS H b l ns i big seed) : l ≠ b := by
  refine ne_of B.ls B.ob fun e => ?_
  have e2 := HO.lst.inj e
  cases ns with
  | nil => cases e2
  | cons z r =>
    rw [List.map_cons] at e2
    injection e2 with e3 _
    cases e3
theorem BagS.put {H : Hp} {b l : Addr} {ns : List Int} {i big seed i' big' seed' : Int} (B : BagS H b l ns i big seed) (a0 : 0 ≤ i') (a1 : i' ≤ ns.length) (a2 : 0 ≤ big') (a3 : 0 ≤ seed') (a4 : seed' < 2147483647) :
    BagS (upd H b (.lst [.ref l, .int i', .int big', .int seed'])) b l ns i' big' seed' :=
  ⟨upd_same, by rw [upd_ne B.ne]; exact B.ls, a0, a1, a2, a3, a4⟩
theorem BagAt.upd {H : Hp} {b l D : Addr} {o : HO} (B : BagAt H b l) (h1 : D ≠ b) (h2 : D ≠ l) : BagAt (upd H D o) b l := by
  obtain ⟨ns, i, big, seed, B⟩ := B
  exact ⟨ns, i, big, seed, by rw [upd_ne h1.symm]; exact B.ob, by rw [upd_ne h2.symm]; exact B.ls, B.i0, B.i1, B.g0, B.s0, B.s1⟩
theorem BagAt.nb {H : Hp} {b l D : Addr} (B : BagAt H b l) (h : H D = none) : D ≠ b := by
  obtain ⟨ns, i, big, seed, B⟩ := B
  exact (ne_of_none B.ob h).symm
theorem BagAt.nl {H : Hp} {b l D : Addr} (B : BagAt H b l) (h : H D = none) : D ≠ l := by
  obtain ⟨ns, i, big, seed, B⟩ := B
  exact (ne_of_none B.ls h).symm
theorem BagAt.new {H : Hp} {b l D : Addr} {o : HO} (B : BagAt H b l) (h : H D = none) : BagAt (L2.upd H D o) b l := B.upd (B.nb h) (B.nl h)
theorem BagAt.lst {H : Hp} {b l : Addr} (B : BagAt H b l) : ∃ xs, H b = some (.lst xs) := by
  obtain ⟨ns, i, big, seed, B⟩ := B
  exact ⟨_, B.ob⟩
def spPull : Sp := fun vs H Q _ => ∃ (b l : Addr) (m : Int), vs = [.ref b, .int m] ∧ BagAt H b l ∧ 0 < m ∧ m.natAbs < 2 ^ 200 ∧
  ∀ (g : Int) (H' : Hp), 0 ≤ g → g < m → BagAt H' b l → But b H H' → Q (.int g) H'
theorem new_but {b D : Addr} {H : Hp} {o : HO} (h : H D = none) : But b H (upd H D o) := fun a u _ e => by
  rw [upd_ne (ne_of_none e h)]
  exact e
theorem But.free {b l D : Addr} {H H' : Hp} (B : BagAt H b l) (x : But b H H') (B' : BagAt H' b l) (h : H' D = none) : H D = none := by
  cases e : H D with
  | none => rfl
  | some o => exact (x D o (B'.nb h) e).symm.trans h
section
variable {P : Program} {w : World} {K : PySem.W.Frag} {mg : Str → Option Value} {base : Heap}
theorem ix4 {x y z u : V} : ∀ {j : Nat} {v : V}, ([x, y, z, u] : List V)[j]? = some v → atI [x, y, z, u] (j : Int) = some v := fun h => atI_nat h
theorem ok_pull {f : Addr} {fd : FuncData} {k : Nat} (F : Fun K "_law_pull" "_law_pull" sPull f fd) (ml : mg "len" = none) (mi : mg "int" = none) : FnOk P w K mg base CX0 (k + 1) f fd ["_law_bag_here", "_law_amount"] spPull := by
  refine F.ok scPull (fun vs H Q E h => ?_) (fun cdv A outer s H vs Q E hr h => ?_)
  · obtain ⟨b, l, m, rfl, _⟩ := h
    rfl
  · obtain ⟨b, l, m, rfl, ⟨ns, i, big, seed, B⟩, m0, mb, q⟩ := h
    refine ⟨_, C8.pss_cut (ps_if (PW.pt (pw_and (pt_cmpR op_eq (pe_ix ix_list (pv 0) pe_int (fun _ _ => rfl)) pe_int (nomark _)) (pw_and1 (pt_cmpR op_lt (pe_ix ix_list (pv 0) pe_int (fun _ _ => rfl)) (pe_callB call_len_seq (by rfl) ml PySem.boot_len (pa_cons (pe_ix ix_list (pv 0) pe_int (fun _ _ => rfl)) pa_nil)) (nomark _)))))
        (pss_cons (ps_set (i := 2) scPull.nd rfl (.inl rfl) (pe_ix ix_list (pe_ix ix_list (pv 0) pe_int (fun _ _ => rfl)) (pe_ix ix_list (pv 0) pe_int (fun _ _ => rfl)) (fun _ _ => rfl)))
          (pss_cons (ps_asg (pe_op op_add (pe_ix ix_list (pv 0) pe_int (fun _ _ => rfl)) pe_int) (pg_sub (pv 0) pe_int set_list))
          (pss_one (ps_if (pt_cmpR op_ge (pv 2) (pe_op op_pow pe_int pe_int) (nomark _))
            (pss_one (ps_asg (pv 2) (pg_sub (pv 0) pe_int set_list)))
            (pss_one (ps_asg (pe_op op_mod (pe_callTy call_int1 (by rfl) mi (by decide +kernel) (pa_cons (pe_op op_add (pe_op op_add (pe_op op_mul (pe_ix ix_list (pv 0) pe_int (fun _ _ => rfl)) pe_int) (pe_op op_mul (pe_op op_mod (pe_callTy call_int1 (by rfl) mi (by decide +kernel) (pa_cons (pv 2) pa_nil)) pe_int) pe_int)) pe_int) pa_nil)) pe_int) (pg_sub (pv 0) pe_int set_list)))))))
        pss_nil)
      (pss_cons (ps_if (pt_cmpR op_gt (pe_ix ix_list (pv 0) pe_int (fun _ _ => rfl)) pe_int (nomark _))
        (pss_cons (ps_set (i := 3) scPull.nd rfl (.inl rfl) (pe_op op_mod (pe_callTy call_int1 (by rfl) mi (by decide +kernel) (pa_cons (pe_ix ix_list (pv 0) pe_int (fun _ _ => rfl)) pa_nil)) (pv 1)))
          (pss_cons (ps_asg (pe_op op_fdivW (pe_ix ix_list (pv 0) pe_int (fun _ _ => rfl)) (pv 1)) (pg_sub (pv 0) pe_int set_list)) (pss_one (ps_ret (pv 3))))) pss_nil)
      (pss_cons (ps_set (i := 4) scPull.nd rfl (.inl rfl) (pe_ix ix_list (pv 0) pe_int (fun _ _ => rfl)))
      (pss_cons (ps_asg (pe_op op_mod (pe_callTy call_int1 (by rfl) mi (by decide +kernel) (pa_cons (pe_op op_add (pe_op op_add (pe_op op_mul (pv 4) (pv 4)) (pe_op op_mul (pv 4) pe_int)) pe_int) pa_nil)) pe_int) (pg_sub (pv 0) pe_int set_list))
      (pss_one (ps_ret (pe_op op_mod (pe_callTy call_int1 (by rfl) mi (by decide +kernel) (pa_cons (pe_op op_add (pe_op op_fdiv (pe_ix ix_list (pv 0) pe_int (fun _ _ => rfl)) pe_int) (pe_op op_mul (pe_op op_mod (pe_callTy call_int1 (by rfl) mi (by decide +kernel) (pa_cons (pe_ix ix_list (pv 0) pe_int (fun _ _ => rfl)) pa_nil)) pe_int) pe_int)) pa_nil)) (pv 1))))))), ?_⟩
    refine ⟨fun σ' H1 => ∃ (c : Option V) (i' big' seed' : Int), σ' = [some (.ref b), some (.int m), c, none, none] ∧ BagS H1 b l ns i' big' seed' ∧ But b H H1, ?_, ?_⟩
    · -- the first if
      have hL := SqL.of (K := K) B.ob
      refine ⟨_, rfl, b, _, _, _, rfl, rfl, hL, atI_nat (j := 2) rfl, rfl, _, rfl, ite2 (fun e => ?_) (fun e => ?_)⟩
      · refine ⟨_, rfl, b, _, _, _, rfl, rfl, hL, atI_nat (j := 1) rfl, _, rfl, b, _, _, _, rfl, rfl, hL, atI_nat (j := 0) rfl, l, _, rfl, .inl (SqL.of B.ls), _, _, rfl, rfl, _, rfl, ite2 (fun e2 => ?_) (fun e2 => ?_)⟩
        · have e3 : i < ((ns.map V.int).length : Nat) := of_decide_eq_true e2
          rw [List.length_map] at e3
          obtain ⟨j, hj⟩ : ∃ j : Nat, i = (j : Int) := ⟨i.toNat, by have := B.i0; omega⟩
          have hj2 : j < ns.length := by omega
          have g1 : (ns.map V.int)[j]? = some (.int ns[j]) := by
            rw [List.getElem?_map, List.getElem?_eq_getElem hj2]
            rfl
          have B2 := B.put (i' := i + 1) (big' := big) (seed' := seed) (by have := B.i0; omega) (by omega) B.g0 B.s0 B.s1
          refine ⟨_, rfl, b, _, _, _, rfl, rfl, hL, atI_nat (j := 0) rfl, _, rfl, b, _, _, _, rfl, rfl, hL, atI_nat (j := 1) rfl, l, _, _, _, rfl, rfl, SqL.of B.ls, at_of hj g1, ?_⟩
          refine ⟨_, rfl, b, _, _, _, rfl, rfl, hL, atI_nat (j := 1) rfl, _, _, rfl, rfl, _, rfl, b, _, _, 1, rfl, rfl, B.ob, rfl, ?_⟩
          have hL2 := SqL.of (K := K) B2.ob
          refine ⟨_, rfl, _, _, rfl, rfl, ⟨by decide, by decide, by decide⟩, _, _, rfl, rfl, _, rfl, ite2 (fun e4 => ?_) (fun e4 => ?_)⟩
          · have e5 : (10 : Int) ^ (18 : Int).toNat ≤ ns[j] := of_decide_eq_true e4
            refine ⟨_, rfl, _, rfl, b, _, _, 2, rfl, rfl, B2.ob, rfl, ?_⟩
            refine ⟨_, i + 1, ns[j], seed, rfl, ?_, ?_⟩
            · have h0 : (0 : Int) ≤ ns[j] := Int.le_trans (by decide) e5
              exact B2.put (by have := B.i0; omega) (by omega) h0 B.s0 B.s1
            · exact but_upd.trans but_upd
          · have r0 := Int.emod_nonneg (ns[j]) (show (2147483579 : Int) ≠ 0 by decide)
            have r1 := Int.emod_lt_of_pos (ns[j]) (show (0 : Int) < 2147483579 by decide)
            have q0 := B.s0
            have q1 := B.s1
            refine ⟨_, rfl, b, _, _, _, rfl, rfl, hL2, atI_nat (j := 3) rfl, _, _, rfl, rfl, .inl ⟨by omega, by omega⟩, _, rfl, .inl ⟨_, rfl, ?_⟩⟩
            refine ⟨_, _, rfl, rfl, (by show (0 : Int) < 2147483579; decide), _, _, rfl, rfl, .inl ⟨by omega, by omega⟩, _, _, rfl, rfl, _, _, rfl, rfl, .inl ⟨_, rfl, ?_⟩⟩
            refine ⟨_, _, rfl, rfl, (by show (0 : Int) < 2147483647; decide), _, rfl, b, _, _, 3, rfl, rfl, B2.ob, rfl, ?_⟩
            refine ⟨_, i + 1, big, _, rfl, B2.put (by have := B.i0; omega) (by omega) B.g0 (Int.emod_nonneg _ (by decide)) (Int.emod_lt_of_pos _ (by decide)), but_upd.trans but_upd⟩
        · exact ⟨_, i, big, seed, rfl, B, But.refl _ _⟩
      · exact ⟨_, i, big, seed, rfl, B, But.refl _ _⟩
    · rintro σ' H1 ⟨c, i', big', seed', rfl, B1, bt⟩
      have hL := SqL.of (K := K) B1.ob
      refine ⟨_, rfl, b, _, _, _, rfl, rfl, hL, atI_nat (j := 2) rfl, _, _, rfl, rfl, _, rfl, ite2 (fun e => ?_) (fun e => ?_)⟩
      · refine ⟨_, rfl, b, _, _, _, rfl, rfl, hL, atI_nat (j := 2) rfl, .inl ⟨_, rfl, ?_⟩⟩
        refine ⟨_, rfl, _, _, rfl, rfl, m0, ?_⟩
        refine ⟨_, rfl, b, _, _, _, rfl, rfl, hL, atI_nat (j := 2) rfl, _, rfl, _, _, rfl, rfl, wide_div m0 mb (by decide) (by decide), _, rfl, b, _, _, 2, rfl, rfl, B1.ob, rfl, ?_⟩
        refine ⟨_, rfl, ?_⟩
        exact q _ _ (Int.emod_nonneg _ (by omega)) (Int.emod_lt_of_pos _ m0) ⟨ns, i', _, seed', B1.put B1.i0 B1.i1 (Int.ediv_nonneg B1.g0 (by omega)) B1.s0 B1.s1⟩ (bt.trans but_upd)
      · have q0 := B1.s0
        have q1 := B1.s1
        refine ⟨_, rfl, b, _, _, _, rfl, rfl, hL, atI_nat (j := 3) rfl, ?_⟩
        refine ⟨_, rfl, _, rfl, _, _, rfl, rfl, .inl ⟨by omega, by omega⟩, _, rfl, _, _, rfl, rfl, .inl ⟨by omega, by omega⟩, _, _, rfl, rfl, _, _, rfl, rfl, .inl ⟨_, rfl, ?_⟩⟩
        refine ⟨_, _, rfl, rfl, (by show (0 : Int) < 2147483647; decide), _, rfl, b, _, _, 3, rfl, rfl, B1.ob, rfl, ?_⟩
        have z0 := Int.emod_nonneg (seed' * seed' + seed' * 48271 + 1013904223) (show (2147483647 : Int) ≠ 0 by decide)
        have z1 := Int.emod_lt_of_pos (seed' * seed' + seed' * 48271 + 1013904223) (show (0 : Int) < 2147483647 by decide)
        have B2 := B1.put (i' := i') (big' := big') B1.i0 B1.i1 B1.g0 z0 z1
        have hL2 := SqL.of (K := K) B2.ob
        refine ⟨_, rfl, b, _, _, _, rfl, rfl, hL2, atI_nat (j := 3) rfl, _, _, rfl, rfl, ⟨by decide, by decide⟩, ?_⟩
        refine ⟨_, rfl, b, _, _, _, rfl, rfl, hL2, atI_nat (j := 3) rfl, .inl ⟨_, rfl, ?_⟩⟩
        have y0 := Int.emod_nonneg ((seed' * seed' + seed' * 48271 + 1013904223) % 2147483647) (show (8191 : Int) ≠ 0 by decide)
        have y1 := Int.emod_lt_of_pos ((seed' * seed' + seed' * 48271 + 1013904223) % 2147483647) (show (0 : Int) < 8191 by decide)
        refine ⟨_, _, rfl, rfl, (by show (0 : Int) < 8191; decide), _, _, rfl, rfl, .inl ⟨by omega, by omega⟩, _, _, rfl, rfl, .inl ⟨_, rfl, ?_⟩⟩
        refine ⟨_, rfl, _, _, rfl, rfl, m0, ?_⟩
        exact q _ _ (Int.emod_nonneg _ (by omega)) (Int.emod_lt_of_pos _ m0) ⟨ns, i', big', _, B2⟩ (bt.trans but_upd)
/-- things[pull(bag, len(things))] -/
def spOf (K : PySem.W.Frag) : Sp := fun vs H Q _ => ∃ (b l t : Addr) (xs : List V), vs = [.ref b, .ref t] ∧ BagAt H b l ∧ t ≠ b ∧ SqL K H t xs ∧ 0 < xs.length ∧ xs.length < 1000 ∧
  ∀ (v : V) (H' : Hp), v ∈ xs → BagAt H' b l → But b H H' → Q v H'
theorem But.seq {b a : Addr} {H H' : Hp} {xs : List V} (e : But b H H') (n : a ≠ b) (h : SqL K H a xs) : SqL K H' a xs := by
  rcases h with (h | ⟨o, h⟩) | h
  · exact .inl (.inl (e _ _ n h))
  · exact .inl (.inr ⟨o, e _ _ n h⟩)
  · exact .inr h
theorem But.sqT {b l a : Addr} {H H' : Hp} {xs : List V} (e : But b H H') (B : BagAt H b l) (h : SqT K H a xs) : SqT K H' a xs := by
  obtain ⟨ys, hb⟩ := B.lst
  rcases h with (h | ⟨o, h⟩) | h
  · exact .inl (.inl (e _ _ (ne_of h hb (by intro z; cases z)) h))
  · exact .inl (.inr ⟨o, e _ _ (ne_of h hb (by intro z; cases z)) h⟩)
  · exact .inr h
theorem But.tup {b l a : Addr} {H H' : Hp} {xs : List V} (e : But b H H') (B : BagAt H b l) (h : H a = some (.tup xs)) : H' a = some (.tup xs) := by
  obtain ⟨ys, hb⟩ := B.lst
  exact e _ _ (ne_of h hb (by intro z; cases z)) h
theorem ok_of {f fP : Addr} {fd fdP : FuncData} {k : Nat} (F : Fun K "_law_of" "_law_of" sOf f fd) (ml : mg "len" = none) (GP : FnOk P w K mg base CX0 (k + 1) fP fdP ["_law_bag_here", "_law_amount"] spPull)
    (kp : PySem.W.keepIn K (.ref fP) = true) (bP : Binds K fdP ["_law_bag_here", "_law_amount"] []) (gP : mg "_law_pull" = some (.ref fP)) :
    FnOk P w K mg base CX0 (k + 2) f fd ["_law_bag_here", "_law_things"] (spOf K) := by
  refine F.ok scOf (fun vs H Q E h => ?_) (fun cdv A outer s H vs Q E hr h => ?_)
  · obtain ⟨b, l, m, _, rfl, _⟩ := h
    rfl
  · obtain ⟨b, l, t, xs, rfl, B, nt, hS, l0, l1, q⟩ := h
    refine ⟨_, pss_one (ps_ret (pe_ix ix_list (pv 1) (pe_call GP hr (by rfl) gP kp bP .nil pass0 (pa_cons (pv 0) (pa_cons (pe_callB call_len_seq (by rfl) ml PySem.boot_len (pa_cons (pv 1) pa_nil)) pa_nil))) (fun _ _ => rfl))), ?_⟩
    refine ⟨_, rfl, _, rfl, _, rfl, t, _, rfl, .inl hS, b, l, _, rfl, B, by omega, ?_, fun g H' g0 g1 B' bt => ?_⟩
    · have : ((xs.length : Int)).natAbs < 1000 := by omega
      exact Nat.lt_trans this (by decide)
    · obtain ⟨j, hj⟩ : ∃ j : Nat, g = (j : Int) := ⟨g.toNat, by omega⟩
      have hj2 : j < xs.length := by omega
      exact ⟨t, _, _, xs[j], rfl, rfl, bt.seq nt hS, at_of hj (List.getElem?_eq_getElem hj2), q _ _ (List.getElem_mem hj2) B' bt⟩
end
end Lk

namespace Lk
open PySem L2
/-! ### mathematics -/
def prodL : List Int → Int
  | [] => 1
  | x :: r => x * prodL r
theorem prodL_app (x : Int) : ∀ l : List Int, prodL (l ++ [x]) = prodL l * x
  | [] => by simp [prodL]
  | y :: r => by
    show y * prodL (r ++ [x]) = y * prodL r * x
    rw [prodL_app x r, Int.mul_assoc]
theorem prodL_perm {l m : List Int} (h : l.Perm m) : prodL l = prodL m := by
  induction h with
  | nil => rfl
  | cons x _ ih => simp [prodL, ih]
  | swap x y l => simp only [prodL]; rw [← Int.mul_assoc, ← Int.mul_assoc, Int.mul_comm x y]
  | trans _ _ a b => exact a.trans b
theorem prodL_pos : ∀ {l : List Int}, (∀ z ∈ l, 1 ≤ z) → 1 ≤ prodL l
  | [], _ => by simp [prodL]
  | x :: r, h => by
    have h1 := prodL_pos (l := r) fun z hz => h z (List.mem_cons_of_mem _ hz)
    have h2 := h x List.mem_cons_self
    show 1 ≤ x * prodL r
    calc (1 : Int) = 1 * 1 := rfl
      _ ≤ x * prodL r := Int.mul_le_mul h2 h1 (by decide) (by omega)
theorem prodL_take {l : List Int} (h : ∀ z ∈ l, 1 ≤ z) (i : Nat) : prodL (l.take i) ≤ prodL l := by
  have e : ∀ (a b : List Int), prodL (a ++ b) = prodL a * prodL b := fun a b => by
    induction a with
    | nil => simp [prodL]
    | cons x r ih => show x * prodL (r ++ b) = x * prodL r * prodL b; rw [ih, Int.mul_assoc]
  have e2 : prodL l = prodL (l.take i) * prodL (l.drop i) := by rw [← e, List.take_append_drop]
  have h1 := prodL_pos (l := l.take i) fun z hz => h z (List.mem_of_mem_take hz)
  have h2 := prodL_pos (l := l.drop i) fun z hz => h z (List.mem_of_mem_drop hz)
  rw [e2]
  calc prodL (l.take i) = prodL (l.take i) * 1 := by rw [Int.mul_one]
    _ ≤ prodL (l.take i) * prodL (l.drop i) := Int.mul_le_mul_of_nonneg_left h2 (by omega)
theorem take_more {α : Type} {l : List α} {i : Nat} {x : α} (h : l[i]? = some x) : l.take (i + 1) = l.take i ++ [x] := by
  rw [List.take_add_one, h]
  rfl
theorem map_get {α : Type} {g : α → V} {ns : List α} {i : Nat} {y : V} (hi : (ns.map g)[i]? = some y) : ∃ z, ns[i]? = some z ∧ y = g z := by
  rw [List.getElem?_map] at hi
  cases e : ns[i]? with
  | none =>
    rw [e] at hi
    cases hi
  | some z =>
    rw [e] at hi
    exact ⟨z, rfl, (Option.some.inj hi).symm⟩
/-- divisors: numbers from 1 on, their product at most 12 -/
structure Divs (ns : List Int) : Prop where
  one : ∀ z ∈ ns, 1 ≤ z
  most : prodL ns ≤ 12
theorem Divs.part {ns : List Int} (D : Divs ns) (i : Nat) : 1 ≤ prodL (ns.take i) ∧ prodL (ns.take i) ≤ 12 :=
  ⟨prodL_pos fun z hz => D.one z (List.mem_of_mem_take hz), Int.le_trans (prodL_take D.one i) D.most⟩
theorem same_new {H : Hp} {p : Addr} {o : HO} (h : H p = none) : Same H (upd H p o) := fun b x e => by
  rw [upd_ne (ne_of_none e h)]
  exact e
theorem Same.sqT {K : PySem.W.Frag} {H H' : Hp} {a : Addr} {xs : List V} (e : Same H H') (h : SqT K H a xs) : SqT K H' a xs := by
  rcases h with (h | ⟨o, h⟩) | h
  · exact .inl (.inl (e _ _ h))
  · exact .inl (.inr ⟨o, e _ _ h⟩)
  · exact .inr h
/-- zip of two tuples, walked -/
theorem walk_zipT {K : PySem.W.Frag} {a b : Addr} {xs ys : List V} (e : xs.length = ys.length) :
    Walk (RZ.ItzT K a b) xs.length (fun H => SqT K H a xs ∧ SqT K H b ys) (YPair (fun j => xs[j]?) (fun j => ys[j]?)) := by
  constructor
  · intro i H hi q
    have h2 : i < ys.length := by omega
    exact ⟨xs, ys, xs[i], ys[i], q.1, q.2, List.getElem?_eq_getElem hi, List.getElem?_eq_getElem h2⟩
  · intro H q
    exact ⟨xs, ys, q.1, q.2, by omega⟩
  · rintro i H v H' hi q ⟨T, x, z, h1, h2, h3, h4, h5⟩
    exact ⟨T, x, z, h1, h2, h3, h4 xs q.1, h5 ys q.2⟩
/-! ### promises -/
def spBag (K : PySem.W.Frag) : Sp := fun vs H Q _ => ∃ (a : Addr) (ns : List Int), vs = [.ref a] ∧ SqL K H a (ns.map V.int) ∧
  ∀ (H' : Hp) (b l : Addr), Same H H' → H b = none → H l = none → BagAt H' b l → Q (.ref b) H'
def spMixed (K : PySem.W.Frag) : Sp := fun vs H Q _ => ∃ (b l t : Addr) (xs : List V), vs = [.ref b, .ref t] ∧ BagAt H b l ∧ t ≠ b ∧ SqL K H t xs ∧ xs.length ≤ 100 ∧
  ∀ (ys : List V) (H' : Hp) (p : Addr), ys.Perm xs → H p = none → H' p = some (.lst ys) → BagAt H' b l → But b H H' → Q (.ref p) H'
def spCount (K : PySem.W.Frag) : Sp := fun vs H Q _ => ∃ (a : Addr) (ns : List Int), vs = [.ref a] ∧ SqT K H a (ns.map V.int) ∧ Divs ns ∧ Q (.int (prodL ns)) H
def spPlus (K : PySem.W.Frag) : Sp := fun vs H Q _ => ∃ (a b : Addr) (ns ms : List Int), vs = [.ref a, .ref b] ∧ SqT K H a (ns.map V.int) ∧ SqT K H b (ms.map V.int) ∧ ns.length = ms.length ∧ ns.length ≤ 3 ∧
  ∀ (H' : Hp) (p : Addr), Same H H' → H p = none → H' p = some (.tup ((List.zipWith (· + ·) ns ms).map V.int)) → Q (.ref p) H'
def spDivisors : Sp := fun vs H Q _ => ∃ (b l : Addr) (d : Int), vs = [.ref b, .int d] ∧ BagAt H b l ∧ 1 ≤ d ∧ d ≤ 3 ∧
  ∀ (ns : List Int) (H' : Hp) (p : Addr), (ns.length : Int) = d → Divs ns → H p = none → H' p = some (.tup (ns.map V.int)) → BagAt H' b l → But b H H' → Q (.ref p) H'
def spPlace : Sp := fun vs H Q _ => ∃ (b l : Addr) (d z : Int), vs = [.ref b, .int d, .int z] ∧ BagAt H b l ∧ 1 ≤ d ∧ d ≤ 3 ∧ 0 ≤ z ∧ z ≤ 2 ^ 100 ∧
  ∀ (ns : List Int) (H' : Hp) (p : Addr), (ns.length : Int) = d → H p = none → H' p = some (.tup (ns.map V.int)) → BagAt H' b l → But b H H' → Q (.ref p) H'
section
variable {P : Program} {w : World} {K : PySem.W.Frag} {mg : Str → Option Value} {base : Heap}
theorem ok_bag {f : Addr} {fd : FuncData} {k : Nat} (F : Fun K "_law_bag" "_law_bag" sBag f fd) (mi : mg "int" = none) (ml : mg "list" = none) : FnOk P w K mg base CX0 (k + 1) f fd ["_law_script"] (spBag K) := by
  refine F.ok scBag (fun vs H Q E h => ?_) (fun cdv A outer s H vs Q E hr h => ?_)
  · obtain ⟨a, ns, rfl, _⟩ := h
    rfl
  · obtain ⟨a, ns, rfl, hS, q⟩ := h
    obtain ⟨ms, em⟩ : ∃ ms : List Int, cutV (ns.map V.int) none (some 63) = ms.map V.int := by
      unfold cutV
      rw [← List.map_drop, ← List.map_take]
      exact ⟨_, rfl⟩
    refine ⟨_, pss_cons (ps_set (i := 1) scBag.nd rfl (.inl rfl) pe_int)
      (pss_cons (ps_for PassesOwn.never rfl (pi_list (pe_slice sl_list (pv 0) po_none (po_some pe_int))) (pg_name (i := 2) scBag.nd rfl (.inl rfl))
        (pss_one (ps_set (i := 1) scBag.nd rfl (.inl rfl) (pe_op op_mod (pe_callTy call_int1 (by rfl) mi (by decide +kernel) (pa_cons (pe_op op_add (pe_op op_add (pe_op op_mul (pv 1) pe_int) (pe_op op_mod (pe_callTy call_int1 (by rfl) mi (by decide +kernel) (pa_cons (pv 2) pa_nil)) pe_int)) pe_int) pa_nil)) pe_int))))
      (pss_one (ps_ret (pe_lst (pa_cons (pe_callTy call_list_of (by rfl) ml (by decide +kernel) (pa_cons (pe_slice sl_list (pv 0) po_none (po_some pe_int)) pa_nil)) (pa_cons pe_int (pa_cons pe_int (pa_cons (pv 1) pa_nil)))))))), ?_⟩
    refine ⟨_, rfl, _, rfl, a, _, rfl, hS, fun c nc => ?_⟩
    rw [em]
    have s1 : Same H (upd H c (.lst (ms.map V.int))) := same_new nc
    refine ⟨c, rfl, ⟨_, SqL.of upd_same⟩, for_list (K := K) (a := c) (xs := ms.map V.int) (fun i σ H2 => ∃ (z : Int) (v : Option V), σ = [some (.ref a), some (.int z), v] ∧ 0 ≤ z ∧ z < 2147483647 ∧ H2 = upd H c (.lst (ms.map V.int)))
      ⟨3823, none, rfl, by decide, by decide, rfl⟩ (fun i σ H2 _ ⟨_, _, _, _, _, e⟩ => by rw [e]; exact SqL.of upd_same) ?_ ?_⟩
    · rintro i y σ H2 hi ⟨z, v, rfl, z0, z1, rfl⟩
      obtain ⟨u, hu, rfl⟩ := map_get hi
      refine ⟨_, rfl, _, _, rfl, rfl, .inl ⟨by omega, by omega⟩, _, rfl, .inl ⟨_, rfl, ?_⟩⟩
      refine ⟨_, _, rfl, rfl, (by show (0 : Int) < 2147483579; decide), _, _, rfl, rfl, _, _, rfl, rfl, .inl ⟨_, rfl, ?_⟩⟩
      refine ⟨_, _, rfl, rfl, (by show (0 : Int) < 2147483647; decide), ?_⟩
      exact ⟨_, _, rfl, Int.emod_nonneg _ (by decide), Int.emod_lt_of_pos _ (by decide), rfl⟩
    · rintro σ H2 ⟨z, v, rfl, z0, z1, rfl⟩
      refine ⟨_, rfl, _, rfl, a, _, rfl, s1.seq hS, fun c2 nc2 => ?_⟩
      rw [em]
      have s2 := same_new (o := .lst (ms.map V.int)) nc2
      refine ⟨c2, _, rfl, .inl (SqL.of upd_same), fun l nl => ?_⟩
      have s3 := same_new (o := .lst (ms.map V.int)) nl
      refine ⟨_, rfl, (by show 4 ≤ sizeLine; decide), fun b nb => ?_⟩
      have s4 := same_new (o := .lst [.ref l, .int 0, .int 0, .int z]) nb
      refine q _ b l (((s1.trans s2).trans s3).trans s4) (((s1.trans s2).trans s3).free nb) ((s1.trans s2).free nl) ⟨ms, 0, 0, z, upd_same, ?_, by decide, by omega, by decide, z0, z1⟩
      exact s4 _ _ upd_same
theorem ok_mixed {f fP : Addr} {fd fdP : FuncData} {k : Nat} (F : Fun K "_law_mixed" "_law_mixed" sMixed f fd) (ml : mg "len" = none) (GP : FnOk P w K mg base CX0 (k + 1) fP fdP ["_law_bag_here", "_law_amount"] spPull)
    (kp : PySem.W.keepIn K (.ref fP) = true) (bP : Binds K fdP ["_law_bag_here", "_law_amount"] []) (gP : mg "_law_pull" = some (.ref fP)) :
    FnOk P w K mg base CX0 (k + 2) f fd ["_law_bag_here", "_law_things"] (spMixed K) := by
  refine F.ok scMixed (fun vs H Q E h => ?_) (fun cdv A outer s H vs Q E hr h => ?_)
  · obtain ⟨b, l, t, xs, rfl, _⟩ := h
    rfl
  · obtain ⟨b, l, t, xs, rfl, B, nt, hS, l1, q⟩ := h
    refine ⟨_, pss_cons (ps_set (i := 2) scMixed.nd rfl (.inl rfl) (pe_lst pa_nil))
      (pss_cons (ps_for PassesOwn.never rfl (pi_list (pv 1)) (pg_name (i := 3) scMixed.nd rfl (.inl rfl))
        (pss_one (ps_expr (pe_bm PySem.F.plainAttrs_list PySem.F.slot_list_insert PySem.F.type_list_insert mt_insert (pv 2) (pa_cons (pe_call GP hr (by rfl) gP kp bP .nil pass0 (pa_cons (pv 0) (pa_cons (pe_op op_add (pe_callB call_len_seq (by rfl) ml PySem.boot_len (pa_cons (pv 2) pa_nil)) pe_int) pa_nil))) (pa_cons (pv 3) pa_nil))))))
      (pss_one (ps_ret (pv 2)))), ?_⟩
    refine ⟨Nat.zero_le _, fun o no => ?_⟩
    have nob := B.nb no
    have nol := B.nl no
    have s0 := same_new (o := .lst []) no
    have nto : ∀ ys, SqL K H t ys → t ≠ o ∨ True := fun _ _ => .inr trivial
    have hS1 : SqL K (upd H o (.lst [])) t xs := s0.seq hS
    refine ⟨_, rfl, t, rfl, ⟨_, hS1⟩, for_list (K := K) (a := t) (xs := xs) (fun i σ H2 => ∃ (v : Option V) (ys : List V), σ = [some (.ref b), some (.ref t), some (.ref o), v] ∧ ys.Perm (xs.take i) ∧ H2 o = some (.lst ys) ∧ BagAt H2 b l ∧ But b H H2)
      ⟨none, [], rfl, by simp, upd_same, B.new no, new_but no⟩ (fun i σ H2 _ ⟨_, _, _, _, _, _, bt⟩ => bt.seq nt hS) ?_ ?_⟩
    · rintro i y σ H2 hi ⟨v, ys, rfl, pm, ho, B2, bt⟩
      have hi2 : i < xs.length := (List.getElem?_eq_some_iff.mp hi).1
      have ly : ys.length = i := by
        rw [pm.length_eq, List.length_take]
        omega
      refine ⟨_, rfl, .inl ⟨rfl, _, SqL.of ho⟩, _, rfl, _, rfl, o, _, rfl, .inl (SqL.of ho), _, _, rfl, rfl, b, l, _, rfl, B2, by omega, ?_, fun g H3 g0 g1 B3 bt3 => ?_⟩
      · have : (((ys.length : Int) + 1)).natAbs < 1000 := by omega
        exact Nat.lt_trans this (by decide)
      · have ho3 := bt3 o _ nob ho
        refine ⟨_, rfl, o, ys, g, y, rfl, rfl, ho3, ?_, g0, by omega, ?_⟩
        · exact Nat.lt_of_le_of_lt (show ys.length ≤ 100 by omega) (by decide)
        · refine ⟨_, _, rfl, ?_, upd_same, B3.upd nob nol, ?_⟩
          · rw [take_more hi]
            refine List.Perm.trans ?_ (List.Perm.append_right [y] pm)
            have e : ys = ys.take g.toNat ++ ys.drop g.toNat := (List.take_append_drop _ _).symm
            conv => rhs; rw [e]
            rw [List.append_assoc, List.append_assoc]
            exact List.Perm.append_left _ List.perm_append_comm
          · intro a u na hu
            have nao : a ≠ o := ne_of_none hu no
            rw [upd_ne nao]
            exact bt3 a u na (bt a u na hu)
    · rintro σ H2 ⟨v, ys, rfl, pm, ho, B2, bt⟩
      rw [List.take_length] at pm
      exact ⟨_, rfl, q ys H2 o pm no ho B2 bt⟩
theorem ok_count {f : Addr} {fd : FuncData} {k : Nat} (F : Fun K "_law_count" "_law_count" sCount f fd) : FnOk P w K mg base CX0 (k + 1) f fd ["_law_divisors_z"] (spCount K) := by
  refine F.ok scCount (fun vs H Q E h => ?_) (fun cdv A outer s H vs Q E hr h => ?_)
  · obtain ⟨a, ns, rfl, _⟩ := h
    rfl
  · obtain ⟨a, ns, rfl, hS, D, q⟩ := h
    refine ⟨_, pss_cons (ps_set (i := 1) scCount.nd rfl (.inl rfl) pe_int)
      (pss_cons (ps_for PassesOwn.never rfl (pi_tup (pv 0)) (pg_name (i := 2) scCount.nd rfl (.inl rfl)) (pss_one (ps_set (i := 1) scCount.nd rfl (.inl rfl) (pe_op op_mul (pv 1) (pv 2)))))
      (pss_one (ps_ret (pv 1)))), ?_⟩
    refine ⟨_, rfl, a, rfl, ⟨_, hS⟩, for_tup (K := K) (a := a) (xs := ns.map V.int) (fun i σ H2 => ∃ (v : Option V), σ = [some (.ref a), some (.int (prodL (ns.take i))), v] ∧ H2 = H)
      ⟨none, rfl, rfl⟩ (fun i σ H2 _ ⟨_, _, e⟩ => by rw [e]; exact hS) ?_ ?_⟩
    · rintro i y σ H2 hi ⟨v, rfl, rfl⟩
      obtain ⟨u, hu, rfl⟩ := map_get hi
      have pt := D.part i
      refine ⟨_, rfl, _, rfl, _, _, rfl, rfl, .inl ⟨by omega, by omega⟩, some (.int u), ?_, rfl⟩
      rw [take_more hu, prodL_app]
      rfl
    · rintro σ H2 ⟨v, rfl, rfl⟩
      refine ⟨_, rfl, ?_⟩
      rw [List.length_map, List.take_length]
      exact q
theorem ok_product {f : Addr} {fd : FuncData} {k : Nat} (F : Fun K "product" "product" sProduct f fd) : FnOk P w K mg base CX0 (k + 1) f fd ["numbers"] (spCount K) := by
  refine F.ok scProduct (fun vs H Q E h => ?_) (fun cdv A outer s H vs Q E hr h => ?_)
  · obtain ⟨a, ns, rfl, _⟩ := h
    rfl
  · obtain ⟨a, ns, rfl, hS, D, q⟩ := h
    refine ⟨_, pss_cons (ps_set (i := 1) scProduct.nd rfl (.inl rfl) pe_int)
      (pss_cons (ps_for PassesOwn.never rfl (pi_tup (pv 0)) (pg_name (i := 2) scProduct.nd rfl (.inl rfl)) (pss_one (ps_set (i := 1) scProduct.nd rfl (.inl rfl) (pe_op op_mul (pv 1) (pv 2)))))
      (pss_one (ps_ret (pv 1)))), ?_⟩
    refine ⟨_, rfl, a, rfl, ⟨_, hS⟩, for_tup (K := K) (a := a) (xs := ns.map V.int) (fun i σ H2 => ∃ (v : Option V), σ = [some (.ref a), some (.int (prodL (ns.take i))), v] ∧ H2 = H)
      ⟨none, rfl, rfl⟩ (fun i σ H2 _ ⟨_, _, e⟩ => by rw [e]; exact hS) ?_ ?_⟩
    · rintro i y σ H2 hi ⟨v, rfl, rfl⟩
      obtain ⟨u, hu, rfl⟩ := map_get hi
      have pt := D.part i
      refine ⟨_, rfl, _, rfl, _, _, rfl, rfl, .inl ⟨by omega, by omega⟩, some (.int u), ?_, rfl⟩
      rw [take_more hu, prodL_app]
      rfl
    · rintro σ H2 ⟨v, rfl, rfl⟩
      refine ⟨_, rfl, ?_⟩
      rw [List.length_map, List.take_length]
      exact q
end
end Lk

namespace Lk
open PySem L2
section
variable {P : Program} {w : World} {K : PySem.W.Frag} {mg : Str → Option Value} {base : Heap}
theorem ok_divisors {f fP fM : Addr} {fd fdP fdM : FuncData} {k : Nat} (F : Fun K "_law_divisors" "_law_divisors" sDivisors f fd) (mt : mg "tuple" = none) (mr : mg "range" = none) (mm : mg "min" = none)
    (GP : FnOk P w K mg base CX0 (k + 1) fP fdP ["_law_bag_here", "_law_amount"] spPull) (kp : PySem.W.keepIn K (.ref fP) = true) (bP : Binds K fdP ["_law_bag_here", "_law_amount"] []) (gP : mg "_law_pull" = some (.ref fP))
    (GM : FnOk P w K mg base CX0 (k + 2) fM fdM ["_law_bag_here", "_law_things"] (spMixed K)) (kM : PySem.W.keepIn K (.ref fM) = true) (bM : Binds K fdM ["_law_bag_here", "_law_things"] []) (gM : mg "_law_mixed" = some (.ref fM)) :
    FnOk P w K mg base CX0 (k + 3) f fd ["_law_bag_here", "_law_directions"] spDivisors := by
  refine F.ok scDivisors (fun vs H Q E h => ?_) (fun cdv A outer s H vs Q E hr h => ?_)
  · obtain ⟨b, l, d, rfl, _⟩ := h
    rfl
  · obtain ⟨b, l, d, rfl, B, d0, d1, q⟩ := h
    have hr1 : Room (k + 1) _ := hr.mono (by omega)
    refine ⟨_, pss_cons (ps_par (i := 2) (j := 3) (by rfl) scDivisors.nd rfl rfl (by decide) rfl rfl (pa_cons (pe_lst pa_nil) (pa_cons pe_int pa_nil)) (by rfl))
      (pss_cons (ps_for PassesOwn.never rfl (pi_range1 (by rfl) mr (pa_cons (pv 1) pa_nil)) (pg_name (i := 4) scDivisors.nd rfl (.inl rfl))
        (pss_cons (ps_set (i := 5) scDivisors.nd rfl (.inl rfl) (pe_op op_add pe_int (pe_call GP hr1 (by rfl) gP kp bP .nil pass0 (pa_cons (pv 0) (pa_cons (pe_callB (call_min2 rfl) (by rfl) mm (by decide +kernel) (pa_cons (pv 3) (pa_cons (pe_ix ix_list (pe_lst (pa_cons pe_int (pa_cons pe_int (pa_cons pe_int pa_nil)))) (pe_call GP hr1 (by rfl) gP kp bP .nil pass0 (pa_cons (pv 0) (pa_cons pe_int pa_nil))) (fun _ _ => rfl)) pa_nil))) pa_nil)))))
        (pss_cons (ps_expr (pe_bm PySem.F.plainAttrs_list PySem.F.slot_list_append PySem.F.type_list_append mt_append (pv 2) (pa_cons (pv 5) pa_nil)))
        (pss_one (ps_set (i := 3) scDivisors.nd rfl (.inl rfl) (pe_op op_fdiv (pv 3) (pv 5)))))))
      (pss_one (ps_ret (pe_callTy call_tuple_of (by rfl) mt (by decide +kernel) (pa_cons (pe_call GM hr (by rfl) gM kM bM .nil pass0 (pa_cons (pv 0) (pa_cons (pv 2) pa_nil))) pa_nil))))), ?_⟩
    refine ⟨Nat.zero_le _, fun o no => ?_⟩
    have nob := B.nb no
    have nol := B.nl no
    refine ⟨_, _, rfl, ?_⟩
    refine ⟨_, rfl, d, rfl, by omega, by omega, for_range (lo := 0) (n := d.toNat) (fun i σ H2 => ∃ (v4 v5 : Option V) (ns : List Int) (left : Int), σ = [some (.ref b), some (.int d), some (.ref o), some (.int left), v4, v5] ∧ ns.length = i ∧ (∀ z ∈ ns, 1 ≤ z) ∧ 1 ≤ left ∧ prodL ns * left ≤ 12 ∧ H2 o = some (.lst (ns.map V.int)) ∧ BagAt H2 b l ∧ But b H H2)
      ⟨none, none, [], 12, rfl, rfl, by simp, by decide, by simp [prodL], upd_same, B.new no, new_but no⟩ ?_ ?_⟩
    · rintro i σ H2 hi ⟨v4, v5, ns, left, rfl, hl, h1, l1, l2, ho, B2, bt⟩
      have pp := prodL_pos h1
      have l12 : left ≤ 12 := by
        have : 1 * left ≤ prodL ns * left := Int.mul_le_mul_of_nonneg_right pp (by omega)
        omega
      refine ⟨_, rfl, _, rfl, (by show 3 ≤ sizeLine; decide), fun c nc => ?_⟩
      have B2c := B2.new (o := .lst [.int 4, .int 4, .int 12]) nc
      refine ⟨_, rfl, b, l, 3, rfl, B2c, by decide, by decide, fun g H3 g0 g1 B3 bt3 => ?_⟩
      have hc3 : H3 c = some (.lst [.int 4, .int 4, .int 12]) := bt3 c _ (B2.nb nc) upd_same
      obtain ⟨t, ht, t1, t12⟩ : ∃ t : Int, atI ([.int 4, .int 4, .int 12] : List V) g = some (.int t) ∧ 1 ≤ t ∧ t ≤ 12 := by
        have : g = 0 ∨ g = 1 ∨ g = 2 := by omega
        rcases this with rfl | rfl | rfl
        · exact ⟨4, atI_nat (j := 0) rfl, by decide, by decide⟩
        · exact ⟨4, atI_nat (j := 1) rfl, by decide, by decide⟩
        · exact ⟨12, atI_nat (j := 2) rfl, by decide, by decide⟩
      have ho3 : H3 o = some (.lst (ns.map V.int)) := bt3 o _ nob (by rw [upd_ne (ne_of_none ho nc)]; exact ho)
      have mn1 : 1 ≤ (if t < left then t else left) := by split <;> omega
      have mn2 : (if t < left then t else left) ≤ left := by split <;> omega
      refine ⟨c, _, _, _, rfl, rfl, SqL.of hc3, ht, left, t, rfl, b, l, _, rfl, B3, by omega, ?_, fun e H4 e0 e1 B4 bt4 => ?_⟩
      · have : (if t < left then t else left).natAbs < 100 := by omega
        exact Nat.lt_trans this (by decide)
      · have ho4 := bt4 o _ nob ho3
        refine ⟨_, _, rfl, rfl, ?_⟩
        refine ⟨_, rfl, .inl ⟨rfl, _, SqL.of ho4⟩, _, rfl, o, _, _, rfl, rfl, ho4, ?_, ?_⟩
        · rw [List.length_map]
          exact small1000 (by omega)
        · refine ⟨_, rfl, _, rfl, left, 1 + e, rfl, rfl, ⟨by omega, by omega⟩, ?_⟩
          refine ⟨_, _, ns ++ [1 + e], left / (1 + e), rfl, ?_, ?_, ?_, ?_, ?_, B4.upd nob nol, ?_⟩
          · rw [List.length_append, hl]
            rfl
          · intro y hy
            rcases List.mem_append.mp hy with hy | hy
            · exact h1 y hy
            · rw [List.mem_singleton.mp hy]
              omega
          · exact (Int.le_ediv_iff_mul_le (by omega)).mpr (by omega)
          · rw [prodL_app, Int.mul_assoc]
            exact Int.le_trans (Int.mul_le_mul_of_nonneg_left (Int.mul_ediv_self_le (by omega)) (by omega)) l2
          · rw [upd_same, List.map_append]
            rfl
          · intro a u na hu
            have nao : a ≠ o := ne_of_none hu no
            have h2 := bt a u na hu
            rw [upd_ne nao]
            refine bt4 a u na (bt3 a u na ?_)
            rw [upd_ne (ne_of_none h2 nc)]
            exact h2
    · rintro σ H2 ⟨v4, v5, ns, left, rfl, hl, h1, l1, l2, ho, B2, bt⟩
      have pp := prodL_pos h1
      refine ⟨_, rfl, _, rfl, b, l, o, _, rfl, B2, nob, SqL.of ho, ?_, fun ys H3 p pm np hp B3 bt3 => ?_⟩
      · rw [List.length_map]
        omega
      · obtain ⟨ms, em⟩ : ∃ ms : List Int, ys = ms.map V.int := by
          have : ∀ y ∈ ys, ∃ z, y = V.int z := fun y hy => by
            obtain ⟨z, _, e⟩ := List.mem_map.mp (pm.mem_iff.mp hy)
            exact ⟨z, e.symm⟩
          clear pm hp
          induction ys with
          | nil => exact ⟨[], rfl⟩
          | cons y r ih =>
            obtain ⟨z, rfl⟩ := this y List.mem_cons_self
            obtain ⟨ms, rfl⟩ := ih fun x hx => this x (List.mem_cons_of_mem _ hx)
            exact ⟨z :: ms, rfl⟩
        subst em
        have pm2 : ms.Perm ns := by
          have e := pm.filterMap (fun v => match v with | V.int z => some z | _ => none)
          rw [List.filterMap_map, List.filterMap_map] at e
          have e2 : ∀ l : List Int, List.filterMap ((fun v => match v with | V.int z => some z | _ => none) ∘ V.int) l = l := fun l => by
            induction l with
            | nil => rfl
            | cons x r ih => rw [List.filterMap_cons]; simp [ih]
          rw [e2, e2] at e
          exact e
        refine ⟨p, _, rfl, .inl ⟨SqL.of hp, fun t nt => ?_⟩⟩
        refine q ms _ t ?_ ⟨fun z hz => h1 z (pm2.mem_iff.mp hz), ?_⟩ ((bt.trans bt3).free B B3 nt) upd_same (B3.new nt) ((bt.trans bt3).trans (new_but nt))
        · rw [pm2.length_eq, hl]
          omega
        · rw [prodL_perm pm2]
          have : prodL ns * 1 ≤ prodL ns * left := Int.mul_le_mul_of_nonneg_left l1 (by omega)
          omega
end
end Lk

namespace Lk
open PySem L2
/-! ### the least of a tuple of ints -/
def rMinT (K : PySem.W.Frag) : List V → Hp → VK → Prop := fun vs H Q => ∃ (a : Addr) (ns : List Int), vs = [V.ref a] ∧ SqT K H a (ns.map V.int) ∧ 0 < ns.length ∧ ∀ m, m ∈ ns → Q (.int m) H
theorem cr_minT {X : Cx} (hc : X.calm = true) (hu : X.A.units + 1 < cLine) : CallR X (.builtin "min") (rMinT X.K) := by
  intro pins s σ H vs us Q I r h
  obtain ⟨a, ns, rfl, hs, hne, q⟩ := h
  obtain ⟨its, rv, hl, _⟩ := I.tuple hs
  rw [Vals.ref1 r]
  cases ns with
  | nil => exact absurd hne (by decide)
  | cons x xs =>
    have hA := PySem.W.HoldAll.of_ints (h := s.heap) rv.ints
    refine PySem.W.min_tuple_datum (α := Int) (x := x) (xs := xs) (I.ok.hd hc) hl (by simpa using hA) hu fun i v h' tk hi hv hk => ?_
    have hi2 : its[i]? = some v := by simpa using hi
    obtain ⟨z, hz, hzv⟩ := hA.at hi2
    obtain ⟨as, rd⟩ := hzv
    cases rd with
    | int n t => exact ⟨.int z, H, I.kept hk, ⟨t, rfl⟩, q z (List.mem_of_getElem? hz)⟩
theorem tyT {K : PySem.W.Frag} {H : Hp} {a : Addr} {xs : List V} (h : SqT K H a xs) : TyX K H (.ref a) (.type "tuple") := by
  rcases h with (h | ⟨o, h⟩) | ⟨o, its, n, hk, hc, _⟩
  · exact .base (.tup h)
  · exact .fTuple h
  · exact .kTuple hk hc
/-! ### mathematics -/
def clsF (l : List (Int × Int)) (n : Int) : Int := l.foldl (fun n q => n * q.1 + q.2 % q.1) n
def cls (ds ps : List Int) : Int := clsF (ds.zip ps) 0
theorem clsF_bound : ∀ (l : List (Int × Int)) (n m : Int), (∀ q ∈ l, 1 ≤ q.1) → 0 ≤ n → n < m → 0 ≤ clsF l n ∧ clsF l n < m * prodL (l.map (·.1))
  | [], n, m, _, h0, h1 => by simp [clsF, prodL, h0, h1]
  | (d, s) :: r, n, m, h, h0, h1 => by
    have hd : 1 ≤ d := h (d, s) List.mem_cons_self
    have r0 := Int.emod_nonneg s (show d ≠ 0 by omega)
    have r1 := Int.emod_lt_of_pos s (show 0 < d by omega)
    have z0 : 0 ≤ n * d := Int.mul_nonneg h0 (by omega)
    have z1 : n * d + d ≤ m * d := by
      have : (n + 1) * d ≤ m * d := Int.mul_le_mul_of_nonneg_right (by omega) (by omega)
      rw [Int.add_mul] at this
      omega
    have ih := clsF_bound r (n * d + s % d) (m * d) (fun q hq => h q (List.mem_cons_of_mem _ hq)) (by omega) (by omega)
    show 0 ≤ clsF r (n * d + s % d) ∧ clsF r (n * d + s % d) < m * (d * prodL (r.map (·.1)))
    rw [← Int.mul_assoc]
    exact ih
theorem zip_fst : ∀ (ds ps : List Int), ds.length = ps.length → (ds.zip ps).map (·.1) = ds
  | [], [], _ => rfl
  | [], _ :: _, h => by cases h
  | _ :: _, [], h => by cases h
  | d :: ds, p :: ps, h => by
    show d :: (ds.zip ps).map (·.1) = d :: ds
    rw [zip_fst ds ps (by simpa using h)]
theorem cls_bound {ds ps : List Int} (hl : ds.length = ps.length) (h : ∀ z ∈ ds, 1 ≤ z) (i : Nat) : 0 ≤ clsF ((ds.zip ps).take i) 0 ∧ clsF ((ds.zip ps).take i) 0 < prodL (ds.take i) := by
  have e : ((ds.zip ps).take i).map (·.1) = ds.take i := by rw [List.map_take, zip_fst _ _ hl]
  have b := clsF_bound ((ds.zip ps).take i) 0 1 (fun q hq => h _ (by
    have : q.1 ∈ (ds.zip ps).map (·.1) := List.mem_map.mpr ⟨q, List.mem_of_mem_take hq, rfl⟩
    rw [zip_fst _ _ hl] at this
    exact this)) (by decide) (by decide)
  rw [e, Int.one_mul] at b
  exact b
def dotL (rs ps : List Int) : Int := (List.zipWith (· * ·) rs ps).sum
/-! ### promises -/
def spIsNum : Sp := fun vs H Q _ => ∃ i, vs = [.int i] ∧ Q (.bl true) H
def spNums (K : PySem.W.Frag) : Sp := fun vs H Q _ => ∃ (a : Addr) (ns : List Int) (c : Int), vs = [.ref a, .int c] ∧ SqT K H a (ns.map V.int) ∧ (ns.length : Int) = c ∧ ns.length ≤ 1000 ∧ ∀ H', Same H H' → Q (.bl true) H'
def spSides (K : PySem.W.Frag) : Sp := fun vs H Q _ => ∃ (a : Addr) (ns : List Int), vs = [.ref a, .int 1] ∧ SqT K H a (ns.map V.int) ∧ 1 ≤ ns.length ∧ ns.length ≤ 3 ∧ (∀ z ∈ ns, 1 ≤ z) ∧ ∀ H', Same H H' → Q (.bl true) H'
def spChkPlace (K : PySem.W.Frag) : Sp := fun vs H Q _ => ∃ (a : Addr) (ns : List Int) (c : Int), vs = [.ref a, .int c] ∧ SqT K H a (ns.map V.int) ∧ (ns.length : Int) = c ∧ ns.length ≤ 1000 ∧ ∀ H', Same H H' → Q .non H'
def spChkDiv (K : PySem.W.Frag) : Sp := fun vs H Q _ => ∃ (a : Addr) (ns : List Int), vs = [.ref a] ∧ SqT K H a (ns.map V.int) ∧ 1 ≤ ns.length ∧ ns.length ≤ 3 ∧ Divs ns ∧ ∀ H', Same H H' → Q .non H'
def spClassCount (K : PySem.W.Frag) : Sp := fun vs H Q _ => ∃ (a : Addr) (ns : List Int), vs = [.ref a] ∧ SqT K H a (ns.map V.int) ∧ 1 ≤ ns.length ∧ ns.length ≤ 3 ∧ Divs ns ∧ ∀ H', Same H H' → Q (.int (prodL ns)) H'
def spClassAt (K : PySem.W.Frag) : Sp := fun vs H Q _ => ∃ (a c : Addr) (ds ps : List Int), vs = [.ref a, .ref c] ∧ SqT K H a (ds.map V.int) ∧ SqT K H c (ps.map V.int) ∧ ds.length = ps.length ∧ Divs ds ∧ ∀ H', Same H H' → Q (.int (cls ds ps)) H'
def spDot (K : PySem.W.Frag) : Sp := fun vs H Q _ => ∃ (a c : Addr) (rs ps : List Int), vs = [.ref a, .ref c] ∧ SqT K H a (rs.map V.int) ∧ SqT K H c (ps.map V.int) ∧ rs.length = ps.length ∧ rs.length ≤ 3 ∧ (∀ z ∈ rs, -(2 ^ 64) < z ∧ z < 2 ^ 64) ∧ ∀ H', Same H H' → Q (.int (dotL rs ps)) H'
section
variable {P : Program} {w : World} {K : PySem.W.Frag} {mg : Str → Option Value} {base : Heap}
theorem ok_isnum {f : Addr} {fd : FuncData} {k : Nat} (F : Fun K "is_number" "is_number" sIsNum f fd) (mi : mg "int" = none) (mb : mg "bool" = none) (ms : mg "isinstance" = none) : FnOk P w K mg base CX0 (k + 1) f fd ["value"] spIsNum := by
  refine F.ok scIsNum (fun vs H Q E h => ?_) (fun cdv A outer s H vs Q E hr h => ?_)
  · obtain ⟨i, rfl, _⟩ := h
    rfl
  · obtain ⟨i, rfl, q⟩ := h
    refine ⟨_, pss_one (ps_ret (pe_and (pe_callB call_isi (by rfl) ms (by decide +kernel) (pa_cons (pv 0) (pa_cons (pe_bltn (v := .ty "int") (by rfl) mi (by decide +kernel) rfl) pa_nil)))
      (pe_one (pe_not (pe_callB call_isi (by rfl) ms (by decide +kernel) (pa_cons (pv 0) (pa_cons (pe_bltn (v := .ty "bool") (by rfl) mb (by decide +kernel) rfl) pa_nil))))))), ?_⟩
    refine ⟨_, rfl, _, _, _, _, true, rfl, .ty _, .base (.int i), kit_ty (by decide +kernel), true, rfl, iteT ?_⟩
    exact ⟨_, rfl, _, _, _, _, false, rfl, .ty _, .base (.int i), kit_ty (by decide +kernel), false, rfl, q⟩
theorem ok_nums {f fN : Addr} {fd fdN : FuncData} {k : Nat} (F : Fun K "are_numbers" "are_numbers" sAreNums f fd) (ms : mg "isinstance" = none) (mt : mg "tuple" = none) (ml : mg "len" = none) (ma : mg "all" = none)
    (GN : FnOk P w K mg base CX0 (k + 1) fN fdN ["value"] spIsNum) (kN : PySem.W.keepIn K (.ref fN) = true) (bN : Binds K fdN ["value"] []) (gN : mg "is_number" = some (.ref fN)) : FnOk P w K mg base CX0 (k + 2) f fd ["value", "count"] (spNums K) := by
  refine F.ok scAreNums (fun vs H Q E h => ?_) (fun cdv A outer s H vs Q E hr h => ?_)
  · obtain ⟨a, ns, c, rfl, _⟩ := h
    rfl
  · obtain ⟨a, ns, c, rfl, hS, hc, h1, q⟩ := h
    refine ⟨_, pss_cons (ps_if (PW.pt (pw_or (pt_not (pt_val (pe_callB call_isi (by rfl) ms (by decide +kernel) (pa_cons (pv 0) (pa_cons (pe_bltn (v := .ty "tuple") (by rfl) mt (by decide +kernel) rfl) pa_nil)))))
        (pw_or1 (pt_cmpR op_ne (pe_callB call_len_seq (by rfl) ml PySem.boot_len (pa_cons (pv 0) pa_nil)) (pv 1) (nomark _))))) (pss_one (ps_ret pe_bl)) pss_nil)
      (pss_one (ps_ret (pe_callB (cr_all rfl) (by rfl) ma (by decide +kernel) (pa_cons (pe_lc (own := [("item", 2)]) (g := gName 2) (by rfl) scAreNums.nd (pi_tup (pv 0))
        (blkOk_by (own := [("item", 2)]) (N := ["value", "count", "item"]) (sc := defScope sAreNums) (by decide +kernel)) (fun _ _ _ _ _ => pg_name (i := 2) scAreNums.nd rfl (Or.inl rfl)) (fun _ _ _ _ _ => pts_nil)
        (fun _ _ _ _ _ => pe_call GN hr (by rfl) gN kN bN .nil pass0 (pa_cons (pv 2) pa_nil))) pa_nil)))), ?_⟩
    refine ⟨_, rfl, _, _, _, _, true, rfl, .ty _, tyT hS, kit_ty (by decide +kernel), true, rfl, iteF ?_⟩
    refine ⟨_, rfl, a, _, rfl, .inr hS, _, rfl, rfl, _, rfl, iteNS (by rw [List.length_map, hc]) ?_⟩
    refine ⟨_, rfl, a, rfl, ⟨_, hS⟩, fun D nD => ?_⟩
    refine lc_tup (K := K) (a := a) (xs := ns.map V.int) (fun i H2 => Same H H2 ∧ H2 D = some (.lst ((List.replicate i true).map V.bl))) ⟨same_new nD, upd_same⟩ (fun i H2 _ ⟨sm, _⟩ => Same.sqT sm hS) ?_ ?_
    · rintro i x H2 hx ⟨sm, hD⟩
      obtain ⟨u, hu, rfl⟩ := map_get hx
      refine ⟨rfl, _, rfl, u, rfl, _, hD, ?_, ?_, ?_⟩
      · rw [List.length_map, List.length_replicate]
        have := (List.getElem?_eq_some_iff.mp hu).1
        exact small1000 (by omega)
      · intro b o e
        rw [upd_ne (ne_of_none e nD)]
        exact sm b o e
      · rw [upd_same, List.replicate_succ', List.map_append]
        rfl
    · rintro H2 ⟨sm, hD⟩
      refine ⟨D, _, rfl, SqL.of hD, ?_⟩
      have e : (List.replicate (ns.map V.int).length true).all id = true := by simp
      rw [e]
      exact q H2 sm
theorem ok_sides {f fN : Addr} {fd fdN : FuncData} {k : Nat} (F : Fun K "are_sides" "are_sides" sAreSides f fd) (ms : mg "isinstance" = none) (mt : mg "tuple" = none) (ml : mg "len" = none) (mm : mg "min" = none) {t3 : Tok} (mD : mg "MAX_DIRECTIONS" = some (.int 3 t3))
    (GN : FnOk P w K mg base CX0 (k + 2) fN fdN ["value", "count"] (spNums K)) (kN : PySem.W.keepIn K (.ref fN) = true) (bN : Binds K fdN ["value", "count"] []) (gN : mg "are_numbers" = some (.ref fN)) : FnOk P w K mg base CX0 (k + 3) f fd ["value", "least"] (spSides K) := by
  refine F.ok scAreSides (fun vs H Q E h => ?_) (fun cdv A outer s H vs Q E hr h => ?_)
  · obtain ⟨a, ns, rfl, _⟩ := h
    rfl
  · obtain ⟨a, ns, rfl, hS, h1, h3, hp, q⟩ := h
    refine ⟨_, pss_cons (ps_if (PW.pt (pw_or (pt_not (pt_val (pe_callB call_isi (by rfl) ms (by decide +kernel) (pa_cons (pv 0) (pa_cons (pe_bltn (v := .ty "tuple") (by rfl) mt (by decide +kernel) rfl) pa_nil)))))
        (pw_or1 (pt_not (pt_chain op_le op_le pe_int (pe_callB call_len_seq (by rfl) ml PySem.boot_len (pa_cons (pv 0) pa_nil)) (pe_glob (v := .int 3) (by rfl) mD ⟨_, rfl⟩)))))) (pss_one (ps_ret pe_bl)) pss_nil)
      (pss_one (ps_ret (pe_and (pe_call GN hr (by rfl) gN kN bN .nil pass0 (pa_cons (pv 0) (pa_cons (pe_callB call_len_seq (by rfl) ml PySem.boot_len (pa_cons (pv 0) pa_nil)) pa_nil)))
        (pe_one (pe_cmpR op_ge (pe_callB (cr_minT rfl (hu_of hr)) (by rfl) mm (by decide +kernel) (pa_cons (pv 0) pa_nil)) (pv 1) (nomark _)))))), ?_⟩
    refine ⟨_, rfl, _, _, _, _, true, rfl, .ty _, tyT hS, kit_ty (by decide +kernel), true, rfl, iteF ?_⟩
    have hl : (ns.map V.int).length = ns.length := List.length_map ..
    refine ⟨_, rfl, a, _, rfl, .inr hS, _, _, rfl, rfl, true, ?_, iteT ?_⟩
    · exact congrArg V.bl (decide_eq_true (by rw [hl]; omega))
    · refine ⟨_, _, rfl, rfl, true, congrArg V.bl (decide_eq_true (by rw [hl]; omega)), iteF ?_⟩
      refine ⟨_, rfl, _, rfl, a, _, rfl, .inr hS, a, ns, _, rfl, hS, (by rw [hl]), by omega, fun H1 sm => ⟨true, rfl, iteT ?_⟩⟩
      refine ⟨_, rfl, a, ns, rfl, Same.sqT sm hS, by omega, fun m hm => ⟨_, rfl, _, _, rfl, rfl, ?_⟩⟩
      have e : decide ((1 : Int) ≤ m) = true := decide_eq_true (hp m hm)
      show Q (V.bl (decide ((1 : Int) ≤ m))) H1
      rw [e]
      exact q H1 sm
theorem ok_chkplace {f fN : Addr} {fd fdN : FuncData} {k : Nat} (F : Fun K "check_place" "check_place" sChkPlace f fd)
    (GN : FnOk P w K mg base CX0 (k + 2) fN fdN ["value", "count"] (spNums K)) (kN : PySem.W.keepIn K (.ref fN) = true) (bN : Binds K fdN ["value", "count"] []) (gN : mg "are_numbers" = some (.ref fN)) : FnOk P w K mg base CX0 (k + 3) f fd ["place", "directions"] (spChkPlace K) := by
  refine F.ok scChkPlace (fun vs H Q E h => ?_) (fun cdv A outer s H vs Q E hr h => ?_)
  · obtain ⟨a, ns, c, rfl, _⟩ := h
    rfl
  · obtain ⟨a, ns, c, rfl, hS, h1, h3, q⟩ := h
    refine ⟨_, pss_one (ps_if (pt_not (pt_val (pe_call GN hr (by rfl) gN kN bN .nil pass0 (pa_cons (pv 0) (pa_cons (pv 1) pa_nil))))) pss_never pss_nil), ?_⟩
    exact ⟨_, rfl, _, rfl, a, ns, c, rfl, hS, h1, h3, fun H1 sm => ⟨true, rfl, iteF (q H1 sm)⟩⟩
theorem ok_chkdiv {f fN fM : Addr} {fd fdN fdM : FuncData} {k : Nat} (F : Fun K "check_divisors" "check_divisors" sChkDiv f fd) {t3 : Tok} (mC : mg "MAX_CLASSES" = some (.int 12 t3))
    (GN : FnOk P w K mg base CX0 (k + 3) fN fdN ["value", "least"] (spSides K)) (kN : PySem.W.keepIn K (.ref fN) = true) (bN : Binds K fdN ["value", "least"] []) (gN : mg "are_sides" = some (.ref fN))
    (GM : FnOk P w K mg base CX0 (k + 1) fM fdM ["numbers"] (spCount K)) (kM : PySem.W.keepIn K (.ref fM) = true) (bM : Binds K fdM ["numbers"] []) (gM : mg "product" = some (.ref fM)) : FnOk P w K mg base CX0 (k + 4) f fd ["divisors"] (spChkDiv K) := by
  refine F.ok scChkDiv (fun vs H Q E h => ?_) (fun cdv A outer s H vs Q E hr h => ?_)
  · obtain ⟨a, ns, rfl, _⟩ := h
    rfl
  · obtain ⟨a, ns, rfl, hS, h1, h3, D, q⟩ := h
    have hr1 : Room (k + 1) _ := hr.mono (by omega)
    refine ⟨_, pss_cons (ps_if (pt_not (pt_val (pe_call GN hr (by rfl) gN kN bN .nil pass0 (pa_cons (pv 0) (pa_cons pe_int pa_nil))))) pss_never pss_nil)
      (pss_one (ps_if (pt_cmpR op_gt (pe_call GM hr1 (by rfl) gM kM bM .nil pass0 (pa_cons (pv 0) pa_nil)) (pe_glob (v := .int 12) (by rfl) mC ⟨_, rfl⟩) (nomark _)) pss_never pss_nil)), ?_⟩
    refine ⟨_, rfl, a, ns, rfl, hS, h1, h3, D.one, fun H1 sm => ⟨true, rfl, iteF ?_⟩⟩
    refine ⟨_, rfl, a, ns, rfl, Same.sqT sm hS, D, _, _, rfl, rfl, false, ?_, iteF (q H1 sm)⟩
    exact congrArg V.bl (decide_eq_false (by have := D.most; omega))
theorem ok_classcount {f fN fM : Addr} {fd fdN fdM : FuncData} {k : Nat} (F : Fun K "class_count" "class_count" sClassCount f fd)
    (GN : FnOk P w K mg base CX0 (k + 4) fN fdN ["divisors"] (spChkDiv K)) (kN : PySem.W.keepIn K (.ref fN) = true) (bN : Binds K fdN ["divisors"] []) (gN : mg "check_divisors" = some (.ref fN))
    (GM : FnOk P w K mg base CX0 (k + 1) fM fdM ["numbers"] (spCount K)) (kM : PySem.W.keepIn K (.ref fM) = true) (bM : Binds K fdM ["numbers"] []) (gM : mg "product" = some (.ref fM)) : FnOk P w K mg base CX0 (k + 5) f fd ["divisors"] (spClassCount K) := by
  refine F.ok scClassCount (fun vs H Q E h => ?_) (fun cdv A outer s H vs Q E hr h => ?_)
  · obtain ⟨a, ns, rfl, _⟩ := h
    rfl
  · obtain ⟨a, ns, rfl, hS, h1, h3, D, q⟩ := h
    have hr1 : Room (k + 1) _ := hr.mono (by omega)
    refine ⟨_, pss_cons (ps_expr (pe_call GN hr (by rfl) gN kN bN .nil pass0 (pa_cons (pv 0) pa_nil))) (pss_one (ps_ret (pe_call GM hr1 (by rfl) gM kM bM .nil pass0 (pa_cons (pv 0) pa_nil)))), ?_⟩
    exact ⟨_, rfl, a, ns, rfl, hS, h1, h3, D, fun H1 sm => ⟨_, rfl, a, ns, rfl, Same.sqT sm hS, D, q H1 sm⟩⟩
theorem ok_classat {f : Addr} {fd : FuncData} {k : Nat} (F : Fun K "class_at" "class_at" sClassAt f fd) (mz : mg "zip" = none) : FnOk P w K mg base CX0 (k + 1) f fd ["divisors", "place"] (spClassAt K) := by
  refine F.ok scClassAt (fun vs H Q E h => ?_) (fun cdv A outer s H vs Q E hr h => ?_)
  · obtain ⟨a, c, ds, ps, rfl, _⟩ := h
    rfl
  · obtain ⟨a, c, ds, ps, rfl, hA, hB, hl, D, q⟩ := h
    refine ⟨_, pss_cons (ps_set (i := 2) scClassAt.nd rfl (.inl rfl) pe_int)
      (pss_cons (ps_for PassesOwn.never rfl (RZ.pi_zipA (by rfl) mz (pa_cons (pv 0) (pa_cons (pv 1) pa_nil))) (pg_tup rfl (pgs_cons (pg_name (i := 3) scClassAt.nd rfl (.inl rfl)) (pgs_cons (pg_name (i := 4) scClassAt.nd rfl (.inl rfl)) pgs_nil)))
        (pss_one (ps_set (i := 2) scClassAt.nd rfl (.inl rfl) (pe_op op_add (pe_op op_mul (pv 2) (pv 3)) (pe_op op_mod (pv 4) (pv 3))))))
      (pss_one (ps_ret (pv 2)))), ?_⟩
    have hle : (ds.map V.int).length = (ps.map V.int).length := by rw [List.length_map, List.length_map, hl]
    refine ⟨_, rfl, _, rfl, a, c, _, _, rfl, .inr ⟨hA, hB, ?_⟩⟩
    refine for_it (walk_zipT hle) (fun i σ H2 => ∃ v3 v4 : Option V, σ = [some (.ref a), some (.ref c), some (.int (clsF ((ds.zip ps).take i) 0)), v3, v4] ∧ Same H H2) ⟨none, none, rfl, Same.refl _⟩ (fun i σ H2 _ ⟨_, _, _, sm⟩ => ⟨Same.sqT sm hA, Same.sqT sm hB⟩) ?_ ?_
    · rintro i x σ H2 H3 hi ⟨v3, v4, rfl, sm⟩ ⟨T, x1, x2, rfl, nT, rfl, f1, f2⟩
      obtain ⟨u, hu, rfl⟩ := map_get f1
      obtain ⟨v, hv, rfl⟩ := map_get f2
      have bd := cls_bound hl D.one i
      have pt := D.part i
      have hu1 := D.one u (List.mem_of_getElem? hu)
      have gz : (ds.zip ps)[i]? = some (u, v) := by
        rw [List.getElem?_zip_eq_some]
        exact ⟨hu, hv⟩
      refine ⟨T, _, rfl, SqT.of upd_same, rfl, _, _, rfl, _, _, rfl, rfl, ?_⟩
      refine ⟨_, rfl, _, rfl, _, _, rfl, rfl, .inl ⟨by omega, by omega⟩, _, rfl, _, rfl, _, _, rfl, rfl, (by show (0 : Int) < u; omega), _, _, rfl, rfl, ?_⟩
      refine ⟨some (.int u), some (.int v), ?_, sm.trans (same_new nT)⟩
      rw [take_more gz]
      unfold clsF
      rw [List.foldl_append]
      rfl
    · rintro σ H2 ⟨v3, v4, rfl, sm⟩
      refine ⟨_, rfl, ?_⟩
      rw [List.take_of_length_le (by rw [List.length_zip, List.length_map]; omega)]
      exact q H2 sm
end
end Lk

namespace PySem
open PySem.AutoSeq1
theorem lk_extend_tuple (l : Addr) (items : Array Value) (n : Nat) (b : Addr) (items2 : Array Value) (n2 : Nat) (od : Option Addr) (sl : Array (Option Value)) (hs0 : ¬(!items.isEmpty && Builtin.List.listTooLong (items.size + items2.size)) = true) (hs1 : items.size ≤ sizeLine) (hs2 : items.size + items2.size ≤ sizeLine + 1) :
    Meets (Builtin.«list.extend» ⟨[.ref l, .ref b], []⟩) (fun _ R s => s.heap.get? l = some { cls := .type "list", dict := none, data := .seq items n, slots := #[] } ∧ s.heap.get? b = some { cls := .type "tuple", dict := od, data := .seq items2 n2, slots := sl } ∧
      R (.ok (.ret Value.none)) { s with heap := s.heap.update l (Obj.mapSeq fun x => x ++ items2), toks := s.toks }) :=
  .of_wp fun prog w A R s h => by
    obtain ⟨hp, g, d, tk, os⟩ := s
    obtain ⟨hl, hb, h⟩ := h
    have f1 := idx_int
    have f2 := sub_tuple_tuple
    have f3 := sub_list_list
    have f4 := sub_tuple_list
    have f5 := sub_list_tuple
    have hz' : (items ++ items2).size ≤ sizeLine + 1 := by
      rw [Array.size_append]
      exact hs2
    wp_walk using (wpAny_updateSeq hl rfl (hz := hs1) (_hz' := hz')), wpAny_loadPart' hl, wpAny_loadPart' hb
    exact ⟨_, rfl, h⟩
end PySem
namespace Lk
open PySem L2
def rExtT (K : PySem.W.Frag) : V → List V → Hp → VK → Prop := fun x vs H Q => ∃ l b xs zs, x = .ref l ∧ vs = [.ref b] ∧ H l = some (.lst xs) ∧ SqT K H b zs ∧ xs.length + zs.length ≤ sizeLine ∧ Q .non (upd H l (.lst (xs ++ zs)))
theorem mt_extT {X : Cx} : MtM X "list.extend" (rExtT X.K) := by
  intro pins s σ H x vs v us Q I rx rv h
  obtain ⟨l, b, xs, zs, rfl, rfl, hH, hB, hz, q⟩ := h
  cases rx
  obtain ⟨u, rfl, ru⟩ := rv.one
  cases ru
  obtain ⟨z, its, n, r, hl, e⟩ := I.lstM hH
  obtain ⟨its2, r2, ⟨o, e2, hcl, n2, hdt⟩, z2⟩ := I.tuple hB
  obtain ⟨oc, od, dt, sl⟩ := o
  simp only at hcl hdt
  subst hcl hdt
  have q1 := r.length
  have q2 := r2.length
  have hsz : its.toArray.size + its2.toArray.size ≤ sizeLine := by
    rw [List.size_toArray, List.size_toArray]
    omega
  have hlong : ¬ (!its.toArray.isEmpty && Builtin.List.listTooLong (its.toArray.size + its2.toArray.size)) = true := by
    rw [notLongL hsz, Bool.and_false]
    exact Bool.false_ne_true
  refine call_meets F.slot_list_extend ⟨_, e, rfl⟩ F.entry_list_extend (F.args_list_extend_2 _ _) (lk_extend_tuple l its.toArray n b its2.toArray n2 od sl hlong (by rw [List.size_toArray]; omega) (by omega)) ⟨e, e2, ?_⟩
  refine ⟨.non, _, I.lset (its' := its ++ its2) hH e (by simp) (r.append r2) ?_, rfl, q⟩
  rw [List.length_append]
  omega
end Lk

namespace Lk
open PySem L2
/-! ### trees -/
mutual
inductive Tr where
  | pl
  | key (row hs : List Int) (t : Tr)
  | fork (gs : Gs)
inductive Gs where
  | nil
  | cons (cs : List Int) (t : Tr) (r : Gs)
end
mutual
def Tr.size : Tr → Nat
  | .pl => 1
  | .key _ _ t => t.size + 1
  | .fork gs => gs.size + 1
def Gs.size : Gs → Nat
  | .nil => 0
  | .cons _ t r => t.size + r.size
end
mutual
def Tr.dep : Tr → Nat
  | .pl => 1
  | .key _ _ t => t.dep + 1
  | .fork gs => gs.dep + 1
def Gs.dep : Gs → Nat
  | .nil => 0
  | .cons _ t r => max t.dep r.dep
end
def Gs.classes : Gs → List Int
  | .nil => []
  | .cons cs _ r => cs ++ r.classes
def Gs.trees : Gs → List Tr
  | .nil => []
  | .cons _ t r => t :: r.trees
def Gs.heads : Gs → List (List Int)
  | .nil => []
  | .cons cs _ r => cs :: r.heads
def rng0 (n : Nat) : List Int := (List.range n).map fun i => ((i : Nat) : Int)
mutual
def Tr.wf (d n : Nat) : Tr → Prop
  | .pl => True
  | .key row hs t => row.length = d ∧ hs.length = n ∧ (∀ z ∈ row, -(2 ^ 64) < z ∧ z < 2 ^ 64) ∧ t.wf d n
  | .fork gs => gs.classes.Perm (rng0 n) ∧ gs.wf d n
def Gs.wf (d n : Nat) : Gs → Prop
  | .nil => True
  | .cons cs t r => (cs ≠ [] ∧ cs.Pairwise (· < ·)) ∧ t.wf d n ∧ r.wf d n
end
mutual
def TrAt (K : PySem.W.Frag) (H : Hp) : Tr → V → Prop
  | .pl, v => ∃ a, v = .ref a ∧ SqT K H a [.str "places"]
  | .key row hs t, v => ∃ a ra ha tv, v = .ref a ∧ SqT K H a [.str "key", .ref ra, .ref ha, tv] ∧ SqT K H ra (row.map V.int) ∧ SqT K H ha (hs.map V.int) ∧ TrAt K H t tv
  | .fork gs, v => ∃ a ga vs, v = .ref a ∧ SqT K H a [.str "fork", .ref ga] ∧ SqT K H ga vs ∧ GsAt K H gs vs
def GsAt (K : PySem.W.Frag) (H : Hp) : Gs → List V → Prop
  | .nil, vs => vs = []
  | .cons cs t r, vs => ∃ pa ca tv vr, vs = .ref pa :: vr ∧ SqT K H pa [.ref ca, tv] ∧ SqT K H ca (cs.map V.int) ∧ TrAt K H t tv ∧ GsAt K H r vr
end
def Tups (K : PySem.W.Frag) (H H' : Hp) : Prop := ∀ a xs, SqT K H a xs → SqT K H' a xs
theorem Same.tups {K : PySem.W.Frag} {H H' : Hp} (e : Same H H') : Tups K H H' := fun _ _ h => Same.sqT e h
theorem But.tups {K : PySem.W.Frag} {b l : Addr} {H H' : Hp} (B : BagAt H b l) (e : But b H H') : Tups K H H' := fun _ _ h => e.sqT B h
mutual
theorem TrAt.mono {K : PySem.W.Frag} {H H' : Hp} (e : Tups K H H') : ∀ {t : Tr} {v : V}, TrAt K H t v → TrAt K H' t v
  | .pl, v, h => by
    simp only [TrAt] at h ⊢
    obtain ⟨a, h1, h2⟩ := h
    exact ⟨a, h1, e _ _ h2⟩
  | .key row hs t, v, h => by
    simp only [TrAt] at h ⊢
    obtain ⟨a, ra, ha, tv, h1, h2, h3, h4, h5⟩ := h
    exact ⟨a, ra, ha, tv, h1, e _ _ h2, e _ _ h3, e _ _ h4, TrAt.mono e h5⟩
  | .fork gs, v, h => by
    simp only [TrAt] at h ⊢
    obtain ⟨a, ga, vs, h1, h2, h3, h4⟩ := h
    exact ⟨a, ga, vs, h1, e _ _ h2, e _ _ h3, GsAt.mono e h4⟩
theorem GsAt.mono {K : PySem.W.Frag} {H H' : Hp} (e : Tups K H H') : ∀ {g : Gs} {vs : List V}, GsAt K H g vs → GsAt K H' g vs
  | .nil, vs, h => by
    simp only [GsAt] at h ⊢
    exact h
  | .cons cs t r, vs, h => by
    simp only [GsAt] at h ⊢
    obtain ⟨pa, ca, tv, vr, h1, h2, h3, h4, h5⟩ := h
    exact ⟨pa, ca, tv, vr, h1, e _ _ h2, e _ _ h3, TrAt.mono e h4, GsAt.mono e h5⟩
end
/-! ### as data -/
mutual
def Tr.toD : Tr → PyData
  | .pl => .tuple [.str "places"]
  | .key row hs t => .tuple [.str "key", .tuple (row.map .int), .tuple (hs.map .int), t.toD]
  | .fork gs => .tuple [.str "fork", .tuple gs.toDs]
def Gs.toDs : Gs → List PyData
  | .nil => []
  | .cons cs t r => .tuple [.tuple (cs.map .int), t.toD] :: r.toDs
end
theorem dpInts {K : PySem.W.Frag} {H : Hp} : ∀ ns : List Int, DpAll K H (ns.map V.int) (ns.map PyData.int)
  | [] => .nil
  | n :: r => .cons (.int n) (dpInts r)
mutual
theorem TrAt.dp {K : PySem.W.Frag} {H : Hp} : ∀ {t : Tr} {v : V}, TrAt K H t v → Dp K H v t.toD
  | .pl, v, h => by
    simp only [TrAt] at h
    obtain ⟨a, rfl, h2⟩ := h
    exact .tup h2 (.cons (.str _) .nil)
  | .key row hs t, v, h => by
    simp only [TrAt] at h
    obtain ⟨a, ra, ha, tv, rfl, h2, h3, h4, h5⟩ := h
    exact .tup h2 (.cons (.str _) (.cons (.tup h3 (dpInts _)) (.cons (.tup h4 (dpInts _)) (.cons (TrAt.dp h5) .nil))))
  | .fork gs, v, h => by
    simp only [TrAt] at h
    obtain ⟨a, ga, vs, rfl, h2, h3, h4⟩ := h
    exact .tup h2 (.cons (.str _) (.cons (.tup h3 (GsAt.dp h4)) .nil))
theorem GsAt.dp {K : PySem.W.Frag} {H : Hp} : ∀ {g : Gs} {vs : List V}, GsAt K H g vs → DpAll K H vs g.toDs
  | .nil, vs, h => by
    simp only [GsAt] at h
    subst h
    exact .nil
  | .cons cs t r, vs, h => by
    simp only [GsAt] at h
    obtain ⟨pa, ca, tv, vr, rfl, h2, h3, h4, h5⟩ := h
    exact .cons (.tup h2 (.cons (.tup h3 (dpInts _)) (.cons (TrAt.dp h4) .nil))) (GsAt.dp h5)
end
theorem canInts : ∀ ns : List Int, PyData.canLayAll0 (ns.map PyData.int) = true
  | [] => rfl
  | _ :: r => by simp [PyData.canLayAll0, PyData.canLay0, canInts r]
theorem depInts : ∀ ns : List Int, PyData.depthAll (ns.map PyData.int) = 0
  | [] => rfl
  | _ :: r => by simp [PyData.depthAll, PyData.depth, depInts r]
theorem okP : PyData.strOk (Str.ofString "places") = true := by decide +kernel
theorem okK : PyData.strOk (Str.ofString "key") = true := by decide +kernel
theorem okF : PyData.strOk (Str.ofString "fork") = true := by decide +kernel
mutual
theorem Tr.can : ∀ t : Tr, t.toD.canLay0 = true
  | .pl => by simp [Tr.toD, PyData.canLay0, PyData.canLayAll0, okP]
  | .key row hs t => by simp [Tr.toD, PyData.canLay0, PyData.canLayAll0, canInts, Tr.can t, okK]
  | .fork gs => by simp [Tr.toD, PyData.canLay0, PyData.canLayAll0, Gs.can gs, okF]
theorem Gs.can : ∀ g : Gs, PyData.canLayAll0 g.toDs = true
  | .nil => by simp [Gs.toDs, PyData.canLayAll0]
  | .cons cs t r => by simp [Gs.toDs, PyData.canLay0, PyData.canLayAll0, canInts, Tr.can t, Gs.can r]
end
mutual
theorem Tr.deep : ∀ t : Tr, t.toD.depth ≤ 3 * t.dep ∧ 1 ≤ t.dep
  | .pl => by simp [Tr.toD, PyData.depth, PyData.depthAll, Tr.dep]
  | .key row hs t => by
    have h := Tr.deep t
    simp only [Tr.toD, PyData.depth, PyData.depthAll, Tr.dep, depInts]
    omega
  | .fork gs => by
    have h := Gs.deep gs
    simp only [Tr.toD, PyData.depth, PyData.depthAll, Tr.dep]
    omega
theorem Gs.deep : ∀ g : Gs, PyData.depthAll g.toDs ≤ 3 * g.dep + 1
  | .nil => by simp [Gs.toDs, PyData.depthAll]
  | .cons cs t r => by
    have h := Tr.deep t
    have h2 := Gs.deep r
    simp only [Gs.toDs, PyData.depth, PyData.depthAll, Gs.dep, depInts]
    omega
end
theorem Tr.shaped {t : Tr} (h : t.dep ≤ 20) : SeqAt.shaped t.toD = true := by
  have h2 := Tr.deep t
  unfold SeqAt.shaped
  rw [Tr.can t, decide_eq_true (by omega)]
  rfl
theorem eqv_pl : ∀ t : Tr, PyData.eqv t.toD (PyData.tuple [.str "places"]) = (match t with | .pl => true | _ => false)
  | .pl => by
    simp [Tr.toD, PyData.eqv, PyData.eqvAll]
  | .key _ _ _ => by simp [Tr.toD, PyData.eqv, PyData.eqvAll]
  | .fork _ => by simp [Tr.toD, PyData.eqv, PyData.eqvAll]
theorem eqv_ints : ∀ ns : List Int, PyData.eqvAll (ns.map PyData.int) (ns.map PyData.int) = true
  | [] => by simp [PyData.eqvAll]
  | n :: r => by simp [PyData.eqvAll, PyData.eqv, eqv_ints r]
theorem ints_sorted (n : Nat) : (rng0 n).Pairwise (· ≤ ·) := by
  unfold rng0
  rw [List.pairwise_map]
  exact List.Pairwise.imp (fun h => by omega) (List.pairwise_lt_range (n := n))
theorem rg_ints (n : Nat) : rgV 0 (n : Int) = (rng0 n).map V.int := by
  unfold rgV rng0
  rw [List.map_map]
  simp
/-- zip of two tuples of any lengths, walked -/
theorem walk_zipM {K : PySem.W.Frag} {a b : Addr} {xs ys : List V} {n : Nat} (e : n = min xs.length ys.length) :
    Walk (RZ.ItzT K a b) n (fun H => SqT K H a xs ∧ SqT K H b ys) (YPair (fun j => xs[j]?) (fun j => ys[j]?)) := by
  constructor
  · intro i H hi q
    have h1 : i < xs.length := by omega
    have h2 : i < ys.length := by omega
    exact ⟨xs, ys, xs[i], ys[i], q.1, q.2, List.getElem?_eq_getElem h1, List.getElem?_eq_getElem h2⟩
  · intro H q
    exact ⟨xs, ys, q.1, q.2, by omega⟩
  · rintro i H v H' hi q ⟨T, x, z, h1, h2, h3, h4, h5⟩
    exact ⟨T, x, z, h1, h2, h3, h4 xs q.1, h5 ys q.2⟩
theorem cut_one {xs : List V} (h : xs ≠ []) : cutV xs (some 1) none = xs.drop 1 ∧ ¬ (HT.sIx xs.length 0 (some 1) = 0 ∧ HT.sIx xs.length xs.length none = xs.length) := by
  have e : HT.sIx xs.length 0 (some 1) = 1 := by
    have e1 : HT.sIx xs.length 0 (some 1) = min 1 xs.length := HT.sIx_nat xs.length 0 1
    have : 0 < xs.length := List.length_pos_iff.mpr h
    omega
  refine ⟨?_, fun z => by rw [e] at z; exact absurd z.1 (by decide)⟩
  unfold cutV
  rw [e, HT.sIx_none]
  exact List.take_of_length_le (by rw [List.length_drop]; omega)
/-! ### promises -/
def spAsc (K : PySem.W.Frag) : Sp := fun vs H Q _ => ∃ (a : Addr) (ns : List Int), vs = [.ref a] ∧ SqT K H a (ns.map V.int) ∧ ns ≠ [] ∧ ns.length ≤ 100 ∧ ns.Pairwise (· < ·) ∧ ∀ H', Same H H' → Q (.bl true) H'
def spGroups (K : PySem.W.Frag) : Sp := fun vs H Q _ => ∃ (a : Addr) (ws : List V) (gs : Gs) (d n : Nat), vs = [.ref a, .int n] ∧ SqT K H a ws ∧ GsAt K H gs ws ∧ n ≤ 12 ∧ gs.classes.Perm (rng0 n) ∧ gs.wf d n ∧ ∀ H', Same H H' → Q (.bl true) H'
section
variable {P : Program} {w : World} {K : PySem.W.Frag} {mg : Str → Option Value} {base : Heap}
end
end Lk

namespace Lk
open PySem L2
theorem Gs.heads_len : ∀ g : Gs, g.heads.length = g.trees.length
  | .nil => rfl
  | .cons _ _ r => by simp [Gs.heads, Gs.trees, Gs.heads_len r]
theorem Gs.flat : ∀ g : Gs, g.classes = g.heads.flatten
  | .nil => rfl
  | .cons _ _ r => by simp [Gs.classes, Gs.heads, Gs.flat r]
theorem Gs.wf_heads {d n : Nat} : ∀ {g : Gs}, g.wf d n → ∀ cs ∈ g.heads, cs ≠ [] ∧ cs.Pairwise (· < ·)
  | .nil, _, _, h => by cases h
  | .cons c t r, w, cs, h => by
    simp only [Gs.wf] at w
    rcases List.mem_cons.mp h with e | e
    · rw [e]
      exact w.1
    · exact Gs.wf_heads w.2.2 cs e
theorem Gs.wf_trees {d n : Nat} : ∀ {g : Gs}, g.wf d n → ∀ t ∈ g.trees, t.wf d n
  | .nil, _, _, h => by cases h
  | .cons c t r, w, t', h => by
    simp only [Gs.wf] at w
    rcases List.mem_cons.mp h with e | e
    · rw [e]
      exact w.2.1
    · exact Gs.wf_trees w.2.2 t' e
theorem GsAt.len {K : PySem.W.Frag} {H : Hp} : ∀ {g : Gs} {ws : List V}, GsAt K H g ws → ws.length = g.heads.length
  | .nil, ws, h => by
    simp only [GsAt] at h
    rw [h]
    rfl
  | .cons c t r, ws, h => by
    simp only [GsAt] at h
    obtain ⟨pa, ca, tv, vr, rfl, h2, h3, h4, h5⟩ := h
    simp [Gs.heads, GsAt.len h5]
theorem GsAt.get {K : PySem.W.Frag} {H : Hp} : ∀ {g : Gs} {ws : List V} {i : Nat} {y : V}, GsAt K H g ws → ws[i]? = some y →
    ∃ pa ca tv cs t, y = .ref pa ∧ SqT K H pa [.ref ca, tv] ∧ SqT K H ca (cs.map V.int) ∧ TrAt K H t tv ∧ g.heads[i]? = some cs ∧ g.trees[i]? = some t
  | .nil, ws, i, y, h, e => by
    simp only [GsAt] at h
    rw [h] at e
    simp at e
  | .cons c t r, ws, 0, y, h, e => by
    simp only [GsAt] at h
    obtain ⟨pa, ca, tv, vr, rfl, h2, h3, h4, h5⟩ := h
    exact ⟨pa, ca, tv, c, t, (Option.some.inj e).symm, h2, h3, h4, rfl, rfl⟩
  | .cons c t r, ws, i + 1, y, h, e => by
    simp only [GsAt] at h
    obtain ⟨pa, ca, tv, vr, rfl, h2, h3, h4, h5⟩ := h
    exact GsAt.get (g := r) (ws := vr) (i := i) h5 (by simpa using e)
def TrsAt (K : PySem.W.Frag) (H : Hp) : List Tr → List V → Prop
  | [], ws => ws = []
  | t :: r, ws => ∃ v vr, ws = v :: vr ∧ TrAt K H t v ∧ TrsAt K H r vr
theorem TrsAt.mono {K : PySem.W.Frag} {H H' : Hp} (e : Tups K H H') : ∀ {ts : List Tr} {ws : List V}, TrsAt K H ts ws → TrsAt K H' ts ws
  | [], _, h => h
  | t :: r, _, ⟨v, vr, h1, h2, h3⟩ => ⟨v, vr, h1, TrAt.mono e h2, TrsAt.mono e h3⟩
theorem TrsAt.app {K : PySem.W.Frag} {H : Hp} : ∀ {ts : List Tr} {ws : List V} {t : Tr} {v : V}, TrsAt K H ts ws → TrAt K H t v → TrsAt K H (ts ++ [t]) (ws ++ [v])
  | [], _, t, v, h, q => by
    have h : _ = [] := h
    subst h
    exact ⟨v, [], rfl, q, rfl⟩
  | t :: r, _, t', v', ⟨v, vr, h1, h2, h3⟩, q => ⟨v, vr ++ [v'], by rw [h1]; rfl, h2, TrsAt.app h3 q⟩
def Tr.kids : Tr → List Tr
  | .pl => []
  | .key _ _ t => [t]
  | .fork gs => gs.trees
def Tr.isKey : Tr → Bool
  | .key _ _ _ => true
  | _ => false
def Tr.isFork : Tr → Bool
  | .fork _ => true
  | _ => false
theorem flat_take {α : Type} : ∀ (l : List (List α)) (i : Nat), (l.take i).flatten.length ≤ l.flatten.length
  | [], i => by simp
  | x :: r, 0 => by simp
  | x :: r, i + 1 => by
    have := flat_take r i
    simp only [List.take_succ_cons, List.flatten_cons, List.length_append]
    omega
theorem rng0_len (n : Nat) : (rng0 n).length = n := by simp [rng0]
/-! ### promises -/
def spIsKey (K : PySem.W.Frag) : Sp := fun vs H Q _ => ∃ (v : V) (t : Tr) (d n : Nat), vs = [v, .int d, .int n] ∧ TrAt K H t v ∧ t.wf d n ∧ d ≤ 3 ∧ n ≤ 12 ∧ ∀ H', Same H H' → Q (.bl t.isKey) H'
def spIsFork (K : PySem.W.Frag) : Sp := fun vs H Q _ => ∃ (v : V) (t : Tr) (d n : Nat), vs = [v, .int n] ∧ TrAt K H t v ∧ t.wf d n ∧ n ≤ 12 ∧ ∀ H', Same H H' → Q (.bl t.isFork) H'
def spInner (K : PySem.W.Frag) : Sp := fun vs H Q _ => ∃ (v : V) (t : Tr) (d n : Nat), vs = [v, .int d, .int n] ∧ TrAt K H t v ∧ t.wf d n ∧ d ≤ 3 ∧ n ≤ 12 ∧ SeqAt.shaped t.toD = true ∧
  ∀ H' p ws, Same H H' → H p = none → H' p = some (.lst ws) → TrsAt K H' t.kids ws → Q (.ref p) H'
section
variable {P : Program} {w : World} {K : PySem.W.Frag} {mg : Str → Option Value} {base : Heap}
end
end Lk

namespace Lk
open PySem L2
theorem TrsAt.get {K : PySem.W.Frag} {H : Hp} : ∀ {ts : List Tr} {ws : List V} {i : Nat} {y : V}, TrsAt K H ts ws → ws[i]? = some y → ∃ t, ts[i]? = some t ∧ TrAt K H t y
  | [], _, i, y, h, e => by
    have h : _ = [] := h
    rw [h] at e
    simp at e
  | t :: r, _, 0, y, ⟨v, vr, h1, h2, h3⟩, e => by
    rw [h1] at e
    have e2 : v = y := Option.some.inj e
    exact ⟨t, rfl, e2 ▸ h2⟩
  | t :: r, _, i + 1, y, ⟨v, vr, h1, h2, h3⟩, e => by
    rw [h1] at e
    exact TrsAt.get (ts := r) (ws := vr) (i := i) h3 (by simpa using e)
theorem TrsAt.len {K : PySem.W.Frag} {H : Hp} : ∀ {ts : List Tr} {ws : List V}, TrsAt K H ts ws → ws.length = ts.length
  | [], _, h => by
    have h : _ = [] := h
    rw [h]
    rfl
  | t :: r, _, ⟨v, vr, h1, h2, h3⟩ => by
    rw [h1, List.length_cons, List.length_cons, TrsAt.len h3]
/-- the stack, its top first -/
def WR (K : PySem.W.Frag) (H : Hp) : List (Tr × Nat) → List V → Prop
  | [], ws => ws = []
  | (t, d) :: r, ws => ∃ p v wr, ws = wr ++ [.ref p] ∧ SqT K H p [v, .int d] ∧ TrAt K H t v ∧ WR K H r wr
theorem WR.mono {K : PySem.W.Frag} {H H' : Hp} (e : Tups K H H') : ∀ {l : List (Tr × Nat)} {ws : List V}, WR K H l ws → WR K H' l ws
  | [], _, h => h
  | (t, d) :: r, _, ⟨p, v, wr, h1, h2, h3, h4⟩ => ⟨p, v, wr, h1, e _ _ h2, TrAt.mono e h3, WR.mono e h4⟩
theorem WR.len {K : PySem.W.Frag} {H : Hp} : ∀ {l : List (Tr × Nat)} {ws : List V}, WR K H l ws → ws.length = l.length
  | [], _, h => by
    have h : _ = [] := h
    rw [h]
    rfl
  | (t, d) :: r, _, ⟨p, v, wr, h1, h2, h3, h4⟩ => by rw [h1, List.length_append, WR.len h4]; rfl
def sizes (l : List (Tr × Nat)) : Nat := (l.map fun q => q.1.size).sum
theorem sizes_app (a b : List (Tr × Nat)) : sizes (a ++ b) = sizes a + sizes b := by simp [sizes]
theorem Gs.sizes_trees : ∀ g : Gs, (g.trees.map Tr.size).sum = g.size
  | .nil => by simp [Gs.trees, Gs.size]
  | .cons _ t r => by simp [Gs.trees, Gs.size, Gs.sizes_trees r]
theorem Tr.size_kids : ∀ t : Tr, t.size = 1 + (t.kids.map Tr.size).sum
  | .pl => by simp [Tr.size, Tr.kids]
  | .key _ _ t => by simp [Tr.size, Tr.kids]; omega
  | .fork g => by simp [Tr.size, Tr.kids, Gs.sizes_trees g]; omega
theorem Gs.dep_trees : ∀ (g : Gs) (t : Tr), t ∈ g.trees → t.dep ≤ g.dep
  | .nil, t, h => by cases h
  | .cons c u r, t, h => by
    simp only [Gs.dep]
    rcases List.mem_cons.mp h with e | e
    · rw [e]
      omega
    · have := Gs.dep_trees r t e
      omega
theorem Tr.kid_dep {t k : Tr} (h : k ∈ t.kids) : k.dep + 1 ≤ t.dep := by
  cases t with
  | pl => cases h
  | key _ _ t =>
    simp only [Tr.kids, List.mem_singleton] at h
    subst h
    simp [Tr.dep]
  | fork g =>
    have := Gs.dep_trees g k h
    simp only [Tr.dep]
    omega
theorem Tr.kid_wf {d n : Nat} {t k : Tr} (h : k ∈ t.kids) (w : t.wf d n) : k.wf d n := by
  cases t with
  | pl => cases h
  | key _ _ t =>
    simp only [Tr.kids, List.mem_singleton] at h
    subst h
    simp only [Tr.wf] at w
    exact w.2.2.2
  | fork g =>
    simp only [Tr.wf] at w
    exact Gs.wf_trees w.2 k h
theorem Tr.size_pos (t : Tr) : 1 ≤ t.size := by
  rw [Tr.size_kids]
  omega
theorem len_sizes : ∀ l : List (Tr × Nat), l.length ≤ sizes l
  | [] => by simp [sizes]
  | q :: r => by
    have h1 := len_sizes r
    have h2 := Tr.size_pos q.1
    simp only [sizes, List.map_cons, List.sum_cons, List.length_cons] at h1 ⊢
    omega
/-- a list at o grows: tuples stay -/
theorem tups_lst {K : PySem.W.Frag} {H : Hp} {o : Addr} {xs : List V} {u : HO} (h : H o = some (.lst xs)) : Tups K H (upd H o u) := fun b ys e => by
  rcases e with (e | ⟨x, e⟩) | e
  · exact .inl (.inl (by rw [upd_ne (ne_of e h (by intro z; cases z))]; exact e))
  · exact .inl (.inr ⟨x, by rw [upd_ne (ne_of e h (by intro z; cases z))]; exact e⟩)
  · exact .inr e
theorem Same.upd_out {H H' : Hp} {o : Addr} {u : HO} (sm : Same H H') (n : H o = none) : Same H (upd H' o u) := fun b x e => by
  rw [upd_ne (ne_of_none e n)]
  exact sm b x e
def spNodes (K : PySem.W.Frag) : Sp := fun vs H Q _ => ∃ (v : V) (a : Addr) (t : Tr) (ds : List Int) (n : Nat), vs = [v, .ref a, .int 200, .int 20] ∧ TrAt K H t v ∧ SqT K H a (ds.map V.int) ∧ Divs ds ∧ ds.length ≤ 3 ∧ prodL ds = (n : Int) ∧ t.wf ds.length n ∧ t.size ≤ 200 ∧ t.dep ≤ 20 ∧
  ∀ H', Same H H' → Q (.int t.size) H'
section
variable {P : Program} {w : World} {K : PySem.W.Frag} {mg : Str → Option Value} {base : Heap}
end
end Lk

namespace Lk
open PySem L2
/-! ### the numbers of a place along a tree -/
mutual
def pth : Tr → Int → List Int → List Int
  | .pl, _, _ => []
  | .key row hs t, c, x => (dotL row x + hs.getD c.toNat 0) :: pth t c x
  | .fork gs, c, x => pthG gs 0 c x
def pthG : Gs → Int → Int → List Int → List Int
  | .nil, _, _, _ => []
  | .cons cs t r, i, c, x => if c ∈ cs then i :: pth t c x else pthG r (i + 1) c x
end
theorem pthG_at : ∀ {g : Gs} {j : Nat} {cs : List Int} {t : Tr} (i c : Int) (x : List Int), g.heads[j]? = some cs → g.trees[j]? = some t → c ∈ cs → (∀ m cs', m < j → g.heads[m]? = some cs' → c ∉ cs') → pthG g i c x = (i + j) :: pth t c x
  | .nil, j, cs, t, i, c, x, h, _, _, _ => by simp [Gs.heads] at h
  | .cons c0 t0 r, 0, cs, t, i, c, x, h1, h2, h3, _ => by
    have e1 : c0 = cs := Option.some.inj h1
    have e2 : t0 = t := Option.some.inj h2
    subst e1 e2
    simp only [pthG]
    rw [if_pos h3]
    simp
  | .cons c0 t0 r, j + 1, cs, t, i, c, x, h1, h2, h3, h4 => by
    have h0 : c ∉ c0 := h4 0 c0 (by omega) rfl
    simp only [pthG]
    rw [if_neg h0, pthG_at (g := r) (j := j) (i + 1) c x (by simpa [Gs.heads] using h1) (by simpa [Gs.trees] using h2) h3 (fun m cs' hm hh => h4 (m + 1) cs' (by omega) (by simpa [Gs.heads] using hh))]
    congr 1
    omega
theorem first_of {c : Int} : ∀ {l : List (List Int)}, c ∈ l.flatten → ∃ (j : Nat) (cs : List Int), l[j]? = some cs ∧ c ∈ cs ∧ ∀ m cs', m < j → l[m]? = some cs' → c ∉ cs'
  | [], h => by simp at h
  | x :: r, h => by
    by_cases hx : c ∈ x
    · exact ⟨0, x, rfl, hx, fun m cs' hm => absurd hm (by omega)⟩
    · have h2 : c ∈ r.flatten := by
        rw [List.flatten_cons] at h
        rcases List.mem_append.mp h with e | e
        · exact absurd e hx
        · exact e
      obtain ⟨j, cs, a, b, d⟩ := first_of h2
      refine ⟨j + 1, cs, by simpa using a, b, fun m cs' hm hh => ?_⟩
      cases m with
      | zero =>
        have e : x = cs' := by simpa using hh
        exact e ▸ hx
      | succ m => exact d m cs' (by omega) (by simpa using hh)
theorem inV_ints (c : Int) : ∀ cs : List Int, inV (.int c) (cs.map V.int) = decide (c ∈ cs)
  | [] => by simp [inV]
  | x :: r => by
    have ih := inV_ints c r
    unfold inV at ih ⊢
    rw [List.map_cons, List.any_cons, ih]
    show ((x == c) || decide (c ∈ r)) = decide (c ∈ x :: r)
    by_cases e : c = x
    · subst e
      simp
    · have e' : ¬ x = c := fun z => e z.symm
      by_cases e2 : c ∈ r <;> simp [e, e', e2]
theorem mem_rng0 {c : Int} {n : Nat} (h0 : 0 ≤ c) (h1 : c < n) : c ∈ rng0 n := by
  unfold rng0
  exact List.mem_map.mpr ⟨c.toNat, List.mem_range.mpr (by omega), by omega⟩
def spGix (K : PySem.W.Frag) : Sp := fun vs H Q _ => ∃ (a : Addr) (ws : List V) (gs : Gs) (c : Int) (j : Nat) (cs : List Int), vs = [.ref a, .int c] ∧ SqT K H a ws ∧ GsAt K H gs ws ∧ ws.length ≤ 1000 ∧ gs.heads[j]? = some cs ∧ c ∈ cs ∧ (∀ m cs', m < j → gs.heads[m]? = some cs' → c ∉ cs') ∧
  ∀ H', Same H H' → Q (.int j) H'
def spTPath (K : PySem.W.Frag) : Sp := fun vs H Q _ => ∃ (v : V) (a c : Addr) (t : Tr) (ds ps : List Int) (n : Nat), vs = [v, .ref a, .ref c] ∧ TrAt K H t v ∧ SqT K H a (ds.map V.int) ∧ SqT K H c (ps.map V.int) ∧ ds.length = ps.length ∧ Divs ds ∧ ds.length ≤ 3 ∧ prodL ds = (n : Int) ∧ t.wf ds.length n ∧ t.dep ≤ 20 ∧
  ∀ H' p, Same H H' → H' p = some (.tup ((pth t (cls ds ps) ps).map V.int)) → Q (.ref p) H'
section
variable {P : Program} {w : World} {K : PySem.W.Frag} {mg : Str → Option Value} {base : Heap}
end
end Lk

namespace Lk
open PySem L2
def HdsAt (K : PySem.W.Frag) (H : Hp) : List (List Int) → List V → Prop
  | [], ws => ws = []
  | c :: r, ws => ∃ a wr, ws = .ref a :: wr ∧ SqT K H a (c.map V.int) ∧ HdsAt K H r wr
theorem HdsAt.mono {K : PySem.W.Frag} {H H' : Hp} (e : Tups K H H') : ∀ {l : List (List Int)} {ws : List V}, HdsAt K H l ws → HdsAt K H' l ws
  | [], _, h => h
  | c :: r, _, ⟨a, wr, h1, h2, h3⟩ => ⟨a, wr, h1, e _ _ h2, HdsAt.mono e h3⟩
theorem HdsAt.app {K : PySem.W.Frag} {H : Hp} {c : List Int} {a : Addr} : ∀ {l : List (List Int)} {ws : List V}, HdsAt K H l ws → SqT K H a (c.map V.int) → HdsAt K H (l ++ [c]) (ws ++ [.ref a])
  | [], _, h, q => by
    have h : _ = [] := h
    subst h
    exact ⟨a, [], rfl, q, rfl⟩
  | x :: r, _, ⟨a', wr, h1, h2, h3⟩, q => ⟨a', wr ++ [.ref a], by rw [h1]; rfl, h2, HdsAt.app h3 q⟩
theorem HdsAt.get {K : PySem.W.Frag} {H : Hp} : ∀ {l : List (List Int)} {ws : List V} {i : Nat} {y : V}, HdsAt K H l ws → ws[i]? = some y → ∃ c a, l[i]? = some c ∧ y = .ref a ∧ SqT K H a (c.map V.int)
  | [], _, i, y, h, e => by
    have h : _ = [] := h
    rw [h] at e
    simp at e
  | c :: r, _, 0, y, ⟨a, wr, h1, h2, h3⟩, e => by
    rw [h1] at e
    exact ⟨c, a, rfl, (Option.some.inj e).symm, h2⟩
  | c :: r, _, i + 1, y, ⟨a, wr, h1, h2, h3⟩, e => by
    rw [h1] at e
    exact HdsAt.get (l := r) (ws := wr) (i := i) h3 (by simpa using e)
theorem HdsAt.len {K : PySem.W.Frag} {H : Hp} : ∀ {l : List (List Int)} {ws : List V}, HdsAt K H l ws → ws.length = l.length
  | [], _, h => by
    have h : _ = [] := h
    rw [h]
    rfl
  | c :: r, _, ⟨a, wr, h1, h2, h3⟩ => by rw [h1, List.length_cons, List.length_cons, HdsAt.len h3]
/-! ### the parts of the classes by marks -/
def sel (marks : List Int) (n : Nat) (m : Int) : List Int := (rng0 n).filter fun i => decide (marks.getD i.toNat 9 = m)
theorem pm2 {x : Int} {a b c : List Int} : (a ++ (b ++ x :: c)).Perm (x :: (a ++ (b ++ c))) := (List.Perm.append_left a List.perm_middle).trans List.perm_middle
theorem pm3 {x : Int} {a b c d : List Int} : (a ++ (b ++ (c ++ x :: d))).Perm (x :: (a ++ (b ++ (c ++ d)))) := (List.Perm.append_left a pm2).trans List.perm_middle
theorem pm4 {x : Int} {a b c d e : List Int} : (a ++ (b ++ (c ++ (d ++ x :: e)))).Perm (x :: (a ++ (b ++ (c ++ (d ++ e))))) := (List.Perm.append_left a pm3).trans List.perm_middle
theorem five {f : Int → Int} : ∀ l : List Int, (∀ x ∈ l, 0 ≤ f x ∧ f x < 5) → (([1, 4, 0, 3, 2] : List Int).map fun m => l.filter fun i => decide (f i = m)).flatten.Perm l
  | [], _ => by simp
  | x :: r, h => by
    have ih := five (f := f) r fun y hy => h y (List.mem_cons_of_mem _ hy)
    have hx := h x List.mem_cons_self
    simp only [List.map_cons, List.map_nil, List.flatten_cons, List.flatten_nil, List.append_nil] at ih ⊢
    have hc : f x = 0 ∨ f x = 1 ∨ f x = 2 ∨ f x = 3 ∨ f x = 4 := by omega
    rcases hc with e | e | e | e | e
    · simp only [List.filter_cons, e]
      simp only [show ((0 : Int) = 1) = False by simp, show ((0 : Int) = 4) = False by simp, show ((0 : Int) = 3) = False by simp, show ((0 : Int) = 2) = False by simp, decide_false, decide_true, if_true, Bool.false_eq_true, if_false]
      refine List.Perm.trans ?_ (List.Perm.cons x ih)
      exact pm2
    · simp only [List.filter_cons, e]
      simp only [show ((1 : Int) = 0) = False by simp, show ((1 : Int) = 4) = False by simp, show ((1 : Int) = 3) = False by simp, show ((1 : Int) = 2) = False by simp, decide_false, decide_true, if_true, Bool.false_eq_true, if_false]
      exact List.Perm.cons x ih
    · simp only [List.filter_cons, e]
      simp only [show ((2 : Int) = 0) = False by simp, show ((2 : Int) = 4) = False by simp, show ((2 : Int) = 3) = False by simp, show ((2 : Int) = 1) = False by simp, decide_false, decide_true, if_true, Bool.false_eq_true, if_false]
      refine List.Perm.trans ?_ (List.Perm.cons x ih)
      exact pm4
    · simp only [List.filter_cons, e]
      simp only [show ((3 : Int) = 0) = False by simp, show ((3 : Int) = 4) = False by simp, show ((3 : Int) = 2) = False by simp, show ((3 : Int) = 1) = False by simp, decide_false, decide_true, if_true, Bool.false_eq_true, if_false]
      refine List.Perm.trans ?_ (List.Perm.cons x ih)
      exact pm3
    · simp only [List.filter_cons, e]
      simp only [show ((4 : Int) = 0) = False by simp, show ((4 : Int) = 3) = False by simp, show ((4 : Int) = 2) = False by simp, show ((4 : Int) = 1) = False by simp, decide_false, decide_true, if_true, Bool.false_eq_true, if_false]
      refine List.Perm.trans ?_ (List.Perm.cons x ih)
      exact List.perm_middle
theorem flat_ne : ∀ l : List (List Int), (l.filter fun c => decide (c ≠ [])).flatten = l.flatten
  | [] => rfl
  | c :: r => by
    have ih := flat_ne r
    cases c with
    | nil =>
      rw [List.filter_cons, decide_eq_false (by simp), if_neg (by decide), ih]
      rfl
    | cons x c =>
      rw [List.filter_cons, decide_eq_true (by simp), if_pos rfl, List.flatten_cons, List.flatten_cons, ih]
theorem rng0_lt (n : Nat) : (rng0 n).Pairwise (· < ·) := by
  unfold rng0
  rw [List.pairwise_map]
  exact List.Pairwise.imp (fun h => by omega) (List.pairwise_lt_range (n := n))
theorem rng0_get {n i : Nat} (h : i < n) : (rng0 n)[i]? = some (i : Int) := by
  unfold rng0
  rw [List.getElem?_map, List.getElem?_range h]
  rfl
theorem rng0_take {n i : Nat} (h : i ≤ n) : (rng0 n).take i = rng0 i := by
  unfold rng0
  rw [← List.map_take, List.take_range]
  congr 2
  omega
theorem rng0_succ (i : Nat) : rng0 (i + 1) = rng0 i ++ [(i : Int)] := by
  unfold rng0
  rw [List.range_succ, List.map_append]
  rfl
def scMark : Scope := { kind := .function, names := [(Str.ofString ".0", .local), (Str.ofString "_law_mark", .cell), (Str.ofString "tuple", .globalImplicit), (Str.ofString "range", .globalImplicit), (Str.ofString "_law_many", .cell), (Str.ofString "_law_marks", .cell)], isGenerator := false, isCoroutine := false }
def spParts (K : PySem.W.Frag) : Sp := fun vs H Q _ => ∃ (b l : Addr) (n : Nat) (m : Int), vs = [.ref b, .int n, .int m] ∧ BagAt H b l ∧ n ≤ 12 ∧ 1 ≤ m ∧ m ≤ 5 ∧
  ∀ (hds : List (List Int)) (H' : Hp) (p : Addr) (ws : List V), hds.flatten.Perm (rng0 n) → (∀ cs ∈ hds, cs ≠ [] ∧ cs.Pairwise (· < ·)) → hds.length ≤ 5 → H p = none → H' p = some (.lst ws) → HdsAt K H' hds ws → BagAt H' b l → But b H H' → Q (.ref p) H'
section
variable {P : Program} {w : World} {K : PySem.W.Frag} {mg : Str → Option Value} {base : Heap}
end
end Lk

namespace Lk
open PySem L2
def Gs.snoc : Gs → List Int → Tr → Gs
  | .nil, cs, t => .cons cs t .nil
  | .cons c u r, cs, t => .cons c u (r.snoc cs t)
theorem Gs.heads_snoc (cs : List Int) (t : Tr) : ∀ g : Gs, (g.snoc cs t).heads = g.heads ++ [cs]
  | .nil => rfl
  | .cons c u r => by simp [Gs.snoc, Gs.heads, Gs.heads_snoc cs t r]
theorem Gs.size_snoc (cs : List Int) (t : Tr) : ∀ g : Gs, (g.snoc cs t).size = g.size + t.size
  | .nil => by simp [Gs.snoc, Gs.size]
  | .cons c u r => by simp [Gs.snoc, Gs.size, Gs.size_snoc cs t r]; omega
theorem Gs.dep_snoc (cs : List Int) (t : Tr) : ∀ g : Gs, (g.snoc cs t).dep = max g.dep t.dep
  | .nil => by simp [Gs.snoc, Gs.dep]
  | .cons c u r => by simp only [Gs.snoc, Gs.dep, Gs.dep_snoc cs t r]; omega
theorem Gs.wf_snoc {d n : Nat} {cs : List Int} {t : Tr} (h : cs ≠ [] ∧ cs.Pairwise (· < ·)) (ht : t.wf d n) : ∀ {g : Gs}, g.wf d n → (g.snoc cs t).wf d n
  | .nil, _ => by
    simp only [Gs.snoc, Gs.wf]
    exact ⟨h, ht, trivial⟩
  | .cons c u r, w => by
    simp only [Gs.wf] at w
    simp only [Gs.snoc, Gs.wf]
    exact ⟨w.1, w.2.1, Gs.wf_snoc h ht w.2.2⟩
theorem GsAt.snoc {K : PySem.W.Frag} {H : Hp} {cs : List Int} {t : Tr} {pa ca : Addr} {tv : V} (h1 : SqT K H pa [.ref ca, tv]) (h2 : SqT K H ca (cs.map V.int)) (h3 : TrAt K H t tv) : ∀ {g : Gs} {ws : List V}, GsAt K H g ws → GsAt K H (g.snoc cs t) (ws ++ [.ref pa])
  | .nil, ws, h => by
    simp only [GsAt] at h
    subst h
    simp only [Gs.snoc, GsAt]
    exact ⟨pa, ca, tv, [], rfl, h1, h2, h3, rfl⟩
  | .cons c u r, ws, h => by
    simp only [GsAt] at h
    obtain ⟨pa', ca', tv', vr, rfl, a1, a2, a3, a4⟩ := h
    simp only [Gs.snoc, GsAt]
    exact ⟨pa', ca', tv', vr ++ [.ref pa], rfl, a1, a2, a3, GsAt.snoc h1 h2 h3 a4⟩
def szB : Nat → Nat
  | 0 => 1
  | n + 1 => 1 + 5 * szB n
theorem szB_pos : ∀ n, 1 ≤ szB n
  | 0 => Nat.le_refl _
  | n + 1 => by simp [szB]
def spTree (K : PySem.W.Frag) (m : Nat) : Sp := fun vs H Q _ => ∃ (b l a : Addr) (ds : List Int) (n : Nat), vs = [.ref b, .ref a, .int m] ∧ BagAt H b l ∧ SqT K H a (ds.map V.int) ∧ Divs ds ∧ ds.length ≤ 3 ∧ prodL ds = (n : Int) ∧
  ∀ (t : Tr) (v : V) (H' : Hp), t.wf ds.length n → t.dep ≤ m + 1 → t.size ≤ szB m → TrAt K H' t v → BagAt H' b l → But b H H' → Q v H'
def spScan (K : PySem.W.Frag) : Sp := fun vs H Q _ => ∃ (b l : Addr) (d : Int), vs = [.ref b, .int d] ∧ BagAt H b l ∧ 1 ≤ d ∧ d ≤ 3 ∧
  ∀ (ds : List Int) (n : Nat) (t : Tr) (a p : Addr) (v : V) (H' : Hp), (ds.length : Int) = d → Divs ds → prodL ds = (n : Int) → t.wf ds.length n → t.dep ≤ 4 → t.size ≤ 200 → SqT K H' a (ds.map V.int) → TrAt K H' t v → SqT K H' p [.ref a, v] → BagAt H' b l → But b H H' → Q (.ref p) H'
section
variable {P : Program} {w : World} {K : PySem.W.Frag} {mg : Str → Option Value} {base : Heap}
end
end Lk

namespace Lk
open PySem L2
/-! ### a scan -/
def sf (ct nt : Int) (a : Addr) (v : V) : List (Str × V) := putF "own_tree" v (putF "own_divisors" (.ref a) (putF "node_total" (.int nt) (putF "class_total" (.int ct) [])))
theorem putF_len (f : Str) (v : V) : ∀ fs : List (Str × V), (putF f v fs).length ≤ fs.length + 1
  | [] => by simp [putF]
  | (g, u) :: r => by
    have := putF_len f v r
    simp only [putF]
    split <;> simp <;> omega
theorem sf_div (ct nt : Int) (a : Addr) (v : V) : (sf ct nt a v).lookup ("own_divisors" : Str) = some (.ref a) := by
  unfold sf
  rw [lookup_putF, if_neg (by decide +kernel), lookup_putF, if_pos rfl]
theorem sf_tree (ct nt : Int) (a : Addr) (v : V) : (sf ct nt a v).lookup ("own_tree" : Str) = some v := by
  unfold sf
  rw [lookup_putF, if_pos rfl]
theorem sf_path (ct nt : Int) (a : Addr) (v : V) : (sf ct nt a v).lookup ("path" : Str) = none := by
  unfold sf
  rw [lookup_putF, if_neg (by decide +kernel), lookup_putF, if_neg (by decide +kernel), lookup_putF, if_neg (by decide +kernel), lookup_putF, if_neg (by decide +kernel)]
  rfl
/-- a Scan of divisors ds and tree t stands at p -/
structure ScanAt (K : PySem.W.Frag) (C : Addr) (H : Hp) (p : Addr) (ds : List Int) (n : Nat) (t : Tr) : Prop where
  ob : ∃ dx a v, H p = some (.ins C dx (sf (n : Int) (t.size : Int) a v)) ∧ SqT K H a (ds.map V.int) ∧ TrAt K H t v
  dv : Divs ds
  l1 : 1 ≤ ds.length
  l3 : ds.length ≤ 3
  pr : prodL ds = (n : Int)
  wf : t.wf ds.length n
  dp : t.dep ≤ 20
  sz : t.size ≤ 200
theorem ScanAt.same {K : PySem.W.Frag} {C : Addr} {H H' : Hp} {p : Addr} {ds : List Int} {n : Nat} {t : Tr} (S : ScanAt K C H p ds n t) (e : Same H H') : ScanAt K C H' p ds n t := by
  obtain ⟨⟨dx, a, v, h1, h2, h3⟩, r1, r2, r3, r4, r5, r6, r7⟩ := S
  exact ⟨⟨dx, a, v, e _ _ h1, Same.sqT e h2, TrAt.mono (Same.tups e) h3⟩, r1, r2, r3, r4, r5, r6, r7⟩
theorem ScanAt.but {K : PySem.W.Frag} {C b l : Addr} {H H' : Hp} {p : Addr} {ds : List Int} {n : Nat} {t : Tr} (S : ScanAt K C H p ds n t) (B : BagAt H b l) (e : But b H H') : ScanAt K C H' p ds n t := by
  obtain ⟨⟨dx, a, v, h1, h2, h3⟩, r1, r2, r3, r4, r5, r6, r7⟩ := S
  obtain ⟨ys, hb⟩ := B.lst
  exact ⟨⟨dx, a, v, e _ _ (ne_of h1 hb (by intro z; cases z)) h1, e.sqT B h2, TrAt.mono (But.tups B e) h3⟩, r1, r2, r3, r4, r5, r6, r7⟩
def full (ds : List Int) (t : Tr) (x : List Int) : List Int := pth t (cls ds x) x ++ x
structure Txt (K : PySem.W.Frag) (mg : Str → Option Value) (C : Addr) : Prop where
  cl : Cls K C
  n1 : NoAttr K C "class_total"
  n2 : NoAttr K C "node_total"
  n3 : NoAttr K C "own_divisors"
  n4 : NoAttr K C "own_tree"
  mgC : mg "Scan" = some (.ref C)
  rd : ClX.CRead K C (.type "type")
  c1 : ∃ u, ClX.CVal K C (.type "type") "MAX_NODES" (.int 200) u
  c2 : ∃ u, ClX.CVal K C (.type "type") "MAX_DEPTH" (.int 20) u
def spInit (K : PySem.W.Frag) (C : Addr) : Sp := fun vs H Q _ => ∃ (p dx a : Addr) (v : V) (ds : List Int) (n : Nat) (t : Tr), vs = [.ref p, .ref a, v] ∧ H p = some (.ins C dx []) ∧ SqT K H a (ds.map V.int) ∧ TrAt K H t v ∧ Divs ds ∧ 1 ≤ ds.length ∧ ds.length ≤ 3 ∧ prodL ds = (n : Int) ∧ t.wf ds.length n ∧ t.size ≤ 200 ∧ t.dep ≤ 20 ∧
  ∀ H' : Hp, ScanAt K C H' p ds n t → (∀ b o, H b = some o → b ≠ p → H' b = some o) → Q .non H'
def spSPath (K : PySem.W.Frag) (C : Addr) : Sp := fun vs H Q _ => ∃ (p c : Addr) (ds : List Int) (n : Nat) (t : Tr) (x : List Int), vs = [.ref p, .ref c] ∧ ScanAt K C H p ds n t ∧ SqT K H c (x.map V.int) ∧ x.length = ds.length ∧
  ∀ (H' : Hp) (q : Addr), Same H H' → SqT K H' q ((full ds t x).map V.int) → Q (.ref q) H'
def spCall (K : PySem.W.Frag) (C : Addr) : Sp := fun vs H Q _ => ∃ (p c d : Addr) (ds : List Int) (n : Nat) (t : Tr) (x y : List Int), vs = [.ref p, .ref c, .ref d] ∧ ScanAt K C H p ds n t ∧ SqT K H c (x.map V.int) ∧ SqT K H d (y.map V.int) ∧ x.length = ds.length ∧ y.length = ds.length ∧
  ∀ H' : Hp, Same H H' → Q (.bl (HT.lexLt (full ds t x) (full ds t y))) H'
theorem pth_len : ∀ (m : Nat) (t : Tr), t.dep ≤ m → ∀ (c : Int) (x : List Int), (pth t c x).length ≤ m := by
  have hG : ∀ (m : Nat) (g : Gs), (∀ t ∈ g.trees, ∀ (c : Int) (x : List Int), (pth t c x).length ≤ m) → ∀ (i c : Int) (x : List Int), (pthG g i c x).length ≤ m + 1 := by
    intro m g
    match g with
    | .nil => intro _ i c x; simp [pthG]
    | .cons cs t r =>
      intro h i c x
      simp only [pthG]
      split
      · have := h t List.mem_cons_self c x
        simp only [List.length_cons]
        omega
      · exact (by
          have aux : ∀ (g : Gs), (∀ t ∈ g.trees, ∀ (c : Int) (x : List Int), (pth t c x).length ≤ m) → ∀ (i c : Int) (x : List Int), (pthG g i c x).length ≤ m + 1 := by
            intro g
            induction g using Gs.rec (motive_1 := fun _ => True) with
            | pl => trivial
            | key _ _ _ _ => trivial
            | fork _ _ => trivial
            | nil => intro _ i c x; simp [pthG]
            | cons cs t r _ ih =>
              intro h i c x
              simp only [pthG]
              split
              · have := h t List.mem_cons_self c x
                simp only [List.length_cons]
                omega
              · exact ih (fun t ht => h t (List.mem_cons_of_mem _ ht)) (i + 1) c x
          exact aux r (fun t ht => h t (List.mem_cons_of_mem _ ht)) (i + 1) c x)
  intro m
  induction m with
  | zero =>
    intro t h
    have := (Tr.deep t).2
    omega
  | succ m ih =>
    intro t h c x
    cases t with
    | pl => simp [pth]
    | key row hs t =>
      simp only [Tr.dep] at h
      have := ih t (by omega) c x
      simp only [pth, List.length_cons]
      omega
    | fork g =>
      simp only [Tr.dep] at h
      simp only [pth]
      exact hG m g (fun t ht c x => ih t (by have := Gs.dep_trees g t ht; omega) c x) 0 c x
section
variable {P : Program} {w : World} {K : PySem.W.Frag} {mg : Str → Option Value} {base : Heap}
end
end Lk

namespace Lk
open PySem L2
abbrev lx := HT.lexLt
abbrev plus (x f : List Int) : List Int := List.zipWith (· + ·) x f
theorem lx_irr : ∀ x : List Int, lx x x = false
  | [] => rfl
  | a :: r => by
    show (if a = a then lx r r else decide (a < a)) = false
    rw [if_pos rfl]
    exact lx_irr r
theorem lx_trans : ∀ {x y z : List Int}, lx x y = true → lx y z = true → lx x z = true
  | [], [], _, h, _ => by cases h
  | [], _ :: _, [], _, h => by cases h
  | [], _ :: _, _ :: _, _, _ => rfl
  | _ :: _, [], _, h, _ => by cases h
  | _ :: _, _ :: _, [], _, h => by cases h
  | a :: x, b :: y, c :: z, h1, h2 => by
    have h1 : (if a = b then lx x y else decide (a < b)) = true := h1
    have h2 : (if b = c then lx y z else decide (b < c)) = true := h2
    show (if a = c then lx x z else decide (a < c)) = true
    by_cases e1 : a = b
    · rw [if_pos e1] at h1
      by_cases e2 : b = c
      · rw [if_pos e2] at h2
        rw [if_pos (e1.trans e2)]
        exact lx_trans h1 h2
      · rw [if_neg e2] at h2
        have := of_decide_eq_true h2
        rw [if_neg (by omega)]
        exact decide_eq_true (by omega)
    · rw [if_neg e1] at h1
      have a1 := of_decide_eq_true h1
      by_cases e2 : b = c
      · rw [if_neg (by omega)]
        exact decide_eq_true (by omega)
      · rw [if_neg e2] at h2
        have a2 := of_decide_eq_true h2
        rw [if_neg (by omega)]
        exact decide_eq_true (by omega)
theorem lx_total : ∀ {x y : List Int}, x ≠ y → lx x y = true ∨ lx y x = true
  | [], [], h => absurd rfl h
  | [], _ :: _, _ => .inl rfl
  | _ :: _, [], _ => .inr rfl
  | a :: x, b :: y, h => by
    show (if a = b then lx x y else decide (a < b)) = true ∨ (if b = a then lx y x else decide (b < a)) = true
    by_cases e : a = b
    · subst e
      rw [if_pos rfl, if_pos rfl]
      exact lx_total fun z => h (by rw [z])
    · rw [if_neg e, if_neg fun z => e z.symm]
      by_cases l : a < b
      · exact .inl (decide_eq_true l)
      · exact .inr (decide_eq_true (by omega))
theorem lx_shift : ∀ {x y f : List Int}, x.length = f.length → y.length = f.length → lx (plus x f) (plus y f) = lx x y
  | [], [], [], _, _ => rfl
  | a :: x, b :: y, c :: f, h1, h2 => by
    have ih := lx_shift (x := x) (y := y) (f := f) (by simpa using h1) (by simpa using h2)
    show (if a + c = b + c then lx (plus x f) (plus y f) else decide (a + c < b + c)) = (if a = b then lx x y else decide (a < b))
    rw [ih]
    by_cases e : a = b
    · rw [if_pos e, if_pos (by omega)]
    · rw [if_neg e, if_neg (by omega)]
      by_cases l : a < b
      · rw [decide_eq_true l, decide_eq_true (by omega)]
      · rw [decide_eq_false l, decide_eq_false (by omega)]
  | [], _, _ :: _, h, _ => by cases h
  | _ :: _, _, [], h, _ => by cases h
  | _, [], _ :: _, _, h => by cases h
  | _, _ :: _, [], _, h => by cases h
theorem dot_plus : ∀ {r x f : List Int}, x.length = f.length → dotL r (plus x f) = dotL r x + dotL r f
  | [], _, _, _ => by simp [dotL]
  | a :: r, [], [], _ => by simp [dotL, plus]
  | a :: r, b :: x, c :: f, h => by
    have ih := dot_plus (r := r) (x := x) (f := f) (by simpa using h)
    unfold dotL plus at ih ⊢
    simp only [List.zipWith_cons_cons, List.sum_cons]
    rw [ih, Int.mul_add]
    omega
  | _ :: _, [], _ :: _, h => by cases h
  | _ :: _, _ :: _, [], h => by cases h
theorem pthG_head : ∀ {g : Gs} {c : Int} (i : Int), c ∈ g.classes → ∃ (j : Int) (t : Tr), i ≤ j ∧ ∀ x, pthG g i c x = j :: pth t c x
  | .nil, c, i, h => by simp [Gs.classes] at h
  | .cons cs t r, c, i, h => by
    by_cases hc : c ∈ cs
    · exact ⟨i, t, Int.le_refl _, fun x => by simp only [pthG]; rw [if_pos hc]⟩
    · simp only [Gs.classes] at h
      have h2 : c ∈ r.classes := by
        rcases List.mem_append.mp h with e | e
        · exact absurd e hc
        · exact e
      obtain ⟨j, t', hj, e⟩ := pthG_head (g := r) (i + 1) h2
      exact ⟨j, t', by omega, fun x => by simp only [pthG]; rw [if_neg hc]; exact e x⟩
mutual
theorem pth_shift {d n : Nat} {c1 c2 : Int} (b1 : 0 ≤ c1 ∧ c1 < n) (b2 : 0 ≤ c2 ∧ c2 < n) {x y f : List Int} (hx : x.length = f.length) (hy : y.length = f.length) :
    ∀ t : Tr, t.wf d n → lx (pth t c1 (plus x f) ++ plus x f) (pth t c2 (plus y f) ++ plus y f) = lx (pth t c1 x ++ x) (pth t c2 y ++ y)
  | .pl, _ => by
    simp only [pth, List.nil_append]
    exact lx_shift hx hy
  | .key row hs t, w => by
    simp only [Tr.wf] at w
    have ih : HT.lexLt (pth t c1 (plus x f) ++ plus x f) (pth t c2 (plus y f) ++ plus y f) = HT.lexLt (pth t c1 x ++ x) (pth t c2 y ++ y) := pth_shift b1 b2 hx hy t w.2.2.2
    simp only [pth, List.cons_append]
    rw [dot_plus hx, dot_plus hy]
    show (if dotL row x + dotL row f + hs.getD c1.toNat 0 = dotL row y + dotL row f + hs.getD c2.toNat 0 then _ else decide (dotL row x + dotL row f + hs.getD c1.toNat 0 < dotL row y + dotL row f + hs.getD c2.toNat 0)) = (if dotL row x + hs.getD c1.toNat 0 = dotL row y + hs.getD c2.toNat 0 then _ else decide (dotL row x + hs.getD c1.toNat 0 < dotL row y + hs.getD c2.toNat 0))
    rw [ih]
    by_cases e : dotL row x + hs.getD c1.toNat 0 = dotL row y + hs.getD c2.toNat 0
    · rw [if_pos e, if_pos (by omega)]
    · rw [if_neg e, if_neg (by omega)]
      by_cases l : dotL row x + hs.getD c1.toNat 0 < dotL row y + hs.getD c2.toNat 0
      · rw [decide_eq_true l, decide_eq_true (by omega)]
      · rw [decide_eq_false l, decide_eq_false (by omega)]
  | .fork g, w => by
    simp only [Tr.wf] at w
    simp only [pth]
    exact pthG_shift b1 b2 hx hy g 0 (w.1.mem_iff.mpr (mem_rng0 b1.1 b1.2)) (w.1.mem_iff.mpr (mem_rng0 b2.1 b2.2)) w.2
theorem pthG_shift {d n : Nat} {c1 c2 : Int} (b1 : 0 ≤ c1 ∧ c1 < n) (b2 : 0 ≤ c2 ∧ c2 < n) {x y f : List Int} (hx : x.length = f.length) (hy : y.length = f.length) :
    ∀ (g : Gs) (i : Int), c1 ∈ g.classes → c2 ∈ g.classes → g.wf d n → lx (pthG g i c1 (plus x f) ++ plus x f) (pthG g i c2 (plus y f) ++ plus y f) = lx (pthG g i c1 x ++ x) (pthG g i c2 y ++ y)
  | .nil, i, h, _, _ => by simp [Gs.classes] at h
  | .cons cs t r, i, h1, h2, w => by
    simp only [Gs.wf] at w
    simp only [Gs.classes] at h1 h2
    simp only [pthG]
    by_cases m1 : c1 ∈ cs
    · by_cases m2 : c2 ∈ cs
      · rw [if_pos m1, if_pos m2, if_pos m1, if_pos m2]
        have ih := pth_shift b1 b2 hx hy t w.2.1
        simp only [List.cons_append]
        show (if i = i then _ else _) = (if i = i then _ else _)
        rw [if_pos rfl, if_pos rfl]
        exact ih
      · have h2' : c2 ∈ r.classes := by
          rcases List.mem_append.mp h2 with e | e
          · exact absurd e m2
          · exact e
        obtain ⟨j, t', hj, e⟩ := pthG_head (i + 1) h2'
        rw [if_pos m1, if_neg m2, if_pos m1, if_neg m2, e, e]
        simp only [List.cons_append]
        show (if i = j then _ else decide (i < j)) = (if i = j then _ else decide (i < j))
        rw [if_neg (by omega), if_neg (by omega)]
    · have h1' : c1 ∈ r.classes := by
        rcases List.mem_append.mp h1 with e | e
        · exact absurd e m1
        · exact e
      by_cases m2 : c2 ∈ cs
      · obtain ⟨j, t', hj, e⟩ := pthG_head (i + 1) h1'
        rw [if_neg m1, if_pos m2, if_neg m1, if_pos m2, e, e]
        simp only [List.cons_append]
        show (if j = i then _ else decide (j < i)) = (if j = i then _ else decide (j < i))
        rw [if_neg (by omega), if_neg (by omega)]
      · have h2' : c2 ∈ r.classes := by
          rcases List.mem_append.mp h2 with e | e
          · exact absurd e m2
          · exact e
        rw [if_neg m1, if_neg m2, if_neg m1, if_neg m2]
        exact pthG_shift b1 b2 hx hy r (i + 1) h1' h2' w.2.2
end
/-- far: each number a multiple of its divisor -/
def Far : List Int → List Int → Prop
  | [], [] => True
  | d :: ds, f :: fs => (∃ m, f = m * d) ∧ Far ds fs
  | _, _ => False
theorem Far.len : ∀ {ds fs : List Int}, Far ds fs → fs.length = ds.length
  | [], [], _ => rfl
  | _ :: _, _ :: _, h => by simp [Far.len h.2]
  | [], _ :: _, h => h.elim
  | _ :: _, [], h => h.elim
theorem Far.app {d m : Int} : ∀ {ds fs : List Int}, Far ds fs → Far (ds ++ [d]) (fs ++ [m * d])
  | [], [], _ => ⟨⟨m, rfl⟩, trivial⟩
  | _ :: _, _ :: _, h => ⟨h.1, Far.app h.2⟩
  | [], _ :: _, h => h.elim
  | _ :: _, [], h => h.elim
theorem cls_far : ∀ {ds x f : List Int}, Far ds f → x.length = ds.length → ∀ n, clsF (ds.zip (plus x f)) n = clsF (ds.zip x) n
  | [], _, _, _, _, n => by simp
  | d :: ds, [], _, _, h, n => by cases h
  | d :: ds, a :: x, [], h, _, n => h.elim
  | d :: ds, a :: x, c :: f, ⟨⟨m, hm⟩, h⟩, hl, n => by
    show clsF (ds.zip (plus x f)) (n * d + (a + c) % d) = clsF (ds.zip x) (n * d + a % d)
    rw [cls_far h (by simpa using hl), hm, Int.add_mul_emod_self_right]
theorem plus_len {x f : List Int} (h : x.length = f.length) : (plus x f).length = f.length := by
  unfold plus
  rw [List.length_zipWith, h]
  exact Nat.min_self _
theorem full_shift {ds : List Int} {n : Nat} {t : Tr} {x y f : List Int} (D : Divs ds) (hn : prodL ds = (n : Int)) (w : t.wf ds.length n) (F : Far ds f) (hx : x.length = ds.length) (hy : y.length = ds.length) :
    lx (full ds t (plus x f)) (full ds t (plus y f)) = lx (full ds t x) (full ds t y) := by
  have lf := F.len
  have bd : ∀ z : List Int, z.length = ds.length → 0 ≤ cls ds z ∧ cls ds z < n := fun z hz => by
    have b := cls_bound hz.symm D.one (ds.zip z).length
    rw [List.take_length, List.take_of_length_le (by rw [List.length_zip]; omega), hn] at b
    exact b
  unfold full
  have e1 : cls ds (plus x f) = cls ds x := cls_far F hx 0
  have e2 : cls ds (plus y f) = cls ds y := cls_far F hy 0
  rw [e1, e2]
  exact pth_shift (bd x hx) (bd y hy) (by omega) (by omega) t w
theorem full_ne {ds : List Int} {t : Tr} {x y : List Int} (hx : x.length = ds.length) (hy : y.length = ds.length) (h : x ≠ y) : full ds t x ≠ full ds t y := fun e => by
  unfold full at e
  exact h (List.append_inj_right' e (by omega))
theorem eqv_tup : ∀ xs ys : List Int, PyData.eqvAll (xs.map PyData.int) (ys.map PyData.int) = decide (xs = ys)
  | [], [] => by simp [PyData.eqvAll]
  | [], _ :: _ => by simp [PyData.eqvAll]
  | _ :: _, [] => by simp [PyData.eqvAll]
  | a :: r, b :: t => by
    simp only [List.map_cons, PyData.eqvAll, PyData.eqv, eqv_tup r t]
    by_cases h : a = b <;> by_cases h' : r = t <;> simp [h, h']
theorem shT (ns : List Int) : SeqAt.shaped (.tuple (ns.map PyData.int)) = true := by
  unfold SeqAt.shaped
  simp [PyData.canLay0, PyData.depth, canInts, depInts]
end Lk

namespace Lk
open PySem L2 PySem.Spec PyProof.Rows
/-! ### a tuple times 0, 1 or more -/
theorem tuple_mul_none (l : Addr) (items : Array Value) (n : Nat) (dd : Option Addr) (sl : Array (Option Value)) (u : Tok) (c1 : (items.isEmpty || (0 : Int) == 1) = false) :
    Meets (Builtin.«tuple.__mul__» ⟨[.ref l, .int 0 u], []⟩) (fun _ R s => s.heap.get? l = some { cls := .type "tuple", dict := dd, data := .seq items n, slots := sl } ∧
      R (.ok (.ret (Value.ref s.heap.objs.size))) { s with heap := s.heap.push { cls := Value.type "tuple", data := Data.seq #[] }, toks := s.toks }) :=
  .of_wp fun prog w A R s h => by
    obtain ⟨hp, g, d, tk, os⟩ := s
    obtain ⟨hl, h⟩ := h
    have f1 := AutoSeq1.idx_int
    wp_walk using wpAny_loadPart' hl
    repeat (first
      | (refine wpAny_ite_false (decide_eq_false (by rw [c1]; exact Bool.false_ne_true)) ?_; wp_walk using wpAny_loadPart' hl)
      | (refine wpAny_ite_false (decide_eq_false (by decide)) ?_; wp_walk using wpAny_loadPart' hl)
      | (refine wpAny_ite_true (decide_eq_true (by simp)) ?_; wp_walk using wpAny_loadPart' hl))
    exact ⟨_, rfl, h⟩
theorem tuple_mul_one (l : Addr) (items : Array Value) (n : Nat) (dd : Option Addr) (sl : Array (Option Value)) (u : Tok) (c1 : (items.isEmpty || (1 : Int) == 1) = true) :
    Meets (Builtin.«tuple.__mul__» ⟨[.ref l, .int 1 u], []⟩) (fun _ R s => s.heap.get? l = some { cls := .type "tuple", dict := dd, data := .seq items n, slots := sl } ∧
      R (.ok (.ret (Value.ref l))) s) :=
  .of_wp fun prog w A R s h => by
    obtain ⟨hp, g, d, tk, os⟩ := s
    obtain ⟨hl, h⟩ := h
    have f1 := AutoSeq1.idx_int
    wp_walk using wpAny_loadPart' hl
    repeat (first
      | (refine wpAny_ite_false (decide_eq_false (by decide)) ?_; wp_walk using wpAny_loadPart' hl)
      | (refine wpAny_ite_true (decide_eq_true (by rw [c1])) ?_; wp_walk using wpAny_loadPart' hl))
    exact ⟨_, rfl, h⟩
/-- a tuple of one item, times k -/
def rRepO (K : PySem.W.Frag) : R2 := fun x y H Q => ∃ (l : Addr) (k : Int) (a : V), x = .ref l ∧ y = .int k ∧ SqT K H l [a] ∧ 0 ≤ k ∧ k ≤ 1000 ∧ (k = 1 → Q (.ref l) H) ∧ ∀ p, H p = none → Q (.ref p) (upd H p (.tup (List.replicate k.toNat a)))
section
variable {X : Cx}
theorem rep_flat (a : V) : ∀ m : Nat, (List.replicate m [a]).flatten = List.replicate m a
  | 0 => rfl
  | m + 1 => by rw [List.replicate_succ, List.flatten_cons, rep_flat a m, List.replicate_succ]; rfl
theorem op_repO : OpR X (binaryOp .Mult) (rRepO X.K) := by
  intro pins s σ H x y v u Q I rx ry h
  obtain ⟨l, k, a, rfl, rfl, hT, k0, k1, q1, q⟩ := h
  by_cases h2 : 2 ≤ k
  · refine op_repT pins s σ H _ _ v u Q I rx ry ⟨l, k, [a], rfl, rfl, hT, by simp, h2, k1, by simp, fun p np => ?_⟩
    rw [rep_flat]
    exact q p np
  cases rx
  obtain ⟨t, rfl⟩ := ry
  obtain ⟨its, r, ⟨⟨cls, dd, data, sl⟩, ho, hc, n, hd⟩, hs⟩ := I.tuple hT
  simp only at hc hd
  subst hc hd
  have hle : its.length = 1 := r.length.symm
  have hi : its.toArray.isEmpty = false := by
    cases its with
    | nil => cases hle
    | cons a b => rfl
  have hk : k = 0 ∨ k = 1 := by omega
  rcases hk with rfl | rfl
  · refine wpAny_binaryOp_repeat_ref (T := "tuple") (U := "int") (by decide) ⟨_, ho, rfl⟩ (fun s' => typeIs_int s' 0 t) noFill_tuple_mul F.fills_int_mul F.slot_int_rmul repeat_tuple F.slot_int_index.lookup
      (call_meets F.slot_int_rmul (typeIs_int s 0 t) F.entry_int_rmul (F.args_int_rmul_2 _ _) (int_rmul_tuple 0 t l its.toArray n dd sl)
        ⟨ho, rfl, ⟨_, ho, rfl⟩, call_meets F.slot_tuple_mul ⟨_, ho, rfl⟩ F.entry_tuple_mul (F.args_tuple_mul_2 _ _) (tuple_mul_none l its.toArray n dd sl t (by rw [hi]; rfl)) ⟨ho, ?_⟩⟩)
    refine ⟨.ref s.heap.objs.size, _, I.laid (t' := s.toks) (o := .tup []) (fun b ob q => Heap.get?_push_of_some _ q) (Nat.le_refl _) ?_, rfl, q _ (I.hok.fresh (Nat.le_refl _))⟩
    exact ⟨by rw [sizeLine_eq]; exact Nat.zero_le _, _, .nil, IsTup.new _ _⟩
  · refine wpAny_binaryOp_repeat_ref (T := "tuple") (U := "int") (by decide) ⟨_, ho, rfl⟩ (fun s' => typeIs_int s' 1 t) noFill_tuple_mul F.fills_int_mul F.slot_int_rmul repeat_tuple F.slot_int_index.lookup
      (call_meets F.slot_int_rmul (typeIs_int s 1 t) F.entry_int_rmul (F.args_int_rmul_2 _ _) (int_rmul_tuple 1 t l its.toArray n dd sl)
        ⟨ho, rfl, ⟨_, ho, rfl⟩, call_meets F.slot_tuple_mul ⟨_, ho, rfl⟩ F.entry_tuple_mul (F.args_tuple_mul_2 _ _) (tuple_mul_one l its.toArray n dd sl t (by rw [hi]; rfl)) ⟨ho, ?_⟩⟩)
    exact ⟨.ref l, H, I.tok _, rfl, q1 rfl⟩
end
/-! ### a tuple [::-1] -/
section
variable {prog : Program} {w : World} {A : Around} {E : Value → Shared → Prop} {s : Shared}
theorem applied_rev {sl : Addr} {vl vu vs : Value} {n : Nat} {Q : Int × Int × Nat → Shared → Prop} (hs : s.heap.IsSliceOf sl vl vu vs) (pl : IsPart vl none) (pu : IsPart vu none) (ps : IsPart vs (some (-1)))
    (h : Q ((n : Int) - 1, -1, n) s) : wpAny (model prog w) A (Builtin.Slice.sliceApplied (.ref sl) (pure (n : Int))) Q E s := by
  obtain ⟨os, hos, hcs, hds⟩ := id hs
  unfold Builtin.Slice.sliceApplied Builtin.Slice.sliceFields
  refine wpAny_bind (wpAny_bind (wpAny_field hos hds (x := vl) rfl (wpAny_bind (wpAny_field hos hds (x := vu) rfl (wpAny_bind (wpAny_field hos hds (x := vs) rfl (wpAny_pure ?_)))))))
  refine wpAny_bind (HT.slicePart_ ps ?_)
  show wpAny _ _ (if ((-1 : Int) == 0) = true then _ else _) _ _ s
  rw [if_neg (by decide)]
  refine wpAny_bind (HT.slicePart_ pl (wpAny_bind (HT.slicePart_ pu (wpAny_bind (wpAny_pure ?_)))))
  show wpAny _ _ (pure ((n : Int) - 1, (-1 : Int), Builtin.Slice.slicePlaces ((n : Int) - 1) (-1) (-1))) _ _ s
  have e : Builtin.Slice.slicePlaces ((n : Int) - 1) (-1) (-1) = n := by
    unfold Builtin.Slice.slicePlaces
    rw [if_neg (by decide)]
    by_cases z : (n : Int) - 1 > -1
    · rw [if_pos z, show (- -1 : Int) = 1 by decide, Int.ediv_one]
      omega
    · rw [if_neg z]
      omega
  rw [e]
  exact wpAny_pure h
theorem fm_congr {α β : Type} {f g : α → Option β} : ∀ {l : List α}, (∀ k ∈ l, f k = g k) → l.filterMap f = l.filterMap g
  | [], _ => rfl
  | a :: r, h => by
    rw [List.filterMap_cons, List.filterMap_cons, h a List.mem_cons_self, fm_congr (l := r) fun k hk => h k (List.mem_cons_of_mem _ hk)]
theorem pick_rev (xs : Array Value) : ((List.range xs.size).filterMap fun (k : Nat) => xs[((xs.size : Int) - 1 + (k : Int) * -1).toNat]?).toArray = xs.toList.reverse.toArray := by
  have e : ∀ k ∈ List.range xs.size, xs[((xs.size : Int) - 1 + (k : Int) * -1).toNat]? = xs[xs.size - 1 - k]? := fun k hk => by
    have : k < xs.size := List.mem_range.mp hk
    have e2 : ((xs.size : Int) - 1 + (k : Int) * -1).toNat = xs.size - 1 - k := by omega
    rw [e2]
  rw [fm_congr e]
  have e3 : (fun (k : Nat) => xs[xs.size - 1 - k]?) = (fun (j : Nat) => xs[j]?) ∘ (fun k => xs.size - 1 - k) := rfl
  rw [e3, ← List.filterMap_map, PySem.W.krv_range, List.filterMap_reverse, PySem.W.krv_all]
theorem getItem_tuple_rev {t sl : Addr} {items : Array Value} {vl vu vs : Value} {Q : Value → Shared → Prop} (ht : IsTup s.heap t items) (hs : s.heap.IsSliceOf sl vl vu vs) (pl : IsPart vl none) (pu : IsPart vu none) (ps : IsPart vs (some (-1)))
    (h : Q (.ref s.heap.objs.size) { s with heap := s.heap.push { cls := .type "tuple", data := .seq items.toList.reverse.toArray } })
    (hsz : items.size ≤ sizeLine) : wpAny (model prog w) A (getItem (.ref t) (.ref sl)) Q E s := by
  obtain ⟨os, hos, hcs, hds⟩ := id hs
  have hTs : s.TypeIs (.ref sl) "slice" := ⟨os, hos, hcs⟩
  unfold getItem
  try with_reducible refine wpAny_holding ?_
  first | refine wpAny_bind (wpAny_pure ?_) | skip
  refine wpAny_bind (wpAny_sequenceKey ht.typeIs (by decide) ?_)
  refine wpAny_bind (wpAny_callSpecial?_slot (name := Str.ofString "__getitem__") ht.typeIs PyProof.Rows.slot_tuple_getitem
    (wpAny_call_entry PyProof.Rows.slot_tuple_getitem ht.typeIs entry_tuple_getitem ?_ (args_tuple_getitem _ _)))
  show wpAny _ _ (Builtin.Tuple.tupleItemsOf (.ref t) >>= _) _ _ s
  refine wpAny_bind (tupleItemsOf_ ht ?_)
  refine wpAny_bind (wpAny_typeOf hTs ?_)
  rw [if_pos (by decide)]
  refine wpAny_bind (applied_rev hs pl pu ps ?_)
  have hno : ¬ (((((items.size : Nat) : Int) - 1 == 0 && (-1 : Int) == 1 && items.size == items.size)) = true) := by
    intro z
    rw [Bool.and_eq_true, Bool.and_eq_true] at z
    exact absurd z.1.2 (by decide)
  show wpAny _ _ (if ((((items.size : Nat) : Int) - 1 == 0 && (-1 : Int) == 1 && items.size == items.size)) = true then _ else _) _ _ s
  rw [if_neg hno, pick_rev]
  have htake : sizeOk (.seq items.toList.reverse.toArray) := by
    show items.toList.reverse.toArray.size ≤ sizeLine
    rw [List.size_toArray, List.length_reverse, Array.length_toList]
    exact hsz
  first
    | exact wpAny_bind (m := Builtin.Tuple.tupleExact _) (wpAny_newObj_type (wpAny_pure ⟨_, rfl, wpAny_pure h⟩) htake)
    | exact wpAny_bind (m := Builtin.Tuple.tupleExact _) (wpAny_newObj_type (wpAny_bind (wpAny_pure (wpAny_pure ⟨_, rfl, wpAny_pure h⟩))) htake)
    | exact wpAny_bind (wpAny_bind (m := Builtin.Tuple.tupleExact _) (wpAny_newObj_type (wpAny_pure (wpAny_pure ⟨_, rfl, wpAny_pure h⟩)) htake))
    | exact wpAny_bind (wpAny_bind (m := Builtin.Tuple.tupleExact _) (wpAny_newObj_type (wpAny_pure ⟨_, rfl, wpAny_pure h⟩) htake))
end
section
variable {X : Cx}
def tRevT (K : PySem.W.Frag) (te : TE) : TE := fun σ H Q => te σ H fun x H1 => ∃ a xs, x = .ref a ∧ SqT K H1 a xs ∧ ∀ p, H1 p = none → Q (.ref p) (upd H1 p (.tup xs.reverse))
theorem pe_revT {e : Expr} {te : TE} {k : Nat} {p1 p2 p3 pos : Pos} (he : PE X e te) : PE X (.Subscript e (.Slice none none (some (.UnaryOp .USub (.Constant (.int 1) k p1) p2)) p3) pos) (tRevT X.K te) := by
  refine ⟨fun pins s σ H Q I h => ?_⟩
  refine Subscript_ (thn (he.run pins s σ H _ I h) fun v s1 ⟨x, H1, I1, r1, q1⟩ => ?_)
  obtain ⟨a, xs, ex, hx, q⟩ := q1
  subst ex
  cases r1
  have hmin : PO X (some (.UnaryOp .USub (.Constant (.int 1) k p1) p2)) (tPart (tUn (rU fun i => .int (-i)) (tC (.int 1)))) := po_some (pe_un un_neg pe_int)
  refine wpAny_Slice (thn (po_none.run pins s1 σ H1 (fun o H2 => o = none ∧ H2 = H1) I1 ⟨rfl, rfl⟩) fun vl s2 ⟨l, H2, I2, pl, el, e2⟩ => ?_)
  subst el e2
  refine thn (po_none.run pins s2 σ H2 (fun o H3 => o = none ∧ H3 = H2) I2 ⟨rfl, rfl⟩) fun vu s3 ⟨u, H3, I3, pu, eu, e3⟩ => ?_
  subst eu e3
  refine thn (hmin.run pins s3 σ H3 (fun o H4 => o = some (-1) ∧ H4 = H3) I3 ⟨1, rfl, -1, rfl, rfl, rfl⟩) fun vs s4 ⟨o, H4, I4, ps, eo, e4⟩ => ?_
  subst eo e4
  have I5 : Inv X pins σ H4 { s4 with heap := s4.heap.push { cls := .type "slice", data := .fields #[vl, vu, vs] } } := I4.kept (t' := s4.toks) fun b ob q => Heap.get?_push_of_some _ q
  obtain ⟨its, r, ht, hz⟩ := I5.tuple hx
  have hlen := r.length
  show wpAny (model X.prog X.w) X.A (subscriptTail e (.Slice none none (some (.UnaryOp .USub (.Constant (.int 1) k p1) p2)) p3) (.ref a) (.ref s4.heap.objs.size)) (EP X pins σ Q) X.xe { s4 with heap := s4.heap.push { cls := .type "slice", data := .fields #[vl, vu, vs] } }
  refine tail_any (ops := [.ref a, .ref s4.heap.objs.size]) ht.typeIs (PyProof.Rows.slot_tuple_getitem.lookup) ?_ (by with_unfolding_all rfl)
  refine getItem_tuple_rev ht (Heap.IsSliceOf.new _ vl vu vs) pl pu ps ?_ (by rw [List.size_toArray]; omega)
  refine ⟨.ref _, _, I5.laid (t' := s4.toks) (o := .tup xs.reverse) (fun b ob q => Heap.get?_push_of_some _ q) (Nat.le_refl _) ?_, rfl, q _ (I5.hok.fresh (Nat.le_refl _))⟩
  exact ⟨by rw [List.length_reverse]; exact hz, _, r.reverse, IsTup.new _ _⟩
end
/-! ### o.m(k = e) -/
def tMethK (C : Addr) (m : Str) (sp : Sp) (gV : List V → List V → List V) (E : XK) (ta : TE) (tk : TA) : TE := fun σ H Q => ta σ H fun x H1 => ∃ a dx fs, x = .ref a ∧ H1 a = some (.ins C dx fs) ∧ fs.lookup m = none ∧
  tk σ H1 fun zs H2 => sp (gV [x] zs) H2 Q E
section
variable {X : Cx} {CX : CXT} {k : Nat} {f C : Addr} {fd : FuncData} {ps ks : List Str} {sp : Sp} {E : XK} {m : Str} {pos apos : Pos} {o : Expr} {kws : List Keyword} {ta : TE} {tk : TA} {g : List Value → List Value → List Value} {gV : List V → List V → List V}
theorem pe_methK {pl : Sem Bool} (he : PE X o ta) (c : Cls X.K C) (hm : Meth X.K C m f) (F : FnOk X.prog X.w X.K X.mg X.base CX k f fd ps sp) (hr : Room k X.A) (hb : KBinds X.K fd ps ks g gV) (hx : Passes CX X E) (hkw : PK X kws tk)
    (hall : (backToKw pos (keywordEach kws X.env)).all (·.1.isSome) = true := by rfl) (hks : (backToKw pos (keywordEach kws X.env)).filterMap (·.1) = ks := by rfl)
    (hpl : ((backTo pos (starEach [] X.env)).any (·.1) || (backToKw pos (keywordEach kws X.env)).any (·.1.isNone)) = false := by rfl)
    (ht : eval (.Call (.Attribute o m apos) [] kws pos) X.env = (do
      let ov ← eval o X.env
      standAt apos.atName
      let (f, first) ← holding [ov] (getMethod ov m pl)
      callWith pos f first (backTo pos (starEach [] X.env)) (backToKw pos (keywordEach kws X.env))) := by rfl) :
    PE X (.Call (.Attribute o m apos) [] kws pos) (tMethK C m sp gV E ta tk) := by
  refine ⟨fun pins s σ H Q I h => ?_⟩
  refine PySem.W.methodCall_KW (pl := pl) (thn (he.run pins s σ H _ I h) fun u s1 ⟨x, H1, I1, rx, a, dx, fs, ex, ea, l, q⟩ => ?_) ht
  subst ex
  obtain rfl : u = Value.ref a := rx
  refine getmeth_ok I1 ea c hm l ?_
  refine PySem.W.callWith_KW0 (first := [.ref a]) (h₀ := X.base) I.ok.mod.kin hm.kp hall ?_ hpl
  refine thn (hkw.run pos pins s1 σ H1 _ I1 q) fun ws s2 ⟨zs, H2, I2, rz, q2⟩ => ⟨I2.kIn, ?_⟩
  rw [hks]
  exact run_fnk (us := [.ref a]) (vs := [.ref a]) F hr hb hx I2 (.cons rfl .nil) rz q2
end
end Lk

namespace Lk
open PySem L2
theorem tyL {K : PySem.W.Frag} {H : Hp} {a : Addr} {xs : List V} (h : SqL K H a xs) : TyX K H (.ref a) (.type "list") := by
  rcases h with (h | ⟨o, h⟩) | ⟨o, its, n, hk, hc, _⟩
  · exact .base (.lst h)
  · exact .base (.frz h)
  · exact .kList hk hc
def scal : V → Bool
  | .non => true
  | .bl _ => true
  | .int _ => true
  | .str _ => true
  | _ => false
/-- found and due are alike, their parts m deep -/
def DD (K : PySem.W.Frag) (H : Hp) : Nat → V → V → Prop
  | 0, u, v => scal u = true ∧ u = v
  | m + 1, u, v => (scal u = true ∧ u = v) ∨ ∃ (a b : Addr) (xs ys : List V), u = .ref a ∧ v = .ref b ∧ ((SqT K H a xs ∧ SqT K H b ys) ∨ (SqL K H a xs ∧ SqL K H b ys)) ∧ xs.length = ys.length ∧ xs.length ≤ 1000 ∧ ∀ (i : Nat) (x y : V), xs[i]? = some x → ys[i]? = some y → DD K H m x y
theorem Same.sqL {K : PySem.W.Frag} {H H' : Hp} {a : Addr} {xs : List V} (e : Same H H') (h : SqL K H a xs) : SqL K H' a xs := L2.Same.seq e h
theorem DD.same {K : PySem.W.Frag} {H H' : Hp} (e : Same H H') : ∀ {m : Nat} {u v : V}, DD K H m u v → DD K H' m u v
  | 0, _, _, h => h
  | m + 1, u, v, h => by
    rcases h with h | ⟨a, b, xs, ys, rfl, rfl, hs, hl, h1, hr⟩
    · exact .inl h
    · refine .inr ⟨a, b, xs, ys, rfl, rfl, ?_, hl, h1, fun i x y f1 f2 => DD.same e (hr i x y f1 f2)⟩
      rcases hs with ⟨p, q⟩ | ⟨p, q⟩
      · exact .inl ⟨Same.sqT e p, Same.sqT e q⟩
      · exact .inr ⟨Same.sqL e p, Same.sqL e q⟩
theorem DD.up {K : PySem.W.Frag} {H : Hp} : ∀ {m : Nat} {u v : V}, DD K H m u v → DD K H (m + 1) u v
  | 0, u, v, h => .inl h
  | m + 1, u, v, h => by
    rcases h with h | ⟨a, b, xs, ys, e1, e2, hs, hl, h1, hr⟩
    · exact .inl h
    · exact .inr ⟨a, b, xs, ys, e1, e2, hs, hl, h1, fun i x y f1 f2 => DD.up (hr i x y f1 f2)⟩
def spSame (K : PySem.W.Frag) (m : Nat) : Sp := fun vs H Q _ => ∃ u v, vs = [u, v] ∧ DD K H m u v ∧ ∀ H', Same H H' → Q (.bl true) H'
section
variable {P : Program} {w : World} {K : PySem.W.Frag} {mg : Str → Option Value} {base : Heap}
theorem ok_same {f : Addr} {fd : FuncData} {k : Nat} (F : Fun K "_law_same" "_law_same" sLSame f fd) (ms : mg "isinstance" = none) (m1 : mg "list" = none) (m2 : mg "tuple" = none) (m3 : mg "dict" = none) (m4 : mg "bool" = none) (m5 : mg "int" = none) (m6 : mg "str" = none)
    (ml : mg "len" = none) (ma : mg "all" = none) (mz : mg "zip" = none) (gF : mg "_law_same" = some (.ref f)) (bF : Binds K fd ["_law_found", "_law_due"] []) :
    ∀ m : Nat, FnOk P w K mg base CX0 (k + 1 + m) f fd ["_law_found", "_law_due"] (spSame K m) := by
  intro m
  induction m with
  | zero =>
    refine F.ok scLSame (fun vs H Q E h => ?_) (fun cdv A outer s H vs Q E hr h => ?_)
    · obtain ⟨u, v, rfl, _⟩ := h
      rfl
    obtain ⟨u, v, rfl, hd, q⟩ := h
    refine ⟨_, pss_cons (ps_if (PW.pt (pw_or (pt_val (pe_callB call_isi (by rfl) ms (by decide +kernel) (pa_cons (pv 1) (pa_cons (pe_bltn (v := .ty "list") (by rfl) m1 (by decide +kernel) rfl) pa_nil)))) (pw_or1 (pt_val (pe_callB call_isi (by rfl) ms (by decide +kernel) (pa_cons (pv 1) (pa_cons (pe_bltn (v := .ty "tuple") (by rfl) m2 (by decide +kernel) rfl) pa_nil))))))) pss_never pss_nil)
      (pss_cons (ps_if (pt_val (pe_callB call_isi (by rfl) ms (by decide +kernel) (pa_cons (pv 1) (pa_cons (pe_bltn (v := .ty "dict") (by rfl) m3 (by decide +kernel) rfl) pa_nil)))) pss_never pss_nil)
      (pss_cons (ps_if (PW.pt (pw_or (pt_cmpR op_isN (pv 1) pe_non (nomark _)) (pw_or1 (pt_cmpR op_isN (pv 0) pe_non (nomark _))))) (pss_one (ps_ret (pe_and (pe_cmpR op_isN (pv 1) pe_non (nomark _)) (pe_one (pe_cmpR op_isN (pv 0) pe_non (nomark _)))))) pss_nil)
      (pss_cons (ps_if (PW.pt (pw_or (pt_cmpR op_ne (pe_callB call_isi (by rfl) ms (by decide +kernel) (pa_cons (pv 0) (pa_cons (pe_bltn (v := .ty "bool") (by rfl) m4 (by decide +kernel) rfl) pa_nil))) (pe_callB call_isi (by rfl) ms (by decide +kernel) (pa_cons (pv 1) (pa_cons (pe_bltn (v := .ty "bool") (by rfl) m4 (by decide +kernel) rfl) pa_nil))) (nomark _)) (pw_or1 (pt_cmpR op_ne (pe_callB call_isi (by rfl) ms (by decide +kernel) (pa_cons (pv 0) (pa_cons (pe_bltn (v := .ty "int") (by rfl) m5 (by decide +kernel) rfl) pa_nil))) (pe_callB call_isi (by rfl) ms (by decide +kernel) (pa_cons (pv 1) (pa_cons (pe_bltn (v := .ty "int") (by rfl) m5 (by decide +kernel) rfl) pa_nil))) (nomark _))))) (pss_one (ps_ret pe_bl)) pss_nil)
      (pss_one (ps_ret (pe_and (pe_cmpR op_eq (pe_callB call_isi (by rfl) ms (by decide +kernel) (pa_cons (pv 0) (pa_cons (pe_bltn (v := .ty "str") (by rfl) m6 (by decide +kernel) rfl) pa_nil))) (pe_callB call_isi (by rfl) ms (by decide +kernel) (pa_cons (pv 1) (pa_cons (pe_bltn (v := .ty "str") (by rfl) m6 (by decide +kernel) rfl) pa_nil))) (nomark _)) (pe_one (pe_cmpR op_eq (pv 0) (pv 1) (nomark _))))))))), ?_⟩
    obtain ⟨hs, rfl⟩ := hd
    have qq := q H (Same.refl _)
    cases u with
    | non =>
      refine ⟨_, rfl, _, _, _, _, false, rfl, .ty _, .base .non, kit_ty (by decide +kernel), false, rfl, iteF ?_⟩
      refine ⟨_, rfl, _, _, _, _, false, rfl, .ty _, .base .non, kit_ty (by decide +kernel), false, rfl, iteF ?_⟩
      refine ⟨_, rfl, _, _, _, _, false, rfl, .ty _, .base .non, kit_ty (by decide +kernel), false, rfl, iteF ?_⟩
      exact ⟨_, rfl, rfl, true, rfl, iteT ⟨_, rfl, rfl, true, rfl, iteT ⟨_, rfl, rfl, qq⟩⟩⟩
    | bl x =>
      refine ⟨_, rfl, _, _, _, _, false, rfl, .ty _, .base (.bl x), kit_ty (by decide +kernel), false, rfl, iteF ?_⟩
      refine ⟨_, rfl, _, _, _, _, false, rfl, .ty _, .base (.bl x), kit_ty (by decide +kernel), false, rfl, iteF ?_⟩
      refine ⟨_, rfl, _, _, _, _, false, rfl, .ty _, .base (.bl x), kit_ty (by decide +kernel), false, rfl, iteF ?_⟩
      refine ⟨_, rfl, rfl, false, rfl, iteF ⟨_, rfl, rfl, false, rfl, iteF ?_⟩⟩
      refine ⟨_, rfl, _, _, _, _, true, rfl, .ty _, .base (.bl x), kit_ty (by decide +kernel), _, rfl, _, _, _, _, true, rfl, .ty _, .base (.bl x), kit_ty (by decide +kernel), rfl, false, rfl, iteF ?_⟩
      refine ⟨_, rfl, _, _, _, _, true, rfl, .ty _, .base (.bl x), kit_ty (by decide +kernel), _, rfl, _, _, _, _, true, rfl, .ty _, .base (.bl x), kit_ty (by decide +kernel), rfl, false, rfl, iteF ?_⟩
      refine ⟨_, rfl, _, _, _, _, false, rfl, .ty _, .base (.bl x), kit_ty (by decide +kernel), _, rfl, _, _, _, _, false, rfl, .ty _, .base (.bl x), kit_ty (by decide +kernel), rfl, true, rfl, iteT ?_⟩
      refine ⟨_, rfl, _, rfl, rfl, ?_⟩
      rw [decide_eq_true rfl]
      exact qq
    | int x =>
      refine ⟨_, rfl, _, _, _, _, false, rfl, .ty _, .base (.int x), kit_ty (by decide +kernel), false, rfl, iteF ?_⟩
      refine ⟨_, rfl, _, _, _, _, false, rfl, .ty _, .base (.int x), kit_ty (by decide +kernel), false, rfl, iteF ?_⟩
      refine ⟨_, rfl, _, _, _, _, false, rfl, .ty _, .base (.int x), kit_ty (by decide +kernel), false, rfl, iteF ?_⟩
      refine ⟨_, rfl, rfl, false, rfl, iteF ⟨_, rfl, rfl, false, rfl, iteF ?_⟩⟩
      refine ⟨_, rfl, _, _, _, _, false, rfl, .ty _, .base (.int x), kit_ty (by decide +kernel), _, rfl, _, _, _, _, false, rfl, .ty _, .base (.int x), kit_ty (by decide +kernel), rfl, false, rfl, iteF ?_⟩
      refine ⟨_, rfl, _, _, _, _, true, rfl, .ty _, .base (.int x), kit_ty (by decide +kernel), _, rfl, _, _, _, _, true, rfl, .ty _, .base (.int x), kit_ty (by decide +kernel), rfl, false, rfl, iteF ?_⟩
      refine ⟨_, rfl, _, _, _, _, false, rfl, .ty _, .base (.int x), kit_ty (by decide +kernel), _, rfl, _, _, _, _, false, rfl, .ty _, .base (.int x), kit_ty (by decide +kernel), rfl, true, rfl, iteT ?_⟩
      refine ⟨_, rfl, _, rfl, rfl, ?_⟩
      rw [decide_eq_true rfl]
      exact qq
    | str x =>
      refine ⟨_, rfl, _, _, _, _, false, rfl, .ty _, .base (.str x), kit_ty (by decide +kernel), false, rfl, iteF ?_⟩
      refine ⟨_, rfl, _, _, _, _, false, rfl, .ty _, .base (.str x), kit_ty (by decide +kernel), false, rfl, iteF ?_⟩
      refine ⟨_, rfl, _, _, _, _, false, rfl, .ty _, .base (.str x), kit_ty (by decide +kernel), false, rfl, iteF ?_⟩
      refine ⟨_, rfl, rfl, false, rfl, iteF ⟨_, rfl, rfl, false, rfl, iteF ?_⟩⟩
      refine ⟨_, rfl, _, _, _, _, false, rfl, .ty _, .base (.str x), kit_ty (by decide +kernel), _, rfl, _, _, _, _, false, rfl, .ty _, .base (.str x), kit_ty (by decide +kernel), rfl, false, rfl, iteF ?_⟩
      refine ⟨_, rfl, _, _, _, _, false, rfl, .ty _, .base (.str x), kit_ty (by decide +kernel), _, rfl, _, _, _, _, false, rfl, .ty _, .base (.str x), kit_ty (by decide +kernel), rfl, false, rfl, iteF ?_⟩
      refine ⟨_, rfl, _, _, _, _, true, rfl, .ty _, .base (.str x), kit_ty (by decide +kernel), _, rfl, _, _, _, _, true, rfl, .ty _, .base (.str x), kit_ty (by decide +kernel), rfl, true, rfl, iteT ?_⟩
      refine ⟨_, rfl, _, rfl, rfl, ?_⟩
      rw [decide_eq_true rfl]
      exact qq
    | _ => cases hs
  | succ m GT =>
    refine F.ok scLSame (fun vs H Q E h => ?_) (fun cdv A outer s H vs Q E hr h => ?_)
    · obtain ⟨u, v, rfl, _⟩ := h
      rfl
    obtain ⟨u, v, rfl, hd, q⟩ := h
    have hr' : Room (k + 1 + m) _ := hr
    refine ⟨_, pss_cons (ps_if (PW.pt (pw_or (pt_val (pe_callB call_isi (by rfl) ms (by decide +kernel) (pa_cons (pv 1) (pa_cons (pe_bltn (v := .ty "list") (by rfl) m1 (by decide +kernel) rfl) pa_nil)))) (pw_or1 (pt_val (pe_callB call_isi (by rfl) ms (by decide +kernel) (pa_cons (pv 1) (pa_cons (pe_bltn (v := .ty "tuple") (by rfl) m2 (by decide +kernel) rfl) pa_nil)))))))
        (pss_cons (ps_if (PW.pt (pw_or (pt_cmpR op_ne (pe_callB call_isi (by rfl) ms (by decide +kernel) (pa_cons (pv 0) (pa_cons (pe_bltn (v := .ty "list") (by rfl) m1 (by decide +kernel) rfl) pa_nil))) (pe_callB call_isi (by rfl) ms (by decide +kernel) (pa_cons (pv 1) (pa_cons (pe_bltn (v := .ty "list") (by rfl) m1 (by decide +kernel) rfl) pa_nil))) (nomark _)) (pw_or1 (pt_cmpR op_ne (pe_callB call_isi (by rfl) ms (by decide +kernel) (pa_cons (pv 0) (pa_cons (pe_bltn (v := .ty "tuple") (by rfl) m2 (by decide +kernel) rfl) pa_nil))) (pe_callB call_isi (by rfl) ms (by decide +kernel) (pa_cons (pv 1) (pa_cons (pe_bltn (v := .ty "tuple") (by rfl) m2 (by decide +kernel) rfl) pa_nil))) (nomark _))))) (pss_one (ps_ret pe_bl)) pss_nil)
        (pss_one (ps_ret (pe_and (pe_cmpR op_eq (pe_callB call_len_seq (by rfl) ml PySem.boot_len (pa_cons (pv 0) pa_nil)) (pe_callB call_len_seq (by rfl) ml PySem.boot_len (pa_cons (pv 1) pa_nil)) (nomark _))
          (pe_one (pe_callB (cr_all rfl) (by rfl) ma (by decide +kernel) (pa_cons (pe_lc (own := [("_law_one", 2), ("_law_other", 3)]) (g := gTup K 2 (gCons (gName 2) (gCons (gName 3) gNil))) (by rfl) scLSame.nd (RZ.pi_zipA (by rfl) mz (pa_cons (pv 0) (pa_cons (pv 1) pa_nil)))
            (blkOk_by (own := [("_law_one", 2), ("_law_other", 3)]) (N := ["_law_found", "_law_due", "_law_one", "_law_other", "_law_key"]) (sc := defScope sLSame) (by decide +kernel))
            (fun _ _ _ _ _ => pg_tup rfl (pgs_cons (pg_name (i := 2) scLSame.nd rfl (.inl rfl)) (pgs_cons (pg_name (i := 3) scLSame.nd rfl (.inl rfl)) pgs_nil))) (fun _ _ _ _ _ => pts_nil)
            (fun _ _ _ _ _ => pe_call GT hr' (by rfl) gF F.kp bF .nil pass0 (pa_cons (pv 2) (pa_cons (pv 3) pa_nil)))) pa_nil))))))) pss_nil)
      (pss_cons (ps_if (pt_val (pe_callB call_isi (by rfl) ms (by decide +kernel) (pa_cons (pv 1) (pa_cons (pe_bltn (v := .ty "dict") (by rfl) m3 (by decide +kernel) rfl) pa_nil)))) pss_never pss_nil)
      (pss_cons (ps_if (PW.pt (pw_or (pt_cmpR op_isN (pv 1) pe_non (nomark _)) (pw_or1 (pt_cmpR op_isN (pv 0) pe_non (nomark _))))) (pss_one (ps_ret (pe_and (pe_cmpR op_isN (pv 1) pe_non (nomark _)) (pe_one (pe_cmpR op_isN (pv 0) pe_non (nomark _)))))) pss_nil)
      (pss_cons (ps_if (PW.pt (pw_or (pt_cmpR op_ne (pe_callB call_isi (by rfl) ms (by decide +kernel) (pa_cons (pv 0) (pa_cons (pe_bltn (v := .ty "bool") (by rfl) m4 (by decide +kernel) rfl) pa_nil))) (pe_callB call_isi (by rfl) ms (by decide +kernel) (pa_cons (pv 1) (pa_cons (pe_bltn (v := .ty "bool") (by rfl) m4 (by decide +kernel) rfl) pa_nil))) (nomark _)) (pw_or1 (pt_cmpR op_ne (pe_callB call_isi (by rfl) ms (by decide +kernel) (pa_cons (pv 0) (pa_cons (pe_bltn (v := .ty "int") (by rfl) m5 (by decide +kernel) rfl) pa_nil))) (pe_callB call_isi (by rfl) ms (by decide +kernel) (pa_cons (pv 1) (pa_cons (pe_bltn (v := .ty "int") (by rfl) m5 (by decide +kernel) rfl) pa_nil))) (nomark _))))) (pss_one (ps_ret pe_bl)) pss_nil)
      (pss_one (ps_ret (pe_and (pe_cmpR op_eq (pe_callB call_isi (by rfl) ms (by decide +kernel) (pa_cons (pv 0) (pa_cons (pe_bltn (v := .ty "str") (by rfl) m6 (by decide +kernel) rfl) pa_nil))) (pe_callB call_isi (by rfl) ms (by decide +kernel) (pa_cons (pv 1) (pa_cons (pe_bltn (v := .ty "str") (by rfl) m6 (by decide +kernel) rfl) pa_nil))) (nomark _)) (pe_one (pe_cmpR op_eq (pv 0) (pv 1) (nomark _))))))))), ?_⟩
    rcases hd with ⟨hs, rfl⟩ | ⟨a, b, xs, ys, rfl, rfl, hS, hl, h1, hr2⟩
    · have qq := q H (Same.refl _)
      cases u with
      | non =>
        refine ⟨_, rfl, _, _, _, _, false, rfl, .ty _, .base .non, kit_ty (by decide +kernel), false, rfl, iteF ?_⟩
        refine ⟨_, rfl, _, _, _, _, false, rfl, .ty _, .base .non, kit_ty (by decide +kernel), false, rfl, iteF ?_⟩
        refine ⟨_, rfl, _, _, _, _, false, rfl, .ty _, .base .non, kit_ty (by decide +kernel), false, rfl, iteF ?_⟩
        exact ⟨_, rfl, rfl, true, rfl, iteT ⟨_, rfl, rfl, true, rfl, iteT ⟨_, rfl, rfl, qq⟩⟩⟩
      | bl x =>
        refine ⟨_, rfl, _, _, _, _, false, rfl, .ty _, .base (.bl x), kit_ty (by decide +kernel), false, rfl, iteF ?_⟩
        refine ⟨_, rfl, _, _, _, _, false, rfl, .ty _, .base (.bl x), kit_ty (by decide +kernel), false, rfl, iteF ?_⟩
        refine ⟨_, rfl, _, _, _, _, false, rfl, .ty _, .base (.bl x), kit_ty (by decide +kernel), false, rfl, iteF ?_⟩
        refine ⟨_, rfl, rfl, false, rfl, iteF ⟨_, rfl, rfl, false, rfl, iteF ?_⟩⟩
        refine ⟨_, rfl, _, _, _, _, true, rfl, .ty _, .base (.bl x), kit_ty (by decide +kernel), _, rfl, _, _, _, _, true, rfl, .ty _, .base (.bl x), kit_ty (by decide +kernel), rfl, false, rfl, iteF ?_⟩
        refine ⟨_, rfl, _, _, _, _, true, rfl, .ty _, .base (.bl x), kit_ty (by decide +kernel), _, rfl, _, _, _, _, true, rfl, .ty _, .base (.bl x), kit_ty (by decide +kernel), rfl, false, rfl, iteF ?_⟩
        refine ⟨_, rfl, _, _, _, _, false, rfl, .ty _, .base (.bl x), kit_ty (by decide +kernel), _, rfl, _, _, _, _, false, rfl, .ty _, .base (.bl x), kit_ty (by decide +kernel), rfl, true, rfl, iteT ?_⟩
        refine ⟨_, rfl, _, rfl, rfl, ?_⟩
        rw [decide_eq_true rfl]
        exact qq
      | int x =>
        refine ⟨_, rfl, _, _, _, _, false, rfl, .ty _, .base (.int x), kit_ty (by decide +kernel), false, rfl, iteF ?_⟩
        refine ⟨_, rfl, _, _, _, _, false, rfl, .ty _, .base (.int x), kit_ty (by decide +kernel), false, rfl, iteF ?_⟩
        refine ⟨_, rfl, _, _, _, _, false, rfl, .ty _, .base (.int x), kit_ty (by decide +kernel), false, rfl, iteF ?_⟩
        refine ⟨_, rfl, rfl, false, rfl, iteF ⟨_, rfl, rfl, false, rfl, iteF ?_⟩⟩
        refine ⟨_, rfl, _, _, _, _, false, rfl, .ty _, .base (.int x), kit_ty (by decide +kernel), _, rfl, _, _, _, _, false, rfl, .ty _, .base (.int x), kit_ty (by decide +kernel), rfl, false, rfl, iteF ?_⟩
        refine ⟨_, rfl, _, _, _, _, true, rfl, .ty _, .base (.int x), kit_ty (by decide +kernel), _, rfl, _, _, _, _, true, rfl, .ty _, .base (.int x), kit_ty (by decide +kernel), rfl, false, rfl, iteF ?_⟩
        refine ⟨_, rfl, _, _, _, _, false, rfl, .ty _, .base (.int x), kit_ty (by decide +kernel), _, rfl, _, _, _, _, false, rfl, .ty _, .base (.int x), kit_ty (by decide +kernel), rfl, true, rfl, iteT ?_⟩
        refine ⟨_, rfl, _, rfl, rfl, ?_⟩
        rw [decide_eq_true rfl]
        exact qq
      | str x =>
        refine ⟨_, rfl, _, _, _, _, false, rfl, .ty _, .base (.str x), kit_ty (by decide +kernel), false, rfl, iteF ?_⟩
        refine ⟨_, rfl, _, _, _, _, false, rfl, .ty _, .base (.str x), kit_ty (by decide +kernel), false, rfl, iteF ?_⟩
        refine ⟨_, rfl, _, _, _, _, false, rfl, .ty _, .base (.str x), kit_ty (by decide +kernel), false, rfl, iteF ?_⟩
        refine ⟨_, rfl, rfl, false, rfl, iteF ⟨_, rfl, rfl, false, rfl, iteF ?_⟩⟩
        refine ⟨_, rfl, _, _, _, _, false, rfl, .ty _, .base (.str x), kit_ty (by decide +kernel), _, rfl, _, _, _, _, false, rfl, .ty _, .base (.str x), kit_ty (by decide +kernel), rfl, false, rfl, iteF ?_⟩
        refine ⟨_, rfl, _, _, _, _, false, rfl, .ty _, .base (.str x), kit_ty (by decide +kernel), _, rfl, _, _, _, _, false, rfl, .ty _, .base (.str x), kit_ty (by decide +kernel), rfl, false, rfl, iteF ?_⟩
        refine ⟨_, rfl, _, _, _, _, true, rfl, .ty _, .base (.str x), kit_ty (by decide +kernel), _, rfl, _, _, _, _, true, rfl, .ty _, .base (.str x), kit_ty (by decide +kernel), rfl, true, rfl, iteT ?_⟩
        refine ⟨_, rfl, _, rfl, rfl, ?_⟩
        rw [decide_eq_true rfl]
        exact qq
      | _ => cases hs
    -- the parts
    have lens : ∀ {D : Addr} {H2 : Hp} {i : Nat} {n : Nat}, i < n → n = xs.length → (((List.replicate i true).map V.bl)).length < sizeLine := fun {D H2 i n} hi hn => by
      rw [List.length_map, List.length_replicate]
      exact small1000 (by omega)
    have step : ∀ {D T : Addr} {H2 : Hp} {i : Nat} {x y : V}, H D = none → xs[i]? = some x → ys[i]? = some y → Same H H2 → H2 D = some (.lst ((List.replicate i true).map V.bl)) → H2 T = none →
        spSame K m [x, y] (upd H2 T (.tup [x, y])) (fun v H3 => ∃ acc, H3 D = some (.lst acc) ∧ acc.length < sizeLine ∧ Same H (upd H3 D (.lst (acc ++ [v]))) ∧ (upd H3 D (.lst (acc ++ [v]))) D = some (.lst ((List.replicate (i + 1) true).map V.bl))) E0 := fun {D T H2 i x y} nD fx fy sm hD nT => by
      refine ⟨x, y, rfl, DD.same (sm.trans (same_new nT)) (hr2 i x y fx fy), fun H3 s3 => ?_⟩
      have hi : i < xs.length := (List.getElem?_eq_some_iff.mp fx).1
      have hD2 : (upd H2 T (.tup [x, y])) D = some (.lst ((List.replicate i true).map V.bl)) := by
        rw [upd_ne (ne_of_none hD nT)]
        exact hD
      refine ⟨_, s3 _ _ hD2, ?_, ?_, ?_⟩
      · rw [List.length_map, List.length_replicate]
        exact small1000 (by omega)
      · intro c o e
        rw [upd_ne (ne_of_none e nD)]
        exact s3 _ _ ((same_new nT) _ _ (sm _ _ e))
      · rw [upd_same, List.replicate_succ', List.map_append]
        rfl
    have fin : ∀ {D : Addr} {H2 : Hp} {n : Nat}, Same H H2 → H2 D = some (.lst ((List.replicate n true).map V.bl)) → ∃ (a : Addr) (bs : List Bool), [V.ref D] = [V.ref a] ∧ SqL K H2 a (bs.map V.bl) ∧ Q (.bl (bs.all id)) H2 := fun {D H2 n} sm hD => by
      refine ⟨D, List.replicate n true, rfl, SqL.of hD, ?_⟩
      have e : (List.replicate n true).all id = true := by simp
      rw [e]
      exact q H2 sm
    rcases hS with ⟨hA, hB⟩ | ⟨hA, hB⟩
    · refine ⟨_, rfl, _, _, _, _, false, rfl, .ty _, tyT hB, kit_ty (by decide +kernel), false, rfl, iteF ?_⟩
      refine ⟨_, rfl, _, _, _, _, true, rfl, .ty _, tyT hB, kit_ty (by decide +kernel), true, rfl, iteT ?_⟩
      refine ⟨_, rfl, _, _, _, _, false, rfl, .ty _, tyT hA, kit_ty (by decide +kernel), _, rfl, _, _, _, _, false, rfl, .ty _, tyT hB, kit_ty (by decide +kernel), rfl, false, rfl, iteF ?_⟩
      refine ⟨_, rfl, _, _, _, _, true, rfl, .ty _, tyT hA, kit_ty (by decide +kernel), _, rfl, _, _, _, _, true, rfl, .ty _, tyT hB, kit_ty (by decide +kernel), rfl, false, rfl, iteF ?_⟩
      refine ⟨_, rfl, a, _, rfl, .inr hA, _, rfl, b, _, rfl, .inr hB, rfl, true, congrArg V.bl (decide_eq_true (by rw [hl])), iteT ?_⟩
      refine ⟨_, rfl, _, rfl, a, b, xs, ys, rfl, .inr ⟨hA, hB, fun D nD => ?_⟩⟩
      refine lc_it (walk_zipT hl) (fun i H2 => Same H H2 ∧ H2 D = some (.lst ((List.replicate i true).map V.bl))) ⟨same_new nD, upd_same⟩ (fun i H2 _ ⟨sm, _⟩ => ⟨Same.sqT sm hA, Same.sqT sm hB⟩) ?_ ?_
      · rintro i x H2 H3 hi ⟨sm, hD⟩ ⟨T, x1, x2, rfl, nT, rfl, f1, f2⟩
        refine ⟨T, _, rfl, SqT.of upd_same, rfl, _, _, rfl, _, _, rfl, rfl, rfl, _, rfl, _, rfl, step nD f1 f2 sm hD nT⟩
      · rintro H2 ⟨sm, hD⟩
        exact fin sm hD
    · refine ⟨_, rfl, _, _, _, _, true, rfl, .ty _, tyL hB, kit_ty (by decide +kernel), true, rfl, iteT ?_⟩
      refine ⟨_, rfl, _, _, _, _, true, rfl, .ty _, tyL hA, kit_ty (by decide +kernel), _, rfl, _, _, _, _, true, rfl, .ty _, tyL hB, kit_ty (by decide +kernel), rfl, false, rfl, iteF ?_⟩
      refine ⟨_, rfl, _, _, _, _, false, rfl, .ty _, tyL hA, kit_ty (by decide +kernel), _, rfl, _, _, _, _, false, rfl, .ty _, tyL hB, kit_ty (by decide +kernel), rfl, false, rfl, iteF ?_⟩
      refine ⟨_, rfl, a, _, rfl, .inl hA, _, rfl, b, _, rfl, .inl hB, rfl, true, congrArg V.bl (decide_eq_true (by rw [hl])), iteT ?_⟩
      refine ⟨_, rfl, _, rfl, a, b, xs, ys, rfl, .inl ⟨hA, hB, fun D nD => ?_⟩⟩
      refine lc_it (walk_zip (n := xs.length) (by omega)) (fun i H2 => Same H H2 ∧ H2 D = some (.lst ((List.replicate i true).map V.bl))) ⟨same_new nD, upd_same⟩ (fun i H2 _ ⟨sm, _⟩ => ⟨Same.sqL sm hA, Same.sqL sm hB⟩) ?_ ?_
      · rintro i x H2 H3 hi ⟨sm, hD⟩ ⟨T, x1, x2, rfl, nT, rfl, f1, f2⟩
        refine ⟨T, _, rfl, SqT.of upd_same, rfl, _, _, rfl, _, _, rfl, rfl, rfl, _, rfl, _, rfl, step nD f1 f2 sm hD nT⟩
      · rintro H2 ⟨sm, hD⟩
        exact fin sm hD
end
end Lk

/-! defs of a class whose text says super(): their closure holds the class's own cell -/
namespace Lx
open PySem L2
/-- the context of such a def's body: as any def's, the cell of the class beside -/
def cxK (CX : CXT) (P : Program) (w : World) (K : PySem.W.Frag) (mg : Str → Option Value) (base : Heap) (N : List Str) (qual : Str) (scope : Scope) (f : Addr) (cd : Value) (cc : Addr) (A : Around) (outer : List Env) (s : Shared) (H : Hp) (E : XK) : Cx :=
  { cxOf CX P w K mg base N qual scope f cd A outer s H E with
    A := A.deeper (PySem.W.ksEnv qual scope s.heap.objs.size f cd cc)
    env := PySem.W.ksEnv qual scope s.heap.objs.size f cd cc
    stack := PySem.W.ksEnv qual scope s.heap.objs.size f cd cc :: outer
    fn := fun _ => false
    xe := fun e s' => wpAny (model P w) (A.deeper (PySem.W.ksEnv qual scope s.heap.objs.size f cd cc)) (leaving (PySem.W.ksEnv qual scope s.heap.objs.size f cd cc) e) (fun _ s'' => CX outer H s E e s'') (fun e' s'' => CX outer H s E e' s'') s' }
structure KScope (N : List Str) (sc : Scope) : Prop where
  kind : sc.kind = .function
  co : sc.isCoroutine = false
  gen : sc.isGenerator = false
  nd : N.Nodup
  par : ∀ x ∈ N, sc.names.lookup x = some .local
  cell : ∀ y ∈ sc.names, y.2 ≠ .cell
  free : ∀ y ∈ sc.names, y.2 = .free → y.1 = "__class__"
theorem look_zip : ∀ {ps : List Str} {us : List Value} {i : Nat} {y : Str} {u : Value}, ps.Nodup → ps[i]? = some y → us[i]? = some u → (ps.zip us).reverse.lookup y = some u := by
  have key : ∀ {l : List (Str × Value)} {y : Str} {u : Value}, (l.map (·.1)).Nodup → (y, u) ∈ l → l.lookup y = some u := by
    intro l y u
    induction l with
    | nil => intro _ h; cases h
    | cons q r ih =>
      intro nd h
      obtain ⟨z, v⟩ := q
      rw [List.map_cons, List.nodup_cons] at nd
      rcases List.mem_cons.mp h with e | e
      · cases e
        simp [List.lookup]
      · have ne : y ≠ z := fun ez => nd.1 (by rw [← ez]; exact List.mem_map.mpr ⟨(y, u), e, rfl⟩)
        have nb : (y == z) = false := by simpa using ne
        simp only [List.lookup, nb]
        exact ih nd.2 e
  intro ps us i y u nd h1 h2
  refine key ?_ ?_
  · rw [List.map_reverse]
    refine (List.reverse_perm _).nodup_iff.mpr (nd.sublist ?_)
    have : (ps.zip us).map (·.1) = ps.take us.length := by
      clear h1 h2 nd
      induction ps generalizing us with
      | nil => simp
      | cons p r ih =>
        cases us with
        | nil => simp
        | cons v t => simp [ih]
    rw [this]
    exact List.take_sublist _ _
  · rw [List.mem_reverse]
    have : (ps.zip us)[i]? = some (y, u) := by
      rw [List.getElem?_zip_eq_some]
      exact ⟨h1, h2⟩
    exact List.mem_of_getElem? this
section
variable {CX : CXT} {P : Program} {w : World} {K : PySem.W.Frag} {mg : Str → Option Value} {base : Heap} {N : List Str} {qual : Str} {scope : Scope} {f cc D : Addr} {cd : Value} {A : Around} {outer : List Env} {s : Shared} {H : Hp} {E : XK} {us : List Value} {vs : List V}
theorem inv_startK (S : KScope N scope) (hd : A.handled = none) (e0 : Env0 P w K mg base A outer s H) (hl : vs.length = N.length) (r : Vals vs us) {cl : Value} {cld : Option Addr} {csl : Array (Option Value)} {cv : Option Value}
    (hcell : K.lookup cc = some ⟨cl, cld, .cell cv, csl⟩) {h1 : Heap} {tk : Nat} (hns : h1.Ns s.heap.objs.size (fun x => (N.zip us).reverse.lookup x)) (hk : ∀ b o, s.heap.get? b = some o → h1.get? b = some o) :
    Inv (cxK CX P w K mg base N qual scope f cd cc A outer s H E) [] (L2.start N vs) H { s with heap := h1, toks := tk } := by
  have hb := e0.bs cc _ (e0.mod.kin _ _ hcell)
  have noA : ∀ b : Addr, b ∉ (cxK CX P w K mg base N qual scope f cd cc A outer s H E).ex := fun b z => absurd (show b ∈ ([] : List Addr) from z) (by simp)
  have one : ∀ {y : Str} {c : Addr}, (cxK CX P w K mg base N qual scope f cd cc A outer s H E).env.cells.lookup y = some c → y = "__class__" ∧ c = cc := fun {y c} e => by
    have e : List.lookup y [(("__class__" : Str), cc)] = some c := e
    by_cases hy : y = "__class__"
    · subst hy
      simp [List.lookup] at e
      exact ⟨rfl, e.symm⟩
    · have nb : (y == ("__class__" : Str)) = false := by simpa using hy
      simp [List.lookup, nb] at e
  refine ⟨⟨e0.mod, S.kind, rfl, rfl, Nat.le_refl _, fun y z c a b => (one a).1.trans (one b).1.symm, fun y hy => ?_, fun y c z _ => Bool.noConfusion (show false = true from z), fun _ => hd, Around.frames_deeper e0.frames, .inr ⟨rfl, rfl⟩, fun b z => absurd z (noA b), e0.bs, e0.bsz, fun b _ _ => noA b, fun b z => absurd z (noA b), e0.funs, e0.frf⟩,
    rfl, e0.bare, Un.kept hk, ⟨_, hns, fun i y v a1 a2 a3 => ?_⟩, fun y c e => ?_, e0.hok.fresh (Nat.le_refl _), fun y c e => ?_, fun p hp => absurd (show p ∈ ([] : List (Addr × Obj)) from hp) (by simp), e0.hok.kept hk, ?_⟩
  · have hy : scope.names.lookup y = some .cell ∨ scope.names.lookup y = some .free := hy
    rcases hy with hy | hy
    · exact absurd rfl (S.cell _ (PySem.mem_of_lookup hy))
    · have := S.free _ (PySem.mem_of_lookup hy) rfl
      have e : y = "__class__" := this
      subst e
      exact ⟨cc, by simp [cxK, List.lookup]⟩
  · have hi : i < vs.length := by
      have : i < N.length := (List.getElem?_eq_some_iff.mp a1).1
      omega
    have ha : vs[i]? = some v := by
      unfold L2.start at a2
      rw [List.getElem?_append_left (by simpa using hi), List.getElem?_map] at a2
      cases e : vs[i]? with
      | none => rw [e] at a2; cases a2
      | some x => rw [e] at a2; cases a2; rfl
    obtain ⟨u, hu, rv⟩ := r.get ha
    have a1' : N[i]? = some y := a1
    exact ⟨u, rv, .inl ⟨S.par y (List.mem_of_getElem? a1'), look_zip S.nd a1' hu⟩⟩
  · rw [(one e).2]
    exact ⟨cv, _, hk _ _ hb.1, rfl⟩
  · rw [(one e).2]
    exact hb.2
  · unfold L2.start
    show _ = N.length
    rw [List.length_append, List.length_map, List.length_replicate]
    omega
/-- THE RULE for such a def -/
theorem fn_ofK {k : Nat} {name : Str} {params : Arguments} {body : List Stmt} {dV kV doc pm ct oc : Value} {an od : Option Addr} {osl : Array (Option Value)} {sp : Sp} {cl : Value} {cld : Option Addr} {csl : Array (Option Value)} {cv : Option Value}
    (lk : K.lookup f = some ⟨oc, od, .func (PySem.W.ksFn name qual params body scope dV kV doc pm an cd ct cc), osl⟩) (hcd : PySem.W.codeIn K cd qual = true) (hcell : K.lookup cc = some ⟨cl, cld, .cell cv, csl⟩) (S : KScope N scope)
    (len : ∀ vs H Q E, sp vs H Q E → vs.length = N.length)
    (hbody : ∀ (A : Around) (outer : List Env) (s s1 : Shared) (H : Hp) (vs : List V) (Q : VK) (E : XK), Room k (A.deeper (PySem.W.ksEnv qual scope s.heap.objs.size f cd cc)) → sp vs H Q E → Inv (cxK CX P w K mg base N qual scope f cd cc A outer s H E) [] (L2.start N vs) H s1 →
      wpAt (model P w) (A.deeper (PySem.W.ksEnv qual scope s.heap.objs.size f cd cc)) (.func body (PySem.W.ksEnv qual scope s.heap.objs.size f cd cc)) (execs body (PySem.W.ksEnv qual scope s.heap.objs.size f cd cc))
        (SP (cxK CX P w K mg base N qual scope f cd cc A outer s H E) [] { nx := fun _ H' => Q .non H', rt := Q }) (cxK CX P w K mg base N qual scope f cd cc A outer s H E).xe s1) :
    FnOk P w K mg base CX (k + 1) f (PySem.W.ksFn name qual params body scope dV kV doc pm an cd ct cc) N sp := by
  refine ⟨len, fun A outer s H args us vs Q E hr e0 hb r hsp => ?_⟩
  have hl := len _ _ _ _ hsp
  have KX : K.In s.heap := e0.mod.kin.keeps fun b o e => (e0.bs b o e).1
  have lim : s.heap.NoLimit := e0.mod.nolimit.keeps fun b o e => (e0.bs b o e).1
  refine ks_codeAny_call_defAt (fd := PySem.W.ksFn name qual params body scope dV kV doc pm an cd ct cc) (body := body) (binds := N.zip us) hr.depth (KX _ _ lk) rfl lim (PySem.W.codeRec_of KX hcd) rfl hb S.cell (fun y hy => S.par _ (List.of_mem_zip hy).1) (fun h₀ hns hk => ?_) S.co S.gen S.kind
  have I : Inv (cxK CX P w K mg base N qual scope f cd cc A outer s H E) [] (L2.start N vs) H { s with heap := h₀, toks := s.toks + (N.zip us).length } := inv_startK S hr.hd e0 hl r hcell hns hk
  refine ks_wpAt_mono (hbody A outer s _ H vs Q E (hr.deeper _) hsp I) (fun fl s' hs => ?_) fun e s' hs => hs
  have fin : ∀ {σ' : L2.St} {H' : Hp} {v : V} {u : Value}, Inv (cxK CX P w K mg base N qual scope f cd cc A outer s H E) [] σ' H' s' → RelV v u → Q v H' → CE outer P w H s Q u s' :=
    fun {σ' H' v u} J rv q => ⟨v, H', J.os, J.bare, J.base, J.hok, rv, q⟩
  cases fl with
  | ret u =>
    obtain ⟨v, σ', H', J, rv, q⟩ := hs
    exact fin J rv q
  | next =>
    obtain ⟨σ', H', J, q⟩ := hs
    exact fin (v := V.non) (u := Value.none) J rfl q
  | brk =>
    obtain ⟨_, _, _, q⟩ := hs
    exact False.elim q
  | cont =>
    obtain ⟨_, _, _, q⟩ := hs
    exact False.elim q
end
end Lx

namespace Lx
open PySem L2
/-- what super() asks in the body of a def of the class at D, self in the first slot -/
structure SupF (X : Cx) (f cc cda D : Addr) : Prop where
  fu : X.env.func = some f
  co : X.env.code = .ref cda
  ce : X.env.cells.lookup ("__class__" : Str) = some cc
  ks : X.env.kindOf ("super" : Str) = some .globalImplicit
  kc : X.env.kindOf ("__class__" : Str) = some .free
  sl : X.env.kindOf ("self" : Str) = some .local
  n0 : X.N[0]? = some ("self" : Str)
  lf : ∃ oc od fd osl ar, X.K.lookup f = some ⟨oc, od, .func fd, osl⟩ ∧ (fd.params.posonlyargs ++ fd.params.args).head? = some ar ∧ ar.arg = ("self" : Str)
  lc : ∃ ccl cdd vs ccs file tf, X.K.lookup cda = some ⟨ccl, cdd, .fields vs, ccs⟩ ∧ vs[2]? = some (.str file tf) ∧ ((X.prog.main.file : Str) == file) = true
  ll : ∃ cl cld csl, X.K.lookup cc = some ⟨cl, cld, .cell (some (.ref D)), csl⟩
  lD : ∃ cdD, PySem.W.clsIn X.K D = some cdD
  ms : X.mg "super" = none
  tp : (X.prog.main.scope.names.lookup ("super" : Str)).isSome = false
  op : PySem.W.nsIn X.K cStatics "thirdparty.any" = some none
section
variable {X : Cx} {pins : List (Addr × Obj)} {σ : L2.St} {H : Hp} {s : Shared} {E : Value → Shared → Prop} {f cc cda D a C : Addr} {d : Option Addr}
theorem cls_obj {K : PySem.W.Frag} {h : Heap} {cd : ClassData} (Y : K.In h) (e : PySem.W.clsIn K D = some cd) : ∃ oD, h.get? D = some oD ∧ oD.data = .cls cd := by
  unfold PySem.W.clsIn at e
  split at e
  · rename_i c d' cd' sl ho
    cases e
    exact ⟨_, Y _ _ ho, rfl⟩
  · cases e
theorem exo_ne {cd : ClassData} (I : Inv X pins σ H s) (ea : H a = some (exo a C d)) (e : PySem.W.clsIn X.K C = some cd) : a ≠ C := fun z => by
  obtain ⟨t1, ho⟩ := exo_at I.hok ea
  obtain ⟨oD, h1, h2⟩ := cls_obj I.kIn e
  rw [← z, ho] at h1
  have e1 := Option.some.inj h1
  rw [← e1] at h2
  cases h2
/-- super() -/
theorem sup_base (S : SupF X f cc cda D) (I : Inv X pins σ H s) (h0 : σ[0]? = some (some (.ref a))) (ea : H a = some (exo a C d)) (hsub : PySem.W.mroIn X.K C (.ref D) = some true) {body : List Stmt} {p0 p1 : Pos} {whole : Sem Value} {Q : Value → Shared → Prop}
    (h : ∀ so s', Inv X ((so, PySem.W.ks_superObj D a C) :: pins) σ H s' → Q (.ref so) s') :
    wpAt (model X.prog X.w) X.A (.func body X.env) (attributeBase (.Call (.Name "super" p0) [] [] p1) "__init__" X.env whole) Q E s := by
  obtain ⟨oc, od, fd, osl, ar, lf, hp, har⟩ := S.lf
  obtain ⟨ccl, cdd, vs, ccs, file, tf, lc, hvs, hfile⟩ := S.lc
  obtain ⟨cl, cld, csl, ll⟩ := S.ll
  obtain ⟨cdD, lD⟩ := S.lD
  obtain ⟨oD, hD1, hD2⟩ := cls_obj I.kIn lD
  obtain ⟨t1, ho⟩ := exo_at I.hok ea
  obtain ⟨mb, b1, b2⟩ := I.mod.blt
  obtain ⟨m, hn, hl⟩ := I.loc
  obtain ⟨u, ru, lo⟩ := hl 0 "self" (.ref a) S.n0 h0 (.inl S.sl)
  obtain rfl : u = Value.ref a := ru
  have hm : m "self" = some (.ref a) := by
    rcases lo with ⟨_, e⟩ | ⟨z, _⟩
    · exact e
    · rw [S.sl] at z
      rcases z with z | z <;> cases z
  refine ks_wpAt_super_base (env := X.env) (f := f) (cc := cda) (ar := ar) (file := file) (tf := tf) S.ks S.kc (by decide) S.fu (I.kIn _ _ lf) rfl hp S.co (I.kIn _ _ lc) rfl hvs hfile S.tp ?_
  refine PySem.W.ks_loadName_global I.ok.kind S.ks (Calls.loadGlobal_builtin (by rw [I.ok.glob]; exact I.mod.glob.keeps I.bk) S.ms (by rw [I.ok.blt]; exact b1.keeps I.bk) ((b2 _ (by decide)).trans (by decide +kernel)) ⟨rfl, ?_⟩)
  refine wpAny_loadName_free I.ok.kind S.kc S.ce ⟨_, I.kIn _ _ ll, rfl⟩ ?_
  rw [har]
  refine wpAny_loadName_local I.ok.kind S.sl hn hm ?_
  refine ks_wpAny_isType_cls hD1 hD2 ⟨rfl, ?_⟩
  obtain ⟨hh, g, dr, t, os⟩ := s
  refine ks_wpAny_call_super hD1 hD2 ho rfl (fun c e => by cases e) (PySem.W.looks_mroIn I.kIn hsub) fun h' e k => ?_
  exact h _ _ (ClX.pin_new (t' := t) I k (Nat.le_refl _) e (fun v z => by cases z))
theorem exo_inst (I : Inv X pins σ H s) (ea : H a = some (exo a C none)) : ∃ ox, PySem.W.InstAt s.heap a ox C none := by
  obtain ⟨t1, ho⟩ := exo_at I.hok ea
  exact ⟨_, ho, rfl, rfl, trivial⟩
/-- super().__init__, the built-in one -/
theorem sup_methB (S : SupF X f cc cda D) {so : Addr} (I : Inv X ((so, PySem.W.ks_superObj D a C) :: pins) σ H s) (ea : H a = some (exo a C none)) (hm : PySem.W.ks_superIn X.K C D "__init__" = some (some (.builtin "ValueError.__init__"))) (hB : PySem.W.subIn X.K (.ref C) (.type "ValueError") = some true) {pl : Sem Bool} {Q : Value × List Value → Shared → Prop}
    (h : ∀ u s', Inv X ((u, PySem.W.kxs_mw "ValueError.__init__" a) :: pins) σ H s' → Q (.ref u, []) s') : wpAny (model X.prog X.w) X.A (getMethod (.ref so) "__init__" pl) Q E s := by
  have hso : s.heap.get? so = some (PySem.W.ks_superObj D a C) := ClX.pin_at I
  have I0 := ClX.unpin I
  obtain ⟨ox, J⟩ := exo_inst I0 ea
  have hI : PySem.W.Looks (model X.prog X.w) s.heap (isInstance (.ref a) (.type "ValueError")) true := J.type.andThen (PySem.W.looks_subIn I.kIn hB)
  obtain ⟨hh, g, dr, t, os⟩ := s
  cases hc : PySem.W.clsIn X.K C with
  | none => unfold PySem.W.ks_superIn at hm; rw [hc] at hm; cases hm
  | some cd =>
    unfold PySem.W.ks_superIn at hm
    rw [hc] at hm
    refine PySem.W.kxs_getMethod PySem.W.kxs_ValueError hso (PySem.W.looks_opaque I.kIn S.op) (l₀ := cd.mro) ?_ rfl I.kIn hm hI (exo_ne I0 ea hc) (by decide) ?_
    · exact fun A Q E s k q => wpAny_bind ((PySem.W.looks_clsIn I.kIn hc) A _ E s k (wpAny_pure q))
    · exact h _ _ (ClX.pin_new (t' := t + 1) I0 (fun b o e => Heap.get?_push_of_some _ e) (Nat.le_refl _) (Heap.get?_push_at rfl rfl) (fun v z => by cases z))
/-- super().__init__, a def of a class of the text -/
theorem sup_methF (S : SupF X f cc cda D) {so f2 : Addr} (I : Inv X ((so, PySem.W.ks_superObj D a C) :: pins) σ H s) (ea : H a = some (exo a C none)) (hm : PySem.W.ks_superIn X.K C D "__init__" = some (some (.ref f2))) (ht : PySem.W.typeIn X.K (.ref f2) = some (.type "function")) {pl : Sem Bool} {Q : Value × List Value → Shared → Prop}
    (h : ∀ u s', Inv X ((u, PySem.W.methodObj (.ref f2) (.ref a)) :: pins) σ H s' → Q (.ref u, []) s') : wpAny (model X.prog X.w) X.A (getMethod (.ref so) "__init__" pl) Q E s := by
  have hso : s.heap.get? so = some (PySem.W.ks_superObj D a C) := ClX.pin_at I
  have I0 := ClX.unpin I
  have KX := I.kIn
  obtain ⟨hh, g, dr, t, os⟩ := s
  cases hc : PySem.W.clsIn X.K C with
  | none => unfold PySem.W.ks_superIn at hm; rw [hc] at hm; cases hm
  | some cd =>
    unfold PySem.W.ks_superIn at hm
    rw [hc] at hm
    obtain ⟨of, hof, hofc⟩ : ∃ of, hh.get? f2 = some of ∧ of.cls = .type "function" := by
      have ht' : (X.K.lookup f2).map (·.cls) = some (.type "function") := ht
      cases z : X.K.lookup f2 with
      | none => rw [z] at ht'; cases ht'
      | some of => rw [z] at ht'; exact ⟨of, KX _ _ z, Option.some.inj ht'⟩
    refine ks_wpAny_getMethod_super hso (PySem.W.looks_opaque KX S.op) (l₀ := cd.mro) ?_ rfl KX hm hof hofc (exo_ne I0 ea hc) (by decide) ?_
    · exact fun A Q E s k q => wpAny_bind ((PySem.W.looks_clsIn KX hc) A _ E s k (wpAny_pure q))
    · exact h _ _ (ClX.pin_new (t' := t + 1) I0 (fun b o e => Heap.get?_push_of_some _ e) (Nat.le_refl _) (Heap.get?_push_at rfl rfl) (fun v z => by cases z))
/-- the bound built-in __init__ is called: nothing of it is told -/
theorem bw_call {u : Addr} {rest : List Value} {Q : Value → Shared → Prop} (T : OexC X.K C) (I : Inv X ((u, PySem.W.kxs_mw "ValueError.__init__" a) :: pins) σ H s) (ea : H a = some (exo a C none)) (hz : rest.length ≤ sizeLine) (h : ∀ s', Inv X pins σ H s' → Q .none s') :
    wpAny (model X.prog X.w) X.A (call (.ref u) rest) Q E s := by
  have hu : s.heap.get? u = some (PySem.W.kxs_mw "ValueError.__init__" a) := ClX.pin_at I
  have I0 := ClX.unpin I
  obtain ⟨nm, q, N, bs, bm, sn, sub, ab, col, dd, k0, k1, k2, k3, k5, hC, hbm⟩ := T.cls
  obtain ⟨t1, ho⟩ := exo_at I0.hok ea
  have hC' := I.kIn _ _ hC
  obtain ⟨hp, g, dr, t, os⟩ := s
  refine wpAny_call (codeAny_of_tree ?_)
  show wpAny _ X.A.in1 (callAny (.ref u) ⟨rest, []⟩) _ _ _
  simp only [callAny]
  refine wpAny_bind (wpAny_load hu ?_)
  simp only [PySem.W.kxs_mw, show (Value.type "method-wrapper" == Value.type "method" || Value.type "method-wrapper" == Value.type "builtin_function_or_method" || Value.type "method-wrapper" == Value.type "method-wrapper") = true by decide, if_true]
  refine PySem.W.KFB.if_so (by decide) ?_
  refine wpAny_bind (PySem.W.check_bound_init F.excBase_ValueError.toExcCallFacts hC' ho rfl ?_)
  refine wpAny_bind (wpAny_pure (wpAny_pure ?_))
  refine ⟨plainId_quiet F.excBase_ValueError.init.plain _, codeAny_builtin F.excBase_ValueError.initEntry ?_⟩
  refine PySem.W.exc_init_tree (cls := .ref C) (t0 := t1) (dv := none) (c2 := .none) (c3 := .none) (b4 := .bool false) ho hz fun h' k hx _ => ?_
  have J := I0.write (t' := t) (x := a) (e := a) (o := exo a C none) (by rw [ea]; exact True.intro) (.inl rfl) k ⟨_, hx⟩ (exo_ok hx)
  have eu : upd H a (exo a C none) = H := by
    funext b
    by_cases hb : b = a
    · rw [hb, upd_same, ea]
    · rw [upd_ne hb]
  rw [eu] at J
  exact h _ J
/-- super().__init__(e, ..) as a statement: the built-in __init__ -/
theorem sup_initB {body : List Stmt} {p0 p1 p2 p3 p4 : Pos} {e : Expr} {es : List Expr} {ta : TA} (S : SupF X f cc cda D) (T : OexC X.K C) (I : Inv X pins σ H s) (h0 : σ[0]? = some (some (.ref a))) (ea : H a = some (exo a C none)) (hsub : PySem.W.mroIn X.K C (.ref D) = some true)
    (hm : PySem.W.ks_superIn X.K C D "__init__" = some (some (.builtin "ValueError.__init__"))) (hB : PySem.W.subIn X.K (.ref C) (.type "ValueError") = some true) (ha : PA X (e :: es) ta) {R : Hp → Prop} (h : ta σ H fun vs H1 => vs.length ≤ 1000 ∧ H1 a = some (exo a C none) ∧ R H1)
    {Q : Flow → Shared → Prop} (hq : ∀ H1 s', Inv X pins σ H1 s' → R H1 → Q .next s') (hi : interactive X.env = false) (he : starEach (e :: es) X.env = (false, eval e X.env) :: starEach es X.env) (hpl : (backTo p3 (starEach es X.env)).any (·.1) = false)
    (pl : Sem Bool)
    (hev2 : eval (.Call (.Attribute (.Call (.Name "super" p0) [] [] p1) "__init__" p2) (e :: es) [] p3) X.env = (do
      let ov ← attributeBase (.Call (.Name "super" p0) [] [] p1) "__init__" X.env (eval (.Call (.Name "super" p0) [] [] p1) X.env)
      standAt p2.atName
      let (f, first) ← holding [ov] (getMethod ov "__init__" pl)
      callWith p3 f first (backTo p3 (starEach (e :: es) X.env)) []))
    (hs : swapsWith (.Call (.Attribute (.Call (.Name "super" p0) [] [] p1) "__init__" p2) (e :: es) [] p3) none p4.line X.env = pure false) :
    wpAt (model X.prog X.w) X.A (.func body X.env) (exec (.Expr (.Call (.Attribute (.Call (.Name "super" p0) [] [] p1) "__init__" p2) (e :: es) [] p3) p4) X.env) Q X.xe s := by
  refine ks_wpAt_Expr_any (ks_wpAt_MethodCall (pl := pl) ?_ hev2) hi hs
  refine sup_base S I h0 ea hsub fun so s1 I1 => ?_
  refine sup_methB S I1 ea hm hB fun u s2 I2 => ?_
  show wpAny _ _ (callWith p3 (.ref u) [] (backTo p3 (starEach (e :: es) X.env)) []) _ _ _
  rw [he]
  refine PySem.W.kxs_callWith (i := "ValueError.__init__") (x := a) (by show (false || (backTo p3 (starEach es X.env)).any (·.1)) = false; rw [hpl]; rfl) ?_
  have hrun := ha.run p3 ((u, PySem.W.kxs_mw "ValueError.__init__" a) :: pins) s2 σ H _ I2 h
  rw [he] at hrun
  refine Calls.evalArgs_plain (thn hrun fun us s3 ⟨vs, H1, I3, r, hl, ea1, hR⟩ => ⟨ClX.pin_at I3, ?_⟩)
  have hlen : us.length ≤ sizeLine := by
    rw [← Paired.length r, sizeLine_eq]
    omega
  exact bw_call T I3 ea1 hlen fun s4 I4 => hq H1 s4 I4 hR
/-- .. : a def of a class of the text -/
theorem sup_initF {body : List Stmt} {p0 p1 p2 p3 p4 : Pos} {e : Expr} {es : List Expr} {ta : TA} {CX : CXT} {k : Nat} {f2 : Addr} {fd2 : FuncData} {ps : List Str} {sp : Sp} (S : SupF X f cc cda D) (I : Inv X pins σ H s) (h0 : σ[0]? = some (some (.ref a))) (ea : H a = some (exo a C none)) (hsub : PySem.W.mroIn X.K C (.ref D) = some true)
    (hm : PySem.W.ks_superIn X.K C D "__init__" = some (some (.ref f2))) (ht : PySem.W.typeIn X.K (.ref f2) = some (.type "function")) (hfi : PySem.W.fnIn X.K f2 = true) (F2 : FnOk X.prog X.w X.K X.mg X.base CX k f2 fd2 ps sp) (hr : Room k X.A) (hb : Binds X.K fd2 ps []) (hx : Passes CX X (fun _ _ _ => False))
    (ha : PA X (e :: es) ta) {R : Hp → Prop} (h : ta σ H fun vs H1 => sp (.ref a :: vs) H1 (fun _ H2 => R H2) (fun _ _ _ => False))
    {Q : Flow → Shared → Prop} (hq : ∀ H1 s', Inv X pins σ H1 s' → R H1 → Q .next s') (hi : interactive X.env = false) (he : starEach (e :: es) X.env = (false, eval e X.env) :: starEach es X.env) (hpl : (backTo p3 (starEach es X.env)).any (·.1) = false) (pl : Sem Bool)
    (hev2 : eval (.Call (.Attribute (.Call (.Name "super" p0) [] [] p1) "__init__" p2) (e :: es) [] p3) X.env = (do
      let ov ← attributeBase (.Call (.Name "super" p0) [] [] p1) "__init__" X.env (eval (.Call (.Name "super" p0) [] [] p1) X.env)
      standAt p2.atName
      let (f, first) ← holding [ov] (getMethod ov "__init__" pl)
      callWith p3 f first (backTo p3 (starEach (e :: es) X.env)) []))
    (hs : swapsWith (.Call (.Attribute (.Call (.Name "super" p0) [] [] p1) "__init__" p2) (e :: es) [] p3) none p4.line X.env = pure false) :
    wpAt (model X.prog X.w) X.A (.func body X.env) (exec (.Expr (.Call (.Attribute (.Call (.Name "super" p0) [] [] p1) "__init__" p2) (e :: es) [] p3) p4) X.env) Q X.xe s := by
  refine ks_wpAt_Expr_any (ks_wpAt_MethodCall (pl := pl) ?_ hev2) hi hs
  refine sup_base S I h0 ea hsub fun so s1 I1 => ?_
  refine sup_methF S I1 ea hm ht fun u s2 I2 => ?_
  show wpAny _ _ (callWith p3 (.ref u) [] (backTo p3 (starEach (e :: es) X.env)) []) _ _ _
  rw [he]
  have hrun := ha.run p3 ((u, PySem.W.methodObj (.ref f2) (.ref a)) :: pins) s2 σ H _ I2 h
  rw [he] at hrun
  refine PySem.W.callWith_of (by show ((false || (backTo p3 (starEach es X.env)).any (·.1)) || false) = false; rw [hpl]; rfl) (PySem.W.keeps_M hfi) (Calls.evalArgs_plain (thn hrun fun us s3 ⟨vs, H1, I3, r, q⟩ => ⟨⟨ClX.pin_at I3, I3.kIn⟩, ?_⟩))
  have I4 := ClX.unpin I3
  have r2 : Vals (.ref a :: vs) (.ref a :: us) := .cons rfl r
  have hl : (Value.ref a :: us).length = ps.length := by
    rw [← r2.length]
    exact F2.len _ _ _ _ q
  refine wpAny_call (PySem.W.method_call (ClX.pin_at I3) (codeAny_mono (F2.run X.A X.stack s3 H1 ⟨.ref a :: us, []⟩ (.ref a :: us) (.ref a :: vs) _ _ hr I4.env0 (by
    have := hb s3 (.ref a :: us) I4.kIn (by simpa using hl)
    simpa using this) r2 q) fun rr s4 hq4 => ?_))
  cases rr with
  | error er => exact hx pins σ H1 s3 er s4 I4 hq4
  | ok fl =>
    cases fl with
    | ret u =>
      obtain ⟨v, H2, J, rv, hR⟩ := I4.after hq4
      exact hq H2 s4 J hR
    | next => exact False.elim hq4
    | brk => exact False.elim hq4
    | cont => exact False.elim hq4
end
end Lx

namespace Lx
open PySem L2 Lk
theorem kSE : KScope ["self", "tag", "why"] (defScope sSE) := ⟨rfl, rfl, rfl, by decide +kernel, by decide +kernel, by decide +kernel, by decide +kernel⟩
theorem kIP : KScope ["self", "given"] (defScope sIP) := ⟨rfl, rfl, rfl, by decide +kernel, by decide +kernel, by decide +kernel, by decide +kernel⟩
theorem kID : KScope ["self"] (defScope sID) := ⟨rfl, rfl, rfl, by decide +kernel, by decide +kernel, by decide +kernel, by decide +kernel⟩
theorem kTM : KScope ["self", "limit"] (defScope sTM) := ⟨rfl, rfl, rfl, by decide +kernel, by decide +kernel, by decide +kernel, by decide +kernel⟩
/-- what the written part tells of an __init__ that says super() -/
structure InitF (P : Program) (K : PySem.W.Frag) (mg : Str → Option Value) (qual : Str) (st : Stmt) (D f cc cda : Addr) (fd : FuncData) : Prop where
  ex : ∃ oc od kV doc pm an ct osl, fd = PySem.W.ksFn "__init__" qual (defArgs st) (defBody st) (defScope st) .none kV doc pm an (.ref cda) ct cc ∧ K.lookup f = some ⟨oc, od, .func fd, osl⟩
  cd : PySem.W.codeIn K (.ref cda) qual = true
  lc : ∃ ccl cdd vs ccs file tf, K.lookup cda = some ⟨ccl, cdd, .fields vs, ccs⟩ ∧ vs[2]? = some (.str file tf) ∧ ((P.main.file : Str) == file) = true
  ll : ∃ cl cld csl, K.lookup cc = some ⟨cl, cld, .cell (some (.ref D)), csl⟩
  lD : ∃ cdD, PySem.W.clsIn K D = some cdD
  ms : mg "super" = none
  tp : (P.main.scope.names.lookup ("super" : Str)).isSome = false
  op : PySem.W.nsIn K cStatics "thirdparty.any" = some none
def spSE (K : PySem.W.Frag) (D : Addr) : Sp := fun vs H Q _ => ∃ (a C : Addr) (tg wy : V), vs = [.ref a, tg, wy] ∧ OexC K C ∧ H a = some (exo a C none) ∧ PySem.W.mroIn K C (.ref D) = some true ∧ PySem.W.ks_superIn K C D "__init__" = some (some (.builtin "ValueError.__init__")) ∧ PySem.W.subIn K (.ref C) (.type "ValueError") = some true ∧ PySem.W.findIn K (.ref C) "tag" = some none ∧
  ∀ dx, H dx = none → dx ≠ a → Q .non (upd (upd H dx (exd dx [("tag", tg)])) a (exo a C (some dx)))
section
variable {P : Program} {w : World} {K : PySem.W.Frag} {mg : Str → Option Value} {base : Heap}
theorem ok_se {D f cc cda : Addr} {fd : FuncData} {k : Nat} (F : InitF P K mg "ScanError.__init__" sSE D f cc cda fd) : FnOk P w K mg base CX0 (k + 1) f fd ["self", "tag", "why"] (spSE K D) := by
  obtain ⟨oc, od, kV, doc, pm, an, ct, osl, rfl, lk⟩ := F.ex
  obtain ⟨cl, cld, csl, ll⟩ := F.ll
  refine fn_ofK (N := ["self", "tag", "why"]) lk F.cd ll kSE (fun vs H Q E h => ?_) (fun A outer s s1 H vs Q E hr h I => ?_)
  · obtain ⟨a, C, tg, wy, rfl, _⟩ := h
    rfl
  · obtain ⟨a, C, tg, wy, rfl, T, ea, hsub, hm, hB, hno, q⟩ := h
    have S : SupF (cxK CX0 P w K mg base ["self", "tag", "why"] "ScanError.__init__" (defScope sSE) f (.ref cda) cc A outer s H E) f cc cda D :=
      ⟨rfl, rfl, rfl, rfl, rfl, rfl, rfl, ⟨_, _, _, _, _, lk, rfl, rfl⟩, F.lc, F.ll, F.lD, F.ms, F.tp, F.op⟩
    refine ks_wpAt_execs_cons ?_
    refine sup_initB (X := cxK CX0 P w K mg base ["self", "tag", "why"] "ScanError.__init__" (defScope sSE) f (.ref cda) cc A outer s H E) S T I rfl ea hsub hm hB (pa_cons (pv 2) pa_nil) (R := fun H1 => H1 = H) ⟨_, rfl, (by show 1 ≤ 1000; decide), ea, rfl⟩ (fun H1 s2 I2 e => ?_) rfl rfl rfl _ rfl rfl
    subst e
    refine wpAt_of_wpAny ((pss_one (ps_ost (X := cxK CX0 P w K mg base ["self", "tag", "why"] "ScanError.__init__" (defScope sSE) f (.ref cda) cc A outer s H1 E) (pv 0) (pv 1))).run [] s2 _ H1 _ I2 ?_)
    exact ⟨_, rfl, _, rfl, a, C, rfl, T, hno, .inl ⟨ea, fun dx n ne => q dx n ne⟩⟩
/-- the class at C, over the class at D whose __init__ keeps spSE; fs: what its own __init__ puts beside the tag -/
structure ErrC (K : PySem.W.Frag) (C D fS : Addr) : Prop where
  ox : OexC K C
  s1 : PySem.W.mroIn K C (.ref C) = some true
  s2 : PySem.W.mroIn K C (.ref D) = some true
  m1 : PySem.W.ks_superIn K C C "__init__" = some (some (.ref fS))
  m2 : PySem.W.ks_superIn K C D "__init__" = some (some (.builtin "ValueError.__init__"))
  ve : PySem.W.subIn K (.ref C) (.type "ValueError") = some true
  nt : PySem.W.findIn K (.ref C) "tag" = some none
  tS : PySem.W.typeIn K (.ref fS) = some (.type "function")
  fS : PySem.W.fnIn K fS = true
def spE1 (K : PySem.W.Frag) (C : Addr) (tg fn : Str) : Sp := fun vs H Q _ => ∃ (a : Addr) (v : V), vs = [.ref a, v] ∧ H a = some (exo a C none) ∧
  ∀ dx, H dx = none → dx ≠ a → Q .non (upd (upd (upd H dx (exd dx [("tag", .str tg)])) a (exo a C (some dx))) dx (exd dx [(fn, v), ("tag", .str tg)]))
def spE0 (K : PySem.W.Frag) (C : Addr) (tg : Str) : Sp := fun vs H Q _ => ∃ (a : Addr), vs = [.ref a] ∧ H a = some (exo a C none) ∧
  ∀ dx, H dx = none → dx ≠ a → Q .non (upd (upd H dx (exd dx [("tag", .str tg)])) a (exo a C (some dx)))
theorem ok_ip {C D f cc cda fS : Addr} {fd fdS : FuncData} {k : Nat} (F : InitF P K mg "InvalidPlace.__init__" sIP C f cc cda fd) (T : ErrC K C D fS) (hno : PySem.W.findIn K (.ref C) "given" = some none)
    (GS : FnOk P w K mg base CX0 (k + 1) fS fdS ["self", "tag", "why"] (spSE K D)) (bS : Binds K fdS ["self", "tag", "why"] []) : FnOk P w K mg base CX0 (k + 2) f fd ["self", "given"] (spE1 K C "InvalidPlace" "given") := by
  obtain ⟨oc, od, kV, doc, pm, an, ct, osl, rfl, lk⟩ := F.ex
  obtain ⟨cl, cld, csl, ll⟩ := F.ll
  refine fn_ofK (N := ["self", "given"]) lk F.cd ll kIP (fun vs H Q E h => ?_) (fun A outer s s1 H vs Q E hr h I => ?_)
  · obtain ⟨a, v, rfl, _⟩ := h
    rfl
  · obtain ⟨a, v, rfl, ea, q⟩ := h
    have S : SupF (cxK CX0 P w K mg base ["self", "given"] "InvalidPlace.__init__" (defScope sIP) f (.ref cda) cc A outer s H E) f cc cda C :=
      ⟨rfl, rfl, rfl, rfl, rfl, rfl, rfl, ⟨_, _, _, _, _, lk, rfl, rfl⟩, F.lc, F.ll, F.lD, F.ms, F.tp, F.op⟩
    refine ks_wpAt_execs_cons ?_
    refine sup_initF (X := cxK CX0 P w K mg base ["self", "given"] "InvalidPlace.__init__" (defScope sIP) f (.ref cda) cc A outer s H E) S I rfl ea T.s1 T.m1 T.tS T.fS GS hr bS pass0 (pa_cons pe_str (pa_cons pe_str pa_nil)) (R := fun H1 => ∃ dx, H dx = none ∧ dx ≠ a ∧ H1 = upd (upd H dx (exd dx [("tag", .str "InvalidPlace")])) a (exo a C (some dx)))
      ⟨a, C, _, _, rfl, T.ox, ea, T.s2, T.m2, T.ve, T.nt, fun dx n ne => ⟨dx, n, ne, rfl⟩⟩ (fun H1 s2 I2 e => ?_) rfl rfl rfl _ rfl rfl
    obtain ⟨dx, n, ne, rfl⟩ := e
    refine wpAt_of_wpAny ((pss_one (ps_ost (X := cxK CX0 P w K mg base ["self", "given"] "InvalidPlace.__init__" (defScope sIP) f (.ref cda) cc A outer s H E) (pv 0) (pv 1))).run [] s2 _ _ _ I2 ?_)
    refine ⟨_, rfl, _, rfl, a, C, rfl, T.ox, hno, .inr ⟨dx, _, upd_same, ?_, (by show 1 ≤ 900; decide), q dx n ne⟩⟩
    rw [upd_ne ne, upd_same]
theorem ok_tm {C D f cc cda fS : Addr} {fd fdS : FuncData} {k : Nat} (F : InitF P K mg "TooManyClasses.__init__" sTM C f cc cda fd) (T : ErrC K C D fS) (hno : PySem.W.findIn K (.ref C) "limit" = some none)
    (GS : FnOk P w K mg base CX0 (k + 1) fS fdS ["self", "tag", "why"] (spSE K D)) (bS : Binds K fdS ["self", "tag", "why"] []) : FnOk P w K mg base CX0 (k + 2) f fd ["self", "limit"] (spE1 K C "TooManyClasses" "limit") := by
  obtain ⟨oc, od, kV, doc, pm, an, ct, osl, rfl, lk⟩ := F.ex
  obtain ⟨cl, cld, csl, ll⟩ := F.ll
  refine fn_ofK (N := ["self", "limit"]) lk F.cd ll kTM (fun vs H Q E h => ?_) (fun A outer s s1 H vs Q E hr h I => ?_)
  · obtain ⟨a, v, rfl, _⟩ := h
    rfl
  · obtain ⟨a, v, rfl, ea, q⟩ := h
    have S : SupF (cxK CX0 P w K mg base ["self", "limit"] "TooManyClasses.__init__" (defScope sTM) f (.ref cda) cc A outer s H E) f cc cda C :=
      ⟨rfl, rfl, rfl, rfl, rfl, rfl, rfl, ⟨_, _, _, _, _, lk, rfl, rfl⟩, F.lc, F.ll, F.lD, F.ms, F.tp, F.op⟩
    refine ks_wpAt_execs_cons ?_
    refine sup_initF (X := cxK CX0 P w K mg base ["self", "limit"] "TooManyClasses.__init__" (defScope sTM) f (.ref cda) cc A outer s H E) S I rfl ea T.s1 T.m1 T.tS T.fS GS hr bS pass0 (pa_cons pe_str (pa_cons pe_str pa_nil)) (R := fun H1 => ∃ dx, H dx = none ∧ dx ≠ a ∧ H1 = upd (upd H dx (exd dx [("tag", .str "TooManyClasses")])) a (exo a C (some dx)))
      ⟨a, C, _, _, rfl, T.ox, ea, T.s2, T.m2, T.ve, T.nt, fun dx n ne => ⟨dx, n, ne, rfl⟩⟩ (fun H1 s2 I2 e => ?_) rfl rfl rfl _ rfl rfl
    obtain ⟨dx, n, ne, rfl⟩ := e
    refine wpAt_of_wpAny ((pss_one (ps_ost (X := cxK CX0 P w K mg base ["self", "limit"] "TooManyClasses.__init__" (defScope sTM) f (.ref cda) cc A outer s H E) (pv 0) (pv 1))).run [] s2 _ _ _ I2 ?_)
    refine ⟨_, rfl, _, rfl, a, C, rfl, T.ox, hno, .inr ⟨dx, _, upd_same, ?_, (by show 1 ≤ 900; decide), q dx n ne⟩⟩
    rw [upd_ne ne, upd_same]
theorem ok_id {C D f cc cda fS : Addr} {fd fdS : FuncData} {k : Nat} (F : InitF P K mg "InvalidDivisors.__init__" sID C f cc cda fd) (T : ErrC K C D fS)
    (GS : FnOk P w K mg base CX0 (k + 1) fS fdS ["self", "tag", "why"] (spSE K D)) (bS : Binds K fdS ["self", "tag", "why"] []) : FnOk P w K mg base CX0 (k + 2) f fd ["self"] (spE0 K C "InvalidDivisors") := by
  obtain ⟨oc, od, kV, doc, pm, an, ct, osl, rfl, lk⟩ := F.ex
  obtain ⟨cl, cld, csl, ll⟩ := F.ll
  refine fn_ofK (N := ["self"]) lk F.cd ll kID (fun vs H Q E h => ?_) (fun A outer s s1 H vs Q E hr h I => ?_)
  · obtain ⟨a, rfl, _⟩ := h
    rfl
  · obtain ⟨a, rfl, ea, q⟩ := h
    have S : SupF (cxK CX0 P w K mg base ["self"] "InvalidDivisors.__init__" (defScope sID) f (.ref cda) cc A outer s H E) f cc cda C :=
      ⟨rfl, rfl, rfl, rfl, rfl, rfl, rfl, ⟨_, _, _, _, _, lk, rfl, rfl⟩, F.lc, F.ll, F.lD, F.ms, F.tp, F.op⟩
    refine ks_wpAt_execs_cons ?_
    refine sup_initF (X := cxK CX0 P w K mg base ["self"] "InvalidDivisors.__init__" (defScope sID) f (.ref cda) cc A outer s H E) S I rfl ea T.s1 T.m1 T.tS T.fS GS hr bS pass0 (pa_cons pe_str (pa_cons pe_str pa_nil)) (R := fun H1 => ∃ dx, H dx = none ∧ dx ≠ a ∧ H1 = upd (upd H dx (exd dx [("tag", .str "InvalidDivisors")])) a (exo a C (some dx)))
      ⟨a, C, _, _, rfl, T.ox, ea, T.s2, T.m2, T.ve, T.nt, fun dx n ne => ⟨dx, n, ne, rfl⟩⟩ (fun H1 s2 I2 e => ?_) rfl rfl rfl _ rfl rfl
    obtain ⟨dx, n, ne, rfl⟩ := e
    exact wpAt_of_wpAny ((pss_nil (X := cxK CX0 P w K mg base ["self"] "InvalidDivisors.__init__" (defScope sID) f (.ref cda) cc A outer s H E)).run [] s2 _ _ _ I2 (q dx n ne))
end
/-! ### C(): an own error without arguments -/
def tMkO0 (C : Addr) (sp : Sp) : L2.St → Hp → XK → Prop := fun σ H Q => ∀ a, H a = none → sp [.ref a] (upd H a (exo a C none))
  (fun v H2 => v = .non ∧ ∃ (d : Addr) (fs : List (Str × V)), H2 a = some (exo a C (some d)) ∧ H2 d = some (exd d fs) ∧ H d = none ∧ Q (.ref C) (some d) (upd (del H2 a) d (.xd fs))) (fun _ _ _ => False)
theorem pmk_oex0 {X : Cx} {CX : CXT} {x : Str} {C fI : Addr} {k : Nat} {fd : FuncData} {ps : List Str} {sp : Sp} {p pos : Pos} (T : OexC X.K C) (iC : PySem.W.findIn X.K (.ref C) "__init__" = some (some (.ref fI))) (tI : PySem.W.typeIn X.K (.ref fI) = some (.type "function"))
    (F1 : FnOk X.prog X.w X.K X.mg X.base CX k fI fd ps sp) (hr : Room (k + 1) X.A) (hb : Binds X.K fd ps []) (hx : Passes CX X (fun _ _ _ => False)) (hg : Gl X x) (hm : X.mg x = some (.ref C)) (hdb : (x == ("__debug__" : Str)) = false := by decide) :
    PMk X (.Call (.Name x p) [] [] pos) (tMkO0 C sp) := by
  intro pins s σ H Q I h
  obtain ⟨nm, q, N, bs, bm, sn, sub, ab, col, dd, k0, k1, k2, k3, k5, hC, hbm⟩ := T.cls
  refine wpAny_Call_Name_kw (ld_glob I hg hm ?_ hdb)
  refine PySem.W.callWith_K0 I.kIn T.kC ?_
  show wpAny _ _ (call (.ref C) []) _ _ _
  obtain ⟨hp, g, dr, tk, os⟩ := s
  have hsz : hp.objs.size ≤ hp.objs.size + 1 := Nat.le_succ _
  have hn : H (hp.objs.size + 1) = none := I.hok.fresh hsz
  have hq := h (hp.objs.size + 1) hn
  have kk : ∀ b o, hp.get? b = some o → ((hp.push (PySem.W.kdv_tup [])).push (PySem.HandSPX.excO C hp.objs.size)).get? b = some o := fun b o e => Heap.get?_push_of_some _ (Heap.get?_push_of_some _ e)
  have hget : ((hp.push (PySem.W.kdv_tup [])).push (PySem.HandSPX.excO C hp.objs.size)).get? (hp.objs.size + 1) = some (PySem.HandSPX.excO C hp.objs.size) := by heap_get
  have I2 : Inv X pins σ (upd H (hp.objs.size + 1) (exo (hp.objs.size + 1) C none)) ⟨(hp.push (PySem.W.kdv_tup [])).push (PySem.HandSPX.excO C hp.objs.size), g, dr, tk, os⟩ :=
    I.laid (t' := tk) (a := hp.objs.size + 1) (o := exo (hp.objs.size + 1) C none) kk hsz (exo_ok hget)
  have r2 : Vals [V.ref (hp.objs.size + 1)] [Value.ref (hp.objs.size + 1)] := .cons rfl .nil
  have hl : ([Value.ref (hp.objs.size + 1)] ++ ([] : List Value)).length = ps.length := (F1.len _ _ _ _ hq)
  refine wpAny_call (PySem.HandSPX.call_own F.excBase_ValueError (fun Y => PySem.HandSPX.refsVE_contains Y bm hbm) (I.kIn _ _ hC) (PySem.W.looks_findIn I.kIn iC) (fun self => PySem.W.bind_fn I.kIn self tI) (Nat.zero_le _)
    (codeAny_mono (F1.run _ X.stack _ _ ⟨[Value.ref (hp.objs.size + 1)], []⟩ [Value.ref (hp.objs.size + 1)] _ _ (fun _ _ _ => False) (hr.make C [] []) (I2.env0.make C [] []) (hb _ [Value.ref (hp.objs.size + 1)] I2.kIn hl) r2 hq) fun r s' hq' => ?_))
  cases r with
  | error er => exact hx pins σ _ _ er s' I2 hq'
  | ok fl =>
    cases fl with
    | ret u =>
      obtain ⟨v, H2, os2, bare2, un2, hok2, rv, ev, d, fs, ea, ed, hd1, q2⟩ := hq'
      subst ev
      obtain ⟨h2, g2, d2, t2, os'⟩ := s'
      exact ⟨rv, mk_end (raises_own T.exC T.tyC) I hsz kk un2 hok2 os2 bare2 ea ed hd1 q2⟩
    | next => exact False.elim hq'
    | brk => exact False.elim hq'
    | cont => exact False.elim hq'
end Lx

namespace Lx
open PySem L2 PySem.Spec PyProof.Rows
/-! ### try .. except X as n .. except ..: the first clause takes it -/
section
variable {X : Cx} {x n : Str} {c : Value} {i : Nat} {body suite : List Stmt} {b0 : Stmt} {hds : List ExceptHandler} {np pos pos' : Pos} {tb : WX → TS} {ts : Addr → Value → Option Addr → TS}
theorem ps_try_first (stk : X.stack = X.env :: X.outer) (frm : X.env.frame = some X.env.locals) (ndN : X.N.Nodup) (atI : X.N[i]? = some n) (lcl : X.env.kindOf n = some .local) (nam : Names X x c)
    (hbd : ∀ (W : WX) (pn : List (Addr × Obj)) (xe : Value → Shared → Prop), Takes (X.tr pn xe) W → PassesOwn (model X.prog X.w) X.A X.env xe → PSs (X.tr pn xe) body (tb W))
    (hst : ∀ (a : Addr) (oe : Obj) (cls : Value) (d : Option Addr) (pn : List (Addr × Obj)), Zc cls d oe → (∃ vs, oe.data = .fields vs) → PSs (X.suite a ((a, oe) :: pn)) (b0 :: suite) (ts a cls d)) :
    PS X (.Try body (.ExceptHandler (some (.Name x np)) (some n) (b0 :: suite) pos' :: hds) [] [] pos) (fun D σ H => tb (wAs X.K c i ts (fun _ _ _ _ => False) D) D σ H) := by
  refine ⟨fun pins s σ H D I0 rd => ?_⟩
  have okX := I0.ok
  have frs0 : X.A.frames = some (X.env :: X.outer) := by rw [okX.frames, stk]
  have locn : Loc X.env.scope n := .inl lcl
  refine wpAny_Try_except ?_
  refine wpAny_mono ((hbd (wAs X.K c i ts (fun _ _ _ _ => False) D) (X.pn ++ pins) (fun e t1 => wpAny (model X.prog X.w) X.A (noteFrame e X.env) (fun _ t2 => wpAny (model X.prog X.w) X.A (setFlight e none) (fun _ t3 =>
    wpAny (model X.prog X.w) X.A (handleBy e X.env (.ExceptHandler (some (.Name x np)) (some n) (b0 :: suite) pos' :: hds)) (SP X pins D) X.xe t3) X.xe t2) X.xe t1) (fun u s' fl => ?_) PassesOwn.looking).run [] s σ H D (I0.toTry _) rd) (fun fl t1 done => ?_) (fun e t1 raised => raised)
  · obtain ⟨a, B, sI, pins', σ', H', cls, d, rfl, Jt, nob, up0, sky, fra, osE, agr, b, ex1, yes, no⟩ := fl
    have J0 : Inv X pins σ' H' sI := Jt.ofTry okX
    have sky1 : Sky B (X.env :: X.outer) a (Zc cls d) X.env.locals s'.heap := by rw [← stk]; exact sky
    show wpAny (model X.prog X.w) X.A (noteFrame (.ref a) X.env) _ _ _
    refine Sky.land Zc.steady frs0 frm sky1 fun g3 fly3 up3 => ?_
    have J3 : Inv X pins σ' H' { s' with heap := g3 } := J0.landed nob fly3.1 (up0.trans up3) osE agr
    obtain ⟨ob3, vs3, at3, zc3, dat3⟩ := fly3.there
    have offF : a ∉ frs (X.env :: X.outer) := fun inF => by
      obtain ⟨_, o1, e1, nof⟩ := (fly3.2.2.1).mem inF
      rw [at3] at e1
      cases e1
      exact nof _ dat3
    have offL : a ≠ X.env.locals := fun z => offF (List.mem_filterMap.mpr ⟨X.env, List.mem_cons_self, by rw [frm, z]⟩)
    have offS : a ∉ X.fs := fun inF => by
      obtain ⟨ev, he, eq⟩ := List.mem_filterMap.mp inF
      exact offF (List.mem_filterMap.mpr ⟨ev, List.mem_cons_of_mem _ he, eq⟩)
    have St3 := J3.suite at3 dat3 fra offL offS
    refine wpAny_handleBy_cons (codeAny_handlers_test ?_) (by intro q; cases q)
    have tyL : PySem.W.Looks (model X.prog X.w) g3 (typeOf (.ref a)) cls := fun A Q E s k q => wpAny_typeOf_ref (k _ _ at3) (by rw [zc3.1]; exact q)
    have mtL := PySem.W.exm_one (M := model X.prog X.w) (J3.kIn) tyL ex1
    have ask : ∀ {Q : Value → Shared → Prop} {E : Value → Shared → Prop}, Q c { s' with heap := g3 } → wpAny (model X.prog X.w) (X.A.mark (some (.ref a))) (eval (.Name x np) X.env) Q E { s' with heap := g3 } := fun {Q E} q => by
      obtain ⟨hgl, hdb, hmg | ⟨hmg, hbv, hnn⟩⟩ := nam
      · exact ld_glob (X := X.suite a ((a, ob3) :: (X.pn ++ pins))) St3 hgl hmg q hdb
      · exact ld_blt (X := X.suite a ((a, ob3) :: (X.pn ++ pins))) St3 hgl hmg hbv q hnn hdb
    refine ask (mtL.here ?_)
    cases b with
    | false => exact (no rfl).elim
    | true =>
      refine codeAny_handlers_suite_as ?_
      refine HandSPX.lands_againZ fly3 fun g4 fly4 up4 => ?_
      have J4 : Inv X pins σ' H' { s' with heap := g4 } := J0.landed nob fly4.1 ((up0.trans up3).trans up4) osE agr
      obtain ⟨ob4, vs4, at4, zc4, dat4⟩ := fly4.there
      have St4 := J4.suite at4 dat4 fra offL offS
      refine store_ok (X := X.suite a ((a, ob4) :: (X.pn ++ pins))) (v := .ref a) St4 ndN atI locn rfl (fun t5 St5 => ?_) (.inr lcl)
      refine wpAny_mono ((hst a ob4 cls d (X.pn ++ pins) zc4 ⟨_, dat4⟩).run [] t5 _ H' _ St5 (yes rfl a fra)) (fun fl t6 done => ?_) (fun _ _ z => False.elim z)
      have fin : ∀ {σ6 : L2.St} {H6 : Hp} {Q : Shared → Prop}, Inv (X.suite a ((a, ob4) :: (X.pn ++ pins))) [] σ6 H6 t6 → (∀ t7, Inv X pins (σ6.set i none) H6 t7 → Q t7) →
          wpAny (model X.prog X.w) X.A (do bindName X.env n .none; unbindBehindTheSuite X.env n pos') (fun _ t7 => Q t7) X.xe t6 := fun {σ6 H6 Q} St6 hq => gone_ok (St6.unsuite okX) ndN atI lcl hq
      cases fl with
      | next =>
        obtain ⟨σ6, H6, St6, w6⟩ := done
        exact fin St6 fun t7 J7 => ⟨_, _, J7, w6⟩
      | brk =>
        obtain ⟨σ6, H6, St6, w6⟩ := done
        exact fin St6 fun t7 J7 => ⟨_, _, J7, w6⟩
      | cont =>
        obtain ⟨σ6, H6, St6, w6⟩ := done
        exact fin St6 fun t7 J7 => ⟨_, _, J7, w6⟩
      | ret u =>
        obtain ⟨v6, σ6, H6, St6, r6, w6⟩ := done
        exact fin St6 fun t7 J7 => ⟨_, _, _, J7, r6, w6⟩
  · cases fl with
    | next =>
      obtain ⟨σ', H', Jt, w1⟩ := done
      exact wpAny_execs_nil ⟨σ', H', Jt.ofTry okX, w1⟩
    | brk =>
      obtain ⟨σ', H', Jt, w1⟩ := done
      exact ⟨σ', H', Jt.ofTry okX, w1⟩
    | cont =>
      obtain ⟨σ', H', Jt, w1⟩ := done
      exact ⟨σ', H', Jt.ofTry okX, w1⟩
    | ret u =>
      obtain ⟨v, σ', H', Jt, r1, w1⟩ := done
      exact ⟨v, σ', H', Jt.ofTry okX, r1, w1⟩
end
end Lx

namespace Lx
open PySem L2 PySem.Spec PyProof.Rows Lk
/-! ### a field of the handled error -/
/-- what must be known of an error's class to read its fields -/
structure RdC (K : PySem.W.Frag) (C : Addr) : Prop where
  xf : XfC K C
  no : ∀ n ∈ ([("tag" : Str), "given", "limit", "index", "name", "first", "line"] : List Str), PySem.W.findIn K (.ref C) n = some none
def tXa (K : PySem.W.Frag) (a : Addr) (cls : Value) (d : Option Addr) (n : Str) (te : TE) : TE := fun σ H Q => ∃ C, RdC K C ∧ tXf a cls d C n te σ H Q
theorem pe_xa {X : Cx} {a : Addr} {oe : Obj} {cls : Value} {d : Option Addr} {e : Expr} {te : TE} {pos : Pos} {n : Str} (hp : (a, oe) ∈ X.pn) (hz : Zc cls d oe) (hf : ∃ vs, oe.data = .fields vs) (he : PE X e te) (hn : n ∈ ([("tag" : Str), "given", "limit", "index", "name", "first", "line"] : List Str))
    (hb : attributeBase e n X.env (eval e X.env) = eval e X.env := by rfl) : PE X (.Attribute e n pos) (tXa X.K a cls d n te) := by
  refine ⟨fun pins s σ H Q I h => ?_⟩
  obtain ⟨C, T, h⟩ := h
  refine attr_of hb (thn (he.run pins s σ H _ I h) fun u t1 hh => ?_)
  obtain ⟨x, H1, I1, rx, rfl, rfl, dd, fs, v, rfl, ea, lk, q⟩ := hh
  obtain rfl : u = Value.ref a := rx
  obtain ⟨vs, hd⟩ := hf
  have pin := (I1.pin (a, oe) (List.mem_append_left _ hp)).1
  obtain ⟨mA, hns, hr⟩ := (show ObjOk X.prog X.w H1 t1.heap dd (.xd fs) from I1.hok dd _ ea)
  obtain ⟨od, ho, hl⟩ := lookIn_ns hns
  obtain ⟨u, hu, ru⟩ := RelO.some_of (v := v) (o := mA n) (by rw [← lk]; exact hr n)
  have J : PySem.W.InstAt t1.heap a oe C (some od) := ⟨pin, hz.1, by unfold PySem.W.notCls; rw [hd] <;> rfl, by rw [hz.2]; exact ho⟩
  exact HandSPX.exc_get I1.kIn J T.xf.ga T.xf.gg T.xf.exC (PySem.W.findObj_own T.xf.hdC (T.no n hn) rfl (by rw [hl, hu])) (handed_of ru) ⟨v, H1, I1.tok _, ru, q⟩
/-! ### a def called with the handled error -/
section
variable {CX : CXT} {P : Program} {w : World} {K : PySem.W.Frag} {mg : Str → Option Value} {base : Heap} {k : Nat} {f : Addr} {name qual : Str} {params : Arguments} {body : List Stmt} {scope : Scope} {dV kV doc pm cdv ct oc : Value} {an od : Option Addr} {osl : Array (Option Value)} {N ps : List Str}
theorem run_pin (lk : K.lookup f = some ⟨oc, od, .func (PySem.W.fnOf name qual params body scope dV kV doc pm an cdv ct), osl⟩) (hcd : PySem.W.codeIn K cdv qual = true) (S : FnScope N ps scope) {A : Around} {outer : List Env} {s : Shared} {H : Hp} {args : Args} {us : List Value} {vs : List V} {Q : VK} {E : XK} {p : Addr × Obj}
    (hr : L2H.RoomH (k + 1) A) (hpin : L2H.PinOk outer H s p) (e0 : Env0 P w K mg base A outer s H) (hb : BindsTo s (PySem.W.fnOf name qual params body scope dV kV doc pm an cdv ct) args (ps.zip us)) (r : Vals vs us) (hl : vs.length = ps.length)
    (hbody : L2H.RoomH k (A.deeper (envOfC qual scope s.heap.objs.size f cdv)) → ∃ t, PSs (L2H.cxH CX P w K mg base N qual scope f cdv A outer s H E p) body t ∧ t { nx := fun _ H' => Q .non H', rt := Q } (L2.start N vs) H) :
    codeAny (model P w) A (.call (.ref f) args) (CR CX outer P w H s Q E) s := by
  have Kh : K.In s.heap := e0.mod.kin.keeps fun b o e => (e0.bs b o e).1
  have limH : s.heap.NoLimit := e0.mod.nolimit.keeps fun b o e => (e0.bs b o e).1
  have kinds : ∀ y ∈ ps.zip us, scope.names.lookup y.1 = some .local ∨ (scope.names.lookup y.1 = some .cell ∧ ((cellsFrom (s.heap.objs.size + 1) scope.names []).lookup y.1).isSome = true) := fun ⟨n, v⟩ hy =>
    (S.par n (List.of_mem_zip hy).1).elim .inl fun q => .inr ⟨q, PySem.W.cellsFrom_some _ _ _ (.inl q)⟩
  refine codeAny_call_function hr.depth (Kh _ _ lk) rfl S.co S.gen rfl (PySem.W.codeRec_of Kh hcd) (hb _ _ _ _ ?_)
  refine wpAny_newFunctionEnv_cells S.kind kinds fun env he t1 x => ?_
  subst he
  refine ⟨limH.keeps x.toInCall.keep, codeAny_func ?_⟩
  obtain ⟨t, ht, hq⟩ := hbody (hr.deeper _)
  have I : Inv (L2H.cxH CX P w K mg base N qual scope f cdv A outer s H E p) [] (L2.start N vs) H t1 := L2H.inv_startH S hpin e0 hl r x
  refine wpAny_mono (ht.run [] t1 (L2.start N vs) H _ I hq) (fun fl t2 hs => ?_) fun e t2 hs => hs
  cases fl with
  | ret u =>
    obtain ⟨v, σ', H', J, rv, q⟩ := hs
    exact ⟨v, H', J.os, J.bare, J.base, J.hok, rv, q⟩
  | next =>
    obtain ⟨σ', H', J, q⟩ := hs
    exact ⟨.non, H', J.os, J.bare, J.base, J.hok, rfl, q⟩
  | brk =>
    obtain ⟨_, _, _, q⟩ := hs
    exact q.elim
  | cont =>
    obtain ⟨_, _, _, q⟩ := hs
    exact q.elim
end
/-! ### the field that belongs to a tag -/
def txts (l : List Str) : List V := l.map V.str
def G1 : List Str := ["InvalidPlace", "InvalidBox", "InvalidCount"]
def G2 : List Str := ["TooManyClasses", "TooManyCells", "TooLong", "CapacityExceeded", "InvalidLimit"]
def G3 : List Str := ["InvalidLooks", "InvalidWords", "InvalidRule", "InvalidValues"]
def G4 : List Str := ["InvalidName", "DuplicateName", "InUse", "NotGiven", "Broken", "UnknownName"]
def FieldIs (tg : Str) (fs : List (Str × V)) (fv : V) : Prop :=
  if inV (.str tg) (txts G1) = true then fs.lookup ("given" : Str) = some fv else if inV (.str tg) (txts G2) = true then fs.lookup ("limit" : Str) = some fv else if inV (.str tg) (txts G3) = true then fs.lookup ("index" : Str) = some fv
  else if inV (.str tg) (txts G4) = true then fs.lookup ("name" : Str) = some fv else if tg = "InvalidCommand" then fs.lookup ("first" : Str) = some fv else if tg = "ParseError" then fs.lookup ("line" : Str) = some fv else fv = .non
theorem txts_flat (l : List Str) : (txts l).all flatV = true := by
  rw [List.all_eq_true]
  intro y hy
  obtain ⟨z, _, rfl⟩ := List.mem_map.mp hy
  rfl
section
variable {P : Program} {w : World} {K : PySem.W.Frag} {mg : Str → Option Value} {base : Heap}
theorem field_body {A : Around} {outer : List Env} {s : Shared} {H : Hp} {Q : VK} {a C dd : Addr} {oe : Obj} {f : Addr} {cdv : Value} {fs : List (Str × V)} {tg : Str} {fv : V} (hz : Zc (.ref C) (some dd) oe) (hf : ∃ vs, oe.data = .fields vs) (T : RdC K C) (hd : H dd = some (.xd fs)) (ht : fs.lookup ("tag" : Str) = some (.str tg)) (hv : FieldIs tg fs fv)
    (q : ∀ H', (∀ b o, H b = some o → H' b = some o) → Q fv H') :
    ∃ t, PSs (L2H.cxH CX0 P w K mg base ["_law_e"] "_law_field" (defScope sField) f cdv A outer s H E0 (a, oe)) (defBody sField) t ∧ t { nx := fun _ H' => Q .non H', rt := Q } (L2.start ["_law_e"] [.ref a]) H := by
  have hp : (a, oe) ∈ (L2H.cxH CX0 P w K mg base ["_law_e"] "_law_field" (defScope sField) f cdv A outer s H E0 (a, oe)).pn := List.mem_cons_self
  refine ⟨_, pss_cons (ps_if (pt_cmpR op_in_seq (pe_xa (n := "tag") hp hz hf (pv 0) (by simp)) (pe_lst (pa_cons pe_str (pa_cons pe_str (pa_cons pe_str pa_nil)))) (by rfl)) (pss_one (ps_ret (pe_xa (n := "given") hp hz hf (pv 0) (by simp)))) pss_nil)
    (pss_cons (ps_if (pt_cmpR op_in_seq (pe_xa (n := "tag") hp hz hf (pv 0) (by simp)) (pe_lst (pa_cons pe_str (pa_cons pe_str (pa_cons pe_str (pa_cons pe_str (pa_cons pe_str pa_nil)))))) (by rfl)) (pss_one (ps_ret (pe_xa (n := "limit") hp hz hf (pv 0) (by simp)))) pss_nil)
    (pss_cons (ps_if (pt_cmpR op_in_seq (pe_xa (n := "tag") hp hz hf (pv 0) (by simp)) (pe_lst (pa_cons pe_str (pa_cons pe_str (pa_cons pe_str (pa_cons pe_str pa_nil))))) (by rfl)) (pss_one (ps_ret (pe_xa (n := "index") hp hz hf (pv 0) (by simp)))) pss_nil)
    (pss_cons (ps_if (pt_cmpR op_in_seq (pe_xa (n := "tag") hp hz hf (pv 0) (by simp)) (pe_lst (pa_cons pe_str (pa_cons pe_str (pa_cons pe_str (pa_cons pe_str (pa_cons pe_str (pa_cons pe_str pa_nil))))))) (by rfl)) (pss_one (ps_ret (pe_xa (n := "name") hp hz hf (pv 0) (by simp)))) pss_nil)
    (pss_cons (ps_if (pt_cmpR op_eq (pe_xa (n := "tag") hp hz hf (pv 0) (by simp)) pe_str (nomark _)) (pss_one (ps_ret (pe_xa (n := "first") hp hz hf (pv 0) (by simp)))) pss_nil)
    (pss_one (ps_ret (pe_ifExp (pt_cmpR op_eq (pe_xa (n := "tag") hp hz hf (pv 0) (by simp)) pe_str (nomark _)) (pe_xa (n := "line") hp hz hf (pv 0) (by simp)) pe_non))))))), ?_⟩
  unfold FieldIs at hv
  have nx : ∀ {H1 : Hp} {L : Addr} {o : HO}, (∀ b o, H b = some o → H1 b = some o) → H1 L = none → (∀ b u, H b = some u → (upd H1 L o) b = some u) := fun {H1 L o} sm nL b u e => by
    rw [upd_ne (ne_of_none (sm _ _ e) nL)]
    exact sm _ _ e
  refine ⟨C, T, _, rfl, rfl, rfl, dd, fs, _, rfl, hd, ht, (by show 3 ≤ sizeLine; decide), fun L1 n1 => ?_⟩
  have s1 := nx (o := .lst (txts G1)) (fun b o e => e) n1
  refine ⟨L1, txts G1, rfl, .inl (SqL.of upd_same), rfl, txts_flat _, _, rfl, ite2 (fun z => ?_) (fun z => ?_)⟩
  · rw [if_pos (show inV (.str tg) (txts G1) = true from z)] at hv
    exact ⟨C, T, _, rfl, rfl, rfl, dd, fs, _, rfl, s1 _ _ hd, hv, q _ s1⟩
  rw [if_neg (show ¬ inV (.str tg) (txts G1) = true from z)] at hv
  refine ⟨C, T, _, rfl, rfl, rfl, dd, fs, _, rfl, s1 _ _ hd, ht, (by show 5 ≤ sizeLine; decide), fun L2 n2 => ?_⟩
  have s2 := nx (o := .lst (txts G2)) s1 n2
  refine ⟨L2, txts G2, rfl, .inl (SqL.of upd_same), rfl, txts_flat _, _, rfl, ite2 (fun z => ?_) (fun z => ?_)⟩
  · rw [if_pos (show inV (.str tg) (txts G2) = true from z)] at hv
    exact ⟨C, T, _, rfl, rfl, rfl, dd, fs, _, rfl, s2 _ _ hd, hv, q _ s2⟩
  rw [if_neg (show ¬ inV (.str tg) (txts G2) = true from z)] at hv
  refine ⟨C, T, _, rfl, rfl, rfl, dd, fs, _, rfl, s2 _ _ hd, ht, (by show 4 ≤ sizeLine; decide), fun L3 n3 => ?_⟩
  have s3 := nx (o := .lst (txts G3)) s2 n3
  refine ⟨L3, txts G3, rfl, .inl (SqL.of upd_same), rfl, txts_flat _, _, rfl, ite2 (fun z => ?_) (fun z => ?_)⟩
  · rw [if_pos (show inV (.str tg) (txts G3) = true from z)] at hv
    exact ⟨C, T, _, rfl, rfl, rfl, dd, fs, _, rfl, s3 _ _ hd, hv, q _ s3⟩
  rw [if_neg (show ¬ inV (.str tg) (txts G3) = true from z)] at hv
  refine ⟨C, T, _, rfl, rfl, rfl, dd, fs, _, rfl, s3 _ _ hd, ht, (by show 6 ≤ sizeLine; decide), fun L4 n4 => ?_⟩
  have s4 := nx (o := .lst (txts G4)) s3 n4
  refine ⟨L4, txts G4, rfl, .inl (SqL.of upd_same), rfl, txts_flat _, _, rfl, ite2 (fun z => ?_) (fun z => ?_)⟩
  · rw [if_pos (show inV (.str tg) (txts G4) = true from z)] at hv
    exact ⟨C, T, _, rfl, rfl, rfl, dd, fs, _, rfl, s4 _ _ hd, hv, q _ s4⟩
  rw [if_neg (show ¬ inV (.str tg) (txts G4) = true from z)] at hv
  refine ⟨C, T, _, rfl, rfl, rfl, dd, fs, _, rfl, s4 _ _ hd, ht, rfl, _, rfl, ite2 (fun z => ?_) (fun z => ?_)⟩
  · have e : tg = "InvalidCommand" := V.str.inj (of_decide_eq_true z)
    rw [if_pos e] at hv
    exact ⟨C, T, _, rfl, rfl, rfl, dd, fs, _, rfl, s4 _ _ hd, hv, q _ s4⟩
  have e : ¬ tg = "InvalidCommand" := fun y => z (decide_eq_true (by rw [y]))
  rw [if_neg e] at hv
  refine ⟨C, T, _, rfl, rfl, rfl, dd, fs, _, rfl, s4 _ _ hd, ht, rfl, _, rfl, ite2 (fun z => ?_) (fun z => ?_)⟩
  · have e : tg = "ParseError" := V.str.inj (of_decide_eq_true z)
    rw [if_pos e] at hv
    exact ⟨C, T, _, rfl, rfl, rfl, dd, fs, _, rfl, s4 _ _ hd, hv, q _ s4⟩
  have e : ¬ tg = "ParseError" := fun y => z (decide_eq_true (by rw [y]))
  rw [if_neg e] at hv
  rw [hv] at q
  exact q _ s4
end
end Lx

namespace Lx
open PySem L2 PySem.Spec PyProof.Rows LamX Lk
/-- _law_field(e), e the error that the suite holds -/
def tFld (K : PySem.W.Frag) (a : Addr) (cls : Value) (d : Option Addr) (te : TE) : TE := fun σ H Q => te σ H fun x H1 => x = .ref a ∧ ∃ (C dd : Addr) (fs : List (Str × V)) (tg : Str) (fv : V), cls = .ref C ∧ d = some dd ∧ RdC K C ∧ H1 dd = some (.xd fs) ∧ fs.lookup ("tag" : Str) = some (.str tg) ∧ FieldIs tg fs fv ∧
  ∀ H', (∀ b o, H1 b = some o → H' b = some o) → Q fv H'
/-- what the top has written of _law_field -/
structure FieldT (K : PySem.W.Frag) (mg : Str → Option Value) (fF : Addr) : Prop where
  mg_ : mg "_law_field" = some (.ref fF)
  kp : PySem.W.keepIn K (.ref fF) = true
  lk : ∃ oc od kV doc pm an cdv ct osl, K.lookup fF = some ⟨oc, od, .func (PySem.W.fnOf "_law_field" "_law_field" (defArgs sField) (defBody sField) (defScope sField) .none kV doc pm an cdv ct), osl⟩ ∧ PySem.W.codeIn K cdv "_law_field" = true
theorem pe_field {X : Cx} {a fF : Addr} {oe : Obj} {cls : Value} {d : Option Addr} {k : Nat} {e : Expr} {te : TE} {p pos : Pos} (F : FieldT X.K X.mg fF) (hp : (a, oe) ∈ X.pn) (hz : Zc cls d oe) (hf : ∃ vs, oe.data = .fields vs) (hr : L2H.RoomH (k + 1) X.A) (hg : Gl X "_law_field") (he : PE X e te)
    (hs : starEach (e :: []) X.env = (false, eval e X.env) :: starEach [] X.env := by rfl) (hpl : (backTo pos (starEach [] X.env)).any (·.1) = false := by rfl) : PE X (.Call (.Name "_law_field" p) [e] [] pos) (tFld X.K a cls d te) := by
  obtain ⟨oc, od, kV, doc, pm, an, cdv, ct, osl, lk, hcd⟩ := F.lk
  refine ⟨fun pins s σ H Q I h => ?_⟩
  refine wpAny_Call_Name_kw (ld_glob I hg F.mg_ ?_)
  refine PySem.W.callWith_K (h₀ := X.base) I.ok.mod.kin F.kp ?_ hs hpl
  have h' : tCons te tNil σ H (fun vs H1 => match vs with | [x] => x = .ref a ∧ ∃ (C dd : Addr) (fs : List (Str × V)) (tg : Str) (fv : V), cls = .ref C ∧ d = some dd ∧ RdC X.K C ∧ H1 dd = some (.xd fs) ∧ fs.lookup ("tag" : Str) = some (.str tg) ∧ FieldIs tg fs fv ∧ ∀ H', (∀ b o, H1 b = some o → H' b = some o) → Q fv H' | _ => False) := h
  refine thn ((pa_cons he pa_nil hs).run pos pins s σ H _ I h') fun us t1 hh => ?_
  · obtain ⟨vs, H1, I1, r, hm⟩ := hh
    obtain ⟨x, rfl⟩ : ∃ x, vs = [x] := by
      match vs, hm with
      | [x], _ => exact ⟨x, rfl⟩
    obtain ⟨rfl, C, dd, fs, tg, fv, rfl, rfl, T, hd, ht, hv, q⟩ := hm
    refine ⟨I1.kIn, ?_⟩
    have P1 := I1.pin (a, oe) (List.mem_append_left _ hp)
    have hpin : L2H.PinOk X.stack H1 t1 (a, oe) := ⟨P1.1, P1.2.1, fun hm => (List.mem_cons.mp (I1.stkSub a hm)).elim P1.2.2.1 P1.2.2.2.1, P1.2.2.2.2⟩
    obtain ⟨u, rfl, ru⟩ := vals1 r
    obtain rfl : u = Value.ref a := ru
    show wpAny _ _ (call (.ref fF) [.ref a]) _ _ _
    refine wpAny_call (codeAny_mono (run_pin (CX := CX0) (E := E0) (ps := ["_law_e"]) (us := [.ref a]) (vs := [.ref a]) lk hcd scField hr hpin I1.env0 (.of_eq rfl) (.cons rfl .nil) rfl (fun _ => field_body hz hf T hd ht hv q)) fun rr t2 hq => ?_)
    cases rr with
    | error er => exact (show False from hq).elim
    | ok fl =>
      cases fl with
      | ret u => exact I1.after hq
      | next => exact False.elim hq
      | brk => exact False.elim hq
      | cont => exact False.elim hq
end Lx

namespace Lx
open PySem L2 PySem.Spec PyProof.Rows LamX Lk
/-- what _law_try makes of an error of the class at C -/
def Caught (K : PySem.W.Frag) (CS : Addr) (Q : VK) (cls : Value) (d : Option Addr) (H : Hp) : Prop :=
  PySem.W.exmOne K cls (.ref CS) = some true ∧ ∃ (C dd : Addr) (fs : List (Str × V)) (tg : Str) (fv : V), cls = .ref C ∧ d = some dd ∧ RdC K C ∧ H dd = some (.xd fs) ∧ fs.lookup ("tag" : Str) = some (.str tg) ∧ FieldIs tg fs fv ∧
    ∀ (H' : Hp) (T : Addr), (∀ b o, H b = some o → H' b = some o) → H' T = none → Q (.ref T) (upd H' T (.tup [.str tg, fv]))
def TTry (K : PySem.W.Frag) (CS : Addr) : (XK → Hp → VK → Prop) → Hp → VK → Prop := fun tl H Q =>
  tl (Caught K CS Q) H (fun v H1 => 2 ≤ sizeLine ∧ ∀ T, H1 T = none → Q (.ref T) (upd H1 T (.tup [.str "value", v])))
theorem takes_len {X : Cx} {W : WX} (t : Takes X W) : Takes X (fun c d σ H => σ.length = X.N.length → W c d σ H) := fun u s' ⟨a, B, sI, pins, σ, H, cls, d, e, I, nb, up, sky, na, os, ag, w⟩ =>
  t u s' ⟨a, B, sI, pins, σ, H, cls, d, e, I, nb, up, sky, na, os, ag, w I.len⟩
theorem set_at {α : Type} (l : List α) (i : Nat) (x : α) (h : i < l.length) : (l.set i x)[i]? = some x := by
  rw [List.getElem?_set_self h]
theorem try_gives {X : Cx} {g CS fF : Addr} {cdg : Value} {q : Str} {k : Nat} (F : FieldT X.K X.mg fF) (hme : X.mg "ScanError" = some (.ref CS)) (hr : ∀ s : Shared, Room (k + 1) (X.A.deeper (envOfC "_law_try" (defScope sTry) s.heap.objs.size g cdg))) :
    GivesTo X ["_law_ask", "_law_e"] "_law_try" (defScope sTry) g cdg (defBody sTry) "_law_ask" q (TTry X.K CS) := by
  intro f c' s H Q tl act hc h
  refine ⟨_, pss_one (ps_try_first (X := (cxOf C8.CX0 X.prog X.w X.K X.mg X.base ["_law_ask", "_law_e"] "_law_try" (defScope sTry) g cdg X.A X.stack s H C8.E0).nox) (c := .ref CS) (i := 1)
      (tb := fun W D σ H => ∃ Ech : XK, (∀ cls d σ' H', Ech cls d H' → σ'.length = 2 → W cls d σ' H') ∧ σ[0]? = some (some (.ref f)) ∧ H c' = some (CodeO c' q) ∧ tl Ech H (fun v H1 => 2 ≤ sizeLine ∧ ∀ T, H1 T = none → D.rt (.ref T) (upd H1 T (.tup [.str "value", v]))))
      (ts := fun a cls d => tRet (tTup (tCons (tXa X.K a cls d "tag" (tVar 1)) (tCons (tFld X.K a cls d (tVar 1)) tNil))))
      rfl rfl scTry.nd rfl rfl ⟨rfl, by decide, .inl hme⟩ (fun W pn xe tk _ => ?_) (fun a oe cls d pn hz hf => ?_)), ?_⟩
  · refine ⟨fun pins s' σ H' D I h' => ?_⟩
    obtain ⟨Ech, hW, h1, h2, h3⟩ := h'
    exact (pss_one (ps_ret (pe_tup (pa_cons pe_str (pa_cons (act _ pn xe Ech _ _ (takes_len tk) hW) pa_nil))))).run pins s' σ H' D I ⟨h1, h2, h3⟩
  · exact pss_one (ps_ret (pe_tup (pa_cons (pe_xa (n := "tag") List.mem_cons_self hz hf (pv 1) (by simp)) (pa_cons (pe_field (k := k) F List.mem_cons_self hz hf ⟨(hr s).dp, (hr s).un⟩ rfl (pv 1)) pa_nil))))
  · refine ⟨Caught X.K CS Q, fun cls d σ' H' hq hl => ?_, rfl, hc, h⟩
    obtain ⟨e1, C, dd, fs, tg, fv, rfl, rfl, T, hd, ht, hv, q2⟩ := hq
    refine ⟨true, e1, fun _ a na => ?_, fun z => by cases z⟩
    have g1 : (σ'.set 1 (some (V.ref a)))[1]? = some (some (V.ref a)) := set_at _ _ _ (by omega)
    exact ⟨C, T, _, g1, rfl, rfl, dd, fs, _, rfl, hd, ht, _, g1, rfl, C, dd, fs, tg, fv, rfl, rfl, T, hd, ht, hv, fun H2 k2 => ⟨(by show 2 ≤ sizeLine; decide), fun p np => q2 H2 p k2 np⟩⟩
end Lx

namespace Lk
open PySem L2
def isI : V → Bool
  | .int _ => true
  | _ => false
/-- an item of an odd value -/
def ItD (K : PySem.W.Frag) (H : Hp) (v : V) : Prop := scal v = true ∨ ∃ (c : Addr) (ys : List V), v = .ref c ∧ SqT K H c ys ∧ ys.length ≤ 4 ∧ ∀ y ∈ ys, scal y = true
/-- an odd value: none, or the items of a tuple -/
def OD (K : PySem.W.Frag) (H : Hp) (v : V) : Option (List V) → Prop
  | none => scal v = true
  | some xs => ∃ a : Addr, v = .ref a ∧ SqT K H a xs ∧ xs.length ≤ 12 ∧ ∀ x ∈ xs, ItD K H x
def plB (o : Option (List V)) (c : Int) : Bool := match o with
  | none => false
  | some xs => decide ((xs.length : Int) = c) && xs.all isI
def uI : V → Int
  | .int i => i
  | _ => 0
def itsI (o : Option (List V)) : List Int := match o with
  | none => []
  | some xs => xs.map uI
/-- its ints are not too great -/
def OB (o : Option (List V)) : Prop := ∀ z ∈ itsI o, -(2 ^ 64) < z ∧ z < 2 ^ 64
theorem ob_none : OB none := fun z hz => by cases hz
theorem ItD.mono {K : PySem.W.Frag} {H H' : Hp} (e : Tups K H H') {v : V} (h : ItD K H v) : ItD K H' v := by
  rcases h with h | ⟨c, ys, h1, h2, h3, h4⟩
  · exact .inl h
  · exact .inr ⟨c, ys, h1, e _ _ h2, h3, h4⟩
theorem OD.mono {K : PySem.W.Frag} {H H' : Hp} (e : Tups K H H') {v : V} : ∀ {o : Option (List V)}, OD K H v o → OD K H' v o
  | none, h => h
  | some xs, ⟨a, h1, h2, h3, h4⟩ => ⟨a, h1, e _ _ h2, h3, fun x hx => (h4 x hx).mono e⟩
theorem OD.dd {K : PySem.W.Frag} {H : Hp} {v : V} : ∀ {o : Option (List V)}, OD K H v o → DD K H 2 v v
  | none, h => .inl ⟨h, rfl⟩
  | some xs, ⟨a, h1, h2, h3, h4⟩ => by
    refine .inr ⟨a, a, xs, xs, h1, h1, .inl ⟨h2, h2⟩, rfl, by omega, fun i x y f1 f2 => ?_⟩
    rw [f1] at f2
    cases f2
    rcases h4 x (List.mem_of_getElem? f1) with h | ⟨c, ys, e1, e2, e3, e4⟩
    · exact .inl ⟨h, rfl⟩
    · refine .inr ⟨c, c, ys, ys, e1, e1, .inl ⟨e2, e2⟩, rfl, by omega, fun i x y f1 f2 => ?_⟩
      rw [f1] at f2
      cases f2
      exact ⟨e4 x (List.mem_of_getElem? f1), rfl⟩
def spIsNumO (K : PySem.W.Frag) : Sp := fun vs H Q _ => ∃ v, vs = [v] ∧ ItD K H v ∧ Q (.bl (isI v)) H
def spNumsO (K : PySem.W.Frag) : Sp := fun vs H Q _ => ∃ v c o, vs = [v, .int c] ∧ OD K H v o ∧ ∀ H', Same H H' → Q (.bl (plB o c)) H'
/-- isinstance(v, int) and not isinstance(v, bool), v in slot i -/
theorem num_reads {K : PySem.W.Frag} {i : Nat} {v : V} {σ : L2.St} {H : Hp} {Q : VK} (hv : σ[i]? = some (some v)) (hI : ItD K H v) (q : Q (.bl (isI v)) H) :
    (tAndV (tCB (rIsi K) (tCons (tVar i) (tCons (tC (.ty "int")) tNil))) (tNotV (tCB (rIsi K) (tCons (tVar i) (tCons (tC (.ty "bool")) tNil))))) σ H Q := by
  rcases hI with hs | ⟨c, ys, rfl, h2, _⟩
  · cases v with
    | non => exact ⟨_, hv, _, _, _, _, false, rfl, .ty _, .base .non, kit_ty (by decide +kernel), false, rfl, iteF q⟩
    | bl x => exact ⟨_, hv, _, _, _, _, true, rfl, .ty _, .base (.bl x), kit_ty (by decide +kernel), true, rfl, iteT ⟨_, hv, _, _, _, _, true, rfl, .ty _, .base (.bl x), kit_ty (by decide +kernel), true, rfl, q⟩⟩
    | int x => exact ⟨_, hv, _, _, _, _, true, rfl, .ty _, .base (.int x), kit_ty (by decide +kernel), true, rfl, iteT ⟨_, hv, _, _, _, _, false, rfl, .ty _, .base (.int x), kit_ty (by decide +kernel), false, rfl, q⟩⟩
    | str x => exact ⟨_, hv, _, _, _, _, false, rfl, .ty _, .base (.str x), kit_ty (by decide +kernel), false, rfl, iteF q⟩
    | _ => cases hs
  · exact ⟨_, hv, _, _, _, _, false, rfl, .ty _, tyT h2, kit_ty (by decide +kernel), false, rfl, iteF q⟩
section
variable {P : Program} {w : World} {K : PySem.W.Frag} {mg : Str → Option Value} {base : Heap}
theorem ok_isnumO {f : Addr} {fd : FuncData} {k : Nat} (F : Fun K "is_number" "is_number" sIsNum f fd) (mi : mg "int" = none) (mb : mg "bool" = none) (ms : mg "isinstance" = none) : FnOk P w K mg base CX0 (k + 1) f fd ["value"] (spIsNumO K) := by
  refine F.ok scIsNum (fun vs H Q E h => ?_) (fun cdv A outer s H vs Q E hr h => ?_)
  · obtain ⟨i, rfl, _⟩ := h
    rfl
  · obtain ⟨v, rfl, hI, q⟩ := h
    refine ⟨_, pss_one (ps_ret (pe_and (pe_callB call_isi (by rfl) ms (by decide +kernel) (pa_cons (pv 0) (pa_cons (pe_bltn (v := .ty "int") (by rfl) mi (by decide +kernel) rfl) pa_nil))) (pe_one (pe_not (pe_callB call_isi (by rfl) ms (by decide +kernel) (pa_cons (pv 0) (pa_cons (pe_bltn (v := .ty "bool") (by rfl) mb (by decide +kernel) rfl) pa_nil))))))), ?_⟩
    exact num_reads (i := 0) rfl hI q
theorem all_isI {xs : List V} (h : ∀ x ∈ xs, isI x = true) : xs.all isI = true := List.all_eq_true.mpr h
theorem ok_numsO {f fN : Addr} {fd fdN : FuncData} {k : Nat} (F : Fun K "are_numbers" "are_numbers" sAreNums f fd) (ms : mg "isinstance" = none) (mt : mg "tuple" = none) (ml : mg "len" = none) (ma : mg "all" = none)
    (GN : FnOk P w K mg base CX0 (k + 1) fN fdN ["value"] (spIsNumO K)) (kN : PySem.W.keepIn K (.ref fN) = true) (bN : Binds K fdN ["value"] []) (gN : mg "is_number" = some (.ref fN)) : FnOk P w K mg base CX0 (k + 2) f fd ["value", "count"] (spNumsO K) := by
  refine F.ok scAreNums (fun vs H Q E h => ?_) (fun cdv A outer s H vs Q E hr h => ?_)
  · obtain ⟨v, c, o, rfl, _⟩ := h
    rfl
  · obtain ⟨v, c, o, rfl, hO, q⟩ := h
    refine ⟨_, pss_cons (ps_if (PW.pt (pw_or (pt_not (pt_val (pe_callB call_isi (by rfl) ms (by decide +kernel) (pa_cons (pv 0) (pa_cons (pe_bltn (v := .ty "tuple") (by rfl) mt (by decide +kernel) rfl) pa_nil)))))
        (pw_or1 (pt_cmpR op_ne (pe_callB call_len_seq (by rfl) ml PySem.boot_len (pa_cons (pv 0) pa_nil)) (pv 1) (nomark _))))) (pss_one (ps_ret pe_bl)) pss_nil)
      (pss_one (ps_ret (pe_callB (cr_all rfl) (by rfl) ma (by decide +kernel) (pa_cons (pe_lc (own := [("item", 2)]) (g := gName 2) (by rfl) scAreNums.nd (pi_tup (pv 0))
        (blkOk_by (own := [("item", 2)]) (N := ["value", "count", "item"]) (sc := defScope sAreNums) (by decide +kernel)) (fun _ _ _ _ _ => pg_name (i := 2) scAreNums.nd rfl (Or.inl rfl)) (fun _ _ _ _ _ => pts_nil)
        (fun _ _ _ _ _ => pe_call GN hr (by rfl) gN kN bN .nil pass0 (pa_cons (pv 2) pa_nil))) pa_nil)))), ?_⟩
    cases o with
    | none =>
      have hs : scal v = true := hO
      have qq := q H (Same.refl _)
      cases v with
      | non => exact ⟨_, rfl, _, _, _, _, false, rfl, .ty _, .base .non, kit_ty (by decide +kernel), false, rfl, iteT qq⟩
      | bl x => exact ⟨_, rfl, _, _, _, _, false, rfl, .ty _, .base (.bl x), kit_ty (by decide +kernel), false, rfl, iteT qq⟩
      | int x => exact ⟨_, rfl, _, _, _, _, false, rfl, .ty _, .base (.int x), kit_ty (by decide +kernel), false, rfl, iteT qq⟩
      | str x => exact ⟨_, rfl, _, _, _, _, false, rfl, .ty _, .base (.str x), kit_ty (by decide +kernel), false, rfl, iteT qq⟩
      | _ => cases hs
    | some xs =>
    obtain ⟨a, rfl, hS, h3, h4⟩ := hO
    refine ⟨_, rfl, _, _, _, _, true, rfl, .ty _, tyT hS, kit_ty (by decide +kernel), true, rfl, iteF ?_⟩
    refine ⟨_, rfl, a, _, rfl, .inr hS, _, rfl, rfl, _, rfl, ite2 (fun e => ?_) (fun e => ?_)⟩
    · have hne : ¬ ((xs.length : Int) = c) := fun z => by
        rw [z] at e
        exact absurd e (by simp)
      have qq := q H (Same.refl _)
      have eb : plB (some xs) c = false := by
        show (decide ((xs.length : Int) = c) && xs.all isI) = false
        rw [decide_eq_false hne]
        rfl
      rw [eb] at qq
      exact qq
    have heq : (xs.length : Int) = c := by
      refine Decidable.byContradiction fun z => e ?_
      show (!decide (V.int (xs.length : Int) = V.int c)) = true
      rw [decide_eq_false (fun y => z (V.int.inj y))]
      rfl
    refine ⟨_, rfl, a, rfl, ⟨_, hS⟩, fun D nD => ?_⟩
    refine lc_tup (K := K) (a := a) (xs := xs) (fun i H2 => Same H H2 ∧ H2 D = some (.lst (((xs.take i).map isI).map V.bl))) ⟨same_new nD, upd_same⟩ (fun i H2 _ ⟨sm, _⟩ => Same.sqT sm hS) ?_ ?_
    rotate_left
    · rintro H2 ⟨sm, hD⟩
      rw [List.take_length] at hD
      refine ⟨D, _, rfl, SqL.of hD, ?_⟩
      have eb : (xs.map isI).all id = plB (some xs) c := by
        show _ = (decide ((xs.length : Int) = c) && xs.all isI)
        rw [decide_eq_true heq, List.all_map]
        rfl
      rw [eb]
      exact q H2 sm
    · rintro i x H2 hx ⟨sm, hD⟩
      have hi : i < xs.length := (List.getElem?_eq_some_iff.mp hx).1
      refine ⟨rfl, _, rfl, x, rfl, (h4 x (List.mem_of_getElem? hx)).mono (Same.tups sm), _, hD, ?_, ?_, ?_⟩
      · rw [List.length_map, List.length_map]
        exact small1000 (Nat.le_trans (List.length_take_le _ _) (by omega))
      · intro b o e
        rw [upd_ne (ne_of_none e nD)]
        exact sm b o e
      · rw [upd_same, take_more hx, List.map_append, List.map_append]
        rfl
theorem ok_isplace {f : Addr} {fd : FuncData} {k : Nat} (F : Fun K "_law_is_place" "_law_is_place" sIsPlace f fd) (ms : mg "isinstance" = none) (mt : mg "tuple" = none) (ml : mg "len" = none) (ma : mg "all" = none) (mi : mg "int" = none) (mb : mg "bool" = none) :
    FnOk P w K mg base CX0 (k + 1) f fd ["_law_value", "_law_directions"] (spNumsO K) := by
  refine F.ok scIsPlace (fun vs H Q E h => ?_) (fun cdv A outer s H vs Q E hr h => ?_)
  · obtain ⟨v, c, o, rfl, _⟩ := h
    rfl
  · obtain ⟨v, c, o, rfl, hO, q⟩ := h
    refine ⟨_, pss_cons (ps_if (PW.pt (pw_or (pt_not (pt_val (pe_callB call_isi (by rfl) ms (by decide +kernel) (pa_cons (pv 0) (pa_cons (pe_bltn (v := .ty "tuple") (by rfl) mt (by decide +kernel) rfl) pa_nil)))))
        (pw_or1 (pt_cmpR op_ne (pe_callB call_len_seq (by rfl) ml PySem.boot_len (pa_cons (pv 0) pa_nil)) (pv 1) (nomark _))))) (pss_one (ps_ret pe_bl)) pss_nil)
      (pss_one (ps_ret (pe_callB (cr_all rfl) (by rfl) ma (by decide +kernel) (pa_cons (pe_lc (own := [("_law_one", 2)]) (g := gName 2) (te := tAndV (tCB (rIsi K) (tCons (tVar 2) (tCons (tC (.ty "int")) tNil))) (tNotV (tCB (rIsi K) (tCons (tVar 2) (tCons (tC (.ty "bool")) tNil))))) (by rfl) scIsPlace.nd (pi_tup (pv 0))
        (blkOk_by (own := [("_law_one", 2)]) (N := ["_law_value", "_law_directions", "_law_one"]) (sc := defScope sIsPlace) (by decide +kernel)) (fun _ _ _ _ _ => pg_name (i := 2) scIsPlace.nd rfl (Or.inl rfl)) (fun _ _ _ _ _ => pts_nil)
        (fun _ _ _ _ _ => pe_and (pe_callB call_isi (by rfl) ms (by decide +kernel) (pa_cons (pv 2) (pa_cons (pe_bltn (v := .ty "int") (by rfl) mi (by decide +kernel) rfl) pa_nil))) (pe_one (pe_not (pe_callB call_isi (by rfl) ms (by decide +kernel) (pa_cons (pv 2) (pa_cons (pe_bltn (v := .ty "bool") (by rfl) mb (by decide +kernel) rfl) pa_nil))))))) pa_nil)))), ?_⟩
    cases o with
    | none =>
      have hs : scal v = true := hO
      have qq := q H (Same.refl _)
      cases v with
      | non => exact ⟨_, rfl, _, _, _, _, false, rfl, .ty _, .base .non, kit_ty (by decide +kernel), false, rfl, iteT qq⟩
      | bl x => exact ⟨_, rfl, _, _, _, _, false, rfl, .ty _, .base (.bl x), kit_ty (by decide +kernel), false, rfl, iteT qq⟩
      | int x => exact ⟨_, rfl, _, _, _, _, false, rfl, .ty _, .base (.int x), kit_ty (by decide +kernel), false, rfl, iteT qq⟩
      | str x => exact ⟨_, rfl, _, _, _, _, false, rfl, .ty _, .base (.str x), kit_ty (by decide +kernel), false, rfl, iteT qq⟩
      | _ => cases hs
    | some xs =>
    obtain ⟨a, rfl, hS, h3, h4⟩ := hO
    refine ⟨_, rfl, _, _, _, _, true, rfl, .ty _, tyT hS, kit_ty (by decide +kernel), true, rfl, iteF ?_⟩
    refine ⟨_, rfl, a, _, rfl, .inr hS, _, rfl, rfl, _, rfl, ite2 (fun e => ?_) (fun e => ?_)⟩
    · have hne : ¬ ((xs.length : Int) = c) := fun z => by
        rw [z] at e
        exact absurd e (by simp)
      have qq := q H (Same.refl _)
      have eb : plB (some xs) c = false := by
        show (decide ((xs.length : Int) = c) && xs.all isI) = false
        rw [decide_eq_false hne]
        rfl
      rw [eb] at qq
      exact qq
    have heq : (xs.length : Int) = c := by
      refine Decidable.byContradiction fun z => e ?_
      show (!decide (V.int (xs.length : Int) = V.int c)) = true
      rw [decide_eq_false (fun y => z (V.int.inj y))]
      rfl
    refine ⟨_, rfl, a, rfl, ⟨_, hS⟩, fun D nD => ?_⟩
    refine lc_tup (K := K) (a := a) (xs := xs) (fun i H2 => Same H H2 ∧ H2 D = some (.lst (((xs.take i).map isI).map V.bl))) ⟨same_new nD, upd_same⟩ (fun i H2 _ ⟨sm, _⟩ => Same.sqT sm hS) ?_ ?_
    rotate_left
    · rintro H2 ⟨sm, hD⟩
      rw [List.take_length] at hD
      refine ⟨D, _, rfl, SqL.of hD, ?_⟩
      have eb : (xs.map isI).all id = plB (some xs) c := by
        show _ = (decide ((xs.length : Int) = c) && xs.all isI)
        rw [decide_eq_true heq, List.all_map]
        rfl
      rw [eb]
      exact q H2 sm
    · rintro i x H2 hx ⟨sm, hD⟩
      have hi : i < xs.length := (List.getElem?_eq_some_iff.mp hx).1
      refine ⟨rfl, num_reads (i := 2) rfl ((h4 x (List.mem_of_getElem? hx)).mono (Same.tups sm)) ⟨_, hD, ?_, ?_, ?_⟩⟩
      · rw [List.length_map, List.length_map]
        exact small1000 (Nat.le_trans (List.length_take_le _ _) (by omega))
      · intro b o e
        rw [upd_ne (ne_of_none e nD)]
        exact sm b o e
      · rw [upd_same, take_more hx, List.map_append, List.map_append]
        rfl
end
end Lk

namespace Lk
open PySem L2
theorem BagAt.same {H H' : Hp} {b l : Addr} (B : BagAt H b l) (e : Same H H') : BagAt H' b l := by
  obtain ⟨x1, x2, x3, x4, Z⟩ := B
  exact ⟨x1, x2, x3, x4, e _ _ Z.ob, e _ _ Z.ls, Z.i0, Z.i1, Z.g0, Z.s0, Z.s1⟩
theorem itd_all {K : PySem.W.Frag} {H : Hp} {xs : List V} (h : xs.all scal = true) : ∀ x ∈ xs, ItD K H x := fun x hx => .inl (List.all_eq_true.mp h x hx)
def spOdd (K : PySem.W.Frag) : Sp := fun vs H Q _ => ∃ (b l : Addr), vs = [.ref b] ∧ BagAt H b l ∧ ∀ (v : V) (o : Option (List V)) (H' : Hp), OD K H' v o → OB o → BagAt H' b l → But b H H' → Q v H'
section
variable {P : Program} {w : World} {K : PySem.W.Frag} {mg : Str → Option Value} {base : Heap}
theorem ok_odd {f fO : Addr} {fd fdO : FuncData} {k : Nat} (F : Fun K "_law_odd" "_law_odd" sOdd f fd) (GO : FnOk P w K mg base CX0 (k + 2) fO fdO ["_law_bag_here", "_law_things"] (spOf K))
    (kO : PySem.W.keepIn K (.ref fO) = true) (bO : Binds K fdO ["_law_bag_here", "_law_things"] []) (gO : mg "_law_of" = some (.ref fO)) : FnOk P w K mg base CX0 (k + 3) f fd ["_law_bag_here"] (spOdd K) := by
  refine F.ok scOdd (fun vs H Q E h => ?_) (fun cdv A outer s H vs Q E hr h => ?_)
  · obtain ⟨b, l, rfl, _⟩ := h
    rfl
  · obtain ⟨b, l, rfl, B, q⟩ := h
    refine ⟨_, pss_one (ps_ret (pe_call GO hr (by rfl) gO kO bO .nil pass0 (pa_cons (pv 0) (pa_cons (pe_lst (pa_cons pe_non (pa_cons pe_str (pa_cons pe_str (pa_cons pe_int (pa_cons pe_bl (pa_cons (pe_tup pa_nil) (pa_cons (pe_tup (pa_cons pe_non pa_nil)) (pa_cons (pe_tup (pa_cons pe_int (pa_cons pe_int (pa_cons pe_int (pa_cons pe_int pa_nil))))) (pa_cons (pe_tup (pa_cons pe_str pa_nil)) (pa_cons (pe_tup (pa_cons pe_bl pa_nil)) (pa_cons (pe_tup (pa_cons pe_int (pa_cons pe_bl pa_nil))) (pa_cons (pe_tup (pa_cons pe_int (pa_cons pe_non pa_nil))) (pa_cons (pe_tup (pa_cons pe_int (pa_cons pe_str pa_nil))) (pa_cons (pe_tup (pa_cons (pe_tup (pa_cons pe_int pa_nil)) pa_nil)) (pa_cons (pe_tup (pa_cons pe_int (pa_cons (pe_tup (pa_cons pe_int pa_nil)) (pa_cons pe_int pa_nil)))) pa_nil)))))))))))))))) pa_nil)))), ?_⟩
    refine ⟨_, rfl, ?_⟩
    refine ⟨(by show 0 ≤ sizeLine; decide), fun p1 n1 => ?_⟩
    have s1 := same_new (o := .tup []) n1
    refine ⟨(by show 1 ≤ sizeLine; decide), fun p2 n2 => ?_⟩
    have s2 := same_new (o := .tup [.non]) n2
    refine ⟨(by show 4 ≤ sizeLine; decide), fun p3 n3 => ?_⟩
    have s3 := same_new (o := .tup [(.int 1), (.int 2), (.int 3), (.int 4)]) n3
    refine ⟨(by show 1 ≤ sizeLine; decide), fun p4 n4 => ?_⟩
    have s4 := same_new (o := .tup [(.str "1")]) n4
    refine ⟨(by show 1 ≤ sizeLine; decide), fun p5 n5 => ?_⟩
    have s5 := same_new (o := .tup [(.bl true)]) n5
    refine ⟨(by show 2 ≤ sizeLine; decide), fun p6 n6 => ?_⟩
    have s6 := same_new (o := .tup [(.int 0), (.bl true)]) n6
    refine ⟨(by show 2 ≤ sizeLine; decide), fun p7 n7 => ?_⟩
    have s7 := same_new (o := .tup [(.int 1), .non]) n7
    refine ⟨(by show 2 ≤ sizeLine; decide), fun p8 n8 => ?_⟩
    have s8 := same_new (o := .tup [(.int 0), (.str "a")]) n8
    refine ⟨(by show 1 ≤ sizeLine; decide), fun p9 n9 => ?_⟩
    have s9 := same_new (o := .tup [(.int 1)]) n9
    refine ⟨(by show 1 ≤ sizeLine; decide), fun p10 n10 => ?_⟩
    have s10 := same_new (o := .tup [.ref p9]) n10
    refine ⟨(by show 1 ≤ sizeLine; decide), fun p11 n11 => ?_⟩
    have s11 := same_new (o := .tup [(.int 2)]) n11
    refine ⟨(by show 3 ≤ sizeLine; decide), fun p12 n12 => ?_⟩
    have s12 := same_new (o := .tup [(.int 1), .ref p11, (.int 3)]) n12
    refine ⟨(by show 15 ≤ sizeLine; decide), fun L nL => ?_⟩
    have sL := same_new (o := .lst [.non, (.str ""), (.str "ab"), (.int 3), (.bl true), .ref p1, .ref p2, .ref p3, .ref p4, .ref p5, .ref p6, .ref p7, .ref p8, .ref p10, .ref p12]) nL
    have b12 := sL
    have b11 := s12.trans b12
    have b10 := s11.trans b11
    have b9 := s10.trans b10
    have b8 := s9.trans b9
    have b7 := s8.trans b8
    have b6 := s7.trans b7
    have b5 := s6.trans b6
    have b4 := s5.trans b5
    have b3 := s4.trans b4
    have b2 := s3.trans b3
    have b1 := s2.trans b2
    have b0 := s1.trans b1
    have c1 := s1
    have c2 := c1.trans s2
    have c3 := c2.trans s3
    have c4 := c3.trans s4
    have c5 := c4.trans s5
    have c6 := c5.trans s6
    have c7 := c6.trans s7
    have c8 := c7.trans s8
    have c9 := c8.trans s9
    have c10 := c9.trans s10
    have c11 := c10.trans s11
    have c12 := c11.trans s12
    have sAll := c12
    have BL := BagAt.same B b0
    refine ⟨b, l, L, _, rfl, BL, (BagAt.same B (sAll)).nb nL, SqL.of upd_same, (by show 0 < 15; decide), (by show 15 < 1000; decide), fun v H' hv B' bt => ?_⟩
    have bb : But b H H' := (But.same b0).trans bt
    have t1 : SqT K H' p1 [] := bt.sqT BL (Same.sqT b1 (SqT.of upd_same))
    have t2 : SqT K H' p2 [.non] := bt.sqT BL (Same.sqT b2 (SqT.of upd_same))
    have t3 : SqT K H' p3 [(.int 1), (.int 2), (.int 3), (.int 4)] := bt.sqT BL (Same.sqT b3 (SqT.of upd_same))
    have t4 : SqT K H' p4 [(.str "1")] := bt.sqT BL (Same.sqT b4 (SqT.of upd_same))
    have t5 : SqT K H' p5 [(.bl true)] := bt.sqT BL (Same.sqT b5 (SqT.of upd_same))
    have t6 : SqT K H' p6 [(.int 0), (.bl true)] := bt.sqT BL (Same.sqT b6 (SqT.of upd_same))
    have t7 : SqT K H' p7 [(.int 1), .non] := bt.sqT BL (Same.sqT b7 (SqT.of upd_same))
    have t8 : SqT K H' p8 [(.int 0), (.str "a")] := bt.sqT BL (Same.sqT b8 (SqT.of upd_same))
    have t9 : SqT K H' p9 [(.int 1)] := bt.sqT BL (Same.sqT b9 (SqT.of upd_same))
    have t10 : SqT K H' p10 [.ref p9] := bt.sqT BL (Same.sqT b10 (SqT.of upd_same))
    have t11 : SqT K H' p11 [(.int 2)] := bt.sqT BL (Same.sqT b11 (SqT.of upd_same))
    have t12 : SqT K H' p12 [(.int 1), .ref p11, (.int 3)] := bt.sqT BL (Same.sqT b12 (SqT.of upd_same))
    rcases List.mem_cons.mp hv with e | hv
    · subst e
      exact q _ none H' rfl ob_none B' bb
    rcases List.mem_cons.mp hv with e | hv
    · subst e
      exact q _ none H' rfl ob_none B' bb
    rcases List.mem_cons.mp hv with e | hv
    · subst e
      exact q _ none H' rfl ob_none B' bb
    rcases List.mem_cons.mp hv with e | hv
    · subst e
      exact q _ none H' rfl ob_none B' bb
    rcases List.mem_cons.mp hv with e | hv
    · subst e
      exact q _ none H' rfl ob_none B' bb
    rcases List.mem_cons.mp hv with e | hv
    · subst e
      exact q _ (some _) H' ⟨_, rfl, t1, (by show 0 ≤ 12; decide), itd_all rfl⟩ (fun z hz => by simp [itsI, uI] at hz <;> omega) B' bb
    rcases List.mem_cons.mp hv with e | hv
    · subst e
      exact q _ (some _) H' ⟨_, rfl, t2, (by show 1 ≤ 12; decide), itd_all rfl⟩ (fun z hz => by simp [itsI, uI] at hz <;> omega) B' bb
    rcases List.mem_cons.mp hv with e | hv
    · subst e
      exact q _ (some _) H' ⟨_, rfl, t3, (by show 4 ≤ 12; decide), itd_all rfl⟩ (fun z hz => by simp [itsI, uI] at hz <;> omega) B' bb
    rcases List.mem_cons.mp hv with e | hv
    · subst e
      exact q _ (some _) H' ⟨_, rfl, t4, (by show 1 ≤ 12; decide), itd_all rfl⟩ (fun z hz => by simp [itsI, uI] at hz <;> omega) B' bb
    rcases List.mem_cons.mp hv with e | hv
    · subst e
      exact q _ (some _) H' ⟨_, rfl, t5, (by show 1 ≤ 12; decide), itd_all rfl⟩ (fun z hz => by simp [itsI, uI] at hz <;> omega) B' bb
    rcases List.mem_cons.mp hv with e | hv
    · subst e
      exact q _ (some _) H' ⟨_, rfl, t6, (by show 2 ≤ 12; decide), itd_all rfl⟩ (fun z hz => by simp [itsI, uI] at hz <;> omega) B' bb
    rcases List.mem_cons.mp hv with e | hv
    · subst e
      exact q _ (some _) H' ⟨_, rfl, t7, (by show 2 ≤ 12; decide), itd_all rfl⟩ (fun z hz => by simp [itsI, uI] at hz <;> omega) B' bb
    rcases List.mem_cons.mp hv with e | hv
    · subst e
      exact q _ (some _) H' ⟨_, rfl, t8, (by show 2 ≤ 12; decide), itd_all rfl⟩ (fun z hz => by simp [itsI, uI] at hz <;> omega) B' bb
    rcases List.mem_cons.mp hv with e | hv
    · subst e
      exact q _ (some _) H' ⟨_, rfl, t10, (by show 1 ≤ 12; decide), fun x hx => by
        rw [List.mem_singleton.mp hx]; exact .inr ⟨_, _, rfl, t9, (by show 1 ≤ 4; decide), by simp [scal]⟩⟩ (fun z hz => by simp [itsI, uI] at hz <;> omega) B' bb
    have e := List.mem_singleton.mp hv
    subst e
    exact q _ (some _) H' ⟨_, rfl, t12, (by show 3 ≤ 12; decide), fun x hx => by
      rcases List.mem_cons.mp hx with e | hx
      · rw [e]; exact .inl rfl
      rcases List.mem_cons.mp hx with e | hx
      · rw [e]; exact .inr ⟨_, _, rfl, t11, (by show 1 ≤ 4; decide), by simp [scal]⟩
      rw [List.mem_singleton.mp hx]; exact .inl rfl⟩ (fun z hz => by simp [itsI, uI] at hz <;> omega) B' bb
end
end Lk

namespace Lk
open PySem L2 Lx
/-- an error that says its place: its class C and its __init__ -/
structure RaiseC (K : PySem.W.Frag) (mg : Str → Option Value) (x : Str) (C D fS fI : Addr) : Prop where
  er : ErrC K C D fS
  iC : PySem.W.findIn K (.ref C) "__init__" = some (some (.ref fI))
  tI : PySem.W.typeIn K (.ref fI) = some (.type "function")
  at_ : mg x = some (.ref C)
def xflds (fn : Str) (v : V) (tg : Str) : List (Str × V) := [(fn, v), ("tag", .str tg)]
/-- what is there behind the making of the error -/
theorem made_ext {H : Hp} {a dx C : Addr} {o1 o2 o3 o4 o5 : HO} (na : H a = none) (nd : H dx = none) :
    ∀ b u, H b = some u → (upd (del (upd (upd (upd (upd H a o1) dx o2) a o3) dx o4) a) dx o5) b = some u := fun b u e => by
  have hb : b ≠ a := ne_of_none e na
  have hd : b ≠ dx := ne_of_none e nd
  rw [upd_ne hd, del_ne hb, upd_ne hd, upd_ne hb, upd_ne hd, upd_ne hb]
  exact e
def spChkX (K : PySem.W.Frag) (C : Addr) : Sp := fun vs H _ E => ∃ v c o, vs = [v, .int c] ∧ OD K H v o ∧ plB o c = false ∧ ∀ (d : Addr) (H' : Hp), (∀ b u, H b = some u → H' b = some u) → H' d = some (.xd (xflds "given" v "InvalidPlace")) → E (.ref C) (some d) H'
section
variable {P : Program} {w : World} {K : PySem.W.Frag} {mg : Str → Option Value} {base : Heap}
theorem ok_chkX {f fN fI C D fS : Addr} {fd fdN fdI : FuncData} {k : Nat} (F : Fun K "check_place" "check_place" sChkPlace f fd) (R : RaiseC K mg "InvalidPlace" C D fS fI)
    (GI : FnOk P w K mg base CX0 (k + 2) fI fdI ["self", "given"] (spE1 K C "InvalidPlace" "given")) (bI : Binds K fdI ["self", "given"] [])
    (GN : FnOk P w K mg base CX0 (k + 2) fN fdN ["value", "count"] (spNumsO K)) (kN : PySem.W.keepIn K (.ref fN) = true) (bN : Binds K fdN ["value", "count"] []) (gN : mg "are_numbers" = some (.ref fN)) : FnOk P w K mg base (L2.CX P w) (k + 4) f fd ["place", "directions"] (spChkX K C) := by
  refine F.okX scChkPlace (fun vs H Q E h => ?_) (fun cdv A outer s H vs Q E hr h => ?_)
  · obtain ⟨v, c, o, rfl, _⟩ := h
    rfl
  · obtain ⟨v, c, o, rfl, hO, hp, q⟩ := h
    have hr2 : Room (k + 2) _ := hr.mono (by omega)
    refine ⟨_, pss_one (ps_if (pt_not (pt_val (pe_call GN hr2 (by rfl) gN kN bN .nil pass0 (pa_cons (pv 0) (pa_cons (pv 1) pa_nil)))))
      (pss_one (ps_raise rfl (takes_of rfl rfl rfl rfl) (pmk_oex R.er.ox R.iC R.tI GI hr bI .nil pass0 (by rfl) R.at_ (pa_cons (pv 0) pa_nil)))) pss_nil), ?_⟩
    refine ⟨_, rfl, _, rfl, v, c, o, rfl, hO, fun H1 sm => ⟨_, rfl, ?_⟩⟩
    rw [hp]
    refine iteT ⟨_, rfl, (by show 1 ≤ 1000; decide), fun a na => ⟨a, v, rfl, upd_same, fun dx nd ne => ⟨rfl, dx, _, ?_, upd_same, ?_, ?_⟩⟩⟩
    · rw [upd_ne (Ne.symm ne), upd_same]
    · rw [← nd, upd_ne ne]
    · have nd' : H1 dx = none := by rw [← nd, upd_ne ne]
      exact q dx _ (fun b u e => made_ext (C := C) na nd' b u (sm b u e)) upd_same
end
end Lk

namespace Lk
open PySem L2
/-! ### readings told by what comes out -/
section
variable {K : PySem.W.Frag} {H : Hp} {Q : VK}
theorem cat_reads {a b : Addr} {xs ys : List V} (ha : SqT K H a xs) (hb : SqT K H b ys) (hl : xs.length + ys.length ≤ 1000) (q : ∀ H' p, Same H H' → SqT K H' p (xs ++ ys) → Q (.ref p) H') : rCatA K (.ref a) (.ref b) H Q := by
  refine ⟨a, b, xs, ys, rfl, rfl, ha, hb, Nat.le_of_lt (small1000 hl), fun e => ?_, fun _ e => ?_, fun _ _ p np => ?_⟩
  · refine q H b (Same.refl _) ?_
    rw [e]
    exact hb
  · refine q H a (Same.refl _) ?_
    rw [e, List.append_nil]
    exact ha
  · exact q _ p (same_new np) (SqT.of upd_same)
theorem rep_reads {l : Addr} {k : Int} {a : V} (hl : SqT K H l [a]) (k0 : 0 ≤ k) (k1 : k ≤ 1000) (q : ∀ H' p, Same H H' → SqT K H' p (List.replicate k.toNat a) → Q (.ref p) H') : rRepO K (.ref l) (.int k) H Q := by
  refine ⟨l, k, a, rfl, rfl, hl, k0, k1, fun e => ?_, fun p np => ?_⟩
  · refine q H l (Same.refl _) ?_
    rw [e]
    exact hl
  · exact q _ p (same_new np) (SqT.of upd_same)
theorem cut_reads {a : Addr} {xs : List V} {lo hi : Option Int} (ha : SqT K H a xs) (q : ∀ H' p, Same H H' → SqT K H' p (cutV xs lo hi) → Q (.ref p) H') : rSlA K (.ref a) lo hi H Q := by
  refine ⟨a, xs, rfl, ha, fun e => ?_, fun _ p np => ?_⟩
  · refine q H a (Same.refl _) ?_
    have e2 : cutV xs lo hi = xs := by
      unfold cutV
      rw [e.1, e.2]
      simp
    rw [e2]
    exact ha
  · exact q _ p (same_new np) (SqT.of upd_same)
end
/-! ### mathematics -/
def restsR : List Int → Int → List Int
  | [], _ => []
  | s :: r, n => (n % s) :: restsR r (n / s)
def quoR : List Int → Int → Int
  | [], n => n
  | s :: r, n => quoR r (n / s)
theorem restsR_app (s : Int) : ∀ (l : List Int) (n : Int), restsR (l ++ [s]) n = restsR l n ++ [quoR l n % s]
  | [], n => rfl
  | x :: r, n => by
    show (n % x) :: restsR (r ++ [s]) (n / x) = (n % x) :: (restsR r (n / x) ++ [quoR r (n / x) % s])
    rw [restsR_app s r]
theorem quoR_app (s : Int) : ∀ (l : List Int) (n : Int), quoR (l ++ [s]) n = quoR l n / s
  | [], n => rfl
  | x :: r, n => quoR_app s r (n / x)
theorem restsR_len : ∀ (l : List Int) (n : Int), (restsR l n).length = l.length
  | [], _ => rfl
  | x :: r, n => by simp [restsR, restsR_len r]
def pAt (ds : List Int) (c : Int) : List Int := (restsR ds.reverse c).reverse
theorem pAt_len (ds : List Int) (c : Int) : (pAt ds c).length = ds.length := by simp [pAt, restsR_len]
def idRow (d i : Nat) : List Int := List.replicate i 0 ++ [1] ++ List.replicate (d - i - 1) 0
def idM (d : Nat) : List (List Int) := (List.range d).map (idRow d)
def colM (m : List (List Int)) (j : Nat) : List Int := m.map fun r => r.getD j 0
def rowM (row : List Int) (m : List (List Int)) : List Int := (List.range m.length).map fun j => dotL row (colM m j)
def B64 (r : List Int) : Prop := ∀ z ∈ r, -(2 ^ 64) < z ∧ z < 2 ^ 64
/-! ### promises -/
def spPlaceAt (K : PySem.W.Frag) : Sp := fun vs H Q _ => ∃ (a : Addr) (ds : List Int) (c : Int), vs = [.ref a, .int c] ∧ SqT K H a (ds.map V.int) ∧ Divs ds ∧ ds.length ≤ 3 ∧ ∀ H' p, Same H H' → SqT K H' p ((pAt ds c).map V.int) → Q (.ref p) H'
def spIdent (K : PySem.W.Frag) : Sp := fun vs H Q _ => ∃ d : Nat, vs = [.int d] ∧ d ≤ 3 ∧ ∀ H' p ws, Same H H' → SqT K H' p ws → HdsAt K H' (idM d) ws → Q (.ref p) H'
def spTimes (K : PySem.W.Frag) : Sp := fun vs H Q _ => ∃ (m c : Addr) (mat : List (List Int)) (ws : List V) (x : List Int), vs = [.ref m, .ref c] ∧ SqT K H m ws ∧ HdsAt K H mat ws ∧ SqT K H c (x.map V.int) ∧ (∀ r ∈ mat, r.length = x.length ∧ B64 r) ∧ x.length ≤ 3 ∧ mat.length ≤ 3 ∧
  ∀ H' p, Same H H' → SqT K H' p ((mat.map fun r => dotL r x).map V.int) → Q (.ref p) H'
def spColumn (K : PySem.W.Frag) : Sp := fun vs H Q _ => ∃ (m : Addr) (j : Nat) (mat : List (List Int)) (ws : List V), vs = [.ref m, .int j] ∧ SqT K H m ws ∧ HdsAt K H mat ws ∧ (∀ r ∈ mat, j < r.length) ∧ mat.length ≤ 3 ∧
  ∀ H' p, Same H H' → SqT K H' p ((colM mat j).map V.int) → Q (.ref p) H'
def spRowTimes (K : PySem.W.Frag) : Sp := fun vs H Q _ => ∃ (a m : Addr) (row : List Int) (mat : List (List Int)) (ws : List V), vs = [.ref a, .ref m] ∧ SqT K H a (row.map V.int) ∧ SqT K H m ws ∧ HdsAt K H mat ws ∧ (∀ r ∈ mat, r.length = mat.length) ∧ mat.length ≤ 3 ∧ row.length = mat.length ∧ B64 row ∧
  ∀ H' p, Same H H' → SqT K H' p ((rowM row mat).map V.int) → Q (.ref p) H'
section
variable {P : Program} {w : World} {K : PySem.W.Frag} {mg : Str → Option Value} {base : Heap}
theorem ok_added {f : Addr} {fd : FuncData} {k : Nat} (F : Fun K "added" "added" sAdded f fd) (mt : mg "tuple" = none) (mz : mg "zip" = none) : FnOk P w K mg base CX0 (k + 1) f fd ["one", "other"] (spPlus K) := by
  refine F.ok scAdded (fun vs H Q E h => ?_) (fun cdv A outer s H vs Q E hr h => ?_)
  · obtain ⟨a, b, ns, ms, rfl, _⟩ := h
    rfl
  · obtain ⟨a, b, ns, ms, rfl, hA, hB, hl, h3, q⟩ := h
    refine ⟨_, pss_one (ps_ret (pe_callTy call_tuple_of (by rfl) mt (by decide +kernel) (pa_cons (pe_lc (own := [("first", 2), ("second", 3)]) (g := gTup K 2 (gCons (gName 2) (gCons (gName 3) gNil))) (by rfl) scAdded.nd (RZ.pi_zipA (by rfl) mz (pa_cons (pv 0) (pa_cons (pv 1) pa_nil)))
      (blkOk_by (own := [("first", 2), ("second", 3)]) (N := ["one", "other", "first", "second"]) (sc := defScope sAdded) (by decide +kernel))
      (fun _ _ _ _ _ => pg_tup rfl (pgs_cons (pg_name (i := 2) scAdded.nd rfl (.inl rfl)) (pgs_cons (pg_name (i := 3) scAdded.nd rfl (.inl rfl)) pgs_nil))) (fun _ _ _ _ _ => pts_nil)
      (fun _ _ _ _ _ => pe_op op_add (pv 2) (pv 3))) pa_nil))), ?_⟩
    have hle : (ns.map V.int).length = (ms.map V.int).length := by rw [List.length_map, List.length_map, hl]
    refine ⟨_, rfl, _, rfl, a, b, ns.map V.int, ms.map V.int, rfl, .inr ⟨hA, hB, fun D nD => ?_⟩⟩
    refine lc_it (walk_zipT hle) (fun i H2 => Same H H2 ∧ H2 D = some (.lst (((List.zipWith (· + ·) ns ms).take i).map V.int))) ⟨same_new nD, upd_same⟩ (fun i H2 _ ⟨sm, _⟩ => ⟨Same.sqT sm hA, Same.sqT sm hB⟩) ?_ ?_
    · rintro i x H2 H3 hi ⟨sm, hD⟩ ⟨T, x1, x2, rfl, nT, rfl, f1, f2⟩
      obtain ⟨u, hu, rfl⟩ := map_get f1
      obtain ⟨v, hv, rfl⟩ := map_get f2
      have nDT : D ≠ T := ne_of_none hD nT
      have gz : (List.zipWith (· + ·) ns ms)[i]? = some (u + v) := by
        rw [List.getElem?_zipWith, hu, hv]
      refine ⟨T, _, rfl, SqT.of upd_same, rfl, _, _, rfl, _, _, rfl, rfl, rfl, ?_⟩
      refine ⟨_, rfl, _, rfl, _, _, rfl, rfl, _, (by rw [upd_ne nDT]; exact hD), ?_, ?_, ?_⟩
      · rw [List.length_map]
        refine Nat.lt_of_le_of_lt (List.length_take_le _ _) (small1000 ?_)
        rw [List.length_map] at hi
        omega
      · intro c o e
        have e2 := sm c o e
        rw [upd_ne (ne_of_none e nD), upd_ne (ne_of_none e2 nT)]
        exact e2
      · rw [upd_same, take_more gz, List.map_append]
        rfl
    · rintro H2 ⟨sm, hD⟩
      have e : (List.zipWith (· + ·) ns ms).take (ns.map V.int).length = List.zipWith (· + ·) ns ms := List.take_of_length_le (by
        rw [List.length_zipWith, List.length_map]
        omega)
      rw [e] at hD
      refine ⟨D, _, rfl, .inl ⟨SqL.of hD, fun p np => ?_⟩⟩
      exact q _ p (sm.trans (same_new np)) (sm.free np) upd_same
theorem ok_placeat {f : Addr} {fd : FuncData} {k : Nat} (F : Fun K "place_at" "place_at" sPlaceAt f fd) (mt : mg "tuple" = none) : FnOk P w K mg base CX0 (k + 1) f fd ["sides", "number"] (spPlaceAt K) := by
  refine F.ok scPlaceAt (fun vs H Q E h => ?_) (fun cdv A outer s H vs Q E hr h => ?_)
  · obtain ⟨a, ds, c, rfl, _⟩ := h
    rfl
  · obtain ⟨a, ds, c, rfl, hA, hD, h3, q⟩ := h
    refine ⟨_, pss_cons (ps_set (i := 2) scPlaceAt.nd rfl (.inl rfl) (pe_lst pa_nil))
      (pss_cons (ps_for PassesOwn.never rfl (pi_tup (pe_revT (pv 0))) (pg_name (i := 3) scPlaceAt.nd rfl (.inl rfl))
        (pss_cons (ps_expr (pe_bm PySem.F.plainAttrs_list PySem.F.slot_list_append PySem.F.type_list_append mt_append (pv 2) (pa_cons (pe_op op_mod (pv 1) (pv 3)) pa_nil)))
        (pss_one (ps_set (i := 1) scPlaceAt.nd rfl (.inl rfl) (pe_op op_fdiv (pv 1) (pv 3))))))
      (pss_one (ps_ret (pe_callTy call_tuple_of (by rfl) mt (by decide +kernel) (pa_cons (pe_revL (pv 2)) pa_nil))))), ?_⟩
    refine ⟨Nat.zero_le _, fun o no => ?_⟩
    have s0 := same_new (o := .lst []) no
    refine ⟨_, rfl, a, _, rfl, Same.sqT s0 hA, fun r nr => ?_⟩
    have s1 := s0.trans (same_new (o := .tup (ds.map V.int).reverse) nr)
    have noR : o ≠ r := ne_of_none upd_same nr
    have er : (ds.map V.int).reverse = ds.reverse.map V.int := by rw [List.map_reverse]
    have hR : SqT K (upd (upd H o (.lst [])) r (.tup (ds.map V.int).reverse)) r (ds.reverse.map V.int) := by
      rw [← er]
      exact SqT.of upd_same
    refine ⟨r, rfl, ⟨_, hR⟩, for_tup (K := K) (a := r) (xs := ds.reverse.map V.int) (fun i σ H2 => ∃ v3 : Option V, σ = [some (.ref a), some (.int (quoR (ds.reverse.take i) c)), some (.ref o), v3] ∧ Same H H2 ∧ SqT K H2 r (ds.reverse.map V.int) ∧ H2 o = some (.lst ((restsR (ds.reverse.take i) c).map V.int)))
      ⟨none, rfl, s1, hR, by rw [upd_ne noR]; exact upd_same⟩ (fun i σ H2 _ ⟨_, _, _, h, _⟩ => h) ?_ ?_⟩
    · rintro i y σ H2 hi ⟨v3, rfl, sm, hR2, ho⟩
      obtain ⟨u, hu, rfl⟩ := map_get hi
      have hm : u ∈ ds := List.mem_reverse.mp (List.mem_of_getElem? hu)
      have u1 := hD.one u hm
      have hi3 : i < ds.reverse.length := (List.getElem?_eq_some_iff.mp hu).1
      rw [List.length_reverse] at hi3
      have u12 : u ≤ 12 := by
        obtain ⟨j, hj⟩ := List.mem_iff_getElem?.mp hm
        have p1 := hD.part (j + 1)
        have p2 := hD.part j
        rw [take_more hj, prodL_app] at p1
        have : 1 * u ≤ prodL (ds.take j) * u := Int.mul_le_mul_of_nonneg_right p2.1 (by omega)
        omega
      refine ⟨_, rfl, .inl ⟨rfl, _, SqL.of ho⟩, _, rfl, _, rfl, _, _, rfl, rfl, (by show (0 : Int) < u; omega), o, _, _, rfl, rfl, ho, ?_, ?_⟩
      · rw [List.length_map, restsR_len]
        exact small1000 (Nat.le_trans (List.length_take_le _ _) (by omega))
      refine ⟨_, rfl, _, rfl, _, u, rfl, rfl, ⟨by omega, by omega⟩, some (.int u), ?_, Same.upd_out sm no, ?_, ?_⟩
      · rw [take_more hu, quoR_app]
        rfl
      · exact tups_lst ho _ _ hR2
      · rw [upd_same, take_more hu, restsR_app, List.map_append]
        rfl
    · rintro σ H2 ⟨v3, rfl, sm, hR2, ho⟩
      rw [List.length_map, List.take_length] at ho
      refine ⟨_, rfl, o, _, rfl, SqL.of ho, fun l nl => ?_⟩
      have s3 := sm.trans (same_new (o := .lst ((restsR ds.reverse c).map V.int).reverse) nl)
      refine ⟨l, _, rfl, .inl ⟨SqL.of upd_same, fun p np => ?_⟩⟩
      refine q _ p (s3.trans (same_new np)) ?_
      unfold pAt
      rw [List.map_reverse]
      exact SqT.of upd_same
end
end Lk

namespace Lk
open PySem L2
def mulM (m : List (List Int)) (x : List Int) : List Int := m.map fun r => dotL r x
def srcM (ds : List Int) (mat : List (List Int)) (x nds : List Int) (n : Nat) : List Int := (List.range n).map fun (j : Nat) => cls ds (plus (mulM mat (pAt nds (j : Int))) x)
def movC (srcs cs : List Int) : List Int := (rng0 srcs.length).filter fun j => decide (srcs.getD j.toNat 0 ∈ cs)
mutual
def mvT (srcs : List Int) (mat : List (List Int)) (e : Tr) : Tr → Tr
  | .pl => e
  | .key row hs t => .key (rowM row mat) (srcs.map fun c => hs.getD c.toNat 0) (mvT srcs mat e t)
  | .fork gs => .fork (mvG srcs mat e gs)
def mvG (srcs : List Int) (mat : List (List Int)) (e : Tr) : Gs → Gs
  | .nil => .nil
  | .cons cs t r => .cons (movC srcs cs) (mvT srcs mat e t) (mvG srcs mat e r)
end
theorem Gs.trees_snoc (cs : List Int) (t : Tr) : ∀ g : Gs, (g.snoc cs t).trees = g.trees ++ [t]
  | .nil => rfl
  | .cons c u r => by simp [Gs.snoc, Gs.trees, Gs.trees_snoc cs t r]
theorem Gs.ext_ : ∀ {g h : Gs}, g.heads = h.heads → g.trees = h.trees → g = h
  | .nil, .nil, _, _ => rfl
  | .nil, .cons _ _ _, h, _ => by cases h
  | .cons _ _ _, .nil, h, _ => by cases h
  | .cons c t r, .cons c' t' r', h1, h2 => by
    simp only [Gs.heads, List.cons.injEq] at h1
    simp only [Gs.trees, List.cons.injEq] at h2
    rw [h1.1, h2.1, Gs.ext_ h1.2 h2.2]
theorem mvG_heads (srcs : List Int) (mat : List (List Int)) (e : Tr) : ∀ g : Gs, (mvG srcs mat e g).heads = g.heads.map (movC srcs)
  | .nil => by simp [mvG, Gs.heads]
  | .cons c t r => by simp [mvG, Gs.heads, mvG_heads srcs mat e r]
theorem mvG_trees (srcs : List Int) (mat : List (List Int)) (e : Tr) : ∀ g : Gs, (mvG srcs mat e g).trees = g.trees.map (mvT srcs mat e)
  | .nil => by simp [mvG, Gs.trees]
  | .cons c t r => by simp [mvG, Gs.trees, mvG_trees srcs mat e r]
/-- a square matrix of d directions -/
structure Mat (mat : List (List Int)) (d : Nat) : Prop where
  ln : mat.length = d
  rw_ : ∀ r ∈ mat, r.length = d ∧ B64 r
def spSources (K : PySem.W.Frag) : Sp := fun vs H Q _ => ∃ (a m c e : Addr) (ds : List Int) (mat : List (List Int)) (ws : List V) (x nds : List Int) (d n : Nat), vs = [.ref a, .ref m, .ref c, .ref e] ∧ SqT K H a (ds.map V.int) ∧ SqT K H m ws ∧ HdsAt K H mat ws ∧ SqT K H c (x.map V.int) ∧ SqT K H e (nds.map V.int) ∧
  Divs ds ∧ Divs nds ∧ ds.length = d ∧ nds.length = d ∧ Mat mat d ∧ x.length = d ∧ d ≤ 3 ∧ prodL nds = (n : Int) ∧ ∀ H' p, Same H H' → H' p = some (.lst ((srcM ds mat x nds n).map V.int)) → Q (.ref p) H'
def spMovedC (K : PySem.W.Frag) : Sp := fun vs H Q _ => ∃ (a l : Addr) (cs srcs : List Int), vs = [.ref a, .ref l] ∧ SqT K H a (cs.map V.int) ∧ SqL K H l (srcs.map V.int) ∧ srcs.length ≤ 1000 ∧ ∀ H' p, Same H H' → SqT K H' p ((movC srcs cs).map V.int) → Q (.ref p) H'
def spMoved (K : PySem.W.Frag) (m : Nat) : Sp := fun vs H Q _ => ∃ (v ev : V) (mA sA : Addr) (t e : Tr) (mat : List (List Int)) (ws : List V) (srcs : List Int) (d n : Nat), vs = [v, .ref mA, .ref sA, ev] ∧ TrAt K H t v ∧ SqT K H mA ws ∧ HdsAt K H mat ws ∧ SqL K H sA (srcs.map V.int) ∧ TrAt K H e ev ∧
  t.wf d n ∧ t.dep ≤ m ∧ Mat mat d ∧ d ≤ 3 ∧ n ≤ 12 ∧ (∀ c ∈ srcs, 0 ≤ c ∧ c < n) ∧ srcs.length ≤ 1000 ∧ ∀ H' u, Same H H' → TrAt K H' (mvT srcs mat e t) u → Q u H'
section
variable {P : Program} {w : World} {K : PySem.W.Frag} {mg : Str → Option Value} {base : Heap}
end
end Lk

namespace Lk
open PySem L2
/-! ### the identity -/
theorem small_d {d : Nat} (h1 : 1 ≤ d) (h3 : d ≤ 3) : d = 1 ∨ d = 2 ∨ d = 3 := by omega
theorem idM1 : idM 1 = [[1]] := by decide
theorem idM2 : idM 2 = [[1, 0], [0, 1]] := by decide
theorem idM3 : idM 3 = [[1, 0, 0], [0, 1, 0], [0, 0, 1]] := by decide
theorem mul_id {d : Nat} (h1 : 1 ≤ d) (h3 : d ≤ 3) {x : List Int} (h : x.length = d) : mulM (idM d) x = x := by
  rcases small_d h1 h3 with rfl | rfl | rfl
  · match x, h with
    | [a], _ => simp [idM1, mulM, dotL]
  · match x, h with
    | [a, b], _ => simp [idM2, mulM, dotL]
  · match x, h with
    | [a, b, c], _ => simp [idM3, mulM, dotL]
theorem row_id {d : Nat} (h1 : 1 ≤ d) (h3 : d ≤ 3) {x : List Int} (h : x.length = d) : rowM x (idM d) = x := by
  rcases small_d h1 h3 with rfl | rfl | rfl
  · match x, h with
    | [a], _ => simp [idM1, rowM, colM, dotL, List.range, List.range.loop]
  · match x, h with
    | [a, b], _ => simp [idM2, rowM, colM, dotL, List.range, List.range.loop]
  · match x, h with
    | [a, b, c], _ => simp [idM3, rowM, colM, dotL, List.range, List.range.loop]
theorem idM_mat {d : Nat} (h1 : 1 ≤ d) (h3 : d ≤ 3) : Mat (idM d) d := by
  rcases small_d h1 h3 with rfl | rfl | rfl
  · refine ⟨rfl, fun r hr => ?_⟩
    rw [idM1] at hr
    simp at hr
    subst hr
    exact ⟨rfl, by intro z hz; simp at hz; omega⟩
  · refine ⟨rfl, fun r hr => ?_⟩
    rw [idM2] at hr
    simp at hr
    rcases hr with rfl | rfl <;> exact ⟨rfl, by intro z hz; simp at hz; omega⟩
  · refine ⟨rfl, fun r hr => ?_⟩
    rw [idM3] at hr
    simp at hr
    rcases hr with rfl | rfl | rfl <;> exact ⟨rfl, by intro z hz; simp at hz; omega⟩
/-! ### classes and their rests -/
def clsR : List (Int × Int) → Int
  | [] => 0
  | (d, s) :: r => clsR r * d + s % d
theorem clsF_rev : ∀ l : List (Int × Int), clsF l.reverse 0 = clsR l
  | [] => rfl
  | (d, s) :: r => by
    have ih := clsF_rev r
    unfold clsF at ih ⊢
    rw [List.reverse_cons, List.foldl_append, ih]
    rfl
theorem cls_R (ds z : List Int) : cls ds z = clsR (ds.zip z).reverse := by
  rw [← clsF_rev, List.reverse_reverse]
  rfl
theorem rests_cls : ∀ l : List (Int × Int), (∀ q ∈ l, 1 ≤ q.1) → restsR (l.map (·.1)) (clsR l) = l.map fun q => q.2 % q.1
  | [], _ => rfl
  | (d, s) :: r, h => by
    have hd : 1 ≤ d := h (d, s) List.mem_cons_self
    have ih := rests_cls r fun q hq => h q (List.mem_cons_of_mem _ hq)
    have e1 : (clsR r * d + s % d) % d = s % d := by
      rw [Int.add_comm, Int.add_mul_emod_self_right, Int.emod_emod_of_dvd _ (Int.dvd_refl d)]
    have e2 : (clsR r * d + s % d) / d = clsR r := by
      rw [Int.add_comm, Int.add_mul_ediv_right _ _ (by omega), Int.ediv_eq_zero_of_lt (Int.emod_nonneg _ (by omega)) (Int.emod_lt_of_pos _ (by omega)), Int.zero_add]
    show ((clsR r * d + s % d) % d) :: restsR (r.map (·.1)) ((clsR r * d + s % d) / d) = (s % d) :: r.map fun q => q.2 % q.1
    rw [e1, e2, ih]
def rst (ds z : List Int) : List Int := (ds.zip z).map fun q => q.2 % q.1
theorem pAt_cls {ds z : List Int} (hl : ds.length = z.length) (h : ∀ d ∈ ds, 1 ≤ d) : pAt ds (cls ds z) = rst ds z := by
  have e : ds.reverse = (ds.zip z).reverse.map (·.1) := by
    rw [List.map_reverse, zip_fst _ _ hl]
  unfold pAt
  rw [e, cls_R, rests_cls _ (fun q hq => h _ (by
    have : q.1 ∈ (ds.zip z).map (·.1) := List.mem_map.mpr ⟨q, List.mem_reverse.mp hq, rfl⟩
    rw [zip_fst _ _ hl] at this
    exact this)), List.map_reverse, List.reverse_reverse]
  rfl
theorem cls_rst : ∀ {ds z p : List Int}, ds.length = z.length → ds.length = p.length → ∀ n, clsF (ds.zip (plus (rst ds z) p)) n = clsF (ds.zip (plus z p)) n
  | [], _, _, _, _, n => by simp
  | d :: ds, [], _, h, _, n => by cases h
  | d :: ds, s :: z, [], _, h, n => by cases h
  | d :: ds, s :: z, a :: p, h1, h2, n => by
    show clsF (ds.zip (plus (rst ds z) p)) (n * d + (s % d + a) % d) = clsF (ds.zip (plus z p)) (n * d + (s + a) % d)
    rw [cls_rst (by simpa using h1) (by simpa using h2), Int.emod_add_emod]
theorem src_cls {ds z p : List Int} (D : Divs ds) (hz : ds.length = z.length) (hp : ds.length = p.length) : cls ds (plus (pAt ds (cls ds z)) p) = cls ds (plus z p) := by
  rw [pAt_cls hz D.one]
  exact cls_rst hz hp 0
theorem cls_back : ∀ (rs : List Int) (c : Int), (∀ d ∈ rs, 1 ≤ d) → 0 ≤ c → c < prodL rs → clsR (rs.zip (restsR rs c)) = c
  | [], c, _, h0, h1 => by
    have : c < 1 := h1
    show (0 : Int) = c
    omega
  | d :: r, c, h, h0, h1 => by
    have hd : 1 ≤ d := h d List.mem_cons_self
    have h1' : c < d * prodL r := h1
    have q0 : 0 ≤ c / d := Int.ediv_nonneg h0 (by omega)
    have q1 : c / d < prodL r := Int.ediv_lt_of_lt_mul (by omega) (by rw [Int.mul_comm]; exact h1')
    have ih := cls_back r (c / d) (fun x hx => h x (List.mem_cons_of_mem _ hx)) q0 q1
    show clsR (r.zip (restsR r (c / d))) * d + (c % d) % d = c
    rw [ih, Int.emod_emod_of_dvd _ (Int.dvd_refl d), Int.mul_comm]
    exact Int.mul_ediv_add_emod c d
theorem cls_pAt {ds : List Int} {c : Int} (D : Divs ds) (h0 : 0 ≤ c) (h1 : c < prodL ds) : cls ds (pAt ds c) = c := by
  have e : (ds.zip (pAt ds c)).reverse = ds.reverse.zip (restsR ds.reverse c) := by
    unfold pAt
    have := List.reverse_zipWith (f := Prod.mk) (l := ds) (l' := (restsR ds.reverse c).reverse) (by simp [restsR_len])
    rw [List.reverse_reverse] at this
    exact this
  rw [cls_R, e]
  refine cls_back _ c (fun d hd => D.one d (List.mem_reverse.mp hd)) h0 ?_
  rw [prodL_perm (List.reverse_perm ds)]
  exact h1
theorem sub_plus : ∀ {a p : List Int}, a.length = p.length → plus (List.zipWith (· - ·) a p) p = a
  | [], [], _ => rfl
  | x :: a, y :: p, h => by
    show (x - y + y) :: plus (List.zipWith (· - ·) a p) p = x :: a
    rw [sub_plus (by simpa using h), Int.sub_add_cancel]
  | [], _ :: _, h => by cases h
  | _ :: _, [], h => by cases h
theorem cls_in {ds z : List Int} {n : Nat} (D : Divs ds) (hn : prodL ds = (n : Int)) (hz : ds.length = z.length) : 0 ≤ cls ds z ∧ cls ds z < n := by
  have b := cls_bound hz D.one (ds.zip z).length
  rw [List.take_length, List.take_of_length_le (by rw [List.length_zip]; omega), hn] at b
  exact b
/-! ### what the sources must be -/
structure Srcs (srcs : List Int) (n : Nat) : Prop where
  ran : ∀ c ∈ srcs, 0 ≤ c ∧ c < n
  all_ : ∀ c : Int, 0 ≤ c → c < n → ∃ j : Nat, j < srcs.length ∧ srcs.getD j 0 = c
theorem srcM_get {ds p : List Int} {mat : List (List Int)} {nds : List Int} {n j : Nat} (h : j < n) : (srcM ds mat p nds n).getD j 0 = cls ds (plus (mulM mat (pAt nds (j : Int))) p) := by
  unfold srcM
  rw [List.getD_eq_getElem?_getD, List.getElem?_map, List.getElem?_range h]
  rfl
theorem srcM_len {ds p : List Int} {mat : List (List Int)} {nds : List Int} {n : Nat} : (srcM ds mat p nds n).length = n := by
  unfold srcM
  rw [List.length_map, List.length_range]
theorem shift_src {ds p z : List Int} {n : Nat} (D : Divs ds) (hn : prodL ds = (n : Int)) (h1 : 1 ≤ ds.length) (h3 : ds.length ≤ 3) (hz : ds.length = z.length) (hp : ds.length = p.length) :
    (srcM ds (idM ds.length) p ds n).getD (cls ds z).toNat 0 = cls ds (plus z p) := by
  have b := cls_in D hn hz
  rw [srcM_get (by omega), show (((cls ds z).toNat : Nat) : Int) = cls ds z by omega, mul_id h1 h3 (by rw [pAt_len])]
  exact src_cls D hz hp
theorem shift_srcs {ds p : List Int} {n : Nat} (D : Divs ds) (hn : prodL ds = (n : Int)) (h1 : 1 ≤ ds.length) (h3 : ds.length ≤ 3) (hp : ds.length = p.length) : Srcs (srcM ds (idM ds.length) p ds n) n := by
  constructor
  · intro c hc
    unfold srcM at hc
    obtain ⟨j, hj, rfl⟩ := List.mem_map.mp hc
    refine cls_in D hn ?_
    rw [mul_id h1 h3 (by rw [pAt_len]), plus_len (by rw [pAt_len]; exact hp)]
    exact hp
  · intro c c0 c1
    have la : (pAt ds c).length = p.length := by rw [pAt_len]; exact hp
    have hz : ds.length = (List.zipWith (· - ·) (pAt ds c) p).length := by
      rw [List.length_zipWith, la]
      omega
    have b := cls_in (n := n) D hn hz
    refine ⟨(cls ds (List.zipWith (· - ·) (pAt ds c) p)).toNat, by rw [srcM_len]; omega, ?_⟩
    rw [shift_src D hn h1 h3 hz hp, sub_plus la]
    exact cls_pAt D c0 (by rw [hn]; exact c1)
/-! ### the moved tree is one -/
theorem filter_two {α : Type} {p q : α → Bool} (h : ∀ x, ¬ (p x = true ∧ q x = true)) : ∀ l : List α, (l.filter p ++ l.filter q).Perm (l.filter fun x => p x || q x)
  | [] => by simp
  | x :: r => by
    have ih := filter_two h r
    have hx := h x
    cases hp : p x with
    | true =>
      have hq : q x = false := by
        cases z : q x with
        | false => rfl
        | true => exact absurd ⟨hp, z⟩ hx
      simp only [List.filter_cons, hp, hq, Bool.or_false, if_true, Bool.false_eq_true, if_false, List.cons_append]
      exact List.Perm.cons x ih
    | false =>
      cases hq : q x with
      | true =>
        simp only [List.filter_cons, hp, hq, Bool.or_true, if_true, Bool.false_eq_true, if_false]
        exact List.perm_middle.trans (List.Perm.cons x ih)
      | false =>
        simp only [List.filter_cons, hp, hq, Bool.or_self, Bool.false_eq_true, if_false]
        exact ih
theorem parts_perm {f : Int → Int} (l : List Int) : ∀ hs : List (List Int), hs.flatten.Nodup → ((hs.map fun cs => l.filter fun j => decide (f j ∈ cs)).flatten).Perm (l.filter fun j => decide (f j ∈ hs.flatten))
  | [], _ => by simp
  | cs :: r, nd => by
    rw [List.flatten_cons, List.nodup_append] at nd
    have ih := parts_perm (f := f) l r nd.2.1
    rw [List.map_cons, List.flatten_cons]
    refine (List.Perm.append_left _ ih).trans ?_
    refine (filter_two (fun x hx => ?_) l).trans ?_
    · exact nd.2.2 _ (of_decide_eq_true hx.1) _ (of_decide_eq_true hx.2) rfl
    · have e : (fun x => decide (f x ∈ cs) || decide (f x ∈ r.flatten)) = fun j => decide (f j ∈ (cs :: r).flatten) := by
        funext x
        rw [List.flatten_cons]
        by_cases a : f x ∈ cs <;> by_cases b : f x ∈ r.flatten <;> simp [a, b]
      rw [e]
theorem rng0_nodup (n : Nat) : (rng0 n).Nodup := (rng0_lt n).imp fun h => by omega
theorem mem_rng {c : Int} {n : Nat} : c ∈ rng0 n ↔ 0 ≤ c ∧ c < n := by
  constructor
  · intro h
    unfold rng0 at h
    obtain ⟨i, hi, rfl⟩ := List.mem_map.mp h
    have := List.mem_range.mp hi
    omega
  · exact fun h => mem_rng0 h.1 h.2
theorem mem_movC {srcs cs : List Int} {c : Int} (h0 : 0 ≤ c) (h1 : c < srcs.length) : c ∈ movC srcs cs ↔ srcs.getD c.toNat 0 ∈ cs := by
  unfold movC
  rw [List.mem_filter]
  constructor
  · exact fun h => of_decide_eq_true h.2
  · exact fun h => ⟨mem_rng0 h0 h1, decide_eq_true h⟩
theorem Srcs.at {srcs : List Int} {n : Nat} (S : Srcs srcs n) {j : Nat} (h : j < srcs.length) : 0 ≤ srcs.getD j 0 ∧ srcs.getD j 0 < n := by
  refine S.ran _ ?_
  rw [List.getD_eq_getElem?_getD, List.getElem?_eq_getElem h]
  exact List.getElem_mem h
mutual
theorem mvT_size (srcs : List Int) (mat : List (List Int)) : ∀ t : Tr, (mvT srcs mat .pl t).size = t.size
  | .pl => by simp [mvT]
  | .key _ _ t => by simp [mvT, Tr.size, mvT_size srcs mat t]
  | .fork gs => by simp [mvT, Tr.size, mvG_size srcs mat gs]
theorem mvG_size (srcs : List Int) (mat : List (List Int)) : ∀ g : Gs, (mvG srcs mat .pl g).size = g.size
  | .nil => by simp [mvG]
  | .cons _ t r => by simp [mvG, Gs.size, mvT_size srcs mat t, mvG_size srcs mat r]
end
mutual
theorem mvT_dep (srcs : List Int) (mat : List (List Int)) : ∀ t : Tr, (mvT srcs mat .pl t).dep = t.dep
  | .pl => by simp [mvT]
  | .key _ _ t => by simp [mvT, Tr.dep, mvT_dep srcs mat t]
  | .fork gs => by simp [mvT, Tr.dep, mvG_dep srcs mat gs]
theorem mvG_dep (srcs : List Int) (mat : List (List Int)) : ∀ g : Gs, (mvG srcs mat .pl g).dep = g.dep
  | .nil => by simp [mvG]
  | .cons _ t r => by simp [mvG, Gs.dep, mvT_dep srcs mat t, mvG_dep srcs mat r]
end
mutual
theorem mvT_wf {srcs : List Int} {d n : Nat} (S : Srcs srcs n) (h1 : 1 ≤ d) (h3 : d ≤ 3) : ∀ t : Tr, t.wf d n → (mvT srcs (idM d) .pl t).wf d srcs.length
  | .pl, _ => by simp [mvT, Tr.wf]
  | .key row hs t, w => by
    simp only [Tr.wf] at w
    simp only [mvT, Tr.wf]
    rw [row_id h1 h3 w.1]
    exact ⟨w.1, by rw [List.length_map], w.2.2.1, mvT_wf S h1 h3 t w.2.2.2⟩
  | .fork gs, w => by
    simp only [Tr.wf] at w
    simp only [mvT, Tr.wf]
    refine ⟨?_, mvG_wf S h1 h3 gs w.2 fun c hc => mem_rng.mp (w.1.mem_iff.mp hc)⟩
    rw [Gs.flat, mvG_heads]
    have nd : gs.heads.flatten.Nodup := by
      rw [← Gs.flat]
      exact w.1.nodup_iff.mpr (rng0_nodup n)
    refine (parts_perm (f := fun j => srcs.getD j.toNat 0) (rng0 srcs.length) gs.heads nd).trans ?_
    rw [List.filter_eq_self.mpr fun j hj => ?_]
    have hj' := mem_rng.mp hj
    have hs := S.at (j := j.toNat) (by omega)
    refine decide_eq_true ?_
    rw [← Gs.flat]
    exact w.1.mem_iff.mpr (mem_rng0 hs.1 hs.2)
theorem mvG_wf {srcs : List Int} {d n : Nat} (S : Srcs srcs n) (h1 : 1 ≤ d) (h3 : d ≤ 3) : ∀ g : Gs, g.wf d n → (∀ c ∈ g.classes, 0 ≤ c ∧ c < n) → (mvG srcs (idM d) .pl g).wf d srcs.length
  | .nil, _, _ => by simp [mvG, Gs.wf]
  | .cons cs t r, w, hc => by
    simp only [Gs.wf] at w
    simp only [mvG, Gs.wf]
    simp only [Gs.classes] at hc
    refine ⟨⟨fun e => ?_, ?_⟩, mvT_wf S h1 h3 t w.2.1, mvG_wf S h1 h3 r w.2.2 fun c h => hc c (List.mem_append_right _ h)⟩
    · obtain ⟨c, hcm⟩ := List.exists_mem_of_ne_nil cs w.1.1
      have hb := hc c (List.mem_append_left _ hcm)
      obtain ⟨j, hj, ej⟩ := S.all_ c hb.1 hb.2
      have : ((j : Nat) : Int) ∈ movC srcs cs := (mem_movC (by omega) (by omega)).mpr (by rw [Int.toNat_natCast, ej]; exact hcm)
      rw [e] at this
      cases this
    · unfold movC
      exact (rng0_lt _).filter _
end
/-! ### .. and orders as the first one does, moved -/
theorem mv_height {srcs hs : List Int} {c : Int} (h0 : 0 ≤ c) (h1 : c < srcs.length) : (srcs.map fun c => hs.getD c.toNat 0).getD c.toNat 0 = hs.getD (srcs.getD c.toNat 0).toNat 0 := by
  have hl : c.toNat < srcs.length := by omega
  rw [List.getD_eq_getElem?_getD, List.getElem?_map, List.getElem?_eq_getElem hl, List.getD_eq_getElem?_getD (l := srcs), List.getElem?_eq_getElem hl]
  rfl
theorem pthG_hd : ∀ (g : Gs) (i c : Int) (x : List Int), pthG g i c x = [] ∨ ∃ j l, i ≤ j ∧ pthG g i c x = j :: l
  | .nil, i, c, x => .inl (by simp [pthG])
  | .cons cs t r, i, c, x => by
    simp only [pthG]
    by_cases h : c ∈ cs
    · rw [if_pos h]
      exact .inr ⟨i, _, Int.le_refl _, rfl⟩
    · rw [if_neg h]
      rcases pthG_hd r (i + 1) c x with e | ⟨j, l, hj, e⟩
      · exact .inl e
      · exact .inr ⟨j, l, by omega, e⟩
section
variable {srcs p : List Int} {d n : Nat} {c1 c2 : Int} {x y : List Int}
mutual
theorem mv_lt (S : Srcs srcs n) (h1 : 1 ≤ d) (h3 : d ≤ 3) (b1 : 0 ≤ c1 ∧ c1 < srcs.length) (b2 : 0 ≤ c2 ∧ c2 < srcs.length) (hx : x.length = p.length) (hy : y.length = p.length) :
    ∀ t : Tr, t.wf d n → lx (pth (mvT srcs (idM d) .pl t) c1 x ++ x) (pth (mvT srcs (idM d) .pl t) c2 y ++ y) = lx (pth t (srcs.getD c1.toNat 0) (plus x p) ++ plus x p) (pth t (srcs.getD c2.toNat 0) (plus y p) ++ plus y p)
  | .pl, _ => by
    simp only [mvT, pth, List.nil_append]
    exact (lx_shift hx hy).symm
  | .key row hs t, w => by
    simp only [Tr.wf] at w
    have ih : HT.lexLt (pth (mvT srcs (idM d) .pl t) c1 x ++ x) (pth (mvT srcs (idM d) .pl t) c2 y ++ y) = HT.lexLt (pth t (srcs.getD c1.toNat 0) (plus x p) ++ plus x p) (pth t (srcs.getD c2.toNat 0) (plus y p) ++ plus y p) := mv_lt S h1 h3 b1 b2 hx hy t w.2.2.2
    simp only [mvT, pth, List.cons_append]
    rw [row_id h1 h3 w.1, dot_plus hx, dot_plus hy, mv_height b1.1 b1.2, mv_height b2.1 b2.2]
    generalize hs.getD (srcs.getD c1.toNat 0).toNat 0 = u1
    generalize hs.getD (srcs.getD c2.toNat 0).toNat 0 = u2
    show (if dotL row x + u1 = dotL row y + u2 then _ else decide (dotL row x + u1 < dotL row y + u2)) = (if dotL row x + dotL row p + u1 = dotL row y + dotL row p + u2 then _ else decide (dotL row x + dotL row p + u1 < dotL row y + dotL row p + u2))
    rw [ih]
    by_cases e : dotL row x + u1 = dotL row y + u2
    · rw [if_pos e, if_pos (by omega)]
    · rw [if_neg e, if_neg (by omega)]
      by_cases l : dotL row x + u1 < dotL row y + u2
      · rw [decide_eq_true l, decide_eq_true (by omega)]
      · rw [decide_eq_false l, decide_eq_false (by omega)]
  | .fork g, w => by
    simp only [Tr.wf] at w
    simp only [mvT, pth]
    have s1 := S.at (j := c1.toNat) (by omega)
    have s2 := S.at (j := c2.toNat) (by omega)
    exact mvG_lt S h1 h3 b1 b2 hx hy g 0 (w.1.mem_iff.mpr (mem_rng0 s1.1 s1.2)) (w.1.mem_iff.mpr (mem_rng0 s2.1 s2.2)) w.2
theorem mvG_lt (S : Srcs srcs n) (h1 : 1 ≤ d) (h3 : d ≤ 3) (b1 : 0 ≤ c1 ∧ c1 < srcs.length) (b2 : 0 ≤ c2 ∧ c2 < srcs.length) (hx : x.length = p.length) (hy : y.length = p.length) :
    ∀ (g : Gs) (i : Int), srcs.getD c1.toNat 0 ∈ g.classes → srcs.getD c2.toNat 0 ∈ g.classes → g.wf d n →
      lx (pthG (mvG srcs (idM d) .pl g) i c1 x ++ x) (pthG (mvG srcs (idM d) .pl g) i c2 y ++ y) = lx (pthG g i (srcs.getD c1.toNat 0) (plus x p) ++ plus x p) (pthG g i (srcs.getD c2.toNat 0) (plus y p) ++ plus y p)
  | .nil, i, h, _, _ => by simp [Gs.classes] at h
  | .cons cs t r, i, m1, m2, w => by
    simp only [Gs.wf] at w
    simp only [Gs.classes] at m1 m2
    simp only [mvG, pthG]
    have k1 := mem_movC (cs := cs) b1.1 b1.2
    have k2 := mem_movC (cs := cs) b2.1 b2.2
    have hdr : ∀ {c : Int} {z z' : List Int}, ¬ srcs.getD c.toNat 0 ∈ cs → srcs.getD c.toNat 0 ∈ cs ++ r.classes → 0 ≤ c ∧ c < srcs.length → (∃ j l, i + 1 ≤ j ∧ pthG (mvG srcs (idM d) .pl r) (i + 1) c z = j :: l) ∧ ∃ j l, i + 1 ≤ j ∧ pthG r (i + 1) (srcs.getD c.toNat 0) z' = j :: l := fun {c z z'} hn hm hb => by
      have hm' : srcs.getD c.toNat 0 ∈ r.classes := by
        rcases List.mem_append.mp hm with e | e
        · exact absurd e hn
        · exact e
      have hmv : c ∈ (mvG srcs (idM d) .pl r).classes := by
        rw [Gs.flat, mvG_heads]
        rw [Gs.flat] at hm'
        obtain ⟨q, hq, hqm⟩ := List.mem_flatten.mp hm'
        exact List.mem_flatten.mpr ⟨movC srcs q, List.mem_map.mpr ⟨q, hq, rfl⟩, (mem_movC hb.1 hb.2).mpr hqm⟩
      obtain ⟨j, t1, hj, e⟩ := pthG_head (i + 1) hmv
      obtain ⟨j', t2, hj', e'⟩ := pthG_head (i + 1) hm'
      exact ⟨⟨j, _, hj, e z⟩, ⟨j', _, hj', e' z'⟩⟩
    by_cases n1 : srcs.getD c1.toNat 0 ∈ cs
    · rw [if_pos (k1.mpr n1), if_pos n1]
      by_cases n2 : srcs.getD c2.toNat 0 ∈ cs
      · rw [if_pos (k2.mpr n2), if_pos n2]
        have ih := mv_lt S h1 h3 b1 b2 hx hy t w.2.1
        simp only [List.cons_append]
        show (if i = i then _ else _) = (if i = i then _ else _)
        rw [if_pos rfl, if_pos rfl]
        exact ih
      · rw [if_neg (fun z => n2 (k2.mp z)), if_neg n2]
        obtain ⟨⟨j, l, hj, e⟩, j', l', hj', e'⟩ := hdr (z := y) (z' := plus y p) n2 m2 b2
        rw [e, e']
        simp only [List.cons_append]
        show (if i = j then _ else decide (i < j)) = (if i = j' then _ else decide (i < j'))
        rw [if_neg (by omega), if_neg (by omega), decide_eq_true (by omega), decide_eq_true (by omega)]
    · rw [if_neg (fun z => n1 (k1.mp z)), if_neg n1]
      by_cases n2 : srcs.getD c2.toNat 0 ∈ cs
      · rw [if_pos (k2.mpr n2), if_pos n2]
        obtain ⟨⟨j, l, hj, e⟩, j', l', hj', e'⟩ := hdr (z := x) (z' := plus x p) n1 m1 b1
        rw [e, e']
        simp only [List.cons_append]
        show (if j = i then _ else decide (j < i)) = (if j' = i then _ else decide (j' < i))
        rw [if_neg (by omega), if_neg (by omega), decide_eq_false (by omega), decide_eq_false (by omega)]
      · rw [if_neg (fun z => n2 (k2.mp z)), if_neg n2]
        have m1' : srcs.getD c1.toNat 0 ∈ r.classes := (List.mem_append.mp m1).resolve_left n1
        have m2' : srcs.getD c2.toNat 0 ∈ r.classes := (List.mem_append.mp m2).resolve_left n2
        exact mvG_lt S h1 h3 b1 b2 hx hy r (i + 1) m1' m2' w.2.2
end
mutual
theorem mv_eq (S : Srcs srcs n) (h1 : 1 ≤ d) (h3 : d ≤ 3) (b1 : 0 ≤ c1 ∧ c1 < srcs.length) (b2 : 0 ≤ c2 ∧ c2 < srcs.length) (hx : x.length = p.length) (hy : y.length = p.length) :
    ∀ t : Tr, t.wf d n → (pth (mvT srcs (idM d) .pl t) c1 x = pth (mvT srcs (idM d) .pl t) c2 y ↔ pth t (srcs.getD c1.toNat 0) (plus x p) = pth t (srcs.getD c2.toNat 0) (plus y p))
  | .pl, _ => by simp [mvT, pth]
  | .key row hs t, w => by
    simp only [Tr.wf] at w
    have ih := mv_eq S h1 h3 b1 b2 hx hy t w.2.2.2
    simp only [mvT, pth, List.cons.injEq]
    rw [row_id h1 h3 w.1, dot_plus hx, dot_plus hy, mv_height b1.1 b1.2, mv_height b2.1 b2.2, ih]
    generalize hs.getD (srcs.getD c1.toNat 0).toNat 0 = u1
    generalize hs.getD (srcs.getD c2.toNat 0).toNat 0 = u2
    constructor
    · exact fun h => ⟨by omega, h.2⟩
    · exact fun h => ⟨by omega, h.2⟩
  | .fork g, w => by
    simp only [Tr.wf] at w
    simp only [mvT, pth]
    exact mvG_eq S h1 h3 b1 b2 hx hy g 0 w.2
theorem mvG_eq (S : Srcs srcs n) (h1 : 1 ≤ d) (h3 : d ≤ 3) (b1 : 0 ≤ c1 ∧ c1 < srcs.length) (b2 : 0 ≤ c2 ∧ c2 < srcs.length) (hx : x.length = p.length) (hy : y.length = p.length) :
    ∀ (g : Gs) (i : Int), g.wf d n → (pthG (mvG srcs (idM d) .pl g) i c1 x = pthG (mvG srcs (idM d) .pl g) i c2 y ↔ pthG g i (srcs.getD c1.toNat 0) (plus x p) = pthG g i (srcs.getD c2.toNat 0) (plus y p))
  | .nil, i, _ => by simp [mvG, pthG]
  | .cons cs t r, i, w => by
    simp only [Gs.wf] at w
    simp only [mvG, pthG]
    have k1 := mem_movC (cs := cs) b1.1 b1.2
    have k2 := mem_movC (cs := cs) b2.1 b2.2
    have no : ∀ {g : Gs} {c : Int} {z l : List Int}, ¬ (i :: l = pthG g (i + 1) c z) ∧ ¬ (pthG g (i + 1) c z = i :: l) := fun {g c z l} => by
      rcases pthG_hd g (i + 1) c z with e | ⟨j, l', hj, e⟩
      · rw [e]
        exact ⟨(fun h => by cases h), (fun h => by cases h)⟩
      · rw [e]
        refine ⟨fun h => ?_, fun h => ?_⟩ <;>
        · have := (List.cons.inj h).1
          omega
    by_cases n1 : srcs.getD c1.toNat 0 ∈ cs
    · rw [if_pos (k1.mpr n1), if_pos n1]
      by_cases n2 : srcs.getD c2.toNat 0 ∈ cs
      · rw [if_pos (k2.mpr n2), if_pos n2]
        have ih := mv_eq S h1 h3 b1 b2 hx hy t w.2.1
        simp only [List.cons.injEq, true_and]
        exact ih
      · rw [if_neg (fun z => n2 (k2.mp z)), if_neg n2]
        exact ⟨fun h => absurd h no.1, fun h => absurd h no.1⟩
    · rw [if_neg (fun z => n1 (k1.mp z)), if_neg n1]
      by_cases n2 : srcs.getD c2.toNat 0 ∈ cs
      · rw [if_pos (k2.mpr n2), if_pos n2]
        exact ⟨fun h => absurd h no.2, fun h => absurd h no.2⟩
      · rw [if_neg (fun z => n2 (k2.mp z)), if_neg n2]
        exact mvG_eq S h1 h3 b1 b2 hx hy r (i + 1) w.2.2
end
end
/-- the tree of the shifted scan -/
def shT_ (ds : List Int) (n : Nat) (p : List Int) (t : Tr) : Tr := mvT (srcM ds (idM ds.length) p ds n) (idM ds.length) .pl t
structure ScanOk (ds : List Int) (n : Nat) (t : Tr) : Prop where
  dv : Divs ds
  l1 : 1 ≤ ds.length
  l3 : ds.length ≤ 3
  pr : prodL ds = (n : Int)
  wf : t.wf ds.length n
  dp : t.dep ≤ 20
  sz : t.size ≤ 200
theorem shift_ok {ds : List Int} {n : Nat} {t : Tr} {p : List Int} (O : ScanOk ds n t) (hp : ds.length = p.length) : ScanOk ds n (shT_ ds n p t) := by
  refine ⟨O.dv, O.l1, O.l3, O.pr, ?_, ?_, ?_⟩
  · have := mvT_wf (shift_srcs O.dv O.pr O.l1 O.l3 hp) O.l1 O.l3 t O.wf
    rw [srcM_len] at this
    exact this
  · unfold shT_
    rw [mvT_dep]
    exact O.dp
  · unfold shT_
    rw [mvT_size]
    exact O.sz
theorem shift_lt {ds : List Int} {n : Nat} {t : Tr} {p x y : List Int} (O : ScanOk ds n t) (hp : ds.length = p.length) (hx : x.length = ds.length) (hy : y.length = ds.length) :
    lx (full ds (shT_ ds n p t) x) (full ds (shT_ ds n p t) y) = lx (full ds t (plus x p)) (full ds t (plus y p)) := by
  have c1 := cls_in O.dv O.pr hx.symm
  have c2 := cls_in O.dv O.pr hy.symm
  have e := mv_lt (p := p) (x := x) (y := y) (c1 := cls ds x) (c2 := cls ds y) (shift_srcs O.dv O.pr O.l1 O.l3 hp) O.l1 O.l3 (by rw [srcM_len]; exact c1) (by rw [srcM_len]; exact c2) (by omega) (by omega) t O.wf
  rw [shift_src O.dv O.pr O.l1 O.l3 hx.symm hp, shift_src O.dv O.pr O.l1 O.l3 hy.symm hp] at e
  exact e
theorem shift_tied {ds : List Int} {n : Nat} {t : Tr} {p x y : List Int} (O : ScanOk ds n t) (hp : ds.length = p.length) (hx : x.length = ds.length) (hy : y.length = ds.length) :
    (pth (shT_ ds n p t) (cls ds x) x = pth (shT_ ds n p t) (cls ds y) y) ↔ (pth t (cls ds (plus x p)) (plus x p) = pth t (cls ds (plus y p)) (plus y p)) := by
  have c1 := cls_in O.dv O.pr hx.symm
  have c2 := cls_in O.dv O.pr hy.symm
  have e := mv_eq (p := p) (x := x) (y := y) (c1 := cls ds x) (c2 := cls ds y) (shift_srcs O.dv O.pr O.l1 O.l3 hp) O.l1 O.l3 (by rw [srcM_len]; exact c1) (by rw [srcM_len]; exact c2) (by omega) (by omega) t O.wf
  rw [shift_src O.dv O.pr O.l1 O.l3 hx.symm hp, shift_src O.dv O.pr O.l1 O.l3 hy.symm hp] at e
  exact e
theorem plus_swap : ∀ (x p q : List Int), x.length = p.length → x.length = q.length → plus (plus x p) q = plus (plus x q) p
  | [], [], [], _, _ => rfl
  | a :: x, b :: p, c :: q, h1, h2 => by
    show (a + b + c) :: plus (plus x p) q = (a + c + b) :: plus (plus x q) p
    rw [plus_swap x p q (by simpa using h1) (by simpa using h2)]
    congr 1
    omega
  | [], _ :: _, _, h, _ => by cases h
  | [], [], _ :: _, _, h => by cases h
  | _ :: _, [], _, h, _ => by cases h
  | _ :: _, _ :: _, [], _, h => by cases h
end Lk

namespace Lk
open PySem L2 Lx
theorem sf_nodes (ct nt : Int) (a : Addr) (v : V) : (sf ct nt a v).lookup ("node_total" : Str) = some (.int nt) := by
  unfold sf
  rw [lookup_putF, if_neg (by decide +kernel), lookup_putF, if_neg (by decide +kernel), lookup_putF, if_pos rfl]
theorem sf_no (m : Str) (ct nt : Int) (a : Addr) (v : V) (h : ("own_tree" : Str) ≠ m ∧ ("own_divisors" : Str) ≠ m ∧ ("node_total" : Str) ≠ m ∧ ("class_total" : Str) ≠ m) : (sf ct nt a v).lookup m = none := by
  unfold sf
  rw [lookup_putF, if_neg (Ne.symm h.1), lookup_putF, if_neg (Ne.symm h.2.1), lookup_putF, if_neg (Ne.symm h.2.2.1), lookup_putF, if_neg (Ne.symm h.2.2.2)]
  rfl
theorem ScanAt.ok {K : PySem.W.Frag} {C : Addr} {H : Hp} {p : Addr} {ds : List Int} {n : Nat} {t : Tr} (S : ScanAt K C H p ds n t) : ScanOk ds n t := ⟨S.dv, S.l1, S.l3, S.pr, S.wf, S.dp, S.sz⟩
theorem cut_path {x : List Int} {q : List Int} (h1 : 1 ≤ x.length) : cutV ((q ++ x).map V.int) none (some (-(x.length : Int))) = q.map V.int := by
  unfold cutV
  have e : HT.sIx ((q ++ x).map V.int).length ((q ++ x).map V.int).length (some (-(x.length : Int))) = q.length := by
    show (if (-(x.length : Int)) < 0 then ((-(x.length : Int)) + (((q ++ x).map V.int).length : Int)).toNat else _) = _
    rw [if_pos (by omega), List.length_map, List.length_append]
    omega
  rw [e, HT.sIx_none, List.drop_zero, Nat.sub_zero, List.map_append, List.take_append_of_le_length (by rw [List.length_map]; exact Nat.le_refl _), List.take_of_length_le (by rw [List.length_map]; exact Nat.le_refl _)]
def spChanged (K : PySem.W.Frag) (C : Addr) : Sp := fun vs H Q _ => ∃ (p a m c : Addr) (ev : V) (ds : List Int) (n : Nat) (t e : Tr) (mat : List (List Int)) (ws : List V) (x nds : List Int) (n' : Nat), vs = [.ref p, .ref a, .ref m, .ref c, ev] ∧ ScanAt K C H p ds n t ∧ SqT K H a (nds.map V.int) ∧ SqT K H m ws ∧ HdsAt K H mat ws ∧
  SqT K H c (x.map V.int) ∧ TrAt K H e ev ∧ Divs nds ∧ nds.length = ds.length ∧ Mat mat ds.length ∧ x.length = ds.length ∧ prodL nds = (n' : Int) ∧ ∀ H' u, Same H H' → TrAt K H' (mvT (srcM ds mat x nds n') mat e t) u → Q u H'
def spShifted (K : PySem.W.Frag) (C : Addr) : Sp := fun vs H Q _ => ∃ (p c : Addr) (ds : List Int) (n : Nat) (t : Tr) (x : List Int), vs = [.ref p, .ref c] ∧ ScanAt K C H p ds n t ∧ SqT K H c (x.map V.int) ∧ x.length = ds.length ∧ ∀ (H' : Hp) (q : Addr), Same H H' → ScanAt K C H' q ds n (shT_ ds n x t) → Q (.ref q) H'
def spShiftX (K : PySem.W.Frag) (C CE : Addr) : Sp := fun vs H _ E => ∃ (p : Addr) (v : V) (o : Option (List V)) (ds : List Int) (n : Nat) (t : Tr), vs = [.ref p, v] ∧ ScanAt K C H p ds n t ∧ OD K H v o ∧ plB o (ds.length : Int) = false ∧
  ∀ (d : Addr) (H' : Hp), (∀ b u, H b = some u → H' b = some u) → H' d = some (.xd (xflds "given" v "InvalidPlace")) → E (.ref CE) (some d) H'
def spTied (K : PySem.W.Frag) (C : Addr) : Sp := fun vs H Q _ => ∃ (p c d : Addr) (ds : List Int) (n : Nat) (t : Tr) (x y : List Int), vs = [.ref p, .ref c, .ref d] ∧ ScanAt K C H p ds n t ∧ SqT K H c (x.map V.int) ∧ SqT K H d (y.map V.int) ∧ x.length = ds.length ∧ y.length = ds.length ∧
  ∀ H' : Hp, Same H H' → Q (.bl (decide (pth t (cls ds x) x = pth t (cls ds y) y))) H'
theorem eq_tups {K : PySem.W.Frag} {H : Hp} {a b : Addr} {xs ys : List Int} {Q : VK} (ha : SqT K H a (xs.map V.int)) (hb : SqT K H b (ys.map V.int)) (q : Q (.bl (decide (xs = ys))) H) : rEqD K (.ref a) (.ref b) H Q := by
  refine ⟨.tuple (xs.map .int), .tuple (ys.map .int), .tup ha (dpInts _), .tup hb (dpInts _), shT _, shT _, ?_⟩
  have e : PyData.eqv (.tuple (xs.map .int)) (.tuple (ys.map .int)) = decide (xs = ys) := by
    simp only [PyData.eqv]
    exact eqv_tup _ _
  rw [e]
  exact q
theorem ne_tups {K : PySem.W.Frag} {H : Hp} {a b : Addr} {xs ys : List Int} {Q : VK} (ha : SqT K H a (xs.map V.int)) (hb : SqT K H b (ys.map V.int)) (q : Q (.bl (!decide (xs = ys))) H) : rNeD K (.ref a) (.ref b) H Q := by
  refine ⟨.tuple (xs.map .int), .tuple (ys.map .int), .tup ha (dpInts _), .tup hb (dpInts _), shT _, shT _, ?_⟩
  have e : PyData.eqv (.tuple (xs.map .int)) (.tuple (ys.map .int)) = decide (xs = ys) := by
    simp only [PyData.eqv]
    exact eqv_tup _ _
  rw [e]
  exact q
section
variable {P : Program} {w : World} {K : PySem.W.Frag} {mg : Str → Option Value} {base : Heap}
end
end Lk

namespace Lk
open PySem L2
theorem first_filter {p : Int → Bool} {n j : Nat} (hj : j < n) (hp : p (j : Int) = true) (hno : ∀ m : Nat, m < j → p (m : Int) = false) : ((rng0 n).filter p)[0]? = some (j : Int) := by
  have e : rng0 n = rng0 j ++ (rng0 n).drop j := by
    have := List.take_append_drop j (rng0 n)
    rw [rng0_take (by omega)] at this
    exact this.symm
  have e2 : (rng0 n).drop j = (j : Int) :: (rng0 n).drop (j + 1) := by
    have hl : j < (rng0 n).length := by rw [rng0_len]; exact hj
    rw [List.drop_eq_getElem_cons hl]
    congr 1
    have := rng0_get hj
    rw [List.getElem?_eq_getElem hl] at this
    exact Option.some.inj this
  have e3 : (rng0 j).filter p = [] := by
    rw [List.filter_eq_nil_iff]
    intro a ha
    have hm := mem_rng.mp ha
    have := hno a.toNat (by omega)
    rw [show ((a.toNat : Nat) : Int) = a by omega] at this
    rw [this]
    decide
  rw [e, List.filter_append, e3, e2, List.filter_cons, if_pos hp]
  rfl
structure PairAt (K : PySem.W.Frag) (H : Hp) (q : Addr) (ds : List Int) (n : Nat) (t : Tr) : Prop where
  ob : ∃ (a : Addr) (v : V), SqT K H q [.ref a, v] ∧ SqT K H a (ds.map V.int) ∧ TrAt K H t v
  ok : ScanOk ds n t
theorem PairAt.mono {K : PySem.W.Frag} {H H' : Hp} {q : Addr} {ds : List Int} {n : Nat} {t : Tr} (S : PairAt K H q ds n t) (e : Tups K H H') : PairAt K H' q ds n t := by
  obtain ⟨⟨a, v, h1, h2, h3⟩, h4⟩ := S
  exact ⟨⟨a, v, e _ _ h1, e _ _ h2, TrAt.mono e h3⟩, h4⟩
def spLClass (K : PySem.W.Frag) : Sp := fun vs H Q _ => ∃ (a c : Addr) (ds ps : List Int), vs = [.ref a, .ref c] ∧ SqT K H a (ds.map V.int) ∧ SqT K H c (ps.map V.int) ∧ ds.length = ps.length ∧ Divs ds ∧ ds.length ≤ 3 ∧ ∀ H', Same H H' → Q (.int (cls ds ps)) H'
def spLPath (K : PySem.W.Frag) : Sp := fun vs H Q _ => ∃ (v : V) (a c : Addr) (t : Tr) (ds ps : List Int) (n : Nat), vs = [.ref a, v, .ref c] ∧ TrAt K H t v ∧ SqT K H a (ds.map V.int) ∧ SqT K H c (ps.map V.int) ∧ ps.length = ds.length ∧ ScanOk ds n t ∧
  ∀ H' p, Same H H' → SqT K H' p ((full ds t ps).map V.int) → Q (.ref p) H'
def spBefore (K : PySem.W.Frag) : Sp := fun vs H Q _ => ∃ (q c d : Addr) (ds : List Int) (n : Nat) (t : Tr) (x y : List Int), vs = [.ref q, .ref c, .ref d] ∧ PairAt K H q ds n t ∧ SqT K H c (x.map V.int) ∧ SqT K H d (y.map V.int) ∧ x.length = ds.length ∧ y.length = ds.length ∧
  ∀ H' : Hp, Same H H' → Q (.bl (HT.lexLt (full ds t x) (full ds t y))) H'
def spCut (K : PySem.W.Frag) : Sp := fun vs H Q _ => ∃ (q c : Addr) (ds : List Int) (n : Nat) (t : Tr) (x : List Int), vs = [.ref q, .ref c] ∧ PairAt K H q ds n t ∧ SqT K H c (x.map V.int) ∧ x.length = ds.length ∧
  ∀ H' p, Same H H' → SqT K H' p ((pth t (cls ds x) x).map V.int) → Q (.ref p) H'
def spLTied (K : PySem.W.Frag) : Sp := fun vs H Q _ => ∃ (q c d : Addr) (ds : List Int) (n : Nat) (t : Tr) (x y : List Int), vs = [.ref q, .ref c, .ref d] ∧ PairAt K H q ds n t ∧ SqT K H c (x.map V.int) ∧ SqT K H d (y.map V.int) ∧ x.length = ds.length ∧ y.length = ds.length ∧
  ∀ H' : Hp, Same H H' → Q (.bl (decide (pth t (cls ds x) x = pth t (cls ds y) y))) H'
section
variable {P : Program} {w : World} {K : PySem.W.Frag} {mg : Str → Option Value} {base : Heap}
end
end Lk

namespace Lk
open PySem L2 Lx LamX
/-! ### tables, over what the law does -/
theorem ExtN.tups {K : PySem.W.Frag} {H H' : Hp} (e : ExtN H H') : Tups K H H' := fun a xs h => by
  rcases h with (h | ⟨o, h⟩) | h
  · exact .inl (.inl (e _ _ h (fun ps z => by cases z)))
  · exact .inl (.inr ⟨o, e _ _ h (fun ps z => by cases z)⟩)
  · exact .inr h
theorem BagAt.extN {H H' : Hp} {b l : Addr} (B : BagAt H b l) (e : ExtN H H') : BagAt H' b l := by
  obtain ⟨x1, x2, x3, x4, Z⟩ := B
  exact ⟨x1, x2, x3, x4, e _ _ Z.ob (fun ps z => by cases z), e _ _ Z.ls (fun ps z => by cases z), Z.i0, Z.i1, Z.g0, Z.s0, Z.s1⟩
theorem ScanAt.extN {K : PySem.W.Frag} {C : Addr} {H H' : Hp} {p : Addr} {ds : List Int} {n : Nat} {t : Tr} (S : ScanAt K C H p ds n t) (e : ExtN H H') : ScanAt K C H' p ds n t := by
  obtain ⟨⟨dx, a, v, h1, h2, h3⟩, r1, r2, r3, r4, r5, r6, r7⟩ := S
  exact ⟨⟨dx, a, v, e _ _ h1 (fun ps z => by cases z), ExtN.tups e _ _ h2, TrAt.mono (ExtN.tups e) h3⟩, r1, r2, r3, r4, r5, r6, r7⟩
theorem Tabs.but {T : List (Addr × Str)} {H H' : Hp} {b l : Addr} (t : Tabs T H) (B : BagAt H b l) (e : But b H H') : Tabs T H' := fun p hp => by
  obtain ⟨ps, h1, h2, h3⟩ := t p hp
  obtain ⟨ys, hb⟩ := B.lst
  refine ⟨ps, e _ _ (ne_of h1 hb (by intro z; cases z)) h1, h2, fun pos cv hc => ?_⟩
  obtain ⟨c, e1, e2⟩ := h3 pos cv hc
  exact ⟨c, e1, e _ _ (ne_of e2 hb (by intro z; unfold CodeO at z; cases z)) e2⟩
/-! ### rules of the law's own -/
theorem pe_dead {X : Cx} {e : Expr} {te : TE} {f : Str} {pos : Pos} (he : PE X e te) (hab : attributeBase e f X.env (eval e X.env) = eval e X.env := by rfl) : PE X (.Attribute e f pos) (fun σ H _ => te σ H fun _ _ => False) := by
  refine ⟨fun pins s σ H Q I h => attr_of hab (thn (he.run pins s σ H _ I h) fun u s1 hh => ?_)⟩
  obtain ⟨x, H1, I1, rx, z⟩ := hh
  exact z.elim
def two {α : Type} : List α → List α → List α
  | [u], [w] => [u, w]
  | _, _ => []
theorem two_rel {vs zs : List V} {us ws : List Value} (r1 : Vals vs us) (r2 : Vals zs ws) : Vals (two vs zs) (two us ws) := by
  match r1, r2 with
  | .nil, _ => exact .nil
  | .cons a .nil, .nil => exact .nil
  | .cons a .nil, .cons b .nil => exact .cons a (.cons b .nil)
  | .cons a .nil, .cons b (.cons c r) => exact .nil
  | .cons a (.cons b r), _ => exact .nil
theorem dd_bools {K : PySem.W.Frag} {H : Hp} {a b : Addr} {bs : List Bool} (ha : SqL K H a (bs.map V.bl)) (hb : SqL K H b (bs.map V.bl)) (hl : bs.length ≤ 1000) : DD K H 1 (.ref a) (.ref b) := by
  refine .inr ⟨a, b, _, _, rfl, rfl, .inr ⟨ha, hb⟩, rfl, by rw [List.length_map]; exact hl, fun i x y f1 f2 => ?_⟩
  rw [f1] at f2
  cases f2
  obtain ⟨z, _, rfl⟩ := map_get f1
  exact ⟨rfl, rfl⟩
theorem dd_up3 {K : PySem.W.Frag} {H : Hp} {u v : V} (h : DD K H 1 u v) : DD K H 3 u v := h.up.up
theorem dd_sc {K : PySem.W.Frag} {H : Hp} {u : V} (h : scal u = true) : DD K H 3 u u := .inl ⟨h, rfl⟩
abbrev lamQ : Str := (PyProof.Rows.envOfC "law" (defScope sLaw) 0 0 .none).qual ++ "<lambda>"
def spLaw (K : PySem.W.Frag) (Pt : Addr) : Sp := fun vs H Q _ => ∃ (a : Addr) (ns : List Int), vs = [.ref a] ∧ SqL K H a (ns.map V.int) ∧ H Pt = some (.tbl #[]) ∧ ∀ H', Q (.bl true) H'
theorem callo {X : Cx} {K : PySem.W.Frag} {C x c d : Addr} {H : Hp} {ds : List Int} {n : Nat} {t : Tr} {xs ys : List Int} {Q : VK} {E : XK} (S : ScanAt K C H x ds n t) (hc : SqT K H c (xs.map V.int)) (hd : SqT K H d (ys.map V.int)) (h1 : xs.length = ds.length) (h2 : ys.length = ds.length)
    (h : ∀ H', Same H H' → Q (.bl (HT.lexLt (full ds t xs) (full ds t ys))) H') : StX.InsC X H x C ∧ spCall K C ([.ref x, .ref c, .ref d] ++ []) H Q E := by
  obtain ⟨⟨dx, a, v, g1, g2, g3⟩, _⟩ := id S
  exact ⟨.inr ⟨dx, _, g1⟩, x, c, d, ds, n, t, xs, ys, rfl, S, hc, hd, h1, h2, h⟩
/-- what the top has written of _law_try -/
structure TryT (K : PySem.W.Frag) (mg : Str → Option Value) (g : Addr) : Prop where
  at_ : mg "_law_try" = some (.ref g)
  kp : PySem.W.keepIn K (.ref g) = true
  lk : ∃ oc od kV doc pm an cdv ct osl, K.lookup g = some ⟨oc, od, .func (PySem.W.fnOf "_law_try" "_law_try" (defArgs sTry) (defBody sTry) (defScope sTry) .none kV doc pm an cdv ct), osl⟩ ∧ PySem.W.codeIn K cdv "_law_try" = true
/-- _law_try(lambda: body) in the law -/
theorem pe_tried {X : Cx} {g fF CS c Pt : Addr} {k : Nat} {params : Arguments} {body : Expr} {scope : Scope} {t : XK → TE} {p lpos pos : Pos} (R : TryT X.K X.mg g) (FT : FieldT X.K X.mg fF) (hS : X.mg "ScanError" = some (.ref CS)) (hg : Gl X "_law_try")
    (TB : TabB X.base X.mg c Pt) (hcode : X.env.code = .ref c) (hr : Room (k + 2) X.A) (hr2 : Room 2 X.A) (L : LamS X.env.scope scope) (hdef : defaultsOf params X.env = ([], []))
    (hbind : ∀ (q : Str) (cl : List (Str × Addr)) (pm cv ctv : Value), bindArgs (PySem.W.kla_fn "<lambda>" q params body scope cl pm cv ctv) ⟨[], []⟩ = pure [])
    (hbody : ∀ (A : Around) (outer : List Env) (s : Shared) (H : Hp) (E : XK) (f c' : Addr), Room k (A.deeper (lamEnv X scope s.heap.objs.size f c')) → PE (lamCx X A outer s H E scope f c') body (t E)) :
    PE X (.Call (.Name "_law_try" p) [.Lambda params body scope lpos] [] pos) (tLam [(Pt, X.env.qual ++ "<lambda>")] (TTry X.K CS) t) := by
  obtain ⟨oc, od, kV, doc, pm, an, cdv, ct, osl, lk, hcd⟩ := R.lk
  refine pe_lamcall (Ng := ["_law_ask", "_law_e"]) (a := "_law_ask") (k := k) hg R.at_ R.kp lk hcd ?_ scTry rfl (.inl rfl) (try_gives (k := 0) FT hS fun s => hr2.deeper _) TB hcode (List.mem_singleton.mpr rfl) (fun p hp _ => by rw [List.mem_singleton.mp hp]) hr L hdef hbind hbody
  exact Binds.all fun us hl => match us, hl with | [_], _ => rfl
end Lk

namespace Lx
open PySem L2 PySem.Spec PyProof.Rows LamX Lk
/-! ### [elt for x in iter], elt read where the state of the def is known -/
section
variable {X : Cx}
/-- one block: its loop, from the state s in which it is entered -/
theorem blk_loop {elt tg iter : Expr} {scope : Scope} {own : List (Str × Nat)} {pos : Pos} {g : TG} {te : TE} {pins : List (Addr × Obj)} {σ : L2.St} {H : Hp} {s : Shared} {Q : VK} {J : It} {fp : List Addr} {it D : Addr} {tn : Nat → Heap → Prop} {R : Result → Shared → Prop}
    (quiet : X.calm = true) (nd : X.N.Nodup) (I : Inv X pins σ H s) (ok : BlkOk X.N X.env.scope scope own) (T : Turn X.prog X.w X.K tg J fp it tn) (t0 : tn 0 s.heap) (fpo : ∀ b ∈ fp, FpOk X pins H b ∧ b < s.heap.objs.size) {ce : Env}
    (hce : ce = compEnvC scope (cellsFrom (s.heap.objs.size + 1) scope.names (cloFrom X.env.cells scope.names [])) s.heap.objs.size X.env)
    (aim : PG (X.blk s H scope ce fp) tg g) (each : PE (X.blk s H scope ce fp) elt te)
    (W : Nat → Nat → Hp → Prop) {m0 : Nat} (w0 : W 0 m0 H)
    (turn : ∀ i m H, W i m H → (J.stop i H ∧ Q (.ref D) H) ∨ (J.go i H ∧ ∃ Nx : Hp → Prop, (∀ H', Nx H' → ∃ m', m' < m ∧ W (i + 1) m' H') ∧ ∀ x H', J.yld i H x H' → g x (wipe σ (own.map (·.2))) H' fun σ2 H2 => wipe σ2 (own.map (·.2)) = wipe σ (own.map (·.2)) ∧
      te σ2 H2 fun y H4 => ∃ acc, H4 D = some (.lst acc) ∧ acc.length < sizeLine ∧ Nx (upd H4 D (.lst (acc ++ [y])))))
    (out : ∀ s' m H', Inv X pins σ H' s' → Q (.ref D) H' → s'.heap.Ns s.heap.objs.size m → FpOk X pins H' s.heap.objs.size → R (.ok .next) s') {s4 : Shared} (h4 : s4 = { s with heap := pushCells (s.heap.push { cls := .type "dict", data := .dict #[] }) scope.names }) :
    codeAny (model X.prog X.w) X.A (.compLoop (.ListComp elt [⟨tg, iter, [], 0⟩] scope pos) 0 (.ref it) (.ref D) ce) R s4 := by
  have start := block_start I ok nd fpo
  rw [← hce, ← h4] at start
  have t4 : tn 0 s4.heap := by
    rw [h4]
    exact T.keep _ _ _ t0 fun b _ o e => pushCells_keeps _ _ _ _ (Heap.get?_push_of_some _ e)
  have loc : ce.locals = s.heap.objs.size := by rw [hce]; rfl
  have held : ∀ {σ' : L2.St} {H' : Hp} {s' : Shared}, Inv (X.blk s H scope ce fp) [] σ' H' s' → (∀ b ∈ fp, H' b = none) → ∀ b ∈ fp, FpOk (X.blk s H scope ce fp) [] H' b := fun {σ' H' s'} B hn b hb => by
    have z := B.ok.exf b hb
    exact ⟨hn b hb, z.1, B.ok.exfs b hb, .inl hb, z.2, fun p hp => by cases hp⟩
  refine compLoop_any (fun n u => ∃ i G, Inv (X.blk s H scope ce fp) [] (wipe σ (own.map (·.2))) G u ∧ tn i u.heap ∧ (∀ b ∈ fp, G b = none) ∧ W i n G) ?_ m0 ⟨0, H, start, t4, fun b hb => (fpo b hb).1.1, w0⟩
  intro n u hu
  obtain ⟨i, G, B, tu, nf, wi⟩ := hu
  rcases turn i n G wi with ⟨hstop, hq⟩ | ⟨hgo, Nx, down, step⟩
  · refine thnF (T.done (X.blk s H scope ce fp) rfl rfl rfl quiet i [] u _ G (fun _ _ => False) B (held B nf) tu hstop) fun r v hv => ?_
    obtain ⟨rfl, B2⟩ := hv
    have back : Inv X pins σ G v := by
      refine I.call' (ch := fp) B2.os B2.base B2.hok B2.bare fun b hb => ?_
      obtain ⟨_, f1, _, f3, f4, f5⟩ := (fpo b hb).1
      exact ⟨f3, f1, f4, f5⟩
    have free : G s.heap.objs.size = none := loc ▸ B2.free
    obtain ⟨m, hm, _⟩ := B2.loc
    exact out v m G back hq (loc ▸ hm) (I.fpOk (Nat.le_refl _) free)
  · refine thnF (T.item (X.blk s H scope ce fp) rfl rfl rfl quiet i [] u _ G (fun _ _ => False) B (held B nf) tu hgo) fun r v hv => ?_
    obtain ⟨y, rfl, hy⟩ := hv
    refine thnF hy fun _ v2 hv2 => ?_
    obtain ⟨x, G2, B2, rx, yl, t2, n2⟩ := hv2
    refine thnF (aim.run _ v2 _ G2 x y _ (B2.pinned (held B2 n2) (T.obj _ _ t2)) rx (step x G2 yl)) fun _ v3 hv3 => ?_
    obtain ⟨σ3, G3, B3, same, q3⟩ := hv3
    refine wpAny_tests_nil ?_
    rw [if_pos rfl]
    refine thnF (each.run _ v3 σ3 G3 _ B3 q3) fun z v4 hv4 => ?_
    obtain ⟨zv, G4, B4, rz, acc, hD, hz, nx⟩ := hv4
    refine app_ok (X := X.blk s H scope ce fp) B4 hD hz rz fun v5 B5 => ?_
    obtain ⟨m', lt, w'⟩ := down _ nx
    have pin : ∀ b ∈ fp, ∀ o, v2.heap.get? b = some o → v5.heap.get? b = some o ∧ upd G4 D (.lst (acc ++ [zv])) b = none := fun b hb o e => by
      have z := B5.pin (b, o) (List.mem_append_right _ (List.mem_append_right _ (mem_pinsAt hb e)))
      exact ⟨z.1, z.2.1⟩
    refine ⟨m', lt, i + 1, _, (B5.unpinned (pins := [])).weak (by rw [← same, wipe_length]) fun j c e => ?_, T.keep _ _ _ t2 fun b hb o e => (pin b hb o e).1, fun b hb => ?_, w'⟩
    · rw [← same] at e
      exact (wipe_some e).1
    · obtain ⟨o, e, _⟩ := T.obj _ _ t2 b hb
      exact (pin b hb o e).2
def tLcI (wi : TI) (g : TG) (te : L2.St → TE) (vs : List Nat) : TE := fun σ H Q => wi σ H fun J H1 => ∀ D, H1 D = none → ∃ W : Nat → Nat → Hp → Prop, (∃ m, W 0 m (upd H1 D (.lst []))) ∧ ∀ i m H, W i m H →
  (J.stop i H ∧ Q (.ref D) H) ∨ (J.go i H ∧ ∃ Nx : Hp → Prop, (∀ H', Nx H' → ∃ m', m' < m ∧ W (i + 1) m' H') ∧ ∀ x H', J.yld i H x H' → g x (wipe σ vs) H' fun σ2 H2 => wipe σ2 vs = wipe σ vs ∧
    te σ σ2 H2 fun y H4 => ∃ acc, H4 D = some (.lst acc) ∧ acc.length < sizeLine ∧ Nx (upd H4 D (.lst (acc ++ [y]))))
theorem pe_lcI {elt tg iter : Expr} {scope : Scope} {own : List (Str × Nat)} {pos : Pos} {wi : TI} {g : TG} {te : L2.St → TE} (quiet : X.calm = true) (nd : X.N.Nodup) (walk : PI X tg iter wi) (ok : BlkOk X.N X.env.scope scope own)
    (aim : ∀ (s : Shared) (H : Hp) (C : Addr) (cl : List (Str × Addr)) (fp : List Addr), PG (X.blk s H scope (compEnvC scope cl C X.env) fp) tg g)
    (each : ∀ (pins : List (Addr × Obj)) (σ : L2.St) (s : Shared) (H : Hp) (C : Addr) (cl : List (Str × Addr)) (fp : List Addr), Inv X pins σ H s → (∀ b ∈ fp, FpOk X pins H b) → PE (X.blk s H scope (compEnvC scope cl C X.env) fp) elt (te σ))
    (fs : ∀ x, foldedSetIterable iter X.env x = pure x := by intro _; rfl) : PE X (.ListComp elt [⟨tg, iter, [], 0⟩] scope pos) (tLcI wi g te (own.map (·.2))) := by
  refine ⟨fun pins s σ H Q I h => ?_⟩
  rw [eval_ListComp]
  have caught : ∀ y ∈ scope.names, y.2 = .free → ∃ c, X.env.cells.lookup y.1 = some c := fun y hy e => (ok.free y hy e).elim (fun z => I.ok.has _ (.inl z)) fun z => I.ok.has _ (.inr z)
  refine wpAny_comprehension_free rfl fs (closure_ok caught) ok.kind (fun y hy e => by rw [ok.uniq y hy, e]) ?_
  refine thn (walk.run pins s σ H _ I h) fun v1 s1 h1 => thn h1 fun v2 s2 h2 => ?_
  obtain ⟨it, fp, tn, J, H2, rfl, I2, T, t2, f2, q⟩ := h2
  refine wpAny_newObj_type (newEnv_comp ?_) (by show 0 ≤ sizeLine; decide)
  obtain ⟨W, ⟨m0, w0⟩, turn⟩ := q _ (I2.hok.fresh (Nat.le_refl _))
  have I3 := I2.laid (a := s2.heap.objs.size) (o := .lst []) (h' := s2.heap.push { cls := .type "list", data := .seq ([] : List Value).toArray }) (t' := s2.toks) (fun b o e => Heap.get?_push_of_some _ e) (Nat.le_refl _) ⟨Nat.zero_le _, [], 0, .nil, Heap.get?_push_size _ rfl⟩
  have t3 : tn 0 (s2.heap.push { cls := .type "list", data := .seq ([] : List Value).toArray }) := T.keep _ _ _ t2 fun b _ o e => Heap.get?_push_of_some _ e
  have f3 : ∀ b ∈ fp, FpOk X pins (upd H2 s2.heap.objs.size (.lst [])) b ∧ b < (s2.heap.push { cls := .type "list", data := .seq ([] : List Value).toArray }).objs.size := fun b hb => by
    obtain ⟨o, e, _⟩ := T.obj _ _ t2 b hb
    have lt := Heap.lt_size e
    refine ⟨⟨?_, (f2 b hb).2⟩, by rw [Heap.size_push]; exact Nat.lt_succ_of_lt lt⟩
    rw [upd_ne (Nat.ne_of_lt lt)]
    exact (f2 b hb).1
  have go := blk_loop (iter := iter) (pos := pos) (R := compPost (model X.prog X.w) X.A X.xe none (EP X pins σ Q) (.ref s2.heap.objs.size) (s2.heap.push { cls := .type "list", data := .seq ([] : List Value).toArray }).objs.size) quiet nd I3 ok T t3 f3 rfl (aim _ _ _ _ _) (each _ _ _ _ _ _ _ I3 fun b hb => (f3 b hb).1) W w0 turn (fun s' m H' J' q' hm f => by
    refine ⟨m, hm, fun h'' sb => ?_⟩
    obtain ⟨f0, f1, f2, f3, f4, f5⟩ := f
    exact ⟨.ref _, H', J'.turned (t' := s'.toks) (fun b o hb e => (sb.2 b hb).trans e) f0 f1 f3 f4 f5, rfl, q'⟩) rfl
  exact codeAny_compStart_list go (T.self X.A 0 _ _ _ (T.keep _ _ _ t3 fun b _ o e => pushCells_keeps _ _ _ _ (Heap.get?_push_of_some _ e)) go)
end
end Lx

namespace Lx
open PySem L2 PySem.Spec PyProof.Rows LamX Lk
/-! ### lambdas that are kept in lists and called later -/
/-- a lambda without parameters, or with one that has a default -/
structure Lm where
  params : Arguments
  body : Expr
  scope : Scope
  dflt : Option Str
  t : XK → TE
/-- the cells of the def's frame hold what its slots say -/
structure CellsAt (X : Cx) (σ : L2.St) (H : Hp) (h : Heap) : Prop where
  inj : ∀ x y c, X.env.cells.lookup x = some c → X.env.cells.lookup y = some c → x = y
  has : ∀ x, (X.env.kindOf x = some .cell ∨ X.env.kindOf x = some .free) → ∃ c, X.env.cells.lookup x = some c
  len : σ.length = X.N.length
  val : ∀ (i : Nat) (x : Str) (v : V) (c : Addr), X.N[i]? = some x → σ[i]? = some (some v) → (X.env.scope.names.lookup x = some .cell ∨ X.env.scope.names.lookup x = some .free) → X.env.cells.lookup x = some c → ∃ u, RelV v u ∧ h.IsCell c (some u)
  any : ∀ x c, X.env.cells.lookup x = some c → ∃ v, h.IsCell c v
  out : ∀ x c, X.env.cells.lookup x = some c → H c = none
theorem CellsAt.of {X : Cx} {pins : List (Addr × Obj)} {σ : L2.St} {H : Hp} {s : Shared} (I : Inv X pins σ H s) : CellsAt X σ H s.heap := by
  refine ⟨I.ok.inj, I.ok.has, I.len, fun i x v c e1 e2 hk hc => ?_, I.cell, I.freeC⟩
  obtain ⟨m, _, hl⟩ := I.loc
  obtain ⟨u, r, q⟩ := hl i x v e1 e2 (hk.elim (fun z => .inr (.inl z)) fun z => .inr (.inr z))
  refine ⟨u, r, ?_⟩
  rcases q with ⟨k, _⟩ | ⟨_, c', e, z⟩
  · have k : X.env.scope.names.lookup x = some .local := k
    rcases hk with hk | hk <;> rw [hk] at k <;> cases k
  · rw [hc] at e
    cases e
    exact z
theorem CellsAt.un {X : Cx} {σ : L2.St} {H H' : Hp} {h h' : Heap} {fs ch : List Addr} (a : CellsAt X σ H h) (u : Un fs ch H H' h h') (hn : ∀ x c, X.env.cells.lookup x = some c → c ∉ ch) : CellsAt X σ H' h' := by
  have mv : ∀ {x : Str} {c : Addr} {v : Option Value}, X.env.cells.lookup x = some c → h.IsCell c v → h'.IsCell c v := fun {x c v} e hc => by
    obtain ⟨o, ho, hd⟩ := hc
    obtain ⟨sl, q⟩ := u.any ho (a.out _ _ e) (hn _ _ e)
    exact ⟨_, q, hd⟩
  refine ⟨a.inj, a.has, a.len, fun i x v c e1 e2 hk hc => ?_, fun x c e => ?_, fun x c e => ?_⟩
  · obtain ⟨w, r, z⟩ := a.val i x v c e1 e2 hk hc
    exact ⟨w, r, mv hc z⟩
  · obtain ⟨v, z⟩ := a.any x c e
    exact ⟨v, mv e z⟩
  · obtain ⟨v, o, ho, _⟩ := a.any x c e
    exact u.free _ _ ho (a.out _ _ e) (hn _ _ e)
/-- the lambda's names: captured ones, globals, and perhaps the one with the default -/
structure LmS (N : List Str) (sc scope : Scope) (d : Option Str) : Prop where
  kind : scope.kind = .function
  co : scope.isCoroutine = false
  gen : scope.isGenerator = false
  own : ∀ y ∈ scope.names, (y.2 = .local → y.1 ∉ N) ∧ y.2 ≠ .cell
  free : ∀ y ∈ scope.names, y.2 = .free → sc.names.lookup y.1 = some .cell ∨ sc.names.lookup y.1 = some .free
  loc : ∀ a, d = some a → scope.names.lookup a = some .local
def lmSB (N : List Str) (sc scope : Scope) (d : Option Str) : Bool :=
  (decide (scope.kind = .function) && !scope.isCoroutine && !scope.isGenerator) && ((scope.names.all fun y => (!decide (y.2 = .local) || !N.contains y.1) && (!decide (y.2 = .cell) && (!decide (y.2 = .free) || (decide (sc.names.lookup y.1 = some .cell) || decide (sc.names.lookup y.1 = some .free))))) &&
    match d with | none => true | some a => decide (scope.names.lookup a = some .local))
theorem lmS_by {N : List Str} {sc scope : Scope} {d : Option Str} (h : lmSB N sc scope d = true) : LmS N sc scope d := by
  unfold lmSB at h
  obtain ⟨h, h'⟩ := Bool.and_eq_true_iff.mp h
  obtain ⟨h4, h5⟩ := Bool.and_eq_true_iff.mp h'
  simp only [Bool.and_eq_true, Bool.or_eq_true, Bool.not_eq_true', decide_eq_true_eq, decide_eq_false_iff_not, List.all_eq_true] at h h4
  obtain ⟨⟨h1, h2⟩, h3⟩ := h
  refine ⟨h1, h2, h3, fun y hy => ⟨fun e hn => ?_, (h4 y hy).2.1⟩, fun y hy e => ?_, fun a e => ?_⟩
  · rcases (h4 y hy).1 with z | z
    · exact z e
    · rw [List.contains_iff_mem.mpr hn] at z
      cases z
  · rcases (h4 y hy).2.2 with z | z
    · exact absurd e z
    · exact z
  · subst e
    exact of_decide_eq_true h5
/-- the function object at f -/
def LamO (f : Addr) (fd : FuncData) : HO := .ext fun h => h.get? f = some { cls := .type "function", data := .func fd }
/-- fd is the lambda m, made in X -/
def LamIs (X : Cx) (m : Lm) (fd : FuncData) (c' : Addr) : Prop := ∃ dV doc pm ct, fd = PySem.W.kdv_fn "<lambda>" (X.env.qual ++ "<lambda>") m.params (.expr m.body) m.scope (cloFrom X.env.cells m.scope.names []) dV doc pm (.ref c') ct ∧ (m.dflt = none → dV = .none)
/-- its default, if it has one -/
def Dfl (H : Hp) (m : Lm) (fd : FuncData) : Prop := m.dflt = none ∨ ∃ dt n, fd.defaults = .ref dt ∧ H dt = some (.tup [.int n])
theorem Dfl.ext {H H' : Hp} {m : Lm} {fd : FuncData} (d : Dfl H m fd) (e : ∀ a xs, H a = some (.tup xs) → H' a = some (.tup xs)) : Dfl H' m fd := d.imp_right fun ⟨dt, n, h1, h2⟩ => ⟨dt, n, h1, e _ _ h2⟩
/-- what binding no argument gives -/
structure LmB (m : Lm) : Prop where
  none_ : m.dflt = none → ∀ (q : Str) (cl : List (Str × Addr)) (doc pm cd ct : Value), bindArgs (PySem.W.kdv_fn "<lambda>" q m.params (.expr m.body) m.scope cl .none doc pm cd ct) ⟨[], []⟩ = pure []
  some_ : ∀ a, m.dflt = some a → ∀ (q : Str) (cl : List (Str × Addr)) (dV doc pm cd ct : Value), ∃ k, bindArgs (PySem.W.kdv_fn "<lambda>" q m.params (.expr m.body) m.scope cl dV doc pm cd ct) ⟨[], []⟩ = seqItems? dV >>= k ∧ ∀ v, k (some #[v]) = pure [(a, v)]
section
variable {X : Cx} {pins : List (Addr × Obj)} {σ : L2.St} {H : Hp} {s : Shared}
/-- the function object is made: the code object is new, or found in the table -/
theorem lam_tail {T : List (Addr × Str)} {c P : Addr} {m : Lm} {pos : Pos} {line : Nat} {dV : Value} {E : Value → Shared → Prop} {Q : Value → Shared → Prop} (I : Inv X pins σ H s) (TB : TabB X.base X.mg c P) (code : X.env.code = .ref c)
    (inT : (P, X.env.qual ++ "<lambda>") ∈ T) (onlyT : ∀ p ∈ T, p.1 = P → p.2 = X.env.qual ++ "<lambda>") (tabs : Tabs T H) (caught : ∀ y ∈ m.scope.names, y.2 = .free → ∃ c, X.env.cells.lookup y.1 = some c) (hd : m.dflt = none → dV = .none)
    (h : ∀ (f c' : Addr) (fd : FuncData) (H1 : Hp) (s' : Shared), Inv X pins σ (upd H1 f (LamO f fd)) s' → ExtN H H1 → Tabs T H1 → H1 f = none → H1 c' = some (CodeO c' (X.env.qual ++ "<lambda>")) → LamIs X m fd c' → fd.defaults = dV → Q (.ref f) s') :
    wpAny (model X.prog X.w) X.A (makeTail "<lambda>" (X.env.qual ++ "<lambda>") m.params (.expr m.body) m.scope X.env dV .none none pos line) Q E s := by
  obtain ⟨ps, atP, tri, known⟩ := tabs _ inT
  have bl : s.heap.BuiltinsAt X.mg P := TB.bm.keeps I.bk
  have atP' : s.heap.get? P = some { cls := .none, data := .fields ps } := I.hok P _ atP
  cases hc : codeAmong pos ps.toList with
  | some cv =>
    obtain ⟨c', rfl, hco⟩ := known pos cv hc
    refine PySem.W.kdv_makeTailHit (mg := X.mg) (c := c) (P := P) (ps := ps) (closure_ok caught) I.ok.glob (I.mod.glob.keeps I.bk) code (TB.code.keeps I.bk) atP' tri hc bl fun ct doc h' tk grown size => ?_
    have I1 : Inv X pins σ H { s with heap := h', toks := tk } := I.kept grown
    exact h _ c' _ H _ (I1.laid (t' := tk) (o := LamO h'.objs.size _) (fun b u e => Heap.get?_push_of_some _ e) (Nat.le_refl _) ⟨Heap.get?_push_size _ rfl, ⟨_, Heap.get?_push_size _ rfl⟩, fun h1 h2 p st => st _ p⟩) (ExtN.refl H) tabs (I1.hok.fresh (Nat.le_refl _)) hco ⟨dV, doc, _, ct, rfl, hd⟩ rfl
  | none =>
    refine PySem.W.kdv_makeTail (mg := X.mg) (c := c) (P := P) (ps := ps) (closure_ok caught) I.ok.glob (I.mod.glob.keeps I.bk) code (TB.code.keeps I.bk) atP' tri hc TB.gP bl fun c' ct doc h' tk but ge lt rec_ tab => ?_
    obtain ⟨c2, oc, vs, t, e2, hoc, hdat, hv⟩ := rec_
    cases e2
    have newC : H c' = none := I.hok.fresh ge
    have I1 := inv_table (t' := tk) (more := #[rawInt pos.line, rawInt pos.col, .ref c']) I atP (fun b o hb e => but b o hb e) tab ge ⟨oc, vs, t, hoc, hdat, hv⟩
    have up : ExtN H (upd (upd H P (.tbl (ps ++ #[rawInt pos.line, rawInt pos.col, .ref c']))) c' (CodeO c' (X.env.qual ++ "<lambda>"))) := fun b o e n => by
      have n1 : b ≠ c' := ne_of_none e newC
      have n2 : b ≠ P := fun z => by
        rw [z, atP] at e
        exact n ps (Option.some.inj e).symm
      rw [upd_ne n1, upd_ne n2]
      exact e
    refine h _ c' _ _ _ (I1.laid (t' := tk) (o := LamO h'.objs.size _) (fun b u e => Heap.get?_push_of_some _ e) (Nat.le_refl _) ⟨Heap.get?_push_size _ rfl, ⟨_, Heap.get?_push_size _ rfl⟩, fun h1 h2 p st => st _ p⟩) up (fun p hp => ?_) (I1.hok.fresh (Nat.le_refl _)) upd_same ⟨dV, doc, _, ct, rfl, hd⟩ rfl
    have toL : (ps ++ #[rawInt pos.line, rawInt pos.col, .ref c']).toList = ps.toList ++ [rawInt pos.line, rawInt pos.col, .ref c'] := by simp
    by_cases hb : p.1 = P
    · rw [onlyT p hp hb, hb]
      refine ⟨_, by rw [upd_ne (ne_of_none atP newC), upd_same], by rw [toL]; exact PySem.TriplesOk_snoc _ _ _ _ tri, fun pp cv hcv => ?_⟩
      rw [toL] at hcv
      rcases among_app _ tri hcv with z | z
      · obtain ⟨c0, e1, e2⟩ := known pp cv z
        exact ⟨c0, e1, up _ _ e2 codeO_ne⟩
      · exact ⟨c', z, upd_same⟩
    · obtain ⟨qs, a1, a2, a3⟩ := tabs p hp
      refine ⟨qs, by rw [upd_ne (ne_of_none a1 newC), upd_ne hb]; exact a1, a2, fun pp cv hcv => ?_⟩
      obtain ⟨c0, e1, e2⟩ := a3 pp cv hcv
      exact ⟨c0, e1, up _ _ e2 codeO_ne⟩
end
end Lx

namespace Lx
open PySem L2 PySem.Spec PyProof.Rows LamX Lk
section
variable {X : Cx}
/-- a lambda as a value -/
def tLamV (X : Cx) (T : List (Addr × Str)) (m : Lm) : TE := fun σ H Q => Tabs T H ∧ ∀ (f c' : Addr) (fd : FuncData) (H1 : Hp), ExtN H H1 → Tabs T H1 → H1 f = none → H1 c' = some (CodeO c' (X.env.qual ++ "<lambda>")) → LamIs X m fd c' → Dfl H1 m fd → Q (.ref f) (upd H1 f (LamO f fd))
theorem LmS.caught {N : List Str} {scope : Scope} {d : Option Str} (L : LmS N X.env.scope scope d) (ok : X.Ok) : ∀ y ∈ scope.names, y.2 = .free → ∃ c, X.env.cells.lookup y.1 = some c := fun y hy e => (L.free y hy e).elim (fun z => ok.has _ (.inl z)) fun z => ok.has _ (.inr z)
theorem pe_lamV {T : List (Addr × Str)} {c P : Addr} {m : Lm} {pos : Pos} (TB : TabB X.base X.mg c P) (code : X.env.code = .ref c) (inT : (P, X.env.qual ++ "<lambda>") ∈ T) (onlyT : ∀ p ∈ T, p.1 = P → p.2 = X.env.qual ++ "<lambda>") (L : LmS X.N X.env.scope m.scope m.dflt)
    (hd : defaultsOf m.params X.env = ([], [])) (hn : m.dflt = none) : PE X (.Lambda m.params m.body m.scope pos) (tLamV X T m) := by
  refine ⟨fun pins s σ H Q I h => ?_⟩
  obtain ⟨tabs, h⟩ := h
  refine PySem.W.kla_eval hd ?_
  rw [makeFunction_eq]
  simp only [List.zip_nil_right, List.filterMap_nil, List.isEmpty_nil, if_true, pure_bind]
  exact lam_tail (m := m) I TB code inT onlyT tabs (L.caught I.ok) (fun _ => rfl) fun f c' fd H1 s' I1 up t1 n1 hc li _ => ⟨.ref f, _, I1, rfl, h f c' fd H1 up t1 n1 hc li (.inl hn)⟩
theorem pe_lamD {T : List (Addr × Str)} {c P : Addr} {m : Lm} {pos p0 : Pos} {n : Int} {kk : Nat} (TB : TabB X.base X.mg c P) (code : X.env.code = .ref c) (inT : (P, X.env.qual ++ "<lambda>") ∈ T) (onlyT : ∀ p ∈ T, p.1 = P → p.2 = X.env.qual ++ "<lambda>") (L : LmS X.N X.env.scope m.scope m.dflt)
    (hd : defaultsOf m.params X.env = ([eval (.Constant (.int n) kk p0) X.env], [])) (hs : m.dflt ≠ none) : PE X (.Lambda m.params m.body m.scope pos) (tLamV X T m) := by
  refine ⟨fun pins s σ H Q I h => ?_⟩
  obtain ⟨tabs, h⟩ := h
  rw [arm_eval_Lambda, hd]
  show wpAny _ _ (do let dv ← evalAll [eval (.Constant (.int n) kk p0) X.env]; let kdv ← holding dv (evalAllOpt []); makeFunction "<lambda>" (X.env.qual ++ "<lambda>") m.params (.expr m.body) m.scope X.env dv kdv [] pos pos.line) _ _ s
  refine wpAny_bind (wpAny_bind (thn ((pe_int (X := X) (i := n) (j := kk) (pos := p0)).run pins s σ H (fun v H1 => v = .int n ∧ H1 = H) I ⟨rfl, rfl⟩) fun u s1 h1 => ?_))
  obtain ⟨v, H1, I1, r, rfl, rfl⟩ := h1
  obtain ⟨t, rfl⟩ : ∃ t, u = Value.int n t := r
  refine wpAny_bind (wpAny_holding (wpAny_pure (wpAny_pure (wpAny_bind (wpAny_holding (wpAny_pure ?_))))))
  rw [makeFunction_eq]
  simp only [List.zip_nil_right, List.filterMap_nil, List.isEmpty_nil, if_true, pure_bind, List.isEmpty_cons, Bool.false_eq_true, if_false]
  refine wpAny_bind (wpAny_newTextTuple ?_)
  have fr : H1 s1.heap.objs.size = none := I1.hok.fresh (Nat.le_refl _)
  have I2 := I1.laid (a := s1.heap.objs.size) (o := .tup [.int n]) (h' := s1.heap.push { cls := .type "tuple", data := .seq [Value.int n t].toArray }) (t' := s1.toks) (fun b u e => Heap.get?_push_of_some _ e) (Nat.le_refl _) ⟨(by show 1 ≤ sizeLine; decide), [Value.int n t], .cons ⟨t, rfl⟩ .nil, IsTup.new _ _⟩
  have up0 : ExtN H1 (upd H1 s1.heap.objs.size (.tup [.int n])) := fun b o e _ => by
    rw [upd_ne (ne_of_none e fr)]
    exact e
  refine lam_tail (m := m) I2 TB code inT onlyT (tabs.ext fun b o e => by rw [upd_ne (ne_of_none e fr)]; exact e) (L.caught I.ok) (fun z => absurd z hs) fun f c' fd H2 s' I3 up t1 n1 hc li hdV => ⟨.ref f, _, I3, rfl, h f c' fd H2 (up0.trans up) t1 n1 hc li (.inr ⟨_, n, hdV, up _ _ upd_same (fun ps z => by cases z)⟩)⟩
/-- the lambda's body is entered -/
theorem lam_enter {A : Around} {outer : List Env} {E : XK} {m : Lm} {f c' : Addr} {h1 : Heap} {tk : Nat} {σ : L2.St} {G : Hp} {s1 : Shared} {binds : List (Str × Value)} (C : CellsAt X σ G s1.heap) (L : LmS X.N X.env.scope m.scope m.dflt) (e0 : Env0 X.prog X.w X.K X.mg X.base A outer s1 G) (hd : A.handled = none)
    (ns : h1.Ns s1.heap.objs.size fun y => binds.reverse.lookup y) (kp : ∀ b o, s1.heap.get? b = some o → h1.get? b = some o) :
    Inv (lamCx X A outer s1 G E m.scope f c') [] σ G { s1 with heap := h1, toks := tk } := by
  have back : ∀ {y c}, (cloFrom X.env.cells m.scope.names []).lookup y = some c → (m.scope.names.lookup y = some .free ∨ True) ∧ X.env.cells.lookup y = some c := fun {y c} e => by
    refine ⟨.inr trivial, ?_⟩
    rcases cloFrom_mem (PySem.mem_of_lookup e) with z | ⟨z1, z2⟩
    · cases z
    · obtain ⟨c1, hc⟩ := (L.free _ z1 rfl).elim (fun z => C.has _ (.inl z)) fun z => C.has _ (.inr z)
      have hc : X.env.cells.lookup y = some c1 := hc
      rw [show c = c1 by rw [z2, hc] <;> rfl]
      exact hc
  have forth : ∀ {y}, m.scope.names.lookup y = some .free → ∃ c, (cloFrom X.env.cells m.scope.names []).lookup y = some c := fun {y} hl => mem_lookup (cloFrom_has (cells := X.env.cells) (acc := []) (PySem.mem_of_lookup hl))
  have kc : ∀ {c : Addr} {v : Option Value}, s1.heap.IsCell c v → h1.IsCell c v := fun {c v} ⟨o, ho, hdat⟩ => ⟨o, kp _ _ ho, hdat⟩
  refine ⟨⟨e0.mod, L.kind, rfl, rfl, Nat.le_refl _, fun y z c e1 e2 => C.inj y z c (back e1).2 (back e2).2, fun y hy => ?_, fun y c z _ => (by cases (show false = true from z)), fun _ => hd, Around.frames_deeper e0.frames, .inr ⟨rfl, rfl⟩, fun b z => (by cases (show b ∈ ([] : List Addr) from z)), e0.bs, e0.bsz,
    fun b _ _ z => (by cases (show b ∈ ([] : List Addr) from z)), fun b z => (by cases (show b ∈ ([] : List Addr) from z)), e0.funs, e0.frf⟩, rfl, e0.bare, Un.kept kp, ⟨_, ns, fun i y v e1 e2 e3 => ?_⟩, fun y c e => ?_, e0.hok.fresh (Nat.le_refl _), fun y c e => C.out _ _ (back e).2, fun p hp => (by cases (show p ∈ ([] : List (Addr × Obj)) from hp)), e0.hok.kept kp, C.len⟩
  · rcases (show m.scope.names.lookup y = some .cell ∨ m.scope.names.lookup y = some .free from hy) with z | z
    · exact absurd rfl (L.own _ (PySem.mem_of_lookup z)).2
    · exact forth z
  · rcases (show Vis m.scope y from e3) with z | z | z
    · exact absurd (List.mem_of_getElem? e1) ((L.own _ (PySem.mem_of_lookup z)).1 rfl)
    · exact absurd rfl (L.own _ (PySem.mem_of_lookup z)).2
    · obtain ⟨c, hc⟩ := forth z
      obtain ⟨u, r, q⟩ := C.val i y v c e1 e2 (L.free _ (PySem.mem_of_lookup z) rfl) (back hc).2
      exact ⟨u, r, .inr ⟨.inr z, c, hc, kc q⟩⟩
  · obtain ⟨v, z⟩ := C.any y c (back e).2
    exact ⟨v, kc z⟩
/-- what is asked of a lambda's text -/
structure LmOk (X : Cx) (m : Lm) (k : Nat) : Prop where
  sc : LmS X.N X.env.scope m.scope m.dflt
  bd : LmB m
  run : ∀ (A : Around) (outer : List Env) (s : Shared) (H : Hp) (E : XK) (f c' : Addr), Room k (A.deeper (lamEnv X m.scope s.heap.objs.size f c')) → PE (lamCx X A outer s H E m.scope f c') m.body (m.t E)
/-- it is called -/
theorem lam_run {A : Around} {outer : List Env} {m : Lm} {fd : FuncData} {f c' : Addr} {σ : L2.St} {G : Hp} {s1 : Shared} {E : XK} {Q : VK} {k : Nat} (O : LmOk X m k) (C : CellsAt X σ G s1.heap) (e0 : Env0 X.prog X.w X.K X.mg X.base A outer s1 G) (hr : Room (k + 1) A) (lim : s1.heap.NoLimit)
    (hf : G f = some (LamO f fd)) (li : LamIs X m fd c') (hc : G c' = some (CodeO c' (X.env.qual ++ "<lambda>"))) (df : Dfl G m fd) (h : m.t E σ G Q) :
    codeAny (model X.prog X.w) A (.call (.ref f) ⟨[], []⟩) (CR (L2.CX X.prog X.w) outer X.prog X.w G s1 Q E) s1 := by
  obtain ⟨dV, doc, pm, ct, rfl, hdv⟩ := li
  have of1 := (e0.hok f _ hf).1
  obtain ⟨⟨oc, vs, t, hoc, hdc, hvc⟩, _, _⟩ := e0.hok c' _ hc
  obtain ⟨binds, hb, hl⟩ : ∃ binds, BindsTo s1 (PySem.W.kdv_fn "<lambda>" (X.env.qual ++ "<lambda>") m.params (.expr m.body) m.scope (cloFrom X.env.cells m.scope.names []) dV doc pm (.ref c') ct) ⟨[], []⟩ binds ∧ ∀ x ∈ binds, m.scope.names.lookup x.1 = some .local := by
    cases hm : m.dflt with
    | none =>
      rw [hdv hm]
      exact ⟨[], .of_eq (O.bd.none_ hm _ _ _ _ _ _), fun x hx => by cases hx⟩
    | some a =>
      rcases df with z | ⟨dt, n, e1, e2⟩
      · rw [hm] at z
        cases z
      · obtain ⟨kk, b1, b2⟩ := O.bd.some_ a hm (X.env.qual ++ "<lambda>") (cloFrom X.env.cells m.scope.names []) dV doc pm (.ref c') ct
        obtain ⟨_, its, rv, o, no, hcl, n2, ho⟩ := e0.hok dt _ e2
        cases rv with
        | cons r1 r2 =>
          cases r2
          refine ⟨[(a, _)], .of_defaults (T := dt) e1 no ho b1 (b2 _), fun x hx => ?_⟩
          rw [List.mem_singleton.mp hx]
          exact O.sc.loc a hm
  refine PySem.W.kla_callFunE hr.depth of1 rfl O.sc.co O.sc.gen rfl ⟨c', oc, vs, t, rfl, hoc, hdc, hvc⟩ (hb _ _ _ _ ?_)
  refine wpAny_newFunctionEnv (fun y hy => (O.sc.own y hy).2) hl (fun h1 ns sb => ⟨lim.fresh _ sb, ?_⟩) O.sc.kind
  have kp : ∀ b o, s1.heap.get? b = some o → h1.get? b = some o := fun b o e => sb.extBut b o (Nat.ne_of_lt (Heap.lt_size e)) (Heap.get?_push_of_some _ e)
  have J := lam_enter (E := E) (m := m) (f := f) (c' := c') (tk := s1.toks + binds.length) C O.sc e0 hr.hd ns kp
  refine PySem.W.kla_codeExpr (wpAny_mono ((O.run A outer s1 G E f c' (hr.deeper _)).run [] _ _ G Q J h) (fun v s' hq => ?_) fun e s' hq => hq)
  obtain ⟨x, G', J', rv, q⟩ := hq
  exact ⟨x, G', J'.os, J'.bare, J'.base, J'.hok, rv, q⟩
end
end Lx

namespace Lx
open PySem L2 PySem.Spec PyProof.Rows LamX Lk
/-- X in another place of the same frame -/
abbrev alike (X : Cx) (s0 : Shared) (H0 : Hp) (env : Env) (outer : List Env) (ex : List Addr) (fn : Str → Bool) (pn : List (Addr × Obj)) (xe : Value → Shared → Prop) : Cx := { X with s_0 := s0, H_0 := H0, env := env, outer := outer, ex := ex, fn := fn, pn := pn, xe := xe }
/-- _law_try(e), e a lambda that was made in X -/
def tKept (X : Cx) (CS : Addr) (ms : List Lm) (σ : L2.St) (te : TE) : TE := fun σ' H' Q => te σ' H' fun v H1 => ∃ (f c' : Addr) (fd : FuncData) (m : Lm), v = .ref f ∧ m ∈ ms ∧ H1 f = some (LamO f fd) ∧ LamIs X m fd c' ∧ H1 c' = some (CodeO c' (X.env.qual ++ "<lambda>")) ∧ Dfl H1 m fd ∧
  TTry X.K CS (fun E H2 Q2 => H2 f = some (LamO f fd) ∧ Dfl H2 m fd ∧ m.t E σ H2 Q2) H1 Q
section
variable {X : Cx} {s0 : Shared} {H0 : Hp} {env : Env} {outer : List Env} {ex : List Addr} {fn : Str → Bool} {pn : List (Addr × Obj)} {xe : Value → Shared → Prop}
theorem pe_kept {g fF CS : Addr} {k : Nat} {ms : List Lm} {σ : L2.St} {e : Expr} {te : TE} {p pos : Pos} (R : TryT X.K X.mg g) (FT : FieldT X.K X.mg fF) (hS : X.mg "ScanError" = some (.ref CS)) (hg : Gl (alike X s0 H0 env outer ex fn pn xe) "_law_try")
    (cells : ∀ pins' σ' H' s', Inv (alike X s0 H0 env outer ex fn pn xe) pins' σ' H' s' → CellsAt X σ H' s'.heap) (ok : ∀ m ∈ ms, LmOk X m k) (hr : Room (k + 2) X.A) (hr2 : Room 2 X.A) (he : PE (alike X s0 H0 env outer ex fn pn xe) e te)
    (hst : starEach [e] env = (false, eval e env) :: starEach [] env := by rfl) :
    PE (alike X s0 H0 env outer ex fn pn xe) (.Call (.Name "_law_try" p) [e] [] pos) (tKept X CS ms σ te) := by
  obtain ⟨oc, od, kV, doc, pm, an, cdv, ct, osl, lk, hcd⟩ := R.lk
  refine ⟨fun pins s σ' H Q I h => ?_⟩
  refine wpAny_Call_Name_kw (ld_glob I hg R.at_ ?_ (by decide))
  refine PySem.W.callWith_K (h₀ := X.base) I.ok.mod.kin R.kp ?_ hst (by rfl)
  rw [show starEach [e] (alike X s0 H0 env outer ex fn pn xe).env = (false, eval e env) :: starEach [] env from hst]
  refine Calls.spliced_cons (thn (he.run pins s σ' H _ I h) fun u s1 h1 => ?_)
  obtain ⟨v, H1, I1, rv, f, c', fd, m, rfl, hm, hf, li, hc, df, q⟩ := h1
  obtain rfl : u = Value.ref f := rv
  refine Calls.spliced_nil ⟨I1.kIn, ?_⟩
  have C := cells _ _ _ _ I1
  have rc : codeAny (model X.prog X.w) X.A (.call (.ref g) ⟨[.ref f], []⟩) (CR C8.CX0 X.stack X.prog X.w H1 s1 Q C8.E0) s1 := by
    refine run_ofS (N := ["_law_ask", "_law_e"]) (ps := ["_law_ask"]) (us := [.ref f]) (vs := [.ref f]) lk hcd scTry hr I1.env0 ((Binds.all fun us hl => match us, hl with | [_], _ => rfl) s1 [.ref f] I1.kIn rfl) (.cons rfl .nil) rfl fun hr' => ?_
    have G := try_gives (X := alike X s0 H0 env outer ex fn pn xe) (g := g) (cdg := cdv) (q := X.env.qual ++ "<lambda>") (k := 0) FT hS fun s => hr2.deeper _
    have act : ∀ (W : WX) (pn' : List (Addr × Obj)) (xe' : Value → Shared → Prop) (E : XK) (p1 p2 : Pos), Takes ((cxOf C8.CX0 X.prog X.w X.K X.mg X.base ["_law_ask", "_law_e"] "_law_try" (defScope sTry) g cdv X.A X.stack s1 H1 C8.E0).tr pn' xe') W → (∀ cls d σ' H', E cls d H' → W cls d σ' H') →
        PE ((cxOf C8.CX0 X.prog X.w X.K X.mg X.base ["_law_ask", "_law_e"] "_law_try" (defScope sTry) g cdv X.A X.stack s1 H1 C8.E0).tr pn' xe') (.Call (.Name "_law_ask" p1) [] [] p2) (fun σZ HZ Q => σZ[0]? = some (some (.ref f)) ∧ HZ c' = some (CodeO c' (X.env.qual ++ "<lambda>")) ∧ (HZ f = some (LamO f fd) ∧ Dfl HZ m fd ∧ m.t E σ HZ Q)) := by
      intro W pn' xe' E p1 p2 tk hW
      refine ⟨fun pz sz σz Hz Qz Iz hz => ?_⟩
      obtain ⟨z1, z2, z3, z4, z5⟩ := hz
      refine wpAny_Call_Name_kw (thn ((pe_var (pos := p1) (i := 0) rfl (.inl rfl) (by decide) (by decide)).run pz sz σz Hz (fun v G1 => v = .ref f ∧ G1 = Hz) Iz ⟨.ref f, z1, rfl, rfl⟩) fun u s2 h2 => ?_)
      obtain ⟨v, G1, I2, r2, rfl, rfl⟩ := h2
      obtain rfl : u = Value.ref f := r2
      have un : Un (frs X.stack) [] H1 G1 s1.heap s2.heap := I2.base
      have C2 := C.un un fun x c _ => by simp
      have call := lam_run (E := E) (Q := Qz) (ok m hm) C2 I2.env0 hr' I2.nolimit z3 li z2 z4 z5
      refine PySem.W.callWith_F0 ⟨_, _, _, _, (I2.hok f _ z3).1⟩ ?_
      have hx : Passes (L2.CX X.prog X.w) ((cxOf C8.CX0 X.prog X.w X.K X.mg X.base ["_law_ask", "_law_e"] "_law_try" (defScope sTry) g cdv X.A X.stack s1 H1 C8.E0).tr pn' xe') E := passes_call tk hW
      refine wpAny_call (codeAny_mono call fun r s' hq => ?_)
      cases r with
      | error e => exact hx pz σz G1 s2 e s' I2 hq
      | ok fl =>
        cases fl with
        | ret u => exact I2.after hq
        | next => exact False.elim hq
        | brk => exact False.elim hq
        | cont => exact False.elim hq
    obtain ⟨t', ht', hq'⟩ := G f c' s1 H1 Q (fun E H2 Q2 => H2 f = some (LamO f fd) ∧ Dfl H2 m fd ∧ m.t E σ H2 Q2) act hc q
    exact ⟨t', ht'.nox, hq'⟩
  refine wpAny_call (codeAny_mono rc fun r s2 hq => ?_)
  cases r with
  | error e => exact (show False from hq).elim
  | ok fl =>
    cases fl with
    | ret u => exact I1.after hq
    | next => exact False.elim hq
    | brk => exact False.elim hq
    | cont => exact False.elim hq
theorem cells_blk {pins : List (Addr × Obj)} {σ : L2.St} {H : Hp} {s : Shared} {scope : Scope} {ce : Env} {fp : List Addr} (I : Inv X pins σ H s) (hf : ∀ b ∈ fp, FpOk X pins H b) :
    ∀ (pins' : List (Addr × Obj)) (σ' : L2.St) (H' : Hp) (s' : Shared), Inv (X.blk s H scope ce fp) pins' σ' H' s' → CellsAt X σ H' s'.heap := fun _ _ _ _ B => (CellsAt.of I).un B.base fun x c e hc => (hf c hc).2.2.2.2.1 x c e rfl
theorem PE.of {e : Expr} {t t' : TE} (h : PE X e t') (w : ∀ σ H Q, t σ H Q → t' σ H Q) : PE X e t := ⟨fun pins s σ H Q I q => h.run pins s σ H Q I (w σ H Q q)⟩
theorem lcI_list {K : PySem.W.Frag} {a : Addr} {xs : List V} {g : TG} {te : TE} {vs : List Nat} {σ : L2.St} {H1 : Hp} {D : Addr} {Qd : Hp → Prop} (Pv : Nat → Hp → Prop) (h0 : Pv 0 (upd H1 D (.lst []))) (hl : ∀ i H, i ≤ xs.length → Pv i H → SqL K H a xs)
    (hs : ∀ i x H, xs[i]? = some x → Pv i H → g x (wipe σ vs) H fun σ2 H2 => wipe σ2 vs = wipe σ vs ∧ te σ2 H2 fun y H4 => ∃ acc, H4 D = some (.lst acc) ∧ acc.length < sizeLine ∧ Pv (i + 1) (upd H4 D (.lst (acc ++ [y])))) (hd : ∀ H, Pv xs.length H → Qd H) :
    ∃ W : Nat → Nat → Hp → Prop, (∃ m, W 0 m (upd H1 D (.lst []))) ∧ ∀ i m H, W i m H →
      ((Itl K a).stop i H ∧ Qd H) ∨ ((Itl K a).go i H ∧ ∃ Nx : Hp → Prop, (∀ H', Nx H' → ∃ m', m' < m ∧ W (i + 1) m' H') ∧ ∀ x H', (Itl K a).yld i H x H' → g x (wipe σ vs) H' fun σ2 H2 => wipe σ2 vs = wipe σ vs ∧
        te σ2 H2 fun y H4 => ∃ acc, H4 D = some (.lst acc) ∧ acc.length < sizeLine ∧ Nx (upd H4 D (.lst (acc ++ [y])))) :=
  lc_list (tt := tYes) Pv h0 hl hs hd
end
end Lx

namespace Lk
open PySem L2 Lx LamX
/-! ### the least of a tuple of ints, told -/
theorem min_props : ∀ (xs : List Int) (x : Int), PySem.W.minOf x xs ∈ x :: xs ∧ ∀ z ∈ x :: xs, PySem.W.minOf x xs ≤ z
  | [], x => ⟨List.mem_cons_self, fun z hz => by rw [List.mem_singleton.mp hz]; exact Int.le_refl _⟩
  | y :: r, x => by
    have st : PySem.W.minOf x (y :: r) = PySem.W.minOf (if y < x then y else x) r := by
      show PySem.W.minOf (if decide (y < x) = true then y else x) r = _
      by_cases h : y < x
      · rw [if_pos h, if_pos (decide_eq_true h)]
      · rw [if_neg h, if_neg (by rw [decide_eq_false h]; decide)]
    rw [st]
    obtain ⟨h1, h2⟩ := min_props r (if y < x then y else x)
    have h3 := h2 _ List.mem_cons_self
    by_cases h : y < x
    · rw [if_pos h] at h1 h2 h3 ⊢
      refine ⟨List.mem_cons_of_mem _ h1, fun z hz => ?_⟩
      rcases List.mem_cons.mp hz with e | e
      · rw [e]; omega
      · exact h2 z e
    · rw [if_neg h] at h1 h2 h3 ⊢
      refine ⟨?_, fun z hz => ?_⟩
      · rcases List.mem_cons.mp h1 with e | e
        · exact List.mem_cons.mpr (.inl e)
        · exact List.mem_cons_of_mem _ (List.mem_cons_of_mem _ e)
      · rcases List.mem_cons.mp hz with e | e
        · rw [e]; exact h3
        · rcases List.mem_cons.mp e with e | e
          · rw [e]; omega
          · exact h2 z (List.mem_cons_of_mem _ e)
def rMin2 (K : PySem.W.Frag) : List V → Hp → VK → Prop := fun vs H Q => ∃ (a : Addr) (ns : List Int), vs = [V.ref a] ∧ SqT K H a (ns.map V.int) ∧ 0 < ns.length ∧ ∀ m, m ∈ ns → (∀ z ∈ ns, m ≤ z) → Q (.int m) H
theorem cr_min2 {X : Cx} (quiet : X.calm = true) (hu : X.A.units + 1 < cLine) : CallR X (.builtin "min") (rMin2 X.K) := by
  intro pins s σ H vs us Q I r h
  obtain ⟨a, ns, rfl, hs, hne, q⟩ := h
  obtain ⟨its, rv, hl, _⟩ := I.tuple hs
  rw [Vals.ref1 r]
  cases ns with
  | nil => exact absurd hne (by decide)
  | cons x xs =>
    refine PySem.W.min_tuple_datum (α := Int) (x := x) (xs := xs) (I.ok.hd quiet) hl (by simpa using PySem.W.HoldAll.of_ints (h := s.heap) rv.ints) hu fun i v h' tk _ hv hk => ?_
    obtain ⟨as, rd⟩ := hv
    obtain ⟨p1, p2⟩ := min_props xs x
    generalize PySem.W.minOf x xs = m at rd p1 p2
    cases rd with
    | int n t => exact ⟨.int m, H, I.kept hk, ⟨t, rfl⟩, q m p1 p2⟩
/-! ### whether a value is sides -/
def sdB (o : Option (List V)) (c : Int) : Bool := match o with
  | none => false
  | some xs => (decide (1 ≤ xs.length) && decide (xs.length ≤ 3)) && (xs.all isI && xs.all fun x => decide (c ≤ uI x))
theorem sdB_some (xs : List V) (c : Int) : sdB (some xs) c = ((decide (1 ≤ xs.length) && decide (xs.length ≤ 3)) && (xs.all isI && xs.all fun x => decide (c ≤ uI x))) := rfl
theorem ints_isI : ∀ {xs : List V}, xs.all isI = true → xs = (xs.map uI).map V.int
  | [], _ => rfl
  | x :: r, h => by
    obtain ⟨h1, h2⟩ := Bool.and_eq_true_iff.mp (show (isI x && r.all isI) = true from h)
    have ih := ints_isI h2
    cases x with
    | int i =>
      show V.int i :: r = V.int i :: (r.map uI).map V.int
      rw [← ih]
    | _ => cases h1
theorem isI_ints (ns : List Int) : (ns.map V.int).all isI = true := by
  rw [List.all_map]
  exact List.all_eq_true.mpr fun _ _ => rfl
theorem uI_ints (ns : List Int) : (ns.map V.int).map uI = ns := by
  rw [List.map_map]
  exact List.map_id _
def spSidesO (K : PySem.W.Frag) : Sp := fun vs H Q _ => ∃ v c o, vs = [v, .int c] ∧ OD K H v o ∧ ∀ H', Same H H' → Q (.bl (sdB o c)) H'
def B64i (xs : List V) : Prop := ∀ i, V.int i ∈ xs → -(2 ^ 64) < i ∧ i < 2 ^ 64
def spProdB (K : PySem.W.Frag) : Sp := fun vs H Q _ => ∃ (a : Addr) (ns : List Int), vs = [.ref a] ∧ SqT K H a (ns.map V.int) ∧ (∀ z ∈ ns, -(2 ^ 64) < z ∧ z < 2 ^ 64) ∧ Q (.int (prodL ns)) H
section
variable {P : Program} {w : World} {K : PySem.W.Frag} {mg : Str → Option Value} {base : Heap}
theorem ok_prodB {f : Addr} {fd : FuncData} {k : Nat} (F : Fun K "product" "product" sProduct f fd) : FnOk P w K mg base CX0 (k + 1) f fd ["numbers"] (spProdB K) := by
  refine F.ok scProduct (fun vs H Q E h => ?_) (fun cdv A outer s H vs Q E hr h => ?_)
  · obtain ⟨a, ns, rfl, _⟩ := h
    rfl
  · obtain ⟨a, ns, rfl, hS, bd, q⟩ := h
    refine ⟨_, pss_cons (ps_set (i := 1) scProduct.nd rfl (.inl rfl) pe_int)
      (pss_cons (ps_for PassesOwn.never rfl (pi_tup (pv 0)) (pg_name (i := 2) scProduct.nd rfl (.inl rfl)) (pss_one (ps_set (i := 1) scProduct.nd rfl (.inl rfl) (pe_op op_mul (pv 1) (pv 2)))))
      (pss_one (ps_ret (pv 1)))), ?_⟩
    refine ⟨_, rfl, a, rfl, ⟨_, hS⟩, for_tup (K := K) (a := a) (xs := ns.map V.int) (fun i σ H2 => ∃ (v : Option V), σ = [some (.ref a), some (.int (prodL (ns.take i))), v] ∧ H2 = H)
      ⟨none, rfl, rfl⟩ (fun i σ H2 _ ⟨_, _, e⟩ => by rw [e]; exact hS) ?_ ?_⟩
    · rintro i y σ H2 hi ⟨v, rfl, rfl⟩
      obtain ⟨u, hu, rfl⟩ := map_get hi
      have b := bd u (List.mem_of_getElem? hu)
      refine ⟨_, rfl, _, rfl, _, _, rfl, rfl, .inr ⟨b.1, b.2⟩, some (.int u), ?_, rfl⟩
      rw [take_more hu, prodL_app]
      rfl
    · rintro σ H2 ⟨v, rfl, rfl⟩
      refine ⟨_, rfl, ?_⟩
      rw [List.length_map, List.take_length]
      exact q
theorem ok_sidesO {f fN : Addr} {fd fdN : FuncData} {k : Nat} (F : Fun K "are_sides" "are_sides" sAreSides f fd) (ms : mg "isinstance" = none) (mt : mg "tuple" = none) (ml : mg "len" = none) (mm : mg "min" = none) {t3 : Tok} (mD : mg "MAX_DIRECTIONS" = some (.int 3 t3))
    (GN : FnOk P w K mg base CX0 (k + 2) fN fdN ["value", "count"] (spNumsO K)) (kN : PySem.W.keepIn K (.ref fN) = true) (bN : Binds K fdN ["value", "count"] []) (gN : mg "are_numbers" = some (.ref fN)) : FnOk P w K mg base CX0 (k + 3) f fd ["value", "least"] (spSidesO K) := by
  refine F.ok scAreSides (fun vs H Q E h => ?_) (fun cdv A outer s H vs Q E hr h => ?_)
  · obtain ⟨v, c, o, rfl, _⟩ := h
    rfl
  · obtain ⟨v, c, o, rfl, hO, q⟩ := h
    refine ⟨_, pss_cons (ps_if (PW.pt (pw_or (pt_not (pt_val (pe_callB call_isi (by rfl) ms (by decide +kernel) (pa_cons (pv 0) (pa_cons (pe_bltn (v := .ty "tuple") (by rfl) mt (by decide +kernel) rfl) pa_nil)))))
        (pw_or1 (pt_not (pt_chain op_le op_le pe_int (pe_callB call_len_seq (by rfl) ml PySem.boot_len (pa_cons (pv 0) pa_nil)) (pe_glob (v := .int 3) (by rfl) mD ⟨_, rfl⟩)))))) (pss_one (ps_ret pe_bl)) pss_nil)
      (pss_one (ps_ret (pe_and (pe_call GN hr (by rfl) gN kN bN .nil pass0 (pa_cons (pv 0) (pa_cons (pe_callB call_len_seq (by rfl) ml PySem.boot_len (pa_cons (pv 0) pa_nil)) pa_nil)))
        (pe_one (pe_cmpR op_ge (pe_callB (cr_min2 rfl (hu_of hr)) (by rfl) mm (by decide +kernel) (pa_cons (pv 0) pa_nil)) (pv 1) (nomark _)))))), ?_⟩
    cases o with
    | none =>
      have hs : scal v = true := hO
      have qq := q H (Same.refl _)
      cases v with
      | non => exact ⟨_, rfl, _, _, _, _, false, rfl, .ty _, .base .non, kit_ty (by decide +kernel), false, rfl, iteT qq⟩
      | bl x => exact ⟨_, rfl, _, _, _, _, false, rfl, .ty _, .base (.bl x), kit_ty (by decide +kernel), false, rfl, iteT qq⟩
      | int x => exact ⟨_, rfl, _, _, _, _, false, rfl, .ty _, .base (.int x), kit_ty (by decide +kernel), false, rfl, iteT qq⟩
      | str x => exact ⟨_, rfl, _, _, _, _, false, rfl, .ty _, .base (.str x), kit_ty (by decide +kernel), false, rfl, iteT qq⟩
      | _ => cases hs
    | some xs =>
    obtain ⟨a, rfl, hS, h3, h4⟩ := id hO
    refine ⟨_, rfl, _, _, _, _, true, rfl, .ty _, tyT hS, kit_ty (by decide +kernel), true, rfl, iteF ?_⟩
    by_cases l1 : 1 ≤ xs.length
    rotate_left
    · refine ⟨_, rfl, a, _, rfl, .inr hS, _, _, rfl, rfl, false, congrArg V.bl (decide_eq_false (by omega)), iteF ?_⟩
      have e : sdB (some xs) c = false := by
        rw [sdB_some]
        rw [decide_eq_false l1]
        rfl
      have qq := q H (Same.refl _)
      rw [e] at qq
      exact ⟨false, rfl, iteT qq⟩
    refine ⟨_, rfl, a, _, rfl, .inr hS, _, _, rfl, rfl, true, congrArg V.bl (decide_eq_true (by omega)), iteT ?_⟩
    by_cases l3 : xs.length ≤ 3
    rotate_left
    · refine ⟨_, _, rfl, rfl, false, congrArg V.bl (decide_eq_false (by omega)), iteT ?_⟩
      have e : sdB (some xs) c = false := by
        rw [sdB_some]
        rw [decide_eq_false l3, Bool.and_false]
        rfl
      have qq := q H (Same.refl _)
      rw [e] at qq
      exact qq
    refine ⟨_, _, rfl, rfl, true, congrArg V.bl (decide_eq_true (by omega)), iteF ?_⟩
    refine ⟨_, rfl, _, rfl, a, _, rfl, .inr hS, .ref a, _, some xs, rfl, hO, fun H1 sm => ⟨_, rfl, ?_⟩⟩
    have e0 : plB (some xs) (xs.length : Int) = xs.all isI := by
      show (decide ((xs.length : Int) = xs.length) && xs.all isI) = _
      rw [decide_eq_true rfl]
      rfl
    rw [e0]
    have e1 : sdB (some xs) c = (xs.all isI && xs.all fun x => decide (c ≤ uI x)) := by
      rw [sdB_some]
      rw [decide_eq_true l1, decide_eq_true l3]
      rfl
    have qq := q H1 sm
    rw [e1] at qq
    cases hi : xs.all isI with
    | false =>
      rw [hi] at qq
      exact iteF qq
    | true =>
      rw [hi] at qq
      have ex := ints_isI hi
      rw [ex] at hS
      refine iteT ⟨_, rfl, a, xs.map uI, rfl, Same.sqT sm hS, by rw [List.length_map]; omega, fun m hm hle => ⟨_, rfl, _, _, rfl, rfl, ?_⟩⟩
      have e2 : (xs.all fun x => decide (c ≤ uI x)) = decide (c ≤ m) := by
        by_cases h : c ≤ m
        · rw [decide_eq_true h]
          refine List.all_eq_true.mpr fun x hx => decide_eq_true ?_
          have := hle (uI x) (List.mem_map.mpr ⟨x, hx, rfl⟩)
          omega
        · rw [decide_eq_false h]
          obtain ⟨x, hx, e⟩ := List.mem_map.mp hm
          refine Bool.eq_false_iff.mpr fun z => h ?_
          have := of_decide_eq_true (List.all_eq_true.mp z x hx)
          rw [e] at this
          exact this
      rw [e2] at qq
      exact qq
end
end Lk

namespace Lk
open PySem L2 Lx LamX
/-! ### which error divisors call for: 0 none, 1 InvalidDivisors, 2 TooManyClasses -/
def dvE (o : Option (List V)) : Nat := if sdB o 1 = true then (if 12 < prodL (itsI o) then 2 else 0) else 1
def DvK (C1 C2 : Addr) (o : Option (List V)) (H : Hp) (E : XK) : Prop := ∀ (d : Addr) (H' : Hp), (∀ b u, H b = some u → H' b = some u) →
  (dvE o = 1 → H' d = some (.xd [("tag", .str "InvalidDivisors")]) → E (.ref C1) (some d) H') ∧ (dvE o = 2 → H' d = some (.xd (xflds "limit" (.int 12) "TooManyClasses")) → E (.ref C2) (some d) H')
theorem DvK.same {C1 C2 : Addr} {o : Option (List V)} {H H1 : Hp} {E : XK} (k : DvK C1 C2 o H E) (s : Same H H1) : DvK C1 C2 o H1 E := fun d H' e => k d H' fun b u h => e b u (s b u h)
def PlK (CE : Addr) (v : V) (H : Hp) (E : XK) : Prop := ∀ (d : Addr) (H' : Hp), (∀ b u, H b = some u → H' b = some u) → H' d = some (.xd (xflds "given" v "InvalidPlace")) → E (.ref CE) (some d) H'
theorem PlK.same {CE : Addr} {v : V} {H H1 : Hp} {E : XK} (k : PlK CE v H E) (s : Same H H1) : PlK CE v H1 E := fun d H' e => k d H' fun b u h => e b u (s b u h)
theorem sdB_ints {o : Option (List V)} {c : Int} (h : sdB o c = true) : ∃ xs, o = some xs ∧ xs = (xs.map uI).map V.int ∧ 1 ≤ xs.length ∧ xs.length ≤ 3 ∧ ∀ z ∈ xs.map uI, c ≤ z := by
  cases o with
  | none => cases h
  | some xs =>
    rw [sdB_some] at h
    obtain ⟨h1, h2⟩ := Bool.and_eq_true_iff.mp h
    obtain ⟨h3, h4⟩ := Bool.and_eq_true_iff.mp h1
    obtain ⟨h5, h6⟩ := Bool.and_eq_true_iff.mp h2
    refine ⟨xs, rfl, ints_isI h5, of_decide_eq_true h3, of_decide_eq_true h4, fun z hz => ?_⟩
    obtain ⟨x, hx, e⟩ := List.mem_map.mp hz
    have := of_decide_eq_true (List.all_eq_true.mp h6 x hx)
    rw [← e]
    exact this
def spDivX (K : PySem.W.Frag) (C1 C2 : Addr) : Sp := fun vs H _ E => ∃ v o, vs = [v] ∧ OD K H v o ∧ (∀ z ∈ itsI o, -(2 ^ 64) < z ∧ z < 2 ^ 64) ∧ dvE o ≠ 0 ∧ DvK C1 C2 o H E
/-- class_of, refused: bad divisors, or a bad place -/
def spCofX (K : PySem.W.Frag) (C1 C2 CE : Addr) : Sp := fun vs H _ E => ∃ u v, vs = [u, v] ∧
  ((∃ o, OD K H u o ∧ (∀ z ∈ itsI o, -(2 ^ 64) < z ∧ z < 2 ^ 64) ∧ dvE o ≠ 0 ∧ DvK C1 C2 o H E) ∨
   (∃ (a : Addr) (ds : List Int) (o : Option (List V)), u = .ref a ∧ SqT K H a (ds.map V.int) ∧ 1 ≤ ds.length ∧ ds.length ≤ 3 ∧ Divs ds ∧ OD K H v o ∧ plB o (ds.length : Int) = false ∧ PlK CE v H E))
/-- rests_of, refused: bad divisors, or a number that is no class -/
def spRsX (K : PySem.W.Frag) (C1 C2 CE : Addr) : Sp := fun vs H _ E => ∃ (u : V) (c : Int), vs = [u, .int c] ∧
  ((∃ o, OD K H u o ∧ (∀ z ∈ itsI o, -(2 ^ 64) < z ∧ z < 2 ^ 64) ∧ dvE o ≠ 0 ∧ DvK C1 C2 o H E) ∨
   (∃ (a : Addr) (ds : List Int), u = .ref a ∧ SqT K H a (ds.map V.int) ∧ 1 ≤ ds.length ∧ ds.length ≤ 3 ∧ Divs ds ∧ ¬ (0 ≤ c ∧ c < prodL ds) ∧ PlK CE (.int c) H E))
def spRests (K : PySem.W.Frag) : Sp := fun vs H Q _ => ∃ (a : Addr) (ds : List Int) (c : Int), vs = [.ref a, .int c] ∧ SqT K H a (ds.map V.int) ∧ 1 ≤ ds.length ∧ ds.length ≤ 3 ∧ Divs ds ∧ 0 ≤ c ∧ c < prodL ds ∧ ∀ H' p, Same H H' → SqT K H' p ((pAt ds c).map V.int) → Q (.ref p) H'
def spClassOf (K : PySem.W.Frag) : Sp := fun vs H Q _ => ∃ (a c : Addr) (ds ps : List Int), vs = [.ref a, .ref c] ∧ SqT K H a (ds.map V.int) ∧ SqT K H c (ps.map V.int) ∧ ds.length = ps.length ∧ Divs ds ∧ 1 ≤ ds.length ∧ ds.length ≤ 3 ∧ ∀ H', Same H H' → Q (.int (cls ds ps)) H'
section
variable {P : Program} {w : World} {K : PySem.W.Frag} {mg : Str → Option Value} {base : Heap}
theorem ok_chkdivX {f fN fM f1 f2 C1 C2 D1 D2 fS1 fS2 : Addr} {fd fdN fdM fd1 fd2 : FuncData} {k : Nat} (F : Fun K "check_divisors" "check_divisors" sChkDiv f fd) {t3 : Tok} (mC : mg "MAX_CLASSES" = some (.int 12 t3))
    (R1 : RaiseC K mg "InvalidDivisors" C1 D1 fS1 f1) (G1 : FnOk P w K mg base CX0 (k + 2) f1 fd1 ["self"] (spE0 K C1 "InvalidDivisors")) (b1 : Binds K fd1 ["self"] [])
    (R2 : RaiseC K mg "TooManyClasses" C2 D2 fS2 f2) (G2 : FnOk P w K mg base CX0 (k + 2) f2 fd2 ["self", "limit"] (spE1 K C2 "TooManyClasses" "limit")) (b2 : Binds K fd2 ["self", "limit"] [])
    (GN : FnOk P w K mg base CX0 (k + 3) fN fdN ["value", "least"] (spSidesO K)) (kN : PySem.W.keepIn K (.ref fN) = true) (bN : Binds K fdN ["value", "least"] []) (gN : mg "are_sides" = some (.ref fN))
    (GM : FnOk P w K mg base CX0 (k + 1) fM fdM ["numbers"] (spProdB K)) (kM : PySem.W.keepIn K (.ref fM) = true) (bM : Binds K fdM ["numbers"] []) (gM : mg "product" = some (.ref fM)) : FnOk P w K mg base (L2.CX P w) (k + 4) f fd ["divisors"] (spDivX K C1 C2) := by
  refine F.okX scChkDiv (fun vs H Q E h => ?_) (fun cdv A outer s H vs Q E hr h => ?_)
  · obtain ⟨v, o, rfl, _⟩ := h
    rfl
  · obtain ⟨v, o, rfl, hO, bd, hne, q⟩ := h
    have hr1 : Room (k + 1) _ := hr.mono (by omega)
    refine ⟨_, pss_cons (ps_if (pt_not (pt_val (pe_call GN hr (by rfl) gN kN bN .nil pass0 (pa_cons (pv 0) (pa_cons pe_int pa_nil)))))
        (pss_one (ps_raise rfl (takes_of rfl rfl rfl rfl) (pmk_oex0 R1.er.ox R1.iC R1.tI G1 hr b1 pass0 (by rfl) R1.at_))) pss_nil)
      (pss_one (ps_if (pt_cmpR op_gt (pe_call GM hr1 (by rfl) gM kM bM .nil pass0 (pa_cons (pv 0) pa_nil)) (pe_glob (v := .int 12) (by rfl) mC ⟨_, rfl⟩) (nomark _))
        (pss_one (ps_raise rfl (takes_of rfl rfl rfl rfl) (pmk_oex R2.er.ox R2.iC R2.tI G2 hr b2 .nil pass0 (by rfl) R2.at_ (pa_cons (pe_glob (v := .int 12) (by rfl) mC ⟨_, rfl⟩) pa_nil)))) pss_nil)), ?_⟩
    refine ⟨_, rfl, v, 1, o, rfl, hO, fun H1 sm => ⟨_, rfl, ?_⟩⟩
    have q1 := q.same sm
    cases hs : sdB o 1 with
    | false =>
      have e : dvE o = 1 := by
        unfold dvE
        rw [hs]
        rfl
      refine iteT fun a na => ⟨a, rfl, upd_same, fun dx nd ne => ?_⟩
      have nd' : H1 dx = none := by rw [← nd, upd_ne ne]
      refine ⟨rfl, dx, _, upd_same, by rw [upd_ne ne, upd_same], nd', (q1 dx _ fun b u h => ?_).1 e upd_same⟩
      have hb : b ≠ a := ne_of_none h na
      have hd : b ≠ dx := ne_of_none h nd'
      rw [upd_ne hd, del_ne hb, upd_ne hb, upd_ne hd, upd_ne hb]
      exact h
    | true =>
      obtain ⟨xs, rfl, ex, l1, l3, hz⟩ := sdB_ints hs
      have e : dvE (some xs) = if 12 < prodL (xs.map uI) then 2 else 0 := by
        unfold dvE
        rw [hs]
        rfl
      have hp : 12 < prodL (xs.map uI) := by
        refine Decidable.byContradiction fun z => hne ?_
        rw [e, if_neg z]
      have e2 : dvE (some xs) = 2 := by rw [e, if_pos hp]
      obtain ⟨a, rfl, hS, _⟩ := id hO
      rw [ex] at hS
      refine iteF ⟨_, rfl, a, xs.map uI, rfl, Same.sqT sm hS, bd, _, _, rfl, rfl, true, congrArg V.bl (decide_eq_true hp), iteT ⟨(by show 1 ≤ 1000; decide), fun b nb => ⟨b, .int 12, rfl, upd_same, fun dx nd ne => ⟨rfl, dx, _, ?_, upd_same, ?_, ?_⟩⟩⟩⟩
      · rw [upd_ne (Ne.symm ne), upd_same]
      · rw [← nd, upd_ne ne]
      · have nd' : H1 dx = none := by rw [← nd, upd_ne ne]
        exact (q1 dx _ fun c u h => made_ext (C := C2) nb nd' c u h).2 e2 upd_same
theorem ok_ccX {f fN C1 C2 : Addr} {fd fdN : FuncData} {k : Nat} (F : Fun K "class_count" "class_count" sClassCount f fd)
    (GN : FnOk P w K mg base (L2.CX P w) (k + 4) fN fdN ["divisors"] (spDivX K C1 C2)) (kN : PySem.W.keepIn K (.ref fN) = true) (bN : Binds K fdN ["divisors"] []) (gN : mg "check_divisors" = some (.ref fN)) : FnOk P w K mg base (L2.CX P w) (k + 5) f fd ["divisors"] (spDivX K C1 C2) := by
  refine F.okX scClassCount (fun vs H Q E h => ?_) (fun cdv A outer s H vs Q E hr h => ?_)
  · obtain ⟨v, o, rfl, _⟩ := h
    rfl
  · obtain ⟨v, o, rfl, hO, bd, hne, q⟩ := h
    exact ⟨_, pss_cons (ps_expr (pe_call GN hr (by rfl) gN kN bN .nil (passes_call (E := E) (takes_of rfl rfl rfl rfl) (fun _ _ _ _ h => h)) (pa_cons (pv 0) pa_nil))) pss_never, _, rfl, v, o, rfl, hO, bd, hne, q⟩
end
end Lk

namespace Lk
open PySem L2 Lx LamX
/-! ### the cells of a box -/
def stepC (found : List (List Int)) (s : Int) : List (List Int) := found.flatMap fun c => (rng0 s.toNat).map fun a => c ++ [a]
def cellsL (ds : List Int) : List (List Int) := ds.foldl stepC [[]]
theorem cellsL_snoc (ds : List Int) (d : Int) : cellsL (ds ++ [d]) = stepC (cellsL ds) d := by
  unfold cellsL
  rw [List.foldl_append]
  rfl
theorem range_mul {α : Type} (g : Nat → α) (m : Nat) : ∀ n : Nat, (List.range (n * m)).map g = (List.range n).flatMap fun q => (List.range m).map fun r => g (q * m + r)
  | 0 => by simp
  | n + 1 => by
    rw [Nat.succ_mul, List.range_add, List.map_append, range_mul g m n, List.range_succ, List.flatMap_append, List.map_map]
    simp [Function.comp_def]
theorem pAt_snoc (ds : List Int) (d c : Int) : pAt (ds ++ [d]) c = pAt ds (c / d) ++ [c % d] := by
  unfold pAt
  rw [List.reverse_append]
  show (restsR (d :: ds.reverse) c).reverse = _
  show ((c % d) :: restsR ds.reverse (c / d)).reverse = _
  rw [List.reverse_cons]
theorem cells_rev : ∀ r : List Int, (∀ z ∈ r, 1 ≤ z) → cellsL r.reverse = (List.range (prodL r.reverse).toNat).map fun (k : Nat) => pAt r.reverse (k : Int)
  | [], _ => rfl
  | x :: r, h => by
    have hx : 1 ≤ x := h x List.mem_cons_self
    obtain ⟨m, rfl⟩ : ∃ m : Nat, x = (m : Int) := ⟨x.toNat, by omega⟩
    have ih := cells_rev r fun z hz => h z (List.mem_cons_of_mem _ hz)
    have hp : 0 ≤ prodL r.reverse := by
      have := prodL_pos (l := r.reverse) fun z hz => h z (List.mem_cons_of_mem _ (List.mem_reverse.mp hz))
      omega
    rw [List.reverse_cons, cellsL_snoc, ih, prodL_app]
    obtain ⟨n, hn⟩ : ∃ n : Nat, prodL r.reverse = (n : Int) := ⟨(prodL r.reverse).toNat, by omega⟩
    rw [hn]
    have e1 : ((n : Int) * (m : Int)).toNat = n * m := by
      rw [← Int.natCast_mul]
      rfl
    rw [e1, range_mul]
    unfold stepC
    rw [List.flatMap_map]
    refine congrArg (fun f => List.flatMap f (List.range n)) (funext fun q => ?_)
    have e2 : ((m : Int)).toNat = m := rfl
    unfold rng0
    rw [e2, List.map_map]
    refine List.map_congr_left fun a ha => ?_
    have ham : a < m := List.mem_range.mp ha
    show pAt r.reverse (q : Int) ++ [(a : Int)] = pAt (r.reverse ++ [(m : Int)]) ((q * m + a : Nat) : Int)
    rw [pAt_snoc]
    have d1 : ((q * m + a : Nat) : Int) / (m : Int) = (q : Int) := by
      rw [← Int.natCast_ediv, Nat.mul_comm, Nat.mul_add_div (by omega), Nat.div_eq_of_lt ham]
      rfl
    have d2 : ((q * m + a : Nat) : Int) % (m : Int) = (a : Int) := by
      rw [← Int.natCast_emod, Nat.mul_comm, Nat.mul_add_mod, Nat.mod_eq_of_lt ham]
    rw [d1, d2]
theorem cells_pAt {ds : List Int} (h : ∀ z ∈ ds, 1 ≤ z) : cellsL ds = (List.range (prodL ds).toNat).map fun (k : Nat) => pAt ds (k : Int) := by
  have := cells_rev ds.reverse fun z hz => h z (List.mem_reverse.mp hz)
  rw [List.reverse_reverse] at this
  exact this
end Lk

namespace Lk
open PySem L2 Lx LamX
theorem HdsAt.apps {K : PySem.W.Frag} {H : Hp} : ∀ {l m : List (List Int)} {ws us : List V}, HdsAt K H l ws → HdsAt K H m us → HdsAt K H (l ++ m) (ws ++ us)
  | [], m, _, us, h, q => by
    have h : _ = [] := h
    rw [h]
    exact q
  | c :: r, m, _, us, ⟨a, wr, h1, h2, h3⟩, q => ⟨a, wr ++ us, by rw [h1]; rfl, h2, HdsAt.apps h3 q⟩
def spLCells (K : PySem.W.Frag) : Sp := fun vs H Q _ => ∃ (a : Addr) (ds : List Int), vs = [.ref a] ∧ SqT K H a (ds.map V.int) ∧ (∀ z ∈ ds, 0 ≤ z ∧ z ≤ 2000) ∧ (∀ i, (cellsL (ds.take i)).length ≤ 2000) ∧ ds.length ≤ 3 ∧
  ∀ H' p ws, Same H H' → H p = none → H' p = some (.lst ws) → HdsAt K H' (cellsL ds) ws → Q (.ref p) H'
theorem size2000 {n : Nat} (h : n ≤ 10000) : n < sizeLine := Nat.lt_of_le_of_lt h (by decide)
theorem cells_lens : ∀ (ds : List Int) (c : List Int), c ∈ cellsL ds → c.length = ds.length := by
  have key : ∀ (ds : List Int) (f : List (List Int)) (n : Nat), (∀ c ∈ f, c.length = n) → ∀ c ∈ ds.foldl stepC f, c.length = n + ds.length := by
    intro ds
    induction ds with
    | nil => intro f n h c hc; exact h c hc
    | cons d r ih =>
      intro f n h c hc
      have := ih (stepC f d) (n + 1) (fun c hc => by
        obtain ⟨x, hx, hc⟩ := List.mem_flatMap.mp hc
        obtain ⟨a, _, rfl⟩ := List.mem_map.mp hc
        rw [List.length_append, h x hx]
        rfl) c hc
      rw [this, List.length_cons]
      omega
  intro ds c hc
  have := key ds [[]] 0 (fun c hc => by rw [List.mem_singleton.mp hc]; rfl) c hc
  omega
section
variable {P : Program} {w : World} {K : PySem.W.Frag} {mg : Str → Option Value} {base : Heap}
end
end Lk

namespace Lk
open PySem L2 Lx LamX
def dTag (o : Option (List V)) : Str := if dvE o = 0 then "value" else if dvE o = 1 then "InvalidDivisors" else "TooManyClasses"
def dFld (o : Option (List V)) : V := if dvE o = 2 then .int 12 else .non
def spDErr (K : PySem.W.Frag) : Sp := fun vs H Q _ => ∃ v o, vs = [v] ∧ OD K H v o ∧ (∀ z ∈ itsI o, -(2 ^ 64) < z ∧ z < 2 ^ 64) ∧ ∀ H' T, Same H H' → SqT K H' T [.str (dTag o), dFld o] → Q (.ref T) H'
section
variable {P : Program} {w : World} {K : PySem.W.Frag} {mg : Str → Option Value} {base : Heap}
theorem ok_countB {f : Addr} {fd : FuncData} {k : Nat} (F : Fun K "_law_count" "_law_count" sCount f fd) : FnOk P w K mg base CX0 (k + 1) f fd ["_law_divisors_z"] (spProdB K) := by
  refine F.ok scCount (fun vs H Q E h => ?_) (fun cdv A outer s H vs Q E hr h => ?_)
  · obtain ⟨a, ns, rfl, _⟩ := h
    rfl
  · obtain ⟨a, ns, rfl, hS, bd, q⟩ := h
    refine ⟨_, pss_cons (ps_set (i := 1) scCount.nd rfl (.inl rfl) pe_int)
      (pss_cons (ps_for PassesOwn.never rfl (pi_tup (pv 0)) (pg_name (i := 2) scCount.nd rfl (.inl rfl)) (pss_one (ps_set (i := 1) scCount.nd rfl (.inl rfl) (pe_op op_mul (pv 1) (pv 2)))))
      (pss_one (ps_ret (pv 1)))), ?_⟩
    refine ⟨_, rfl, a, rfl, ⟨_, hS⟩, for_tup (K := K) (a := a) (xs := ns.map V.int) (fun i σ H2 => ∃ (v : Option V), σ = [some (.ref a), some (.int (prodL (ns.take i))), v] ∧ H2 = H)
      ⟨none, rfl, rfl⟩ (fun i σ H2 _ ⟨_, _, e⟩ => by rw [e]; exact hS) ?_ ?_⟩
    · rintro i y σ H2 hi ⟨v, rfl, rfl⟩
      obtain ⟨u, hu, rfl⟩ := map_get hi
      have b := bd u (List.mem_of_getElem? hu)
      refine ⟨_, rfl, _, rfl, _, _, rfl, rfl, .inr ⟨b.1, b.2⟩, some (.int u), ?_, rfl⟩
      rw [take_more hu, prodL_app]
      rfl
    · rintro σ H2 ⟨v, rfl, rfl⟩
      refine ⟨_, rfl, ?_⟩
      rw [List.length_map, List.take_length]
      exact q
theorem in123 (n : Nat) : inV (.int (n : Int)) [.int 1, .int 2, .int 3] = (decide (1 ≤ n) && decide (n ≤ 3)) := by
  match n with
  | 0 => rfl
  | 1 => rfl
  | 2 => rfl
  | 3 => rfl
  | m + 4 =>
    have e1 : ¬ (m + 4 ≤ 3) := by omega
    rw [decide_eq_false e1, Bool.and_false]
    show (decide ((1 : Int) = ((m + 4 : Nat) : Int)) || (decide ((2 : Int) = ((m + 4 : Nat) : Int)) || (decide ((3 : Int) = ((m + 4 : Nat) : Int)) || false))) = false
    rw [decide_eq_false (by omega), decide_eq_false (by omega), decide_eq_false (by omega)]
    rfl
theorem ok_derr {f fI fM : Addr} {fd fdI fdM : FuncData} {k : Nat} (F : Fun K "_law_divisors_error" "_law_divisors_error" sDivErr f fd) (ms : mg "isinstance" = none) (mt : mg "tuple" = none) (ml : mg "len" = none) (mm : mg "min" = none)
    (GI : FnOk P w K mg base CX0 (k + 1) fI fdI ["_law_value", "_law_directions"] (spNumsO K)) (kI : PySem.W.keepIn K (.ref fI) = true) (bI : Binds K fdI ["_law_value", "_law_directions"] []) (gI : mg "_law_is_place" = some (.ref fI))
    (GM : FnOk P w K mg base CX0 (k + 1) fM fdM ["_law_divisors_z"] (spProdB K)) (kM : PySem.W.keepIn K (.ref fM) = true) (bM : Binds K fdM ["_law_divisors_z"] []) (gM : mg "_law_count" = some (.ref fM)) :
    FnOk P w K mg base CX0 (k + 2) f fd ["_law_value"] (spDErr K) := by
  refine F.ok scDivErr (fun vs H Q E h => ?_) (fun cdv A outer s H vs Q E hr h => ?_)
  · obtain ⟨v, o, rfl, _⟩ := h
    rfl
  · obtain ⟨v, o, rfl, hO, bd, q⟩ := h
    refine ⟨_, pss_cons (ps_if (PW.pt (pw_or (pt_not (pt_val (pe_callB call_isi (by rfl) ms (by decide +kernel) (pa_cons (pv 0) (pa_cons (pe_bltn (v := .ty "tuple") (by rfl) mt (by decide +kernel) rfl) pa_nil)))))
        (pw_or (pt_not (pt_val (pe_call GI hr (by rfl) gI kI bI .nil pass0 (pa_cons (pv 0) (pa_cons (pe_callB call_len_seq (by rfl) ml PySem.boot_len (pa_cons (pv 0) pa_nil)) pa_nil)))))
        (pw_or1 (pt_cmpR op_notIn_seq (pe_callB call_len_seq (by rfl) ml PySem.boot_len (pa_cons (pv 0) pa_nil)) (pe_lst (pa_cons pe_int (pa_cons pe_int (pa_cons pe_int pa_nil)))) (by rfl)))))) (pss_one (ps_ret (pe_tup (pa_cons pe_str (pa_cons pe_non pa_nil))))) pss_nil)
      (pss_cons (ps_if (pt_cmpR op_lt (pe_callB (cr_min2 rfl (hu_of hr)) (by rfl) mm (by decide +kernel) (pa_cons (pv 0) pa_nil)) pe_int (nomark _)) (pss_one (ps_ret (pe_tup (pa_cons pe_str (pa_cons pe_non pa_nil))))) pss_nil)
      (pss_one (ps_ret (pe_ifExp (pt_cmpR op_gt (pe_call GM hr (by rfl) gM kM bM .nil pass0 (pa_cons (pv 0) pa_nil)) pe_int (nomark _)) (pe_tup (pa_cons pe_str (pa_cons pe_int pa_nil))) (pe_tup (pa_cons pe_str (pa_cons pe_non pa_nil))))))), ?_⟩
    have bad : sdB o 1 = false → dTag o = "InvalidDivisors" ∧ dFld o = .non := fun h => by
      have e : dvE o = 1 := by
        unfold dvE
        rw [h]
        rfl
      unfold dTag dFld
      rw [e]
      exact ⟨rfl, rfl⟩
    have badQ : sdB o 1 = false → ∀ H1, Same H H1 → ∀ T, H1 T = none → Q (.ref T) (upd H1 T (.tup [.str "InvalidDivisors", .non])) := fun h H1 sm T nT => by
      refine q _ T (sm.trans (same_new nT)) ?_
      rw [(bad h).1, (bad h).2]
      exact SqT.of upd_same
    cases o with
    | none =>
      have hs : scal v = true := hO
      have qq : ∀ T, H T = none → Q (.ref T) (upd H T (.tup [.str "InvalidDivisors", .non])) := badQ rfl H (Same.refl _)
      have go : [V.str "InvalidDivisors", V.non].length ≤ sizeLine ∧ ∀ p, H p = none → Q (.ref p) (upd H p (.tup [.str "InvalidDivisors", .non])) := ⟨(by show 2 ≤ sizeLine; decide), qq⟩
      cases v with
      | non => exact ⟨_, rfl, _, _, _, _, false, rfl, .ty _, .base .non, kit_ty (by decide +kernel), false, rfl, iteT go⟩
      | bl x => exact ⟨_, rfl, _, _, _, _, false, rfl, .ty _, .base (.bl x), kit_ty (by decide +kernel), false, rfl, iteT go⟩
      | int x => exact ⟨_, rfl, _, _, _, _, false, rfl, .ty _, .base (.int x), kit_ty (by decide +kernel), false, rfl, iteT go⟩
      | str x => exact ⟨_, rfl, _, _, _, _, false, rfl, .ty _, .base (.str x), kit_ty (by decide +kernel), false, rfl, iteT go⟩
      | _ => cases hs
    | some xs =>
    obtain ⟨a, rfl, hS, h3, h4⟩ := id hO
    refine ⟨_, rfl, _, _, _, _, true, rfl, .ty _, tyT hS, kit_ty (by decide +kernel), true, rfl, iteF ?_⟩
    refine ⟨_, rfl, _, rfl, a, _, rfl, .inr hS, .ref a, _, some xs, rfl, hO, fun H1 sm => ⟨_, rfl, ?_⟩⟩
    have e0 : plB (some xs) (xs.length : Int) = xs.all isI := by
      show (decide ((xs.length : Int) = xs.length) && xs.all isI) = _
      rw [decide_eq_true rfl]
      rfl
    rw [e0]
    cases hi : xs.all isI with
    | false =>
      have hb : sdB (some xs) 1 = false := by
        rw [sdB_some, hi, Bool.false_and, Bool.and_false]
      exact iteT ⟨(by show 2 ≤ sizeLine; decide), badQ hb H1 sm⟩
    | true =>
    refine iteF ?_
    refine ⟨_, rfl, a, _, rfl, .inr (Same.sqT sm hS), (by show 3 ≤ sizeLine; decide), fun L nL => ⟨L, _, rfl, .inl (SqL.of upd_same), rfl, rfl, _, rfl, ?_⟩⟩
    have sL := sm.trans (same_new (o := .lst [.int 1, .int 2, .int 3]) nL)
    have ei := in123 xs.length
    rw [if_pos rfl, ei]
    cases hl : (decide (1 ≤ xs.length) && decide (xs.length ≤ 3)) with
    | false =>
      have hb : sdB (some xs) 1 = false := by
        rw [sdB_some, hl]
        rfl
      exact iteT ⟨(by show 2 ≤ sizeLine; decide), badQ hb _ sL⟩
    | true =>
    refine iteF ?_
    obtain ⟨hl1, hl3⟩ := Bool.and_eq_true_iff.mp hl
    have l1 := of_decide_eq_true hl1
    have ex := ints_isI hi
    rw [ex] at hS
    refine ⟨_, rfl, a, xs.map uI, rfl, Same.sqT sL hS, by rw [List.length_map]; omega, fun m hm hle => ⟨_, _, rfl, rfl, _, rfl, ite2 (fun z => ?_) (fun z => ?_)⟩⟩
    · have zm : m < 1 := of_decide_eq_true z
      have hb : sdB (some xs) 1 = false := by
        refine Bool.eq_false_iff.mpr fun h => ?_
        obtain ⟨ys, ey, _, _, _, hz⟩ := sdB_ints h
        cases ey
        have := hz m hm
        omega
      exact ⟨(by show 2 ≤ sizeLine; decide), badQ hb _ sL⟩
    · have zm : 1 ≤ m := by
        refine Decidable.byContradiction fun h => z (decide_eq_true ?_)
        omega
      have hg : sdB (some xs) 1 = true := by
        rw [sdB_some, hl, hi]
        show (xs.all fun x => decide (1 ≤ uI x)) = true
        refine List.all_eq_true.mpr fun x hx => decide_eq_true ?_
        have := hle (uI x) (List.mem_map.mpr ⟨x, hx, rfl⟩)
        omega
      have e : dvE (some xs) = if 12 < prodL (xs.map uI) then 2 else 0 := by
        unfold dvE
        rw [hg]
        rfl
      refine ⟨_, rfl, a, xs.map uI, rfl, Same.sqT sL hS, bd, _, _, rfl, rfl, _, rfl, ite2 (fun y => ?_) (fun y => ?_)⟩
      · have hp : 12 < prodL (xs.map uI) := of_decide_eq_true y
        refine ⟨(by show 2 ≤ sizeLine; decide), fun T nT => q _ T (sL.trans (same_new nT)) ?_⟩
        unfold dTag dFld
        rw [e, if_pos hp]
        exact SqT.of upd_same
      · have hp : ¬ 12 < prodL (xs.map uI) := fun h => y (decide_eq_true h)
        refine ⟨(by show 2 ≤ sizeLine; decide), fun T nT => q _ T (sL.trans (same_new nT)) ?_⟩
        unfold dTag dFld
        rw [e, if_neg hp]
        exact SqT.of upd_same
end
end Lk

/-! a for in a generator's body -/
namespace LrA
open PySem PySem.Spec PyProof.Rows GenW L2

section
variable {M : Model} {A : Around} {R : GenEnd} {Y : Protocol} {n : Nat} {s₀ : Shared} {c : Code} {fs : List Frame} {s : Shared} {env : Env}
  {K : Flow → Sem PySem.Fin} {H : Value → Sem PySem.Fin} {gd : Bool → Bool} {lv : List Value → List Value}
theorem seg_For {target iter : Expr} {body orelse : List Stmt} {pos : Pos} (hs : ∀ x, foldedSetIterable iter env x = pure x)
    (h : wpAny M (A.over c fs) (eval iter env) (fun x s₁ => wpAny M (A.over c fs) (pyIter x) (fun it s₂ => ∀ p, Seg M A R Y n s₀ (.forLoop target it body orelse env) (M.den (.forLoop target it body orelse env))
      (.ret (fun r => ((match r with | .ok f => (.pure f : Sem Flow) | .error e => .raise e).onRaise (cameBack env)).wrap K H gd lv) none (gd false) (lv []) c p [] :: fs) s₂)
      (fun x s' => Seg M A R Y n s₀ c (H x) fs s') s₁) (fun x s' => Seg M A R Y n s₀ c (H x) fs s') s) :
    Seg M A R Y n s₀ c ((exec (.For target iter body orelse pos) env).wrap K H gd lv) fs s := by
  rw [exec_For]
  refine seg_bind_wrap (wpAny_standAt (seg_bind_wrap (wpAny_mono h (fun x s₁ h₁ => seg_bind_wrap (wpAny_of_eq (hs x) (seg_bind_wrap (wpAny_standAt (seg_bind_wrap (wpAny_holding
    (wpAny_mono h₁ (fun it s₂ h₂ => ?_) fun _ _ h' => h'))))))) fun _ _ h' => h')))
  exact seg_call h₂
end
section
variable {prog : Program} {w : World} {A : Around} {R : GenEnd} {Y : Protocol} {n : Nat} {s₀ : Shared} {fs : List Frame} {s : Shared} {env : Env}
theorem seg_forLoop {target : Expr} {it : Value} {body orelse : List Stmt}
    (h : wpAny (model prog w) (A.over (.forLoop target it body orelse env) fs) (pyNext it) (fun r s₁ => match r with
        | none => Seg (model prog w) A R Y n s₀ (.forLoop target it body orelse env) (.pure (.again (.block orelse env))) fs s₁
        | some v => wpAny (model prog w) (A.over (.forLoop target it body orelse env) fs) (letOwnedTupleGo target it v) (fun _ s₂ =>
            wpAny (model prog w) (A.over (.forLoop target it body orelse env) fs) (assign target env v) (fun _ s₃ =>
              Seg (model prog w) A R Y n s₀ (.forLoop target it body orelse env) ((execs body env).wrap (fun f => match f with
                | .next | .cont => .pure (.again (.forLoop target it body orelse env))
                | .brk => .pure (.done .next)
                | .ret v => .pure (.done (.ret v))) (fun e => (do noteFrame e env; theTreesLotGoes e : Sem Unit).wrap (fun _ => .raise e) .raise id id) id id) fs s₃)
              (fun x s' => Seg (model prog w) A R Y n s₀ (.forLoop target it body orelse env) ((do noteFrame x env; theTreesLotGoes x : Sem Unit).wrap (fun _ => .raise x) .raise id id) fs s') s₂)
            (fun x s' => Seg (model prog w) A R Y n s₀ (.forLoop target it body orelse env) ((do noteFrame x env; theTreesLotGoes x : Sem Unit).wrap (fun _ => .raise x) .raise id id) fs s') s₁)
      (fun x s' => Seg (model prog w) A R Y n s₀ (.forLoop target it body orelse env) ((do noteFrame x env; theTreesLotGoes x : Sem Unit).wrap (fun _ => .raise x) .raise id id) fs s') s) :
    Seg (model prog w) A R Y n s₀ (.forLoop target it body orelse env) ((model prog w).den (.forLoop target it body orelse env)) fs s := by
  show Seg _ A R Y n s₀ _ ((forTurn target it body orelse env).onRaise (fun x => do noteFrame x env; theTreesLotGoes x)) fs s
  unfold forTurn
  rw [Sem.onRaise_eq_wrap]
  have eH : (fun e => (do noteFrame e env; theTreesLotGoes e : Sem Unit).bind fun _ => (.raise e : Sem PySem.Fin)) = (fun e => (do noteFrame e env; theTreesLotGoes e : Sem Unit).wrap (fun _ => .raise e) .raise id id) := funext fun e => Sem.bind_eq_wrap _ _
  rw [eH]
  refine seg_bind_wrap (wpAny_standAt (seg_bind_wrap (wpAny_onRaise (wpAny_mono h (fun r s₁ h₁ => ?_) fun _ _ h' => wpAny_standAt h'))))
  cases r with
  | none => exact h₁
  | some v =>
    refine seg_bind_wrap (wpAny_mono h₁ (fun _ s₂ h₂ => ?_) fun _ _ h' => h')
    refine seg_bind_wrap (wpAny_mono h₂ (fun _ s₃ h₃ => ?_) fun _ _ h' => h')
    rw [Sem.bind_eq_wrap', Sem.wrap_wrap]
    refine Eq.mp (congrArg (fun t => Seg (model prog w) A R Y n s₀ (.forLoop target it body orelse env) t fs s₃) (Sem.wrap_congr (execs body env) _ _ (fun f => ?_) (fun e => ?_))) h₃
    · cases f <;> rfl
    · rfl
end
section
variable {X : Cx}
/-- a for whose body hands out; W: the invariant by the turn and a measure -/
def tGFor (wi : TI) (g : TG) (tb : TGn) : TGn := fun D ys σ H => wi σ H fun J H1 => ∃ W : Nat → Nat → List V → L2.St → Hp → Prop, (∃ m, W 0 m ys σ H1) ∧ ∀ i m ys σ H, W i m ys σ H →
  (J.stop i H ∧ D.nx ys σ H) ∨ (J.go i H ∧ ∃ N : List V → L2.St → Hp → Prop, (∀ ys' σ' H', N ys' σ' H' → ∃ m', m' < m ∧ W (i + 1) m' ys' σ' H') ∧
    ∀ x H', J.yld i H x H' → g x σ H' fun σ2 H2 => tb { D with nx := N, ct := N, bk := D.nx } ys σ2 H2)
theorem gs_for {tg iter : Expr} {body : List Stmt} {pos : Pos} {wi : TI} {g : TG} {tb : TGn} (hp : PassesOwn (model X.prog X.w) X.A X.env X.xe) (hc : X.calm = true) (hi : PI X tg iter wi) (hg : PG X tg g) (hb : GSs X body tb)
    (hs : ∀ x, foldedSetIterable iter X.env x = pure x := by intro _; rfl) : GS X (.For tg iter body [] pos) (tGFor wi g tb) := by
  refine ⟨fun A S ip R n ys s₀ c fs K J gd lv s σ H D gc hn k hI ht => ?_⟩
  obtain ⟨acc0, c0, r0, I0⟩ := hI
  refine seg_For hs ?_
  rw [gc.over]
  refine wpAny_mono (hi.run _ s σ H _ I0 ht) (fun v s1 h1 => wpAny_mono h1 (fun itv s2 h2 p => ?_) fun x s' hx => k.exc n s₀ x s' hx) fun x s' hx => k.exc n s₀ x s' hx
  obtain ⟨it, fp, tn, Jt, H2, e, I2, T, st2, f2, W, ⟨m0, w0⟩, turn⟩ := h2
  subst e
  have stat : ∀ {H' : Hp} {o : Obj}, (∀ b ∈ fp, H' b = none) → ∀ b ∈ fp, FpOk X ((S, o) :: ip) H' b := fun {H' o} hn b hb => by
    obtain ⟨_, z1, z2, z3, z4, z5⟩ := f2 b hb
    refine ⟨hn b hb, z1, z2, z3, z4, fun p hp => ?_⟩
    rcases List.mem_append.mp hp with hp | hp
    · exact z5 p (List.mem_append_left _ hp)
    · rcases List.mem_cons.mp hp with hp | hp
      · rw [hp]; exact z5 (S, lstObj acc0 c0) (List.mem_append_right _ List.mem_cons_self)
      · exact z5 p (List.mem_append_right _ (List.mem_cons_of_mem _ hp))
  have notS : ∀ b ∈ fp, b ≠ S := fun b hb => Ne.symm ((f2 b hb).2.2.2.2.2 (S, lstObj acc0 c0) (List.mem_append_right _ List.mem_cons_self))
  have gl := fun (kk : Result → Sem PySem.Fin) => gc_loop (k := kk) (c' := .forLoop tg (.ref it) body [] X.env) (l := lv []) (kp := []) (p := p) gc rfl rfl
  have loop : ∀ (m i n : Nat) (ys : List V) (s₀ s : Shared) (σ : L2.St) (H : Hp), n + ys.length = sizeLine → W i m ys σ H → GI X S ip ys σ H s → tn i s.heap → (∀ b ∈ fp, H b = none) →
      Seg (model X.prog X.w) A R (GY X S) n s₀ (.forLoop tg (.ref it) body [] X.env) ((model X.prog X.w).den (.forLoop tg (.ref it) body [] X.env))
        (.ret (fun r => ((match r with | .ok f => (.pure f : Sem Flow) | .error e => .raise e).onRaise (cameBack X.env)).wrap K J gd lv) none (gd false) (lv []) c p [] :: fs) s := by
    intro m
    induction m using Nat.strongRecOn with
    | ind m ih =>
      intro i n ys s₀ s3 σ3 H3 hn w3 hI st3 fr3
      have ee : ∀ (n : Nat) (s₀ : Shared) (x : Value) (s' : Shared), X.xe x s' → Seg (model X.prog X.w) A R (GY X S) n s₀ (.forLoop tg (.ref it) body [] X.env)
          ((do noteFrame x X.env; theTreesLotGoes x : Sem Unit).wrap (fun _ => .raise x) .raise id id)
          (.ret (fun r => ((match r with | .ok f => (.pure f : Sem Flow) | .error e => .raise e).onRaise (cameBack X.env)).wrap K J gd lv) none (gd false) (lv []) c p [] :: fs) s' := fun n s₀ x s' hx => by
        refine seg_wrap ?_
        rw [(gl _).over]
        refine wpAny_bind (wpAny_mono (hp x s' hx) (fun _ s'' hcb => wpAny_theTreesLotGoes ?_) fun y s'' hcb => ?_)
        · exact seg_leaf (.error x) (seg_cameBack gc k hcb)
        · exact seg_leaf (.error y) (seg_cameBack gc k hcb)
      refine seg_forLoop ?_
      rw [(gl _).over]
      obtain ⟨acc, cc, r, I3⟩ := hI
      rcases turn i m ys σ3 H3 w3 with ⟨stop, qn⟩ | ⟨go, N, hN, step⟩
      · refine wpAny_mono (T.done X rfl rfl rfl hc i _ s3 σ3 H3 X.xe I3 (stat fr3) st3 stop) (fun r' s4 ⟨hr, I4⟩ => ?_) fun x s' hx => ee n s₀ x s' hx
        subst hr
        refine seg_again rfl ?_
        exact seg_leaf (.ok .next) (k.ok n ys s₀ s4 .next hn ⟨σ3, H3, ⟨acc, cc, r, I4⟩, qn⟩)
      · refine wpAny_mono (T.item X rfl rfl rfl hc i _ s3 σ3 H3 X.xe I3 (stat fr3) st3 go) (fun r' s4 ⟨u, hr, h4⟩ => ?_) fun x s' hx => ee n s₀ x s' hx
        subst hr
        refine wpAny_mono h4 (fun _ s5 ⟨x, H5, I5, r5, y5, st5, fr5⟩ => ?_) fun x s' hx => ee n s₀ x s' hx
        have I5' := I5.pinned (stat fr5) (T.obj _ _ st5)
        refine wpAny_mono (hg.run _ s5 σ3 H5 x u _ I5' r5 (step x H5 y5)) (fun _ s6 ⟨σ6, H6, I6, q6⟩ => ?_) fun x s' hx => ee n s₀ x s' hx
        have gc' := fun (kk : Result → Sem PySem.Fin) => (show GC X S (ip ++ pinsAt fp s5.heap) A (.forLoop tg (.ref it) body [] X.env) (.ret kk none (gd false) (lv []) c p [] :: fs) id from
          { gl kk with ip := fun q hq => (List.mem_append.mp hq).elim (gc.ip q) fun z => notS _ (of_pinsAt z).1 })
        have back : ∀ {n' : Nat} {ys' : List V} {s₀' s7 : Shared} {σ7 : L2.St} {H7 : Hp}, n' + ys'.length = sizeLine → GI X S (ip ++ pinsAt fp s5.heap) ys' σ7 H7 s7 → N ys' σ7 H7 →
            Seg (model X.prog X.w) A R (GY X S) n' s₀' (.forLoop tg (.ref it) body [] X.env) (.pure (.again (.forLoop tg (.ref it) body [] X.env)))
              (.ret (fun r => ((match r with | .ok f => (.pure f : Sem Flow) | .error e => .raise e).onRaise (cameBack X.env)).wrap K J gd lv) none (gd false) (lv []) c p [] :: fs) s7 := fun {n' ys' s₀' s7 σ7 H7} hn' hI7 n7 => by
          obtain ⟨m', hm, w7⟩ := hN ys' σ7 H7 n7
          obtain ⟨acc7, c7, r7, I7⟩ := hI7
          refine seg_again rfl (ih m' hm (i + 1) n' ys' s₀' s7 σ7 H7 hn' w7 ⟨acc7, c7, r7, Inv.unpinned (pins := (S, lstObj acc7 c7) :: ip) I7⟩ (T.keep _ _ _ st5 fun b hb o e => ?_) fun b hb => ?_)
          · exact (I7.pin (b, o) (List.mem_append_right _ (List.mem_cons_of_mem _ (List.mem_append_right _ (mem_pinsAt hb e))))).1
          · obtain ⟨o, e, d⟩ := T.obj _ _ st5 b hb
            exact (I7.pin (b, o) (List.mem_append_right _ (List.mem_cons_of_mem _ (List.mem_append_right _ (mem_pinsAt hb e))))).2.1
        refine hb.run A S (ip ++ pinsAt fp s5.heap) R n ys s₀ _ _ _ _ id id s6 σ6 H6 { D with nx := N, ct := N, bk := D.nx } (gc' _) hn ⟨fun n' ys' s₀' s7 f hn' hs7 => ?_, fun n' s₀' x s' hx => ee n' s₀' x s' hx⟩ ⟨acc, cc, r, I6⟩ q6
        cases f with
        | next => obtain ⟨σ7, H7, I7, n7⟩ := hs7; exact back hn' I7 n7
        | cont => obtain ⟨σ7, H7, I7, n7⟩ := hs7; exact back hn' I7 n7
        | brk =>
          obtain ⟨σ7, H7, ⟨acc7, c7, r7, I7⟩, q7⟩ := hs7
          exact seg_leaf (.ok .next) (k.ok n' ys' s₀' s7 .next hn' ⟨σ7, H7, ⟨acc7, c7, r7, Inv.unpinned (pins := (S, lstObj acc7 c7) :: ip) I7⟩, q7⟩)
        | ret v =>
          obtain ⟨x7, σ7, H7, ⟨acc7, c7, r7, I7⟩, rr, q7⟩ := hs7
          exact seg_leaf (.ok (.ret v)) (k.ok n' ys' s₀' s7 (.ret v) hn' ⟨x7, σ7, H7, ⟨acc7, c7, r7, Inv.unpinned (pins := (S, lstObj acc7 c7) :: ip) I7⟩, rr, q7⟩)
  exact loop m0 0 n ys s₀ s2 σ H2 hn w0 ⟨acc0, c0, r0, I2⟩ st2 fun b hb => (f2 b hb).1
/-- over range(n) -/
theorem gfor_range {lo : Int} {n : Nat} {g : TG} {tb : TGn} {D : GEnds} {ys : List V} {σ : L2.St} {H : Hp} (Pv : Nat → List V → L2.St → Hp → Prop) (h0 : Pv 0 ys σ H)
    (hs : ∀ i ys σ H, i < n → Pv i ys σ H → g (.int (lo + i)) σ H fun σ2 H2 => tb { D with nx := Pv (i + 1), ct := Pv (i + 1), bk := D.nx } ys σ2 H2) (hd : ∀ ys σ H, Pv n ys σ H → D.nx ys σ H) :
    ∃ W : Nat → Nat → List V → L2.St → Hp → Prop, (∃ m, W 0 m ys σ H) ∧ ∀ i m ys σ H, W i m ys σ H →
      ((Itr lo n).stop i H ∧ D.nx ys σ H) ∨ ((Itr lo n).go i H ∧ ∃ N : List V → L2.St → Hp → Prop, (∀ ys' σ' H', N ys' σ' H' → ∃ m', m' < m ∧ W (i + 1) m' ys' σ' H') ∧
        ∀ x H', (Itr lo n).yld i H x H' → g x σ H' fun σ2 H2 => tb { D with nx := N, ct := N, bk := D.nx } ys σ2 H2) := by
  refine ⟨fun i m ys σ H => m = n - i ∧ i ≤ n ∧ Pv i ys σ H, ⟨n, by simp, Nat.zero_le _, h0⟩, ?_⟩
  rintro i m ys σ H ⟨rfl, hi, p⟩
  by_cases hlt : i < n
  · refine .inr ⟨hlt, Pv (i + 1), fun ys' σ' H' p' => ⟨n - (i + 1), by omega, rfl, hlt, p'⟩, fun x H' y => ?_⟩
    obtain ⟨e, y⟩ := y
    subst e y
    exact hs i ys σ _ hlt p
  · have e : i = n := by omega
    subst e
    exact .inl ⟨Nat.le_refl _, hd ys σ H p⟩
end
end LrA

namespace Lk
end Lk

namespace Lk
open PySem L2 Lx LamX LrA
/-! ### the cells of a box -/
def spPlaceAtB (K : PySem.W.Frag) : Sp := fun vs H Q _ => ∃ (a : Addr) (ds : List Int) (c : Int), vs = [.ref a, .int c] ∧ SqT K H a (ds.map V.int) ∧ (∀ z ∈ ds, 1 ≤ z ∧ z < 2 ^ 30) ∧ ds.length ≤ 3 ∧ ∀ H' p, Same H H' → SqT K H' p ((pAt ds c).map V.int) → Q (.ref p) H'
/-- the cells of a box -/
def cellN (ns : List Int) : List (List Int) := (List.range (prodL ns).toNat).map fun (i : Nat) => pAt ns (i : Int)
def spCells (K : PySem.W.Frag) : SpG := fun vs H Q _ => ∃ (a : Addr) (ns : List Int), vs = [.ref a] ∧ SqT K H a (ns.map V.int) ∧ 1 ≤ ns.length ∧ ns.length ≤ 3 ∧ (∀ z ∈ ns, 0 ≤ z ∧ z < 2 ^ 64) ∧ 0 ≤ prodL ns ∧ prodL ns ≤ 2000 ∧ (1 ≤ prodL ns → ∀ z ∈ ns, 1 ≤ z ∧ z < 2 ^ 30) ∧
  ∀ H' ws, Same H H' → HdsAt K H' (cellN ns) ws → Q ws H'
section
variable {P : Program} {w : World} {K : PySem.W.Frag} {mg : Str → Option Value} {base : Heap}
theorem ok_placeatB {f : Addr} {fd : FuncData} {k : Nat} (F : Fun K "place_at" "place_at" sPlaceAt f fd) (mt : mg "tuple" = none) : FnOk P w K mg base CX0 (k + 1) f fd ["sides", "number"] (spPlaceAtB K) := by
  refine F.ok scPlaceAt (fun vs H Q E h => ?_) (fun cdv A outer s H vs Q E hr h => ?_)
  · obtain ⟨a, ds, c, rfl, _⟩ := h
    rfl
  · obtain ⟨a, ds, c, rfl, hA, hD, h3, q⟩ := h
    refine ⟨_, pss_cons (ps_set (i := 2) scPlaceAt.nd rfl (.inl rfl) (pe_lst pa_nil))
      (pss_cons (ps_for PassesOwn.never rfl (pi_tup (pe_revT (pv 0))) (pg_name (i := 3) scPlaceAt.nd rfl (.inl rfl))
        (pss_cons (ps_expr (pe_bm PySem.F.plainAttrs_list PySem.F.slot_list_append PySem.F.type_list_append mt_append (pv 2) (pa_cons (pe_op op_mod (pv 1) (pv 3)) pa_nil)))
        (pss_one (ps_set (i := 1) scPlaceAt.nd rfl (.inl rfl) (pe_op op_fdiv (pv 1) (pv 3))))))
      (pss_one (ps_ret (pe_callTy call_tuple_of (by rfl) mt (by decide +kernel) (pa_cons (pe_revL (pv 2)) pa_nil))))), ?_⟩
    refine ⟨Nat.zero_le _, fun o no => ?_⟩
    have s0 := same_new (o := .lst []) no
    refine ⟨_, rfl, a, _, rfl, Same.sqT s0 hA, fun r nr => ?_⟩
    have s1 := s0.trans (same_new (o := .tup (ds.map V.int).reverse) nr)
    have noR : o ≠ r := ne_of_none upd_same nr
    have er : (ds.map V.int).reverse = ds.reverse.map V.int := by rw [List.map_reverse]
    have hR : SqT K (upd (upd H o (.lst [])) r (.tup (ds.map V.int).reverse)) r (ds.reverse.map V.int) := by
      rw [← er]
      exact SqT.of upd_same
    refine ⟨r, rfl, ⟨_, hR⟩, for_tup (K := K) (a := r) (xs := ds.reverse.map V.int) (fun i σ H2 => ∃ v3 : Option V, σ = [some (.ref a), some (.int (quoR (ds.reverse.take i) c)), some (.ref o), v3] ∧ Same H H2 ∧ SqT K H2 r (ds.reverse.map V.int) ∧ H2 o = some (.lst ((restsR (ds.reverse.take i) c).map V.int)))
      ⟨none, rfl, s1, hR, by rw [upd_ne noR]; exact upd_same⟩ (fun i σ H2 _ ⟨_, _, _, h, _⟩ => h) ?_ ?_⟩
    · rintro i y σ H2 hi ⟨v3, rfl, sm, hR2, ho⟩
      obtain ⟨u, hu, rfl⟩ := map_get hi
      have hm : u ∈ ds := List.mem_reverse.mp (List.mem_of_getElem? hu)
      obtain ⟨u1, u12⟩ := hD u hm
      have hi3 : i < ds.reverse.length := (List.getElem?_eq_some_iff.mp hu).1
      rw [List.length_reverse] at hi3
      refine ⟨_, rfl, .inl ⟨rfl, _, SqL.of ho⟩, _, rfl, _, rfl, _, _, rfl, rfl, (by show (0 : Int) < u; omega), o, _, _, rfl, rfl, ho, ?_, ?_⟩
      · rw [List.length_map, restsR_len]
        exact small1000 (Nat.le_trans (List.length_take_le _ _) (by omega))
      refine ⟨_, rfl, _, rfl, _, u, rfl, rfl, ⟨by omega, by omega⟩, some (.int u), ?_, Same.upd_out sm no, ?_, ?_⟩
      · rw [take_more hu, quoR_app]
        rfl
      · exact tups_lst ho _ _ hR2
      · rw [upd_same, take_more hu, restsR_app, List.map_append]
        rfl
    · rintro σ H2 ⟨v3, rfl, sm, hR2, ho⟩
      rw [List.length_map, List.take_length] at ho
      refine ⟨_, rfl, o, _, rfl, SqL.of ho, fun l nl => ?_⟩
      have s3 := sm.trans (same_new (o := .lst ((restsR ds.reverse c).map V.int).reverse) nl)
      refine ⟨l, _, rfl, .inl ⟨SqL.of upd_same, fun p np => ?_⟩⟩
      refine q _ p (s3.trans (same_new np)) ?_
      unfold pAt
      rw [List.map_reverse]
      exact SqT.of upd_same
end
end Lk

namespace Lk
open PySem L2 Lx LamX LrA
/-! ### check_box where it raises nothing -/
theorem sdB_box {ns : List Int} (h1 : 1 ≤ ns.length) (h3 : ns.length ≤ 3) (hz : ∀ z ∈ ns, 0 ≤ z) : sdB (some (ns.map V.int)) 0 = true := by
  rw [sdB_some, isI_ints, List.length_map]
  have e : ((ns.map V.int).all fun x => decide ((0 : Int) ≤ uI x)) = true := by
    rw [List.all_eq_true]
    intro x hx
    obtain ⟨z, hz', rfl⟩ := List.mem_map.mp hx
    exact decide_eq_true (hz z hz')
  rw [e]
  simp [h1, h3]
theorem prodL_nn : ∀ {l : List Int}, (∀ z ∈ l, 0 ≤ z) → 0 ≤ prodL l
  | [], _ => by simp [prodL]
  | x :: r, h => Int.mul_nonneg (h x List.mem_cons_self) (prodL_nn fun z hz => h z (List.mem_cons_of_mem _ hz))
/-- a box with cells: each side is at least 1 and at most their number -/
theorem prodL_sides : ∀ {l : List Int}, (∀ z ∈ l, 0 ≤ z) → 1 ≤ prodL l → ∀ z ∈ l, 1 ≤ z ∧ z ≤ prodL l
  | [], _, _, z, hz => by simp at hz
  | x :: r, h, hp, z, hz => by
    have hx := h x List.mem_cons_self
    have hr := fun z hz => h z (List.mem_cons_of_mem _ hz)
    have n := prodL_nn hr
    have hp' : 1 ≤ x * prodL r := hp
    have x1 : 1 ≤ x := by
      rcases Int.lt_or_le 0 x with g | g
      · omega
      · have : x = 0 := by omega
        rw [this, Int.zero_mul] at hp'
        omega
    have r1 : 1 ≤ prodL r := by
      rcases Int.lt_or_le 0 (prodL r) with g | g
      · omega
      · have : prodL r = 0 := by omega
        rw [this, Int.mul_zero] at hp'
        omega
    show 1 ≤ z ∧ z ≤ x * prodL r
    rcases List.mem_cons.mp hz with e | e
    · subst e
      have : z * 1 ≤ z * prodL r := Int.mul_le_mul_of_nonneg_left r1 hx
      omega
    · obtain ⟨y1, y2⟩ := prodL_sides hr r1 z e
      have : 1 * prodL r ≤ x * prodL r := Int.mul_le_mul_of_nonneg_right x1 n
      omega
def spChkBox (K : PySem.W.Frag) : Sp := fun vs H Q _ => ∃ (a : Addr) (ns : List Int), vs = [.ref a, .int ns.length] ∧ SqT K H a (ns.map V.int) ∧ 1 ≤ ns.length ∧ ns.length ≤ 3 ∧ (∀ z ∈ ns, 0 ≤ z) ∧ ∀ H', Same H H' → Q .non H'
section
variable {P : Program} {w : World} {K : PySem.W.Frag} {mg : Str → Option Value} {base : Heap}
end
end Lk

namespace Lk
open PySem L2 Lx LamX LrA
/-! ### cells, refused when the first cell is asked for -/
def bxE (o : Option (List V)) : Nat := if sdB o 0 = true then (if 2000 < prodL (itsI o) then 2 else 0) else 1
def BxK (C1 C2 : Addr) (v : V) (e : Nat) (H : Hp) (E : XK) : Prop := ∀ (d : Addr) (H' : Hp), (∀ b u, H b = some u → H' b = some u) →
  (e = 1 → H' d = some (.xd (xflds "given" v "InvalidBox")) → E (.ref C1) (some d) H') ∧ (e = 2 → H' d = some (.xd (xflds "limit" (.int 2000) "TooManyCells")) → E (.ref C2) (some d) H')
theorem BxK.same {C1 C2 : Addr} {v : V} {e : Nat} {H H1 : Hp} {E : XK} (k : BxK C1 C2 v e H E) (s : Same H H1) : BxK C1 C2 v e H1 E := fun d H' x => k d H' fun b u h => x b u (s b u h)
def spCellsX (K : PySem.W.Frag) (C1 C2 : Addr) : SpG := fun vs H _ E => ∃ (v : V) (o : Option (List V)), vs = [v] ∧ OD K H v o ∧ (∀ z ∈ itsI o, -(2 ^ 64) < z ∧ z < 2 ^ 64) ∧ bxE o ≠ 0 ∧ BxK C1 C2 v (bxE o) H E
section
variable {P : Program} {w : World} {K : PySem.W.Frag} {mg : Str → Option Value} {base : Heap}
end
end Lk

namespace Lk
open PySem L2 Lx LamX LrA
/-! ### InvalidBox and TooManyCells are made -/
section
variable {P : Program} {w : World} {K : PySem.W.Frag} {mg : Str → Option Value} {base : Heap}
end
end Lk

namespace Lk
open PySem L2 Lx LamX LrA
/-! ### list(cells(box)) where nothing is raised -/
abbrev noE : XK := fun _ _ _ => False
theorem passF {X : Cx} : Passes (L2.CX X.prog X.w) X noE := by
  intro pins σ H s e s' I c
  obtain ⟨a, B, H', cls, d, _, _, _, _, _, _, _, hW⟩ := c
  exact hW.elim
theorem noStopF {K : PySem.W.Frag} : NoStop K noE := fun _ _ _ h => h.elim
theorem pe_cells {X : Cx} {k : Nat} {f : Addr} {fd : FuncData} {e : Expr} {te : TE} {p p' pos pos' : Pos} (G : GFn X.prog X.w X.K X.mg X.base k f fd ["box"] (spCells X.K)) (hr : Room (k + 3) X.A) (hr' : Room k X.A) (gc : Gl X "cells") (hm : X.mg "cells" = some (.ref f)) (hk : PySem.W.keepIn X.K (.ref f) = true) (hb : Binds X.K fd ["box"] [])
    (gl : Gl X "list") (ml : X.mg "list" = none) (he : PE X e te) (h1 : starEach [e] X.env = (false, eval e X.env) :: starEach [] X.env := by rfl) (h2 : starEach [Expr.Call (.Name "cells" p') [e] [] pos'] X.env = (false, eval (Expr.Call (.Name "cells" p') [e] [] pos') X.env) :: starEach [] X.env := by rfl) :
    PE X (.Call (.Name "list" p) [.Call (.Name "cells" p') [e] [] pos'] [] pos) (tListG (tCallG (spCells X.K) [] noE (tCons te tNil))) :=
  pe_listG (pgen_call G hr' gc hm hk hb .nil (pa_cons (hs := h1) he pa_nil) (by decide) h1 (by rfl)) passF noStopF hr gl ml (by decide +kernel) (by decide) (by decide) h2
end Lk

/-! sorted(xs, key=o.m) by the promise of m -/
namespace LqA
open PySem PySem.Spec PyProof.Rows L2

/-- o.m as a value -/
def tBound (C g : Addr) (m : Str) (ta : TE) : TE := fun σ H Q => ta σ H fun x H1 => ∃ a dx fs, x = .ref a ∧ H1 a = some (.ins C dx fs) ∧ fs.lookup m = none ∧ ∀ q, H1 q = none → Q (.ref q) (upd H1 q (.met g a))
theorem pe_bound {X : Cx} {e : Expr} {m : Str} {pos : Pos} {ta : TE} {C g : Addr} (he : PE X e ta) (c : Cls X.K C) (k : BMeth X.K C m g) (hb : attributeBase e m X.env (eval e X.env) = eval e X.env) : PE X (.Attribute e m pos) (tBound C g m ta) := by
  refine ⟨fun pins s σ H Q I h => attr_of hb (thn (he.run pins s σ H _ I h) fun u s1 ⟨x, H1, I1, rx, a, dx, fs, ex, ea, l, q⟩ => ?_)⟩
  subst ex
  exact op_getbound I1 ea c k l rx q

theorem reads_ints {h : Heap} : ∀ {ns : List Int} {its : List Value}, Vals (ns.map V.int) its → ReadsAll h its (ns.map PyData.int) []
  | [], _, .nil => .nil
  | _ :: _, _, .cons ⟨t, e⟩ r => by
    subst e
    exact ReadsAll.cons (as := []) (bs := []) (.int _ t) (reads_ints r)
/-- the key as data -/
abbrev kd (key : List Int → List Int) (c : List Int) : PyData := .tuple ((key c).map .int)

section
variable {X : Cx} {pins : List (Addr × Obj)} {σ : L2.St} {k : Nat} {g o q a kS : Addr} {sp : Sp} {E : XK} {EE : Value → Shared → Prop}
theorem reads_tup {s : Shared} {H : Hp} {t : Addr} {ns : List Int} (I : Inv X pins σ H s) (h : SqT X.K H t (ns.map V.int)) : Reads s.heap (.ref t) (.tuple (ns.map .int)) [] := by
  obtain ⟨its, rv, ⟨ob, h1, h2, n, h3⟩, _⟩ := I.tuple h
  exact .tuple h1 h2 h3 (reads_ints rv)
theorem key_call {Qv : VK} {G : Hp} {s : Shared} {p : Addr} (F : FnR X.prog X.w X.K X.mg X.base CX0 k g sp) (hr : Room (k + 2) X.A) (I : Inv X pins σ G s) (hq : G q = some (.met g o)) (h : sp [.ref o, .ref p] G Qv E) :
    wpAny (model X.prog X.w) X.A.in1.in1 (call (.ref q) [.ref p]) (EP X pins σ Qv) EE s := by
  refine wpAny_call (call_met I hq (codeAny_mono (F X.A.in1.in1 X.stack s G [.ref o, .ref p] [.ref o, .ref p] Qv E (Room.in1 (Room.in1 hr)) (I.env0.in1.in1) (.cons rfl (.cons rfl .nil)) h) fun r s' hz => ?_))
  cases r with
  | error e => exact False.elim hz
  | ok fl =>
    cases fl with
    | ret u => exact I.after hz
    | next => exact False.elim hz
    | brk => exact False.elim hz
    | cont => exact False.elim hz

/-- one call of the key: Z tells what stands before turn i -/
def KTurn (K : PySem.W.Frag) (g o q : Addr) (sp : Sp) (E : XK) (as : List Addr) (cs : List (List Int)) (key : List Int → List Int) (Z : Nat → Hp → Prop) : Prop :=
  ∀ (i : Nat) (p : Addr) (c : List Int) (G : Hp), as[i]? = some p → cs[i]? = some c → Z i G → G q = some (.met g o) ∧ sp [.ref o, .ref p] G (fun u G' => ∃ t, u = .ref t ∧ SqT K G' t ((key c).map V.int) ∧ (∀ b zs, SqT K G b zs → SqT K G' b zs) ∧ Z (i + 1) G') E
/-- an object is taken away -/
def freed (h : Heap) (b : Addr) : Heap := h.update b fun o => { o with data := .freed }
theorem freed_ne {h : Heap} {b c : Addr} (n : c ≠ b) : (freed h b).get? c = h.get? c := Heap.get?_update_ne _ _ _ _ n
theorem freed_at {h : Heap} {b : Addr} {ob : Obj} (e : h.get? b = some ob) : (freed h b).get? b = none := by
  have lt := Heap.lt_size e
  unfold freed Heap.update Heap.get?
  simp [lt, Array.getElem_modify]
theorem addrs_of {as : List Addr} {cs : List (List Int)} : ∀ {out : List Value} {ds : List (List Int)}, PySem.W.EachIs (fun v c => ∃ p, v = Value.ref p ∧ (p, c) ∈ as.zip cs) out ds → ∃ ps : List Addr, out = ps.map Value.ref ∧ PySem.W.EachIs (fun p c => (p, c) ∈ as.zip cs) ps ds
  | _, _, .nil => ⟨[], rfl, .nil⟩
  | _, _, .cons ⟨p, e, m⟩ t => by
    obtain ⟨ps, e2, h2⟩ := addrs_of t
    exact ⟨p :: ps, by rw [e, e2]; rfl, .cons m h2⟩
theorem zip_refs {as : List Addr} {cs : List (List Int)} (hl : as.length = cs.length) : PySem.W.EachIs (fun v c => ∃ p, v = Value.ref p ∧ (p, c) ∈ as.zip cs) (as.map Value.ref) cs := by
  refine PySem.W.EachIs.of_zip (by rw [List.length_map]; exact hl) fun z hz => ?_
  obtain ⟨i, hi⟩ := List.mem_iff_getElem?.mp hz
  rw [List.getElem?_zip_eq_some] at hi
  obtain ⟨h1, h2⟩ := hi
  rw [List.getElem?_map] at h1
  cases h3 : as[i]? with
  | none => rw [h3] at h1; cases h1
  | some p =>
    rw [h3] at h1
    refine ⟨p, (Option.some.inj h1).symm, List.mem_iff_getElem?.mpr ⟨i, ?_⟩⟩
    rw [List.getElem?_zip_eq_some]
    exact ⟨h3, h2⟩

theorem key_rest {e1 : Nat} {P : PySem.Fin → Shared → Prop} {as : List Addr} {cs : List (List Int)} {key : List Int → List Int} {Z : Nat → Hp → Prop} {s : Shared} {H : Hp}
    (F : FnR X.prog X.w X.K X.mg X.base CX0 k g sp) (hr : Room (k + 2) X.A) (hlen : cs.length = as.length) (hZ : as.length ≤ sizeLine) (hne : ∀ c ∈ cs, key c ≠ []) (turn : KTurn X.K g o q sp E as cs key Z)
    (I : Inv X pins σ H s) (fa : FpOk X pins H a) (fk : FpOk X pins H kS) (hka : kS ≠ a) (na : s.heap.get? a = some (seqObj "list" #[] e1)) (nk : s.heap.get? kS = some (seqObj "list" #[] 0)) (z0 : Z 0 H)
    (fin : ∀ G s' ps, Inv X pins σ (upd G a (.lst (ps.map V.ref))) s' → G a = none → Z as.length G → PySem.W.EachIs (fun p c => (p, c) ∈ as.zip cs) ps (cs.mergeSort (PySem.W.dataLe false (kd key))) → P (.done (.ret .none)) s') :
    wpAny (model X.prog X.w) X.A.in1.in1 (ksk_rest a (.ref q) false (as.map Value.ref).toArray e1 (.ref kS)) P EE s := by
  have lz : (as.map Value.ref).length = as.length := List.length_map _
  unfold ksk_rest
  refine wpAny_bind (wpAny_rule ?_)
  first | rw [List.forIn_toArray] | rw [← Array.forIn_toList]
  refine wpAny_bind (ksk_fold (fun i s' => ∃ G kA e, Inv X pins σ G s' ∧ FpOk X pins G a ∧ FpOk X pins G kS ∧ s'.heap.get? a = some (seqObj "list" #[] e1) ∧ s'.heap.get? kS = some (seqObj "list" kA e) ∧ Z i G ∧
    PySem.W.EachIs (fun v c => ∃ t, v = Value.ref t ∧ SqT X.K G t ((key c).map V.int)) kA.toList (cs.take i)) (as.map Value.ref) 0 s ⟨H, #[], 0, I, fa, fk, na, nk, z0, by rw [List.take_zero]; exact .nil⟩ ?_ ?_)
  · rintro j x s' hx ⟨G, kA, e, I', fa', fk', na', nk', z', hk⟩
    simp only [Nat.zero_add] at hk z' ⊢
    obtain ⟨p, hp, rfl⟩ : ∃ p, as[j]? = some p ∧ x = Value.ref p := by
      rw [List.getElem?_map] at hx
      cases h3 : as[j]? with
      | none => rw [h3] at hx; cases hx
      | some p => rw [h3] at hx; exact ⟨p, rfl, (Option.some.inj hx).symm⟩
    have hj : j < as.length := (List.getElem?_eq_some_iff.mp hp).1
    obtain ⟨c, hc⟩ : ∃ c, cs[j]? = some c := ⟨_, List.getElem?_eq_getElem (by omega)⟩
    obtain ⟨t1, t2⟩ := turn j p c G hp hc z'
    have hz : kA.size ≤ as.length := by
      have := hk.length
      rw [Array.length_toList, List.length_take] at this
      omega
    have Ip := I'.pinned (fp := [a, kS]) (fun b hb => by
      rcases List.mem_cons.mp hb with z | z
      · rw [z]; exact fa'
      · rw [List.mem_singleton.mp z]; exact fk') (fun b hb => by
      rcases List.mem_cons.mp hb with z | z
      · rw [z]; exact ⟨_, na', fun v z => by cases z⟩
      · rw [List.mem_singleton.mp z]; exact ⟨_, nk', fun v z => by cases z⟩)
    refine wpAny_bind (wpAny_attempt (wpAny_mono (key_call (EE := fun _ _ => False) F hr Ip t1 t2) (fun v s2 he => ?_) fun _ _ hF => hF.elim))
    obtain ⟨u, G', I2, ru, t, rfl, ht, tu, z2⟩ := he
    obtain rfl : v = Value.ref t := ru
    have pa := I2.pin (a, _) (List.mem_append_right _ (List.mem_append_right _ (mem_pinsAt (fp := [a, kS]) (by simp) na')))
    have pk := I2.pin (kS, _) (List.mem_append_right _ (List.mem_append_right _ (mem_pinsAt (fp := [a, kS]) (by simp) nk')))
    have fk2 : FpOk X pins G' kS := ⟨pk.2.1, fk'.2⟩
    have I3 := I2.unpinned
    obtain ⟨c2, hc2⟩ : ∃ c2, (s2.heap.update kS (Obj.mapSeq (·.push (Value.ref t)))).get? kS = some (seqObj "list" (kA.push (Value.ref t)) c2) := ⟨_, get?_update_seq pk.1 (·.push (Value.ref t))⟩
    try dsimp only
    refine wpAny_bind (listUpdate_at pk.1 rfl ?_ (Nat.le_trans hz hZ) (by rw [Array.size_push]; omega))
    refine wpAny_pure ⟨rfl, G', kA.push (Value.ref t), c2, I3.turnedL (ch := [kS]) (t' := s2.toks) (fun b ob hb e => (Heap.get?_update_ne _ _ _ _ (fun z => hb (by rw [z]; simp))).trans e) (fun b hb => by rw [List.mem_singleton.mp hb]; exact fk2), ⟨pa.2.1, fa'.2⟩, fk2, (Heap.get?_update_ne _ _ _ _ hka.symm).trans pa.1, hc2, z2, ?_⟩
    have ek : cs.take (j + 1) = cs.take j ++ [c] := by rw [List.take_add_one, hc]; rfl
    have ea : (kA.push (Value.ref t)).toList = kA.toList ++ [Value.ref t] := by simp
    rw [ea, ek]
    exact PySem.W.each_snoc (R := fun v c => ∃ t, v = Value.ref t ∧ SqT X.K G' t ((key c).map V.int)) ⟨t, rfl, ht⟩ (hk.mono fun v c ⟨t, e, h⟩ => ⟨t, e, tu _ _ h⟩)
  · rintro s' ⟨G, kA, e, I', fa', fk', na', nk', z', hk⟩
    rw [Nat.zero_add, lz] at z' hk
    rw [List.take_of_length_le (by omega)] at hk
    have hal : PySem.W.AllAlike (cs.map (kd key)) := PySem.W.AllAlike.of fun b b' => by
      show PySem.W.alike (.tuple _) (.tuple _) = true
      unfold PySem.W.alike
      exact PySem.W.alike_ints _ _
    have hsk : PySem.W.Sortable (cs.map (kd key)) := .inl fun d hd => by
      obtain ⟨c, hc, rfl⟩ := List.mem_map.mp hd
      cases h3 : key c with
      | nil => exact absurd h3 (hne c hc)
      | cons x r => exact ⟨.int x, r.map .int, by unfold kd; rw [h3]; rfl⟩
    have hk' : PySem.W.EachIs (fun v d => ∃ as, Reads s'.heap v d as) kA.toList (cs.map (kd key)) := PySem.W.each_map (R := fun v d => ∃ as, Reads s'.heap v d as) (kd key) (hk.mono fun v c ⟨t, e, h⟩ => ⟨[], by rw [e]; exact reads_tup I' h⟩)
    have hsz : kA.size = (as.map Value.ref).length := by
      have := hk.length
      rw [Array.length_toList] at this
      omega
    try dsimp only
    refine wpAny_bind (listItems_at nk' rfl ?_)
    refine PySem.W.keyH_end (κ := PySem.W.dataKind s'.heap (cs.map (kd key))) (h₁ := freed s'.heap kS) (vs := as.map Value.ref) (fun b ob hb e => ?_) (freed_at nk') nk' na' hka (PySem.W.SortsAt.data hk' hal hsk fun d hd => ?_) hsz (by rw [lz]; exact hZ) fun h3 tk3 c3 k3 n3 => ?_
    · rw [freed_ne (fun z => by rw [z, freed_at nk'] at e; cases e)] at e
      exact e
    · obtain ⟨c, hc, rfl⟩ := List.mem_map.mp hd
      have e : (kd key c).depth = 1 := by
        unfold kd PyData.depth
        rw [PySem.W.depth_ints]
      rw [e]
      have := hr.un
      show X.A.units + 1 + 1 + 1 < _
      omega
    · have ko : PySem.W.KeyedOut false (cs.map (kd key)) (as.map Value.ref) (PySem.W.sortVals (PySem.W.dataKind s'.heap (cs.map (kd key))) false kA.toList (as.map Value.ref)) := ⟨s'.heap, kA.toList, hal, rfl, hk'⟩
      obtain ⟨ps, hps, ep⟩ := addrs_of (PySem.W.keyedOut_each (kd key) ko (zip_refs hlen.symm))
      rw [hps] at n3
      have lp : ps.length = as.length := by
        have := ep.length
        rw [List.length_mergeSort] at this
        omega
      have I4 := I'.turnedL (t' := tk3) (h' := h3) (ch := [kS, a]) (fun b ob hb e => k3 b ob (fun z => hb (by rw [z]; simp)) (by rw [freed_ne fun z => hb (by rw [z]; simp)]; exact e)) (fun b hb => by
        rcases List.mem_cons.mp hb with z | z
        · rw [z]; exact fk'
        · rw [List.mem_singleton.mp z]; exact fa')
      exact fin G _ ps (I4.take (t' := tk3) (fun b ob _ e => e) fa' ⟨by rw [List.length_map]; omega, ps.map Value.ref, c3, vals_refs ps, n3⟩) fa'.1 z' ep
theorem refs_are : ∀ {as : List Addr} {its : List Value}, Vals (as.map V.ref) its → its = as.map Value.ref
  | [], _, .nil => rfl
  | a :: as, _, .cons e r => by
    have e' : _ = Value.ref a := e
    rw [e', refs_are r]
    rfl
/-- sorted(l, key=q), q the method g of o -/
def rSortK (K : PySem.W.Frag) (g : Addr) (sp : Sp) (E : XK) : List V → List V → Hp → VK → Prop := fun vs zs H Q => ∃ (l q o : Addr) (as : List Addr) (cs : List (List Int)) (key : List Int → List Int) (Z : Nat → Hp → Prop),
  vs = [.ref l] ∧ zs = [.ref q] ∧ SqL K H l (as.map V.ref) ∧ cs.length = as.length ∧ (∀ c ∈ cs, key c ≠ []) ∧ Z 0 H ∧ KTurn K g o q sp E as cs key Z ∧
  ∀ G ps b, Z as.length G → PySem.W.EachIs (fun p c => (p, c) ∈ as.zip cs) ps (cs.mergeSort (PySem.W.dataLe false (kd key))) → G b = none → Q (.ref b) (upd G b (.lst (ps.map V.ref)))
theorem cr_sortK (F : FnR X.prog X.w X.K X.mg X.base CX0 k g sp) (hr : Room (k + 2) X.A) : CallRK X (.builtin "sorted") [Str.ofString "key"] (rSortK X.K g sp E) := by
  intro pins s σ H vs zs us ws Q I r rz h
  obtain ⟨l, q, o, as, cs, key, Z, rfl, rfl, hs, hlen, hne, z0, turn, fin⟩ := h
  obtain rfl := Vals.ref1 r
  obtain ⟨w1, rfl, e1⟩ := vals1 rz
  obtain rfl : w1 = Value.ref q := e1
  obtain ⟨its, rv, hl, hz⟩ := I.list hs
  obtain rfl := refs_are rv
  rw [List.length_map] at hz
  have lz : (as.map Value.ref).length ≤ sizeLine := by rw [List.length_map]; exact hz
  have lz2 : (as.map Value.ref).toArray.size ≤ sizeLine := by rw [List.size_toArray]; exact lz
  refine PySem.W.sorted_of_sort hl.isList lz (ksk_s1 _ _) (fun _ => ksk_l1 _ _) fun E' => ?_
  show wpAny _ _ ([Str.ofString "key"].zip [Value.ref q] |> fun kw => Builtin.«list.sort» ⟨[.ref (s.heap.objs.size + 1)], kw⟩) _ _ _
  show wpAny _ _ (Builtin.«list.sort» ⟨[.ref (s.heap.objs.size + 1)], [(Str.ofString "key", Value.ref q)]⟩) _ _ _
  rw [ksk_t1]
  have ho := PySem.W.copyHeap_at s.heap (as.map Value.ref)
  obtain ⟨e1, ho1⟩ : ∃ e1, ((PySem.W.copyHeap s.heap (as.map Value.ref)).update (s.heap.objs.size + 1) (Obj.mapSeq fun _ => (#[] : Array Value))).get? (s.heap.objs.size + 1) = some (seqObj "list" #[] e1) := ⟨_, get?_update_seq ho fun _ => #[]⟩
  have la : s.heap.objs.size + 1 < (PySem.W.copyHeap s.heap (as.map Value.ref)).objs.size := Heap.lt_size ho
  have hsz : (((PySem.W.copyHeap s.heap (as.map Value.ref)).update (s.heap.objs.size + 1) (Obj.mapSeq fun _ => (#[] : Array Value))).push (seqObj "tuple" (as.map Value.ref).toArray 0)).objs.size = (PySem.W.copyHeap s.heap (as.map Value.ref)).objs.size + 1 := by
    rw [size_push', Heap.size_update]
  have hk2 : s.heap.objs.size + 2 < (((PySem.W.copyHeap s.heap (as.map Value.ref)).update (s.heap.objs.size + 1) (Obj.mapSeq fun _ => (#[] : Array Value))).push (seqObj "tuple" (as.map Value.ref).toArray 0)).objs.size := by rw [hsz]; omega
  unfold ksk_tree
  refine wpAny_bind (listItems_at ho rfl ?_)
  refine wpAny_bind (listUpdate_at ho rfl ?_ lz2 (Nat.zero_le _))
  refine wpAny_bind (seqEpoch_at ho1 rfl ?_)
  refine wpAny_bind (wpAny_newTuple ?_ (by show (as.map Value.ref).length ≤ _; exact lz))
  refine wpAny_bind (wpAny_newList ?_ (Nat.zero_le _))
  refine wpAny_holding ?_
  have I6 := I.kept (t' := s.toks) (h' := (((PySem.W.copyHeap s.heap (as.map Value.ref)).update (s.heap.objs.size + 1) (Obj.mapSeq fun _ => (#[] : Array Value))).push (seqObj "tuple" (as.map Value.ref).toArray 0)).push (seqObj "list" #[] 0)) fun b u e =>
    Heap.get?_push_of_some _ (Heap.get?_push_of_some _ ((Heap.get?_update_ne _ _ _ _ (Nat.ne_of_lt (Nat.lt_succ_of_lt (Heap.lt_size e)))).trans (PySem.W.copyHeap_old e)))
  refine key_rest (P := fun f s' => f = .done (.ret .none) ∧ EP X pins σ Q (.ref (s.heap.objs.size + 1)) s') (a := s.heap.objs.size + 1) (e1 := e1) (E := E) (cs := cs) (key := key) (Z := Z) (H := H) (o := o) F hr hlen hz hne turn I6 (I.fpOk (Nat.le_succ _) (I.hok.fresh (Nat.le_succ _))) (I.fpOk (Nat.le_trans (by omega) (Nat.le_of_lt hk2)) (I.hok.fresh (Nat.le_trans (by omega) (Nat.le_of_lt hk2)))) (Nat.ne_of_gt (Nat.lt_trans (Nat.lt_succ_self _) hk2))
    (Heap.get?_push_of_some _ (Heap.get?_push_of_some _ ho1)) (Heap.get?_push_size _ rfl) z0 fun G s' ps I' na z ep => ⟨rfl, .ref _, _, I', rfl, fin G ps _ z ep na⟩
end
end LqA

namespace Lk
open PySem L2 Lx LamX LrA LqA
/-! ### order: the cells of a box, sorted by their paths -/
def leF (ds : List Int) (t : Tr) : List Int → List Int → Bool := PySem.W.dataLe false (kd (full ds t))
def spOrder (K : PySem.W.Frag) (C : Addr) : Sp := fun vs H Q _ => ∃ (p b : Addr) (ds : List Int) (n : Nat) (t : Tr) (ns : List Int), vs = [.ref p, .ref b] ∧ ScanAt K C H p ds n t ∧ SqT K H b (ns.map V.int) ∧ ns.length = ds.length ∧ (∀ z ∈ ns, 0 ≤ z ∧ z < 2 ^ 64) ∧ prodL ns ≤ 2000 ∧
  ∀ (H' : Hp) (R : Addr) (ws : List V), Same H H' → H R = none → H' R = some (.lst ws) → HdsAt K H' ((cellN ns).mergeSort (leF ds t)) ws → Q (.ref R) H'
theorem hds_refs {K : PySem.W.Frag} {H : Hp} : ∀ {l : List (List Int)} {ws : List V}, HdsAt K H l ws → ∃ as : List Addr, ws = as.map V.ref ∧ as.length = l.length ∧ ∀ p c, (p, c) ∈ as.zip l → SqT K H p (c.map V.int)
  | [], _, h => ⟨[], h, rfl, fun p c z => by simp at z⟩
  | c :: r, _, ⟨a, wr, h1, h2, h3⟩ => by
    obtain ⟨as, e1, e2, e3⟩ := hds_refs h3
    refine ⟨a :: as, by rw [h1, e1]; rfl, by rw [List.length_cons, List.length_cons, e2], fun p c' z => ?_⟩
    rw [List.zip_cons_cons] at z
    rcases List.mem_cons.mp z with e | e
    · cases e
      exact h2
    · exact e3 p c' e
theorem hds_each {K : PySem.W.Frag} {H : Hp} : ∀ {ps : List Addr} {l : List (List Int)}, PySem.W.EachIs (fun p c => SqT K H p (c.map V.int)) ps l → HdsAt K H l (ps.map V.ref)
  | _, _, .nil => rfl
  | p :: ps, c :: l, .cons h t => ⟨p, ps.map V.ref, rfl, h, hds_each t⟩
theorem cellN_len {ns : List Int} {c : List Int} (h : c ∈ cellN ns) : c.length = ns.length := by
  obtain ⟨i, _, rfl⟩ := List.mem_map.mp h
  exact pAt_len ns i
theorem sorted_uniq {α : Type} {le : α → α → Bool} : ∀ {l m : List α}, l.Pairwise (fun a b => le a b = true) → m.Pairwise (fun a b => le a b = true) → l.Perm m → (∀ a ∈ l, ∀ b ∈ l, le a b = true → le b a = true → a = b) → l = m
  | [], m, _, _, p, _ => (List.Perm.eq_nil p.symm).symm
  | x :: l, [], _, _, p, _ => absurd p.length_eq (by simp)
  | x :: l, y :: m, hl, hm, p, anti => by
    have hx := List.pairwise_cons.mp hl
    have hy := List.pairwise_cons.mp hm
    have ym : y ∈ x :: l := p.mem_iff.mpr List.mem_cons_self
    have e : x = y := by
      rcases List.mem_cons.mp (p.mem_iff.mp (List.mem_cons_self (a := x) (l := l))) with z | z
      · exact z
      · rcases List.mem_cons.mp ym with u | u
        · exact u.symm
        · exact anti x List.mem_cons_self y ym (hx.1 y u) (hy.1 x z)
    subst e
    rw [sorted_uniq hx.2 hy.2 p.cons_inv fun a ha b hb => anti a (List.mem_cons_of_mem _ ha) b (List.mem_cons_of_mem _ hb)]
/-- an arrangement that is sorted by the paths is what sorting gives -/
theorem order_is {ds : List Int} {t : Tr} {l m : List (List Int)} (hm : m.Pairwise (fun a b => leF ds t a b = true)) (hp : m.Perm l) (anti : ∀ a ∈ m, ∀ b ∈ m, leF ds t a b = true → leF ds t b a = true → a = b) : l.mergeSort (leF ds t) = m := by
  have T : PySem.W.TotalLe (leF ds t) := by
    unfold leF PySem.W.dataLe
    exact PySem.W.sortLe_total _ _ _
  exact (sorted_uniq hm (PySem.W.sort_pairwise T l) (hp.trans (List.mergeSort_perm l _).symm) anti).symm
section
variable {P : Program} {w : World} {K : PySem.W.Frag} {mg : Str → Option Value} {base : Heap}
end
end Lk

namespace Lk
open PySem L2 Lx LamX LrA LqA
/-! ### odd values are no places -/
def spOddN (K : PySem.W.Frag) : Sp := fun vs H Q _ => ∃ (b l : Addr), vs = [.ref b] ∧ BagAt H b l ∧ ∀ (v : V) (o : Option (List V)) (H' : Hp), OD K H' v o → OB o → (∀ c : Int, 1 ≤ c → c ≤ 3 → plB o c = false) → BagAt H' b l → But b H H' → Q v H'
theorem odd_none : ∀ c : Int, 1 ≤ c → c ≤ 3 → plB none c = false := fun _ _ _ => rfl
section
variable {P : Program} {w : World} {K : PySem.W.Frag} {mg : Str → Option Value} {base : Heap}
theorem ok_oddN {f fO : Addr} {fd fdO : FuncData} {k : Nat} (F : Fun K "_law_odd" "_law_odd" sOdd f fd) (GO : FnOk P w K mg base CX0 (k + 2) fO fdO ["_law_bag_here", "_law_things"] (spOf K))
    (kO : PySem.W.keepIn K (.ref fO) = true) (bO : Binds K fdO ["_law_bag_here", "_law_things"] []) (gO : mg "_law_of" = some (.ref fO)) : FnOk P w K mg base CX0 (k + 3) f fd ["_law_bag_here"] (spOddN K) := by
  refine F.ok scOdd (fun vs H Q E h => ?_) (fun cdv A outer s H vs Q E hr h => ?_)
  · obtain ⟨b, l, rfl, _⟩ := h
    rfl
  · obtain ⟨b, l, rfl, B, q⟩ := h
    refine ⟨_, pss_one (ps_ret (pe_call GO hr (by rfl) gO kO bO .nil pass0 (pa_cons (pv 0) (pa_cons (pe_lst (pa_cons pe_non (pa_cons pe_str (pa_cons pe_str (pa_cons pe_int (pa_cons pe_bl (pa_cons (pe_tup pa_nil) (pa_cons (pe_tup (pa_cons pe_non pa_nil)) (pa_cons (pe_tup (pa_cons pe_int (pa_cons pe_int (pa_cons pe_int (pa_cons pe_int pa_nil))))) (pa_cons (pe_tup (pa_cons pe_str pa_nil)) (pa_cons (pe_tup (pa_cons pe_bl pa_nil)) (pa_cons (pe_tup (pa_cons pe_int (pa_cons pe_bl pa_nil))) (pa_cons (pe_tup (pa_cons pe_int (pa_cons pe_non pa_nil))) (pa_cons (pe_tup (pa_cons pe_int (pa_cons pe_str pa_nil))) (pa_cons (pe_tup (pa_cons (pe_tup (pa_cons pe_int pa_nil)) pa_nil)) (pa_cons (pe_tup (pa_cons pe_int (pa_cons (pe_tup (pa_cons pe_int pa_nil)) (pa_cons pe_int pa_nil)))) pa_nil)))))))))))))))) pa_nil)))), ?_⟩
    refine ⟨_, rfl, ?_⟩
    refine ⟨(by show 0 ≤ sizeLine; decide), fun p1 n1 => ?_⟩
    have s1 := same_new (o := .tup []) n1
    refine ⟨(by show 1 ≤ sizeLine; decide), fun p2 n2 => ?_⟩
    have s2 := same_new (o := .tup [.non]) n2
    refine ⟨(by show 4 ≤ sizeLine; decide), fun p3 n3 => ?_⟩
    have s3 := same_new (o := .tup [(.int 1), (.int 2), (.int 3), (.int 4)]) n3
    refine ⟨(by show 1 ≤ sizeLine; decide), fun p4 n4 => ?_⟩
    have s4 := same_new (o := .tup [(.str "1")]) n4
    refine ⟨(by show 1 ≤ sizeLine; decide), fun p5 n5 => ?_⟩
    have s5 := same_new (o := .tup [(.bl true)]) n5
    refine ⟨(by show 2 ≤ sizeLine; decide), fun p6 n6 => ?_⟩
    have s6 := same_new (o := .tup [(.int 0), (.bl true)]) n6
    refine ⟨(by show 2 ≤ sizeLine; decide), fun p7 n7 => ?_⟩
    have s7 := same_new (o := .tup [(.int 1), .non]) n7
    refine ⟨(by show 2 ≤ sizeLine; decide), fun p8 n8 => ?_⟩
    have s8 := same_new (o := .tup [(.int 0), (.str "a")]) n8
    refine ⟨(by show 1 ≤ sizeLine; decide), fun p9 n9 => ?_⟩
    have s9 := same_new (o := .tup [(.int 1)]) n9
    refine ⟨(by show 1 ≤ sizeLine; decide), fun p10 n10 => ?_⟩
    have s10 := same_new (o := .tup [.ref p9]) n10
    refine ⟨(by show 1 ≤ sizeLine; decide), fun p11 n11 => ?_⟩
    have s11 := same_new (o := .tup [(.int 2)]) n11
    refine ⟨(by show 3 ≤ sizeLine; decide), fun p12 n12 => ?_⟩
    have s12 := same_new (o := .tup [(.int 1), .ref p11, (.int 3)]) n12
    refine ⟨(by show 15 ≤ sizeLine; decide), fun L nL => ?_⟩
    have sL := same_new (o := .lst [.non, (.str ""), (.str "ab"), (.int 3), (.bl true), .ref p1, .ref p2, .ref p3, .ref p4, .ref p5, .ref p6, .ref p7, .ref p8, .ref p10, .ref p12]) nL
    have b12 := sL
    have b11 := s12.trans b12
    have b10 := s11.trans b11
    have b9 := s10.trans b10
    have b8 := s9.trans b9
    have b7 := s8.trans b8
    have b6 := s7.trans b7
    have b5 := s6.trans b6
    have b4 := s5.trans b5
    have b3 := s4.trans b4
    have b2 := s3.trans b3
    have b1 := s2.trans b2
    have b0 := s1.trans b1
    have c1 := s1
    have c2 := c1.trans s2
    have c3 := c2.trans s3
    have c4 := c3.trans s4
    have c5 := c4.trans s5
    have c6 := c5.trans s6
    have c7 := c6.trans s7
    have c8 := c7.trans s8
    have c9 := c8.trans s9
    have c10 := c9.trans s10
    have c11 := c10.trans s11
    have c12 := c11.trans s12
    have sAll := c12
    have BL := BagAt.same B b0
    refine ⟨b, l, L, _, rfl, BL, (BagAt.same B (sAll)).nb nL, SqL.of upd_same, (by show 0 < 15; decide), (by show 15 < 1000; decide), fun v H' hv B' bt => ?_⟩
    have bb : But b H H' := (But.same b0).trans bt
    have t1 : SqT K H' p1 [] := bt.sqT BL (Same.sqT b1 (SqT.of upd_same))
    have t2 : SqT K H' p2 [.non] := bt.sqT BL (Same.sqT b2 (SqT.of upd_same))
    have t3 : SqT K H' p3 [(.int 1), (.int 2), (.int 3), (.int 4)] := bt.sqT BL (Same.sqT b3 (SqT.of upd_same))
    have t4 : SqT K H' p4 [(.str "1")] := bt.sqT BL (Same.sqT b4 (SqT.of upd_same))
    have t5 : SqT K H' p5 [(.bl true)] := bt.sqT BL (Same.sqT b5 (SqT.of upd_same))
    have t6 : SqT K H' p6 [(.int 0), (.bl true)] := bt.sqT BL (Same.sqT b6 (SqT.of upd_same))
    have t7 : SqT K H' p7 [(.int 1), .non] := bt.sqT BL (Same.sqT b7 (SqT.of upd_same))
    have t8 : SqT K H' p8 [(.int 0), (.str "a")] := bt.sqT BL (Same.sqT b8 (SqT.of upd_same))
    have t9 : SqT K H' p9 [(.int 1)] := bt.sqT BL (Same.sqT b9 (SqT.of upd_same))
    have t10 : SqT K H' p10 [.ref p9] := bt.sqT BL (Same.sqT b10 (SqT.of upd_same))
    have t11 : SqT K H' p11 [(.int 2)] := bt.sqT BL (Same.sqT b11 (SqT.of upd_same))
    have t12 : SqT K H' p12 [(.int 1), .ref p11, (.int 3)] := bt.sqT BL (Same.sqT b12 (SqT.of upd_same))
    rcases List.mem_cons.mp hv with e | hv
    · subst e
      exact q _ none H' rfl ob_none odd_none B' bb
    rcases List.mem_cons.mp hv with e | hv
    · subst e
      exact q _ none H' rfl ob_none odd_none B' bb
    rcases List.mem_cons.mp hv with e | hv
    · subst e
      exact q _ none H' rfl ob_none odd_none B' bb
    rcases List.mem_cons.mp hv with e | hv
    · subst e
      exact q _ none H' rfl ob_none odd_none B' bb
    rcases List.mem_cons.mp hv with e | hv
    · subst e
      exact q _ none H' rfl ob_none odd_none B' bb
    rcases List.mem_cons.mp hv with e | hv
    · subst e
      exact q _ (some _) H' ⟨_, rfl, t1, (by show 0 ≤ 12; decide), itd_all rfl⟩ (fun z hz => by simp [itsI, uI] at hz <;> omega) (fun c c1 c3 => by simp [plB, isI] <;> omega) B' bb
    rcases List.mem_cons.mp hv with e | hv
    · subst e
      exact q _ (some _) H' ⟨_, rfl, t2, (by show 1 ≤ 12; decide), itd_all rfl⟩ (fun z hz => by simp [itsI, uI] at hz <;> omega) (fun c c1 c3 => by simp [plB, isI] <;> omega) B' bb
    rcases List.mem_cons.mp hv with e | hv
    · subst e
      exact q _ (some _) H' ⟨_, rfl, t3, (by show 4 ≤ 12; decide), itd_all rfl⟩ (fun z hz => by simp [itsI, uI] at hz <;> omega) (fun c c1 c3 => by simp [plB, isI] <;> omega) B' bb
    rcases List.mem_cons.mp hv with e | hv
    · subst e
      exact q _ (some _) H' ⟨_, rfl, t4, (by show 1 ≤ 12; decide), itd_all rfl⟩ (fun z hz => by simp [itsI, uI] at hz <;> omega) (fun c c1 c3 => by simp [plB, isI] <;> omega) B' bb
    rcases List.mem_cons.mp hv with e | hv
    · subst e
      exact q _ (some _) H' ⟨_, rfl, t5, (by show 1 ≤ 12; decide), itd_all rfl⟩ (fun z hz => by simp [itsI, uI] at hz <;> omega) (fun c c1 c3 => by simp [plB, isI] <;> omega) B' bb
    rcases List.mem_cons.mp hv with e | hv
    · subst e
      exact q _ (some _) H' ⟨_, rfl, t6, (by show 2 ≤ 12; decide), itd_all rfl⟩ (fun z hz => by simp [itsI, uI] at hz <;> omega) (fun c c1 c3 => by simp [plB, isI] <;> omega) B' bb
    rcases List.mem_cons.mp hv with e | hv
    · subst e
      exact q _ (some _) H' ⟨_, rfl, t7, (by show 2 ≤ 12; decide), itd_all rfl⟩ (fun z hz => by simp [itsI, uI] at hz <;> omega) (fun c c1 c3 => by simp [plB, isI] <;> omega) B' bb
    rcases List.mem_cons.mp hv with e | hv
    · subst e
      exact q _ (some _) H' ⟨_, rfl, t8, (by show 2 ≤ 12; decide), itd_all rfl⟩ (fun z hz => by simp [itsI, uI] at hz <;> omega) (fun c c1 c3 => by simp [plB, isI] <;> omega) B' bb
    rcases List.mem_cons.mp hv with e | hv
    · subst e
      exact q _ (some _) H' ⟨_, rfl, t10, (by show 1 ≤ 12; decide), fun x hx => by
        rw [List.mem_singleton.mp hx]; exact .inr ⟨_, _, rfl, t9, (by show 1 ≤ 4; decide), by simp [scal]⟩⟩ (fun z hz => by simp [itsI, uI] at hz <;> omega) (fun c c1 c3 => by simp [plB, isI] <;> omega) B' bb
    have e := List.mem_singleton.mp hv
    subst e
    exact q _ (some _) H' ⟨_, rfl, t12, (by show 3 ≤ 12; decide), fun x hx => by
      rcases List.mem_cons.mp hx with e | hx
      · rw [e]; exact .inl rfl
      rcases List.mem_cons.mp hx with e | hx
      · rw [e]; exact .inr ⟨_, _, rfl, t11, (by show 1 ≤ 4; decide), by simp [scal]⟩
      rw [List.mem_singleton.mp hx]; exact .inl rfl⟩ (fun z hz => by simp [itsI, uI] at hz <;> omega) (fun c c1 c3 => by simp [plB, isI] <;> omega) B' bb
end
/-! ### cells -/
theorem cls_pAtG {ds : List Int} {c : Int} (D : ∀ d ∈ ds, 1 ≤ d) (h0 : 0 ≤ c) (h1 : c < prodL ds) : cls ds (pAt ds c) = c := by
  have e : (ds.zip (pAt ds c)).reverse = ds.reverse.zip (restsR ds.reverse c) := by
    unfold pAt
    have := List.reverse_zipWith (f := Prod.mk) (l := ds) (l' := (restsR ds.reverse c).reverse) (by simp [restsR_len])
    rw [List.reverse_reverse] at this
    exact this
  rw [cls_R, e]
  refine cls_back _ c (fun d hd => D d (List.mem_reverse.mp hd)) h0 ?_
  rw [prodL_perm (List.reverse_perm ds)]
  exact h1
theorem cellN_nil {ns : List Int} (h : prodL ns ≤ 0) : cellN ns = [] := by
  unfold cellN
  have : (prodL ns).toNat = 0 := by omega
  rw [this]
  rfl
theorem cellN_nodup {ns : List Int} (hz : ∀ z ∈ ns, 0 ≤ z) : (cellN ns).Nodup := by
  by_cases hp : 1 ≤ prodL ns
  · have h1 : ∀ z ∈ ns, 1 ≤ z := fun z h => (prodL_sides hz hp z h).1
    unfold cellN
    refine List.pairwise_map.mpr (List.Pairwise.imp_of_mem ?_ (List.nodup_range (n := (prodL ns).toNat)))
    intro a b ha hb ne e
    have la := List.mem_range.mp ha
    have lb := List.mem_range.mp hb
    have ea := cls_pAtG (c := (a : Int)) h1 (by omega) (by omega)
    have eb := cls_pAtG (c := (b : Int)) h1 (by omega) (by omega)
    rw [e, eb] at ea
    omega
  · rw [cellN_nil (by omega)]
    exact List.nodup_nil
theorem rst_get : ∀ {ns c : List Int} {i : Nat} {u s : Int}, (rst ns c)[i]? = some u → ns[i]? = some s → ∃ v, c[i]? = some v ∧ u = v % s
  | [], _, i, u, s, _, h2 => by simp at h2
  | d :: ns, [], i, u, s, h1, _ => by simp [rst] at h1
  | d :: ns, x :: c, 0, u, s, h1, h2 => by
    have e1 : x % d = u := Option.some.inj h1
    have e2 : d = s := Option.some.inj h2
    exact ⟨x, rfl, by rw [← e1, e2]⟩
  | d :: ns, x :: c, i + 1, u, s, h1, h2 => rst_get (ns := ns) (c := c) (i := i) h1 (by simpa using h2)
theorem mem_cellN {ns c : List Int} (hz : ∀ z ∈ ns, 0 ≤ z) (h : c ∈ cellN ns) {i : Nat} {u s : Int} (h1 : c[i]? = some u) (h2 : ns[i]? = some s) : 0 ≤ u ∧ u < s := by
  obtain ⟨j, hj, rfl⟩ := List.mem_map.mp h
  have lj := List.mem_range.mp hj
  have hp : 1 ≤ prodL ns := by omega
  have h1' : ∀ z ∈ ns, 1 ≤ z := fun z h => (prodL_sides hz hp z h).1
  have e := cls_pAtG (c := (j : Int)) h1' (by omega) (by omega)
  have e2 := pAt_cls (z := pAt ns (j : Int)) (by rw [pAt_len]) h1'
  rw [e] at e2
  rw [e2] at h1
  obtain ⟨v, _, rfl⟩ := rst_get h1 h2
  have s1 := h1' s (List.mem_of_getElem? h2)
  exact ⟨Int.emod_nonneg _ (by omega), Int.emod_lt_of_pos _ (by omega)⟩
theorem step_nil (l : List Int) : l.foldl stepC [] = [] := by
  induction l with
  | nil => rfl
  | cons x r ih => exact ih
theorem step_zero : ∀ (l : List Int) (f : List (List Int)), (0 : Int) ∈ l → l.foldl stepC f = []
  | x :: r, f, h => by
    rcases List.mem_cons.mp h with e | e
    · subst e
      show r.foldl stepC (stepC f 0) = []
      have : stepC f 0 = [] := by
        unfold stepC
        simp [rng0]
      rw [this]
      exact step_nil r
    · exact step_zero r _ e
theorem prodL_zero : ∀ {l : List Int}, (0 : Int) ∈ l → prodL l = 0
  | x :: r, h => by
    rcases List.mem_cons.mp h with e | e
    · subst e
      exact Int.zero_mul _
    · show x * prodL r = 0
      rw [prodL_zero e, Int.mul_zero]
theorem cellsL_cellN {ns : List Int} (hz : ∀ z ∈ ns, 0 ≤ z) : cellsL ns = cellN ns := by
  by_cases h0 : (0 : Int) ∈ ns
  · rw [cellN_nil (by rw [prodL_zero h0]; decide)]
    exact step_zero ns _ h0
  · exact cells_pAt fun z h => by
      have := hz z h
      have : z ≠ 0 := fun e => h0 (e ▸ h)
      omega
/-! ### the two orders -/
abbrev k2 (f : List Int → List Int) (c : List Int) : PyData := .tuple [.tuple ((f c).map .int), .tuple (c.map .int)]
theorem lt_ints (xs ys : List Int) : PySem.W.dataLt (.tuple (xs.map .int)) (.tuple (ys.map .int)) = decide (xs < ys) := by
  rw [PySem.W.dataLt_tuple]
  exact PySem.W.dataLt_ints xs ys
theorem alike_tup (xs ys : List Int) : PySem.W.alike (.tuple (xs.map .int)) (.tuple (ys.map .int)) = true := by
  unfold PySem.W.alike
  exact PySem.W.alike_ints _ _
theorem leF_not {ds : List Int} {t : Tr} {a b : List Int} (h : leF ds t a b = true) : ¬ full ds t b < full ds t a := by
  have e : leF ds t a b = !PySem.W.dataLt (kd (full ds t) b) (kd (full ds t) a) := rfl
  rw [e, lt_ints] at h
  simpa using h
theorem leF_anti {ds : List Int} {t : Tr} {a b : List Int} (hl : a.length = b.length) (h1 : leF ds t a b = true) (h2 : leF ds t b a = true) : a = b := by
  have e : full ds t a = full ds t b := List.le_antisymm (List.not_lt.mp (leF_not h1)) (List.not_lt.mp (leF_not h2))
  unfold full at e
  exact List.append_inj_right' e hl
theorem law_order {ds : List Int} {t : Tr} {l : List (List Int)} (hl : ∀ c ∈ l, c.length = ds.length) : l.mergeSort (PySem.W.dataLe false (k2 (full ds t))) = l.mergeSort (leF ds t) := by
  have T : PySem.W.TotalLe (PySem.W.dataLe false (k2 (full ds t))) := by
    unfold PySem.W.dataLe
    exact PySem.W.sortLe_total _ _ _
  have pm := List.mergeSort_perm l (PySem.W.dataLe false (k2 (full ds t)))
  refine (order_is ((PySem.W.sort_pairwise T l).imp fun {a b} h => ?_) pm fun a ha b hb => leF_anti ?_).symm
  · have e1 : PySem.W.dataLe false (k2 (full ds t)) a b = !PySem.W.dataLt (k2 (full ds t) b) (k2 (full ds t) a) := rfl
    have e2 : leF ds t a b = !PySem.W.dataLt (kd (full ds t) b) (kd (full ds t) a) := rfl
    rw [e1, PySem.W.dataLt_pair (alike_tup _ _) (alike_tup _ _)] at h
    rw [e2]
    cases hx : PySem.W.dataLt (kd (full ds t) b) (kd (full ds t) a) with
    | false => rfl
    | true =>
      cases hv : PyData.eqv (.tuple ((full ds t b).map .int)) (.tuple ((full ds t a).map .int)) with
      | false =>
        rw [hv] at h
        simp only [Bool.false_eq_true, if_false] at h
        have hx' : PySem.W.dataLt (.tuple ((full ds t b).map .int)) (.tuple ((full ds t a).map .int)) = true := hx
        rw [hx'] at h
        exact h
      | true =>
        have ee := (PySem.W.toks_eqv _ _ (alike_tup (full ds t b) (full ds t a))).1 hv
        have : PySem.W.dataLt (kd (full ds t) b) (kd (full ds t) a) = false := by
          unfold PySem.W.dataLt kd
          rw [ee]
          exact PyProof.Rows.lex_irrefl _
        rw [this] at hx
        cases hx
  · rw [hl a (pm.mem_iff.mp ha), hl b (pm.mem_iff.mp hb)]
/-! ### sorted(rows), rows of pairs of tuples -/
def rSortD (K : PySem.W.Frag) : List V → Hp → VK → Prop := fun vs H Q => ∃ (l : Addr) (as : List Addr) (cs : List (List Int)) (f : List Int → List Int), vs = [.ref l] ∧ SqL K H l (as.map V.ref) ∧ as.length = cs.length ∧
  (∀ p c, (p, c) ∈ as.zip cs → ∃ q1 q2, SqT K H p [.ref q1, .ref q2] ∧ SqT K H q1 ((f c).map V.int) ∧ SqT K H q2 (c.map V.int)) ∧
  ∀ ps b, PySem.W.EachIs (fun p c => (p, c) ∈ as.zip cs) ps (cs.mergeSort (PySem.W.dataLe false (k2 f))) → H b = none → Q (.ref b) (upd H b (.lst (ps.map V.ref)))
theorem cr_sortD {X : Cx} (hu : X.A.units + 64 < cLine) : CallR X (.builtin "sorted") (rSortD X.K) := by
  intro pins s σ H vs us Q I r h
  obtain ⟨l, as, cs, f, rfl, hs, hlen, hx, q⟩ := h
  obtain ⟨its, rv, hl, hz⟩ := I.list hs
  obtain ⟨u, rfl, ru⟩ := vals1 r
  obtain rfl : u = Value.ref l := ru
  obtain rfl := refs_are rv
  rw [List.length_map] at hz
  have er : PySem.W.EachIs (fun v c => ∃ as, Reads s.heap v (k2 f c) as) (as.map Value.ref) cs := (zip_refs hlen).mono fun v c ⟨p, e, m⟩ => by
    obtain ⟨q1, q2, h1, h2, h3⟩ := hx p c m
    obtain ⟨its, rv, ⟨ob, g1, g2, n, g3⟩, _⟩ := I.tuple h1
    obtain ⟨u1, u2, rfl, e1, e2⟩ := vals2 rv
    obtain rfl : u1 = Value.ref q1 := e1
    obtain rfl : u2 = Value.ref q2 := e2
    rw [e]
    exact ⟨_, .tuple g1 g2 g3 (.cons (reads_tup I h2) (.cons (reads_tup I h3) .nil))⟩
  have hal : PySem.W.AllAlike (cs.map (k2 f)) := PySem.W.AllAlike.of fun b b' => by
    show PySem.W.alike (.tuple [_, _]) (.tuple [_, _]) = true
    unfold PySem.W.alike PySem.W.alikeAll PySem.W.alikeAll
    rw [alike_tup, alike_tup]
    simp [PySem.W.alikeAll]
  have hk : PySem.W.Sortable (cs.map (k2 f)) := .inl fun d hd => by
    obtain ⟨c, _, rfl⟩ := List.mem_map.mp hd
    exact ⟨_, _, rfl⟩
  refine PySem.W.sorted_data (R := fun v c => ∃ p, v = Value.ref p ∧ (p, c) ∈ as.zip cs) hl.isList (zip_refs hlen) er hal hk (by omega) (fun c _ => ?_) fun out ho eo => ?_
  · have e : (k2 f c).depth ≤ 60 := by
      unfold k2 PyData.depth PyData.depthAll PyData.depthAll PyData.depthAll PyData.depth
      rw [PySem.W.depth_ints, PySem.W.depth_ints]
      decide
    omega
  · obtain ⟨ps, hps, ep⟩ := addrs_of eo
    subst hps
    have lp : ps.length = cs.length := by
      have := ep.length
      rw [List.length_mergeSort] at this
      exact this
    obtain ⟨en, he'⟩ := PyProof.Rows.sortedAll_at s.heap (as.map Value.ref) (ps.map Value.ref).toArray
    exact ⟨.ref _, upd H (s.heap.objs.size + 1) (.lst (ps.map V.ref)), I.laid (t' := s.toks) (fun _ _ => PyProof.Rows.sortedAll_old) (Nat.le_succ _) ⟨by rw [List.length_map]; omega, ps.map Value.ref, en, vals_refs ps, he'⟩, rfl, q _ _ ep (I.hok.fresh (Nat.le_succ _))⟩
end Lk

namespace Lk
open PySem L2 Lx LamX
/-- one of two places is odd: the first, or the second behind a good first -/
def spTwoX (K : PySem.W.Frag) (C CE : Addr) : Sp := fun vs H _ E => ∃ (p : Addr) (u v z : V) (o : Option (List V)) (ds : List Int) (n : Nat) (t : Tr), vs = [.ref p, u, v] ∧ ScanAt K C H p ds n t ∧ OD K H z o ∧ plB o (ds.length : Int) = false ∧
  (u = z ∨ (v = z ∧ ∃ (c : Addr) (x : List Int), u = .ref c ∧ SqT K H c (x.map V.int) ∧ x.length = ds.length)) ∧
  ∀ (d : Addr) (H' : Hp), (∀ b u, H b = some u → H' b = some u) → H' d = some (.xd (xflds "given" z "InvalidPlace")) → E (.ref CE) (some d) H'
section
variable {P : Program} {w : World} {K : PySem.W.Frag} {mg : Str → Option Value} {base : Heap}
end
/-! ### a fork into as many groups as classes -/
def spForked (K : PySem.W.Frag) : Sp := fun vs H Q _ => ∃ (b l p : Addr) (ds : List Int) (n : Nat) (t : Tr), vs = [.ref b, .ref p] ∧ BagAt H b l ∧ PairAt K H p ds n t ∧
  ∀ (q : Addr) (u : Tr) (H' : Hp), PairAt K H' q ds n u → BagAt H' b l → But b H H' → Q (.ref q) H'
theorem flatten_single : ∀ l : List Int, (l.map fun x => [x]).flatten = l
  | [] => rfl
  | x :: r => by
    show [x] ++ (r.map fun x => [x]).flatten = x :: r
    rw [flatten_single r]
    rfl
theorem ints_of : ∀ {ys : List V}, (∀ y ∈ ys, ∃ i : Int, y = V.int i) → ∃ ns : List Int, ys = ns.map V.int
  | [], _ => ⟨[], rfl⟩
  | y :: r, h => by
    obtain ⟨i, rfl⟩ := h y List.mem_cons_self
    obtain ⟨ns, rfl⟩ := ints_of (ys := r) fun z hz => h z (List.mem_cons_of_mem _ hz)
    exact ⟨i :: ns, rfl⟩
def unI : V → Int
  | .int i => i
  | _ => 0
theorem unI_map (ns : List Int) : (ns.map V.int).map unI = ns := by
  rw [List.map_map]
  exact List.map_id _
theorem perm_ints {ns ms : List Int} (h : (ns.map V.int).Perm (ms.map V.int)) : ns.Perm ms := by
  have := h.map unI
  rwa [unI_map, unI_map] at this
section
variable {P : Program} {w : World} {K : PySem.W.Frag} {mg : Str → Option Value} {base : Heap}
end
end Lk

namespace Lk
open PySem L2 Lx LamX LrA LqA
theorem room65 {k : Nat} {A : Around} (r : Room k A) : A.units + 65 < cLine := by have := r.un; omega
/-! ### lists of places as data -/
abbrev dl (l : List (List Int)) : List PyData := l.map fun c => PyData.tuple (c.map .int)
theorem dp_ints {K : PySem.W.Frag} {H : Hp} : ∀ ns : List Int, DpAll K H (ns.map V.int) (ns.map PyData.int)
  | [] => .nil
  | x :: r => .cons (.int x) (dp_ints r)
theorem dp_tup {K : PySem.W.Frag} {H : Hp} {a : Addr} {ns : List Int} (h : SqT K H a (ns.map V.int)) : Dp K H (.ref a) (.tuple (ns.map .int)) := .tup h (dp_ints ns)
theorem dp_hds {K : PySem.W.Frag} {H : Hp} : ∀ {l : List (List Int)} {ws : List V}, HdsAt K H l ws → DpAll K H ws (dl l)
  | [], _, h => by
    have h : _ = [] := h
    rw [h]
    exact .nil
  | c :: r, _, ⟨a, wr, h1, h2, h3⟩ => by
    rw [h1]
    exact .cons (dp_tup h2) (dp_hds h3)
theorem lay_ints : ∀ ns : List Int, PyData.canLayAll0 (ns.map .int) = true
  | [] => rfl
  | x :: r => by
    show PyData.canLayAll0 (.int x :: r.map .int) = true
    unfold PyData.canLayAll0
    rw [lay_ints r]
    rfl
theorem lay_dl : ∀ l : List (List Int), PyData.canLayAll0 (dl l) = true
  | [] => rfl
  | c :: r => by
    show PyData.canLayAll0 (.tuple (c.map .int) :: dl r) = true
    unfold PyData.canLayAll0 PyData.canLay0
    rw [lay_dl r, lay_ints c]
    rfl
theorem dep_tup (c : List Int) : (PyData.tuple (c.map .int)).depth ≤ 1 := by
  unfold PyData.depth
  rw [PySem.W.depth_ints]
  decide
theorem dep_dl : ∀ l : List (List Int), PyData.depthAll (dl l) ≤ 1
  | [] => by simp [PyData.depthAll]
  | c :: r => by
    show PyData.depthAll (.tuple (c.map .int) :: dl r) ≤ 1
    unfold PyData.depthAll
    have h1 := dep_dl r
    have h2 := dep_tup c
    omega
theorem shp_tup (c : List Int) : SeqAt.shaped (.tuple (c.map .int)) = true := by
  unfold SeqAt.shaped
  have h := dep_tup c
  rw [decide_eq_true (show (PyData.tuple (c.map .int)).depth ≤ 64 by omega), Bool.and_true]
  unfold PyData.canLay0
  exact lay_ints c
theorem shp_dl (l : List (List Int)) : SeqAt.shaped (.list (dl l)) = true := by
  unfold SeqAt.shaped
  have h := dep_dl l
  have h2 : (PyData.list (dl l)).depth ≤ 64 := by
    unfold PyData.depth
    omega
  rw [decide_eq_true h2, Bool.and_true]
  unfold PyData.canLay0
  exact lay_dl l
theorem eqv_tups (a b : List Int) : PyData.eqv (.tuple (a.map .int)) (.tuple (b.map .int)) = decide (a = b) := by
  unfold PyData.eqv
  exact eqv_tup a b
theorem any_dl (x : List Int) : ∀ l : List (List Int), ((dl l).any fun z => PyData.eqv z (.tuple (x.map .int))) = decide (x ∈ l)
  | [] => by simp
  | c :: r => by
    show (PyData.eqv (.tuple (c.map .int)) (.tuple (x.map .int)) || ((dl r).any fun z => PyData.eqv z (.tuple (x.map .int)))) = _
    rw [any_dl x r, eqv_tups]
    by_cases e : c = x
    · simp [e]
    · have : ¬ x = c := fun z => e z.symm
      simp [e, this]
theorem first_ix {x : List Int} : ∀ {l : List (List Int)}, x ∈ l → ∃ j : Nat, l[j]? = some x ∧ ∀ m, m < j → l[m]? ≠ some x
  | c :: r, h => by
    by_cases e : c = x
    · exact ⟨0, by rw [e]; rfl, fun m hm => absurd hm (Nat.not_lt_zero _)⟩
    · rcases List.mem_cons.mp h with z | z
      · exact absurd z.symm e
      · obtain ⟨j, h1, h2⟩ := first_ix z
        refine ⟨j + 1, h1, fun m hm => ?_⟩
        match m, hm with
        | 0, _ => exact fun z => e (Option.some.inj z)
        | m + 1, hm => exact h2 m (by omega)
/-! ### order and rank, and what they refuse -/
def lnO : Option (List V) → Nat
  | none => 0
  | some xs => xs.length
def oxE (o : Option (List V)) (c : Nat) : Nat := if sdB o 0 = true ∧ lnO o = c then (if 2000 < prodL (itsI o) then 2 else 0) else 1
def spChkBoxX (K : PySem.W.Frag) (C1 : Addr) : Sp := fun vs H _ E => ∃ (v : V) (c : Nat) (o : Option (List V)), vs = [v, .int c] ∧ OD K H v o ∧ ¬ (sdB o 0 = true ∧ lnO o = c) ∧ ∀ (d : Addr) (H' : Hp), (∀ b u, H b = some u → H' b = some u) → H' d = some (.xd (xflds "given" v "InvalidBox")) → E (.ref C1) (some d) H'
def spOrdX (K : PySem.W.Frag) (C C1 C2 : Addr) : Sp := fun vs H _ E => ∃ (p : Addr) (v : V) (o : Option (List V)) (ds : List Int) (n : Nat) (t : Tr), vs = [.ref p, v] ∧ ScanAt K C H p ds n t ∧ OD K H v o ∧ OB o ∧ oxE o ds.length ≠ 0 ∧ BxK C1 C2 v (oxE o ds.length) H E
def BoxAt (K : PySem.W.Frag) (H : Hp) (b : Addr) (ns : List Int) (d : Nat) : Prop := SqT K H b (ns.map V.int) ∧ ns.length = d ∧ (∀ z ∈ ns, 0 ≤ z ∧ z < 2 ^ 64) ∧ prodL ns ≤ 2000
def spRank (K : PySem.W.Frag) (C : Addr) : Sp := fun vs H Q _ => ∃ (p b c : Addr) (ds : List Int) (n : Nat) (t : Tr) (ns x : List Int), vs = [.ref p, .ref b, .ref c] ∧ ScanAt K C H p ds n t ∧ BoxAt K H b ns ds.length ∧ SqT K H c (x.map V.int) ∧ x ∈ cellN ns ∧
  ∀ (H' : Hp) (j : Nat), Same H H' → ((cellN ns).mergeSort (leF ds t))[j]? = some x → Q (.int j) H'
def spRankX (K : PySem.W.Frag) (C C1 C2 CE : Addr) : Sp := fun vs H _ E => ∃ (p : Addr) (v u : V) (ds : List Int) (n : Nat) (t : Tr), vs = [.ref p, v, u] ∧ ScanAt K C H p ds n t ∧
  ((∃ o, OD K H v o ∧ OB o ∧ oxE o ds.length ≠ 0 ∧ BxK C1 C2 v (oxE o ds.length) H E) ∨
   (∃ b ns, v = .ref b ∧ BoxAt K H b ns ds.length ∧ ((∃ o, OD K H u o ∧ plB o ds.length = false) ∨ (∃ c x, u = .ref c ∧ SqT K H c (x.map V.int) ∧ x.length = ds.length ∧ x ∉ cellN ns)) ∧ PlK CE u H E))
section
variable {P : Program} {w : World} {K : PySem.W.Frag} {mg : Str → Option Value} {base : Heap}
end
end Lk

namespace Lk
open PySem L2 Lx LamX
/-! ### multiples of divisors -/
def Mul (nds ds : List Int) : Prop := nds.length = ds.length ∧ ∀ (i : Nat) (u v : Int), nds[i]? = some u → ds[i]? = some v → u % v = 0
def muB (nds ds : List Int) : Bool := decide (nds.length = ds.length) && ((List.zipWith (fun u v => decide (u % v = 0)) nds ds).all id)
theorem muB_iff {nds ds : List Int} : muB nds ds = true ↔ Mul nds ds := by
  unfold muB Mul
  rw [Bool.and_eq_true_iff, decide_eq_true_eq]
  refine and_congr_right fun hl => ?_
  rw [List.all_eq_true]
  constructor
  · intro h i u v hu hv
    have : (List.zipWith (fun u v => decide (u % v = 0)) nds ds)[i]? = some (decide (u % v = 0)) := by rw [List.getElem?_zipWith, hu, hv]
    exact of_decide_eq_true (h _ (List.mem_of_getElem? this))
  · intro h b hb
    obtain ⟨i, hi⟩ := List.mem_iff_getElem?.mp hb
    rw [List.getElem?_zipWith] at hi
    cases hu : nds[i]? with
    | none => rw [hu] at hi; cases hi
    | some u =>
      cases hv : ds[i]? with
      | none => rw [hu, hv] at hi; cases hi
      | some v =>
        rw [hu, hv] at hi
        have hi : some (decide (u % v = 0)) = some b := hi
        cases hi
        exact decide_eq_true (h i u v hu hv)
theorem Mul.tail {u v : Int} {nds ds : List Int} (m : Mul (u :: nds) (v :: ds)) : u % v = 0 ∧ Mul nds ds := by
  refine ⟨m.2 0 u v rfl rfl, ?_, fun i a b ha hb => m.2 (i + 1) a b (by simpa using ha) (by simpa using hb)⟩
  have := m.1
  simpa using this
def zer (d : Nat) : List Int := List.replicate d 0
theorem plus_zer : ∀ (x : List Int), plus x (zer x.length) = x
  | [] => rfl
  | a :: x => by
    show (a + 0) :: plus x (zer x.length) = a :: x
    rw [plus_zer x, Int.add_zero]
theorem plus_zer' {x : List Int} {d : Nat} (h : x.length = d) : plus x (zer d) = x := by
  rw [← h]
  exact plus_zer x
theorem rst_cls : ∀ {nds ds z : List Int}, Mul nds ds → nds.length = z.length → ∀ n, clsF (ds.zip (rst nds z)) n = clsF (ds.zip z) n
  | [], [], _, _, _, n => by simp [rst, clsF]
  | [], _ :: _, _, m, _, n => by cases m.1
  | _ :: _, [], _, m, _, n => by cases m.1
  | u :: nds, v :: ds, [], _, h, n => by cases h
  | u :: nds, v :: ds, s :: z, m, h, n => by
    obtain ⟨hm, mt⟩ := m.tail
    show clsF (ds.zip (rst nds z)) (n * v + (s % u) % v) = clsF (ds.zip z) (n * v + s % v)
    rw [rst_cls mt (by simpa using h), Int.emod_emod_of_dvd s (Int.dvd_of_emod_eq_zero hm)]
theorem ref_src {ds nds z : List Int} {n' : Nat} (D : Divs nds) (hn : prodL nds = (n' : Int)) (m : Mul nds ds) (h1 : 1 ≤ ds.length) (h3 : ds.length ≤ 3) (hz : z.length = ds.length) :
    (srcM ds (idM ds.length) (zer ds.length) nds n').getD (cls nds z).toNat 0 = cls ds z := by
  have hz' : nds.length = z.length := by rw [m.1, hz]
  have b := cls_in D hn hz'
  rw [srcM_get (by omega), show (((cls nds z).toNat : Nat) : Int) = cls nds z by omega, mul_id h1 h3 (by rw [pAt_len, m.1]), pAt_cls hz' D.one]
  have lr : (rst nds z).length = ds.length := by
    unfold rst
    rw [List.length_map, List.length_zip, m.1]
    omega
  rw [plus_zer' lr]
  exact rst_cls m hz' 0
theorem ref_srcs {ds nds : List Int} {n n' : Nat} (D : Divs ds) (hn : prodL ds = (n : Int)) (D' : Divs nds) (hn' : prodL nds = (n' : Int)) (m : Mul nds ds) (h1 : 1 ≤ ds.length) (h3 : ds.length ≤ 3) : Srcs (srcM ds (idM ds.length) (zer ds.length) nds n') n := by
  constructor
  · intro c hc
    unfold srcM at hc
    obtain ⟨j, hj, rfl⟩ := List.mem_map.mp hc
    refine cls_in D hn ?_
    have lp : (pAt nds (j : Int)).length = ds.length := by rw [pAt_len, m.1]
    rw [mul_id h1 h3 lp, plus_zer' lp, lp]
  · intro c c0 c1
    have lp : (pAt ds c).length = ds.length := pAt_len ds c
    have b := cls_in (n := n') D' hn' (z := pAt ds c) (by rw [lp, m.1])
    refine ⟨(cls nds (pAt ds c)).toNat, by rw [srcM_len]; omega, ?_⟩
    rw [ref_src D' hn' m h1 h3 lp]
    exact cls_pAt D c0 (by rw [hn]; exact c1)
def rfT (ds nds : List Int) (n' : Nat) (e t : Tr) : Tr := mvT (srcM ds (idM ds.length) (zer ds.length) nds n') (idM ds.length) e t
theorem ref_ok {ds nds : List Int} {n n' : Nat} {t : Tr} (O : ScanOk ds n t) (D' : Divs nds) (hn' : prodL nds = (n' : Int)) (m : Mul nds ds) : ScanOk nds n' (rfT ds nds n' .pl t) := by
  refine ⟨D', by rw [m.1]; exact O.l1, by rw [m.1]; exact O.l3, hn', ?_, ?_, ?_⟩
  · have := mvT_wf (ref_srcs O.dv O.pr D' hn' m O.l1 O.l3) O.l1 O.l3 t O.wf
    rw [srcM_len] at this
    rw [m.1]
    exact this
  · unfold rfT
    rw [mvT_dep]
    exact O.dp
  · unfold rfT
    rw [mvT_size]
    exact O.sz
theorem ref_lt {ds nds : List Int} {n n' : Nat} {t : Tr} {x y : List Int} (O : ScanOk ds n t) (D' : Divs nds) (hn' : prodL nds = (n' : Int)) (m : Mul nds ds) (hx : x.length = ds.length) (hy : y.length = ds.length) :
    lx (full nds (rfT ds nds n' .pl t) x) (full nds (rfT ds nds n' .pl t) y) = lx (full ds t x) (full ds t y) := by
  have c1 := cls_in D' hn' (z := x) (by rw [m.1, hx])
  have c2 := cls_in D' hn' (z := y) (by rw [m.1, hy])
  have lz : (zer ds.length).length = ds.length := List.length_replicate
  have e := mv_lt (p := zer ds.length) (x := x) (y := y) (c1 := cls nds x) (c2 := cls nds y) (ref_srcs O.dv O.pr D' hn' m O.l1 O.l3) O.l1 O.l3 (by rw [srcM_len]; exact c1) (by rw [srcM_len]; exact c2) (by rw [lz]; exact hx) (by rw [lz]; exact hy) t O.wf
  rw [ref_src D' hn' m O.l1 O.l3 hx, ref_src D' hn' m O.l1 O.l3 hy, plus_zer' hx, plus_zer' hy] at e
  exact e
theorem ref_tied {ds nds : List Int} {n n' : Nat} {t : Tr} {x y : List Int} (O : ScanOk ds n t) (D' : Divs nds) (hn' : prodL nds = (n' : Int)) (m : Mul nds ds) (hx : x.length = ds.length) (hy : y.length = ds.length) :
    (pth (rfT ds nds n' .pl t) (cls nds x) x = pth (rfT ds nds n' .pl t) (cls nds y) y) ↔ (pth t (cls ds x) x = pth t (cls ds y) y) := by
  have c1 := cls_in D' hn' (z := x) (by rw [m.1, hx])
  have c2 := cls_in D' hn' (z := y) (by rw [m.1, hy])
  have lz : (zer ds.length).length = ds.length := List.length_replicate
  have e := mv_eq (p := zer ds.length) (x := x) (y := y) (c1 := cls nds x) (c2 := cls nds y) (ref_srcs O.dv O.pr D' hn' m O.l1 O.l3) O.l1 O.l3 (by rw [srcM_len]; exact c1) (by rw [srcM_len]; exact c2) (by rw [lz]; exact hx) (by rw [lz]; exact hy) t O.wf
  rw [ref_src D' hn' m O.l1 O.l3 hx, ref_src D' hn' m O.l1 O.l3 hy, plus_zer' hx, plus_zer' hy] at e
  exact e
end Lk

namespace Lk
open PySem L2 Lx LamX LrA LqA
/-! ### sum of a tuple -/
def rSumT (K : PySem.W.Frag) : List V → Hp → VK → Prop := fun vs H Q => ∃ (a : Addr) (ns : List Int), vs = [V.ref a] ∧ SqT K H a (ns.map V.int) ∧ Q (.int ns.sum) H
theorem cr_sumT {X : Cx} (hc : X.calm = true) : CallR X (.builtin "sum") (rSumT X.K) := by
  intro pins s σ H vs us Q I r h
  obtain ⟨a, ns, rfl, hs, q⟩ := h
  obtain ⟨its, rv, hl, _⟩ := I.tuple hs
  rw [Vals.ref1 r]
  have hi := rv.ints
  obtain ⟨xs, e⟩ := hi.allInts.items
  have hn : PySem.numsOf (PySem.intItems xs).toList = ns := by rw [← e]; exact hi.numsOf
  rw [PySem.nums_intItems] at hn
  rw [e] at hl
  refine PySem.W.ktm_sumG (I.ok.hd hc) hl fun h' tk t' hk => ?_
  rw [PySem.preSum_eq, List.take_of_length_le (by simp), hn]
  exact ⟨.int _, H, I.kept hk, ⟨_, rfl⟩, q⟩
/-! ### InvalidCount is made -/
def spChkDir : Sp := fun vs H Q _ => ∃ d : Int, vs = [.int d] ∧ 1 ≤ d ∧ d ≤ 3 ∧ ∀ H', Same H H' → Q .non H'
/-- no number of directions -/
def NoDir (v : V) : Prop := isI v = false ∨ ∃ d : Int, v = .int d ∧ ¬ (1 ≤ d ∧ d ≤ 3)
def CtK (C : Addr) (v : V) (H : Hp) (E : XK) : Prop := ∀ (d : Addr) (H' : Hp), (∀ b u, H b = some u → H' b = some u) → H' d = some (.xd (xflds "given" v "InvalidCount")) → E (.ref C) (some d) H'
def spChkDirX (K : PySem.W.Frag) (C : Addr) : Sp := fun vs H _ E => ∃ v : V, vs = [v] ∧ ItD K H v ∧ NoDir v ∧ CtK C v H E
def spNeg (K : PySem.W.Frag) : Sp := fun vs H Q _ => ∃ (a : Addr) (ns : List Int), vs = [.ref a] ∧ SqT K H a (ns.map V.int) ∧ ns.length ≤ 12 ∧ ∀ H' p, Same H H' → SqT K H' p ((ns.map fun z => -z).map V.int) → Q (.ref p) H'
/-- keys one inside of another, the last row outside -/
def chL (l : List (List Int)) (n : Nat) (e : Tr) : Tr := l.foldl (fun t row => Tr.key row (zer n) t) e
def spKCh (K : PySem.W.Frag) (tup : Bool) : Sp := fun vs H Q _ => ∃ (r : Addr) (n : Nat) (ev : V) (ws : List V) (rs : List (List Int)) (e : Tr), vs = [.ref r, .int n, ev] ∧ (if tup = true then SqT K H r ws else SqL K H r ws) ∧ HdsAt K H rs ws ∧ rs.length ≤ 12 ∧ n ≤ 100 ∧ TrAt K H e ev ∧
  ∀ H' u, Same H H' → TrAt K H' (chL rs.reverse n e) u → Q u H'
def parL (ds : List Int) (n : Nat) (c : Int) : List Int := (rng0 n).filter fun i => decide ((pAt ds i).sum % 2 = c)
def spPar (K : PySem.W.Frag) : Sp := fun vs H Q _ => ∃ (a : Addr) (ds : List Int) (c : Int) (n : Nat), vs = [.ref a, .int c] ∧ SqT K H a (ds.map V.int) ∧ Divs ds ∧ ds.length ≤ 3 ∧ prodL ds = (n : Int) ∧ ∀ H' p, Same H H' → SqT K H' p ((parL ds n c).map V.int) → Q (.ref p) H'
def spPDir (K : PySem.W.Frag) (C : Addr) : Sp := fun vs H Q _ => ∃ (p : Addr) (ds : List Int) (n : Nat) (t : Tr), vs = [.ref p] ∧ ScanAt K C H p ds n t ∧ Q (.int ds.length) H
theorem hds_rev {K : PySem.W.Frag} {H : Hp} {l : List (List Int)} {ws : List V} {i : Nat} {y : V} (h : HdsAt K H l ws) (e : ws.reverse[i]? = some y) : ∃ c a, l.reverse[i]? = some c ∧ y = .ref a ∧ SqT K H a (c.map V.int) := by
  have hl := h.len
  have hi : i < ws.reverse.length := (List.getElem?_eq_some_iff.mp e).1
  rw [List.length_reverse] at hi
  rw [List.getElem?_reverse hi] at e
  obtain ⟨c, a, e1, e2, e3⟩ := h.get e
  refine ⟨c, a, ?_, e2, e3⟩
  rw [List.getElem?_reverse (by omega), ← hl]
  exact e1
section
variable {P : Program} {w : World} {K : PySem.W.Frag} {mg : Str → Option Value} {base : Heap}
end
end Lk

namespace Lk
open PySem L2 Lx LamX LrA LqA
/-! ### the tree of the opposite scan -/
mutual
def trT (e : Tr) : Tr → Tr
  | .pl => e
  | .key row hs t => .key (row.map fun z => -z) (hs.map fun z => -z) (trT e t)
  | .fork gs => .fork (trA e gs .nil)
def trA (e : Tr) : Gs → Gs → Gs
  | .nil, acc => acc
  | .cons cs t r, acc => trA e r (.cons cs (trT e t) acc)
end
theorem trA_heads (e : Tr) : ∀ (g acc : Gs), (trA e g acc).heads = g.heads.reverse ++ acc.heads
  | .nil, acc => by simp [trA, Gs.heads]
  | .cons c t r, acc => by simp [trA, Gs.heads, trA_heads e r]
theorem trA_trees (e : Tr) : ∀ (g acc : Gs), (trA e g acc).trees = (g.trees.map (trT e)).reverse ++ acc.trees
  | .nil, acc => by simp [trA, Gs.trees]
  | .cons c t r, acc => by simp [trA, Gs.trees, trA_trees e r]
theorem gs_many {g : Gs} {d n : Nat} (hp : g.classes.Perm (rng0 n)) (hw : g.wf d n) : g.heads.length ≤ n := by
  have e1 : ∀ l : List (List Int), (∀ c ∈ l, c ≠ []) → l.length ≤ l.flatten.length := fun l => by
    induction l with
    | nil => intro _; simp
    | cons c r ih =>
      intro hc
      have h1 := ih fun x hx => hc x (List.mem_cons_of_mem _ hx)
      have h2 : 0 < c.length := List.length_pos_iff.mpr (hc c List.mem_cons_self)
      simp only [List.flatten_cons, List.length_append, List.length_cons]
      omega
  have e2 := e1 g.heads fun c hc => (Gs.wf_heads hw c hc).1
  rw [← Gs.flat, hp.length_eq, rng0_len] at e2
  exact e2
def spTurnT (K : PySem.W.Frag) (m : Nat) : Sp := fun vs H Q _ => ∃ (v ev : V) (t e : Tr) (d n : Nat), vs = [v, ev] ∧ TrAt K H t v ∧ TrAt K H e ev ∧ t.wf d n ∧ t.dep ≤ m ∧ d ≤ 3 ∧ n ≤ 12 ∧ ∀ H' u, Same H H' → TrAt K H' (trT e t) u → Q u H'
section
variable {P : Program} {w : World} {K : PySem.W.Frag} {mg : Str → Option Value} {base : Heap}
end
end Lk

namespace Lk
open PySem L2 Lx LamX LrA LqA
/-! ### rows_scan, snake_scan -/
theorem made_same {C x dx : Addr} {H : Hp} (nx : H x = none) (nd : H dx = none) : Same H (upd (upd H dx (.own x)) x (.ins C dx [])) := fun y o e => by
  rw [upd_ne (ne_of_none e nx), upd_ne (ne_of_none e nd)]
  exact e
def ones (d : Nat) : List Int := List.replicate d 1
theorem prodL_ones : ∀ d : Nat, prodL (ones d) = 1
  | 0 => rfl
  | d + 1 => by
    show (1 : Int) * prodL (ones d) = 1
    rw [prodL_ones d]
    rfl
theorem divs_ones (d : Nat) : Divs (ones d) := ⟨fun z hz => by rw [(List.mem_replicate.mp hz).2]; decide, by rw [prodL_ones]; decide⟩
def spRows (K : PySem.W.Frag) (C : Addr) : Sp := fun vs H Q _ => ∃ d : Nat, vs = [.int d] ∧ 1 ≤ d ∧ d ≤ 3 ∧ ∀ (H' : Hp) (q : Addr), Same H H' → ScanAt K C H' q (ones d) 1 .pl → Q (.ref q) H'
/-- what the snake is made of -/
structure SnF (d : Nat) (ds : List Int) (n : Nat) (ri : List (List Int)) (last : List Int) : Prop where
  e1 : List.replicate ((d : Int) - 1).toNat (V.int 2) ++ [V.int 1] = ds.map V.int
  id : idM d = ri ++ [last]
  dv : Divs ds
  l1 : 1 ≤ ds.length
  l3 : ds.length ≤ 3
  d2 : 2 ≤ d
  d3 : d ≤ 3
  pr : prodL ds = (n : Int)
  lr : ri.length ≤ 3
  ll : last.length ≤ 12
  n12 : n ≤ 12
def snT (ds : List Int) (n : Nat) (ri : List (List Int)) (last : List Int) : Tr := chL ri.reverse n (.fork (.cons (parL ds n 0) .pl (.cons (parL ds n 1) (.key (last.map fun z => -z) (zer n) .pl) .nil)))
def spSnake (K : PySem.W.Frag) (C : Addr) : Sp := fun vs H Q _ => ∃ d : Nat, vs = [.int d] ∧ ((d = 1 ∧ ∀ (H' : Hp) (q : Addr), Same H H' → ScanAt K C H' q [1] 1 .pl → Q (.ref q) H') ∨
  (∃ ds n ri last, SnF d ds n ri last ∧ (snT ds n ri last).wf ds.length n ∧ (snT ds n ri last).size ≤ 200 ∧ (snT ds n ri last).dep ≤ 20 ∧ ∀ (H' : Hp) (q : Addr), Same H H' → ScanAt K C H' q ds n (snT ds n ri last) → Q (.ref q) H'))
theorem hds_snoc {K : PySem.W.Frag} {H : Hp} {c : List Int} : ∀ {l : List (List Int)} {ws : List V}, HdsAt K H (l ++ [c]) ws → ∃ wi a, ws = wi ++ [.ref a] ∧ HdsAt K H l wi ∧ SqT K H a (c.map V.int)
  | [], ws, ⟨a, wr, h1, h2, h3⟩ => by
    have h3 : wr = [] := h3
    exact ⟨[], a, by rw [h1, h3]; rfl, rfl, h2⟩
  | x :: r, ws, ⟨a, wr, h1, h2, h3⟩ => by
    obtain ⟨wi, b, e1, e2, e3⟩ := hds_snoc h3
    exact ⟨.ref a :: wi, b, by rw [h1, e1]; rfl, ⟨a, wi, rfl, h2, e2⟩, e3⟩
theorem at_last (wi : List V) (y : V) : atI (wi ++ [y]) (-1) = some y := by
  unfold atI
  have e : ixN (wi ++ [y]).length (-1) = some wi.length := by
    unfold ixN
    rw [List.length_append]
    show (if _ then _ else _) = _
    split <;> rename_i h <;> simp at h ⊢ <;> omega
  rw [e]
  simp
theorem cut_last (wi : List V) (y : V) : cutV (wi ++ [y]) none (some (-1)) = wi := by
  unfold cutV
  simp [HT.sIx]
  have e : (-1 + ((wi.length : Int) + 1)).toNat = wi.length := by omega
  rw [e, List.take_left' rfl]
section
variable {P : Program} {w : World} {K : PySem.W.Frag} {mg : Str → Option Value} {base : Heap}
end
end Lk

namespace Lk
open PySem L2 Lx LamX LrA LqA
/-- where the turned tree ends: all numbers of the place, with their signs changed -/
def endT (d n : Nat) : Tr := chL ((idM d).map fun r => r.map fun z => -z).reverse n .pl
def tnT (ds : List Int) (n : Nat) (t : Tr) : Tr := trT (endT ds.length n) t
def spTurned (K : PySem.W.Frag) (C : Addr) : Sp := fun vs H Q _ => ∃ (p : Addr) (ds : List Int) (n : Nat) (t : Tr), vs = [.ref p] ∧ ScanAt K C H p ds n t ∧ (tnT ds n t).wf ds.length n ∧ (tnT ds n t).size ≤ 200 ∧ (tnT ds n t).dep ≤ 20 ∧
  ∀ (H' : Hp) (q : Addr), Same H H' → ScanAt K C H' q ds n (tnT ds n t) → Q (.ref q) H'
theorem sf_ct (ct nt : Int) (a : Addr) (v : V) : (sf ct nt a v).lookup ("class_total" : Str) = some (.int ct) := by
  unfold sf
  rfl
theorem hds_take {K : PySem.W.Frag} {H : Hp} : ∀ {l : List (List Int)} {ws : List V} {c : List Int} {a : Addr}, HdsAt K H l ws → SqT K H a (c.map V.int) → HdsAt K H (l ++ [c]) (ws ++ [.ref a]) := fun h1 h2 => h1.app h2
section
variable {P : Program} {w : World} {K : PySem.W.Frag} {mg : Str → Option Value} {base : Heap}
end
end Lk

namespace Lk
open PySem L2 Lx LamX LrA LqA
/-! ### the opposite order -/
def ngl (x : List Int) : List Int := x.map fun z => -z
theorem dot_ng : ∀ (r x : List Int), dotL (r.map fun z => -z) x = -dotL r x
  | [], x => by simp [dotL]
  | a :: r, [] => by simp [dotL]
  | a :: r, b :: x => by
    have ih := dot_ng r x
    unfold dotL at ih ⊢
    simp only [List.map_cons, List.zipWith_cons_cons, List.sum_cons]
    rw [ih, Int.neg_mul]
    omega
theorem getD_ng (hs : List Int) (i : Nat) : (hs.map fun z => -z).getD i 0 = -(hs.getD i 0) := by
  rw [List.getD_eq_getElem?_getD, List.getElem?_map, List.getD_eq_getElem?_getD]
  cases hs[i]? with
  | none => rfl
  | some a => rfl
theorem lx_ng : ∀ {x y u v : List Int}, x.length = y.length → lx (ngl x ++ u) (ngl y ++ v) = if x = y then lx u v else lx y x
  | [], [], u, v, _ => by simp [ngl]
  | a :: x, b :: y, u, v, h => by
    have ih := lx_ng (x := x) (y := y) (u := u) (v := v) (by simpa using h)
    show (if -a = -b then lx (ngl x ++ u) (ngl y ++ v) else decide (-a < -b)) = if a :: x = b :: y then lx u v else (if b = a then lx y x else decide (b < a))
    by_cases e : a = b
    · subst e
      rw [if_pos rfl, if_pos rfl, ih]
      by_cases e2 : x = y
      · rw [if_pos e2, if_pos (by rw [e2])]
      · rw [if_neg e2, if_neg (fun z => e2 (List.cons.inj z).2)]
    · rw [if_neg (by omega), if_neg (fun z => e (List.cons.inj z).1), if_neg (fun z => e z.symm)]
      by_cases l : b < a
      · rw [decide_eq_true l, decide_eq_true (by omega)]
      · rw [decide_eq_false l, decide_eq_false (by omega)]
  | [], _ :: _, _, _, h => by cases h
  | _ :: _, [], _, _, h => by cases h
theorem lx_ng2 {x y : List Int} (h : x.length = y.length) : lx (ngl x ++ x) (ngl y ++ y) = lx y x := by
  rw [lx_ng h]
  by_cases e : x = y
  · rw [if_pos e, e]
  · rw [if_neg e]
theorem ngl_inj : ∀ {x y : List Int}, ngl x = ngl y → x = y
  | [], [], _ => rfl
  | a :: x, b :: y, h => by
    have h' : -a = -b ∧ ngl x = ngl y := List.cons.inj h
    rw [ngl_inj h'.2, show a = b by omega]
  | [], _ :: _, h => by cases h
  | _ :: _, [], h => by cases h
/-- the only group of a class -/
theorem only_group {c : Int} {n : Nat} {g : Gs} (hp : g.classes.Perm (rng0 n)) (h0 : 0 ≤ c) (h1 : c < n) : ∃ (j : Nat) (cs : List Int) (t : Tr), g.heads[j]? = some cs ∧ g.trees[j]? = some t ∧ c ∈ cs ∧ ∀ m cs', m ≠ j → g.heads[m]? = some cs' → c ∉ cs' := by
  have hm : c ∈ g.heads.flatten := by
    rw [← Gs.flat]
    exact hp.mem_iff.mpr (mem_rng0 h0 h1)
  obtain ⟨j, cs, e1, e2, _⟩ := first_of hm
  have hj : j < g.heads.length := (List.getElem?_eq_some_iff.mp e1).1
  have hj2 : j < g.trees.length := by rw [← Gs.heads_len]; exact hj
  refine ⟨j, cs, g.trees[j], e1, List.getElem?_eq_getElem hj2, e2, fun m cs' hne hm' hc => ?_⟩
  have nd : g.heads.flatten.Nodup := by
    rw [← Gs.flat]
    exact hp.nodup_iff.mpr (rng0_nodup n)
  have pw := List.pairwise_iff_getElem.mp (List.pairwise_flatten.mp nd).2
  have hml : m < g.heads.length := (List.getElem?_eq_some_iff.mp hm').1
  have em : g.heads[m] = cs' := (List.getElem?_eq_some_iff.mp hm').2
  have ej : g.heads[j] = cs := (List.getElem?_eq_some_iff.mp e1).2
  rcases Nat.lt_or_gt_of_ne hne with l | l
  · have := pw m j hml hj l
    rw [em, ej] at this
    exact this c hc c e2 rfl
  · have := pw j m hj hml l
    rw [em, ej] at this
    exact this c e2 c hc rfl
theorem pth_group {c : Int} {g : Gs} {j : Nat} {cs : List Int} {t : Tr} (e : Tr) (x : List Int) (h1 : g.heads[j]? = some cs) (h2 : g.trees[j]? = some t) (h3 : c ∈ cs) (h4 : ∀ m cs', m ≠ j → g.heads[m]? = some cs' → c ∉ cs') :
    pthG g 0 c x = (j : Int) :: pth t c x ∧ pthG (trA e g .nil) 0 c x = ((g.heads.length : Int) - 1 - j) :: pth (trT e t) c x := by
  have hj : j < g.heads.length := (List.getElem?_eq_some_iff.mp h1).1
  have hl := Gs.heads_len g
  constructor
  · rw [pthG_at 0 c x h1 h2 h3 (fun m cs' hm hh => h4 m cs' (by omega) hh)]
    congr 1
    omega
  · have k1 : (trA e g .nil).heads[g.heads.length - 1 - j]? = some cs := by
      rw [trA_heads, show (Gs.nil).heads = [] from rfl, List.append_nil, List.getElem?_reverse (by omega)]
      rw [show g.heads.length - 1 - (g.heads.length - 1 - j) = j by omega]
      exact h1
    have k2 : (trA e g .nil).trees[g.heads.length - 1 - j]? = some (trT e t) := by
      rw [trA_trees, show (Gs.nil).trees = [] from rfl, List.append_nil, List.getElem?_reverse (by rw [List.length_map]; omega)]
      rw [List.length_map, ← hl, show g.heads.length - 1 - (g.heads.length - 1 - j) = j by omega, List.getElem?_map, h2]
      rfl
    rw [pthG_at 0 c x k1 k2 h3 (fun m cs' hm hh => ?_)]
    · congr 1
      omega
    · rw [trA_heads, show (Gs.nil).heads = [] from rfl, List.append_nil, List.getElem?_reverse (by omega)] at hh
      exact h4 _ cs' (by omega) hh
section
variable {e : Tr} {c1 c2 : Int} {x y : List Int} {d n : Nat}
mutual
theorem tr_lt (b1 : 0 ≤ c1 ∧ c1 < n) (b2 : 0 ≤ c2 ∧ c2 < n) (he : lx (pth e c1 x ++ x) (pth e c2 y ++ y) = lx y x) : ∀ t : Tr, t.wf d n → lx (pth (trT e t) c1 x ++ x) (pth (trT e t) c2 y ++ y) = lx (pth t c2 y ++ y) (pth t c1 x ++ x)
  | .pl, _ => by
    simp only [trT, pth, List.nil_append]
    exact he
  | .key row hs t, w => by
    simp only [Tr.wf] at w
    have ih := tr_lt b1 b2 he t w.2.2.2
    simp only [trT, pth, List.cons_append]
    rw [dot_ng, dot_ng, getD_ng, getD_ng]
    generalize hs.getD c1.toNat 0 = v1
    generalize hs.getD c2.toNat 0 = v2
    show (if -dotL row x + -v1 = -dotL row y + -v2 then lx (pth (trT e t) c1 x ++ x) (pth (trT e t) c2 y ++ y) else decide (-dotL row x + -v1 < -dotL row y + -v2)) = (if dotL row y + v2 = dotL row x + v1 then lx (pth t c2 y ++ y) (pth t c1 x ++ x) else decide (dotL row y + v2 < dotL row x + v1))
    rw [ih]
    by_cases z : dotL row y + v2 = dotL row x + v1
    · rw [if_pos z, if_pos (by omega)]
    · rw [if_neg z, if_neg (by omega)]
      by_cases l : dotL row y + v2 < dotL row x + v1
      · rw [decide_eq_true l, decide_eq_true (by omega)]
      · rw [decide_eq_false l, decide_eq_false (by omega)]
  | .fork g, w => by
    simp only [Tr.wf] at w
    obtain ⟨j1, cs1, t1, p1, p2, p3, p4⟩ := only_group w.1 b1.1 b1.2
    obtain ⟨j2, cs2, t2, r1, r2, r3, r4⟩ := only_group w.1 b2.1 b2.2
    obtain ⟨k1, k2⟩ := pth_group e x p1 p2 p3 p4
    obtain ⟨k3, k4⟩ := pth_group e y r1 r2 r3 r4
    simp only [trT, pth]
    rw [k1, k2, k3, k4]
    simp only [List.cons_append]
    show (if (g.heads.length : Int) - 1 - j1 = g.heads.length - 1 - j2 then lx (pth (trT e t1) c1 x ++ x) (pth (trT e t2) c2 y ++ y) else decide ((g.heads.length : Int) - 1 - j1 < g.heads.length - 1 - j2)) = (if (j2 : Int) = j1 then lx (pth t2 c2 y ++ y) (pth t1 c1 x ++ x) else decide ((j2 : Int) < j1))
    by_cases z : j1 = j2
    · subst z
      have et : t1 = t2 := Option.some.inj (p2.symm.trans r2)
      subst et
      rw [if_pos rfl, if_pos rfl]
      exact trG_lt b1 b2 he g w.2 t1 (List.mem_of_getElem? p2)
    · rw [if_neg (by omega), if_neg (by omega)]
      by_cases l : j2 < j1
      · rw [decide_eq_true (by omega), decide_eq_true (by omega)]
      · rw [decide_eq_false (by omega), decide_eq_false (by omega)]
theorem trG_lt (b1 : 0 ≤ c1 ∧ c1 < n) (b2 : 0 ≤ c2 ∧ c2 < n) (he : lx (pth e c1 x ++ x) (pth e c2 y ++ y) = lx y x) : ∀ g : Gs, g.wf d n → ∀ t ∈ g.trees, lx (pth (trT e t) c1 x ++ x) (pth (trT e t) c2 y ++ y) = lx (pth t c2 y ++ y) (pth t c1 x ++ x)
  | .nil, _, t, h => by simp [Gs.trees] at h
  | .cons cs u r, w, t, h => by
    simp only [Gs.wf] at w
    simp only [Gs.trees] at h
    rcases List.mem_cons.mp h with z | z
    · rw [z]
      exact tr_lt b1 b2 he u w.2.1
    · exact trG_lt b1 b2 he r w.2.2 t z
end
mutual
theorem tr_end (b1 : 0 ≤ c1 ∧ c1 < n) : ∀ t : Tr, t.wf d n → ∃ q, pth (trT e t) c1 x = q ++ pth e c1 x
  | .pl, _ => ⟨[], by simp [trT]⟩
  | .key row hs t, w => by
    simp only [Tr.wf] at w
    obtain ⟨q, hq⟩ := tr_end b1 t w.2.2.2
    exact ⟨_ :: q, by simp only [trT, pth, List.cons_append, hq]; rfl⟩
  | .fork g, w => by
    simp only [Tr.wf] at w
    obtain ⟨j1, cs1, t1, p1, p2, p3, p4⟩ := only_group w.1 b1.1 b1.2
    obtain ⟨k1, k2⟩ := pth_group e x p1 p2 p3 p4
    obtain ⟨q, hq⟩ := trG_end b1 g w.2 t1 (List.mem_of_getElem? p2)
    exact ⟨_ :: q, by simp only [trT, pth]; rw [k2, hq]; rfl⟩
theorem trG_end (b1 : 0 ≤ c1 ∧ c1 < n) : ∀ g : Gs, g.wf d n → ∀ t ∈ g.trees, ∃ q, pth (trT e t) c1 x = q ++ pth e c1 x
  | .nil, _, t, h => by simp [Gs.trees] at h
  | .cons cs u r, w, t, h => by
    simp only [Gs.wf] at w
    simp only [Gs.trees] at h
    rcases List.mem_cons.mp h with z | z
    · rw [z]
      exact tr_end b1 u w.2.1
    · exact trG_end b1 r w.2.2 t z
end
end
/-! ### nodes -/
mutual
def Tr.ends : Tr → Nat
  | .pl => 1
  | .key _ _ t => t.ends
  | .fork gs => gs.ends
def Gs.ends : Gs → Nat
  | .nil => 0
  | .cons _ t r => t.ends + r.ends
end
mutual
theorem trT_size (e : Tr) (k : Nat) (hk : e.size = k + 1) : ∀ t : Tr, (trT e t).size = t.size + k * t.ends
  | .pl => by simp [trT, Tr.size, Tr.ends, hk]; omega
  | .key _ _ t => by simp [trT, Tr.size, Tr.ends, trT_size e k hk t]; omega
  | .fork gs => by
    have := trA_size e k hk gs .nil
    simp only [Gs.size] at this
    simp [trT, Tr.size, Tr.ends, this]; omega
theorem trA_size (e : Tr) (k : Nat) (hk : e.size = k + 1) : ∀ g acc : Gs, (trA e g acc).size = g.size + k * g.ends + acc.size
  | .nil, acc => by simp [trA, Gs.size, Gs.ends]
  | .cons _ t r, acc => by
    simp only [trA, Gs.size, Gs.ends]
    rw [trA_size e k hk r]
    simp only [Gs.size]
    rw [trT_size e k hk t, Nat.mul_add]
    omega
end
mutual
theorem trT_ends (e : Tr) (hk : e.ends = 1) : ∀ t : Tr, (trT e t).ends = t.ends
  | .pl => by simp [trT, Tr.ends, hk]
  | .key _ _ t => by simp [trT, Tr.ends, trT_ends e hk t]
  | .fork gs => by
    have := trA_ends e hk gs .nil
    simp only [Gs.ends] at this
    simp [trT, Tr.ends, this]
theorem trA_ends (e : Tr) (hk : e.ends = 1) : ∀ g acc : Gs, (trA e g acc).ends = g.ends + acc.ends
  | .nil, acc => by simp [trA, Gs.ends]
  | .cons _ t r, acc => by
    simp only [trA]
    rw [trA_ends e hk r]
    simp only [Gs.ends]
    rw [trT_ends e hk t]
    omega
end
mutual
theorem trT_dep (e : Tr) (k : Nat) (hk : e.dep ≤ k + 1) : ∀ t : Tr, (trT e t).dep ≤ t.dep + k
  | .pl => by simp [trT, Tr.dep]; omega
  | .key _ _ t => by
    have := trT_dep e k hk t
    simp only [trT, Tr.dep]
    omega
  | .fork gs => by
    have := trA_dep e k hk gs .nil
    simp only [Gs.dep] at this
    simp only [trT, Tr.dep]
    omega
theorem trA_dep (e : Tr) (k : Nat) (hk : e.dep ≤ k + 1) : ∀ g acc : Gs, (trA e g acc).dep ≤ max (g.dep + k) acc.dep
  | .nil, acc => by simp only [trA]; omega
  | .cons _ t r, acc => by
    have h1 := trA_dep e k hk r (.cons ‹_› (trT e t) acc)
    have h2 := trT_dep e k hk t
    simp only [Gs.dep] at h1
    simp only [trA, Gs.dep]
    omega
end
mutual
theorem trT_wf (e : Tr) {d n : Nat} (he : e.wf d n) : ∀ t : Tr, t.wf d n → (trT e t).wf d n
  | .pl, _ => by simp only [trT]; exact he
  | .key row hs t, w => by
    simp only [Tr.wf] at w
    simp only [trT, Tr.wf]
    refine ⟨by rw [List.length_map]; exact w.1, by rw [List.length_map]; exact w.2.1, fun z hz => ?_, trT_wf e he t w.2.2.2⟩
    obtain ⟨u, hu, rfl⟩ := List.mem_map.mp hz
    have := w.2.2.1 u hu
    omega
  | .fork gs, w => by
    simp only [Tr.wf] at w
    simp only [trT, Tr.wf]
    refine ⟨?_, trA_wf e he gs .nil w.2 (by simp [Gs.wf])⟩
    rw [Gs.flat, trA_heads, show (Gs.nil).heads = [] from rfl, List.append_nil]
    refine List.Perm.trans ?_ w.1
    rw [Gs.flat]
    exact (List.reverse_perm gs.heads).flatten
theorem trA_wf (e : Tr) {d n : Nat} (he : e.wf d n) : ∀ g acc : Gs, g.wf d n → acc.wf d n → (trA e g acc).wf d n
  | .nil, acc, _, h => by simp only [trA]; exact h
  | .cons cs t r, acc, w, h => by
    simp only [Gs.wf] at w
    simp only [trA]
    refine trA_wf e he r _ w.2.2 ?_
    simp only [Gs.wf]
    exact ⟨w.1, trT_wf e he t w.2.1, h⟩
end
/-! ### where it ends -/
theorem endT1 (n : Nat) : endT 1 n = .key [-1] (zer n) .pl := rfl
theorem endT2 (n : Nat) : endT 2 n = .key [-1, 0] (zer n) (.key [0, -1] (zer n) .pl) := rfl
theorem endT3 (n : Nat) : endT 3 n = .key [-1, 0, 0] (zer n) (.key [0, -1, 0] (zer n) (.key [0, 0, -1] (zer n) .pl)) := rfl
theorem zer_at (n i : Nat) : (zer n)[i]?.getD 0 = 0 := by
  unfold zer
  rw [List.getElem?_replicate]
  split <;> rfl
theorem end_pth {d n : Nat} (h1 : 1 ≤ d) (h3 : d ≤ 3) {x : List Int} (h : x.length = d) (c : Int) : pth (endT d n) c x = ngl x := by
  rcases small_d h1 h3 with rfl | rfl | rfl
  · match x, h with
    | [a], _ => simp [endT1, pth, dotL, zer_at, ngl]
  · match x, h with
    | [a, b], _ => simp [endT2, pth, dotL, zer_at, ngl]
  · match x, h with
    | [a, b, c], _ => simp [endT3, pth, dotL, zer_at, ngl]
theorem end_size {d n : Nat} (h1 : 1 ≤ d) (h3 : d ≤ 3) : (endT d n).size = d + 1 ∧ (endT d n).dep = d + 1 ∧ (endT d n).ends = 1 ∧ (endT d n).wf d n := by
  have lz : (zer n).length = n := List.length_replicate
  rcases small_d h1 h3 with rfl | rfl | rfl
  · rw [endT1]
    refine ⟨by simp [Tr.size], by simp [Tr.dep], by simp [Tr.ends], ?_⟩
    simp [Tr.wf, lz]
  · rw [endT2]
    refine ⟨by simp [Tr.size], by simp [Tr.dep], by simp [Tr.ends], ?_⟩
    simp [Tr.wf, lz]
  · rw [endT3]
    refine ⟨by simp [Tr.size], by simp [Tr.dep], by simp [Tr.ends], ?_⟩
    simp [Tr.wf, lz]
section
variable {ds : List Int} {n : Nat} {t : Tr}
theorem tn_wf (l1 : 1 ≤ ds.length) (l3 : ds.length ≤ 3) (hw : t.wf ds.length n) : (tnT ds n t).wf ds.length n := trT_wf _ (end_size l1 l3).2.2.2 t hw
theorem tn_size (l1 : 1 ≤ ds.length) (l3 : ds.length ≤ 3) : (tnT ds n t).size = t.size + ds.length * t.ends := trT_size _ _ (end_size l1 l3).1 t
theorem tn_ends (l1 : 1 ≤ ds.length) (l3 : ds.length ≤ 3) : (tnT ds n t).ends = t.ends := trT_ends _ (end_size l1 l3).2.2.1 t
theorem tn_dep (l1 : 1 ≤ ds.length) (l3 : ds.length ≤ 3) : (tnT ds n t).dep ≤ t.dep + ds.length := trT_dep _ _ (by rw [(end_size l1 l3).2.1]; omega) t
/-- the opposite scan orders the other way -/
theorem tn_lt (D : Divs ds) (l1 : 1 ≤ ds.length) (l3 : ds.length ≤ 3) (hn : prodL ds = (n : Int)) (hw : t.wf ds.length n) {x y : List Int} (hx : x.length = ds.length) (hy : y.length = ds.length) :
    lx (full ds (tnT ds n t) x) (full ds (tnT ds n t) y) = lx (full ds t y) (full ds t x) := by
  refine tr_lt (cls_in D hn hx.symm) (cls_in D hn hy.symm) ?_ t hw
  rw [end_pth l1 l3 hx, end_pth l1 l3 hy]
  exact lx_ng2 (by omega)
/-- only equal places are tied -/
theorem tn_tied (D : Divs ds) (l1 : 1 ≤ ds.length) (l3 : ds.length ≤ 3) (hn : prodL ds = (n : Int)) (hw : t.wf ds.length n) {x y : List Int} (hx : x.length = ds.length) (hy : y.length = ds.length) :
    (pth (tnT ds n t) (cls ds x) x = pth (tnT ds n t) (cls ds y) y) ↔ x = y := by
  constructor
  · intro h
    obtain ⟨q1, e1⟩ := tr_end (e := endT ds.length n) (x := x) (cls_in D hn hx.symm) t hw
    obtain ⟨q2, e2⟩ := tr_end (e := endT ds.length n) (x := y) (cls_in D hn hy.symm) t hw
    unfold tnT at h
    rw [e1, e2, end_pth l1 l3 hx, end_pth l1 l3 hy] at h
    have hl : (ngl x).length = (ngl y).length := by unfold ngl; rw [List.length_map, List.length_map]; omega
    exact ngl_inj (List.append_inj_right' h hl)
  · intro h
    rw [h]
end
end Lk

namespace Lk
open PySem L2 Lx LamX LrA LqA
/-! ### trees with too many nodes, or too many one inside of another -/
theorem shaped_of {t : Tr} (h : t.toD.depth ≤ 60) : SeqAt.shaped t.toD = true := by
  unfold SeqAt.shaped
  rw [Tr.can t, decide_eq_true (by omega)]
  rfl
theorem Gs.toDs_depth : ∀ {g : Gs} {k : Tr}, k ∈ g.trees → k.toD.depth ≤ PyData.depthAll g.toDs
  | .nil, k, h => by cases h
  | .cons cs t r, k, h => by
    simp only [Gs.toDs, PyData.depthAll, PyData.depth]
    rcases List.mem_cons.mp h with e | e
    · rw [e]
      omega
    · have := Gs.toDs_depth e
      omega
theorem Tr.kid_depth {t k : Tr} (h : k ∈ t.kids) : k.toD.depth ≤ t.toD.depth := by
  cases t with
  | pl => cases h
  | key _ _ t =>
    simp only [Tr.kids, List.mem_singleton] at h
    subst h
    simp only [Tr.toD, PyData.depth, PyData.depthAll]
    omega
  | fork gs =>
    have := Gs.toDs_depth (g := gs) (k := k) h
    simp only [Tr.toD, PyData.depth, PyData.depthAll]
    omega
theorem Gs.dep_most : ∀ (g : Gs), 1 ≤ g.dep → ∃ k ∈ g.trees, k.dep = g.dep
  | .nil, h => by simp [Gs.dep] at h
  | .cons cs t r, h => by
    simp only [Gs.dep] at h ⊢
    by_cases e : r.dep ≤ t.dep
    · exact ⟨t, List.mem_cons_self, by omega⟩
    · obtain ⟨k, hk, hd⟩ := Gs.dep_most r (by omega)
      exact ⟨k, List.mem_cons_of_mem _ hk, by omega⟩
theorem Tr.kid_most (t : Tr) (h : 2 ≤ t.dep) : ∃ k ∈ t.kids, k.dep + 1 = t.dep := by
  cases t with
  | pl => simp [Tr.dep] at h
  | key _ _ t => exact ⟨t, by simp [Tr.kids], by simp [Tr.dep]⟩
  | fork gs =>
    simp only [Tr.dep] at h
    obtain ⟨k, hk, hd⟩ := Gs.dep_most gs (by omega)
    exact ⟨k, hk, by simp [Tr.dep, hd]⟩
def ItK (C : Addr) (H : Hp) (E : XK) : Prop := ∀ (d : Addr) (H' : Hp), (∀ b u, H b = some u → H' b = some u) → H' d = some (.xd [("tag", .str "InvalidTree")]) → E (.ref C) (some d) H'
def spNodesX (K : PySem.W.Frag) (C : Addr) : Sp := fun vs H Q E => ∃ (v : V) (a : Addr) (t : Tr) (ds : List Int) (n : Nat), vs = [v, .ref a, .int 200, .int 20] ∧ TrAt K H t v ∧ SqT K H a (ds.map V.int) ∧ Divs ds ∧ ds.length ≤ 3 ∧ prodL ds = (n : Int) ∧ t.wf ds.length n ∧ t.size ≤ 900 ∧ t.toD.depth ≤ 60 ∧ (200 < t.size ∨ 20 < t.dep) ∧ ItK C H E
section
variable {P : Program} {w : World} {K : PySem.W.Frag} {mg : Str → Option Value} {base : Heap}
end
end Lk

namespace Lk
open PySem L2 Lx LamX LrA LqA
/-! ### scans whose tree is too large are refused -/
def ItP (C p : Addr) (H : Hp) (E : XK) : Prop := ∀ (d : Addr) (H' : Hp), (∀ b u, H b = some u → b ≠ p → H' b = some u) → H' d = some (.xd [("tag", .str "InvalidTree")]) → E (.ref C) (some d) H'
def spInitX (K : PySem.W.Frag) (C CE : Addr) : Sp := fun vs H _ E => ∃ (p dx a : Addr) (v : V) (ds : List Int) (n : Nat) (t : Tr), vs = [.ref p, .ref a, v] ∧ H p = some (.ins C dx []) ∧ SqT K H a (ds.map V.int) ∧ TrAt K H t v ∧ Divs ds ∧ 1 ≤ ds.length ∧ ds.length ≤ 3 ∧ prodL ds = (n : Int) ∧ t.wf ds.length n ∧ t.size ≤ 900 ∧ t.toD.depth ≤ 60 ∧ (200 < t.size ∨ 20 < t.dep) ∧ ItP CE p H E
def spTurnedX (K : PySem.W.Frag) (C CE : Addr) : Sp := fun vs H _ E => ∃ (p : Addr) (ds : List Int) (n : Nat) (t : Tr), vs = [.ref p] ∧ ScanAt K C H p ds n t ∧ (tnT ds n t).size ≤ 900 ∧ (tnT ds n t).toD.depth ≤ 60 ∧ (200 < (tnT ds n t).size ∨ 20 < (tnT ds n t).dep) ∧ ItK CE H E
section
variable {P : Program} {w : World} {K : PySem.W.Frag} {mg : Str → Option Value} {base : Heap}
end
end Lk

namespace Lk
open PySem L2 Lx LamX LrA LqA
def mB (d : Int) : Int := if d = 1 then 13 else if d = 2 then 7 else 5
theorem mB_at {d : Int} (h1 : 1 ≤ d) (h3 : d ≤ 3) : atI [V.int 13, V.int 7, V.int 5] (d - 1) = some (.int (mB d)) := by
  have h : d = 1 ∨ d = 2 ∨ d = 3 := by omega
  rcases h with e | e | e
  · rw [e]; rfl
  · rw [e]; rfl
  · rw [e]; rfl
theorem prodL_le {m : Int} (hm : 1 ≤ m) : ∀ {l : List Int}, (∀ z ∈ l, 0 ≤ z ∧ z ≤ m) → prodL l ≤ m ^ l.length
  | [], _ => by simp [prodL]
  | x :: r, h => by
    have hx := h x List.mem_cons_self
    have ih := prodL_le hm (l := r) fun z hz => h z (List.mem_cons_of_mem _ hz)
    have n := prodL_nn (l := r) fun z hz => (h z (List.mem_cons_of_mem _ hz)).1
    show x * prodL r ≤ m ^ (r.length + 1)
    rw [Int.pow_succ, Int.mul_comm (m ^ r.length) m]
    exact Int.mul_le_mul hx.2 ih n (by omega)
def LBoxK (ns : List Int) : Prop := (∀ z ∈ ns, 0 ≤ z ∧ z ≤ 12) ∧ prodL ns ≤ 64
def spLBox : Sp := fun vs H Q _ => ∃ (b l : Addr) (d : Int), vs = [.ref b, .int d] ∧ BagAt H b l ∧ 1 ≤ d ∧ d ≤ 3 ∧
  ∀ (ns : List Int) (H' : Hp) (a : Addr), (ns.length : Int) = d → LBoxK ns → H a = none → H' a = some (.tup (ns.map V.int)) → BagAt H' b l → But b H H' → Q (.ref a) H'
section
variable {P : Program} {w : World} {K : PySem.W.Frag} {mg : Str → Option Value} {base : Heap}
end
/-! ### drawn trees, weighed: a node counts one, an end seven -/
mutual
def Tr.wz : Tr → Nat
  | .pl => 7
  | .key _ _ t => t.wz + 1
  | .fork gs => gs.wz + 1
def Gs.wz : Gs → Nat
  | .nil => 0
  | .cons _ t r => t.wz + r.wz
end
mutual
theorem Tr.wz_eq : ∀ t : Tr, t.wz = t.size + 6 * t.ends
  | .pl => by simp [Tr.wz, Tr.size, Tr.ends]
  | .key _ _ t => by simp [Tr.wz, Tr.size, Tr.ends, Tr.wz_eq t]; omega
  | .fork gs => by simp [Tr.wz, Tr.size, Tr.ends, Gs.wz_eq gs]; omega
theorem Gs.wz_eq : ∀ g : Gs, g.wz = g.size + 6 * g.ends
  | .nil => by simp [Gs.wz, Gs.size, Gs.ends]
  | .cons _ t r => by simp [Gs.wz, Gs.size, Gs.ends, Tr.wz_eq t, Gs.wz_eq r]; omega
end
theorem Gs.wz_snoc (cs : List Int) (t : Tr) : ∀ g : Gs, (g.snoc cs t).wz = g.wz + t.wz
  | .nil => by simp [Gs.snoc, Gs.wz]
  | .cons c u r => by simp [Gs.snoc, Gs.wz, Gs.wz_snoc cs t r]; omega
def zB : Nat → Nat
  | 0 => 7
  | n + 1 => 1 + 5 * zB n
theorem zB_pos7 : ∀ n, 7 ≤ zB n
  | 0 => Nat.le_refl _
  | n + 1 => by have := zB_pos7 n; simp only [zB]; omega
def spTreeW (K : PySem.W.Frag) (m : Nat) : Sp := fun vs H Q _ => ∃ (b l a : Addr) (ds : List Int) (n : Nat), vs = [.ref b, .ref a, .int m] ∧ BagAt H b l ∧ SqT K H a (ds.map V.int) ∧ Divs ds ∧ ds.length ≤ 3 ∧ prodL ds = (n : Int) ∧
  ∀ (t : Tr) (v : V) (H' : Hp), t.wf ds.length n → t.dep ≤ m + 1 → t.wz ≤ zB m → TrAt K H' t v → BagAt H' b l → But b H H' → Q v H'
def spSmall (K : PySem.W.Frag) : Sp := fun vs H Q _ => ∃ (b l : Addr) (d : Int), vs = [.ref b, .int d] ∧ BagAt H b l ∧ 1 ≤ d ∧ d ≤ 3 ∧
  ∀ (ds : List Int) (n : Nat) (t : Tr) (a p : Addr) (v : V) (H' : Hp), (ds.length : Int) = d → Divs ds → prodL ds = (n : Int) → t.wf ds.length n → t.dep ≤ 3 → t.size + 6 * t.ends ≤ 181 → SqT K H' a (ds.map V.int) → TrAt K H' t v → SqT K H' p [.ref a, v] → BagAt H' b l → But b H H' → Q (.ref p) H'
section
variable {P : Program} {w : World} {K : PySem.W.Frag} {mg : Str → Option Value} {base : Heap}
end
end Lk

namespace Lk
open PySem L2 Lx LamX LrA LqA
/-! ### the law's own measure of a tree: level by level -/
def Tr.hd : Tr → Str
  | .pl => "places"
  | .key _ _ _ => "key"
  | .fork _ => "fork"
theorem TrAt.head {K : PySem.W.Frag} {H : Hp} {t : Tr} {v : V} (h : TrAt K H t v) : ∃ a xs, v = .ref a ∧ SqT K H a (.str t.hd :: xs) := by
  cases t with
  | pl =>
    simp only [TrAt] at h
    obtain ⟨a, h1, h2⟩ := h
    exact ⟨a, _, h1, h2⟩
  | key row hs t =>
    simp only [TrAt] at h
    obtain ⟨a, ra, ha, tv, h1, h2, _⟩ := h
    exact ⟨a, _, h1, h2⟩
  | fork gs =>
    simp only [TrAt] at h
    obtain ⟨a, ga, vs, h1, h2, _⟩ := h
    exact ⟨a, _, h1, h2⟩
def kKid : Tr → List Tr
  | .key _ _ u => [u]
  | _ => []
def fKid : Tr → List Tr
  | .fork g => g.trees
  | _ => []
def pOne : Tr → Nat
  | .pl => 1
  | _ => 0
def lowK (l : List Tr) : List Tr := l.flatMap kKid
def lowF (l : List Tr) : List Tr := l.flatMap fKid
def cntP (l : List Tr) : Nat := (l.map pOne).sum
def szs (l : List Tr) : Nat := (l.map Tr.size).sum
def ens (l : List Tr) : Nat := (l.map Tr.ends).sum
theorem szs_app (l m : List Tr) : szs (l ++ m) = szs l + szs m := by simp [szs]
theorem ens_app (l m : List Tr) : ens (l ++ m) = ens l + ens m := by simp [ens]
theorem Gs.ens_trees : ∀ g : Gs, g.ends = ens g.trees
  | .nil => by simp [Gs.ends, Gs.trees, ens]
  | .cons _ t r => by simp [Gs.ends, Gs.trees, ens, Gs.ens_trees r]
theorem szs_cons (t : Tr) (l : List Tr) : szs (t :: l) = t.size + szs l := by simp [szs]
theorem ens_cons (t : Tr) (l : List Tr) : ens (t :: l) = t.ends + ens l := by simp [ens]
theorem szs_low : ∀ l : List Tr, szs l = l.length + szs (lowK l) + szs (lowF l)
  | [] => rfl
  | t :: r => by
    have ih := szs_low r
    have e1 : lowK (t :: r) = kKid t ++ lowK r := rfl
    have e2 : lowF (t :: r) = fKid t ++ lowF r := rfl
    have e3 : t.size = 1 + szs (kKid t) + szs (fKid t) := by
      rw [Tr.size_kids]
      cases t <;> simp [kKid, fKid, Tr.kids, szs]
    rw [e1, e2, szs_app, szs_app, szs_cons, List.length_cons]
    omega
theorem ens_low : ∀ l : List Tr, ens l = cntP l + ens (lowK l) + ens (lowF l)
  | [] => rfl
  | t :: r => by
    have ih := ens_low r
    have e1 : lowK (t :: r) = kKid t ++ lowK r := rfl
    have e2 : lowF (t :: r) = fKid t ++ lowF r := rfl
    have e4 : cntP (t :: r) = pOne t + cntP r := by simp [cntP]
    have e3 : t.ends = pOne t + ens (kKid t) + ens (fKid t) := by
      cases t with
      | pl => simp [kKid, fKid, pOne, ens, Tr.ends]
      | key _ _ u => simp [kKid, fKid, pOne, ens, Tr.ends]
      | fork g => simp [kKid, fKid, pOne, Tr.ends, Gs.ens_trees, ens]
    rw [e1, e2, ens_app, ens_app, ens_cons, e4]
    omega
theorem low_take {l : List Tr} {i : Nat} {t : Tr} (h : l[i]? = some t) : lowK (l.take (i + 1)) = lowK (l.take i) ++ kKid t ∧ lowF (l.take (i + 1)) = lowF (l.take i) ++ fKid t ∧ cntP (l.take (i + 1)) = cntP (l.take i) + pOne t := by
  rw [take_more h]
  refine ⟨by simp [lowK], by simp [lowF], by simp [cntP]⟩
theorem TrsAt.apps {K : PySem.W.Frag} {H : Hp} : ∀ {l m : List Tr} {ws us : List V}, TrsAt K H l ws → TrsAt K H m us → TrsAt K H (l ++ m) (ws ++ us)
  | [], m, _, us, h, q => by
    have h : _ = [] := h
    rw [h]
    exact q
  | t :: r, m, _, us, ⟨v, vr, h1, h2, h3⟩, q => by
    rw [h1]
    exact ⟨v, vr ++ us, rfl, h2, TrsAt.apps h3 q⟩
theorem TrsAt.dps {K : PySem.W.Frag} {H : Hp} : ∀ {l : List Tr} {ws : List V}, TrsAt K H l ws → DpAll K H ws (l.map Tr.toD)
  | [], _, h => by
    have h : _ = [] := h
    rw [h]
    exact .nil
  | t :: r, _, ⟨v, vr, h1, h2, h3⟩ => by
    rw [h1]
    exact .cons h2.dp (TrsAt.dps h3)
theorem can_trs : ∀ l : List Tr, PyData.canLayAll0 (l.map Tr.toD) = true
  | [] => rfl
  | t :: r => by simp [PyData.canLayAll0, Tr.can t, can_trs r]
theorem dep_trs : ∀ {l : List Tr}, (∀ t ∈ l, t.dep ≤ 20) → PyData.depthAll (l.map Tr.toD) ≤ 60
  | [], _ => by simp [PyData.depthAll]
  | t :: r, h => by
    have h1 := Tr.deep t
    have h2 := h t List.mem_cons_self
    have h3 := dep_trs (l := r) fun u hu => h u (List.mem_cons_of_mem _ hu)
    simp only [List.map_cons, PyData.depthAll]
    omega
theorem shp_trs {l : List Tr} (h : ∀ t ∈ l, t.dep ≤ 20) : SeqAt.shaped (.list (l.map Tr.toD)) = true := by
  unfold SeqAt.shaped
  have h3 := dep_trs h
  rw [decide_eq_true (show (PyData.list (l.map Tr.toD)).depth ≤ 64 by simp only [PyData.depth]; omega), Bool.and_true]
  simp only [PyData.canLay0]
  exact can_trs l
theorem eqv_nil : ∀ l : List Tr, PyData.eqv (.list (l.map Tr.toD)) (.list []) = decide (l = [])
  | [] => by simp [PyData.eqv, PyData.eqvAll]
  | t :: r => by simp [PyData.eqv, PyData.eqvAll]
theorem low_dep {l : List Tr} (h : ∀ t ∈ l, t.dep ≤ 20) : (∀ t ∈ lowK l, t.dep ≤ 20) ∧ (∀ t ∈ lowF l, t.dep ≤ 20) := by
  constructor
  · intro t ht
    obtain ⟨u, hu, hm⟩ := List.mem_flatMap.mp ht
    have := h u hu
    cases u with
    | pl => cases hm
    | key _ _ x =>
      rw [List.mem_singleton.mp hm]
      simp only [Tr.dep] at this
      omega
    | fork g => cases hm
  · intro t ht
    obtain ⟨u, hu, hm⟩ := List.mem_flatMap.mp ht
    have := h u hu
    cases u with
    | pl => cases hm
    | key _ _ x => cases hm
    | fork g =>
      have h2 := Gs.dep_trees g t hm
      simp only [Tr.dep] at this
      omega
theorem szs_len : ∀ l : List Tr, l.length ≤ szs l
  | [] => Nat.le_refl _
  | t :: r => by
    have h1 := szs_len r
    have h2 := Tr.size_pos t
    rw [szs_cons, List.length_cons]
    omega
theorem lowK_len (l : List Tr) : (lowK l).length + (lowF l).length ≤ szs l := by
  have h1 := szs_low l
  have h2 := szs_len (lowK l)
  have h3 := szs_len (lowF l)
  omega
theorem hd_pl {t : Tr} : pOne t = if V.str t.hd = V.str "places" then 1 else 0 := by
  cases t with
  | pl => rfl
  | key _ _ _ => rw [if_neg (by show ¬ V.str "key" = V.str "places"; decide +kernel)]; rfl
  | fork _ => rw [if_neg (by show ¬ V.str "fork" = V.str "places"; decide +kernel)]; rfl
def spMeas (K : PySem.W.Frag) : Sp := fun vs H Q _ => ∃ (v : V) (t : Tr), vs = [v] ∧ TrAt K H t v ∧ t.dep ≤ 20 ∧ t.size ≤ 200 ∧
  ∀ (H' : Hp) (p : Addr) (dp : Int), Same H H' → H p = none → H' p = some (.tup [.int t.size, .int dp, .int t.ends]) → Q (.ref p) H'
section
variable {P : Program} {w : World} {K : PySem.W.Frag} {mg : Str → Option Value} {base : Heap}
abbrev nMeas : List Str := ["_law_tree_here", "_law_level", "_law_nodes", "_law_deep", "_law_ends", "_law_lower", "_law_one", "_law_group"]
end
end Lk

namespace Lk
open PySem L2 Lx LamX LrA LqA
/-! ### the opposite order of a box -/
theorem lx_lt : ∀ x y : List Int, lx x y = decide (x < y)
  | [], [] => by simp [lx, HT.lexLt]
  | [], b :: y => by simp [lx, HT.lexLt]
  | a :: x, [] => by simp [lx, HT.lexLt]
  | a :: x, b :: y => by
    show (if a = b then lx x y else decide (a < b)) = _
    rw [lx_lt x y]
    by_cases e : a = b
    · subst e
      rw [if_pos rfl]
      simp
    · rw [if_neg e]
      simp [List.cons_lt_cons_iff, e]
theorem leF_lx (ds : List Int) (t : Tr) (a b : List Int) : leF ds t a b = !lx (full ds t b) (full ds t a) := by
  have e : leF ds t a b = !PySem.W.dataLt (kd (full ds t) b) (kd (full ds t) a) := rfl
  rw [e, lt_ints, lx_lt]
theorem order_rev {ds : List Int} {n : Nat} {t : Tr} (D : Divs ds) (l1 : 1 ≤ ds.length) (l3 : ds.length ≤ 3) (hn : prodL ds = (n : Int)) (hw : t.wf ds.length n) {l : List (List Int)} (hl : ∀ c ∈ l, c.length = ds.length) :
    l.mergeSort (leF ds (tnT ds n t)) = (l.mergeSort (leF ds t)).reverse := by
  have T : PySem.W.TotalLe (leF ds t) := by
    unfold leF PySem.W.dataLe
    exact PySem.W.sortLe_total _ _ _
  have pm : (l.mergeSort (leF ds t)).reverse.Perm l := (List.reverse_perm _).trans (List.mergeSort_perm l _)
  have hm : ∀ c ∈ l.mergeSort (leF ds t), c.length = ds.length := fun c hc => hl c ((List.mergeSort_perm l _).mem_iff.mp hc)
  refine order_is ?_ pm fun a ha b hb h1 h2 => ?_
  · rw [List.pairwise_reverse]
    refine (PySem.W.sort_pairwise T l).imp_of_mem fun {a b} ha hb h => ?_
    rw [leF_lx] at h ⊢
    rw [tn_lt D l1 l3 hn hw (hm a ha) (hm b hb)]
    exact h
  · have la := hl a (pm.mem_iff.mp ha)
    have lb := hl b (pm.mem_iff.mp hb)
    exact leF_anti (by omega) h1 h2
/-! ### a tree is the same as itself -/
theorem head_len {g : Gs} {n : Nat} (hp : g.classes.Perm (rng0 n)) {c : List Int} (hc : c ∈ g.heads) : c.length ≤ n := by
  have e : c.length ≤ g.heads.flatten.length := (List.sublist_flatten_of_mem hc).length_le
  rw [← Gs.flat, hp.length_eq, rng0_len] at e
  exact e
theorem dd_ints {K : PySem.W.Frag} {H : Hp} {m : Nat} {a b : Addr} {ns : List Int} (h : SqT K H a (ns.map V.int)) (h' : SqT K H b (ns.map V.int)) (hl : ns.length ≤ 1000) : DD K H (m + 1) (.ref a) (.ref b) := by
  refine .inr ⟨a, b, _, _, rfl, rfl, .inl ⟨h, h'⟩, rfl, by rw [List.length_map]; exact hl, fun i x y f1 f2 => ?_⟩
  rw [f1] at f2
  cases f2
  obtain ⟨z, _, rfl⟩ := map_get f1
  cases m with
  | zero => exact ⟨rfl, rfl⟩
  | succ m => exact .inl ⟨rfl, rfl⟩
theorem DD.more {K : PySem.W.Frag} {H : Hp} {u v : V} {m : Nat} (h : DD K H m u v) : ∀ k : Nat, DD K H (m + k) u v
  | 0 => h
  | k + 1 => (DD.more h k).up
theorem DD.le {K : PySem.W.Frag} {H : Hp} {u v : V} {m j : Nat} (h : DD K H m u v) (e : m ≤ j) : DD K H j u v := by
  have := DD.more h (j - m)
  rw [show m + (j - m) = j by omega] at this
  exact this
mutual
theorem TrAt.dd {K : PySem.W.Frag} {H : Hp} {d n : Nat} (d3 : d ≤ 3) (n12 : n ≤ 12) : ∀ {t : Tr} {v u : V}, TrAt K H t v → TrAt K H t u → t.wf d n → DD K H (3 * t.dep) v u
  | .pl, v, u, h, g, _ => by
    simp only [TrAt] at h g
    obtain ⟨a, rfl, h2⟩ := h
    obtain ⟨b, rfl, g2⟩ := g
    simp only [Tr.dep]
    refine .inr ⟨a, b, _, _, rfl, rfl, .inl ⟨h2, g2⟩, rfl, (by show 1 ≤ 1000; decide), fun i x y f1 f2 => ?_⟩
    rw [f1] at f2
    cases f2
    rw [List.mem_singleton.mp (List.mem_of_getElem? f1)]
    exact .inl ⟨rfl, rfl⟩
  | .key row hs t, v, u, h, g, w => by
    simp only [TrAt] at h g
    simp only [Tr.wf] at w
    obtain ⟨a, ra, ha, tv, rfl, h2, h3, h4, h5⟩ := h
    obtain ⟨b, rb, hb, tu, rfl, g2, g3, g4, g5⟩ := g
    have ih := TrAt.dd d3 n12 h5 g5 w.2.2.2
    have dp := (Tr.deep t).2
    simp only [Tr.dep]
    rw [show 3 * (t.dep + 1) = (3 * t.dep + 2) + 1 by omega]
    refine .inr ⟨a, b, _, _, rfl, rfl, .inl ⟨h2, g2⟩, rfl, (by show 4 ≤ 1000; decide), fun i x y f1 f2 => ?_⟩
    match i, f1, f2 with
    | 0, f1, f2 => cases f1; cases f2; exact .inl ⟨rfl, rfl⟩
    | 1, f1, f2 => cases f1; cases f2; exact dd_ints h3 g3 (by omega)
    | 2, f1, f2 => cases f1; cases f2; exact dd_ints h4 g4 (by omega)
    | 3, f1, f2 => cases f1; cases f2; exact ih.le (by omega)
    | j + 4, f1, f2 => cases f1
  | .fork gs, v, u, h, g, w => by
    simp only [TrAt] at h g
    simp only [Tr.wf] at w
    obtain ⟨a, ga, vs, rfl, h2, h3, h4⟩ := h
    obtain ⟨b, gb, us, rfl, g2, g3, g4⟩ := g
    have gm := gs_many w.1 w.2
    have ih := GsAt.dd d3 n12 h4 g4 w.2 (fun c hc => by have := head_len w.1 hc; omega)
    have lv := h4.len
    have lu := g4.len
    simp only [Tr.dep]
    rw [show 3 * (gs.dep + 1) = (3 * gs.dep + 2) + 1 by omega]
    refine .inr ⟨a, b, _, _, rfl, rfl, .inl ⟨h2, g2⟩, rfl, (by show 2 ≤ 1000; decide), fun i x y f1 f2 => ?_⟩
    match i, f1, f2 with
    | 0, f1, f2 => cases f1; cases f2; exact .inl ⟨rfl, rfl⟩
    | 1, f1, f2 =>
      cases f1
      cases f2
      exact .inr ⟨ga, gb, vs, us, rfl, rfl, .inl ⟨h3, g3⟩, by omega, by omega, fun i x y f1 f2 => ih i x y f1 f2⟩
    | j + 2, f1, f2 => cases f1
theorem GsAt.dd {K : PySem.W.Frag} {H : Hp} {d n : Nat} (d3 : d ≤ 3) (n12 : n ≤ 12) : ∀ {g : Gs} {vs us : List V}, GsAt K H g vs → GsAt K H g us → g.wf d n → (∀ c ∈ g.heads, c.length ≤ 1000) → ∀ (i : Nat) (v u : V), vs[i]? = some v → us[i]? = some u → DD K H (3 * g.dep + 1) v u
  | .nil, vs, us, h, _, _, _, i, v, u, hv, _ => by
    simp only [GsAt] at h
    subst h
    simp at hv
  | .cons cs t r, vs, us, h, g, w, hc, i, v, u, hv, hu => by
    simp only [GsAt] at h g
    simp only [Gs.wf] at w
    obtain ⟨pa, ca, tv, vr, rfl, h2, h3, h4, h5⟩ := h
    obtain ⟨pb, cb, tu, ur, rfl, g2, g3, g4, g5⟩ := g
    simp only [Gs.dep]
    match i, hv, hu with
    | 0, hv, hu =>
      cases hv
      cases hu
      have ih := TrAt.dd d3 n12 h4 g4 w.2.1
      have dp := (Tr.deep t).2
      refine .inr ⟨pa, pb, _, _, rfl, rfl, .inl ⟨h2, g2⟩, rfl, (by show 2 ≤ 1000; decide), fun i x y f1 f2 => ?_⟩
      match i, f1, f2 with
      | 0, f1, f2 =>
        cases f1
        cases f2
        exact (dd_ints (m := 0) h3 g3 (hc cs (by simp only [Gs.heads]; exact List.mem_cons_self))).le (by omega)
      | 1, f1, f2 => cases f1; cases f2; exact ih.le (by omega)
      | j + 2, f1, f2 => cases f1
    | i + 1, hv, hu =>
      have ih := GsAt.dd d3 n12 h5 g5 w.2.2 (fun c h => hc c (by simp only [Gs.heads]; exact List.mem_cons_of_mem _ h)) i v u (by simpa using hv) (by simpa using hu)
      exact ih.le (by omega)
end
/-! ### a deep tree and a wide one -/
def deepT : Nat → Tr
  | 0 => .pl
  | k + 1 => .key [1, (k : Int)] [0] (deepT k)
theorem deep_wf : ∀ {k : Nat}, k ≤ 20 → (deepT k).wf 2 1
  | 0, _ => by simp [deepT, Tr.wf]
  | k + 1, h => by
    simp only [deepT, Tr.wf]
    refine ⟨rfl, rfl, fun z hz => ?_, deep_wf (by omega)⟩
    rcases List.mem_cons.mp hz with e | hz
    · rw [e]; decide
    · rw [List.mem_singleton.mp hz]; omega
theorem deep_size : ∀ k : Nat, (deepT k).size = k + 1 ∧ (deepT k).dep = k + 1 ∧ (deepT k).ends = 1
  | 0 => by simp [deepT, Tr.size, Tr.dep, Tr.ends]
  | k + 1 => by
    have := deep_size k
    simp only [deepT, Tr.size, Tr.dep, Tr.ends]
    omega
theorem deep_turn (e : Tr) : ∀ k : Nat, (trT e (deepT k)).dep = k + e.dep ∧ (trT e (deepT k)).toD.depth ≤ k + max 2 e.toD.depth
  | 0 => by simp only [deepT, trT]; omega
  | k + 1 => by
    have := deep_turn e k
    have z1 := depInts ([1, (k : Int)].map fun z => -z)
    have z2 := depInts (([0] : List Int).map fun z => -z)
    simp only [deepT, trT, Tr.dep, Tr.toD, PyData.depth, PyData.depthAll, z1, z2]
    omega
def wideT : Nat → Tr
  | 0 => .pl
  | k + 1 => .fork (.cons [0] (wideT k) (.cons [1] (wideT k) .nil))
theorem wide_wf : ∀ (k d : Nat), (wideT k).wf d 2
  | 0, d => by simp [wideT, Tr.wf]
  | k + 1, d => by
    simp only [wideT, Tr.wf, Gs.wf, Gs.classes]
    refine ⟨by decide, ⟨by decide, by simp⟩, wide_wf k d, ⟨by decide, by simp⟩, wide_wf k d, trivial⟩
theorem wide6 : (wideT 6).size = 127 ∧ (wideT 6).dep = 7 ∧ (wideT 6).ends = 64 := by decide +kernel
def wideD (d : Nat) : List Int := 2 :: List.replicate (d - 1) 1
theorem wideD_ok : ∀ {d : Nat}, 1 ≤ d → d ≤ 3 → Divs (wideD d) ∧ (wideD d).length = d ∧ prodL (wideD d) = ((2 : Nat) : Int)
  | 1, _, _ => ⟨⟨by decide, by decide⟩, rfl, by decide⟩
  | 2, _, _ => ⟨⟨by decide, by decide⟩, rfl, by decide⟩
  | 3, _, _ => ⟨⟨by decide, by decide⟩, rfl, by decide⟩
  | d + 4, _, h => by omega
def spWide (K : PySem.W.Frag) (C : Addr) : Sp := fun vs H Q _ => ∃ d : Nat, vs = [.int d] ∧ 1 ≤ d ∧ d ≤ 3 ∧ ∀ (H' : Hp) (x : Addr), Same H H' → ScanAt K C H' x (wideD d) 2 (wideT 6) → Q (.ref x) H'
section
variable {P : Program} {w : World} {K : PySem.W.Frag} {mg : Str → Option Value} {base : Heap}
end
end Lk

namespace Lk
open PySem L2 Lx LamX
/-! ### refined scans -/
def spMults (K : PySem.W.Frag) : Sp := fun vs H Q _ => ∃ (a b : Addr) (nds ds : List Int), vs = [.ref a, .ref b] ∧ SqT K H a (nds.map V.int) ∧ SqT K H b (ds.map V.int) ∧ (∀ z ∈ ds, 1 ≤ z) ∧ nds.length ≤ 12 ∧ ds.length ≤ 12 ∧ ∀ H', Same H H' → Q (.bl (muB nds ds)) H'
def spRefT (K : PySem.W.Frag) (C : Addr) : Sp := fun vs H Q _ => ∃ (p a : Addr) (ev : V) (ds : List Int) (n : Nat) (t e : Tr) (nds : List Int) (n' : Nat), vs = [.ref p, .ref a, ev] ∧ ScanAt K C H p ds n t ∧ SqT K H a (nds.map V.int) ∧ TrAt K H e ev ∧ Divs nds ∧ nds.length = ds.length ∧ prodL nds = (n' : Int) ∧
  ∀ H' u, Same H H' → TrAt K H' (rfT ds nds n' e t) u → Q u H'
def spRefd (K : PySem.W.Frag) (C : Addr) : Sp := fun vs H Q _ => ∃ (p a : Addr) (ds : List Int) (n : Nat) (t : Tr) (nds : List Int) (n' : Nat), vs = [.ref p, .ref a] ∧ ScanAt K C H p ds n t ∧ SqT K H a (nds.map V.int) ∧ Divs nds ∧ Mul nds ds ∧ prodL nds = (n' : Int) ∧
  ∀ (H' : Hp) (q : Addr), Same H H' → ScanAt K C H' q nds n' (rfT ds nds n' .pl t) → Q (.ref q) H'
/-- which error refined calls for -/
def rfE (o : Option (List V)) (ds : List Int) : Nat := if dvE o = 0 then (if muB (itsI o) ds = true then 0 else 1) else dvE o
def ErK (C1 C2 : Addr) (e : Nat) (H : Hp) (E : XK) : Prop := ∀ (d : Addr) (H' : Hp), (∀ b u, H b = some u → H' b = some u) →
  (e = 1 → H' d = some (.xd [("tag", .str "InvalidDivisors")]) → E (.ref C1) (some d) H') ∧ (e = 2 → H' d = some (.xd (xflds "limit" (.int 12) "TooManyClasses")) → E (.ref C2) (some d) H')
theorem ErK.same {C1 C2 : Addr} {e : Nat} {H H1 : Hp} {E : XK} (k : ErK C1 C2 e H E) (s : Same H H1) : ErK C1 C2 e H1 E := fun d H' x => k d H' fun b u h => x b u (s b u h)
def spRefX (K : PySem.W.Frag) (C C1 C2 : Addr) : Sp := fun vs H _ E => ∃ (p : Addr) (v : V) (o : Option (List V)) (ds : List Int) (n : Nat) (t : Tr), vs = [.ref p, v] ∧ ScanAt K C H p ds n t ∧ OD K H v o ∧ OB o ∧ rfE o ds ≠ 0 ∧ ErK C1 C2 (rfE o ds) H E
def spChkMul (K : PySem.W.Frag) : Sp := fun vs H Q _ => ∃ (a b : Addr) (nds ds : List Int), vs = [.ref a, .ref b] ∧ SqT K H a (nds.map V.int) ∧ SqT K H b (ds.map V.int) ∧ 1 ≤ nds.length ∧ nds.length ≤ 3 ∧ Divs nds ∧ (∀ z ∈ ds, 1 ≤ z) ∧ ds.length ≤ 12 ∧ Mul nds ds ∧ ∀ H', Same H H' → Q .non H'
def spChkMulX (K : PySem.W.Frag) (C1 C2 : Addr) : Sp := fun vs H _ E => ∃ (v : V) (b : Addr) (o : Option (List V)) (ds : List Int), vs = [v, .ref b] ∧ OD K H v o ∧ OB o ∧ SqT K H b (ds.map V.int) ∧ (∀ z ∈ ds, 1 ≤ z) ∧ ds.length ≤ 12 ∧ rfE o ds ≠ 0 ∧ ErK C1 C2 (rfE o ds) H E
theorem dvE_zero {o : Option (List V)} (h : dvE o = 0) : ∃ xs, o = some xs ∧ xs = (itsI o).map V.int ∧ 1 ≤ (itsI o).length ∧ (itsI o).length ≤ 3 ∧ Divs (itsI o) := by
  unfold dvE at h
  cases hs : sdB o 1 with
  | false =>
    rw [hs] at h
    cases h
  | true =>
    rw [hs, if_pos rfl] at h
    obtain ⟨xs, rfl, ex, l1, l3, hz⟩ := sdB_ints hs
    refine ⟨xs, rfl, ex, ?_, ?_, hz, ?_⟩
    · show 1 ≤ (xs.map uI).length
      rw [List.length_map]
      exact l1
    · show (xs.map uI).length ≤ 3
      rw [List.length_map]
      exact l3
    · refine Decidable.byContradiction fun z => ?_
      have z' : ¬ prodL (xs.map uI) ≤ 12 := z
      rw [if_pos (show 12 < prodL (itsI (some xs)) by show 12 < prodL (xs.map uI); omega)] at h
      cases h
section
variable {P : Program} {w : World} {K : PySem.W.Frag} {mg : Str → Option Value} {base : Heap}
/-- two promises are one -/
theorem FnOk.or {CX : CXT} {k : Nat} {f : Addr} {fd : FuncData} {ps : List Str} {sp sp' : Sp} (F : FnOk P w K mg base CX k f fd ps sp) (G : FnOk P w K mg base CX k f fd ps sp') : FnOk P w K mg base CX k f fd ps (fun vs H Q E => sp vs H Q E ∨ sp' vs H Q E) :=
  ⟨fun vs H Q E h => h.elim (F.len vs H Q E) (G.len vs H Q E), fun A outer s H args us vs Q E hr he hb hv hs => hs.elim (F.run A outer s H args us vs Q E hr he hb hv) (G.run A outer s H args us vs Q E hr he hb hv)⟩
theorem FnOk.any {CX : CXT} {k : Nat} {f : Addr} {fd : FuncData} {ps : List Str} {sp : Sp} (F : FnOk P w K mg base CX0 k f fd ps sp) : FnOk P w K mg base CX k f fd ps sp :=
  ⟨F.len, fun A outer s H args us vs Q E hr he hb hv hs => codeAny_mono (F.run A outer s H args us vs Q E hr he hb hv hs) fun r s' h => by
    cases r with
    | error e => exact False.elim h
    | ok fl => cases fl <;> exact h⟩
end
end Lk

namespace Lk
open PySem L2 Lx LamX LrA LqA
/-! ### forth and back -/
abbrev T2 : Tr := snT [2, 1] 2 [[1, 0]] [0, 1]
abbrev T3 : Tr := snT [2, 2, 1] 4 [[1, 0, 0], [0, 1, 0]] [0, 0, 1]
theorem snF2 : SnF 2 [2, 1] 2 [[1, 0]] [0, 1] := ⟨rfl, by decide +kernel, ⟨by decide, by decide⟩, by decide, by decide, by decide, by decide, rfl, by decide, by decide, by decide⟩
theorem snF3 : SnF 3 [2, 2, 1] 4 [[1, 0, 0], [0, 1, 0]] [0, 0, 1] := ⟨rfl, by decide +kernel, ⟨by decide, by decide⟩, by decide, by decide, by decide, by decide, rfl, by decide, by decide, by decide⟩
theorem T2_is : T2 = .key [1, 0] [0, 0] (.fork (.cons [0] .pl (.cons [1] (.key [0, -1] [0, 0] .pl) .nil))) := by
  have e0 : parL [2, 1] 2 0 = [0] := by decide +kernel
  have e1 : parL [2, 1] 2 1 = [1] := by decide +kernel
  unfold T2 snT
  rw [e0, e1]
  rfl
theorem T3_is : T3 = .key [1, 0, 0] [0, 0, 0, 0] (.key [0, 1, 0] [0, 0, 0, 0] (.fork (.cons [0, 3] .pl (.cons [1, 2] (.key [0, 0, -1] [0, 0, 0, 0] .pl) .nil)))) := by
  have e0 : parL [2, 2, 1] 4 0 = [0, 3] := by decide +kernel
  have e1 : parL [2, 2, 1] 4 1 = [1, 2] := by decide +kernel
  unfold T3 snT
  rw [e0, e1]
  rfl
theorem T2_wf : T2.wf [(2 : Int), 1].length 2 ∧ T2.size ≤ 200 ∧ T2.dep ≤ 20 := by
  rw [T2_is]
  refine ⟨?_, by decide, by decide⟩
  simp only [Tr.wf, Gs.wf]
  exact ⟨rfl, rfl, by decide, by decide +kernel, ⟨by decide, by decide⟩, trivial, ⟨by decide, by decide⟩, ⟨rfl, rfl, by decide, trivial⟩, trivial⟩
theorem T3_wf : T3.wf [(2 : Int), 2, 1].length 4 ∧ T3.size ≤ 200 ∧ T3.dep ≤ 20 := by
  rw [T3_is]
  refine ⟨?_, by decide, by decide⟩
  simp only [Tr.wf, Gs.wf]
  exact ⟨rfl, rfl, by decide, ⟨rfl, rfl, by decide, by decide +kernel, ⟨by decide, by decide⟩, trivial, ⟨by decide, by decide⟩, ⟨rfl, rfl, by decide, trivial⟩, trivial⟩⟩
theorem path2 (p a : Int) : pth T2 (cls [2, 1] [p, a]) [p, a] = if p % 2 = 0 then [p, 0] else [p, 1, -a] := by
  have ec : cls [2, 1] [p, a] = p % 2 := by simp [cls, clsF]
  rw [ec, T2_is]
  rcases Int.emod_two_eq p with e | e
  · rw [e]
    simp [pth, pthG, dotL]
  · rw [e]
    simp [pth, pthG, dotL]
theorem path3 (p r a : Int) : pth T3 (cls [2, 2, 1] [p, r, a]) [p, r, a] = if (p + r) % 2 = 0 then [p, r, 0] else [p, r, 1, -a] := by
  have ec : cls [2, 2, 1] [p, r, a] = p % 2 * 2 + r % 2 := by simp [cls, clsF]
  rw [ec, T3_is]
  rcases Int.emod_two_eq p with e | e <;> rcases Int.emod_two_eq r with e' | e'
  · rw [e, e', if_pos (by omega)]
    simp [pth, pthG, dotL]
  · rw [e, e', if_neg (by omega)]
    simp [pth, pthG, dotL]
  · rw [e, e', if_neg (by omega)]
    simp [pth, pthG, dotL]
  · rw [e, e', if_pos (by omega)]
    simp [pth, pthG, dotL]
/-- what is due -/
def snD (xi : List Int) (a : Int) (yi : List Int) (b : Int) : Bool := if xi = yi ∧ xi.sum % 2 = 1 then HT.lexLt (yi ++ [b]) (xi ++ [a]) else HT.lexLt (xi ++ [a]) (yi ++ [b])
def snE (xi : List Int) (a : Int) (yi : List Int) (b : Int) : Bool := decide (xi ++ [a] = yi ++ [b]) || (decide (xi = yi) && decide (xi.sum % 2 = 0))
/-- the three snakes -/
def Sn (d : Nat) (ds : List Int) (n : Nat) (t : Tr) : Prop := (d = 1 ∧ ds = [1] ∧ n = 1 ∧ t = .pl) ∨ (d = 2 ∧ ds = [2, 1] ∧ n = 2 ∧ t = T2) ∨ (d = 3 ∧ ds = [2, 2, 1] ∧ n = 4 ∧ t = T3)
theorem Sn.len {d : Nat} {ds : List Int} {n : Nat} {t : Tr} (h : Sn d ds n t) : ds.length = d := by
  rcases h with ⟨rfl, rfl, _⟩ | ⟨rfl, rfl, _⟩ | ⟨rfl, rfl, _⟩ <;> rfl
theorem len1 {l : List Int} (h : l.length = 1) : ∃ p, l = [p] := by
  match l, h with
  | [p], _ => exact ⟨p, rfl⟩
theorem len2 {l : List Int} (h : l.length = 2) : ∃ p r, l = [p, r] := by
  match l, h with
  | [p, r], _ => exact ⟨p, r, rfl⟩
theorem snake_lt {d : Nat} {ds : List Int} {n : Nat} {t : Tr} {xi yi : List Int} {a b : Int} (h : Sn d ds n t) (hx : xi.length + 1 = d) (hy : yi.length + 1 = d) : HT.lexLt (full ds t (xi ++ [a])) (full ds t (yi ++ [b])) = snD xi a yi b := by
  rcases h with ⟨rfl, rfl, rfl, rfl⟩ | ⟨rfl, rfl, rfl, rfl⟩ | ⟨rfl, rfl, rfl, rfl⟩
  · have e1 : xi = [] := List.length_eq_zero_iff.mp (by omega)
    have e2 : yi = [] := List.length_eq_zero_iff.mp (by omega)
    subst e1 e2
    unfold snD
    rw [if_neg (by simp)]
    simp [full, pth]
  · obtain ⟨p, rfl⟩ := len1 (l := xi) (by omega)
    obtain ⟨q, rfl⟩ := len1 (l := yi) (by omega)
    unfold full snD
    show HT.lexLt (pth T2 (cls [2, 1] [p, a]) [p, a] ++ [p, a]) (pth T2 (cls [2, 1] [q, b]) [q, b] ++ [q, b]) = _
    rw [path2, path2]
    by_cases e : p = q
    · subst e
      rcases Int.emod_two_eq p with e | e
      · simp [e, HT.lexLt]
      · simp [e, HT.lexLt]
        by_cases e3 : a = b
        · simp [e3]
        · have : ¬ b = a := fun z => e3 z.symm
          simp [e3, this]
    · rcases Int.emod_two_eq p with e1 | e1 <;> rcases Int.emod_two_eq q with e2 | e2 <;> simp [e, e1, e2, HT.lexLt]
  · obtain ⟨p, r, rfl⟩ := len2 (l := xi) (by omega)
    obtain ⟨q, s, rfl⟩ := len2 (l := yi) (by omega)
    unfold full snD
    show HT.lexLt (pth T3 (cls [2, 2, 1] [p, r, a]) [p, r, a] ++ [p, r, a]) (pth T3 (cls [2, 2, 1] [q, s, b]) [q, s, b] ++ [q, s, b]) = _
    rw [path3, path3]
    have es : ∀ u v : Int, ([u, v] : List Int).sum = u + v := fun u v => by simp
    rw [es]
    by_cases e : p = q ∧ r = s
    · obtain ⟨rfl, rfl⟩ := e
      rcases Int.emod_two_eq (p + r) with e | e
      · simp [e, HT.lexLt]
      · simp [e, HT.lexLt]
        by_cases e3 : a = b
        · simp [e3]
        · have : ¬ b = a := fun z => e3 z.symm
          simp [e3, this]
    · by_cases e' : p = q
      · have e'' : ¬ r = s := fun z => e ⟨e', z⟩
        subst e'
        rcases Int.emod_two_eq (p + r) with e1 | e1 <;> rcases Int.emod_two_eq (p + s) with e2 | e2 <;> simp [e'', e1, e2, HT.lexLt]
      · rcases Int.emod_two_eq (p + r) with e1 | e1 <;> rcases Int.emod_two_eq (q + s) with e2 | e2 <;> simp [e', e1, e2, HT.lexLt]
theorem snake_tied {d : Nat} {ds : List Int} {n : Nat} {t : Tr} {xi yi : List Int} {a b : Int} (h : Sn d ds n t) (hx : xi.length + 1 = d) (hy : yi.length + 1 = d) : decide (pth t (cls ds (xi ++ [a])) (xi ++ [a]) = pth t (cls ds (yi ++ [b])) (yi ++ [b])) = snE xi a yi b := by
  rcases h with ⟨rfl, rfl, rfl, rfl⟩ | ⟨rfl, rfl, rfl, rfl⟩ | ⟨rfl, rfl, rfl, rfl⟩
  · have e1 : xi = [] := List.length_eq_zero_iff.mp (by omega)
    have e2 : yi = [] := List.length_eq_zero_iff.mp (by omega)
    subst e1 e2
    unfold snE
    simp [pth]
  · obtain ⟨p, rfl⟩ := len1 (l := xi) (by omega)
    obtain ⟨q, rfl⟩ := len1 (l := yi) (by omega)
    unfold snE
    show decide (pth T2 (cls [2, 1] [p, a]) [p, a] = pth T2 (cls [2, 1] [q, b]) [q, b]) = _
    rw [path2, path2]
    by_cases e : p = q
    · subst e
      rcases Int.emod_two_eq p with e | e <;> simp [e]
    · rcases Int.emod_two_eq p with e1 | e1 <;> rcases Int.emod_two_eq q with e2 | e2 <;> simp [e, e1, e2]
  · obtain ⟨p, r, rfl⟩ := len2 (l := xi) (by omega)
    obtain ⟨q, s, rfl⟩ := len2 (l := yi) (by omega)
    unfold snE
    show decide (pth T3 (cls [2, 2, 1] [p, r, a]) [p, r, a] = pth T3 (cls [2, 2, 1] [q, s, b]) [q, s, b]) = _
    rw [path3, path3]
    have es : ∀ u v : Int, ([u, v] : List Int).sum = u + v := fun u v => by simp
    rw [es]
    by_cases e : p = q ∧ r = s
    · obtain ⟨rfl, rfl⟩ := e
      rcases Int.emod_two_eq (p + r) with e | e <;> simp [e]
    · rcases Int.emod_two_eq (p + r) with e1 | e1 <;> rcases Int.emod_two_eq (q + s) with e2 | e2 <;> simp [e1, e2] <;> (try omega) <;> (intro h1 h2; exact absurd ⟨h1, h2⟩ e)
end Lk

namespace Lk
open PySem L2 Lx LamX LrA LqA
/-! ### common divisors and multiples -/
def lcmI (a b : Int) : Int := ((Nat.lcm a.natAbs b.natAbs : Nat) : Int)
def comD (ds es : List Int) : List Int := List.zipWith lcmI ds es
def gcdI (a b : Int) : Int := ((Nat.gcd a.natAbs b.natAbs : Nat) : Int)
def spGcd : Sp := fun vs H Q _ => ∃ a b : Int, vs = [.int a, .int b] ∧ Q (.int (gcdI a b)) H
def spLcm : Sp := fun vs H Q _ => ∃ a b : Int, vs = [.int a, .int b] ∧ 1 ≤ a ∧ 1 ≤ b ∧ a < 2 ^ 30 ∧ b < 2 ^ 30 ∧ Q (.int (lcmI a b)) H
def spCom (K : PySem.W.Frag) : Sp := fun vs H Q _ => ∃ (a b : Addr) (ds es : List Int), vs = [.ref a, .ref b] ∧ SqT K H a (ds.map V.int) ∧ SqT K H b (es.map V.int) ∧ ds.length = es.length ∧ ds.length ≤ 3 ∧ (∀ z ∈ ds, 1 ≤ z ∧ z < 2 ^ 30) ∧ (∀ z ∈ es, 1 ≤ z ∧ z < 2 ^ 30) ∧
  ∀ H' p, Same H H' → H p = none → H' p = some (.tup ((comD ds es).map V.int)) → Q (.ref p) H'
theorem abs_nat (i : Int) : (if i < 0 then -i else i) = (i.natAbs : Int) := by
  by_cases h : i < 0
  · rw [if_pos h]; omega
  · rw [if_neg h]; omega
theorem gcd_step {m n : Nat} (h : 0 < n) : Nat.gcd n (m % n) = Nat.gcd m n := by
  rw [Nat.gcd_comm m n, Nat.gcd_rec n m, Nat.gcd_comm]
theorem lcm_div {a b : Int} (ha : 1 ≤ a) (hb : 1 ≤ b) : a * b / gcdI a b = lcmI a b := by
  obtain ⟨m, rfl⟩ := Int.eq_ofNat_of_zero_le (show 0 ≤ a by omega)
  obtain ⟨n, rfl⟩ := Int.eq_ofNat_of_zero_le (show 0 ≤ b by omega)
  show (m : Int) * (n : Int) / ((Nat.gcd m n : Nat) : Int) = ((Nat.lcm m n : Nat) : Int)
  rw [← Int.natCast_mul, ← Int.natCast_ediv]
  rfl
theorem gcd_bound {a b : Int} (ha : 1 ≤ a) (h : a < 2 ^ 30) : 0 < gcdI a b ∧ gcdI a b < 2 ^ 30 := by
  have h1 : Nat.gcd a.natAbs b.natAbs ≤ a.natAbs := Nat.gcd_le_left _ (by omega)
  have h2 : 0 < Nat.gcd a.natAbs b.natAbs := Nat.gcd_pos_of_pos_left _ (by omega)
  unfold gcdI
  omega
theorem lcm_pos {a b : Int} (ha : 1 ≤ a) (hb : 1 ≤ b) : 1 ≤ lcmI a b := by
  have : 0 < Nat.lcm a.natAbs b.natAbs := Nat.lcm_pos (by omega) (by omega)
  unfold lcmI
  omega
theorem lcm_le {a b : Int} (ha : 1 ≤ a) (hb : 1 ≤ b) : lcmI a b ≤ a * b := by
  obtain ⟨m, rfl⟩ := Int.eq_ofNat_of_zero_le (show 0 ≤ a by omega)
  obtain ⟨n, rfl⟩ := Int.eq_ofNat_of_zero_le (show 0 ≤ b by omega)
  show ((Nat.lcm m n : Nat) : Int) ≤ (m : Int) * (n : Int)
  rw [← Int.natCast_mul]
  have h : Nat.lcm m n ∣ m * n := Nat.lcm_dvd (Nat.dvd_mul_right m n) (Nat.dvd_mul_left n m)
  exact Int.ofNat_le.mpr (Nat.le_of_dvd (Nat.mul_pos (by omega) (by omega)) h)
theorem lcm_mod {a b : Int} (ha : 1 ≤ a) (hb : 1 ≤ b) : lcmI a b % a = 0 ∧ lcmI a b % b = 0 := by
  obtain ⟨m, rfl⟩ := Int.eq_ofNat_of_zero_le (show 0 ≤ a by omega)
  obtain ⟨n, rfl⟩ := Int.eq_ofNat_of_zero_le (show 0 ≤ b by omega)
  constructor
  · show ((Nat.lcm m n : Nat) : Int) % (m : Int) = 0
    exact Int.emod_eq_zero_of_dvd (Int.natCast_dvd_natCast.mpr (Nat.dvd_lcm_left m n))
  · show ((Nat.lcm m n : Nat) : Int) % (n : Int) = 0
    exact Int.emod_eq_zero_of_dvd (Int.natCast_dvd_natCast.mpr (Nat.dvd_lcm_right m n))
theorem com_len {ds es : List Int} (h : ds.length = es.length) : (comD ds es).length = ds.length := by
  unfold comD
  rw [List.length_zipWith]
  omega
theorem com_mul : ∀ {ds es : List Int}, ds.length = es.length → (∀ z ∈ ds, 1 ≤ z) → (∀ z ∈ es, 1 ≤ z) → Mul (comD ds es) ds ∧ Mul (comD ds es) es := fun {ds es} hl h1 h2 => by
  have key : ∀ (i : Nat) (u : Int), (comD ds es)[i]? = some u → ∃ a b, ds[i]? = some a ∧ es[i]? = some b ∧ u = lcmI a b := fun i u h => by
    unfold comD at h
    rw [List.getElem?_zipWith] at h
    cases ea : ds[i]? with
    | none => rw [ea] at h; simp at h
    | some a =>
      cases eb : es[i]? with
      | none => rw [ea, eb] at h; simp at h
      | some b =>
        rw [ea, eb] at h
        simp at h
        exact ⟨a, b, rfl, rfl, h.symm⟩
  refine ⟨⟨com_len hl, fun i u v hu hv => ?_⟩, ⟨by rw [com_len hl, hl], fun i u v hu hv => ?_⟩⟩
  · obtain ⟨a, b, ea, eb, rfl⟩ := key i u hu
    rw [ea] at hv
    cases hv
    exact (lcm_mod (h1 _ (List.mem_of_getElem? ea)) (h2 _ (List.mem_of_getElem? eb))).1
  · obtain ⟨a, b, ea, eb, rfl⟩ := key i u hu
    rw [eb] at hv
    cases hv
    exact (lcm_mod (h1 _ (List.mem_of_getElem? ea)) (h2 _ (List.mem_of_getElem? eb))).2
theorem com_one {ds es : List Int} (h1 : ∀ z ∈ ds, 1 ≤ z) (h2 : ∀ z ∈ es, 1 ≤ z) : ∀ z ∈ comD ds es, 1 ≤ z := fun z hz => by
  obtain ⟨i, hi⟩ := List.mem_iff_getElem?.mp hz
  unfold comD at hi
  rw [List.getElem?_zipWith] at hi
  cases ea : ds[i]? with
  | none => rw [ea] at hi; simp at hi
  | some a =>
    cases eb : es[i]? with
    | none => rw [ea, eb] at hi; simp at hi
    | some b =>
      rw [ea, eb] at hi
      simp at hi
      rw [← hi]
      exact lcm_pos (h1 _ (List.mem_of_getElem? ea)) (h2 _ (List.mem_of_getElem? eb))
theorem com_prod : ∀ {ds es : List Int}, (∀ z ∈ ds, 1 ≤ z) → (∀ z ∈ es, 1 ≤ z) → ds.length = es.length → prodL (comD ds es) ≤ prodL ds * prodL es
  | [], [], _, _, _ => by decide
  | a :: r, b :: s, h1, h2, hl => by
    have ih := com_prod (ds := r) (es := s) (fun z h => h1 z (List.mem_cons_of_mem _ h)) (fun z h => h2 z (List.mem_cons_of_mem _ h)) (by simpa using hl)
    have pa := h1 a List.mem_cons_self
    have pb := h2 b List.mem_cons_self
    have p1 := prodL_pos (l := r) fun z h => h1 z (List.mem_cons_of_mem _ h)
    have p2 := prodL_pos (l := s) fun z h => h2 z (List.mem_cons_of_mem _ h)
    have p0 := prodL_pos (com_one (ds := r) (es := s) (fun z h => h1 z (List.mem_cons_of_mem _ h)) (fun z h => h2 z (List.mem_cons_of_mem _ h)))
    show lcmI a b * prodL (comD r s) ≤ (a * prodL r) * (b * prodL s)
    have e : (a * prodL r) * (b * prodL s) = (a * b) * (prodL r * prodL s) := by
      rw [Int.mul_assoc, Int.mul_assoc, Int.mul_left_comm (prodL r)]
    rw [e]
    exact Int.mul_le_mul (lcm_le pa pb) ih (by omega) (Int.mul_nonneg (by omega) (by omega))
  | [], _ :: _, _, _, h => by cases h
  | _ :: _, [], _, _, h => by cases h
section
variable {P : Program} {w : World} {K : PySem.W.Frag} {mg : Str → Option Value} {base : Heap}
end
end Lk

namespace LeE
open PySem PySem.Spec PyProof.Rows L2
open Sem (wp)
open AutoSeq1 (wpAny_loadPart')
/-! ### enumerate(tuple) -/
theorem meets_enumT (l : Addr) (items : Array Value) (n : Nat) (dct : Option Addr) (sl : Array (Option Value)) :
    Meets (Builtin.«enumerate.__new__» ⟨[.type "enumerate", .ref l], []⟩) (fun _ R s => s.heap.get? l = some { cls := .type "tuple", dict := dct, data := .seq items n, slots := sl } ∧
      R (.ok (.ret (.ref (s.heap.push { cls := .type "tuple_iterator", data := .fields #[.ref l, .int 0 0] }).objs.size)))
        { s with heap := (s.heap.push { cls := .type "tuple_iterator", data := .fields #[.ref l, .int 0 0] }).push { cls := .type "enumerate", data := .fields #[.none, .bool false, .ref s.heap.objs.size, rawInt 0, .none, .none] } }) :=
  .of_wp fun prog w A R s h => by
    obtain ⟨hp, g, d, tk, os⟩ := s; obtain ⟨hl, h⟩ := h
    have hsub := sub_enumerate
    have hL : Heap.IsTuple (Shared.heap ⟨hp, g, d, tk, os⟩) l items := ⟨_, hl, rfl, n, rfl⟩
    wp_walk using wpAny_loadPart' hl
    refine wpAny_stack_any fun st => wpAny_pure ?_
    split
    · rename_i c _ _ _ _ _
      cases (c == Value.type "enumerate")
      · wp_walk using wpAny_loadPart' hl, wpAny_pyIter_tuple hL
        exact ⟨_, rfl, h⟩
      · wp_walk using wpAny_loadPart' hl, wpAny_pyIter_tuple hL
        exact ⟨_, rfl, h⟩
    · wp_walk using wpAny_loadPart' hl, wpAny_pyIter_tuple hL
      exact ⟨_, rfl, h⟩
theorem call_enumT {prog : Program} {w : World} {A : Around} {E : Value → Shared → Prop} {s : Shared} {l : Addr} {items : Array Value} {Q : Value → Shared → Prop} (hL : s.heap.IsTuple l items)
    (h : ∀ h', IsEnum h' (s.heap.objs.size + 1) s.heap.objs.size 0 .none → h'.IsTupleIter s.heap.objs.size l 0 → h'.objs.size = s.heap.objs.size + 2 →
      (∀ b o, s.heap.get? b = some o → h'.get? b = some o) → Q (.ref (s.heap.objs.size + 1)) { s with heap := h' }) :
    wpAny (model prog w) A (call (.type "enumerate") [.ref l]) Q E s := by
  obtain ⟨⟨c, dct, dt, sl⟩, hl, hc, n, hd⟩ := hL
  replace hc : c = .type "tuple" := hc
  replace hd : dt = .seq items n := hd
  subst hc hd
  refine callType_new F.called_enumerate (by decide) (F.typeCall_enumerate_1 _) (F.newCall_enumerate_1 _) (fun obj => F.args_object_init_2 obj _) F.entry_enumerate_new
    (meets_enumT l items n dct sl) ⟨hl, ?_⟩
  have hz : (s.heap.push { cls := .type "tuple_iterator", data := .fields #[.ref l, .int 0 0] }).objs.size = s.heap.objs.size + 1 := Heap.size_push ..
  show _ ∧ _
  rw [hz]
  have he : IsEnum ((s.heap.push { cls := .type "tuple_iterator", data := .fields #[.ref l, .int 0 0] }).push
      { cls := .type "enumerate", data := .fields #[.none, .bool false, .ref s.heap.objs.size, rawInt 0, .none, .none] }) (s.heap.objs.size + 1) s.heap.objs.size 0 .none := by
    have := Heap.get?_push_size (s.heap.push { cls := .type "tuple_iterator", data := .fields #[.ref l, .int 0 0] })
      (o := { cls := .type "enumerate", data := .fields #[.none, .bool false, .ref s.heap.objs.size, rawInt 0, .none, .none] }) rfl
    rw [hz] at this; exact this
  refine ⟨⟨_, he, rfl⟩, h _ he ⟨_, Heap.get?_push_of_some _ (Heap.get?_push_size _ rfl), rfl, rfl⟩ (by rw [Heap.size_push, hz]) fun b o x => Heap.get?_push_of_some _ (Heap.get?_push_of_some _ x)⟩
/-- the tuple at a, each item in a new pair -/
def ItE (K : PySem.W.Frag) (a : Addr) : It :=
  ⟨fun i H => ∃ (xs : List V) (x : V), SqT K H a xs ∧ xs[i]? = some x, fun i H v H' => ∃ T x, v = .ref T ∧ H T = none ∧ H' = upd H T (.tup [.int (i : Nat), x]) ∧ ∀ xs, SqT K H a xs → xs[i]? = some x, fun i H => ∃ xs : List V, SqT K H a xs ∧ xs.length = i⟩
theorem turn_enumT {P : Program} {w : World} {K : PySem.W.Frag} {elts : List Expr} {kk : Nat} {tpos : Pos} (a e it : Addr) (hai : a ≠ it) (hae : e ≠ a) :
    Turn P w K (.Tuple elts kk tpos) (ItE K a) [e, it] e (fun i h => (∃ old, IsEnum h e it ((i : Nat) : Int) old) ∧ h.IsTupleIter it a i ∧ e ≠ it) where
  mem := by simp
  obj := fun i h st b hb => by
    obtain ⟨⟨old, he⟩, ⟨o, ho, hc, hd⟩, _⟩ := st
    have e' : b = e ∨ b = it := by simpa using hb
    rcases e' with z | z
    · rw [z]; exact ⟨_, he, fun v q => nomatch q⟩
    · rw [z]; exact ⟨o, ho, fun v q => by rw [hd] at q; cases q⟩
  keep := fun i h h' st k => let ⟨⟨old, he⟩, hi, hne⟩ := st; ⟨⟨old, k e (by simp) _ he⟩, hi.at fun o q => k it (by simp) o q, hne⟩
  item := by
    intro X hP hw hK hc i pins s σ H E I hf st hg
    subst hP hw hK
    obtain ⟨⟨old, he⟩, hit, hne⟩ := st
    obtain ⟨xs, x, hq, hx⟩ := hg
    obtain ⟨its, rv, p, hz⟩ := I.tuple hq
    obtain ⟨u, hu, ru⟩ := rv.get hx
    have hel : e < s.heap.objs.size := Heap.lt_size he
    have hil : it < s.heap.objs.size := by obtain ⟨_, q, _⟩ := hit; exact Heap.lt_size q
    have hu' : its.toArray[i]? = some u := by simpa using hu
    have hlt : i < its.toArray.size := by
      by_cases z : i < its.toArray.size
      · exact z
      · rw [Array.getElem?_eq_none (by omega)] at hu'; cases hu'
    refine wpAny_pyNext_enum_itemD (Draws.tuple (A := X.A.in1) (I.ok.hd hc) it a hai its.toArray) he ⟨hit, p⟩ hlt hne (by simp; exact ⟨hne, hae⟩) fun v h' tk hv ho hit' hT hsz hk => ?_
    have ev : v = u := by rw [hu'] at hv; exact (Option.some.inj hv).symm
    subst ev
    refine ⟨_, rfl, wpAny_letOwnedTupleGo_enum (s := { s with heap := h', toks := tk + 1 }) ho fun h'' he' sb => ?_⟩
    have hT2 : h''.get? s.heap.objs.size = some { cls := .type "tuple", data := .seq #[.int i tk, v] } := (sb.2 _ (Nat.ne_of_gt hel)).trans hT
    have new : ObjOk X.prog X.w (upd H s.heap.objs.size (.tup [.int (i : Nat), x])) h'' s.heap.objs.size (.tup [.int (i : Nat), x]) :=
      ⟨by show 2 ≤ sizeLine; decide, [.int i tk, v], .cons ⟨_, rfl⟩ (.cons ru .nil), ⟨_, hT2, rfl, _, rfl⟩⟩
    have I1 : Inv X pins σ (upd H s.heap.objs.size (.tup [.int (i : Nat), x])) { s with heap := h'', toks := tk + 1 } :=
      I.turnedNew (ch := [e, it]) (fun b ob hb q => (sb.2 b (fun z => hb (by simp [z]))).trans (hk b ob (fun z => hb (by simp [z])) (fun z => hb (by simp [z])) q)) hf (Nat.le_refl _) new
    refine ⟨.ref s.heap.objs.size, _, I1, rfl, ⟨_, x, rfl, I.hok.fresh (Nat.le_refl _), rfl, fun ys hy => by rw [I.tuple_inj hy hq]; exact hx⟩, ⟨⟨v, ?_⟩, hit'.1.at fun o q => (sb.2 it (Ne.symm hne)).trans q, hne⟩, fun b hb => ?_⟩
    · have e1 : ((i + 1 : Nat) : Int) = (i : Int) + 1 := by omega
      rw [e1]; exact he'
    · have hb' : b < s.heap.objs.size := by
        have e' : b = e ∨ b = it := by simpa using hb
        rcases e' with z | z
        · rw [z]; exact hel
        · rw [z]; exact hil
      rw [upd_ne (Nat.ne_of_lt hb')]
      exact (hf b hb).1
  done := by
    intro X hP hw hK hc i pins s σ H E I hf st hg
    subst hP hw hK
    obtain ⟨⟨old, he⟩, hit, hne⟩ := st
    obtain ⟨xs, hq, hx⟩ := hg
    obtain ⟨its, rv, p, hz⟩ := I.tuple hq
    obtain ⟨f0, f1, f2, f3, f4, f5⟩ := hf it (by simp)
    have hl := rv.length
    have hi : its.toArray.size = i := by simp; omega
    subst hi
    exact wpAny_pyNext_enum_endD (Draws.tuple (A := X.A.in1) (I.ok.hd hc) it a hai its.toArray) he ⟨hit, p⟩ fun h' eb => ⟨rfl, I.turned (t' := s.toks) (fun b o hb q => eb b o hb q) f0 f1 f3 f4 f5⟩
  self := fun A i s Q E st h => let ⟨⟨_, he⟩, _⟩ := st; wpAny_pyIter_enum he h
def iEnumT (K : PySem.W.Frag) (ta : TA) : TI := fun σ H R => ta σ H fun vs H1 => ∃ a xs, vs = [.ref a] ∧ SqT K H1 a xs ∧ R (ItE K a) H1
theorem pi_enumT {X : Cx} {e : Expr} {ta : TA} {p pos tpos : Pos} {elts : List Expr} {kk : Nat} (hg : Gl X "enumerate") (hm : X.mg "enumerate" = none) (ha : PA X [e] ta) (hs : starEach [e] X.env = [(false, eval e X.env)] := by rfl) :
    PI X (.Tuple elts kk tpos) (.Call (.Name "enumerate" p) [e] [] pos) (iEnumT X.K ta) := by
  refine ⟨fun pins s σ H R I h => ?_⟩
  refine Call_ (ld_blt I hg hm boot_enumerate (PyProof.Rows.callWith_type1 (thn (ha.run pos pins s σ H _ I h) fun us s1 ⟨vs, H1, I1, r1, q1⟩ => ?_) hs rfl))
  obtain ⟨a, xs, ex, hq, q⟩ := q1
  subst ex
  cases r1 with
  | cons r rr =>
    cases rr
    cases r
    obtain ⟨its, rv, p', hz⟩ := I1.tuple hq
    obtain ⟨o1, ho1, _⟩ := id p'
    have hla := Heap.lt_size ho1
    refine call_enumT (show s1.heap.IsTuple a its.toArray from p') fun h' he hit hsz hk => wpAny_pyIter_enum he ?_
    have I2 : Inv X pins σ H1 { s1 with heap := h' } := I1.kept (t' := s1.toks) hk
    refine ⟨s1.heap.objs.size + 1, [s1.heap.objs.size + 1, s1.heap.objs.size], _, _, H1, rfl, I2, turn_enumT a (s1.heap.objs.size + 1) s1.heap.objs.size (Nat.ne_of_lt hla) (Nat.ne_of_gt (Nat.lt_succ_of_lt hla)), ⟨⟨.none, he⟩, hit, Nat.succ_ne_self _⟩, fun b hb => ?_, q⟩
    have e' : b = s1.heap.objs.size + 1 ∨ b = s1.heap.objs.size := by simpa using hb
    have hle : s1.heap.objs.size ≤ b := by
      rcases e' with z | z
      · rw [z]; exact Nat.le_add_right _ _
      · rw [z]; exact Nat.le_refl _
    exact I1.fpOk hle (I1.hok.fresh hle)
theorem walk_enumT {K : PySem.W.Frag} {a : Addr} {xs : List V} : Walk (ItE K a) xs.length (fun H => SqT K H a xs) (YPair (fun i => some (.int (i : Nat))) (fun i => xs[i]?)) := by
  refine ⟨fun i _ hi q => ⟨xs, xs[i], q, by simp [hi]⟩, fun _ q => ⟨xs, q, rfl⟩, fun i H v H' _ q y => ?_⟩
  obtain ⟨T, x, h1, h2, h3, h4⟩ := y
  exact ⟨T, .int (i : Nat), x, h1, h2, h3, rfl, h4 xs q⟩
end LeE

namespace Lk
open PySem L2 Lx LamX LrA LqA
/-! ### looks -/
def absI (z : Int) : Int := if z < 0 then -z else z
/-- a look, by its numbers alone -/
def lkN (ns : List Int) : Bool := decide ((∃ z ∈ ns, z ≠ 0) ∧ ∀ z ∈ ns, -9 ≤ z ∧ z ≤ 9)
def lkO (o : Option (List V)) (d : Nat) : Bool := plB o d && lkN (itsI o)
structure LkOk (d : Nat) (ns : List Int) : Prop where
  len : ns.length = d
  one : ∃ z ∈ ns, z ≠ 0
  all : ∀ z ∈ ns, -9 ≤ z ∧ z ≤ 9
theorem its_ints (ns : List Int) : itsI (some (ns.map V.int)) = ns := by
  show (ns.map V.int).map uI = ns
  rw [List.map_map]
  exact (List.map_congr_left fun z _ => rfl).trans (List.map_id ns)
theorem lkO_ok {d : Nat} {ns : List Int} (h : LkOk d ns) : lkO (some (ns.map V.int)) d = true := by
  unfold lkO plB
  simp only [its_ints, isI_ints, List.length_map, h.len, Bool.and_eq_true, decide_true, Bool.true_and, Bool.and_true]
  exact decide_eq_true ⟨h.one, h.all⟩
theorem ok_lkO {d : Nat} {o : Option (List V)} (h : lkO o d = true) : ∃ ns, o = some (ns.map V.int) ∧ LkOk d ns := by
  unfold lkO at h
  rw [Bool.and_eq_true] at h
  obtain ⟨h1, h2⟩ := h
  cases o with
  | none => cases h1
  | some xs =>
    have h1' : (decide ((xs.length : Int) = d) && xs.all isI) = true := h1
    rw [Bool.and_eq_true] at h1'
    have el := of_decide_eq_true h1'.1
    have e : xs = (itsI (some xs)).map V.int := by
      show xs = (xs.map uI).map V.int
      rw [List.map_map]
      have : ∀ x ∈ xs, (V.int ∘ uI) x = x := fun x hx => by
        have := List.all_eq_true.mp h1'.2 x hx
        cases x <;> first | rfl | cases this
      exact ((List.map_congr_left this).trans (List.map_id xs)).symm
    have h2' := of_decide_eq_true h2
    refine ⟨itsI (some xs), congrArg some e, ?_, h2'.1, h2'.2⟩
    show (xs.map uI).length = d
    rw [List.length_map]
    omega
def spIsLook (K : PySem.W.Frag) : Sp := fun vs H Q _ => ∃ v o, ∃ d : Nat, vs = [v, .int d] ∧ OD K H v o ∧ 1 ≤ d ∧ ∀ H', Same H H' → Q (.bl (lkO o d)) H'
theorem abs_le (z : Int) : (absI z ≤ 9) ↔ (-9 ≤ z ∧ z ≤ 9) := by unfold absI; split <;> omega
theorem abs_ge (z : Int) : (1 ≤ absI z) ↔ z ≠ 0 := by unfold absI; split <;> omega
section
variable {P : Program} {w : World} {K : PySem.W.Frag} {mg : Str → Option Value} {base : Heap}
theorem ok_islook {f fN : Addr} {fd fdN : FuncData} {k : Nat} (F : Fun K "is_look" "is_look" sIsLook f fd) (ma : mg "abs" = none) (mx : mg "max" = none) {t9 : Tok} (mR : mg "MAX_REACH" = some (.int 9 t9))
    (GN : FnOk P w K mg base CX0 (k + 2) fN fdN ["value", "count"] (spNumsO K)) (kN : PySem.W.keepIn K (.ref fN) = true) (bN : Binds K fdN ["value", "count"] []) (gN : mg "are_numbers" = some (.ref fN)) : FnOk P w K mg base CX0 (k + 3) f fd ["value", "directions"] (spIsLook K) := by
  refine F.ok scIsLook (fun vs H Q E h => ?_) (fun cdv A outer s H vs Q E hr h => ?_)
  · obtain ⟨v, o, d, rfl, _⟩ := h
    rfl
  · obtain ⟨v, o, d, rfl, hO, d1, q⟩ := h
    refine ⟨_, pss_cons (ps_if (pt_not (pt_val (pe_call GN hr (by rfl) gN kN bN .nil pass0 (pa_cons (pv 0) (pa_cons (pv 1) pa_nil))))) (pss_one (ps_ret pe_bl)) pss_nil)
      (pss_one (ps_ret (pe_chain op_le op_le pe_int (pe_callB (cr_max rfl) (by rfl) mx (by decide +kernel) (pa_cons (pe_lc (own := [("number", 2)]) (g := gName 2) (by rfl) scIsLook.nd (pi_tup (pv 0))
        (blkOk_by (own := [("number", 2)]) (N := ["value", "directions", "number"]) (sc := defScope sIsLook) (by decide +kernel)) (fun _ _ _ _ _ => pg_name (i := 2) scIsLook.nd rfl (Or.inl rfl)) (fun _ _ _ _ _ => pts_nil)
        (fun _ _ _ _ _ => pe_callB call_abs (by rfl) ma (by decide +kernel) (pa_cons (pv 2) pa_nil))) pa_nil)) (pe_glob (v := .int 9) (by rfl) mR ⟨_, rfl⟩)))), ?_⟩
    refine ⟨_, rfl, _, rfl, v, d, o, rfl, hO, fun H1 s1 => ?_⟩
    cases hp : plB o d with
    | false =>
      have qq := q H1 s1
      unfold lkO at qq
      rw [hp] at qq
      exact ⟨false, rfl, iteT qq⟩
    | true =>
      refine ⟨true, rfl, iteF ?_⟩
      cases o with
      | none => cases hp
      | some xs =>
        have hp' : (decide ((xs.length : Int) = d) && xs.all isI) = true := hp
        rw [Bool.and_eq_true] at hp'
        have el := of_decide_eq_true hp'.1
        obtain ⟨a, rfl, hS, h3, _⟩ := hO
        have ex : ∀ i x, xs[i]? = some x → x = V.int (uI x) := fun i x hx => by
          have := List.all_eq_true.mp hp'.2 x (List.mem_of_getElem? hx)
          cases x <;> first | rfl | cases this
        refine ⟨_, rfl, a, rfl, ⟨_, Same.sqT s1 hS⟩, fun D nD => ?_⟩
        refine lc_tup (K := K) (a := a) (xs := xs) (fun i H2 => Same H1 H2 ∧ H2 D = some (.lst (((xs.take i).map fun x => absI (uI x)).map V.int))) ⟨same_new nD, upd_same⟩ (fun i H2 _ ⟨sm, _⟩ => Same.sqT (s1.trans sm) hS) ?_ ?_
        rotate_left
        · rintro H2 ⟨sm, hD⟩
          rw [List.take_length] at hD
          refine ⟨D, _, rfl, SqL.of hD, by rw [List.length_map]; omega, fun m mm my => ?_⟩
          obtain ⟨x0, hx0, rfl⟩ := List.mem_map.mp mm
          have qq := q H2 (s1.trans sm)
          unfold lkO at qq
          rw [hp, Bool.true_and] at qq
          have mem : ∀ z, z ∈ itsI (some xs) ↔ ∃ x ∈ xs, uI x = z := fun z => List.mem_map
          refine ⟨_, _, rfl, rfl, _, rfl, ?_⟩
          by_cases c1 : (1 : Int) ≤ absI (uI x0)
          · have e1 : decide ((1 : Int) ≤ absI (uI x0)) = true := decide_eq_true c1
            rw [e1, if_pos rfl]
            refine ⟨_, _, rfl, rfl, ?_⟩
            have e2 : decide (absI (uI x0) ≤ 9) = lkN (itsI (some xs)) := by
              refine decide_eq_decide.mpr ⟨fun h => ⟨⟨uI x0, (mem _).mpr ⟨x0, hx0, rfl⟩, (abs_ge _).mp c1⟩, fun z hz => ?_⟩, fun h => (abs_le _).mpr (h.2 _ ((mem _).mpr ⟨x0, hx0, rfl⟩))⟩
              obtain ⟨x, hx, rfl⟩ := (mem z).mp hz
              have := my _ (List.mem_map.mpr ⟨x, hx, rfl⟩)
              exact (abs_le _).mp (by omega)
            show Q (.bl (decide (absI (uI x0) ≤ 9))) H2
            rw [e2]
            exact qq
          · have e1 : decide ((1 : Int) ≤ absI (uI x0)) = false := decide_eq_false c1
            rw [e1, if_neg (by decide)]
            have e2 : lkN (itsI (some xs)) = false := decide_eq_false fun h => by
              obtain ⟨⟨z, hz, hz0⟩, _⟩ := h
              obtain ⟨x, hx, rfl⟩ := (mem z).mp hz
              have := my _ (List.mem_map.mpr ⟨x, hx, rfl⟩)
              have := (abs_ge _).mpr hz0
              omega
            rw [e2] at qq
            exact qq
        · rintro i x H2 hx ⟨sm, hD⟩
          refine ⟨rfl, _, rfl, uI x, congrArg (fun z => [z]) (ex i x hx), _, hD, ?_, ?_, ?_⟩
          · rw [List.length_map, List.length_map]
            exact small1000 (Nat.le_trans (List.length_take_le' _ _) (by omega))
          · intro b o e
            rw [upd_ne (ne_of_none e nD)]
            exact sm b o e
          · rw [upd_same, take_more hx, List.map_append, List.map_append]
            rfl
end
end Lk

namespace Lk
open PySem L2 Lx LamX LrA LqA TsX
theorem kIL : KScope ["self", "index"] (defScope sIL) := ⟨rfl, rfl, rfl, by decide +kernel, by decide +kernel, by decide +kernel, by decide +kernel⟩
section
variable {P : Program} {w : World} {K : PySem.W.Frag} {mg : Str → Option Value} {base : Heap}
theorem ok_il {C D f cc cda fS : Addr} {fd fdS : FuncData} {k : Nat} (F : InitF P K mg "InvalidLooks.__init__" sIL C f cc cda fd) (T : ErrC K C D fS) (hno : PySem.W.findIn K (.ref C) "index" = some none)
    (GS : FnOk P w K mg base CX0 (k + 1) fS fdS ["self", "tag", "why"] (spSE K D)) (bS : Binds K fdS ["self", "tag", "why"] []) : FnOk P w K mg base CX0 (k + 2) f fd ["self", "index"] (spE1 K C "InvalidLooks" "index") := by
  obtain ⟨oc, od, kV, doc, pm, an, ct, osl, rfl, lk⟩ := F.ex
  obtain ⟨cl, cld, csl, ll⟩ := F.ll
  refine fn_ofK (N := ["self", "index"]) lk F.cd ll kIL (fun vs H Q E h => ?_) (fun A outer s s1 H vs Q E hr h I => ?_)
  · obtain ⟨a, v, rfl, _⟩ := h
    rfl
  · obtain ⟨a, v, rfl, ea, q⟩ := h
    have S : SupF (cxK CX0 P w K mg base ["self", "index"] "InvalidLooks.__init__" (defScope sIL) f (.ref cda) cc A outer s H E) f cc cda C :=
      ⟨rfl, rfl, rfl, rfl, rfl, rfl, rfl, ⟨_, _, _, _, _, lk, rfl, rfl⟩, F.lc, F.ll, F.lD, F.ms, F.tp, F.op⟩
    refine ks_wpAt_execs_cons ?_
    refine sup_initF (X := cxK CX0 P w K mg base ["self", "index"] "InvalidLooks.__init__" (defScope sIL) f (.ref cda) cc A outer s H E) S I rfl ea T.s1 T.m1 T.tS T.fS GS hr bS pass0 (pa_cons pe_str (pa_cons pe_str pa_nil)) (R := fun H1 => ∃ dx, H dx = none ∧ dx ≠ a ∧ H1 = upd (upd H dx (exd dx [("tag", .str "InvalidLooks")])) a (exo a C (some dx)))
      ⟨a, C, _, _, rfl, T.ox, ea, T.s2, T.m2, T.ve, T.nt, fun dx n ne => ⟨dx, n, ne, rfl⟩⟩ (fun H1 s2 I2 e => ?_) rfl rfl rfl _ rfl rfl
    obtain ⟨dx, n, ne, rfl⟩ := e
    refine wpAt_of_wpAny ((pss_one (ps_ost (X := cxK CX0 P w K mg base ["self", "index"] "InvalidLooks.__init__" (defScope sIL) f (.ref cda) cc A outer s H E) (pv 0) (pv 1))).run [] s2 _ _ _ I2 ?_)
    refine ⟨_, rfl, _, rfl, a, C, rfl, T.ox, hno, .inr ⟨dx, _, upd_same, ?_, (by show 1 ≤ 900; decide), q dx n ne⟩⟩
    rw [upd_ne ne, upd_same]
/-- where nothing is raised a promise with errors is one without -/
theorem FnOk.calm {k : Nat} {f : Addr} {fd : FuncData} {ps : List Str} {sp : Sp} (F : FnOk P w K mg base (L2.CX P w) k f fd ps sp) : FnOk P w K mg base CX0 k f fd ps (fun vs H Q _ => sp vs H Q fun _ _ _ => False) :=
  ⟨fun vs H Q _ h => F.len vs H Q _ h, fun A outer s H args us vs Q _ hr he hb hv hs => codeAny_mono (F.run A outer s H args us vs Q (fun _ _ _ => False) hr he hb hv hs) fun r s' h => by
    cases r with
    | error e =>
      obtain ⟨_, _, _, _, _, _, _, _, _, _, _, _, z⟩ := h
      exact z.elim
    | ok fl => cases fl <;> exact h⟩
end
theorem hds_at {K : PySem.W.Frag} {H : Hp} : ∀ {l : List (List Int)} {ws : List V} {i : Nat} {x : V}, HdsAt K H l ws → ws[i]? = some x → ∃ a c, x = .ref a ∧ l[i]? = some c ∧ SqT K H a (c.map V.int)
  | [], _, i, x, h, e => by
    have h : _ = [] := h
    rw [h] at e
    cases e
  | c :: r, _, i, x, ⟨a, wr, h1, h2, h3⟩, e => by
    rw [h1] at e
    match i, e with
    | 0, e => exact ⟨a, c, (Option.some.inj e).symm, rfl, h2⟩
    | i + 1, e => exact hds_at (i := i) h3 e
theorem hds_len {K : PySem.W.Frag} {H : Hp} : ∀ {l : List (List Int)} {ws : List V}, HdsAt K H l ws → ws.length = l.length
  | [], _, h => by
    have h : _ = [] := h
    rw [h]
    rfl
  | c :: r, _, ⟨a, wr, h1, h2, h3⟩ => by
    rw [h1]
    exact congrArg (· + 1) (hds_len h3)
/-- a list or a tuple -/
def SqA (K : PySem.W.Frag) (H : Hp) (a : Addr) (xs : List V) : Prop := SqL K H a xs ∨ SqT K H a xs
theorem SqA.mono {K : PySem.W.Frag} {H H' : Hp} {a : Addr} {xs : List V} (s : Same H H') : SqA K H a xs → SqA K H' a xs
  | .inl h => .inl (Same.seq s h)
  | .inr h => .inr (Same.sqT s h)
/-- looks that go together -/
structure Looks (d : Nat) (l : List (List Int)) : Prop where
  l1 : 1 ≤ l.length
  l4 : l.length ≤ 4
  nd : l.Nodup
  ok : ∀ c ∈ l, LkOk d c
def IlK (C : Addr) (j : Nat) (H : Hp) (E : XK) : Prop := ∀ (dd : Addr) (H' : Hp), Same H H' → H' dd = some (.xd (xflds "index" (.int j) "InvalidLooks")) → E (.ref C) (some dd) H'
/-- what stands behind the looks that are good, and at which index it is refused -/
def BadTail (K : PySem.W.Frag) (H : Hp) (d : Nat) (pre : List (List Int)) (rest : List V) (j : Nat) : Prop :=
  (rest = [] ∧ pre = [] ∧ j = 0) ∨ (rest = [] ∧ 4 < pre.length ∧ j = 4) ∨ ∃ x tl o, rest = x :: tl ∧ OD K H x o ∧ (lkO o d = false ∨ ∃ c ∈ pre, o = some (c.map V.int)) ∧ j = pre.length
def spLooks (K : PySem.W.Frag) (C : Addr) : Sp := fun vs H Q E => ∃ (a : Addr) (wp rest : List V) (pre : List (List Int)) (d : Nat), vs = [.ref a, .int d] ∧ SqA K H a (wp ++ rest) ∧ HdsAt K H pre wp ∧ pre.length ≤ 40 ∧ pre.Nodup ∧ (∀ c ∈ pre, LkOk d c) ∧ 1 ≤ d ∧ d ≤ 3 ∧
  ((rest = [] ∧ 1 ≤ pre.length ∧ pre.length ≤ 4 ∧ ∀ H' t, Same H H' → SqT K H' t wp → Q (.ref t) H') ∨ ∃ j, BadTail K H d pre rest j ∧ IlK C j H E)
theorem od_look {K : PySem.W.Frag} {H : Hp} {a : Addr} {c : List Int} (h : SqT K H a (c.map V.int)) (l : c.length ≤ 12) : OD K H (.ref a) (some (c.map V.int)) :=
  ⟨a, rfl, h, by rw [List.length_map]; exact l, fun x hx => by
    obtain ⟨z, _, rfl⟩ := List.mem_map.mp hx
    exact .inl rfl⟩
/-- the looks that the set holds -/
structure SeenAt (P : Program) (w : World) (K : PySem.W.Frag) (G : Hp) (sd : Addr) (pre : List (List Int)) (i : Nat) : Prop where
  ex : ∃ L, G sd = some (SetTO P w sd L) ∧ (∀ p ∈ L, SqT K G p.1 (p.2.map V.int)) ∧ (∀ c, c ∈ L.map (·.2) ↔ c ∈ pre.take i) ∧ L.length ≤ i
theorem sqT_set {P : Program} {w : World} {K : PySem.W.Frag} {H : Hp} {sd a : Addr} {L L2 : List (Addr × List Int)} {xs : List V} (hs : H sd = some (SetTO P w sd L)) (h : SqT K H a xs) : SqT K (upd H sd (SetTO P w sd L2)) a xs := by
  have no : ∀ o : HO, (∀ f, o ≠ HO.ext f) → H a = some o → a ≠ sd := fun o ho e z => by
    rw [z, hs] at e
    exact ho _ (Option.some.inj e).symm
  rcases h with (h | ⟨o, h⟩) | h
  · exact .inl (.inl ((upd_ne (no _ (fun _ z => by cases z) h)).trans h))
  · exact .inl (.inr ⟨o, (upd_ne (no _ (fun _ z => by cases z) h)).trans h⟩)
  · exact .inr h
abbrev clN : List Str := ["looks", "directions", "seen", "index", "look"]
section
variable {P : Program} {w : World} {K : PySem.W.Frag} {mg : Str → Option Value} {base : Heap}
theorem ok_looks {f fL C D fS fE : Addr} {fd fdL fdE : FuncData} {k : Nat} (F : Fun K "checked_looks" "checked_looks" sChkLooks f fd) (ms : mg "isinstance" = none) (ml : mg "len" = none) (mt : mg "tuple" = none) (mli : mg "list" = none) (mst : mg "set" = none) (me : mg "enumerate" = none) {t4 : Tok} (mM : mg "MAX_LOOKS" = some (.int 4 t4))
    (R : RaiseC K mg "InvalidLooks" C D fS fE) (GE : FnOk P w K mg base CX0 (k + 2) fE fdE ["self", "index"] (spE1 K C "InvalidLooks" "index")) (bE : Binds K fdE ["self", "index"] [])
    (GL : FnOk P w K mg base CX0 (k + 3) fL fdL ["value", "directions"] (spIsLook K)) (kL : PySem.W.keepIn K (.ref fL) = true) (bL : Binds K fdL ["value", "directions"] []) (gL : mg "is_look" = some (.ref fL)) :
    FnOk P w K mg base (L2.CX P w) (k + 4) f fd ["looks", "directions"] (spLooks K C) := by
  refine F.okX scChkLooks (fun vs H Q E h => ?_) (fun cdv A outer s H vs Q E hr h => ?_)
  · obtain ⟨a, wp, rest, pre, d, rfl, _⟩ := h
    rfl
  · obtain ⟨a, wp, rest, pre, d, rfl, hA, hP, p40, nd, pok, d1, d3, out⟩ := h
    have hu : (cxOf (L2.CX P w) P w K mg base clN "checked_looks" (defScope sChkLooks) f cdv A outer s H E).A.units + 64 < cLine := hr.units
    have hrE : Room (k + 2 + 1) _ := hr.mono (by omega)
    have lw := hds_len hP
    rcases hA with hA | hA
    ·
      refine ⟨_, pss_cons (ps_if (pt_not (pt_val (pe_callB call_isiT (by rfl) ms (by decide +kernel) (pa_cons (pv 0) (pa_cons (pe_tup (pa_cons (pe_bltn (v := .ty "list") (by rfl) mli (by decide +kernel) rfl) (pa_cons (pe_bltn (v := .ty "tuple") (by rfl) mt (by decide +kernel) rfl) pa_nil))) pa_nil))))) pss_never pss_nil)
      (pss_cons (ps_set (i := 2) scChkLooks.nd rfl (.inl rfl) (pe_callTy0 cr_tnew (by rfl) mst (by decide +kernel)))
      (pss_cons (ps_for (passes_of rfl) rfl (pi_enum (by rfl) me (pa_cons (pv 0) pa_nil)) (pg_tup rfl (pgs_cons (pg_name (i := 3) scChkLooks.nd rfl (.inl rfl)) (pgs_cons (pg_name (i := 4) scChkLooks.nd rfl (.inl rfl)) pgs_nil)))
        (pss_cons (ps_if (PW.pt (pw_or (pt_not (pt_val (pe_call GL hr (by rfl) gL kL bL .nil pass0 (pa_cons (pv 4) (pa_cons (pv 1) pa_nil))))) (pw_or1 (pt_cmpR (or_tin hu) (pv 4) (pv 2) (by rfl))))) (pss_one (ps_raise rfl (takes_of rfl rfl rfl rfl) (pmk_oex R.er.ox R.iC R.tI GE hrE bE .nil pass0 (by rfl) R.at_ (pa_cons (pv 3) pa_nil)))) pss_nil)
        (pss_one (ps_expr (pe_tadd hu (pv 2) (pa_cons (pv 4) pa_nil))))))
      (pss_cons (ps_if (pt_cmpR op_gt (pe_callB call_len_seq (by rfl) ml PySem.boot_len (pa_cons (pv 0) pa_nil)) (pe_glob (v := .int 4) (by rfl) mM ⟨_, rfl⟩) (nomark _)) (pss_one (ps_raise rfl (takes_of rfl rfl rfl rfl) (pmk_oex R.er.ox R.iC R.tI GE hrE bE .nil pass0 (by rfl) R.at_ (pa_cons (pe_glob (v := .int 4) (by rfl) mM ⟨_, rfl⟩) pa_nil)))) pss_nil)
      (pss_cons (ps_if (pt_cmpR op_eq (pe_callB call_len_seq (by rfl) ml PySem.boot_len (pa_cons (pv 0) pa_nil)) pe_int (nomark _)) (pss_one (ps_raise rfl (takes_of rfl rfl rfl rfl) (pmk_oex R.er.ox R.iC R.tI GE hrE bE .nil pass0 (by rfl) R.at_ (pa_cons pe_int pa_nil)))) pss_nil)
      (pss_one (ps_ret (pe_callTy call_tuple_of (by rfl) mt (by decide +kernel) (pa_cons (pv 0) pa_nil)))))))), ?_⟩
      refine ⟨_, rfl, (by show 2 ≤ sizeLine; decide), fun tp ntp => ⟨_, tp, _, _, _, true, rfl, upd_same, .cons (.ty _) (.cons (.ty _) .nil), tyL (Same.seq (same_new ntp) hA), kitAny_cons (b := true) (kit_ty (by decide +kernel)) (fun z => by cases z) (fun _ => rfl), true, rfl, iteF ?_⟩⟩
      have s1 : Same H (upd H tp (.tup [.ty "list", .ty "tuple"])) := same_new ntp
      refine ⟨rfl, fun sd nsd => ?_⟩
      have s2 : Same H (upd (upd H tp (.tup [.ty "list", .ty "tuple"])) sd (SetTO P w sd [])) := s1.trans (same_new nsd)
      have hsd : H sd = none := by
        cases e : H sd with
        | none => rfl
        | some u =>
          rw [s1 sd u e] at nsd
          cases nsd
      refine ⟨_, rfl, a, wp ++ rest, rfl, Same.seq s2 hA, ?_⟩
      refine for_it walk_enum (fun i σ G => i ≤ pre.length ∧ (∃ u v, σ = [some (.ref a), some (.int d), some (.ref sd), u, v]) ∧ Same H G ∧ SeenAt P w K G sd pre i) ⟨Nat.zero_le _, ⟨_, _, rfl⟩, s2, ⟨[], upd_same, fun p hp => (by cases hp), fun c => (by simp), Nat.le_refl _⟩⟩ (fun i σ G _ h => Same.seq h.2.2.1 hA) ?_ ?_
      · rintro i x σ G G' hi ⟨hip, ⟨u0, v0, rfl⟩, sm, SA⟩ ⟨T, x1, x2, rfl, nT, rfl, e1, e2⟩
        have e1 : x1 = .int (i : Nat) := (Option.some.inj e1).symm
        subst e1
        have sT : Same G (upd G T (.tup [.int (i : Nat), x2])) := same_new nT
        have smT := sm.trans sT
        obtain ⟨L, hL, hLt, hLm, hLl⟩ := SA.ex
        have hLt' : ∀ p ∈ L, SqT K (upd G T (.tup [.int (i : Nat), x2])) p.1 (p.2.map V.int) := fun p hp => Same.sqT sT (hLt p hp)
        have hL' : upd G T (.tup [.int (i : Nat), x2]) sd = some (SetTO P w sd L) := sT _ _ hL
        refine ⟨T, _, rfl, SqT.of upd_same, rfl, _, _, rfl, _, _, rfl, rfl, ?_⟩
        have e2' : (wp ++ rest)[i]? = some x2 := e2
        clear e2
        by_cases hlt : i < pre.length
        · have ew : wp[i]? = some x2 := by
            rw [← e2', List.getElem?_append_left (by omega)]
          obtain ⟨q, c, rfl, ec, hq⟩ := hds_at hP ew
          have okc := pok c (List.mem_of_getElem? ec)
          have hq' := Same.sqT smT hq
          refine ⟨_, rfl, _, rfl, .ref q, some (c.map V.int), d, rfl, od_look hq' (by have := okc.len; omega), d1, fun H1 s3 => ?_⟩
          rw [lkO_ok okc]
          have nin : c ∉ pre.take i := fun hm => by
            obtain ⟨j, hj⟩ := List.getElem?_of_mem hm
            have jl : j < i := by
              have := (List.getElem?_eq_some_iff.mp hj).1
              rw [List.length_take] at this
              omega
            rw [List.getElem?_take_of_lt jl] at hj
            exact absurd ((List.getElem?_inj (by omega) nd).mp (hj.trans ec.symm)) (by omega)
          refine ⟨true, rfl, iteF ⟨_, rfl, _, rfl, q, sd, c, L, rfl, rfl, Same.sqT s3 hq', s3 _ _ hL', fun p hp => Same.sqT s3 (hLt' p hp), false, ?_, iteF ?_⟩⟩
          · exact congrArg V.bl (decide_eq_false fun z => nin ((hLm c).mp z))
          · refine ⟨_, rfl, ⟨sd, L, rfl, s3 _ _ hL'⟩, _, rfl, sd, q, c, L, rfl, rfl, Same.sqT s3 hq', s3 _ _ hL', fun p hp => Same.sqT s3 (hLt' p hp), by omega, fun L2 z1 z2 => ?_⟩
            have pm := z2 fun z => nin ((hLm c).mp z)
            have sK : Same H (upd H1 sd (SetTO P w sd L2)) := fun b u e => by
              rw [upd_ne (ne_of_none e hsd)]
              exact s3 b u (smT b u e)
            refine ⟨hlt, ⟨_, _, rfl⟩, sK, ⟨L2, upd_same, fun p hp => ?_, fun c2 => ?_, ?_⟩⟩
            · rcases List.mem_cons.mp (pm.mem_iff.mp hp) with z | z
              · rw [z]
                exact sqT_set (s3 _ _ hL') (Same.sqT s3 hq')
              · exact sqT_set (s3 _ _ hL') (Same.sqT s3 (hLt' p z))
            · rw [(pm.map _).mem_iff, List.map_cons, List.mem_cons, hLm, List.take_add_one, ec, List.mem_append, Or.comm]
              simp
            · rw [pm.length_eq, List.length_cons]
              omega
        · have ei : i = pre.length := by omega
          subst ei
          rcases out with ⟨rfl, _⟩ | ⟨j, bad, il⟩
          · rw [List.append_nil] at hi
            omega
          · rcases bad with ⟨rfl, _⟩ | ⟨rfl, _⟩ | ⟨x, tl, o, rfl, hO, hbad, rfl⟩
            · rw [List.append_nil] at hi
              omega
            · rw [List.append_nil] at hi
              omega
            · have ex : x2 = x := by
                rw [List.getElem?_append_right (by omega), lw, Nat.sub_self] at e2'
                exact (Option.some.inj e2').symm
              subst ex
              refine ⟨_, rfl, _, rfl, x2, o, d, rfl, hO.mono (Same.tups smT), d1, fun H1 s3 => ?_⟩
              rcases hbad with hf | ⟨c, hc, rfl⟩
              · rw [hf]
                refine ⟨false, rfl, iteT ⟨_, rfl, (by show 1 ≤ 1000; decide), fun a' na => ⟨a', _, rfl, upd_same, fun dx nd' ne => ⟨rfl, dx, _, ?_, upd_same, ?_, ?_⟩⟩⟩⟩
                · rw [upd_ne (Ne.symm ne), upd_same]
                · rw [← nd', upd_ne ne]
                · have nd2 : H1 dx = none := by rw [← nd', upd_ne ne]
                  exact il dx _ (fun b u e => made_ext (C := C) na nd2 b u (s3 b u (smT b u e))) upd_same
              · rw [lkO_ok (pok c hc)]
                obtain ⟨q, rfl, hq, _⟩ := hO
                refine ⟨true, rfl, iteF ⟨_, rfl, _, rfl, q, sd, c, L, rfl, rfl, Same.sqT s3 (Same.sqT smT hq), s3 _ _ hL', fun p hp => Same.sqT s3 (hLt' p hp), true, ?_, iteT ?_⟩⟩
                · exact congrArg V.bl (decide_eq_true ((hLm c).mpr (by rw [List.take_length]; exact hc)))
                · refine ⟨_, rfl, (by show 1 ≤ 1000; decide), fun a' na => ⟨a', _, rfl, upd_same, fun dx nd' ne => ⟨rfl, dx, _, ?_, upd_same, ?_, ?_⟩⟩⟩
                  · rw [upd_ne (Ne.symm ne), upd_same]
                  · rw [← nd', upd_ne ne]
                  · have nd2 : H1 dx = none := by rw [← nd', upd_ne ne]
                    exact il dx _ (fun b u e => made_ext (C := C) na nd2 b u (s3 b u (smT b u e))) upd_same
      · rintro σ G ⟨hip, ⟨u0, v0, rfl⟩, sm, SA⟩
        have hr0 : rest = [] := by
          cases rest with
          | nil => rfl
          | cons x tl =>
            rw [List.length_append, List.length_cons] at hip
            omega
        subst hr0
        rw [List.append_nil] at hA
        have hG : SqA K G a wp := SqA.mono sm (.inl hA)
        have raise_ : ∀ (v : V), IlK C 0 H E ∧ v = .int 0 ∨ IlK C 4 H E ∧ v = .int 4 → ∀ (a' : Addr), G a' = none → ∀ (dx : Addr) (o1 o2 o3 o4 : HO), G dx = none → E (.ref C) (some dx) (upd (del (upd (upd (upd (upd G a' o1) dx o2) a' o3) dx o4) a') dx (.xd (xflds "index" v "InvalidLooks"))) := fun v hv a' na dx o1 o2 o3 o4 nd2 => by
          rcases hv with ⟨il, rfl⟩ | ⟨il, rfl⟩
          · exact il dx _ (fun b u e => made_ext (C := C) na nd2 b u (sm b u e)) upd_same
          · exact il dx _ (fun b u e => made_ext (C := C) na nd2 b u (sm b u e)) upd_same
        rcases out with ⟨_, l1, l4, q⟩ | ⟨j, bad, il⟩
        · refine ⟨_, rfl, a, _, rfl, hG, _, _, rfl, rfl, false, congrArg V.bl (decide_eq_false (by omega)), iteF ?_⟩
          refine ⟨_, rfl, a, _, rfl, hG, rfl, false, congrArg V.bl (decide_eq_false fun z => by have := V.int.inj z; omega), iteF ?_⟩
          exact ⟨_, rfl, a, wp, rfl, .inl ⟨Same.seq sm hA, fun l nl => q _ l (sm.trans (same_new nl)) (SqT.of upd_same)⟩⟩
        · rcases bad with ⟨_, rfl, rfl⟩ | ⟨_, l4, rfl⟩ | ⟨x, tl, o, z, _⟩
          · refine ⟨_, rfl, a, _, rfl, hG, _, _, rfl, rfl, false, congrArg V.bl (decide_eq_false (by rw [lw]; decide)), iteF ?_⟩
            refine ⟨_, rfl, a, _, rfl, hG, rfl, true, congrArg V.bl (decide_eq_true (by rw [lw]; rfl)), iteT ⟨(by show 1 ≤ 1000; decide), fun a' na => ⟨a', _, rfl, upd_same, fun dx nd' ne => ⟨rfl, dx, _, ?_, upd_same, ?_, ?_⟩⟩⟩⟩
            · rw [upd_ne (Ne.symm ne), upd_same]
            · rw [← nd', upd_ne ne]
            · exact raise_ _ (.inl ⟨il, rfl⟩) a' na dx _ _ _ _ (by rw [← nd', upd_ne ne])
          · refine ⟨_, rfl, a, _, rfl, hG, _, _, rfl, rfl, true, congrArg V.bl (decide_eq_true (by omega)), iteT ⟨(by show 1 ≤ 1000; decide), fun a' na => ⟨a', _, rfl, upd_same, fun dx nd' ne => ⟨rfl, dx, _, ?_, upd_same, ?_, ?_⟩⟩⟩⟩
            · rw [upd_ne (Ne.symm ne), upd_same]
            · rw [← nd', upd_ne ne]
            · exact raise_ _ (.inr ⟨il, rfl⟩) a' na dx _ _ _ _ (by rw [← nd', upd_ne ne])
          · cases z
    ·
      refine ⟨_, pss_cons (ps_if (pt_not (pt_val (pe_callB call_isiT (by rfl) ms (by decide +kernel) (pa_cons (pv 0) (pa_cons (pe_tup (pa_cons (pe_bltn (v := .ty "list") (by rfl) mli (by decide +kernel) rfl) (pa_cons (pe_bltn (v := .ty "tuple") (by rfl) mt (by decide +kernel) rfl) pa_nil))) pa_nil))))) pss_never pss_nil)
      (pss_cons (ps_set (i := 2) scChkLooks.nd rfl (.inl rfl) (pe_callTy0 cr_tnew (by rfl) mst (by decide +kernel)))
      (pss_cons (ps_for (passes_of rfl) rfl (LeE.pi_enumT (by rfl) me (pa_cons (pv 0) pa_nil)) (pg_tup rfl (pgs_cons (pg_name (i := 3) scChkLooks.nd rfl (.inl rfl)) (pgs_cons (pg_name (i := 4) scChkLooks.nd rfl (.inl rfl)) pgs_nil)))
        (pss_cons (ps_if (PW.pt (pw_or (pt_not (pt_val (pe_call GL hr (by rfl) gL kL bL .nil pass0 (pa_cons (pv 4) (pa_cons (pv 1) pa_nil))))) (pw_or1 (pt_cmpR (or_tin hu) (pv 4) (pv 2) (by rfl))))) (pss_one (ps_raise rfl (takes_of rfl rfl rfl rfl) (pmk_oex R.er.ox R.iC R.tI GE hrE bE .nil pass0 (by rfl) R.at_ (pa_cons (pv 3) pa_nil)))) pss_nil)
        (pss_one (ps_expr (pe_tadd hu (pv 2) (pa_cons (pv 4) pa_nil))))))
      (pss_cons (ps_if (pt_cmpR op_gt (pe_callB call_len_seq (by rfl) ml PySem.boot_len (pa_cons (pv 0) pa_nil)) (pe_glob (v := .int 4) (by rfl) mM ⟨_, rfl⟩) (nomark _)) (pss_one (ps_raise rfl (takes_of rfl rfl rfl rfl) (pmk_oex R.er.ox R.iC R.tI GE hrE bE .nil pass0 (by rfl) R.at_ (pa_cons (pe_glob (v := .int 4) (by rfl) mM ⟨_, rfl⟩) pa_nil)))) pss_nil)
      (pss_cons (ps_if (pt_cmpR op_eq (pe_callB call_len_seq (by rfl) ml PySem.boot_len (pa_cons (pv 0) pa_nil)) pe_int (nomark _)) (pss_one (ps_raise rfl (takes_of rfl rfl rfl rfl) (pmk_oex R.er.ox R.iC R.tI GE hrE bE .nil pass0 (by rfl) R.at_ (pa_cons pe_int pa_nil)))) pss_nil)
      (pss_one (ps_ret (pe_callTy call_tuple_of (by rfl) mt (by decide +kernel) (pa_cons (pv 0) pa_nil)))))))), ?_⟩
      refine ⟨_, rfl, (by show 2 ≤ sizeLine; decide), fun tp ntp => ⟨_, tp, _, _, _, true, rfl, upd_same, .cons (.ty _) (.cons (.ty _) .nil), tyT (Same.sqT (same_new ntp) hA), kitAny_cons (b := false) (kit_ty (by decide +kernel)) (fun _ => kitAny_cons (b := true) (kit_ty (by decide +kernel)) (fun z => by cases z) (fun _ => rfl)) (fun z => by cases z), true, rfl, iteF ?_⟩⟩
      have s1 : Same H (upd H tp (.tup [.ty "list", .ty "tuple"])) := same_new ntp
      refine ⟨rfl, fun sd nsd => ?_⟩
      have s2 : Same H (upd (upd H tp (.tup [.ty "list", .ty "tuple"])) sd (SetTO P w sd [])) := s1.trans (same_new nsd)
      have hsd : H sd = none := by
        cases e : H sd with
        | none => rfl
        | some u =>
          rw [s1 sd u e] at nsd
          cases nsd
      refine ⟨_, rfl, a, wp ++ rest, rfl, Same.sqT s2 hA, ?_⟩
      refine for_it LeE.walk_enumT (fun i σ G => i ≤ pre.length ∧ (∃ u v, σ = [some (.ref a), some (.int d), some (.ref sd), u, v]) ∧ Same H G ∧ SeenAt P w K G sd pre i) ⟨Nat.zero_le _, ⟨_, _, rfl⟩, s2, ⟨[], upd_same, fun p hp => (by cases hp), fun c => (by simp), Nat.le_refl _⟩⟩ (fun i σ G _ h => Same.sqT h.2.2.1 hA) ?_ ?_
      · rintro i x σ G G' hi ⟨hip, ⟨u0, v0, rfl⟩, sm, SA⟩ ⟨T, x1, x2, rfl, nT, rfl, e1, e2⟩
        have e1 : x1 = .int (i : Nat) := (Option.some.inj e1).symm
        subst e1
        have sT : Same G (upd G T (.tup [.int (i : Nat), x2])) := same_new nT
        have smT := sm.trans sT
        obtain ⟨L, hL, hLt, hLm, hLl⟩ := SA.ex
        have hLt' : ∀ p ∈ L, SqT K (upd G T (.tup [.int (i : Nat), x2])) p.1 (p.2.map V.int) := fun p hp => Same.sqT sT (hLt p hp)
        have hL' : upd G T (.tup [.int (i : Nat), x2]) sd = some (SetTO P w sd L) := sT _ _ hL
        refine ⟨T, _, rfl, SqT.of upd_same, rfl, _, _, rfl, _, _, rfl, rfl, ?_⟩
        have e2' : (wp ++ rest)[i]? = some x2 := e2
        clear e2
        by_cases hlt : i < pre.length
        · have ew : wp[i]? = some x2 := by
            rw [← e2', List.getElem?_append_left (by omega)]
          obtain ⟨q, c, rfl, ec, hq⟩ := hds_at hP ew
          have okc := pok c (List.mem_of_getElem? ec)
          have hq' := Same.sqT smT hq
          refine ⟨_, rfl, _, rfl, .ref q, some (c.map V.int), d, rfl, od_look hq' (by have := okc.len; omega), d1, fun H1 s3 => ?_⟩
          rw [lkO_ok okc]
          have nin : c ∉ pre.take i := fun hm => by
            obtain ⟨j, hj⟩ := List.getElem?_of_mem hm
            have jl : j < i := by
              have := (List.getElem?_eq_some_iff.mp hj).1
              rw [List.length_take] at this
              omega
            rw [List.getElem?_take_of_lt jl] at hj
            exact absurd ((List.getElem?_inj (by omega) nd).mp (hj.trans ec.symm)) (by omega)
          refine ⟨true, rfl, iteF ⟨_, rfl, _, rfl, q, sd, c, L, rfl, rfl, Same.sqT s3 hq', s3 _ _ hL', fun p hp => Same.sqT s3 (hLt' p hp), false, ?_, iteF ?_⟩⟩
          · exact congrArg V.bl (decide_eq_false fun z => nin ((hLm c).mp z))
          · refine ⟨_, rfl, ⟨sd, L, rfl, s3 _ _ hL'⟩, _, rfl, sd, q, c, L, rfl, rfl, Same.sqT s3 hq', s3 _ _ hL', fun p hp => Same.sqT s3 (hLt' p hp), by omega, fun L2 z1 z2 => ?_⟩
            have pm := z2 fun z => nin ((hLm c).mp z)
            have sK : Same H (upd H1 sd (SetTO P w sd L2)) := fun b u e => by
              rw [upd_ne (ne_of_none e hsd)]
              exact s3 b u (smT b u e)
            refine ⟨hlt, ⟨_, _, rfl⟩, sK, ⟨L2, upd_same, fun p hp => ?_, fun c2 => ?_, ?_⟩⟩
            · rcases List.mem_cons.mp (pm.mem_iff.mp hp) with z | z
              · rw [z]
                exact sqT_set (s3 _ _ hL') (Same.sqT s3 hq')
              · exact sqT_set (s3 _ _ hL') (Same.sqT s3 (hLt' p z))
            · rw [(pm.map _).mem_iff, List.map_cons, List.mem_cons, hLm, List.take_add_one, ec, List.mem_append, Or.comm]
              simp
            · rw [pm.length_eq, List.length_cons]
              omega
        · have ei : i = pre.length := by omega
          subst ei
          rcases out with ⟨rfl, _⟩ | ⟨j, bad, il⟩
          · rw [List.append_nil] at hi
            omega
          · rcases bad with ⟨rfl, _⟩ | ⟨rfl, _⟩ | ⟨x, tl, o, rfl, hO, hbad, rfl⟩
            · rw [List.append_nil] at hi
              omega
            · rw [List.append_nil] at hi
              omega
            · have ex : x2 = x := by
                rw [List.getElem?_append_right (by omega), lw, Nat.sub_self] at e2'
                exact (Option.some.inj e2').symm
              subst ex
              refine ⟨_, rfl, _, rfl, x2, o, d, rfl, hO.mono (Same.tups smT), d1, fun H1 s3 => ?_⟩
              rcases hbad with hf | ⟨c, hc, rfl⟩
              · rw [hf]
                refine ⟨false, rfl, iteT ⟨_, rfl, (by show 1 ≤ 1000; decide), fun a' na => ⟨a', _, rfl, upd_same, fun dx nd' ne => ⟨rfl, dx, _, ?_, upd_same, ?_, ?_⟩⟩⟩⟩
                · rw [upd_ne (Ne.symm ne), upd_same]
                · rw [← nd', upd_ne ne]
                · have nd2 : H1 dx = none := by rw [← nd', upd_ne ne]
                  exact il dx _ (fun b u e => made_ext (C := C) na nd2 b u (s3 b u (smT b u e))) upd_same
              · rw [lkO_ok (pok c hc)]
                obtain ⟨q, rfl, hq, _⟩ := hO
                refine ⟨true, rfl, iteF ⟨_, rfl, _, rfl, q, sd, c, L, rfl, rfl, Same.sqT s3 (Same.sqT smT hq), s3 _ _ hL', fun p hp => Same.sqT s3 (hLt' p hp), true, ?_, iteT ?_⟩⟩
                · exact congrArg V.bl (decide_eq_true ((hLm c).mpr (by rw [List.take_length]; exact hc)))
                · refine ⟨_, rfl, (by show 1 ≤ 1000; decide), fun a' na => ⟨a', _, rfl, upd_same, fun dx nd' ne => ⟨rfl, dx, _, ?_, upd_same, ?_, ?_⟩⟩⟩
                  · rw [upd_ne (Ne.symm ne), upd_same]
                  · rw [← nd', upd_ne ne]
                  · have nd2 : H1 dx = none := by rw [← nd', upd_ne ne]
                    exact il dx _ (fun b u e => made_ext (C := C) na nd2 b u (s3 b u (smT b u e))) upd_same
      · rintro σ G ⟨hip, ⟨u0, v0, rfl⟩, sm, SA⟩
        have hr0 : rest = [] := by
          cases rest with
          | nil => rfl
          | cons x tl =>
            rw [List.length_append, List.length_cons] at hip
            omega
        subst hr0
        rw [List.append_nil] at hA
        have hG : SqA K G a wp := SqA.mono sm (.inr hA)
        have raise_ : ∀ (v : V), IlK C 0 H E ∧ v = .int 0 ∨ IlK C 4 H E ∧ v = .int 4 → ∀ (a' : Addr), G a' = none → ∀ (dx : Addr) (o1 o2 o3 o4 : HO), G dx = none → E (.ref C) (some dx) (upd (del (upd (upd (upd (upd G a' o1) dx o2) a' o3) dx o4) a') dx (.xd (xflds "index" v "InvalidLooks"))) := fun v hv a' na dx o1 o2 o3 o4 nd2 => by
          rcases hv with ⟨il, rfl⟩ | ⟨il, rfl⟩
          · exact il dx _ (fun b u e => made_ext (C := C) na nd2 b u (sm b u e)) upd_same
          · exact il dx _ (fun b u e => made_ext (C := C) na nd2 b u (sm b u e)) upd_same
        rcases out with ⟨_, l1, l4, q⟩ | ⟨j, bad, il⟩
        · refine ⟨_, rfl, a, _, rfl, hG, _, _, rfl, rfl, false, congrArg V.bl (decide_eq_false (by omega)), iteF ?_⟩
          refine ⟨_, rfl, a, _, rfl, hG, rfl, false, congrArg V.bl (decide_eq_false fun z => by have := V.int.inj z; omega), iteF ?_⟩
          exact ⟨_, rfl, a, wp, rfl, .inr ⟨Same.sqT sm hA, q _ a sm (Same.sqT sm hA)⟩⟩
        · rcases bad with ⟨_, rfl, rfl⟩ | ⟨_, l4, rfl⟩ | ⟨x, tl, o, z, _⟩
          · refine ⟨_, rfl, a, _, rfl, hG, _, _, rfl, rfl, false, congrArg V.bl (decide_eq_false (by rw [lw]; decide)), iteF ?_⟩
            refine ⟨_, rfl, a, _, rfl, hG, rfl, true, congrArg V.bl (decide_eq_true (by rw [lw]; rfl)), iteT ⟨(by show 1 ≤ 1000; decide), fun a' na => ⟨a', _, rfl, upd_same, fun dx nd' ne => ⟨rfl, dx, _, ?_, upd_same, ?_, ?_⟩⟩⟩⟩
            · rw [upd_ne (Ne.symm ne), upd_same]
            · rw [← nd', upd_ne ne]
            · exact raise_ _ (.inl ⟨il, rfl⟩) a' na dx _ _ _ _ (by rw [← nd', upd_ne ne])
          · refine ⟨_, rfl, a, _, rfl, hG, _, _, rfl, rfl, true, congrArg V.bl (decide_eq_true (by omega)), iteT ⟨(by show 1 ≤ 1000; decide), fun a' na => ⟨a', _, rfl, upd_same, fun dx nd' ne => ⟨rfl, dx, _, ?_, upd_same, ?_, ?_⟩⟩⟩⟩
            · rw [upd_ne (Ne.symm ne), upd_same]
            · rw [← nd', upd_ne ne]
            · exact raise_ _ (.inr ⟨il, rfl⟩) a' na dx _ _ _ _ (by rw [← nd', upd_ne ne])
          · cases z
end
end Lk

namespace Lk
open PySem L2 Lx LamX LrA LqA TsX
/-! ### words and their errors -/
/-- a word of this length -/
def wdB (n : Nat) (l : List Nat) : Bool := decide (l.length = n) && l.all fun c => c == 102 || c == 117
def txV (l : List Nat) : V := .str (SX.S l)
theorem S_get {l : List Nat} {i c : Nat} (h : (SX.S l).cps[i]? = some c) : l[i]? = some c := by simpa using h
theorem S_one (c : Nat) : (⟨#[c]⟩ : Str) = SX.S [c] := rfl
theorem fu_in (c : Nat) : inV (.str ⟨#[c]⟩) [.str (SX.S [102]), .str (SX.S [117])] = (c == 102 || c == 117) := by
  show ((SX.S [102] == SX.S [c]) || ((SX.S [117] == SX.S [c]) || false)) = _
  rw [SX.S_beq_eq, SX.S_beq_eq, Bool.or_false]
  have e : ∀ a : Nat, decide ([a] = [c]) = (c == a) := fun a => by
    rw [Bool.eq_iff_iff]
    simp
    exact ⟨fun h => h.symm, fun h => h.symm⟩
  rw [e, e]
def spIsWord : Sp := fun vs H Q _ => ∃ (l : List Nat) (n : Nat), vs = [txV l, .int n] ∧ l.length ≤ 40 ∧ ∀ H', Same H H' → Q (.bl (wdB n l)) H'
theorem kIW : KScope ["self", "index"] (defScope sIW) := ⟨rfl, rfl, rfl, by decide +kernel, by decide +kernel, by decide +kernel, by decide +kernel⟩
section
variable {P : Program} {w : World} {K : PySem.W.Frag} {mg : Str → Option Value} {base : Heap}
theorem ok_isword {f : Addr} {fd : FuncData} {k : Nat} (F : Fun K "is_word" "is_word" sIsWord f fd) (ms : mg "isinstance" = none) (mst : mg "str" = none) (ml : mg "len" = none) (ma : mg "all" = none) :
    FnOk P w K mg base CX0 (k + 1) f fd ["value", "length"] spIsWord := by
  refine F.ok scIsWord (fun vs H Q E h => ?_) (fun cdv A outer s H vs Q E hr h => ?_)
  · obtain ⟨l, n, rfl, _⟩ := h
    rfl
  · obtain ⟨l, n, rfl, l40, q⟩ := h
    refine ⟨_, (pss_cons (ps_if (PW.pt (pw_or (pt_not (pt_val (pe_callB call_isi (by rfl) ms (by decide +kernel) (pa_cons (pv 0) (pa_cons (pe_bltn (v := .ty "str") (by rfl) mst (by decide +kernel) rfl) pa_nil))))) (pw_or1 (pt_cmpR op_ne (pe_callB call_len_str (by rfl) ml PySem.boot_len (pa_cons (pv 0) pa_nil)) (pv 1) (nomark _))))) (pss_one (ps_ret pe_bl)) pss_nil)
      (pss_one (ps_ret (pe_callB (cr_all rfl) (by rfl) ma (by decide +kernel) (pa_cons (pe_lc (own := [("letter", 2)]) (g := gName 2) (by rfl) scIsWord.nd (pi_str (pv 0)) (blkOk_by (own := [("letter", 2)]) (N := ["value", "length", "letter"]) (sc := defScope sIsWord) (by decide +kernel)) (fun _ _ _ _ _ => (pg_name (i := 2) scIsWord.nd rfl (.inl rfl))) (fun _ _ _ _ _ => pts_nil) (fun _ _ _ _ _ => (pe_cmpR (show OpR _ (compareOp .In) (rIn K false) from op_in_seq) (pv 2) (pe_tup (pa_cons pe_str (pa_cons pe_str pa_nil))) (by rfl)))) pa_nil))))), ?_⟩
    refine ⟨_, rfl, _, _, _, _, true, rfl, .ty _, .base (.str _), kit_ty (by decide +kernel), true, rfl, iteF ?_⟩
    refine ⟨_, rfl, _, rfl, by rw [SX.S_len]; exact Nat.le_trans l40 (by decide), _, rfl, rfl, _, rfl, ?_⟩
    rw [SX.S_len]
    refine ite2 (fun e => ?_) (fun e => ?_)
    · have hne : ¬ (l.length = n) := fun z => by
        rw [z] at e
        exact absurd e (by simp)
      have qq := q H (Same.refl _)
      have eb : wdB n l = false := by
        unfold wdB
        rw [decide_eq_false hne]
        rfl
      rw [eb] at qq
      exact qq
    have heq : l.length = n := by
      refine Decidable.byContradiction fun z => e ?_
      show (!decide (V.int (l.length : Int) = V.int (n : Int))) = true
      rw [decide_eq_false (fun y => z (by have := V.int.inj y; omega))]
      rfl
    refine ⟨_, rfl, _, rfl, fun D nD => ?_⟩
    refine lc_it (walk_str (z := SX.S l)) (fun i H2 => Same H H2 ∧ H2 D = some (.lst (((l.take i).map fun c => c == 102 || c == 117).map V.bl))) ⟨same_new nD, upd_same⟩ (fun i H2 _ _ => trivial) ?_ ?_
    · rintro i x H2 _ hi ⟨sm, hD⟩ ⟨rfl, c, hc, rfl⟩
      have hc := S_get hc
      refine ⟨rfl, ?_⟩
      refine ⟨_, rfl, (by show 2 ≤ sizeLine; decide), fun tp ntp => ⟨tp, _, rfl, .inr (SqT.of upd_same), rfl, rfl, ?_⟩⟩
      rw [show (if false = true then !inV (V.str ⟨#[c]⟩) [V.str "f", V.str "u"] else inV (V.str ⟨#[c]⟩) [V.str "f", V.str "u"]) = (c == 102 || c == 117) from fu_in c]
      have nDt : tp ≠ D := fun z => by
        rw [z, hD] at ntp
        cases ntp
      refine ⟨_, (upd_ne (Ne.symm nDt)).trans hD, ?_, ?_, ?_⟩
      · rw [List.length_map, List.length_map]
        exact small1000 (Nat.le_trans (List.length_take_le _ _) (by
          have := (List.getElem?_eq_some_iff.mp hc).1
          omega))
      · intro b o e
        rw [upd_ne (ne_of_none e nD)]
        exact (same_new ntp) b o (sm b o e)
      · rw [upd_same, take_more hc, List.map_append, List.map_append]
        rfl
    · rintro H2 ⟨sm, hD⟩
      have hD : H2 D = some (.lst (((l.take l.length).map fun c => c == 102 || c == 117).map V.bl)) := hD
      rw [List.take_length] at hD
      refine ⟨D, _, rfl, SqL.of hD, ?_⟩
      have eb : (l.map fun c => c == 102 || c == 117).all id = wdB n l := by
        unfold wdB
        rw [decide_eq_true heq, List.all_map]
        rfl
      rw [eb]
      exact q H2 sm
theorem ok_iw {C D f cc cda fS : Addr} {fd fdS : FuncData} {k : Nat} (F : InitF P K mg "InvalidWords.__init__" sIW C f cc cda fd) (T : ErrC K C D fS) (hno : PySem.W.findIn K (.ref C) "index" = some none)
    (GS : FnOk P w K mg base CX0 (k + 1) fS fdS ["self", "tag", "why"] (spSE K D)) (bS : Binds K fdS ["self", "tag", "why"] []) : FnOk P w K mg base CX0 (k + 2) f fd ["self", "index"] (spE1 K C "InvalidWords" "index") := by
  obtain ⟨oc, od, kV, doc, pm, an, ct, osl, rfl, lk⟩ := F.ex
  obtain ⟨cl, cld, csl, ll⟩ := F.ll
  refine fn_ofK (N := ["self", "index"]) lk F.cd ll kIW (fun vs H Q E h => ?_) (fun A outer s s1 H vs Q E hr h I => ?_)
  · obtain ⟨a, v, rfl, _⟩ := h
    rfl
  · obtain ⟨a, v, rfl, ea, q⟩ := h
    have S : SupF (cxK CX0 P w K mg base ["self", "index"] "InvalidWords.__init__" (defScope sIW) f (.ref cda) cc A outer s H E) f cc cda C :=
      ⟨rfl, rfl, rfl, rfl, rfl, rfl, rfl, ⟨_, _, _, _, _, lk, rfl, rfl⟩, F.lc, F.ll, F.lD, F.ms, F.tp, F.op⟩
    refine ks_wpAt_execs_cons ?_
    refine sup_initF (X := cxK CX0 P w K mg base ["self", "index"] "InvalidWords.__init__" (defScope sIW) f (.ref cda) cc A outer s H E) S I rfl ea T.s1 T.m1 T.tS T.fS GS hr bS pass0 (pa_cons pe_str (pa_cons pe_str pa_nil)) (R := fun H1 => ∃ dx, H dx = none ∧ dx ≠ a ∧ H1 = upd (upd H dx (exd dx [("tag", .str "InvalidWords")])) a (exo a C (some dx)))
      ⟨a, C, _, _, rfl, T.ox, ea, T.s2, T.m2, T.ve, T.nt, fun dx n ne => ⟨dx, n, ne, rfl⟩⟩ (fun H1 s2 I2 e => ?_) rfl rfl rfl _ rfl rfl
    obtain ⟨dx, n, ne, rfl⟩ := e
    refine wpAt_of_wpAny ((pss_one (ps_ost (X := cxK CX0 P w K mg base ["self", "index"] "InvalidWords.__init__" (defScope sIW) f (.ref cda) cc A outer s H E) (pv 0) (pv 1))).run [] s2 _ _ _ I2 ?_)
    refine ⟨_, rfl, _, rfl, a, C, rfl, T.ox, hno, .inr ⟨dx, _, upd_same, ?_, (by show 1 ≤ 900; decide), q dx n ne⟩⟩
    rw [upd_ne ne, upd_same]
end
end Lk

namespace Lk
open PySem L2 Lx LamX LrA LqA TsX
/-! ### the words of a table, checked -/
/-- at which index words are refused -/
def wIx (n m : Nat) (ls : List (List Nat)) : Option Nat := match (ls.take n).findIdx? (fun l => !wdB m l) with
  | some j => some j
  | none => if ls.length = n then none else some (min ls.length n)
theorem wIx_bad {n m i : Nat} {ls : List (List Nat)} {l : List Nat} (h : (ls.take n)[i]? = some l) (hb : wdB m l = false) (hg : ∀ j < i, ∀ l', (ls.take n)[j]? = some l' → wdB m l' = true) : wIx n m ls = some i := by
  obtain ⟨hi, e⟩ := List.getElem?_eq_some_iff.mp h
  have : (ls.take n).findIdx? (fun l => !wdB m l) = some i := List.findIdx?_eq_some_iff_getElem.mpr ⟨hi, by rw [e, hb]; rfl, fun j hj => by
    rw [hg j hj _ (List.getElem?_eq_getElem (by omega))]
    decide⟩
  unfold wIx
  rw [this]
theorem wIx_end {n m : Nat} {ls : List (List Nat)} (hg : ∀ (j : Nat) (l' : List Nat), (ls.take n)[j]? = some l' → wdB m l' = true) : wIx n m ls = if ls.length = n then none else some (min ls.length n) := by
  have : (ls.take n).findIdx? (fun l => !wdB m l) = none := List.findIdx?_eq_none_iff.mpr fun x hx => by
    obtain ⟨j, hj⟩ := List.getElem?_of_mem hx
    rw [hg j x hj]
    rfl
  unfold wIx
  rw [this]
theorem cut_n (xs : List V) (n : Nat) : cutV xs none (some (n : Int)) = xs.take n := by
  unfold cutV
  rw [HT.sIx_nat, HT.sIx_none, Nat.sub_zero, List.drop_zero]
  exact (List.take_eq_take_min).symm
theorem slL_take {K : PySem.W.Frag} {H : Hp} {a : Addr} {xs : List V} {n : Nat} {Q : VK} (h : SqL K H a xs) (k : ∀ c H', Same H H' → SqL K H' c (xs.take n) → Q (.ref c) H') : rSlL K (.ref a) none (some (n : Int)) H Q := by
  refine ⟨a, xs, rfl, h, fun c nc => ?_⟩
  rw [cut_n]
  exact k c _ (same_new nc) (SqL.of upd_same)
theorem slA_take {K : PySem.W.Frag} {H : Hp} {a : Addr} {xs : List V} {n : Nat} {Q : VK} (h : SqT K H a xs) (k : ∀ c H', Same H H' → SqT K H' c (xs.take n) → Q (.ref c) H') : rSlA K (.ref a) none (some (n : Int)) H Q := by
  refine ⟨a, xs, rfl, h, fun hw => ?_, fun _ c nc => ?_⟩
  · refine k a H (Same.refl _) ?_
    rw [HT.sIx_nat] at hw
    rw [List.take_of_length_le (by omega)]
    exact h
  · rw [cut_n]
    exact k c _ (same_new nc) (SqT.of upd_same)
def IwK (C : Addr) (j : Nat) (H : Hp) (E : XK) : Prop := ∀ (dd : Addr) (H' : Hp), Same H H' → H' dd = some (.xd (xflds "index" (.int j) "InvalidWords")) → E (.ref C) (some dd) H'
def spChkWords (K : PySem.W.Frag) (C : Addr) : Sp := fun vs H Q E => ∃ (a : Addr) (ls : List (List Nat)) (n m : Nat), vs = [.ref a, .int n, .int m] ∧ SqA K H a (ls.map txV) ∧ ls.length ≤ 60 ∧ (∀ l ∈ ls, l.length ≤ 40) ∧
  (wIx n m ls = none → ∀ H', Same H H' → Q .non H') ∧ ∀ j, wIx n m ls = some j → IwK C j H E
section
variable {P : Program} {w : World} {K : PySem.W.Frag} {mg : Str → Option Value} {base : Heap}
theorem ok_chkwords {f fW C D fS fE : Addr} {fd fdW fdE : FuncData} {k : Nat} (F : Fun K "check_words" "check_words" sChkWords f fd) (ml : mg "len" = none) (me : mg "enumerate" = none) (mm : mg "min" = none)
    (R : RaiseC K mg "InvalidWords" C D fS fE) (GE : FnOk P w K mg base CX0 (k + 2) fE fdE ["self", "index"] (spE1 K C "InvalidWords" "index")) (bE : Binds K fdE ["self", "index"] [])
    (GW : FnOk P w K mg base CX0 (k + 1) fW fdW ["value", "length"] spIsWord) (kW : PySem.W.keepIn K (.ref fW) = true) (bW : Binds K fdW ["value", "length"] []) (gW : mg "is_word" = some (.ref fW)) :
    FnOk P w K mg base (L2.CX P w) (k + 4) f fd ["words", "classes", "length"] (spChkWords K C) := by
  refine F.okX scChkWords (fun vs H Q E h => ?_) (fun cdv A outer s H vs Q E hr h => ?_)
  · obtain ⟨a, ls, n, m, rfl, _⟩ := h
    rfl
  · obtain ⟨a, ls, n, m, rfl, hA, l60, l40, q, qe⟩ := h
    have hrE : Room (k + 2 + 1) _ := hr.mono (by omega)
    have hr1 : Room (k + 1) _ := hr.mono (by omega)
    have ev : ∀ {i : Nat} {v : V}, (List.take n (ls.map txV))[i]? = some v → ∃ l, v = txV l ∧ (ls.take n)[i]? = some l ∧ l.length ≤ 40 := fun {i v} e => by
      rw [← List.map_take, List.getElem?_map] at e
      cases e2 : (ls.take n)[i]? with
      | none =>
        rw [e2] at e
        cases e
      | some l =>
        rw [e2] at e
        exact ⟨l, (Option.some.inj e).symm, rfl, l40 l (List.mem_of_mem_take (List.mem_of_getElem? e2))⟩
    rcases hA with hA | hA
    · refine ⟨_, (pss_cons (ps_for (passes_of rfl) rfl (pi_enum (by rfl) me (pa_cons (pe_slice sl_list (pv 0) po_none (po_some (pv 1))) pa_nil)) (pg_tup rfl (pgs_cons (pg_name (i := 3) scChkWords.nd rfl (.inl rfl)) (pgs_cons (pg_name (i := 4) scChkWords.nd rfl (.inl rfl)) pgs_nil))) (pss_one (ps_if (pt_not (pt_val (pe_call GW hr1 (by rfl) gW kW bW .nil pass0 (pa_cons (pv 4) (pa_cons (pv 2) pa_nil))))) (pss_one (ps_raise rfl (takes_of rfl rfl rfl rfl) (pmk_oex R.er.ox R.iC R.tI GE hrE bE .nil pass0 (by rfl) R.at_ (pa_cons (pv 3) pa_nil)))) pss_nil)))
      (pss_one (ps_if (pt_cmpR op_ne (pe_callB call_len_seq (by rfl) ml PySem.boot_len (pa_cons (pv 0) pa_nil)) (pv 1) (nomark _)) (pss_one (ps_raise rfl (takes_of rfl rfl rfl rfl) (pmk_oex R.er.ox R.iC R.tI GE hrE bE .nil pass0 (by rfl) R.at_ (pa_cons (pe_callB (call_min2 rfl) (by rfl) mm (by decide +kernel) (pa_cons (pe_callB call_len_seq (by rfl) ml PySem.boot_len (pa_cons (pv 0) pa_nil)) (pa_cons (pv 1) pa_nil))) pa_nil)))) pss_nil))), ?_⟩
      refine ⟨_, rfl, _, rfl, _, rfl, slL_take hA fun c H1 s1 hc => ⟨c, _, rfl, hc, ?_⟩⟩
      refine for_it walk_enum (fun i σ G => (∃ u v, σ = [some (.ref a), some (.int n), some (.int m), u, v]) ∧ Same H1 G ∧ ∀ (j : Nat) (l : List Nat), j < i → (ls.take n)[j]? = some l → wdB m l = true) ⟨⟨_, _, rfl⟩, Same.refl _, fun j _ h => (by omega)⟩ (fun i σ G _ h => Same.seq h.2.1 hc) ?_ ?_
      · rintro i x σ G G' hi ⟨⟨u0, v0, rfl⟩, sm, hg⟩ ⟨T, x1, x2, rfl, nT, rfl, e1, e2⟩
        have e1 : x1 = .int (i : Nat) := (Option.some.inj e1).symm
        subst e1
        have sT : Same G (upd G T (.tup [.int (i : Nat), x2])) := same_new nT
        have smT := (s1.trans sm).trans sT
        have e2' : (List.take n (ls.map txV))[i]? = some x2 := e2
        obtain ⟨l, rfl, el, ll⟩ := ev e2'
        refine ⟨T, _, rfl, SqT.of upd_same, rfl, _, _, rfl, _, _, rfl, rfl, ?_⟩
        refine ⟨_, rfl, _, rfl, l, m, rfl, ll, fun H2 s2 => ?_⟩
        cases hb : wdB m l with
        | true =>
          exact ⟨true, rfl, iteF ⟨⟨_, _, rfl⟩, (sm.trans sT).trans s2, fun j l' hj e => by
            by_cases z : j < i
            · exact hg j l' z e
            · have : j = i := by omega
              subst this
              rw [el] at e
              rw [← Option.some.inj e]
              exact hb⟩⟩
        | false =>
          refine ⟨false, rfl, iteT ⟨_, rfl, (by show 1 ≤ 1000; decide), fun a' na => ⟨a', _, rfl, upd_same, fun dx nd' ne => ⟨rfl, dx, _, ?_, upd_same, ?_, ?_⟩⟩⟩⟩
          · rw [upd_ne (Ne.symm ne), upd_same]
          · rw [← nd', upd_ne ne]
          · have nd2 : H2 dx = none := by rw [← nd', upd_ne ne]
            exact qe i (wIx_bad el hb fun j hj l' e => hg j l' hj e) dx _ (fun b u e => made_ext (C := C) na nd2 b u (s2 b u (smT b u e))) upd_same
      · rintro σ G ⟨⟨u0, v0, rfl⟩, sm, hg⟩
        have sG := s1.trans sm
        have hlen : (List.take n (ls.map txV)).length = (ls.take n).length := by rw [← List.map_take, List.length_map]
        have we := wIx_end (n := n) (m := m) (ls := ls) fun j l' e => hg j l' (by
          rw [hlen]
          exact (List.getElem?_eq_some_iff.mp e).1) e
        refine ⟨_, rfl, a, _, rfl, .inl (Same.seq sG hA), _, rfl, rfl, ?_⟩
        by_cases heq : ls.length = n
        · rw [if_pos heq] at we
          exact ⟨false, congrArg V.bl (by rw [List.length_map, heq]; simp), iteF (q we G sG)⟩
        · rw [if_neg heq] at we
          refine ⟨true, congrArg V.bl ?_, iteT ?_⟩
          · rw [List.length_map]
            have : ¬ (V.int (ls.length : Int) = V.int (n : Int)) := fun z => heq (by have := V.int.inj z; omega)
            show (!decide (V.int (ls.length : Int) = V.int (n : Int))) = true
            rw [decide_eq_false this]
            rfl
          · refine ⟨_, rfl, a, _, rfl, .inl (Same.seq sG hA), _, rfl, _, _, rfl, ?_⟩
            have em : (if (n : Int) < ((ls.map txV).length : Int) then (n : Int) else ((ls.map txV).length : Int)) = ((min ls.length n : Nat) : Int) := by
              rw [List.length_map]
              split <;> omega
            refine ⟨(by show 1 ≤ 1000; decide), fun a' na => ⟨a', _, rfl, upd_same, fun dx nd' ne => ⟨rfl, dx, _, ?_, upd_same, ?_, ?_⟩⟩⟩
            · rw [upd_ne (Ne.symm ne), upd_same]
            · rw [← nd', upd_ne ne]
            · have nd2 : G dx = none := by rw [← nd', upd_ne ne]
              refine qe _ we dx _ (fun b u e => made_ext (C := C) na nd2 b u (sG b u e)) ?_
              rw [upd_same, ← em]
              rfl
    · refine ⟨_, (pss_cons (ps_for (passes_of rfl) rfl (LeE.pi_enumT (by rfl) me (pa_cons (pe_slice sl_tupA (pv 0) po_none (po_some (pv 1))) pa_nil)) (pg_tup rfl (pgs_cons (pg_name (i := 3) scChkWords.nd rfl (.inl rfl)) (pgs_cons (pg_name (i := 4) scChkWords.nd rfl (.inl rfl)) pgs_nil))) (pss_one (ps_if (pt_not (pt_val (pe_call GW hr1 (by rfl) gW kW bW .nil pass0 (pa_cons (pv 4) (pa_cons (pv 2) pa_nil))))) (pss_one (ps_raise rfl (takes_of rfl rfl rfl rfl) (pmk_oex R.er.ox R.iC R.tI GE hrE bE .nil pass0 (by rfl) R.at_ (pa_cons (pv 3) pa_nil)))) pss_nil)))
      (pss_one (ps_if (pt_cmpR op_ne (pe_callB call_len_seq (by rfl) ml PySem.boot_len (pa_cons (pv 0) pa_nil)) (pv 1) (nomark _)) (pss_one (ps_raise rfl (takes_of rfl rfl rfl rfl) (pmk_oex R.er.ox R.iC R.tI GE hrE bE .nil pass0 (by rfl) R.at_ (pa_cons (pe_callB (call_min2 rfl) (by rfl) mm (by decide +kernel) (pa_cons (pe_callB call_len_seq (by rfl) ml PySem.boot_len (pa_cons (pv 0) pa_nil)) (pa_cons (pv 1) pa_nil))) pa_nil)))) pss_nil))), ?_⟩
      refine ⟨_, rfl, _, rfl, _, rfl, slA_take hA fun c H1 s1 hc => ⟨c, _, rfl, hc, ?_⟩⟩
      refine for_it LeE.walk_enumT (fun i σ G => (∃ u v, σ = [some (.ref a), some (.int n), some (.int m), u, v]) ∧ Same H1 G ∧ ∀ (j : Nat) (l : List Nat), j < i → (ls.take n)[j]? = some l → wdB m l = true) ⟨⟨_, _, rfl⟩, Same.refl _, fun j _ h => (by omega)⟩ (fun i σ G _ h => Same.sqT h.2.1 hc) ?_ ?_
      · rintro i x σ G G' hi ⟨⟨u0, v0, rfl⟩, sm, hg⟩ ⟨T, x1, x2, rfl, nT, rfl, e1, e2⟩
        have e1 : x1 = .int (i : Nat) := (Option.some.inj e1).symm
        subst e1
        have sT : Same G (upd G T (.tup [.int (i : Nat), x2])) := same_new nT
        have smT := (s1.trans sm).trans sT
        have e2' : (List.take n (ls.map txV))[i]? = some x2 := e2
        obtain ⟨l, rfl, el, ll⟩ := ev e2'
        refine ⟨T, _, rfl, SqT.of upd_same, rfl, _, _, rfl, _, _, rfl, rfl, ?_⟩
        refine ⟨_, rfl, _, rfl, l, m, rfl, ll, fun H2 s2 => ?_⟩
        cases hb : wdB m l with
        | true =>
          exact ⟨true, rfl, iteF ⟨⟨_, _, rfl⟩, (sm.trans sT).trans s2, fun j l' hj e => by
            by_cases z : j < i
            · exact hg j l' z e
            · have : j = i := by omega
              subst this
              rw [el] at e
              rw [← Option.some.inj e]
              exact hb⟩⟩
        | false =>
          refine ⟨false, rfl, iteT ⟨_, rfl, (by show 1 ≤ 1000; decide), fun a' na => ⟨a', _, rfl, upd_same, fun dx nd' ne => ⟨rfl, dx, _, ?_, upd_same, ?_, ?_⟩⟩⟩⟩
          · rw [upd_ne (Ne.symm ne), upd_same]
          · rw [← nd', upd_ne ne]
          · have nd2 : H2 dx = none := by rw [← nd', upd_ne ne]
            exact qe i (wIx_bad el hb fun j hj l' e => hg j l' hj e) dx _ (fun b u e => made_ext (C := C) na nd2 b u (s2 b u (smT b u e))) upd_same
      · rintro σ G ⟨⟨u0, v0, rfl⟩, sm, hg⟩
        have sG := s1.trans sm
        have hlen : (List.take n (ls.map txV)).length = (ls.take n).length := by rw [← List.map_take, List.length_map]
        have we := wIx_end (n := n) (m := m) (ls := ls) fun j l' e => hg j l' (by
          rw [hlen]
          exact (List.getElem?_eq_some_iff.mp e).1) e
        refine ⟨_, rfl, a, _, rfl, .inr (Same.sqT sG hA), _, rfl, rfl, ?_⟩
        by_cases heq : ls.length = n
        · rw [if_pos heq] at we
          exact ⟨false, congrArg V.bl (by rw [List.length_map, heq]; simp), iteF (q we G sG)⟩
        · rw [if_neg heq] at we
          refine ⟨true, congrArg V.bl ?_, iteT ?_⟩
          · rw [List.length_map]
            have : ¬ (V.int (ls.length : Int) = V.int (n : Int)) := fun z => heq (by have := V.int.inj z; omega)
            show (!decide (V.int (ls.length : Int) = V.int (n : Int))) = true
            rw [decide_eq_false this]
            rfl
          · refine ⟨_, rfl, a, _, rfl, .inr (Same.sqT sG hA), _, rfl, _, _, rfl, ?_⟩
            have em : (if (n : Int) < ((ls.map txV).length : Int) then (n : Int) else ((ls.map txV).length : Int)) = ((min ls.length n : Nat) : Int) := by
              rw [List.length_map]
              split <;> omega
            refine ⟨(by show 1 ≤ 1000; decide), fun a' na => ⟨a', _, rfl, upd_same, fun dx nd' ne => ⟨rfl, dx, _, ?_, upd_same, ?_, ?_⟩⟩⟩
            · rw [upd_ne (Ne.symm ne), upd_same]
            · rw [← nd', upd_ne ne]
            · have nd2 : G dx = none := by rw [← nd', upd_ne ne]
              refine qe _ we dx _ (fun b u e => made_ext (C := C) na nd2 b u (sG b u e)) ?_
              rw [upd_same, ← em]
              rfl
end
end Lk

namespace Lk
open PySem L2 Lx LamX LrA LqA TsX
/-! ### == of instances by the text's own def, whatever it answers -/
def rEqI (C : Addr) (sp : Sp) (E : XK) : R2 := fun x y H Q => ∃ a b dx dy fs gs, x = .ref a ∧ y = .ref b ∧ H a = some (.ins C dx fs) ∧ H b = some (.ins C dy gs) ∧ sp [x, y] H Q E
theorem op_eqI {X : Cx} {CX : CXT} {C f : Addr} {fd : FuncData} {ps : List Str} {sp : Sp} {E : XK} {n : Nat} (F : FnOk X.prog X.w X.K X.mg X.base CX n f fd ps sp) (hr : Room n X.A)
    (hs : PySem.W.findIn X.K (.ref C) "__eq__" = some (some (.ref f))) (hf : PySem.W.isFn X.K (.ref f) = true) (hb : Binds X.K fd ps []) (hx : Passes CX X E) : OpR X (compareOp .Eq) (rEqI C sp E) := by
  intro pins s σ H x y v u Q I rx ry h
  obtain ⟨a, b, dx, dy, fs, gs, rfl, rfl, ha, hb', q⟩ := h
  cases (show v = Value.ref a from rx)
  cases (show u = Value.ref b from ry)
  obtain ⟨mA, J, _⟩ := ins_get I.hok ha
  obtain ⟨mB, J', _⟩ := ins_get I.hok hb'
  obtain ⟨od, J, _⟩ := J.look
  obtain ⟨od', J', _⟩ := J'.look
  obtain ⟨m, hF⟩ := I.fr
  show wpAny (model X.prog X.w) X.A (richCompare .Eq (.ref a) (.ref b)) (EP X pins σ Q) X.xe s
  refine PySem.W.cmp_K (op := .Eq) (tb := .ref C) hr.units0 hF I.ok.mod.kin J J'.type (by simp [PySem.W.notFirst]) hs hf ?_
  have G := F.raw hb .nil
  refine wpAny_mono (wpAny_call (run_fnR (us := [.ref a, .ref b]) (vs := [.ref a, .ref b]) G hr hx I (.cons rfl (.cons rfl .nil)) (by simpa using q))) (fun w s' z => ?_) fun _ _ x => x
  obtain ⟨z', H', I', rz, qz⟩ := z
  exact SlX.cmpback rz ⟨z', H', I', rz, qz⟩
theorem itTb {b : Bool} {p q : Prop} (e : b = true) (h : p) : if b = true then p else q := by
  rw [if_pos e]
  exact h
theorem itFb {b : Bool} {p q : Prop} (e : b = false) (h : q) : if b = true then p else q := by
  rw [if_neg (by rw [e]; decide)]
  exact h
/-! ### tables -/
def tf (la da wa : Addr) : List (Str × V) := putF "own_words" (.ref wa) (putF "own_divisors" (.ref da) (putF "own_looks" (.ref la) []))
theorem tf_words (la da wa : Addr) : (tf la da wa).lookup ("own_words" : Str) = some (.ref wa) := by
  unfold tf
  rw [lookup_putF, if_pos rfl]
theorem tf_div (la da wa : Addr) : (tf la da wa).lookup ("own_divisors" : Str) = some (.ref da) := by
  unfold tf
  rw [lookup_putF, if_neg (by decide +kernel), lookup_putF, if_pos rfl]
theorem tf_looks (la da wa : Addr) : (tf la da wa).lookup ("own_looks" : Str) = some (.ref la) := by
  unfold tf
  rw [lookup_putF, if_neg (by decide +kernel), lookup_putF, if_neg (by decide +kernel), lookup_putF, if_pos rfl]
theorem tf_no (m : Str) (la da wa : Addr) (h : ("own_words" : Str) ≠ m ∧ ("own_divisors" : Str) ≠ m ∧ ("own_looks" : Str) ≠ m) : (tf la da wa).lookup m = none := by
  unfold tf
  rw [lookup_putF, if_neg (Ne.symm h.1), lookup_putF, if_neg (Ne.symm h.2.1), lookup_putF, if_neg (Ne.symm h.2.2)]
  rfl
structure TTab (K : PySem.W.Frag) (mg : Str → Option Value) (C : Addr) : Prop where
  cl : Cls K C
  n1 : NoAttr K C "own_looks"
  n2 : NoAttr K C "own_divisors"
  n3 : NoAttr K C "own_words"
  mgC : mg "Table" = some (.ref C)
/-- a Table stands at p -/
structure TabAt (K : PySem.W.Frag) (C : Addr) (H : Hp) (p : Addr) (ds : List Int) (lks : List (List Int)) (ls : List (List Nat)) : Prop where
  ob : ∃ dx la da wa lw, H p = some (.ins C dx (tf la da wa)) ∧ SqT K H da (ds.map V.int) ∧ SqT K H la lw ∧ HdsAt K H lks lw ∧ SqT K H wa (ls.map txV)
  dv : Divs ds
  l1 : 1 ≤ ds.length
  l3 : ds.length ≤ 3
  lk : Looks ds.length lks
  wd : wIx (prodL ds).toNat lks.length ls = none
theorem TabAt.same {K : PySem.W.Frag} {C : Addr} {H H' : Hp} {p : Addr} {ds : List Int} {lks : List (List Int)} {ls : List (List Nat)} (S : TabAt K C H p ds lks ls) (e : Same H H') : TabAt K C H' p ds lks ls := by
  obtain ⟨⟨dx, la, da, wa, lw, h1, h2, h3, h4, h5⟩, r1, r2, r3, r4, r5⟩ := S
  exact ⟨⟨dx, la, da, wa, lw, e _ _ h1, Same.sqT e h2, Same.sqT e h3, HdsAt.mono (Same.tups e) h4, Same.sqT e h5⟩, r1, r2, r3, r4, r5⟩
theorem wIx_none {n m : Nat} {ls : List (List Nat)} (h : wIx n m ls = none) : ls.length = n ∧ ∀ l ∈ ls, wdB m l = true := by
  unfold wIx at h
  split at h
  · cases h
  · rename_i e
    split at h
    · rename_i hn
      refine ⟨hn, fun l hl => ?_⟩
      rw [List.take_of_length_le (by omega)] at e
      have := List.findIdx?_eq_none_iff.mp e l hl
      simpa using this
    · cases h
def IwP (C p : Addr) (j : Nat) (H : Hp) (E : XK) : Prop := ∀ (dd : Addr) (H' : Hp), (∀ b o, H b = some o → b ≠ p → H' b = some o) → H' dd = some (.xd (xflds "index" (.int j) "InvalidWords")) → E (.ref C) (some dd) H'
def spTInit (K : PySem.W.Frag) (C C1 C2 CL CW : Addr) : Sp := fun vs H Q E => ∃ (p dx lk wd : Addr) (v : V), vs = [.ref p, v, .ref lk, .ref wd] ∧ H p = some (.ins C dx []) ∧
  ((∃ o, OD K H v o ∧ (∀ z ∈ itsI o, -(2 ^ 64) < z ∧ z < 2 ^ 64) ∧ dvE o ≠ 0 ∧ DvK C1 C2 o H E) ∨
   ∃ (a : Addr) (ds : List Int) (wp rest : List V) (pre : List (List Int)), v = .ref a ∧ SqT K H a (ds.map V.int) ∧ 1 ≤ ds.length ∧ ds.length ≤ 3 ∧ Divs ds ∧
    SqA K H lk (wp ++ rest) ∧ HdsAt K H pre wp ∧ pre.length ≤ 40 ∧ pre.Nodup ∧ (∀ c ∈ pre, LkOk ds.length c) ∧
    ((∃ j, BadTail K H ds.length pre rest j ∧ IlK CL j H E) ∨
     (rest = [] ∧ 1 ≤ pre.length ∧ pre.length ≤ 4 ∧ ∃ ls : List (List Nat), SqA K H wd (ls.map txV) ∧ ls.length ≤ 60 ∧ (∀ l ∈ ls, l.length ≤ 40) ∧
       (∀ j, wIx (prodL ds).toNat pre.length ls = some j → IwP CW p j H E) ∧
       (wIx (prodL ds).toNat pre.length ls = none → ∀ H', TabAt K C H' p ds pre ls → (∀ b o, H b = some o → b ≠ p → H' b = some o) → Q .non H'))))
theorem sqT_ins {K : PySem.W.Frag} {H : Hp} {p C dx : Addr} {fs : List (Str × V)} {o : HO} (hp : H p = some (.ins C dx fs)) : Tups K H (upd H p o) := fun x ys e => by
  rcases e with (e | ⟨o, e⟩) | e
  · exact .inl (.inl (by rw [upd_ne (ne_of e hp (by intro z; cases z))]; exact e))
  · exact .inl (.inr ⟨o, by rw [upd_ne (ne_of e hp (by intro z; cases z))]; exact e⟩)
  · exact .inr e
theorem sqL_ins {K : PySem.W.Frag} {H : Hp} {p C dx a : Addr} {xs : List V} {fs : List (Str × V)} {o : HO} (hp : H p = some (.ins C dx fs)) (e : SqL K H a xs) : SqL K (upd H p o) a xs := by
  rcases e with (e | ⟨o, e⟩) | e
  · exact .inl (.inl (by rw [upd_ne (ne_of e hp (by intro z; cases z))]; exact e))
  · exact .inl (.inr ⟨o, by rw [upd_ne (ne_of e hp (by intro z; cases z))]; exact e⟩)
  · exact .inr e
theorem sqA_ins {K : PySem.W.Frag} {H : Hp} {p C dx a : Addr} {xs : List V} {fs : List (Str × V)} {o : HO} (hp : H p = some (.ins C dx fs)) : SqA K H a xs → SqA K (upd H p o) a xs
  | .inl h => .inl (sqL_ins hp h)
  | .inr h => .inr (sqT_ins hp _ _ h)
def wdD (ls : List (List Nat)) : List PyData := ls.map fun l => .str (SX.S l)
theorem dp_wds {K : PySem.W.Frag} {H : Hp} : ∀ ls : List (List Nat), DpAll K H (ls.map txV) (wdD ls)
  | [] => .nil
  | l :: r => .cons (.str _) (dp_wds r)
theorem dep_wds : ∀ ls : List (List Nat), PyData.depthAll (wdD ls) ≤ 1
  | [] => by simp [wdD, PyData.depthAll]
  | c :: r => by
    show PyData.depthAll (.str (SX.S c) :: wdD r) ≤ 1
    unfold PyData.depthAll
    have h1 := dep_wds r
    have h2 : (PyData.str (SX.S c)).depth ≤ 1 := by
      unfold PyData.depth
      decide
    omega
theorem lay_wds : ∀ {ls : List (List Nat)}, (∀ l ∈ ls, PyData.strOk (SX.S l) = true) → PyData.canLayAll0 (wdD ls) = true
  | [], _ => rfl
  | c :: r, h => by
    show PyData.canLayAll0 (.str (SX.S c) :: wdD r) = true
    unfold PyData.canLayAll0 PyData.canLay0
    rw [lay_wds fun l hl => h l (List.mem_cons_of_mem _ hl), h c List.mem_cons_self]
    rfl
theorem wd_strOk {m : Nat} {l : List Nat} (h : wdB m l = true) : PyData.strOk (SX.S l) = true := by
  unfold wdB at h
  rw [Bool.and_eq_true] at h
  have h2 := List.all_eq_true.mp h.2
  unfold PyData.strOk
  show l.toArray.all _ = true
  rw [List.all_toArray]
  refine List.all_eq_true.mpr fun c hc => ?_
  have := h2 c hc
  simp at this
  rcases this with rfl | rfl <;> decide
theorem shp_wds {ls : List (List Nat)} (hk : ∀ l ∈ ls, PyData.strOk (SX.S l) = true) : SeqAt.shaped (.tuple (wdD ls)) = true := by
  unfold SeqAt.shaped
  have h := dep_wds ls
  have h2 : (PyData.tuple (wdD ls)).depth ≤ 64 := by
    unfold PyData.depth
    omega
  rw [decide_eq_true h2, Bool.and_true]
  unfold PyData.canLay0
  exact lay_wds hk
theorem shp_dlT (l : List (List Int)) : SeqAt.shaped (.tuple (dl l)) = true := by
  unfold SeqAt.shaped
  have h := dep_dl l
  have h2 : (PyData.tuple (dl l)).depth ≤ 64 := by
    unfold PyData.depth
    omega
  rw [decide_eq_true h2, Bool.and_true]
  unfold PyData.canLay0
  exact lay_dl l
theorem eqv_dlT (l m : List (List Int)) : PyData.eqv (.tuple (dl l)) (.tuple (dl m)) = decide (l = m) := by
  unfold PyData.eqv
  induction l generalizing m with
  | nil => cases m <;> rfl
  | cons c r ih =>
    cases m with
    | nil => rfl
    | cons d s =>
      show (PyData.eqv (.tuple (c.map .int)) (.tuple (d.map .int)) && PyData.eqvAll (dl r) (dl s)) = _
      have := ih s
      rw [eqv_tups, this]
      by_cases h1 : c = d <;> by_cases h2 : r = s <;> simp [h1, h2]
theorem eqv_wds (l m : List (List Nat)) : PyData.eqv (.tuple (wdD l)) (.tuple (wdD m)) = decide (l = m) := by
  unfold PyData.eqv
  induction l generalizing m with
  | nil => cases m <;> rfl
  | cons c r ih =>
    cases m with
    | nil => rfl
    | cons d s =>
      show (PyData.eqv (.str (SX.S c)) (.str (SX.S d)) && PyData.eqvAll (wdD r) (wdD s)) = _
      have := ih s
      rw [this]
      have e : PyData.eqv (.str (SX.S c)) (.str (SX.S d)) = decide (c = d) := by
        unfold PyData.eqv
        exact SX.S_beq_eq
      rw [e]
      by_cases h1 : c = d <;> by_cases h2 : r = s <;> simp [h1, h2]
section
variable {P : Program} {w : World} {K : PySem.W.Frag} {mg : Str → Option Value} {base : Heap}
theorem ok_tinit {f fC fK fW C C1 C2 CL CW : Addr} {fd fdC fdK fdW : FuncData} {k : Nat} (F : Fun K "__init__" "Table.__init__" sTInit f fd) (T : TTab K mg C) (ml : mg "len" = none) (mt : mg "tuple" = none)
    (GC : FnOk P w K mg base CX0 (k + 5) fC fdC ["divisors"] (spClassCount K)) (GX : FnOk P w K mg base (L2.CX P w) (k + 5) fC fdC ["divisors"] (spDivX K C1 C2)) (kC : PySem.W.keepIn K (.ref fC) = true) (bC : Binds K fdC ["divisors"] []) (gC : mg "class_count" = some (.ref fC))
    (GK : FnOk P w K mg base (L2.CX P w) (k + 4) fK fdK ["looks", "directions"] (spLooks K CL)) (kK : PySem.W.keepIn K (.ref fK) = true) (bK : Binds K fdK ["looks", "directions"] []) (gK : mg "checked_looks" = some (.ref fK))
    (GW : FnOk P w K mg base (L2.CX P w) (k + 4) fW fdW ["words", "classes", "length"] (spChkWords K CW)) (kW : PySem.W.keepIn K (.ref fW) = true) (bW : Binds K fdW ["words", "classes", "length"] []) (gW : mg "check_words" = some (.ref fW)) :
    FnOk P w K mg base (L2.CX P w) (k + 6) f fd ["self", "divisors", "looks", "words"] (spTInit K C C1 C2 CL CW) := by
  refine F.okX scTInit (fun vs H Q E h => ?_) (fun cdv A outer s H vs Q E hr h => ?_)
  · obtain ⟨p, dx, lk, wd, v, rfl, _⟩ := h
    rfl
  · obtain ⟨p, dx, lk, wd, v, rfl, hp, out⟩ := h
    have hr4 : Room (k + 4) _ := hr.mono (by omega)
    rcases out with ⟨o, hO, bd, hne, q⟩ | ⟨a, ds, wp, rest, pre, rfl, hA, l1, l3, hD, hL, hP, p40, nd, pok, out⟩
    · exact ⟨_, pss_cons (ps_set (i := 4) scTInit.nd rfl (.inl rfl) (pe_call GX hr (by rfl) gC kC bC .nil (passes_call (E := E) (takes_of rfl rfl rfl rfl) (fun _ _ _ _ h => h)) (pa_cons (pv 1) pa_nil))) pss_never, _, rfl, v, o, rfl, hO, bd, hne, q⟩
    · have lds : ((ds.map V.int).length : Int) = (ds.length : Int) := by rw [List.length_map]
      refine ⟨_, (pss_cons (ps_set (i := 4) scTInit.nd rfl (.inl rfl) (pe_call GC hr (by rfl) gC kC bC .nil pass0 (pa_cons (pv 1) pa_nil)))
      (pss_cons (ps_fld (pv 0) (pe_call GK hr4 (by rfl) gK kK bK .nil (passes_call (E := E) (takes_of rfl rfl rfl rfl) (fun _ _ _ _ h => h)) (pa_cons (pv 2) (pa_cons (pe_callB call_len_seq (by rfl) ml PySem.boot_len (pa_cons (pv 1) pa_nil)) pa_nil))) rfl)
      (pss_cons (ps_expr (pe_call GW hr4 (by rfl) gW kW bW .nil (passes_call (E := E) (takes_of rfl rfl rfl rfl) (fun _ _ _ _ h => h)) (pa_cons (pv 3) (pa_cons (pv 4) (pa_cons (pe_callB call_len_seq (by rfl) ml PySem.boot_len (pa_cons (pv 2) pa_nil)) pa_nil)))))
      (pss_cons (ps_fld (pv 0) (pv 1) rfl)
      (pss_one (ps_fld (pv 0) (pe_callTy call_tuple_of (by rfl) mt (by decide +kernel) (pa_cons (pv 3) pa_nil)) rfl)))))), ?_⟩
      refine ⟨_, rfl, a, ds, rfl, hA, l1, l3, hD, fun H1 s1 => ?_⟩
      refine ⟨_, rfl, _, rfl, a, _, rfl, .inr (Same.sqT s1 hA), lk, wp, rest, pre, ds.length, by rw [lds]; rfl, SqA.mono s1 hL, HdsAt.mono (Same.tups s1) hP, p40, nd, pok, l1, l3, ?_⟩
      rcases out with ⟨j, bad, il⟩ | ⟨rfl, p1, p4, ls, hW, l60, l40, qe, q⟩
      · refine .inr ⟨j, ?_, fun dd H' s2 hd => il dd H' (s1.trans s2) hd⟩
        rcases bad with bad | bad | ⟨x, tl, o, e1, hO, hb, e2⟩
        · exact .inl bad
        · exact .inr (.inl bad)
        · exact .inr (.inr ⟨x, tl, o, e1, hO.mono (Same.tups s1), hb, e2⟩)
      · refine .inl ⟨rfl, p1, p4, fun H2 t s2 ht => ?_⟩
        rw [List.append_nil] at hL
        have s02 := s1.trans s2
        have hp2 := s02 _ _ hp
        refine ⟨_, rfl, p, C, dx, [], rfl, hp2, T.cl, T.n1, (by show 0 < 1000; decide), ?_⟩
        have t2 := sqT_ins (K := K) (o := .ins C dx (putF "own_looks" (.ref t) [])) hp2
        have hL3 := sqA_ins (o := .ins C dx (putF "own_looks" (.ref t) [])) hp2 (SqA.mono s02 hL)
        have hW3 := sqA_ins (o := .ins C dx (putF "own_looks" (.ref t) [])) hp2 (SqA.mono s02 hW)
        have en : prodL ds = ((prodL ds).toNat : Int) := by have := prodL_pos hD.one; omega
        refine ⟨_, rfl, _, rfl, _, rfl, lk, wp, rfl, hL3, wd, ls, (prodL ds).toNat, pre.length, ?_, hW3, l60, l40, fun e H4 s4 => ?_, fun j ej dd H' s4 hd => qe j ej dd H' (fun b o e ne => s4 _ _ (by rw [upd_ne ne]; exact s02 _ _ e)) hd⟩
        · rw [← en, hds_len hP]
          rfl
        have hp4 := s4 _ _ (upd_same (H := H2) (a := p) (o := .ins C dx (putF "own_looks" (.ref t) [])))
        have e1 : (putF "own_looks" (.ref t) []).length ≤ 1 := putF_len _ _ _
        have e2 : (putF "own_divisors" (.ref a) (putF "own_looks" (.ref t) [])).length ≤ 2 := Nat.le_trans (putF_len _ _ _) (by omega)
        refine ⟨_, rfl, _, rfl, p, C, dx, _, rfl, hp4, T.cl, T.n2, by omega, ?_⟩
        have hW5 := sqA_ins (o := .ins C dx (putF "own_divisors" (.ref a) (putF "own_looks" (.ref t) []))) hp4 (SqA.mono s4 hW3)
        have t5 := sqT_ins (K := K) (o := .ins C dx (putF "own_divisors" (.ref a) (putF "own_looks" (.ref t) []))) hp4
        have fin : ∀ (wa : Addr) (H6 : Hp), Same (upd H4 p (.ins C dx (putF "own_divisors" (.ref a) (putF "own_looks" (.ref t) [])))) H6 → SqT K H6 wa (ls.map txV) → Q .non (upd H6 p (.ins C dx (tf t a wa))) := fun wa H6 s6 hwa => by
          have hp6 := s6 _ _ upd_same
          have t6 := sqT_ins (K := K) (o := .ins C dx (tf t a wa)) hp6
          have tt : Tups K (upd H2 p (.ins C dx (putF "own_looks" (.ref t) []))) (upd H6 p (.ins C dx (tf t a wa))) := fun x ys h => t6 _ _ (Same.sqT s6 (t5 _ _ (Same.sqT s4 h)))
          have t02 : Tups K H (upd H6 p (.ins C dx (tf t a wa))) := fun x ys h => tt _ _ (t2 _ _ (Same.sqT s02 h))
          refine q e _ ⟨⟨dx, t, a, wa, wp, upd_same, t02 _ _ hA, tt _ _ (t2 _ _ ht), HdsAt.mono t02 hP, t6 _ _ hwa⟩, hD, l1, l3, ⟨p1, p4, nd, pok⟩, e⟩ fun b o h ne => ?_
          rw [upd_ne ne]
          refine s6 _ _ ?_
          rw [upd_ne ne]
          refine s4 _ _ ?_
          rw [upd_ne ne]
          exact s02 _ _ h
        rcases hW5 with hW5 | hW5
        · refine ⟨_, rfl, wd, _, rfl, .inl ⟨hW5, fun wa nwa => ?_⟩⟩
          refine ⟨_, rfl, p, C, dx, _, rfl, (same_new nwa) _ _ upd_same, T.cl, T.n3, by omega, ?_⟩
          exact fin wa _ (same_new nwa) (SqT.of upd_same)
        · refine ⟨_, rfl, wd, _, rfl, .inr ⟨hW5, ?_⟩⟩
          refine ⟨_, rfl, p, C, dx, _, rfl, upd_same, T.cl, T.n3, by omega, ?_⟩
          exact fin wd _ (Same.refl _) hW5
def spTSeq (K : PySem.W.Frag) (C : Addr) (g : List (List Int) → List (List Nat) → List V → Prop) : Sp := fun vs H Q _ => ∃ (p : Addr) (ds : List Int) (lks : List (List Int)) (ls : List (List Nat)), vs = [.ref p] ∧ TabAt K C H p ds lks ls
/-- words(): a new list -/
def spTWords (K : PySem.W.Frag) (C : Addr) : Sp := fun vs H Q _ => ∃ (p : Addr) (ds : List Int) (lks : List (List Int)) (ls : List (List Nat)), vs = [.ref p] ∧ TabAt K C H p ds lks ls ∧ ∀ l, H l = none → Q (.ref l) (upd H l (.lst (ls.map txV)))
def spTLooks (K : PySem.W.Frag) (C : Addr) : Sp := fun vs H Q _ => ∃ (p : Addr) (ds : List Int) (lks : List (List Int)) (ls : List (List Nat)), vs = [.ref p] ∧ TabAt K C H p ds lks ls ∧ ∀ l lw, H l = none → HdsAt K H lks lw → Q (.ref l) (upd H l (.lst lw))
theorem ok_twords {f C : Addr} {fd : FuncData} {k : Nat} (F : Fun K "words" "Table.words" sTWords f fd) (T : TTab K mg C) (mli : mg "list" = none) : FnOk P w K mg base CX0 (k + 1) f fd ["self"] (spTWords K C) := by
  refine F.ok scTWords (fun vs H Q E h => ?_) (fun cdv A outer s H vs Q E hr h => ?_)
  · obtain ⟨p, ds, lks, ls, rfl, _⟩ := h
    rfl
  · obtain ⟨p, ds, lks, ls, rfl, S, q⟩ := h
    refine ⟨_, pss_one (ps_ret (pe_callTy call_list_of (by rfl) mli (by decide +kernel) (pa_cons (pe_fld (pv 0) rfl) pa_nil))), ?_⟩
    obtain ⟨⟨dx, la, da, wa, lw, h1, h2, h3, h4, h5⟩, _⟩ := id S
    exact ⟨_, rfl, p, C, dx, _, _, rfl, h1, T.cl, T.n3, tf_words _ _ _, wa, _, rfl, .inr h5, fun l nl => q l nl⟩
theorem ok_tlooks {f C : Addr} {fd : FuncData} {k : Nat} (F : Fun K "looks" "Table.looks" sTLooks f fd) (T : TTab K mg C) (mli : mg "list" = none) : FnOk P w K mg base CX0 (k + 1) f fd ["self"] (spTLooks K C) := by
  refine F.ok scTLooks (fun vs H Q E h => ?_) (fun cdv A outer s H vs Q E hr h => ?_)
  · obtain ⟨p, ds, lks, ls, rfl, _⟩ := h
    rfl
  · obtain ⟨p, ds, lks, ls, rfl, S, q⟩ := h
    refine ⟨_, pss_one (ps_ret (pe_callTy call_list_of (by rfl) mli (by decide +kernel) (pa_cons (pe_fld (pv 0) rfl) pa_nil))), ?_⟩
    obtain ⟨⟨dx, la, da, wa, lw, h1, h2, h3, h4, h5⟩, _⟩ := id S
    exact ⟨_, rfl, p, C, dx, _, _, rfl, h1, T.cl, T.n1, tf_looks _ _ _, la, _, rfl, .inr h3, fun l nl => q l lw nl h4⟩
/-- == of two tables -/
def spTEq (K : PySem.W.Frag) (C : Addr) : Sp := fun vs H Q _ => ∃ (a b : Addr) (ds es : List Int) (lks mks : List (List Int)) (ls ms : List (List Nat)), vs = [.ref a, .ref b] ∧ TabAt K C H a ds lks ls ∧ TabAt K C H b es mks ms ∧ Q (.bl (decide (ds = es ∧ lks = mks ∧ ls = ms))) H
theorem ok_teq {f C : Addr} {fd : FuncData} {k : Nat} (F : Fun K "__eq__" "Table.__eq__" sTEq f fd) (T : TTab K mg C) (IC : C8.InsC K C) (ms : mg "isinstance" = none) : FnOk P w K mg base CX0 (k + 1) f fd ["self", "other"] (spTEq K C) := by
  refine F.ok scTEq (fun vs H Q E h => ?_) (fun cdv A outer s H vs Q E hr h => ?_)
  · obtain ⟨a, b, ds, es, lks, mks, ls, ms', rfl, _⟩ := h
    rfl
  · obtain ⟨a, b, ds, es, lks, mks, ls, ms', rfl, S1, S2, q⟩ := h
    refine ⟨_, (pss_cons (ps_if (PW.pt (pw_or (pt_not (pt_val (pe_callB (C8.call_isC IC) (by rfl) ms (by decide +kernel) (pa_cons (pv 1) (pa_cons (pe_glob (v := .ref C) (by rfl) T.mgC rfl) pa_nil))))) (pw_or1 (pt_cmpR (op_neD hr.units) (pe_fld (pv 0) rfl) (pe_fld (pv 1) rfl) (nomark _))))) (pss_one (ps_ret pe_bl)) pss_nil)
      (pss_one (ps_ret (pe_and (pe_cmpR (op_eqD hr.units) (pe_fld (pv 0) rfl) (pe_fld (pv 1) rfl) (nomark _)) (pe_one (pe_cmpR (op_eqD hr.units) (pe_fld (pv 0) rfl) (pe_fld (pv 1) rfl) (nomark _))))))), ?_⟩
    obtain ⟨⟨dx, la, da, wa, lw, h1, h2, h3, h4, h5⟩, _⟩ := id S1
    obtain ⟨⟨dy, lb, db, wb, lv, g1, g2, g3, g4, g5⟩, _⟩ := id S2
    refine ⟨_, rfl, b, dy, _, rfl, g1, true, rfl, iteF ?_⟩
    refine ⟨_, rfl, a, C, dx, _, _, rfl, h1, T.cl, T.n2, tf_div _ _ _, _, rfl, b, C, dy, _, _, rfl, g1, T.cl, T.n2, tf_div _ _ _, ne_tups h2 g2 ⟨_, rfl, ?_⟩⟩
    by_cases e1 : ds = es
    · refine itFb (by rw [decide_eq_true e1]; rfl) ⟨_, rfl, a, C, dx, _, _, rfl, h1, T.cl, T.n1, tf_looks _ _ _, _, rfl, b, C, dy, _, _, rfl, g1, T.cl, T.n1, tf_looks _ _ _, .tuple (dl lks), .tuple (dl mks), .tup h3 (dp_hds h4), .tup g3 (dp_hds g4), shp_dlT _, shp_dlT _, ?_⟩
      rw [eqv_dlT]
      by_cases e2 : lks = mks
      · refine ⟨_, rfl, itTb (by rw [decide_eq_true e2]) ⟨_, rfl, a, C, dx, _, _, rfl, h1, T.cl, T.n3, tf_words _ _ _, _, rfl, b, C, dy, _, _, rfl, g1, T.cl, T.n3, tf_words _ _ _, .tuple (wdD ls), .tuple (wdD ms'), .tup h5 (dp_wds _), .tup g5 (dp_wds _), shp_wds (fun l hl => wd_strOk ((wIx_none S1.wd).2 l hl)), shp_wds (fun l hl => wd_strOk ((wIx_none S2.wd).2 l hl)), ?_⟩⟩
        rw [eqv_wds]
        simpa [e1, e2] using q
      · refine ⟨_, rfl, itFb (by rw [decide_eq_false e2]) ?_⟩
        simpa [e1, e2] using q
    · refine itTb (by rw [decide_eq_false e1]; rfl) ?_
      show Q (V.bl false) H
      simpa [e1] using q
end
end Lk

namespace Lk
open PySem L2 Lx LamX LrA LqA
/-! ### trees by divisors with more classes -/
def spSourcesB (K : PySem.W.Frag) : Sp := fun vs H Q _ => ∃ (a m c e : Addr) (ds : List Int) (mat : List (List Int)) (ws : List V) (x nds : List Int) (d n : Nat), vs = [.ref a, .ref m, .ref c, .ref e] ∧ SqT K H a (ds.map V.int) ∧ SqT K H m ws ∧ HdsAt K H mat ws ∧ SqT K H c (x.map V.int) ∧ SqT K H e (nds.map V.int) ∧
  Divs ds ∧ (∀ z ∈ nds, 1 ≤ z ∧ z < 2 ^ 30) ∧ n ≤ 1000 ∧ ds.length = d ∧ nds.length = d ∧ Mat mat d ∧ x.length = d ∧ d ≤ 3 ∧ prodL nds = (n : Int) ∧ ∀ H' p, Same H H' → H' p = some (.lst ((srcM ds mat x nds n).map V.int)) → Q (.ref p) H'
def spChangedB (K : PySem.W.Frag) (C : Addr) : Sp := fun vs H Q _ => ∃ (p a m c : Addr) (ev : V) (ds : List Int) (n : Nat) (t e : Tr) (mat : List (List Int)) (ws : List V) (x nds : List Int) (n' : Nat), vs = [.ref p, .ref a, .ref m, .ref c, ev] ∧ ScanAt K C H p ds n t ∧ SqT K H a (nds.map V.int) ∧ SqT K H m ws ∧ HdsAt K H mat ws ∧
  SqT K H c (x.map V.int) ∧ TrAt K H e ev ∧ (∀ z ∈ nds, 1 ≤ z ∧ z < 2 ^ 30) ∧ n' ≤ 1000 ∧ nds.length = ds.length ∧ Mat mat ds.length ∧ x.length = ds.length ∧ prodL nds = (n' : Int) ∧ ∀ H' u, Same H H' → TrAt K H' (mvT (srcM ds mat x nds n') mat e t) u → Q u H'
def spRefTB (K : PySem.W.Frag) (C : Addr) : Sp := fun vs H Q _ => ∃ (p a : Addr) (ev : V) (ds : List Int) (n : Nat) (t e : Tr) (nds : List Int) (n' : Nat), vs = [.ref p, .ref a, ev] ∧ ScanAt K C H p ds n t ∧ SqT K H a (nds.map V.int) ∧ TrAt K H e ev ∧ (∀ z ∈ nds, 1 ≤ z ∧ z < 2 ^ 30) ∧ n' ≤ 1000 ∧ nds.length = ds.length ∧ prodL nds = (n' : Int) ∧
  ∀ H' u, Same H H' → TrAt K H' (rfT ds nds n' e t) u → Q u H'
section
variable {P : Program} {w : World} {K : PySem.W.Frag} {mg : Str → Option Value} {base : Heap}
end
end Lk

namespace Lk
open PySem L2 Lx LamX LrA LqA TsX
/-! ### what a scan sees -/
def fuC (b : Bool) : Nat := if b then 102 else 117
def fuS (b : Bool) : Str := SX.S [fuC b]
/-- the word as a text -/
def wdS (bs : List Bool) : Str := SX.S (bs.map fuC)
abbrev addL (x l : List Int) : List Int := List.zipWith (· + ·) x l
def seesB (ds : List Int) (t : Tr) (x l : List Int) : Bool := HT.lexLt (full ds t (addL x l)) (full ds t x)
def wordB (ds : List Int) (t : Tr) (lks : List (List Int)) (x : List Int) : List Bool := lks.map (seesB ds t x)
theorem join_one : ∀ l : List (List Nat), TL.joinL [] l = l.flatten
  | [] => rfl
  | [p] => by simp [TL.joinL]
  | p :: q :: r => by
    show p ++ ([] ++ TL.joinL [] (q :: r)) = _
    rw [join_one (q :: r)]
    simp
theorem join_fu (bs : List Bool) : Txt.join (SX.S []) (bs.map fuS) = wdS bs := by
  have e : bs.map fuS = (bs.map fun b => [fuC b]).map SX.S := by rw [List.map_map]; rfl
  rw [e, SX.join_S, join_one]
  unfold wdS
  congr 1
  induction bs with
  | nil => rfl
  | cons b r ih =>
    rw [List.map_cons, List.flatten_cons, ih, List.map_cons]
    · rfl
    · rw [List.map_map]; rfl
def spWordAt (K : PySem.W.Frag) (C : Addr) : Sp := fun vs H Q _ => ∃ (p a c : Addr) (ws : List V) (lks : List (List Int)) (ds : List Int) (n : Nat) (t : Tr) (x : List Int), vs = [.ref p, .ref a, .ref c] ∧ ScanAt K C H p ds n t ∧ SqT K H a ws ∧ HdsAt K H lks ws ∧ lks.length ≤ 40 ∧ (∀ l ∈ lks, l.length = ds.length) ∧ SqT K H c (x.map V.int) ∧ x.length = ds.length ∧
  ∀ H' : Hp, Same H H' → Q (.str (wdS (wordB ds t lks x))) H'
section
variable {P : Program} {w : World} {K : PySem.W.Frag} {mg : Str → Option Value} {base : Heap}
theorem ok_wordat {f fP fA C : Addr} {fd fdP fdA : FuncData} {k : Nat} (F : Fun K "word_at" "word_at" sWordAt f fd) (T : Txt K mg C)
    (GP : FnOk P w K mg base CX0 (k + 4) fP fdP ["self", "place"] (spSPath K C)) (bP : Binds K fdP ["self", "place"] []) (mP : Meth K C "path" fP)
    (GA : FnOk P w K mg base CX0 (k + 1) fA fdA ["one", "other"] (spPlus K)) (kA : PySem.W.keepIn K (.ref fA) = true) (bA : Binds K fdA ["one", "other"] []) (gA : mg "added" = some (.ref fA)) :
    FnOk P w K mg base CX0 (k + 5) f fd ["scan", "looks", "place"] (spWordAt K C) := by
  refine F.ok scWordAt (fun vs H Q E h => ?_) (fun cdv A outer s H vs Q E hr h => ?_)
  · obtain ⟨p, a, c, ws, lks, ds, n, t, x, rfl, _⟩ := h
    rfl
  · obtain ⟨p, a, c, ws, lks, ds, n, t, x, rfl, S, hA, hW, l40, hl, hc, lx, q⟩ := h
    have hr1 : Room (k + 1) _ := hr.mono (by omega)
    refine ⟨_, pss_cons (ps_set (i := 3) scWordAt.nd rfl (.inr rfl) (pe_meth (pv 0) T.cl mP GP hr bP .nil pass0 (pa_cons (pv 2) pa_nil)))
      (pss_one (ps_ret (pe_join pe_str (pe_lc (own := [("look", 4)]) (g := gName 4) (by rfl) scWordAt.nd (pi_tup (pv 1))
        (blkOk_by (own := [("look", 4)]) (N := ["scan", "looks", "place", "own", "look"]) (sc := defScope sWordAt) (by decide +kernel)) (fun _ _ _ _ _ => pg_name (i := 4) scWordAt.nd rfl (Or.inl rfl)) (fun _ _ _ _ _ => pts_nil)
        (fun _ _ _ _ _ => pe_ifExp (pt_cmpR (show OpR _ (compareOp .Lt) (rLtT K) from op_ltT hr.units0) (pe_meth (pv 0) T.cl mP GP hr bP .nil pass0 (pa_cons (pe_call GA hr1 (by rfl) gA kA bA .nil pass0 (pa_cons (pv 2) (pa_cons (pv 4) pa_nil))) pa_nil)) (pv 3) (nomark _)) pe_str pe_str))))), ?_⟩
    obtain ⟨⟨dx, da, v, h1, h2, h3⟩, _, _, l3, _⟩ := id S
    refine ⟨_, rfl, p, dx, _, rfl, h1, sf_path _ _ _ _, _, rfl, p, c, ds, n, t, x, rfl, S, hc, lx, fun H1 own s1 ho => ?_⟩
    refine ⟨⟨_, rfl⟩, _, rfl, a, rfl, ⟨_, Same.sqT s1 hA⟩, fun D nD => ?_⟩
    have lw := hds_len hW
    refine lc_tup (K := K) (a := a) (xs := ws) (fun i H2 => Same H1 H2 ∧ H2 D = some (.lst (((wordB ds t (lks.take i) x).map fuS).map V.str))) ⟨same_new nD, upd_same⟩ (fun i H2 _ ⟨sm, _⟩ => Same.sqT (s1.trans sm) hA) ?_ ?_
    · rintro i y H2 hy ⟨sm, hD⟩
      obtain ⟨ya, l, rfl, el, hya⟩ := hds_at hW hy
      have ll := hl l (List.mem_of_getElem? el)
      have t1 := s1.trans sm
      refine ⟨rfl, _, rfl, p, dx, _, rfl, t1 _ _ h1, sf_path _ _ _ _, _, rfl, _, rfl, c, ya, x, l, rfl, Same.sqT t1 hc, Same.sqT t1 hya, by omega, by omega, fun H3 r s3 _ hr3 => ?_⟩
      have t3 := t1.trans s3
      refine ⟨p, r, ds, n, t, addL x l, rfl, S.same t3, SqT.of hr3, by rw [List.length_zipWith]; omega, fun H4 z s4 hz => ?_⟩
      have t4 := t3.trans s4
      refine ⟨_, rfl, z, own, _, _, rfl, rfl, hz, Same.sqT ((sm.trans s3).trans s4) ho, _, rfl, ?_⟩
      have key : ∀ b : Bool, b = seesB ds t x l → ∃ acc, H4 D = some (.lst acc) ∧ acc.length < sizeLine ∧ Same H1 (upd H4 D (.lst (acc ++ [V.str (fuS b)]))) ∧ upd H4 D (.lst (acc ++ [V.str (fuS b)])) D = some (.lst (((wordB ds t (lks.take (i + 1)) x).map fuS).map V.str)) := fun b eb => by
        refine ⟨_, (s3.trans s4) _ _ hD, ?_, ?_, ?_⟩
        · rw [List.length_map, List.length_map]
          unfold wordB
          rw [List.length_map]
          exact small1000 (by rw [List.length_take]; omega)
        · intro b o e
          rw [upd_ne (ne_of_none e nD)]
          exact (s3.trans s4) _ _ (sm b o e)
        · rw [upd_same, take_more el, eb]
          unfold wordB
          rw [List.map_append, List.map_append, List.map_append]
          rfl
      cases hb : HT.lexLt (full ds t (addL x l)) (full ds t x) with
      | true => exact iteT (key true hb.symm)
      | false => exact iteF (key false hb.symm)
    · rintro H2 ⟨sm, hD⟩
      rw [List.take_of_length_le (by omega)] at hD
      refine ⟨SX.S [], D, _, rfl, rfl, .inl (SqL.of hD), ?_, ?_⟩
      · have : ((List.map fuS (wordB ds t lks x)).map (·.length)).sum = lks.length := by
          rw [List.map_map]
          have e : ∀ l : List Bool, (l.map ((·.length) ∘ fuS)).sum = l.length := fun l => by
            induction l with
            | nil => rfl
            | cons b r ih =>
              rw [List.map_cons, List.sum_cons, ih, List.length_cons]
              show 1 + _ = _
              omega
          rw [e]
          unfold wordB
          rw [List.length_map]
        rw [this]
        show lks.length + _ * 0 ≤ _
        omega
      · rw [join_fu]
        exact q H2 (s1.trans sm)
end
end Lk

/-! zip over two or three sources of any kind -/
namespace Zq
open PySem PySem.Spec PyProof.Rows L2
/-- what is gone through: a list, a tuple, a text -/
inductive Src
  | lst (a : Addr)
  | tup (a : Addr)
  | str (z : Str)
def chs (z : Str) : List V := z.cps.toList.map fun c => V.str ⟨#[c]⟩
def Src.Is (K : PySem.W.Frag) (H : Hp) : Src → List V → Prop
  | .lst a, xs => SqL K H a xs
  | .tup a, xs => SqT K H a xs
  | .str z, xs => xs = chs z
def Src.v : Src → V
  | .lst a => .ref a
  | .tup a => .ref a
  | .str z => .str z
def Src.ad : Src → List Addr
  | .lst a => [a]
  | .tup a => [a]
  | .str _ => []
def Src.st : Src → Addr → Nat → Heap → Prop
  | .lst a, it, i, h => h.IsListIter it a i
  | .tup a, it, i, h => h.IsTupleIter it a i
  | .str z, it, i, h => ∃ t, h.IsStrIter it (strIterType z) z t i
theorem Src.st_obj : ∀ {S : Src} {it : Addr} {i : Nat} {h : Heap}, S.st it i h → ∃ o, h.get? it = some o ∧ ∀ v, o.data ≠ .cell v
  | .lst _, _, _, _, ⟨o, e, _, d⟩ => ⟨o, e, fun v q => by rw [d] at q; cases q⟩
  | .tup _, _, _, _, ⟨o, e, _, d⟩ => ⟨o, e, fun v q => by rw [d] at q; cases q⟩
  | .str _, _, _, _, ⟨t, o, e, _, d⟩ => ⟨o, e, fun v q => by rw [d] at q; cases q⟩
theorem Src.st_keep : ∀ {S : Src} {it : Addr} {i : Nat} {h h2 : Heap}, S.st it i h → (∀ o, h.get? it = some o → h2.get? it = some o) → S.st it i h2
  | .lst _, _, _, _, _, ⟨o, e, r⟩, k => ⟨o, k o e, r⟩
  | .tup _, _, _, _, _, ⟨o, e, r⟩, k => ⟨o, k o e, r⟩
  | .str _, _, _, _, _, ⟨t, o, e, r⟩, k => ⟨t, o, k o e, r⟩
section
variable {X : Cx} {pins : List (Addr × Obj)} {σ : L2.St} {H : Hp} {s : Shared}
theorem vals_back : ∀ {xs : List V} {us : List Value} {j : Nat} {u : Value}, Vals xs us → us[j]? = some u → ∃ v, xs[j]? = some v ∧ RelV v u
  | _, _, 0, _, .cons r _, e => ⟨_, rfl, by cases e; exact r⟩
  | _, _, j + 1, _, .cons _ t, e => vals_back (j := j) t e
theorem valsX3 {x y z : V} {us : List Value} (r : Vals [x, y, z] us) : ∃ u v w, us = [u, v, w] ∧ RelV x u ∧ RelV y v ∧ RelV z w := by
  cases r with
  | cons a r =>
    obtain ⟨v, w, rfl, b, c⟩ := vals2 r
    exact ⟨_, v, w, rfl, a, b, c⟩
theorem Src.inj (I : Inv X pins σ H s) : ∀ {S : Src} {xs ys : List V}, S.Is X.K H xs → S.Is X.K H ys → xs = ys
  | .lst _, _, _, a, b => I.list_inj a b
  | .tup _, _, _, a, b => I.tuple_inj a b
  | .str _, _, _, a, b => (show _ = _ from a).trans (show _ = _ from b).symm
theorem chs_get {z : Str} {j c : Nat} (h : z.cps[j]? = some c) : (chs z)[j]? = some (V.str ⟨#[c]⟩) := by
  unfold chs
  rw [List.getElem?_map, Array.getElem?_toList, h]
  rfl
theorem chs_len (z : Str) : (chs z).length = z.cps.size := by
  unfold chs
  rw [List.length_map, Array.length_toList]
/-- what an iterator over a source draws -/
theorem drawS (I : Inv X pins σ H s) (cal : X.calm = true) : ∀ {S : Src} {xs : List V} {it : Addr} {i : Nat}, S.Is X.K H xs → S.st it i s.heap → (∀ b ∈ S.ad, b ≠ it) →
    ∃ (P : Nat → Value → Prop) (St : Nat → Heap → Prop), Draws X.prog X.w X.A.in1 it (it :: S.ad) xs.length P St ∧ St i s.heap ∧ (∀ j h2, St j h2 → S.st it j h2) ∧ ∀ j u, P j u → ∃ v, xs[j]? = some v ∧ RelV v u
  | .lst a, xs, it, i, h, st, ne => by
    obtain ⟨its, rv, pl, _⟩ := I.list h
    have D := Draws.list (prog := X.prog) (w := X.w) (A := X.A.in1) (I.ok.hd cal) it a (ne a List.mem_cons_self) its.toArray
    rw [show its.toArray.size = xs.length by rw [rv.length]; simp] at D
    refine ⟨_, _, D, ⟨st, pl.isList⟩, fun _ _ q => q.1, fun j u e => ?_⟩
    exact vals_back rv (by simpa using e)
  | .tup a, xs, it, i, h, st, ne => by
    obtain ⟨its, rv, pl, _⟩ := I.tuple h
    have D := Draws.tuple (prog := X.prog) (w := X.w) (A := X.A.in1) (I.ok.hd cal) it a (ne a List.mem_cons_self) its.toArray
    rw [show its.toArray.size = xs.length by rw [rv.length]; simp] at D
    refine ⟨_, _, D, ⟨st, pl⟩, fun _ _ q => q.1, fun j u e => ?_⟩
    exact vals_back rv (by simpa using e)
  | .str z, xs, it, i, h, st, _ => by
    obtain ⟨t, st⟩ := st
    have ex : xs = chs z := h
    subst ex
    have D := Draws.text (prog := X.prog) (w := X.w) (A := X.A.in1) (I.ok.hd cal) it z t
    rw [← chs_len] at D
    refine ⟨_, _, D, st, fun _ _ q => ⟨t, q⟩, fun j u e => ?_⟩
    obtain ⟨c, k, e1, rfl⟩ := e
    exact ⟨_, chs_get e1, ⟨k, rfl⟩⟩
theorem beginS (I : Inv X pins σ H s) : ∀ {S : Src} {xs : List V} {u : Value}, S.Is X.K H xs → RelV S.v u →
    ∃ (o : Obj) (G : Heap → Prop), Begins u o G ∧ G s.heap ∧ (∀ it h2, h2.get? it = some o → S.st it 0 h2) ∧ ∀ b ∈ S.ad, @LT.lt Nat _ b s.heap.objs.size
  | .lst a, xs, u, h, r => by
    obtain ⟨its, rv, pl, _⟩ := I.list h
    cases (show u = .ref a from r)
    refine ⟨_, _, begins_list a its.toArray, pl.isList, fun it h2 e => ⟨_, e, rfl, rfl⟩, fun b hb => ?_⟩
    rw [List.mem_singleton.mp hb]
    exact pl.lt
  | .tup a, xs, u, h, r => by
    obtain ⟨its, rv, pl, _⟩ := I.tuple h
    cases (show u = .ref a from r)
    refine ⟨_, _, begins_tuple a its.toArray, pl, fun it h2 e => ⟨_, e, rfl, rfl⟩, fun b hb => ?_⟩
    rw [List.mem_singleton.mp hb]
    obtain ⟨o, ho, _⟩ := id pl
    exact Heap.lt_size ho
  | .str z, xs, u, h, r => by
    obtain ⟨t, rfl⟩ := (show ∃ t, u = .str z t from r)
    exact ⟨_, _, begins_text z t, trivial, fun it h2 e => ⟨t, _, e, rfl, rfl⟩, fun b hb => by cases hb⟩
end
/-- zip of 2 sources: the items in new tuples -/
def It2 (K : PySem.W.Frag) (S1 S2 : Src) : It :=
  ⟨fun i H => ∃ xs1 xs2 : List V, S1.Is K H xs1 ∧ S2.Is K H xs2 ∧ i < xs1.length ∧ i < xs2.length,
    fun i H v H2 => ∃ (T : Addr) (x1 x2 : V), v = .ref T ∧ H T = none ∧ H2 = upd H T (.tup [x1, x2]) ∧ (∀ xs, S1.Is K H xs → xs[i]? = some x1) ∧ (∀ xs, S2.Is K H xs → xs[i]? = some x2),
    fun i H => ∃ xs1 xs2 : List V, S1.Is K H xs1 ∧ S2.Is K H xs2 ∧ i ≤ xs1.length ∧ i ≤ xs2.length ∧ (i = xs1.length ∨ i = xs2.length)⟩
def tn2 (S1 S2 : Src) (a : Addr) (i : Nat) (h : Heap) : Prop := IsZip h (a + 4) (a + 2) (a + 3) .none ∧ IsTupOf2 h (a + 2) (.ref (a)) (.ref (a + 1)) ∧ (∃ y1 y2, IsTupOf2 h (a + 3) y1 y2) ∧ S1.st (a) i h ∧ S2.st (a + 1) i h
theorem turn2 {P : Program} {w : World} {K : PySem.W.Frag} {elts : List Expr} {kk : Nat} {tpos : Pos} {S1 S2 : Src} {a : Nat} (l1 : ∀ b ∈ S1.ad, @LT.lt Nat _ b a) (l2 : ∀ b ∈ S2.ad, @LT.lt Nat _ b a) :
    Turn P w K (.Tuple elts kk tpos) (It2 K S1 S2) [a + 4, a + 2, a + 3, a, a + 1] (a + 4) (tn2 S1 S2 a) where
  mem := by simp
  obj := fun i h st c hc => by
    obtain ⟨hz, hTI, ⟨y1, y2, hTO⟩, t1, t2⟩ := st
    have ec : c = a + 4 ∨ c = a + 2 ∨ c = a + 3 ∨ c = a ∨ c = a + 1 := by simpa using hc
    rcases ec with e | e | e | e | e
    · rw [e]; exact ⟨_, hz, fun v q => nomatch q⟩
    · rw [e]; exact ⟨_, hTI, fun v q => nomatch q⟩
    · rw [e]; exact ⟨_, hTO, fun v q => nomatch q⟩
    · rw [e]; exact Src.st_obj t1
    · rw [e]; exact Src.st_obj t2
  keep := fun i h h2 st k => by
    obtain ⟨hz, hTI, ⟨y1, y2, hTO⟩, t1, t2⟩ := st
    exact ⟨k _ (by simp) _ hz, k _ (by simp) _ hTI, ⟨_, _, k _ (by simp) _ hTO⟩, Src.st_keep t1 (k _ (by simp)), Src.st_keep t2 (k _ (by simp))⟩
  item := by
    intro X e1 e2 e3 cal i pins s σ H E I fr st gg
    subst e1 e2 e3
    obtain ⟨hz, hTI, ⟨y1, y2, hTO⟩, t1, t2⟩ := st
    obtain ⟨xs1, xs2, q1, q2, gg⟩ := gg
    obtain ⟨P1, St1, D1, u1, b1, m1⟩ := drawS I cal q1 t1 fun b hb => (show @Ne Nat _ _ from by have := l1 b hb; omega)
    obtain ⟨P2, St2, D2, u2, b2, m2⟩ := drawS I cal q2 t2 fun b hb => (show @Ne Nat _ _ from by have := l2 b hb; omega)
    have sp : ZipSep2 (a + 4) (a + 2) (a + 3) (a) (a + 1) ((a) :: S1.ad) ((a + 1) :: S2.ad) := {
      TIz := (show @Ne Nat _ _ from by omega)
      TOz := (show @Ne Nat _ _ from by omega)
      TITO := (show @Ne Nat _ _ from by omega)
      TIi1 := (show @Ne Nat _ _ from by omega)
      mem1 := List.mem_cons_self
      zf1 := fun h => by
        rcases List.mem_cons.mp h with h | h
        · exact (show @Ne Nat _ _ from by omega) h
        · have := l1 _ h; omega
      Tf1 := fun h => by
        rcases List.mem_cons.mp h with h | h
        · exact (show @Ne Nat _ _ from by omega) h
        · have := l1 _ h; omega
      TIi2 := (show @Ne Nat _ _ from by omega)
      mem2 := List.mem_cons_self
      zf2 := fun h => by
        rcases List.mem_cons.mp h with h | h
        · exact (show @Ne Nat _ _ from by omega) h
        · have := l2 _ h; omega
      Tf2 := fun h => by
        rcases List.mem_cons.mp h with h | h
        · exact (show @Ne Nat _ _ from by omega) h
        · have := l2 _ h; omega
      sep1_2 := fun h => by
        rcases List.mem_cons.mp h with h | h
        · exact (show @Ne Nat _ _ from by omega) h
        · have := l2 _ h; omega
      sep2_1 := fun h => by
        rcases List.mem_cons.mp h with h | h
        · exact (show @Ne Nat _ _ from by omega) h
        · have := l1 _ h; omega }
    obtain ⟨i1, i2⟩ := gg
    refine wpAny_pyNext_zipD2_item sp D1 D2 hz hTI hTO u1 u2 i1 i2 fun v1 v2 h2 tk p1 p2 z2 TO2 d1 d2 new sz kp => ?_
    obtain ⟨x1, f1, r1⟩ := m1 i v1 p1
    obtain ⟨x2, f2, r2⟩ := m2 i v2 p2
    have big : ∀ {c o}, s.heap.get? c = some o → c ≠ s.heap.objs.size := fun e => Nat.ne_of_lt (Heap.lt_size e)
    refine ⟨_, rfl, wpAny_letOwnedTupleGo_zip (s := { s with heap := h2, toks := tk }) z2 fun h3 z3 sb => ?_⟩
    have T3 : h3.get? s.heap.objs.size = some { cls := .type "tuple", data := .seq #[v1, v2] } := (sb.2 _ (Ne.symm (big hz))).trans new
    have ok : ObjOk X.prog X.w (upd H s.heap.objs.size (.tup [x1, x2])) h3 s.heap.objs.size (.tup [x1, x2]) := ⟨by show 2 ≤ sizeLine; decide, [v1, v2], .cons r1 (.cons r2 .nil), ⟨_, T3, rfl, _, rfl⟩⟩
    have J3 : Inv X pins σ (upd H s.heap.objs.size (.tup [x1, x2])) { s with heap := h3, toks := tk } :=
      I.turnedNew (ch := [a + 4, a + 2, a + 3, a, a + 1]) (fun c o hb e => (sb.2 c (fun x => hb (by simp [x]))).trans (kp c o (fun x => hb (by simp [x])) (fun x => hb (by simp [x])) (fun x => hb (by simp [x])) (fun x => hb (by simp [x])) e)) fr (Nat.le_refl _) ok
    refine ⟨.ref s.heap.objs.size, _, J3, rfl, ⟨_, x1, x2, rfl, I.hok.fresh (Nat.le_refl _), rfl, fun l hl => by rw [Src.inj I hl q1]; exact f1, fun l hl => by rw [Src.inj I hl q2]; exact f2⟩, ⟨z3, ?_, ⟨v1, v2, ?_⟩, ?_, ?_⟩, fun c hcm => ?_⟩
    · exact (sb.2 _ (show @Ne Nat _ _ from by omega)).trans (kp _ _ (show @Ne Nat _ _ from by omega) (show @Ne Nat _ _ from by omega) (show @Ne Nat _ _ from by omega) (show @Ne Nat _ _ from by omega) hTI)
    · exact (sb.2 _ (show @Ne Nat _ _ from by omega)).trans TO2
    · exact Src.st_keep (b1 _ _ d1) fun o q => (sb.2 _ (show @Ne Nat _ _ from by omega)).trans q
    · exact Src.st_keep (b2 _ _ d2) fun o q => (sb.2 _ (show @Ne Nat _ _ from by omega)).trans q
    · have ne : c ≠ s.heap.objs.size := by
        have ec : c = a + 4 ∨ c = a + 2 ∨ c = a + 3 ∨ c = a ∨ c = a + 1 := by simpa using hcm
        rcases ec with e | e | e | e | e
        · rw [e]; exact big hz
        · rw [e]; exact big hTI
        · rw [e]; exact big hTO
        · rw [e]; obtain ⟨_, e4, _⟩ := Src.st_obj t1; exact big e4
        · rw [e]; obtain ⟨_, e4, _⟩ := Src.st_obj t2; exact big e4
      rw [upd_ne ne]
      exact (fr c hcm).1
  done := by
    intro X e1 e2 e3 cal i pins s σ H E I fr st gg
    subst e1 e2 e3
    obtain ⟨hz, hTI, ⟨y1, y2, hTO⟩, t1, t2⟩ := st
    obtain ⟨xs1, xs2, q1, q2, gg⟩ := gg
    obtain ⟨P1, St1, D1, u1, b1, m1⟩ := drawS I cal q1 t1 fun b hb => (show @Ne Nat _ _ from by have := l1 b hb; omega)
    obtain ⟨P2, St2, D2, u2, b2, m2⟩ := drawS I cal q2 t2 fun b hb => (show @Ne Nat _ _ from by have := l2 b hb; omega)
    have sp : ZipSep2 (a + 4) (a + 2) (a + 3) (a) (a + 1) ((a) :: S1.ad) ((a + 1) :: S2.ad) := {
      TIz := (show @Ne Nat _ _ from by omega)
      TOz := (show @Ne Nat _ _ from by omega)
      TITO := (show @Ne Nat _ _ from by omega)
      TIi1 := (show @Ne Nat _ _ from by omega)
      mem1 := List.mem_cons_self
      zf1 := fun h => by
        rcases List.mem_cons.mp h with h | h
        · exact (show @Ne Nat _ _ from by omega) h
        · have := l1 _ h; omega
      Tf1 := fun h => by
        rcases List.mem_cons.mp h with h | h
        · exact (show @Ne Nat _ _ from by omega) h
        · have := l1 _ h; omega
      TIi2 := (show @Ne Nat _ _ from by omega)
      mem2 := List.mem_cons_self
      zf2 := fun h => by
        rcases List.mem_cons.mp h with h | h
        · exact (show @Ne Nat _ _ from by omega) h
        · have := l2 _ h; omega
      Tf2 := fun h => by
        rcases List.mem_cons.mp h with h | h
        · exact (show @Ne Nat _ _ from by omega) h
        · have := l2 _ h; omega
      sep1_2 := fun h => by
        rcases List.mem_cons.mp h with h | h
        · exact (show @Ne Nat _ _ from by omega) h
        · have := l2 _ h; omega
      sep2_1 := fun h => by
        rcases List.mem_cons.mp h with h | h
        · exact (show @Ne Nat _ _ from by omega) h
        · have := l1 _ h; omega }
    obtain ⟨i1, i2, fin⟩ := gg
    exact wpAny_pyNext_zipD2_end sp D1 D2 hz hTI hTO u1 u2 i1 i2 fin fun h2 tk kp => ⟨rfl, I.turnedL (t' := tk) (ch := [a + 4, a + 2, a + 3, a, a + 1]) (fun c o hb q => kp c o (fun x => hb (by simp [x])) (fun x => hb (by simp [x])) (fun x => hb (by simp [x])) (fun x => hb (by simp [x])) q) fr⟩
  self := fun A i s Q E st h => wpAny_pyIter_zip st.1 h
def iZip2 (K : PySem.W.Frag) (ta : TA) : TI := fun σ H R => ta σ H fun vs H1 => ∃ (S1 S2 : Src) (xs1 xs2 : List V), vs = [S1.v, S2.v] ∧ S1.Is K H1 xs1 ∧ S2.Is K H1 xs2 ∧ R (It2 K S1 S2) H1
theorem pi_zip2 {X : Cx} {e e2 : Expr} {ta : TA} {p pos tpos : Pos} {elts : List Expr} {kk : Nat} (hg : Gl X "zip") (hm : X.mg "zip" = none) (ha : PA X [e, e2] ta)
    (hs : starEach [e, e2] X.env = (false, eval e X.env) :: starEach [e2] X.env := by rfl) (hpl : (backTo pos (starEach [e2] X.env)).any (·.1) = false := by rfl) :
    PI X (.Tuple elts kk tpos) (.Call (.Name "zip" p) [e, e2] [] pos) (iZip2 X.K ta) := by
  refine ⟨fun pins s σ H R I h => Call_ (ld_blt I hg hm PyProof.Rows.boot_zip (PyProof.Rows.callWith_type1 (thn (ha.run pos pins s σ H _ I h) fun us s1 ⟨vs, H1, I1, r1, q1⟩ => ?_) hs hpl))⟩
  obtain ⟨S1, S2, xs1, xs2, rfl, q1, q2, q⟩ := q1
  obtain ⟨w1, w2, rfl, g1, g2⟩ := vals2 r1
  obtain ⟨o1, G1, B1, j1, st1, lt1⟩ := beginS I1 q1 g1
  obtain ⟨o2, G2, B2, j2, st2, lt2⟩ := beginS I1 q2 g2
  refine zip_begins2 B1 B2 j1 j2 fun h2 hz hTI hTO c1 c2 sz kp => wpAny_pyIter_zip hz ?_
  have I2 : Inv X pins σ H1 { s1 with heap := h2 } := I1.kept (t' := s1.toks) kp
  refine ⟨_, [s1.heap.objs.size + 4, s1.heap.objs.size + 2, s1.heap.objs.size + 3, s1.heap.objs.size, s1.heap.objs.size + 1], tn2 S1 S2 s1.heap.objs.size, _, H1, rfl, I2, turn2 lt1 lt2, ⟨hz, hTI, ⟨_, _, hTO⟩, st1 _ _ c1, st2 _ _ c2⟩, fun c hcm => ?_, q⟩
  have le : s1.heap.objs.size ≤ c := by
    have ec : c = s1.heap.objs.size + 4 ∨ c = s1.heap.objs.size + 2 ∨ c = s1.heap.objs.size + 3 ∨ c = s1.heap.objs.size ∨ c = s1.heap.objs.size + 1 := by simpa using hcm
    rcases ec with e | e | e | e | e
    · rw [e]; exact Nat.le_add_right _ _
    · rw [e]; exact Nat.le_add_right _ _
    · rw [e]; exact Nat.le_add_right _ _
    · rw [e]; exact Nat.le_refl _
    · rw [e]; exact Nat.le_add_right _ _
  exact I1.fpOk le (I1.hok.fresh le)
def YTup2 (xs1 xs2 : List V) : Nat → Hp → V → Hp → Prop := fun i H v H2 => ∃ (T : Addr) (x1 x2 : V), v = .ref T ∧ H T = none ∧ H2 = upd H T (.tup [x1, x2]) ∧ xs1[i]? = some x1 ∧ xs2[i]? = some x2
theorem walk2 {K : PySem.W.Frag} {S1 S2 : Src} {xs1 xs2 : List V} {m : Nat} (e1 : xs1.length = m) (e2 : xs2.length = m) :
    Walk (It2 K S1 S2) m (fun H => S1.Is K H xs1 ∧ S2.Is K H xs2) (YTup2 xs1 xs2) := by
  refine ⟨fun i H hi q => ?_, fun H q => ?_, fun i H x H2 hi q y => ?_⟩
  · obtain ⟨q1, q2⟩ := q
    exact ⟨xs1, xs2, q1, q2, by omega, by omega⟩
  · obtain ⟨q1, q2⟩ := q
    exact ⟨xs1, xs2, q1, q2, by omega, by omega, .inl (by omega)⟩
  · obtain ⟨q1, q2⟩ := q
    obtain ⟨T, x1, x2, f1, f2, f3, k1, k2⟩ := y
    exact ⟨T, x1, x2, f1, f2, f3, k1 _ q1, k2 _ q2⟩
/-- zip of 3 sources: the items in new tuples -/
def It3 (K : PySem.W.Frag) (S1 S2 S3 : Src) : It :=
  ⟨fun i H => ∃ xs1 xs2 xs3 : List V, S1.Is K H xs1 ∧ S2.Is K H xs2 ∧ S3.Is K H xs3 ∧ i < xs1.length ∧ i < xs2.length ∧ i < xs3.length,
    fun i H v H2 => ∃ (T : Addr) (x1 x2 x3 : V), v = .ref T ∧ H T = none ∧ H2 = upd H T (.tup [x1, x2, x3]) ∧ (∀ xs, S1.Is K H xs → xs[i]? = some x1) ∧ (∀ xs, S2.Is K H xs → xs[i]? = some x2) ∧ (∀ xs, S3.Is K H xs → xs[i]? = some x3),
    fun i H => ∃ xs1 xs2 xs3 : List V, S1.Is K H xs1 ∧ S2.Is K H xs2 ∧ S3.Is K H xs3 ∧ i ≤ xs1.length ∧ i ≤ xs2.length ∧ i ≤ xs3.length ∧ (i = xs1.length ∨ i = xs2.length ∨ i = xs3.length)⟩
def tn3 (S1 S2 S3 : Src) (a : Addr) (i : Nat) (h : Heap) : Prop := IsZip h (a + 5) (a + 3) (a + 4) .none ∧ IsTupOf3 h (a + 3) (.ref (a)) (.ref (a + 1)) (.ref (a + 2)) ∧ (∃ y1 y2 y3, IsTupOf3 h (a + 4) y1 y2 y3) ∧ S1.st (a) i h ∧ S2.st (a + 1) i h ∧ S3.st (a + 2) i h
theorem turn3 {P : Program} {w : World} {K : PySem.W.Frag} {elts : List Expr} {kk : Nat} {tpos : Pos} {S1 S2 S3 : Src} {a : Nat} (l1 : ∀ b ∈ S1.ad, @LT.lt Nat _ b a) (l2 : ∀ b ∈ S2.ad, @LT.lt Nat _ b a) (l3 : ∀ b ∈ S3.ad, @LT.lt Nat _ b a) :
    Turn P w K (.Tuple elts kk tpos) (It3 K S1 S2 S3) [a + 5, a + 3, a + 4, a, a + 1, a + 2] (a + 5) (tn3 S1 S2 S3 a) where
  mem := by simp
  obj := fun i h st c hc => by
    obtain ⟨hz, hTI, ⟨y1, y2, y3, hTO⟩, t1, t2, t3⟩ := st
    have ec : c = a + 5 ∨ c = a + 3 ∨ c = a + 4 ∨ c = a ∨ c = a + 1 ∨ c = a + 2 := by simpa using hc
    rcases ec with e | e | e | e | e | e
    · rw [e]; exact ⟨_, hz, fun v q => nomatch q⟩
    · rw [e]; exact ⟨_, hTI, fun v q => nomatch q⟩
    · rw [e]; exact ⟨_, hTO, fun v q => nomatch q⟩
    · rw [e]; exact Src.st_obj t1
    · rw [e]; exact Src.st_obj t2
    · rw [e]; exact Src.st_obj t3
  keep := fun i h h2 st k => by
    obtain ⟨hz, hTI, ⟨y1, y2, y3, hTO⟩, t1, t2, t3⟩ := st
    exact ⟨k _ (by simp) _ hz, k _ (by simp) _ hTI, ⟨_, _, _, k _ (by simp) _ hTO⟩, Src.st_keep t1 (k _ (by simp)), Src.st_keep t2 (k _ (by simp)), Src.st_keep t3 (k _ (by simp))⟩
  item := by
    intro X e1 e2 e3 cal i pins s σ H E I fr st gg
    subst e1 e2 e3
    obtain ⟨hz, hTI, ⟨y1, y2, y3, hTO⟩, t1, t2, t3⟩ := st
    obtain ⟨xs1, xs2, xs3, q1, q2, q3, gg⟩ := gg
    obtain ⟨P1, St1, D1, u1, b1, m1⟩ := drawS I cal q1 t1 fun b hb => (show @Ne Nat _ _ from by have := l1 b hb; omega)
    obtain ⟨P2, St2, D2, u2, b2, m2⟩ := drawS I cal q2 t2 fun b hb => (show @Ne Nat _ _ from by have := l2 b hb; omega)
    obtain ⟨P3, St3, D3, u3, b3, m3⟩ := drawS I cal q3 t3 fun b hb => (show @Ne Nat _ _ from by have := l3 b hb; omega)
    have sp : ZipSep3 (a + 5) (a + 3) (a + 4) (a) (a + 1) (a + 2) ((a) :: S1.ad) ((a + 1) :: S2.ad) ((a + 2) :: S3.ad) := {
      TIz := (show @Ne Nat _ _ from by omega)
      TOz := (show @Ne Nat _ _ from by omega)
      TITO := (show @Ne Nat _ _ from by omega)
      TIi1 := (show @Ne Nat _ _ from by omega)
      mem1 := List.mem_cons_self
      zf1 := fun h => by
        rcases List.mem_cons.mp h with h | h
        · exact (show @Ne Nat _ _ from by omega) h
        · have := l1 _ h; omega
      Tf1 := fun h => by
        rcases List.mem_cons.mp h with h | h
        · exact (show @Ne Nat _ _ from by omega) h
        · have := l1 _ h; omega
      TIi2 := (show @Ne Nat _ _ from by omega)
      mem2 := List.mem_cons_self
      zf2 := fun h => by
        rcases List.mem_cons.mp h with h | h
        · exact (show @Ne Nat _ _ from by omega) h
        · have := l2 _ h; omega
      Tf2 := fun h => by
        rcases List.mem_cons.mp h with h | h
        · exact (show @Ne Nat _ _ from by omega) h
        · have := l2 _ h; omega
      TIi3 := (show @Ne Nat _ _ from by omega)
      mem3 := List.mem_cons_self
      zf3 := fun h => by
        rcases List.mem_cons.mp h with h | h
        · exact (show @Ne Nat _ _ from by omega) h
        · have := l3 _ h; omega
      Tf3 := fun h => by
        rcases List.mem_cons.mp h with h | h
        · exact (show @Ne Nat _ _ from by omega) h
        · have := l3 _ h; omega
      sep1_2 := fun h => by
        rcases List.mem_cons.mp h with h | h
        · exact (show @Ne Nat _ _ from by omega) h
        · have := l2 _ h; omega
      sep1_3 := fun h => by
        rcases List.mem_cons.mp h with h | h
        · exact (show @Ne Nat _ _ from by omega) h
        · have := l3 _ h; omega
      sep2_1 := fun h => by
        rcases List.mem_cons.mp h with h | h
        · exact (show @Ne Nat _ _ from by omega) h
        · have := l1 _ h; omega
      sep2_3 := fun h => by
        rcases List.mem_cons.mp h with h | h
        · exact (show @Ne Nat _ _ from by omega) h
        · have := l3 _ h; omega
      sep3_1 := fun h => by
        rcases List.mem_cons.mp h with h | h
        · exact (show @Ne Nat _ _ from by omega) h
        · have := l1 _ h; omega
      sep3_2 := fun h => by
        rcases List.mem_cons.mp h with h | h
        · exact (show @Ne Nat _ _ from by omega) h
        · have := l2 _ h; omega }
    obtain ⟨i1, i2, i3⟩ := gg
    refine wpAny_pyNext_zipD3_item sp D1 D2 D3 hz hTI hTO u1 u2 u3 i1 i2 i3 fun v1 v2 v3 h2 tk p1 p2 p3 z2 TO2 d1 d2 d3 new sz kp => ?_
    obtain ⟨x1, f1, r1⟩ := m1 i v1 p1
    obtain ⟨x2, f2, r2⟩ := m2 i v2 p2
    obtain ⟨x3, f3, r3⟩ := m3 i v3 p3
    have big : ∀ {c o}, s.heap.get? c = some o → c ≠ s.heap.objs.size := fun e => Nat.ne_of_lt (Heap.lt_size e)
    refine ⟨_, rfl, wpAny_letOwnedTupleGo_zip (s := { s with heap := h2, toks := tk }) z2 fun h3 z3 sb => ?_⟩
    have T3 : h3.get? s.heap.objs.size = some { cls := .type "tuple", data := .seq #[v1, v2, v3] } := (sb.2 _ (Ne.symm (big hz))).trans new
    have ok : ObjOk X.prog X.w (upd H s.heap.objs.size (.tup [x1, x2, x3])) h3 s.heap.objs.size (.tup [x1, x2, x3]) := ⟨by show 3 ≤ sizeLine; decide, [v1, v2, v3], .cons r1 (.cons r2 (.cons r3 .nil)), ⟨_, T3, rfl, _, rfl⟩⟩
    have J3 : Inv X pins σ (upd H s.heap.objs.size (.tup [x1, x2, x3])) { s with heap := h3, toks := tk } :=
      I.turnedNew (ch := [a + 5, a + 3, a + 4, a, a + 1, a + 2]) (fun c o hb e => (sb.2 c (fun x => hb (by simp [x]))).trans (kp c o (fun x => hb (by simp [x])) (fun x => hb (by simp [x])) (fun x => hb (by simp [x])) (fun x => hb (by simp [x])) (fun x => hb (by simp [x])) e)) fr (Nat.le_refl _) ok
    refine ⟨.ref s.heap.objs.size, _, J3, rfl, ⟨_, x1, x2, x3, rfl, I.hok.fresh (Nat.le_refl _), rfl, fun l hl => by rw [Src.inj I hl q1]; exact f1, fun l hl => by rw [Src.inj I hl q2]; exact f2, fun l hl => by rw [Src.inj I hl q3]; exact f3⟩, ⟨z3, ?_, ⟨v1, v2, v3, ?_⟩, ?_, ?_, ?_⟩, fun c hcm => ?_⟩
    · exact (sb.2 _ (show @Ne Nat _ _ from by omega)).trans (kp _ _ (show @Ne Nat _ _ from by omega) (show @Ne Nat _ _ from by omega) (show @Ne Nat _ _ from by omega) (show @Ne Nat _ _ from by omega) (show @Ne Nat _ _ from by omega) hTI)
    · exact (sb.2 _ (show @Ne Nat _ _ from by omega)).trans TO2
    · exact Src.st_keep (b1 _ _ d1) fun o q => (sb.2 _ (show @Ne Nat _ _ from by omega)).trans q
    · exact Src.st_keep (b2 _ _ d2) fun o q => (sb.2 _ (show @Ne Nat _ _ from by omega)).trans q
    · exact Src.st_keep (b3 _ _ d3) fun o q => (sb.2 _ (show @Ne Nat _ _ from by omega)).trans q
    · have ne : c ≠ s.heap.objs.size := by
        have ec : c = a + 5 ∨ c = a + 3 ∨ c = a + 4 ∨ c = a ∨ c = a + 1 ∨ c = a + 2 := by simpa using hcm
        rcases ec with e | e | e | e | e | e
        · rw [e]; exact big hz
        · rw [e]; exact big hTI
        · rw [e]; exact big hTO
        · rw [e]; obtain ⟨_, e4, _⟩ := Src.st_obj t1; exact big e4
        · rw [e]; obtain ⟨_, e4, _⟩ := Src.st_obj t2; exact big e4
        · rw [e]; obtain ⟨_, e4, _⟩ := Src.st_obj t3; exact big e4
      rw [upd_ne ne]
      exact (fr c hcm).1
  done := by
    intro X e1 e2 e3 cal i pins s σ H E I fr st gg
    subst e1 e2 e3
    obtain ⟨hz, hTI, ⟨y1, y2, y3, hTO⟩, t1, t2, t3⟩ := st
    obtain ⟨xs1, xs2, xs3, q1, q2, q3, gg⟩ := gg
    obtain ⟨P1, St1, D1, u1, b1, m1⟩ := drawS I cal q1 t1 fun b hb => (show @Ne Nat _ _ from by have := l1 b hb; omega)
    obtain ⟨P2, St2, D2, u2, b2, m2⟩ := drawS I cal q2 t2 fun b hb => (show @Ne Nat _ _ from by have := l2 b hb; omega)
    obtain ⟨P3, St3, D3, u3, b3, m3⟩ := drawS I cal q3 t3 fun b hb => (show @Ne Nat _ _ from by have := l3 b hb; omega)
    have sp : ZipSep3 (a + 5) (a + 3) (a + 4) (a) (a + 1) (a + 2) ((a) :: S1.ad) ((a + 1) :: S2.ad) ((a + 2) :: S3.ad) := {
      TIz := (show @Ne Nat _ _ from by omega)
      TOz := (show @Ne Nat _ _ from by omega)
      TITO := (show @Ne Nat _ _ from by omega)
      TIi1 := (show @Ne Nat _ _ from by omega)
      mem1 := List.mem_cons_self
      zf1 := fun h => by
        rcases List.mem_cons.mp h with h | h
        · exact (show @Ne Nat _ _ from by omega) h
        · have := l1 _ h; omega
      Tf1 := fun h => by
        rcases List.mem_cons.mp h with h | h
        · exact (show @Ne Nat _ _ from by omega) h
        · have := l1 _ h; omega
      TIi2 := (show @Ne Nat _ _ from by omega)
      mem2 := List.mem_cons_self
      zf2 := fun h => by
        rcases List.mem_cons.mp h with h | h
        · exact (show @Ne Nat _ _ from by omega) h
        · have := l2 _ h; omega
      Tf2 := fun h => by
        rcases List.mem_cons.mp h with h | h
        · exact (show @Ne Nat _ _ from by omega) h
        · have := l2 _ h; omega
      TIi3 := (show @Ne Nat _ _ from by omega)
      mem3 := List.mem_cons_self
      zf3 := fun h => by
        rcases List.mem_cons.mp h with h | h
        · exact (show @Ne Nat _ _ from by omega) h
        · have := l3 _ h; omega
      Tf3 := fun h => by
        rcases List.mem_cons.mp h with h | h
        · exact (show @Ne Nat _ _ from by omega) h
        · have := l3 _ h; omega
      sep1_2 := fun h => by
        rcases List.mem_cons.mp h with h | h
        · exact (show @Ne Nat _ _ from by omega) h
        · have := l2 _ h; omega
      sep1_3 := fun h => by
        rcases List.mem_cons.mp h with h | h
        · exact (show @Ne Nat _ _ from by omega) h
        · have := l3 _ h; omega
      sep2_1 := fun h => by
        rcases List.mem_cons.mp h with h | h
        · exact (show @Ne Nat _ _ from by omega) h
        · have := l1 _ h; omega
      sep2_3 := fun h => by
        rcases List.mem_cons.mp h with h | h
        · exact (show @Ne Nat _ _ from by omega) h
        · have := l3 _ h; omega
      sep3_1 := fun h => by
        rcases List.mem_cons.mp h with h | h
        · exact (show @Ne Nat _ _ from by omega) h
        · have := l1 _ h; omega
      sep3_2 := fun h => by
        rcases List.mem_cons.mp h with h | h
        · exact (show @Ne Nat _ _ from by omega) h
        · have := l2 _ h; omega }
    obtain ⟨i1, i2, i3, fin⟩ := gg
    exact wpAny_pyNext_zipD3_end sp D1 D2 D3 hz hTI hTO u1 u2 u3 i1 i2 i3 fin fun h2 tk kp => ⟨rfl, I.turnedL (t' := tk) (ch := [a + 5, a + 3, a + 4, a, a + 1, a + 2]) (fun c o hb q => kp c o (fun x => hb (by simp [x])) (fun x => hb (by simp [x])) (fun x => hb (by simp [x])) (fun x => hb (by simp [x])) (fun x => hb (by simp [x])) q) fr⟩
  self := fun A i s Q E st h => wpAny_pyIter_zip st.1 h
def iZip3 (K : PySem.W.Frag) (ta : TA) : TI := fun σ H R => ta σ H fun vs H1 => ∃ (S1 S2 S3 : Src) (xs1 xs2 xs3 : List V), vs = [S1.v, S2.v, S3.v] ∧ S1.Is K H1 xs1 ∧ S2.Is K H1 xs2 ∧ S3.Is K H1 xs3 ∧ R (It3 K S1 S2 S3) H1
theorem pi_zip3 {X : Cx} {e e2 e3 : Expr} {ta : TA} {p pos tpos : Pos} {elts : List Expr} {kk : Nat} (hg : Gl X "zip") (hm : X.mg "zip" = none) (ha : PA X [e, e2, e3] ta)
    (hs : starEach [e, e2, e3] X.env = (false, eval e X.env) :: starEach [e2, e3] X.env := by rfl) (hpl : (backTo pos (starEach [e2, e3] X.env)).any (·.1) = false := by rfl) :
    PI X (.Tuple elts kk tpos) (.Call (.Name "zip" p) [e, e2, e3] [] pos) (iZip3 X.K ta) := by
  refine ⟨fun pins s σ H R I h => Call_ (ld_blt I hg hm PyProof.Rows.boot_zip (PyProof.Rows.callWith_type1 (thn (ha.run pos pins s σ H _ I h) fun us s1 ⟨vs, H1, I1, r1, q1⟩ => ?_) hs hpl))⟩
  obtain ⟨S1, S2, S3, xs1, xs2, xs3, rfl, q1, q2, q3, q⟩ := q1
  obtain ⟨w1, w2, w3, rfl, g1, g2, g3⟩ := valsX3 r1
  obtain ⟨o1, G1, B1, j1, st1, lt1⟩ := beginS I1 q1 g1
  obtain ⟨o2, G2, B2, j2, st2, lt2⟩ := beginS I1 q2 g2
  obtain ⟨o3, G3, B3, j3, st3, lt3⟩ := beginS I1 q3 g3
  refine zip_begins3 B1 B2 B3 j1 j2 j3 fun h2 hz hTI hTO c1 c2 c3 sz kp => wpAny_pyIter_zip hz ?_
  have I2 : Inv X pins σ H1 { s1 with heap := h2 } := I1.kept (t' := s1.toks) kp
  refine ⟨_, [s1.heap.objs.size + 5, s1.heap.objs.size + 3, s1.heap.objs.size + 4, s1.heap.objs.size, s1.heap.objs.size + 1, s1.heap.objs.size + 2], tn3 S1 S2 S3 s1.heap.objs.size, _, H1, rfl, I2, turn3 lt1 lt2 lt3, ⟨hz, hTI, ⟨_, _, _, hTO⟩, st1 _ _ c1, st2 _ _ c2, st3 _ _ c3⟩, fun c hcm => ?_, q⟩
  have le : s1.heap.objs.size ≤ c := by
    have ec : c = s1.heap.objs.size + 5 ∨ c = s1.heap.objs.size + 3 ∨ c = s1.heap.objs.size + 4 ∨ c = s1.heap.objs.size ∨ c = s1.heap.objs.size + 1 ∨ c = s1.heap.objs.size + 2 := by simpa using hcm
    rcases ec with e | e | e | e | e | e
    · rw [e]; exact Nat.le_add_right _ _
    · rw [e]; exact Nat.le_add_right _ _
    · rw [e]; exact Nat.le_add_right _ _
    · rw [e]; exact Nat.le_refl _
    · rw [e]; exact Nat.le_add_right _ _
    · rw [e]; exact Nat.le_add_right _ _
  exact I1.fpOk le (I1.hok.fresh le)
def YTup3 (xs1 xs2 xs3 : List V) : Nat → Hp → V → Hp → Prop := fun i H v H2 => ∃ (T : Addr) (x1 x2 x3 : V), v = .ref T ∧ H T = none ∧ H2 = upd H T (.tup [x1, x2, x3]) ∧ xs1[i]? = some x1 ∧ xs2[i]? = some x2 ∧ xs3[i]? = some x3
theorem walk3 {K : PySem.W.Frag} {S1 S2 S3 : Src} {xs1 xs2 xs3 : List V} {m : Nat} (e1 : xs1.length = m) (e2 : xs2.length = m) (e3 : xs3.length = m) :
    Walk (It3 K S1 S2 S3) m (fun H => S1.Is K H xs1 ∧ S2.Is K H xs2 ∧ S3.Is K H xs3) (YTup3 xs1 xs2 xs3) := by
  refine ⟨fun i H hi q => ?_, fun H q => ?_, fun i H x H2 hi q y => ?_⟩
  · obtain ⟨q1, q2, q3⟩ := q
    exact ⟨xs1, xs2, xs3, q1, q2, q3, by omega, by omega, by omega⟩
  · obtain ⟨q1, q2, q3⟩ := q
    exact ⟨xs1, xs2, xs3, q1, q2, q3, by omega, by omega, by omega, .inl (by omega)⟩
  · obtain ⟨q1, q2, q3⟩ := q
    obtain ⟨T, x1, x2, x3, f1, f2, f3, k1, k2, k3⟩ := y
    exact ⟨T, x1, x2, x3, f1, f2, f3, k1 _ q1, k2 _ q2, k3 _ q3⟩
end Zq

namespace Lk
open PySem L2 Lx LamX LrA LqA
/-! ### groups that do not have each class once -/
def BadG (gs : Gs) (n : Nat) : Prop := (∀ c ∈ gs.heads, c ≠ [] ∧ c.Pairwise (· < ·)) ∧ gs.heads.flatten.length ≤ 60 ∧ ¬ gs.classes.Perm (rng0 n)
def spGroupsF (K : PySem.W.Frag) : Sp := fun vs H Q _ => ∃ (a : Addr) (ws : List V) (gs : Gs) (n : Nat), vs = [.ref a, .int n] ∧ SqT K H a ws ∧ GsAt K H gs ws ∧ n ≤ 12 ∧ BadG gs n ∧ ∀ H', Same H H' → Q (.bl false) H'
def spIsKeyF (K : PySem.W.Frag) : Sp := fun vs H Q _ => ∃ (v : V) (gs : Gs) (d n : Nat), vs = [v, .int d, .int n] ∧ TrAt K H (.fork gs) v ∧ ∀ H', Same H H' → Q (.bl false) H'
def spIsForkF (K : PySem.W.Frag) : Sp := fun vs H Q _ => ∃ (v : V) (gs : Gs) (n : Nat), vs = [v, .int n] ∧ TrAt K H (.fork gs) v ∧ n ≤ 12 ∧ BadG gs n ∧ ∀ H', Same H H' → Q (.bl false) H'
def spInnerF (K : PySem.W.Frag) (C : Addr) : Sp := fun vs H _ E => ∃ (v : V) (gs : Gs) (d n : Nat), vs = [v, .int d, .int n] ∧ TrAt K H (.fork gs) v ∧ n ≤ 12 ∧ BadG gs n ∧ SeqAt.shaped (Tr.fork gs).toD = true ∧ ItK C H E
def spNodesF (K : PySem.W.Frag) (C : Addr) : Sp := fun vs H _ E => ∃ (v : V) (a : Addr) (gs : Gs) (ds : List Int) (n : Nat), vs = [v, .ref a, .int 200, .int 20] ∧ TrAt K H (.fork gs) v ∧ SqT K H a (ds.map V.int) ∧ Divs ds ∧ ds.length ≤ 3 ∧ prodL ds = (n : Int) ∧ BadG gs n ∧ SeqAt.shaped (Tr.fork gs).toD = true ∧ ItK C H E
def spInitF (K : PySem.W.Frag) (C CE : Addr) : Sp := fun vs H _ E => ∃ (p dx a : Addr) (v : V) (ds : List Int) (n : Nat) (gs : Gs), vs = [.ref p, .ref a, v] ∧ H p = some (.ins C dx []) ∧ SqT K H a (ds.map V.int) ∧ TrAt K H (.fork gs) v ∧ Divs ds ∧ 1 ≤ ds.length ∧ ds.length ≤ 3 ∧ prodL ds = (n : Int) ∧ BadG gs n ∧ SeqAt.shaped (Tr.fork gs).toD = true ∧ ItP CE p H E
section
variable {P : Program} {w : World} {K : PySem.W.Frag} {mg : Str → Option Value} {base : Heap}
end
end Lk

namespace Lk
open PySem L2 Lx LamX LrA LqA
/-! ### moved trees with other ends -/
theorem dot_row {mat : List (List Int)} {row x : List Int} {d : Nat} (h1 : 1 ≤ d) (h3 : d ≤ 3) (M : mat.length = d) (hr : ∀ r ∈ mat, r.length = d) (lr : row.length = d) (lx : x.length = d) : dotL (rowM row mat) x = dotL row (mulM mat x) := by
  rcases small_d h1 h3 with rfl | rfl | rfl
  · match mat, row, x, M, lr, lx, hr with
    | [m], [p], [u], _, _, _, hr =>
      have k1 := hr m (by simp)
      match m, k1 with
      | [a], _ => simp [dotL, rowM, colM, mulM, List.range_succ]; grind
  · match mat, row, x, M, lr, lx, hr with
    | [m, n], [p, q], [u, v], _, _, _, hr =>
      have k1 := hr m (by simp)
      have k2 := hr n (by simp)
      match m, n, k1, k2 with
      | [a, b], [c, e], _, _ => simp [dotL, rowM, colM, mulM, List.range_succ]; grind
  · match mat, row, x, M, lr, lx, hr with
    | [m, n, o], [p, q, r], [u, v, w], _, _, _, hr =>
      have k1 := hr m (by simp)
      have k2 := hr n (by simp)
      have k3 := hr o (by simp)
      match m, n, o, k1, k2, k3 with
      | [a, b, c], [e, f, g], [h, i, j], _, _, _ => simp [dotL, rowM, colM, mulM, List.range_succ]; grind
section
variable {srcs : List Int} {mat : List (List Int)} {d n : Nat} {c : Int} {x : List Int}
mutual
theorem mv_pth (S : ∀ c ∈ srcs, 0 ≤ c ∧ c < n) (h1 : 1 ≤ d) (h3 : d ≤ 3) (M : mat.length = d) (hr : ∀ r ∈ mat, r.length = d) (e : Tr) (b : 0 ≤ c ∧ c < srcs.length) (hx : x.length = d) : ∀ t : Tr, t.wf d n → pth (mvT srcs mat e t) c x = pth t (srcs.getD c.toNat 0) (mulM mat x) ++ pth e c x
  | .pl, _ => by simp [mvT, pth]
  | .key row hs t, w => by
    simp only [Tr.wf] at w
    have ih := mv_pth S h1 h3 M hr e b hx t w.2.2.2
    simp only [mvT, pth, List.cons_append]
    rw [dot_row h1 h3 M hr w.1 hx, mv_height b.1 b.2, ih]
  | .fork g, w => by
    simp only [Tr.wf] at w
    have hsr : 0 ≤ srcs.getD c.toNat 0 ∧ srcs.getD c.toNat 0 < n := by
      have hl : c.toNat < srcs.length := by omega
      rw [List.getD_eq_getElem?_getD, List.getElem?_eq_getElem hl]
      exact S _ (List.getElem_mem hl)
    obtain ⟨j, cs, t, p1, p2, p3, p4⟩ := only_group w.1 hsr.1 hsr.2
    have k1 : (mvG srcs mat e g).heads[j]? = some (movC srcs cs) := by
      rw [mvG_heads, List.getElem?_map, p1]
      rfl
    have k2 : (mvG srcs mat e g).trees[j]? = some (mvT srcs mat e t) := by
      rw [mvG_trees, List.getElem?_map, p2]
      rfl
    simp only [mvT, pth]
    rw [pthG_at 0 _ (mulM mat x) p1 p2 p3 (fun m cs' hm hh => p4 m cs' (by omega) hh), pthG_at 0 c x k1 k2 ((mem_movC b.1 b.2).mpr p3) (fun m cs' hm hh => ?_), mvG_pth S h1 h3 M hr e b hx g w.2 t (List.mem_of_getElem? p2)]
    · rfl
    · rw [mvG_heads, List.getElem?_map] at hh
      cases hg : g.heads[m]? with
      | none => rw [hg] at hh; cases hh
      | some cs0 =>
        rw [hg] at hh
        have ec : movC srcs cs0 = cs' := Option.some.inj hh
        rw [← ec]
        intro hc
        exact p4 m cs0 (by omega) hg ((mem_movC b.1 b.2).mp hc)
theorem mvG_pth (S : ∀ c ∈ srcs, 0 ≤ c ∧ c < n) (h1 : 1 ≤ d) (h3 : d ≤ 3) (M : mat.length = d) (hr : ∀ r ∈ mat, r.length = d) (e : Tr) (b : 0 ≤ c ∧ c < srcs.length) (hx : x.length = d) : ∀ g : Gs, g.wf d n → ∀ t ∈ g.trees, pth (mvT srcs mat e t) c x = pth t (srcs.getD c.toNat 0) (mulM mat x) ++ pth e c x
  | .nil, _, t, h => by simp [Gs.trees] at h
  | .cons cs u r, w, t, h => by
    simp only [Gs.wf] at w
    simp only [Gs.trees] at h
    rcases List.mem_cons.mp h with z | z
    · rw [z]
      exact mv_pth S h1 h3 M hr e b hx u w.2.1
    · exact mvG_pth S h1 h3 M hr e b hx r w.2.2 t z
end
end
mutual
theorem mvT_sizeE (srcs : List Int) (mat : List (List Int)) (e : Tr) (k : Nat) (hk : e.size = k + 1) : ∀ t : Tr, (mvT srcs mat e t).size = t.size + k * t.ends
  | .pl => by simp [mvT, Tr.size, Tr.ends, hk]; omega
  | .key _ _ t => by simp [mvT, Tr.size, Tr.ends, mvT_sizeE srcs mat e k hk t]; omega
  | .fork gs => by simp [mvT, Tr.size, Tr.ends, mvG_sizeE srcs mat e k hk gs]; omega
theorem mvG_sizeE (srcs : List Int) (mat : List (List Int)) (e : Tr) (k : Nat) (hk : e.size = k + 1) : ∀ g : Gs, (mvG srcs mat e g).size = g.size + k * g.ends
  | .nil => by simp [mvG, Gs.size, Gs.ends]
  | .cons _ t r => by
    simp only [mvG, Gs.size, Gs.ends]
    rw [mvT_sizeE srcs mat e k hk t, mvG_sizeE srcs mat e k hk r, Nat.mul_add]
    omega
end
mutual
theorem mvT_depE (srcs : List Int) (mat : List (List Int)) (e : Tr) (k : Nat) (hk : e.dep ≤ k + 1) : ∀ t : Tr, (mvT srcs mat e t).dep ≤ t.dep + k
  | .pl => by simp [mvT, Tr.dep]; omega
  | .key _ _ t => by
    have := mvT_depE srcs mat e k hk t
    simp only [mvT, Tr.dep]
    omega
  | .fork gs => by
    have := mvG_depE srcs mat e k hk gs
    simp only [mvT, Tr.dep]
    omega
theorem mvG_depE (srcs : List Int) (mat : List (List Int)) (e : Tr) (k : Nat) (hk : e.dep ≤ k + 1) : ∀ g : Gs, (mvG srcs mat e g).dep ≤ g.dep + k
  | .nil => by simp [mvG, Gs.dep]
  | .cons _ t r => by
    have h1 := mvT_depE srcs mat e k hk t
    have h2 := mvG_depE srcs mat e k hk r
    simp only [mvG, Gs.dep]
    omega
end
mutual
theorem mvT_endsE (srcs : List Int) (mat : List (List Int)) (e : Tr) : ∀ t : Tr, (mvT srcs mat e t).ends = t.ends * e.ends
  | .pl => by simp [mvT, Tr.ends]
  | .key _ _ t => by simp [mvT, Tr.ends, mvT_endsE srcs mat e t]
  | .fork gs => by simp [mvT, Tr.ends, mvG_endsE srcs mat e gs]
theorem mvG_endsE (srcs : List Int) (mat : List (List Int)) (e : Tr) : ∀ g : Gs, (mvG srcs mat e g).ends = g.ends * e.ends
  | .nil => by simp [mvG, Gs.ends]
  | .cons _ t r => by
    simp only [mvG, Gs.ends]
    rw [mvT_endsE srcs mat e t, mvG_endsE srcs mat e r, Nat.add_mul]
end
mutual
theorem mvT_wfE {srcs : List Int} {d n : Nat} {e : Tr} (S : Srcs srcs n) (h1 : 1 ≤ d) (h3 : d ≤ 3) (he : e.wf d srcs.length) : ∀ t : Tr, t.wf d n → (mvT srcs (idM d) e t).wf d srcs.length
  | .pl, _ => by simp only [mvT]; exact he
  | .key row hs t, w => by
    simp only [Tr.wf] at w
    simp only [mvT, Tr.wf]
    rw [row_id h1 h3 w.1]
    exact ⟨w.1, by rw [List.length_map], w.2.2.1, mvT_wfE S h1 h3 he t w.2.2.2⟩
  | .fork gs, w => by
    simp only [Tr.wf] at w
    simp only [mvT, Tr.wf]
    refine ⟨?_, mvG_wfE S h1 h3 he gs w.2 fun c hc => mem_rng.mp (w.1.mem_iff.mp hc)⟩
    rw [Gs.flat, mvG_heads]
    have nd : gs.heads.flatten.Nodup := by
      rw [← Gs.flat]
      exact w.1.nodup_iff.mpr (rng0_nodup n)
    refine (parts_perm (f := fun j => srcs.getD j.toNat 0) (rng0 srcs.length) gs.heads nd).trans ?_
    rw [List.filter_eq_self.mpr fun j hj => ?_]
    have hj' := mem_rng.mp hj
    have hs := S.at (j := j.toNat) (by omega)
    refine decide_eq_true ?_
    rw [← Gs.flat]
    exact w.1.mem_iff.mpr (mem_rng0 hs.1 hs.2)
theorem mvG_wfE {srcs : List Int} {d n : Nat} {e : Tr} (S : Srcs srcs n) (h1 : 1 ≤ d) (h3 : d ≤ 3) (he : e.wf d srcs.length) : ∀ g : Gs, g.wf d n → (∀ c ∈ g.classes, 0 ≤ c ∧ c < n) → (mvG srcs (idM d) e g).wf d srcs.length
  | .nil, _, _ => by simp [mvG, Gs.wf]
  | .cons cs t r, w, hc => by
    simp only [Gs.wf] at w
    simp only [mvG, Gs.wf]
    simp only [Gs.classes] at hc
    refine ⟨⟨fun e => ?_, ?_⟩, mvT_wfE S h1 h3 he t w.2.1, mvG_wfE S h1 h3 he r w.2.2 fun c h => hc c (List.mem_append_right _ h)⟩
    · obtain ⟨c, hcm⟩ := List.exists_mem_of_ne_nil cs w.1.1
      have hb := hc c (List.mem_append_left _ hcm)
      obtain ⟨j, hj, ej⟩ := S.all_ c hb.1 hb.2
      have : ((j : Nat) : Int) ∈ movC srcs cs := (mem_movC (by omega) (by omega)).mpr (by rw [Int.toNat_natCast, ej]; exact hcm)
      rw [e] at this
      cases this
    · unfold movC
      exact (rng0_lt _).filter _
end
/-! ### two paths part at a number, or are equal -/
section
variable {c1 c2 : Int} {x y : List Int} {d n : Nat}
def Apart (p q : List Int) : Prop := ∃ (u r s : List Int) (a b : Int), a ≠ b ∧ p = u ++ a :: r ∧ q = u ++ b :: s
theorem Apart.cons {p q : List Int} (z : Int) (h : Apart p q) : Apart (z :: p) (z :: q) := by
  obtain ⟨u, r, s, a, b, h1, h2, h3⟩ := h
  exact ⟨z :: u, r, s, a, b, h1, by rw [h2]; rfl, by rw [h3]; rfl⟩
mutual
theorem pth_apart (b1 : 0 ≤ c1 ∧ c1 < n) (b2 : 0 ≤ c2 ∧ c2 < n) : ∀ t : Tr, t.wf d n → pth t c1 x = pth t c2 y ∨ Apart (pth t c1 x) (pth t c2 y)
  | .pl, _ => .inl (by simp [pth])
  | .key row hs t, w => by
    simp only [Tr.wf] at w
    simp only [pth]
    by_cases e : dotL row x + hs.getD c1.toNat 0 = dotL row y + hs.getD c2.toNat 0
    · rw [e]
      rcases pth_apart b1 b2 t w.2.2.2 with h | h
      · exact .inl (by rw [h])
      · exact .inr (h.cons _)
    · exact .inr ⟨[], _, _, _, _, e, rfl, rfl⟩
  | .fork g, w => by
    simp only [Tr.wf] at w
    obtain ⟨j1, cs1, t1, p1, p2, p3, p4⟩ := only_group w.1 b1.1 b1.2
    obtain ⟨j2, cs2, t2, r1, r2, r3, r4⟩ := only_group w.1 b2.1 b2.2
    simp only [pth]
    rw [pthG_at 0 c1 x p1 p2 p3 (fun m cs' hm hh => p4 m cs' (by omega) hh), pthG_at 0 c2 y r1 r2 r3 (fun m cs' hm hh => r4 m cs' (by omega) hh)]
    by_cases z : j1 = j2
    · subst z
      have et : t1 = t2 := Option.some.inj (p2.symm.trans r2)
      subst et
      rcases pthG_apart b1 b2 g w.2 t1 (List.mem_of_getElem? p2) with h | h
      · exact .inl (by rw [h])
      · exact .inr (h.cons _)
    · exact .inr ⟨[], _, _, _, _, (by omega), rfl, rfl⟩
theorem pthG_apart (b1 : 0 ≤ c1 ∧ c1 < n) (b2 : 0 ≤ c2 ∧ c2 < n) : ∀ g : Gs, g.wf d n → ∀ t ∈ g.trees, pth t c1 x = pth t c2 y ∨ Apart (pth t c1 x) (pth t c2 y)
  | .nil, _, t, h => by simp [Gs.trees] at h
  | .cons cs u r, w, t, h => by
    simp only [Gs.wf] at w
    simp only [Gs.trees] at h
    rcases List.mem_cons.mp h with z | z
    · rw [z]
      exact pth_apart b1 b2 u w.2.1
    · exact pthG_apart b1 b2 r w.2.2 t z
end
end
theorem lx_apart : ∀ {u r s : List Int} {a b : Int}, a ≠ b → lx (u ++ a :: r) (u ++ b :: s) = decide (a < b)
  | [], r, s, a, b, h => by
    show (if a = b then lx r s else decide (a < b)) = _
    rw [if_neg h]
  | z :: u, r, s, a, b, h => by
    show (if z = z then lx (u ++ a :: r) (u ++ b :: s) else decide (z < z)) = _
    rw [if_pos rfl]
    exact lx_apart h
theorem lx_pre : ∀ (u r s : List Int), lx (u ++ r) (u ++ s) = lx r s
  | [], r, s => rfl
  | z :: u, r, s => by
    show (if z = z then lx (u ++ r) (u ++ s) else decide (z < z)) = _
    rw [if_pos rfl]
    exact lx_pre u r s
theorem lx_then {p q a b x y : List Int} (h : p = q ∨ Apart p q) : lx (p ++ a) (q ++ b) = if p = q then lx a b else lx (p ++ x) (q ++ y) := by
  rcases h with h | ⟨u, r, s, z, v, hne, rfl, rfl⟩
  · rw [if_pos h, h, lx_pre]
  · have ne : ¬ (u ++ z :: r = u ++ v :: s) := fun e => hne (List.cons.inj (List.append_cancel_left e)).1
    rw [if_neg ne, List.append_assoc, List.append_assoc, List.append_assoc, List.append_assoc]
    show lx (u ++ z :: (r ++ a)) (u ++ v :: (s ++ b)) = lx (u ++ z :: (r ++ x)) (u ++ v :: (s ++ y))
    rw [lx_apart hne, lx_apart hne]
theorem eq_then {p q a b : List Int} (h : p = q ∨ Apart p q) : (p ++ a = q ++ b) ↔ (p = q ∧ a = b) := by
  constructor
  · intro e
    rcases h with h | ⟨u, r, s, z, v, hne, rfl, rfl⟩
    · subst h
      exact ⟨rfl, List.append_cancel_left e⟩
    · rw [List.append_assoc, List.append_assoc] at e
      exact absurd (List.cons.inj (List.append_cancel_left e)).1 hne
  · rintro ⟨rfl, rfl⟩
    rfl
/-! ### one scan, then another -/
/-- the tree of `then` -/
def thT (ds es nds : List Int) (n' : Nat) (t u : Tr) : Tr := rfT ds nds n' (rfT es nds n' .pl u) t
section
variable {ds es : List Int} {n m n' : Nat} {t u : Tr}
theorem th_full (O : ScanOk ds n t) (O2 : ScanOk es m u) (hl : ds.length = es.length) (D' : Divs (comD ds es)) (hn' : prodL (comD ds es) = (n' : Int)) {x : List Int} (hx : x.length = ds.length) :
    pth (thT ds es (comD ds es) n' t u) (cls (comD ds es) x) x = pth t (cls ds x) x ++ pth u (cls es x) x := by
  obtain ⟨M1, M2⟩ := com_mul hl O.dv.one O2.dv.one
  have c1 := cls_in D' hn' (z := x) (by rw [com_len hl, hx])
  have S1 := ref_srcs O.dv O.pr D' hn' M1 O.l1 O.l3
  have S2 := ref_srcs O2.dv O2.pr D' hn' M2 O2.l1 O2.l3
  have im := idM_mat O.l1 O.l3
  have im2 := idM_mat O2.l1 O2.l3
  have e1 := mv_pth (mat := idM ds.length) S1.ran O.l1 O.l3 im.ln (fun r h => (im.rw_ r h).1) (rfT es (comD ds es) n' .pl u) (by rw [srcM_len]; exact c1) hx t O.wf
  have e2 := mv_pth (mat := idM es.length) S2.ran O2.l1 O2.l3 im2.ln (fun r h => (im2.rw_ r h).1) .pl (by rw [srcM_len]; exact c1) (x := x) (by omega) u O2.wf
  rw [ref_src D' hn' M1 O.l1 O.l3 hx, mul_id O.l1 O.l3 hx] at e1
  rw [ref_src D' hn' M2 O2.l1 O2.l3 (by omega), mul_id O2.l1 O2.l3 (by omega)] at e2
  have e3 : pth Tr.pl (cls (comD ds es) x) x = [] := by simp [pth]
  rw [e3, List.append_nil] at e2
  show pth (mvT _ _ (rfT es (comD ds es) n' .pl u) t) _ x = _
  rw [e1]
  show _ ++ pth (mvT _ _ .pl u) _ x = _
  rw [e2]
theorem th_apart (O : ScanOk ds n t) {x y : List Int} (hx : x.length = ds.length) (hy : y.length = ds.length) : pth t (cls ds x) x = pth t (cls ds y) y ∨ Apart (pth t (cls ds x) x) (pth t (cls ds y) y) :=
  pth_apart (cls_in O.dv O.pr hx.symm) (cls_in O.dv O.pr hy.symm) t O.wf
theorem th_lt (O : ScanOk ds n t) (O2 : ScanOk es m u) (hl : ds.length = es.length) (D' : Divs (comD ds es)) (hn' : prodL (comD ds es) = (n' : Int)) {x y : List Int} (hx : x.length = ds.length) (hy : y.length = ds.length) :
    lx (full (comD ds es) (thT ds es (comD ds es) n' t u) x) (full (comD ds es) (thT ds es (comD ds es) n' t u) y) = if pth t (cls ds x) x = pth t (cls ds y) y then lx (full es u x) (full es u y) else lx (full ds t x) (full ds t y) := by
  unfold full
  rw [th_full O O2 hl D' hn' hx, th_full O O2 hl D' hn' hy, List.append_assoc, List.append_assoc]
  exact lx_then (th_apart O hx hy)
theorem th_tied (O : ScanOk ds n t) (O2 : ScanOk es m u) (hl : ds.length = es.length) (D' : Divs (comD ds es)) (hn' : prodL (comD ds es) = (n' : Int)) {x y : List Int} (hx : x.length = ds.length) (hy : y.length = ds.length) :
    (pth (thT ds es (comD ds es) n' t u) (cls (comD ds es) x) x = pth (thT ds es (comD ds es) n' t u) (cls (comD ds es) y) y) ↔ (pth t (cls ds x) x = pth t (cls ds y) y ∧ pth u (cls es x) x = pth u (cls es y) y) := by
  rw [th_full O O2 hl D' hn' hx, th_full O O2 hl D' hn' hy]
  exact eq_then (th_apart O hx hy)
theorem th_size (nds : List Int) : (thT ds es nds n' t u).size = t.size + (u.size - 1) * t.ends := by
  unfold thT rfT
  refine mvT_sizeE _ _ _ _ ?_ t
  rw [mvT_size]
  have := Tr.size_pos u
  omega
theorem th_dep (nds : List Int) : (thT ds es nds n' t u).dep + 1 ≤ t.dep + u.dep := by
  have h := (Tr.deep u).2
  have := mvT_depE (srcM ds (idM ds.length) (zer ds.length) nds n') (idM ds.length) (rfT es nds n' .pl u) (u.dep - 1) (by unfold rfT; rw [mvT_dep]; omega) t
  unfold thT
  show (mvT _ _ (rfT es nds n' .pl u) t).dep + 1 ≤ _
  omega
theorem th_wf (O : ScanOk ds n t) (O2 : ScanOk es m u) (hl : ds.length = es.length) (D' : Divs (comD ds es)) (hn' : prodL (comD ds es) = (n' : Int)) : (thT ds es (comD ds es) n' t u).wf (comD ds es).length n' := by
  obtain ⟨M1, M2⟩ := com_mul hl O.dv.one O2.dv.one
  have S1 := ref_srcs O.dv O.pr D' hn' M1 O.l1 O.l3
  have w2 := (ref_ok O2 D' hn' M2).wf
  rw [com_len hl] at w2 ⊢
  have := mvT_wfE (e := rfT es (comD ds es) n' .pl u) S1 O.l1 O.l3 (by rw [srcM_len]; exact w2) t O.wf
  rw [srcM_len] at this
  exact this
end
end Lk

namespace Lk
open PySem L2 Lx LamX LrA LqA
/-! ### Scan.then -/
def TgK (tg : Str) (C : Addr) (H : Hp) (E : XK) : Prop := ∀ (d : Addr) (H' : Hp), (∀ b u, H b = some u → H' b = some u) → H' d = some (.xd [("tag", .str tg)]) → E (.ref C) (some d) H'
def TmK (C : Addr) (H : Hp) (E : XK) : Prop := ∀ (d : Addr) (H' : Hp), (∀ b u, H b = some u → H' b = some u) → H' d = some (.xd (xflds "limit" (.int 12) "TooManyClasses")) → E (.ref C) (some d) H'
def spThen (K : PySem.W.Frag) (C : Addr) : Sp := fun vs H Q _ => ∃ (p q : Addr) (ds es : List Int) (n m n' : Nat) (t u : Tr), vs = [.ref p, .ref q] ∧ ScanAt K C H p ds n t ∧ ScanAt K C H q es m u ∧ ds.length = es.length ∧ Divs (comD ds es) ∧ prodL (comD ds es) = (n' : Int) ∧
  (thT ds es (comD ds es) n' t u).size ≤ 200 ∧ (thT ds es (comD ds es) n' t u).dep ≤ 20 ∧ ∀ (H' : Hp) (r : Addr), Same H H' → ScanAt K C H' r (comD ds es) n' (thT ds es (comD ds es) n' t u) → Q (.ref r) H'
def spThenX (K : PySem.W.Frag) (C CE : Addr) : Sp := fun vs H _ E => ∃ (p q : Addr) (ds es : List Int) (n m n' : Nat) (t u : Tr), vs = [.ref p, .ref q] ∧ ScanAt K C H p ds n t ∧ ScanAt K C H q es m u ∧ ds.length = es.length ∧ Divs (comD ds es) ∧ prodL (comD ds es) = (n' : Int) ∧
  (thT ds es (comD ds es) n' t u).size ≤ 900 ∧ (thT ds es (comD ds es) n' t u).toD.depth ≤ 60 ∧ (200 < (thT ds es (comD ds es) n' t u).size ∨ 20 < (thT ds es (comD ds es) n' t u).dep) ∧ ItK CE H E
def spThenM (K : PySem.W.Frag) (C C2 : Addr) : Sp := fun vs H _ E => ∃ (p q : Addr) (ds es : List Int) (n m : Nat) (t u : Tr), vs = [.ref p, .ref q] ∧ ScanAt K C H p ds n t ∧ ScanAt K C H q es m u ∧ ds.length = es.length ∧ 12 < prodL (comD ds es) ∧ TmK C2 H E
def spThenU (K : PySem.W.Frag) (C CU : Addr) : Sp := fun vs H _ E => ∃ (p q : Addr) (ds es : List Int) (n m : Nat) (t u : Tr), vs = [.ref p, .ref q] ∧ ScanAt K C H p ds n t ∧ ScanAt K C H q es m u ∧ ds.length ≠ es.length ∧ TgK "Unlike" CU H E
def spInitM (K : PySem.W.Frag) (C C2 : Addr) : Sp := fun vs H _ E => ∃ (p dx a : Addr) (v : V) (ds : List Int), vs = [.ref p, .ref a, v] ∧ H p = some (.ins C dx []) ∧ SqT K H a (ds.map V.int) ∧ 1 ≤ ds.length ∧ ds.length ≤ 3 ∧ (∀ z ∈ ds, 1 ≤ z ∧ z < 2 ^ 64) ∧ 12 < prodL ds ∧ TmK C2 H E
theorem le_prod : ∀ {l : List Int}, (∀ z ∈ l, 1 ≤ z) → ∀ {z : Int}, z ∈ l → z ≤ prodL l
  | [], _, z, h => by cases h
  | a :: r, h, z, hz => by
    have ha := h a List.mem_cons_self
    have hr : ∀ z ∈ r, 1 ≤ z := fun z h' => h z (List.mem_cons_of_mem _ h')
    have pr := prodL_pos hr
    show z ≤ a * prodL r
    rcases List.mem_cons.mp hz with e | e
    · subst e
      have : z * 1 ≤ z * prodL r := Int.mul_le_mul_of_nonneg_left pr (by omega)
      omega
    · have h1 := le_prod hr e
      have : 1 * prodL r ≤ a * prodL r := Int.mul_le_mul_of_nonneg_right ha (by omega)
      omega
theorem itsI_ints (ds : List Int) : itsI (some (ds.map V.int)) = ds := by
  show (ds.map V.int).map uI = ds
  rw [List.map_map]
  exact List.map_id'' (fun _ => rfl) ds
theorem dvE_two {ds : List Int} (l1 : 1 ≤ ds.length) (l3 : ds.length ≤ 3) (h1 : ∀ z ∈ ds, 1 ≤ z) (h : 12 < prodL ds) : dvE (some (ds.map V.int)) = 2 := by
  have hs : sdB (some (ds.map V.int)) 1 = true := by
    rw [sdB_some, List.length_map, decide_eq_true l1, decide_eq_true l3]
    have a1 : (ds.map V.int).all isI = true := List.all_eq_true.mpr fun x hx => by
      obtain ⟨z, _, rfl⟩ := List.mem_map.mp hx
      rfl
    have a2 : ((ds.map V.int).all fun x => decide (1 ≤ uI x)) = true := List.all_eq_true.mpr fun x hx => by
      obtain ⟨z, hz, rfl⟩ := List.mem_map.mp hx
      exact decide_eq_true (h1 z hz)
    rw [a1, a2]
    rfl
  unfold dvE
  rw [if_pos hs, itsI_ints, if_pos h]
theorem od_ints {K : PySem.W.Frag} {H : Hp} {a : Addr} {ds : List Int} (h : SqT K H a (ds.map V.int)) (l3 : ds.length ≤ 3) : OD K H (.ref a) (some (ds.map V.int)) := by
  refine ⟨a, rfl, h, by rw [List.length_map]; omega, fun x hx => .inl ?_⟩
  obtain ⟨z, _, rfl⟩ := List.mem_map.mp hx
  rfl
section
variable {P : Program} {w : World} {K : PySem.W.Frag} {mg : Str → Option Value} {base : Heap}
end
end Lk

namespace Lk
open PySem L2 Lx LamX LrA LqA
/-! ### forked_scan (k16) -/
/-- a plain call of a def that has a star parameter -/
theorem pe_callP {X : Cx} {CX : CXT} {k : Nat} {f : Addr} {sp : Sp} {E : XK} {x : Str} {e : Expr} {es : List Expr} {t : TA} {p pos : Pos} (F : FnR X.prog X.w X.K X.mg X.base CX k f sp) (hr : Room k X.A) (hg : Gl X x) (hm : X.mg x = some (.ref f)) (hk : PySem.W.keepIn X.K (.ref f) = true) (hx : Passes CX X E)
    (ha : PA X (e :: es) t) (hdb : (x == ("__debug__" : Str)) = false := by decide) (he : starEach (e :: es) X.env = (false, eval e X.env) :: starEach es X.env := by rfl) (hpl : (backTo pos (starEach es X.env)).any (·.1) = false := by rfl) :
    PE X (.Call (.Name x p) (e :: es) [] pos) (fun σ H Q => t σ H fun vs H1 => sp vs H1 Q E) := by
  refine ⟨fun pins s σ H Q I h => ?_⟩
  refine wpAny_Call_Name_kw (ld_glob I hg hm ?_ hdb)
  refine PySem.W.callWith_K (h₀ := X.base) I.ok.mod.kin hk (thn (ha.run pos pins s σ H _ I h) fun us s1 ⟨vs, H1, I1, r, q⟩ => ⟨I1.kIn, ?_⟩) he hpl
  exact wpAny_call (run_fnR F hr hx I1 r q)
structure Grp where
  cs : List Int
  ds : List Int
  n : Nat
  t : Tr
def GrpAt (K : PySem.W.Frag) (C : Addr) (H : Hp) (g : Grp) (v : V) : Prop := ∃ (p ca sc : Addr), v = .ref p ∧ SqT K H p [.ref ca, .ref sc] ∧ SqT K H ca (g.cs.map V.int) ∧ ScanAt K C H sc g.ds g.n g.t
theorem GrpAt.same {K : PySem.W.Frag} {C : Addr} {H H' : Hp} {g : Grp} {v : V} (h : GrpAt K C H g v) (e : Same H H') : GrpAt K C H' g v := by
  obtain ⟨p, ca, sc, h1, h2, h3, h4⟩ := h
  exact ⟨p, ca, sc, h1, Same.sqT e h2, Same.sqT e h3, h4.same e⟩
def GrpsAt (K : PySem.W.Frag) (C : Addr) (H : Hp) (l : List Grp) (ws : List V) : Prop := ws.length = l.length ∧ ∀ (i : Nat) (g : Grp) (v : V), l[i]? = some g → ws[i]? = some v → GrpAt K C H g v
theorem GrpsAt.same {K : PySem.W.Frag} {C : Addr} {H H' : Hp} {l : List Grp} {ws : List V} (h : GrpsAt K C H l ws) (e : Same H H') : GrpsAt K C H' l ws := ⟨h.1, fun i g v h1 h2 => (h.2 i g v h1 h2).same e⟩
def fkG (nds : List Int) (n' : Nat) (l : List Grp) : Gs := l.foldl (fun s g => s.snoc g.cs (rfT g.ds nds n' .pl g.t)) .nil
theorem fkG_more {nds : List Int} {n' : Nat} {l : List Grp} {i : Nat} {g : Grp} (h : l[i]? = some g) : fkG nds n' (l.take (i + 1)) = (fkG nds n' (l.take i)).snoc g.cs (rfT g.ds nds n' .pl g.t) := by
  unfold fkG
  rw [take_more h, List.foldl_append]
  rfl
abbrev fkN : List Str := ["divisors", "groups", "branches", "classes", "scan"]
/-- what the groups and the divisors are -/
structure FkIn (K : PySem.W.Frag) (C : Addr) (H : Hp) (a gp : Addr) (ws : List V) (l : List Grp) (nds : List Int) (n' : Nat) : Prop where
  ha : SqT K H a (nds.map V.int)
  hg : SqT K H gp ws
  gs : GrpsAt K C H l ws
  dv : Divs nds
  l1 : 1 ≤ nds.length
  l3 : nds.length ≤ 3
  pr : prodL nds = (n' : Int)
  l5 : l.length ≤ 5
  mu : ∀ g ∈ l, Mul nds g.ds
/-- the body, whatever Scan's __init__ says at the end -/
def spFk (K : PySem.W.Frag) (C : Addr) (spI : Sp) : Sp := fun vs H Q E => ∃ (a gp : Addr) (ws : List V) (l : List Grp) (nds : List Int) (n' : Nat), vs = [.ref a, .ref gp] ∧ FkIn K C H a gp ws l nds n' ∧
  ∀ (H1 : Hp) (v : V), Same H H1 → TrAt K H1 (.fork (fkG nds n' l)) v → ∀ (x dx : Addr), H1 x = none → H1 dx = none → dx ≠ x → spI [.ref x, .ref a, v] (upd (upd H1 dx (.own x)) x (.ins C dx [])) (fun v H2 => v = .non ∧ Q (.ref x) H2) E
section
variable {P : Program} {w : World} {K : PySem.W.Frag} {mg : Str → Option Value} {base : Heap}
end
end Lk

namespace Lk
open PySem L2 Lx LamX LrA LqA
/-- the first group is refused -/
structure Fk1 (K : PySem.W.Frag) (C : Addr) (H : Hp) (a gp : Addr) (v : V) (rest : List V) (g : Grp) (nds : List Int) : Prop where
  ha : SqT K H a (nds.map V.int)
  hg : SqT K H gp (v :: rest)
  gr : GrpAt K C H g v
  dv : Divs nds
  l1 : 1 ≤ nds.length
  l3 : nds.length ≤ 3
def spFkU (K : PySem.W.Frag) (C CE : Addr) : Sp := fun vs H _ E => ∃ (a gp : Addr) (v : V) (rest : List V) (g : Grp) (nds : List Int), vs = [.ref a, .ref gp] ∧ Fk1 K C H a gp v rest g nds ∧ g.ds.length ≠ nds.length ∧ TgK "Unlike" CE H E
def spFkD (K : PySem.W.Frag) (C CE : Addr) : Sp := fun vs H _ E => ∃ (a gp : Addr) (v : V) (rest : List V) (g : Grp) (nds : List Int), vs = [.ref a, .ref gp] ∧ Fk1 K C H a gp v rest g nds ∧ g.ds.length = nds.length ∧ muB nds g.ds = false ∧ TgK "InvalidDivisors" CE H E
def spFkX (K : PySem.W.Frag) (C1 C2 : Addr) : Sp := fun vs H _ E => ∃ (v : V) (gp : Addr) (o : Option (List V)), vs = [v, .ref gp] ∧ OD K H v o ∧ (∀ z ∈ itsI o, -(2 ^ 64) < z ∧ z < 2 ^ 64) ∧ dvE o ≠ 0 ∧ DvK C1 C2 o H E
def spLFk (K : PySem.W.Frag) (sp : Sp) : Sp := fun vs H Q E => ∃ (dv : V) (gl : Addr) (ws : List V), vs = [dv, .ref gl] ∧ SqL K H gl ws ∧ 1 ≤ ws.length ∧ ws.length ≤ 5 ∧ ∀ p, H p = none → sp [dv, .ref p] (upd H p (.tup ws)) Q E
section
variable {P : Program} {w : World} {K : PySem.W.Frag} {mg : Str → Option Value} {base : Heap}
end
end Lk

namespace Lk
open PySem L2 Lx LamX LrA LqA TsX
/-! ### unlike entries -/
/-- an entry: rests and look -/
def EntAt (K : PySem.W.Frag) (H : Hp) (e : List Int × List Int) (v : V) : Prop := ∃ p a b : Addr, v = .ref p ∧ SqT K H p [.ref a, .ref b] ∧ SqT K H a (e.1.map V.int) ∧ SqT K H b (e.2.map V.int)
theorem EntAt.mono {K : PySem.W.Frag} {H H' : Hp} (t : Tups K H H') {e : List Int × List Int} {v : V} (h : EntAt K H e v) : EntAt K H' e v := by
  obtain ⟨p, a, b, h1, h2, h3, h4⟩ := h
  exact ⟨p, a, b, h1, t _ _ h2, t _ _ h3, t _ _ h4⟩
def EntsAt (K : PySem.W.Frag) (H : Hp) (es : List (List Int × List Int)) (ws : List V) : Prop := ws.length = es.length ∧ ∀ (i : Nat) e v, es[i]? = some e → ws[i]? = some v → EntAt K H e v
theorem EntsAt.mono {K : PySem.W.Frag} {H H' : Hp} (t : Tups K H H') {es : List (List Int × List Int)} {ws : List V} (h : EntsAt K H es ws) : EntsAt K H' es ws := ⟨h.1, fun i e v h1 h2 => (h.2 i e v h1 h2).mono t⟩
theorem EntsAt.nil {K : PySem.W.Frag} {H : Hp} : EntsAt K H [] [] := ⟨rfl, fun i e v h => by cases h⟩
theorem EntsAt.append {K : PySem.W.Frag} {H : Hp} {es fs : List (List Int × List Int)} {ws us : List V} (h : EntsAt K H es ws) (g : EntsAt K H fs us) : EntsAt K H (es ++ fs) (ws ++ us) := by
  refine ⟨by rw [List.length_append, List.length_append, h.1, g.1], fun i e v h1 h2 => ?_⟩
  by_cases hi : i < es.length
  · rw [List.getElem?_append_left hi] at h1
    rw [List.getElem?_append_left (by rw [h.1]; exact hi)] at h2
    exact h.2 i e v h1 h2
  · rw [List.getElem?_append_right (by omega)] at h1
    rw [List.getElem?_append_right (by rw [h.1]; omega), h.1] at h2
    exact g.2 _ e v h1 h2
theorem EntsAt.one {K : PySem.W.Frag} {H : Hp} {e : List Int × List Int} {v : V} (h : EntAt K H e v) : EntsAt K H [e] [v] := ⟨rfl, fun i e' v' h1 h2 => by
  match i, h1, h2 with
  | 0, h1, h2 =>
    cases h1
    cases h2
    exact h⟩
def unB (ds : List Int) (t : Tr) (es : List Int) (u : Tr) (r l : List Int) : Bool := seesB ds t r l != seesB es u r l
def unRow (ds : List Int) (t : Tr) (es : List Int) (u : Tr) (lks : List (List Int)) (r : List Int) : List (List Int × List Int) := (lks.filter (unB ds t es u r)).map fun l => (r, l)
/-- the unlike entries of two scans -/
def unL (ds : List Int) (t : Tr) (es : List Int) (u : Tr) (lks : List (List Int)) : List (List Int × List Int) := (cellN (comD ds es)).flatMap (unRow ds t es u lks)
theorem unRow_len (ds : List Int) (t : Tr) (es : List Int) (u : Tr) (lks : List (List Int)) (r : List Int) : (unRow ds t es u lks r).length ≤ lks.length := by
  unfold unRow
  rw [List.length_map]
  exact List.length_filter_le _ _
theorem flat_len {α β : Type} (f : α → List β) (m : Nat) : ∀ l : List α, (∀ x ∈ l, (f x).length ≤ m) → (l.flatMap f).length ≤ l.length * m
  | [], _ => by simp
  | x :: r, h => by
    rw [List.flatMap_cons, List.length_append, List.length_cons, Nat.add_mul]
    have := flat_len f m r fun y hy => h y (List.mem_cons_of_mem _ hy)
    have := h x List.mem_cons_self
    omega
def UnE (C : Addr) (H : Hp) (E : XK) : Prop := ∀ (d : Addr) (H' : Hp), Same H H' → H' d = some (.xd [("tag", .str "Unlike")]) → E (.ref C) (some d) H'
def spUnlike (K : PySem.W.Frag) (C CU CL : Addr) : Sp := fun vs H Q E => ∃ (p q : Addr) (v : V) (ds es : List Int) (n m : Nat) (t u : Tr), vs = [.ref p, .ref q, v] ∧ ScanAt K C H p ds n t ∧ ScanAt K C H q es m u ∧
  ((ds.length ≠ es.length ∧ UnE CU H E) ∨ (ds.length = es.length ∧ ∃ (a : Addr) (wp rest : List V) (pre : List (List Int)), v = .ref a ∧ SqA K H a (wp ++ rest) ∧ HdsAt K H pre wp ∧ pre.length ≤ 40 ∧ pre.Nodup ∧ (∀ c ∈ pre, LkOk ds.length c) ∧
    ((rest = [] ∧ 1 ≤ pre.length ∧ pre.length ≤ 4 ∧ ∀ H' l ws, Same H H' → H l = none → H' l = some (.lst ws) → EntsAt K H' (unL ds t es u pre) ws → Q (.ref l) H') ∨ ∃ j, BadTail K H ds.length pre rest j ∧ IlK CL j H E)))
theorem sqT_lst {K : PySem.W.Frag} {H : Hp} {o a : Addr} {xs ys : List V} {zs : List V} (hs : H o = some (.lst xs)) (h : SqT K H a zs) : SqT K (upd H o (.lst ys)) a zs := by
  have no : ∀ u : HO, (∀ l, u ≠ HO.lst l) → H a = some u → a ≠ o := fun u hu e z => by
    rw [z, hs] at e
    exact hu _ (Option.some.inj e).symm
  rcases h with (h | ⟨o', h⟩) | h
  · exact .inl (.inl ((upd_ne (no _ (fun _ z => by cases z) h)).trans h))
  · exact .inl (.inr ⟨o', (upd_ne (no _ (fun _ z => by cases z) h)).trans h⟩)
  · exact .inr h
theorem iteT' {b : Bool} {p q : Prop} (e : b = true) (h : p) : if b = true then p else q := by rw [if_pos e]; exact h
theorem iteF' {b : Bool} {p q : Prop} (e : b = false) (h : q) : if b = true then p else q := by rw [if_neg (by rw [e]; decide)]; exact h
abbrev unN : List Str := ["one", "other", "looks", "checked", "divisors", "found", "number", "rests", "mine", "yours", "look", "first", "second"]
theorem chs_wd (bs : List Bool) : Zq.chs (wdS bs) = bs.map fun b => V.str (fuS b) := by
  unfold Zq.chs wdS
  rw [show (SX.S (bs.map fuC)).cps.toList = bs.map fuC from rfl, List.map_map]
  rfl
theorem fuS_ne (a b : Bool) : (!decide (V.str (fuS a) = V.str (fuS b))) = (a != b) := by
  cases a <;> cases b <;> decide +kernel
section
variable {P : Program} {w : World} {K : PySem.W.Frag} {mg : Str → Option Value} {base : Heap}
end
end Lk

namespace Lk
open PySem L2 Lx LamX LrA LqA TsX
def spAlways (K : PySem.W.Frag) (C CU CL : Addr) : Sp := fun vs H Q E => ∃ (p q : Addr) (v : V) (ds es : List Int) (n m : Nat) (t u : Tr), vs = [.ref p, .ref q, v] ∧ ScanAt K C H p ds n t ∧ ScanAt K C H q es m u ∧
  ((ds.length ≠ es.length ∧ UnE CU H E) ∨ (ds.length = es.length ∧ ∃ (a : Addr) (wp rest : List V) (pre : List (List Int)), v = .ref a ∧ SqA K H a (wp ++ rest) ∧ HdsAt K H pre wp ∧ pre.length ≤ 40 ∧ pre.Nodup ∧ (∀ c ∈ pre, LkOk ds.length c) ∧
    ((rest = [] ∧ 1 ≤ pre.length ∧ pre.length ≤ 4 ∧ ∀ H', Same H H' → Q (.bl (decide (unL ds t es u pre = []))) H') ∨ ∃ j, BadTail K H ds.length pre rest j ∧ IlK CL j H E)))
/-- looks that are drawn -/
def spLLooks (K : PySem.W.Frag) : Sp := fun vs H Q _ => ∃ (b l : Addr) (d : Nat), vs = [.ref b, .int d] ∧ BagAt H b l ∧ 1 ≤ d ∧ d ≤ 3 ∧
  ∀ (lks : List (List Int)) (H' : Hp) (p : Addr) (ws : List V), Looks d lks → H p = none → H' p = some (.lst ws) → HdsAt K H' lks ws → BagAt H' b l → But b H H' → Q (.ref p) H'
theorem hds_add {K : PySem.W.Frag} {H : Hp} : ∀ {l : List (List Int)} {ws : List V} {a : Addr} {c : List Int}, HdsAt K H l ws → SqT K H a (c.map V.int) → HdsAt K H (l ++ [c]) (ws ++ [.ref a])
  | [], _, a, c, h, g => by
    have h : _ = [] := h
    rw [h]
    exact ⟨a, [], rfl, g, rfl⟩
  | x :: r, _, a, c, ⟨a0, wr, h1, h2, h3⟩, g => by
    rw [h1]
    exact ⟨a0, wr ++ [.ref a], rfl, h2, hds_add h3 g⟩
/-- (1,) + (0,) * (d - 1) -/
theorem one_zeros {K : PySem.W.Frag} {H : Hp} {q zr : Addr} {d : Nat} {Q : VK} (d1 : 1 ≤ d) (d3 : d ≤ 3) (h1 : SqT K H q [.int 1]) (h2 : SqT K H zr (List.replicate ((d : Int) - 1).toNat (.int 0))) (k : ∀ H' t, Same H H' → SqT K H' t ((1 :: List.replicate (d - 1) (0 : Int)).map V.int) → Q (.ref t) H') : rCatA K (.ref q) (.ref zr) H Q := by
  have e : ((d : Int) - 1).toNat = d - 1 := by omega
  rw [e] at h2
  have e2 : (1 :: List.replicate (d - 1) (0 : Int)).map V.int = [V.int 1] ++ List.replicate (d - 1) (.int 0) := by
    rw [List.map_cons, List.map_replicate]
    rfl
  refine ⟨q, zr, [.int 1], _, rfl, rfl, h1, h2, ?_, fun z => (by cases z), fun _ z => ?_, fun _ _ p np => ?_⟩
  · rw [List.length_replicate]
    show 1 + (d - 1) ≤ sizeLine
    exact Nat.le_trans (show 1 + (d - 1) ≤ 3 by omega) (by decide)
  · refine k H q (Same.refl _) ?_
    rw [e2, z]
    exact h1
  · refine k _ p (same_new np) ?_
    rw [e2]
    exact SqT.of upd_same
theorem dl_nil (l : List (List Int)) : PyData.eqv (.list (dl l)) (.list []) = decide (l = []) := by
  cases l with
  | nil => rfl
  | cons c r => rfl
theorem shp_nil : SeqAt.shaped (.list []) = true := by decide +kernel
section
variable {P : Program} {w : World} {K : PySem.W.Frag} {mg : Str → Option Value} {base : Heap}
theorem ok_llooks {f fO fP : Addr} {fd fdO fdP : FuncData} {k : Nat} (F : Fun K "_law_looks" "_law_looks" sLLooks f fd) (mt : mg "tuple" = none) (mr : mg "range" = none)
    (GO : FnOk P w K mg base CX0 (k + 2) fO fdO ["_law_bag_here", "_law_things"] (spOf K)) (kO : PySem.W.keepIn K (.ref fO) = true) (bO : Binds K fdO ["_law_bag_here", "_law_things"] []) (gO : mg "_law_of" = some (.ref fO))
    (GP : FnOk P w K mg base CX0 (k + 1) fP fdP ["_law_bag_here", "_law_amount"] spPull) (kP : PySem.W.keepIn K (.ref fP) = true) (bP : Binds K fdP ["_law_bag_here", "_law_amount"] []) (gP : mg "_law_pull" = some (.ref fP)) :
    FnOk P w K mg base CX0 (k + 3) f fd ["_law_bag_here", "_law_directions"] (spLLooks K) := by
  refine F.ok scLLooks (fun vs H Q E h => ?_) (fun cdv A outer s H vs Q E hr h => ?_)
  · obtain ⟨b, l, d, rfl, _⟩ := h
    rfl
  · obtain ⟨b, l, d, rfl, B, d1, d3, q⟩ := h
    have hr1 : Room (k + 1) _ := hr.mono (by omega)
    have hrD : (cxOf CX0 P w K mg base ["_law_bag_here", "_law_directions", "_law_found", "_law_size", "_law_k", "_law_look", "_law_at"] "_law_looks" (defScope sLLooks) f cdv A outer s H E).A.units + 65 < cLine := room65 hr
    refine ⟨_, (pss_cons (ps_asg (pe_tup (pa_cons (pe_lst pa_nil) (pa_cons (pe_call GO hr (by rfl) gO kO bO .nil pass0 (pa_cons (pv 0) (pa_cons (pe_lst (pa_cons pe_int (pa_cons pe_int (pa_cons pe_int (pa_cons pe_int (pa_cons pe_int pa_nil)))))) pa_nil))) pa_nil))) (pg_tup rfl (pgs_cons (pg_name (i := 2) scLLooks.nd rfl (.inl rfl)) (pgs_cons (pg_name (i := 3) scLLooks.nd rfl (.inr rfl)) pgs_nil))))
      (pss_cons (ps_for PassesOwn.never rfl (pi_range1 (by rfl) mr (pa_cons (pe_op op_add pe_int (pe_call GP hr1 (by rfl) gP kP bP .nil pass0 (pa_cons (pv 0) (pa_cons pe_int pa_nil)))) pa_nil)) (pg_name (i := 4) scLLooks.nd rfl (.inl rfl)) (pss_cons (ps_set (i := 5) scLLooks.nd rfl (.inl rfl) (pe_callTy call_tuple_of (by rfl) mt (by decide +kernel) (pa_cons (pe_lc (own := [("_law_at", 6)]) (g := gName 6) (by rfl) scLLooks.nd (pi_range1 (by rfl) mr (pa_cons (pv 1) pa_nil)) (blkOk_by (own := [("_law_at", 6)]) (N := ["_law_bag_here", "_law_directions", "_law_found", "_law_size", "_law_k", "_law_look", "_law_at"]) (sc := defScope sLLooks) (by decide +kernel)) (fun _ _ _ _ _ => pg_name (i := 6) scLLooks.nd rfl (.inl rfl)) (fun _ _ _ _ _ => pts_nil) (fun _ _ _ _ _ => (pe_op op_sub (pe_call GP hr1 (by rfl) gP kP bP .nil pass0 (pa_cons (pv 0) (pa_cons (pe_op op_add (pe_op op_mul pe_int (pv 3)) pe_int) pa_nil))) (pv 3)))) pa_nil)))
      (pss_one (ps_if (PW.pt (pw_and (pt_cmpR (op_neD hr.units) (pv 5) (pe_op op_repO (pe_tup (pa_cons pe_int pa_nil)) (pv 1)) (nomark _)) (pw_and1 (pt_cmpR (op_notInD hrD) (pv 5) (pv 2) (by rfl))))) (pss_one (ps_expr (pe_bm PySem.F.plainAttrs_list PySem.F.slot_list_append PySem.F.type_list_append mt_append (pv 2) (pa_cons (pv 5) pa_nil)))) pss_nil))))
      (pss_one (ps_ret (pe_ifExp (pt_cmpR (op_neD hr.units) (pv 2) (pe_lst pa_nil) (nomark _)) (pv 2) (pe_lst (pa_cons (pe_op op_catA (pe_tup (pa_cons pe_int pa_nil)) (pe_op op_repO (pe_tup (pa_cons pe_int pa_nil)) (pe_op op_sub (pv 1) pe_int))) pa_nil))))))), ?_⟩
    refine ⟨Nat.zero_le _, fun fo nfo => ⟨_, rfl, (by show 5 ≤ sizeLine; decide), fun L nL => ?_⟩⟩
    have s1 : Same H (upd H fo (.lst [])) := same_new nfo
    have s2 : Same (upd H fo (.lst [])) (upd (upd H fo (.lst [])) L (.lst [.int 2, .int 2, .int 2, .int 2, .int 8])) := same_new nL
    have B1 := (B.new (o := .lst []) nfo)
    have B2 := (B1.new (o := .lst [.int 2, .int 2, .int 2, .int 2, .int 8]) nL)
    refine ⟨b, l, L, _, rfl, B2, B1.nb nL, SqL.of upd_same, (by show 0 < 5; decide), (by show 5 < 1000; decide), fun v H2 hv B3 bt3 => ?_⟩
    have ev : ∃ z : Int, v = .int z ∧ 0 ≤ z ∧ z ≤ 8 := by
      have : v = .int 2 ∨ v = .int 8 := by simpa using hv
      rcases this with rfl | rfl
      · exact ⟨2, rfl, by decide, by decide⟩
      · exact ⟨8, rfl, by decide, by decide⟩
    obtain ⟨z, rfl, z0, z8⟩ := ev
    have nfb := B.nb nfo
    have nfl := B.nl nfo
    have hfo2 : H2 fo = some (.lst []) := bt3 fo _ nfb (s2 _ _ upd_same)
    refine ⟨(by show 2 ≤ sizeLine; decide), fun T nT => ⟨T, _, rfl, SqT.of upd_same, rfl, _, _, rfl, _, _, rfl, rfl, ?_⟩⟩
    have bt4 : But b H (upd H2 T (.tup [.ref fo, .int z])) := ((But.same (s1.trans s2)).trans bt3).trans (new_but nT)
    have B4 := B3.new (o := .tup [.ref fo, .int z]) nT
    have hfo4 : (upd H2 T (.tup [.ref fo, .int z])) fo = some (.lst []) := by
      rw [upd_ne (ne_of_none hfo2 nT)]
      exact hfo2
    refine ⟨_, rfl, b, l, 4, rfl, B4, by decide, by decide, fun g H3 g0 g4 B5 bt5 => ⟨_, _, rfl, rfl, ?_⟩⟩
    have e1 : (1 + g) = ((1 + g).toNat : Int) := by omega
    refine ⟨1 + g, rfl, by omega, by omega, for_range (lo := 0) (n := (1 + g).toNat) (fun i σ G => ∃ v4 v5 : Option V, σ = [some (.ref b), some (.int d), some (.ref fo), some (.int z), v4, v5, none] ∧ BagAt G b l ∧ But b H G ∧ ∃ lks ws, G fo = some (.lst ws) ∧ HdsAt K G lks ws ∧ lks.length ≤ i ∧ lks.Nodup ∧ ∀ c ∈ lks, LkOk d c)
      ⟨none, none, rfl, B5, bt4.trans bt5, [], [], bt5 fo _ nfb hfo4, rfl, Nat.le_refl _, List.nodup_nil, fun c hc => by cases hc⟩ ?_ ?_⟩
    · rintro i σ G hi ⟨v4, v5, rfl, BG, btG, lks, ws, hfo, hW, lle, nd, ok⟩
      refine ⟨_, rfl, d, rfl, by omega, by omega, fun D nD => ?_⟩
      have nDb := BG.nb nD
      have nDl := BG.nl nD
      refine lc_range (lo := 0) (n := (d : Int).toNat) (fun j G2 => ∃ ns : List Int, ns.length = j ∧ (∀ y ∈ ns, -8 ≤ y ∧ y ≤ 8) ∧ G2 D = some (.lst (ns.map V.int)) ∧ BagAt G2 b l ∧ But b G G2) ⟨[], rfl, (by simp), upd_same, BG.new nD, new_but nD⟩ ?_ ?_
      · rintro j G2 hj ⟨ns, hl, hb, hD, BG2, bt2⟩
        refine ⟨rfl, ⟨_, rfl, _, rfl, _, _, rfl, rfl, .inl ⟨by decide, by decide⟩, _, _, rfl, rfl, b, l, _, rfl, BG2, by omega, ?_, fun g2 G3 h0 h1 BG3 bt3' => ?_⟩⟩
        · have : ((2 * z + 1)).natAbs < 2 ^ 102 := by omega
          exact Nat.lt_trans this (by decide)
        · have hD3 := bt3' D _ nDb hD
          refine ⟨_, rfl, _, _, rfl, rfl, ns.map V.int, hD3, ?_, ns ++ [g2 - z], ?_, ?_, ?_, BG3.upd nDb nDl, ?_⟩
          · rw [List.length_map]
            exact small1000 (by omega)
          · rw [List.length_append, hl]
            rfl
          · intro y hy
            rcases List.mem_append.mp hy with hy | hy
            · exact hb y hy
            · rw [List.mem_singleton.mp hy]
              omega
          · rw [upd_same, List.map_append]
            rfl
          · intro a u na hu
            rw [upd_ne (ne_of_none hu nD)]
            exact bt3' a u na (bt2 a u na hu)
      · rintro G2 ⟨ns, hl, hb, hD, BG2, bt2⟩
        refine ⟨D, _, rfl, .inl ⟨SqL.of hD, fun lk nlk => ?_⟩⟩
        have BG3 := BG2.new (o := .tup (ns.map V.int)) nlk
        have bt3' : But b G (upd G2 lk (.tup (ns.map V.int))) := bt2.trans (new_but nlk)
        have hfo3 := bt3' fo _ nfb hfo
        have hW3 := HdsAt.mono (But.tups BG bt3') hW
        refine ⟨_, rfl, (by show 1 ≤ sizeLine; decide), fun q1 m1 => ⟨_, rfl, rep_reads (SqT.of upd_same) (by omega) (by omega) fun G4 zr s4 hzr => ?_⟩⟩
        have s34 : Same (upd G2 lk (.tup (ns.map V.int))) G4 := (same_new m1).trans s4
        have hlk : SqT K G4 lk (ns.map V.int) := Same.sqT s34 (SqT.of upd_same)
        have hzr' : SqT K G4 zr ((List.replicate d (0 : Int)).map V.int) := by
          rw [List.map_replicate]
          exact hzr
        have ld : ns.length = d := by omega
        refine ne_tups hlk hzr' ⟨_, rfl, ?_⟩
        have next : ∀ (G5 : Hp) (ls : List (List Int)) (us : List V), BagAt G5 b l → But b H G5 → G5 fo = some (.lst us) → HdsAt K G5 ls us → ls.length ≤ i + 1 → ls.Nodup → (∀ c ∈ ls, LkOk d c) → ∃ v4' v5' : Option V, [some (.ref b), some (.int (d : Int)), some (.ref fo), some (.int z), some (.int (0 + (i : Int))), some (V.ref lk), none] = [some (.ref b), some (.int d), some (.ref fo), some (.int z), v4', v5', none] ∧ BagAt G5 b l ∧ But b H G5 ∧ ∃ lks ws, G5 fo = some (.lst ws) ∧ HdsAt K G5 lks ws ∧ lks.length ≤ i + 1 ∧ lks.Nodup ∧ ∀ c ∈ lks, LkOk d c := fun G5 ls us a1 a2 a3 a4 a5 a6 a7 => ⟨_, _, rfl, a1, a2, ls, us, a3, a4, a5, a6, a7⟩
        have BG4 := BG3.same s34
        have bt4' : But b H G4 := (btG.trans bt3').trans (But.same s34)
        have hfo4 := s34 _ _ hfo3
        have hW4 := HdsAt.mono (Same.tups s34) hW3
        by_cases ez : ns = List.replicate d 0
        · exact iteF' (by rw [ez]; simp) (iteF' rfl (next G4 lks ws BG4 bt4' hfo4 hW4 (by omega) nd ok))
        · refine iteT' (by rw [decide_eq_false ez]; rfl) ⟨_, rfl, _, rfl, .tuple (ns.map .int), dl lks, dp_tup hlk, .lst (SqL.of hfo4) (dp_hds hW4), shp_tup _, shp_dl _, _, rfl, ?_⟩
          rw [any_dl]
          by_cases em : ns ∈ lks
          · exact iteF' (by rw [decide_eq_true em]; rfl) (next G4 lks ws BG4 bt4' hfo4 hW4 (by omega) nd ok)
          · refine iteT' (by rw [decide_eq_false em]; rfl) ⟨_, rfl, .inl ⟨rfl, _, SqL.of hfo4⟩, _, rfl, fo, _, _, rfl, rfl, hfo4, ?_, ?_⟩
            · rw [hds_len hW4]
              exact small1000 (by omega)
            · have okn : LkOk d ns := ⟨ld, by
                refine Classical.byContradiction fun no => ez ?_
                rw [← ld]
                exact List.eq_replicate_iff.mpr ⟨rfl, fun y hy => Classical.byContradiction fun ne => no ⟨y, hy, ne⟩⟩, fun y hy => by have := hb y hy; omega⟩
              have tl : Tups K G4 (upd G4 fo (.lst (ws ++ [.ref lk]))) := tups_lst hfo4
              refine next _ (lks ++ [ns]) (ws ++ [.ref lk]) (BG4.upd nfb nfl) ?_ upd_same (hds_add (HdsAt.mono tl hW4) (tl _ _ hlk)) ?_ ?_ ?_
              · intro a u na hu
                rw [upd_ne (ne_of_none hu nfo)]
                exact bt4' a u na hu
              · rw [List.length_append]
                simp
                omega
              · exact List.nodup_append.mpr ⟨nd, by simp, fun x hx y hy => by
                  rw [List.mem_singleton.mp hy]
                  rintro rfl
                  exact em hx⟩
              · intro c hc
                rcases List.mem_append.mp hc with hc | hc
                · exact ok c hc
                · rw [List.mem_singleton.mp hc]
                  exact okn
    · rintro σ G ⟨v4, v5, rfl, BG, btG, lks, ws, hfo, hW, lle, nd, ok⟩
      refine ⟨_, rfl, Nat.zero_le _, fun em nem => ?_⟩
      have sE : Same G (upd G em (.lst [])) := same_new nem
      refine ⟨.list (dl lks), .list [], .lst (SqL.of (sE _ _ hfo)) (dp_hds (HdsAt.mono (Same.tups sE) hW)), .lst (SqL.of upd_same) .nil, shp_dl _, shp_nil, _, rfl, ?_⟩
      rw [dl_nil]
      by_cases e : lks = []
      · refine iteF' (by rw [decide_eq_true e]; rfl) ⟨(by show 1 ≤ sizeLine; decide), fun q1 m1 => ⟨(by show 1 ≤ sizeLine; decide), fun q2 m2 => ⟨_, rfl, _, _, rfl, rfl, rep_reads (SqT.of upd_same) (by omega) (by omega) fun G3 zr s3 hzr => ?_⟩⟩⟩
        have s03 : Same G G3 := ((sE.trans (same_new m1)).trans (same_new m2)).trans s3
        have h1 : SqT K G3 q1 [.int 1] := Same.sqT ((same_new m2).trans s3) (SqT.of upd_same)
        refine one_zeros d1 d3 h1 hzr fun G4 t s4 ht => ⟨(by show 1 ≤ sizeLine; decide), fun p np => ?_⟩
        have s05 : Same G (upd G4 p (.lst [.ref t])) := (s03.trans s4).trans (same_new np)
        have np0 : H p = none := btG.free B BG (by
          cases e5 : G p with
          | none => rfl
          | some o =>
            rw [(s03.trans s4) _ _ e5] at np
            cases np)
        have l1 : (1 :: List.replicate (d - 1) (0 : Int)).length = d := by
          rw [List.length_cons, List.length_replicate]
          omega
        refine q [1 :: List.replicate (d - 1) (0 : Int)] _ p [.ref t] ⟨Nat.le_refl _, by show 1 ≤ 4; decide, by simp, fun c hc => ?_⟩ np0 upd_same ⟨t, [], rfl, Same.sqT (same_new np) ht, rfl⟩ (BG.same s05) (btG.trans (But.same s05))
        rw [List.mem_singleton.mp hc]
        refine ⟨l1, ⟨1, List.mem_cons_self, by decide⟩, fun y hy => ?_⟩
        rcases List.mem_cons.mp hy with hy | hy
        · omega
        · rw [List.eq_of_mem_replicate hy]
          decide
      · refine iteT' (by rw [decide_eq_false e]; rfl) ⟨_, rfl, q lks _ fo ws ⟨?_, by omega, nd, ok⟩ nfo (sE _ _ hfo) (HdsAt.mono (Same.tups sE) hW) (BG.new nem) (btG.trans (new_but nem))⟩
        cases lks with
        | nil => exact absurd rfl e
        | cons c r => rw [List.length_cons]; omega
end
end Lk

namespace Lk
open PySem L2 Lx LamX LrA LqA TsX
/-! ### drawn words -/
def fuL (bs : List Bool) : List Nat := bs.map fuC
theorem wdB_fu (bs : List Bool) : wdB bs.length (fuL bs) = true := by
  unfold wdB fuL
  rw [List.length_map, decide_eq_true rfl, List.all_map]
  refine List.all_eq_true.mpr fun b _ => ?_
  cases b <;> rfl
def spLWords (K : PySem.W.Frag) : Sp := fun vs H Q _ => ∃ (b l lk : Addr) (n : Nat) (lw : List V), vs = [.ref b, .int n, .ref lk] ∧ BagAt H b l ∧ n ≤ 144 ∧ SqL K H lk lw ∧ lk ≠ b ∧ lw.length ≤ 8 ∧
  ∀ (bss : List (List Bool)) (H' : Hp) (p : Addr), bss.length = n → (∀ x ∈ bss, x.length = lw.length) → H p = none → H' p = some (.lst ((bss.map fuL).map txV)) → BagAt H' b l → But b H H' → Q (.ref p) H'
section
variable {P : Program} {w : World} {K : PySem.W.Frag} {mg : Str → Option Value} {base : Heap}
theorem ok_lwords {f fP : Addr} {fd fdP : FuncData} {k : Nat} (F : Fun K "_law_words" "_law_words" sLWords f fd) (mr : mg "range" = none)
    (GP : FnOk P w K mg base CX0 (k + 1) fP fdP ["_law_bag_here", "_law_amount"] spPull) (kP : PySem.W.keepIn K (.ref fP) = true) (bP : Binds K fdP ["_law_bag_here", "_law_amount"] []) (gP : mg "_law_pull" = some (.ref fP)) :
    FnOk P w K mg base CX0 (k + 2) f fd ["_law_bag_here", "_law_many", "_law_looks_z"] (spLWords K) := by
  refine F.ok scLWords (fun vs H Q E h => ?_) (fun cdv A outer s H vs Q E hr h => ?_)
  · obtain ⟨b, l, lk, n, lw, rfl, _⟩ := h
    rfl
  · obtain ⟨b, l, lk, n, lw, rfl, B, n12, hL, nlk, l8, q⟩ := h
    have hr1 : Room (k + 1) _ := hr
    refine ⟨_, (pss_cons (ps_set (i := 3) scLWords.nd rfl (.inl rfl) (pe_lst pa_nil))
      (pss_cons (ps_for PassesOwn.never rfl (pi_range1 (by rfl) mr (pa_cons (pv 1) pa_nil)) (pg_name (i := 4) scLWords.nd rfl (.inl rfl)) (pss_one (ps_expr (pe_bm PySem.F.plainAttrs_list PySem.F.slot_list_append PySem.F.type_list_append mt_append (pv 3) (pa_cons (pe_join pe_str (pe_lc (own := [("_law_look", 5)]) (g := gName 5) (by rfl) scLWords.nd (pi_list (pv 2)) (blkOk_by (own := [("_law_look", 5)]) (N := ["_law_bag_here", "_law_many", "_law_looks_z", "_law_rows", "_law_k", "_law_look"]) (sc := defScope sLWords) (by decide +kernel)) (fun _ _ _ _ _ => (pg_name (i := 5) scLWords.nd rfl (.inl rfl))) (fun _ _ _ _ _ => pts_nil) (fun _ _ _ _ _ => (pe_ix (show IxR _ (rIxL K) from ix_list) (pe_lst (pa_cons pe_str (pa_cons pe_str pa_nil))) (pe_call GP hr1 (by rfl) gP kP bP .nil pass0 (pa_cons (pv 0) (pa_cons pe_int pa_nil))) (fun _ _ => rfl))))) pa_nil)))))
      (pss_one (ps_ret (pv 3))))), ?_⟩
    refine ⟨Nat.zero_le _, fun fo nfo => ?_⟩
    have nfb := B.nb nfo
    have nfl := B.nl nfo
    refine ⟨_, rfl, (n : Int), rfl, by omega, by omega, for_range (lo := 0) (n := (n : Int).toNat) (fun i σ G => ∃ v4 : Option V, σ = [some (.ref b), some (.int n), some (.ref lk), some (.ref fo), v4, none] ∧ BagAt G b l ∧ But b H G ∧ ∃ bss : List (List Bool), bss.length = i ∧ (∀ x ∈ bss, x.length = lw.length) ∧ G fo = some (.lst ((bss.map fuL).map txV)))
      ⟨none, rfl, B.new nfo, new_but nfo, [], rfl, (by simp), upd_same⟩ ?_ ?_⟩
    · rintro i σ G hi ⟨v4, rfl, BG, bt, bss, hl, hx, hfo⟩
      have hLG := bt.seq nlk hL
      refine ⟨_, rfl, .inl ⟨rfl, _, SqL.of hfo⟩, ⟨_, rfl⟩, _, rfl, lk, rfl, ⟨_, hLG⟩, fun D nD => ?_⟩
      have nDb := BG.nb nD
      have nDl := BG.nl nD
      refine lc_list (K := K) (a := lk) (xs := lw) (fun j G2 => ∃ bs : List Bool, bs.length = j ∧ G2 D = some (.lst ((bs.map fuS).map V.str)) ∧ BagAt G2 b l ∧ But b G G2) ⟨[], rfl, upd_same, BG.new nD, new_but nD⟩ (fun j G2 _ ⟨_, _, _, _, bt2⟩ => bt2.seq nlk hLG) ?_ ?_
      · rintro j y G2 hy ⟨bs, hb, hD, B2, bt2⟩
        have hj : j < lw.length := (List.getElem?_eq_some_iff.mp hy).1
        refine ⟨rfl, (by show 2 ≤ sizeLine; decide), fun c nc => ?_⟩
        have B2c := B2.new (o := .lst [.str "f", .str "u"]) nc
        refine ⟨_, rfl, b, l, 2, rfl, B2c, by decide, by decide, fun g H3 g0 g1 B3 bt3 => ?_⟩
        have hc3 : H3 c = some (.lst [.str "f", .str "u"]) := bt3 c _ (B2.nb nc) upd_same
        obtain ⟨u, hu⟩ : ∃ u : Bool, atI ([.str "f", .str "u"] : List V) g = some (.str (fuS u)) := by
          have : g = 0 ∨ g = 1 := by omega
          rcases this with rfl | rfl
          · exact ⟨true, atI_nat (j := 0) rfl⟩
          · exact ⟨false, atI_nat (j := 1) rfl⟩
        have hD2 : (upd G2 c (.lst [.str "f", .str "u"])) D = some (.lst ((bs.map fuS).map V.str)) := by
          rw [upd_ne (ne_of_none hD nc)]
          exact hD
        have hD3 := bt3 D _ nDb hD2
        refine ⟨c, _, _, _, rfl, rfl, SqL.of hc3, hu, _, hD3, ?_, bs ++ [u], ?_, ?_, B3.upd nDb nDl, ?_⟩
        · rw [List.length_map, List.length_map]
          exact small1000 (by omega)
        · rw [List.length_append, hb]
          rfl
        · rw [upd_same, List.map_append, List.map_append]
          rfl
        · intro a o na ho
          rw [upd_ne (ne_of_none ho nD)]
          refine bt3 a o na ?_
          rw [upd_ne (ne_of_none (bt2 a o na ho) nc)]
          exact bt2 a o na ho
      · rintro G2 ⟨bs, hb, hD, B2, bt2⟩
        have hfo2 := bt2 fo _ nfb hfo
        refine ⟨SX.S [], D, _, rfl, rfl, .inl (SqL.of hD), ?_, ?_⟩
        · have : ((List.map fuS bs).map (·.length)).sum = bs.length := by
            rw [List.map_map]
            have e : ∀ l : List Bool, (l.map ((·.length) ∘ fuS)).sum = l.length := fun l => by
              induction l with
              | nil => rfl
              | cons b r ih =>
                rw [List.map_cons, List.sum_cons, ih, List.length_cons]
                show 1 + _ = _
                omega
            rw [e]
          rw [this]
          show bs.length + _ * 0 ≤ _
          omega
        · rw [join_fu]
          refine ⟨fo, _, _, rfl, rfl, hfo2, ?_, ⟨_, rfl, B2.upd nfb nfl, ?_, bss ++ [bs], ?_, ?_, ?_⟩⟩
          · rw [List.length_map, List.length_map]
            exact small1000 (by omega)
          · intro a o na ho
            rw [upd_ne (ne_of_none ho nfo)]
            exact bt2 a o na (bt a o na ho)
          · rw [List.length_append, hl]
            rfl
          · intro x hx'
            rcases List.mem_append.mp hx' with h | h
            · exact hx x h
            · rw [List.mem_singleton.mp h]
              exact hb
          · rw [upd_same, List.map_append, List.map_append]
            rfl
    · rintro σ G ⟨v4, rfl, BG, bt, bss, hl, hx, hfo⟩
      exact ⟨_, rfl, q bss G fo (by omega) hx nfo hfo BG bt⟩
end
end Lk

namespace Lk
open PySem L2 Lx LamX LrA LqA TsX
/-! ### a text of one sign, times a number -/
def rRepC : R2 := fun x y H Q => ∃ (c : Nat) (k : Int), x = .str (SX.S [c]) ∧ y = .int k ∧ 0 ≤ k ∧ k ≤ 1000 ∧ Q (.str (SX.S (List.replicate k.toNat c))) H
theorem foldl_one (c : Nat) : ∀ (m : Nat) (a : List Nat), (List.replicate m (#[c] : Array Nat)).foldl (· ++ ·) a.toArray = (a ++ List.replicate m c).toArray
  | 0, a => by simp
  | m + 1, a => by
    rw [List.replicate_succ, List.foldl_cons]
    have : a.toArray ++ #[c] = (a ++ [c]).toArray := by simp
    rw [this, foldl_one c m (a ++ [c]), List.replicate_succ]
    simp
theorem op_repC {X : Cx} : OpR X (binaryOp .Mult) rRepC := by
  intro pins s σ H x y v u Q I rx ry h
  obtain ⟨c, k, rfl, rfl, k0, k1, q⟩ := h
  obtain ⟨t, rfl⟩ := rx
  obtain ⟨t', rfl⟩ := ry
  have n1 : ¬ k < -(2 ^ 63 : Int) := by omega
  have n2 : ¬ k ≥ 2 ^ 63 := by omega
  have ln : (SX.S [c]).length = 1 := rfl
  refine P.mul_str (by rw [decide_eq_false n1, decide_eq_false n2]; rfl) (fun h1 h2 => ?_) (fun h1 h2 => ?_) ?_
  · rw [ln]
    have : (1 : Int) ≤ (2 ^ 63 - 1) / k := (Int.le_ediv_iff_mul_le (by omega)).mpr (by omega)
    omega
  · rw [ln, Nat.one_mul]
    exact decide_eq_false (by have : k.toNat ≤ 1000 := by omega
                              have h3 : (1000 : Nat) ≤ sizeLine := by decide
                              omega)
  · by_cases h0 : k < 1
    · rw [if_pos h0]
      have : k = 0 := by omega
      subst this
      exact ⟨by decide, .str (SX.S []), H, I.tok _, ⟨_, rfl⟩, q⟩
    · rw [if_neg h0]
      by_cases h1 : k = 1
      · subst h1
        exact ⟨.str (SX.S [c]), H, I, ⟨t, rfl⟩, q⟩
      · rw [if_neg (by rw [ln]; simp [h1])]
        have e : ((List.replicate k.toNat (SX.S [c]).cps).foldl (· ++ ·) #[] : Array Nat) = (List.replicate k.toNat c).toArray := by
          have := foldl_one c k.toNat []
          simpa using this
        rw [e]
        refine ⟨?_, .str (SX.S (List.replicate k.toNat c)), H, I.tok _, ⟨_, rfl⟩, q⟩
        show (SX.S (List.replicate k.toNat c)).length ≤ sizeLine
        rw [SX.S_len, List.length_replicate]
        exact Nat.le_trans (show k.toNat ≤ 1000 by omega) (by decide)
theorem wds_nil (l : List (List Nat)) : PyData.eqv (.list (wdD l)) (.list []) = decide (l = []) := by
  cases l with
  | nil => rfl
  | cons c r => rfl
def WOk (ls : List (List Nat)) : Prop := ∀ l ∈ ls, l.length ≤ 40 ∧ ∀ c ∈ l, c < 128
theorem WOk.str {ls : List (List Nat)} (h : WOk ls) : ∀ l ∈ ls, PyData.strOk (SX.S l) = true := fun l hl => by
  unfold PyData.strOk
  show l.toArray.all _ = true
  rw [List.all_toArray]
  refine List.all_eq_true.mpr fun c hc => ?_
  have := (h l hl).2 c hc
  exact decide_eq_true (by omega)
theorem shp_wdsL {ls : List (List Nat)} (hk : ∀ l ∈ ls, PyData.strOk (SX.S l) = true) : SeqAt.shaped (.list (wdD ls)) = true := by
  unfold SeqAt.shaped
  have h := dep_wds ls
  have h2 : (PyData.list (wdD ls)).depth ≤ 64 := by
    unfold PyData.depth
    omega
  rw [decide_eq_true h2, Bool.and_true]
  unfold PyData.canLay0
  exact lay_wds hk
theorem cut_lastF {α : Type} (f : α → V) (ls : List α) : cutV (ls.map f) none (some (-1)) = (ls.dropLast).map f := by
  rcases List.eq_nil_or_concat ls with rfl | ⟨r, x, rfl⟩
  · rfl
  · rw [List.concat_eq_append, List.map_append, List.dropLast_concat]
    unfold cutV
    have e : HT.sIx (List.map f r ++ List.map f [x]).length (List.map f r ++ List.map f [x]).length (some (-1)) = r.length := by
      show (if (-1 : Int) < 0 then ((-1 : Int) + ((List.map f r ++ List.map f [x]).length : Int)).toNat else min (-1 : Int).toNat (List.map f r ++ List.map f [x]).length) = _
      rw [if_pos (by decide), List.length_append, List.length_map, List.length_map, List.length_singleton]
      omega
    rw [e, HT.sIx_none, Nat.sub_zero, List.drop_zero]
    have := List.take_left (l₁ := List.map f r) (l₂ := List.map f [x])
    rwa [List.length_map] at this
theorem ix_nat {n j : Nat} (h : j < n) : ixN n (j : Int) = some j := by
  unfold ixN
  rw [if_pos (by omega), if_pos (by omega)]
  rfl
def spBent (K : PySem.W.Frag) : Sp := fun vs H Q _ => ∃ (b l wa : Addr) (m : Nat) (ls : List (List Nat)), vs = [.ref b, .ref wa, .int m] ∧ BagAt H b l ∧ SqL K H wa (ls.map txV) ∧ ls.length ≤ 20 ∧ WOk ls ∧ m ≤ 8 ∧
  ∀ (ms : List (List Nat)) (H' : Hp) (p : Addr), ms.length ≤ ls.length + 2 → WOk ms → H p = none → H' p = some (.lst (ms.map txV)) → BagAt H' b l → But b H H' → Q (.ref p) H'
theorem wok_rep {c k : Nat} (hc : c < 128) (hk : k ≤ 40) : (List.replicate k c).length ≤ 40 ∧ ∀ x ∈ List.replicate k c, x < 128 :=
  ⟨by rw [List.length_replicate]; exact hk, fun x hx => by rw [List.eq_of_mem_replicate hx]; exact hc⟩
section
variable {P : Program} {w : World} {K : PySem.W.Frag} {mg : Str → Option Value} {base : Heap}
theorem ok_bent {f fP fO : Addr} {fd fdP fdO : FuncData} {k : Nat} (F : Fun K "_law_bent_words" "_law_bent_words" sBentWords f fd) (mr : mg "range" = none) (mli : mg "list" = none) (ml : mg "len" = none)
    (GO : FnOk P w K mg base CX0 (k + 2) fO fdO ["_law_bag_here", "_law_things"] (spOf K)) (kO : PySem.W.keepIn K (.ref fO) = true) (bO : Binds K fdO ["_law_bag_here", "_law_things"] []) (gO : mg "_law_of" = some (.ref fO))
    (GP : FnOk P w K mg base CX0 (k + 1) fP fdP ["_law_bag_here", "_law_amount"] spPull) (kP : PySem.W.keepIn K (.ref fP) = true) (bP : Binds K fdP ["_law_bag_here", "_law_amount"] []) (gP : mg "_law_pull" = some (.ref fP)) :
    FnOk P w K mg base CX0 (k + 3) f fd ["_law_bag_here", "_law_words_z", "_law_many"] (spBent K) := by
  refine F.ok scBentWords (fun vs H Q E h => ?_) (fun cdv A outer s H vs Q E hr h => ?_)
  · obtain ⟨b, l, wa, m, ls, rfl, _⟩ := h
    rfl
  · obtain ⟨b, l, wa, m, ls, rfl, B, hW, l20, wok, m8, q⟩ := h
    have hr1 : Room (k + 1) _ := hr.mono (by omega)
    refine ⟨_, (pss_cons (ps_set (i := 3) scBentWords.nd rfl (.inl rfl) (pe_callTy call_list_of (by rfl) mli (by decide +kernel) (pa_cons (pv 1) pa_nil)))
      (pss_cons (ps_for PassesOwn.never rfl (pi_range1 (by rfl) mr (pa_cons (pe_call GP hr1 (by rfl) gP kP bP .nil pass0 (pa_cons (pv 0) (pa_cons pe_int pa_nil))) pa_nil)) (pg_name (i := 4) scBentWords.nd rfl (.inl rfl)) (pss_cons (ps_set (i := 5) scBentWords.nd rfl (.inl rfl) (pe_call GP hr1 (by rfl) gP kP bP .nil pass0 (pa_cons (pv 0) (pa_cons pe_int pa_nil))))
      (pss_one (ps_if (PW.pt (pw_and (pt_cmpR op_lt (pv 5) pe_int (nomark _)) (pw_and1 (pt_cmpR (op_neD hr.units) (pv 3) (pe_lst pa_nil) (nomark _))))) (pss_cons (ps_set (i := 6) scBentWords.nd rfl (.inl rfl) (pe_call GP hr1 (by rfl) gP kP bP .nil pass0 (pa_cons (pv 0) (pa_cons (pe_callB call_len_seq (by rfl) ml PySem.boot_len (pa_cons (pv 3) pa_nil)) pa_nil))))
      (pss_one (ps_asg (pe_call GO hr (by rfl) gO kO bO .nil pass0 (pa_cons (pv 0) (pa_cons (pe_lst (pa_cons pe_str (pa_cons (pe_op op_repC pe_str (pe_op op_add (pv 2) pe_int)) (pa_cons (pe_op op_repC pe_str (pv 2)) (pa_cons (pe_op op_repC pe_str (pv 2)) (pa_cons (pe_op op_repC pe_str (pv 2)) pa_nil)))))) pa_nil))) (pg_sub (pv 3) (pv 6) set_list)))) (pss_one (ps_if (pt_cmpR op_eq (pv 5) pe_int (nomark _)) (pss_one (ps_expr (pe_bm PySem.F.plainAttrs_list PySem.F.slot_list_append PySem.F.type_list_append mt_append (pv 3) (pa_cons (pe_op op_repC pe_str (pv 2)) pa_nil)))) (pss_one (ps_set (i := 3) scBentWords.nd rfl (.inl rfl) (pe_slice sl_list (pv 3) po_none (po_some (pe_un un_neg pe_int)))))))))))
      (pss_one (ps_ret (pv 3))))), ?_⟩
    refine ⟨_, rfl, wa, _, rfl, .inl hW, fun f0 nf0 => ?_⟩
    refine ⟨_, rfl, b, l, 3, rfl, B.new nf0, by decide, by decide, fun g H1 g0 g1 B1 bt1 => ?_⟩
    have g1 : g < 3 := g1
    have f01 := bt1 f0 _ (B.nb nf0) upd_same
    refine ⟨g, rfl, by omega, by omega, for_range (lo := 0) (n := g.toNat) (fun i σ G => ∃ (v4 v5 v6 : Option V) (fo : Addr) (ms : List (List Nat)), σ = [some (.ref b), some (.ref wa), some (.int m), some (.ref fo), v4, v5, v6] ∧ BagAt G b l ∧ But b H G ∧ H fo = none ∧ G fo = some (.lst (ms.map txV)) ∧ ms.length ≤ ls.length + i ∧ WOk ms)
      ⟨none, none, none, f0, ls, rfl, B1, (new_but nf0).trans bt1, nf0, f01, Nat.le_refl _, wok⟩ ?_ ?_⟩
    · rintro i σ G hi ⟨v4, v5, v6, fo, ms, rfl, BG, bt, nfo, hfo, hl, wm⟩
      have nfb := B.nb nfo
      have nfl := B.nl nfo
      refine ⟨_, rfl, b, l, 5, rfl, BG, by decide, by decide, fun g2 G2 h0 h1 B2 bt2 => ?_⟩
      have hfo2 := bt2 fo _ nfb hfo
      have bt02 := bt.trans bt2
      have next : ∀ (G5 : Hp) (p : Addr) (ns : List (List Nat)) (v5 v6 : Option V), BagAt G5 b l → But b H G5 → H p = none → G5 p = some (.lst (ns.map txV)) → ns.length ≤ ls.length + (i + 1) → WOk ns → ∃ (v4' v5' v6' : Option V) (fo' : Addr) (ms' : List (List Nat)), [some (.ref b), some (.ref wa), some (.int (m : Int)), some (.ref p), some (.int (0 + (i : Int))), v5, v6] = [some (.ref b), some (.ref wa), some (.int m), some (.ref fo'), v4', v5', v6'] ∧ BagAt G5 b l ∧ But b H G5 ∧ H fo' = none ∧ G5 fo' = some (.lst (ms'.map txV)) ∧ ms'.length ≤ ls.length + (i + 1) ∧ WOk ms' :=
        fun G5 p ns v5 v6 a1 a2 a3 a4 a5 a6 => ⟨_, v5, v6, p, ns, rfl, a1, a2, a3, a4, a5, a6⟩
      have m40 : m ≤ 40 := by omega
      refine ⟨_, rfl, _, _, rfl, rfl, _, rfl, ite2 (fun e => ?_) (fun e => ?_)⟩
      · refine ⟨_, rfl, Nat.zero_le _, fun em nem => ?_⟩
        have sE : Same G2 (upd G2 em (.lst [])) := same_new nem
        have B3 := B2.new (o := .lst []) nem
        have hfo3 := sE _ _ hfo2
        have bt3 := bt02.trans (But.same sE)
        refine ⟨.list (wdD ms), .list [], .lst (SqL.of hfo3) (dp_wds _), .lst (SqL.of upd_same) .nil, shp_wdsL wm.str, shp_nil, _, rfl, ?_⟩
        rw [wds_nil]
        by_cases en : ms = []
        · refine itFb (by rw [decide_eq_true en]; rfl) ?_
          refine ⟨_, rfl, rfl, _, rfl, ite2 (fun e3 => ?_) (fun e3 => ?_)⟩
          · refine ⟨_, rfl, .inl ⟨rfl, _, SqL.of hfo3⟩, _, rfl, 117, _, rfl, rfl, by omega, by omega, fo, _, _, rfl, rfl, hfo3, ?_, ?_⟩
            · rw [List.length_map]
              exact small1000 (by omega)
            · refine next _ fo (ms ++ [List.replicate m 117]) _ _ (BagAt.upd B3 nfb nfl) (fun a o na ho => ?_) nfo ?_ ?_ ?_
              · rw [upd_ne (ne_of_none ho nfo)]
                exact bt3 a o na ho
              · rw [upd_same, List.map_append]
                rfl
              · rw [List.length_append]
                simp
                omega
              · intro x hx
                rcases List.mem_append.mp hx with hx | hx
                · exact wm x hx
                · rw [List.mem_singleton.mp hx]
                  exact wok_rep (by decide) m40
          · refine ⟨_, rfl, _, rfl, _, rfl, fo, _, rfl, SqL.of hfo3, fun c nc => ?_⟩
            have nH : H c = none := But.free B bt3 B3 nc
            refine next _ c ms.dropLast _ _ (BagAt.new B3 nc) (bt3.trans (new_but nc)) nH ?_ ?_ ?_
            · rw [upd_same]
              exact congrArg (fun z => some (HO.lst z)) (cut_lastF txV ms)
            · rw [List.length_dropLast]
              omega
            · exact fun x hx => wm x (List.dropLast_subset _ hx)
        · refine itTb (by rw [decide_eq_false en]; rfl) ?_
          have ml0 : 0 < ms.length := List.length_pos_iff.mpr en
          have lm : ((ms.map txV).length : Int) = (ms.length : Int) := by rw [List.length_map]
          refine ⟨_, rfl, _, rfl, fo, _, rfl, .inl (SqL.of hfo3), b, l, (ms.length : Int), by rw [lm]; rfl, B3, by omega, ?_, fun at_ G4 a0 a1 B4 bt4 => ?_⟩
          · have : ((ms.length : Int)).natAbs < 100 := by omega
            exact Nat.lt_trans this (by decide)
          have hfo4 := bt4 fo _ nfb hfo3
          have bt04 := bt3.trans bt4
          refine ⟨_, rfl, _, rfl, _, _, rfl, rfl, 102, _, rfl, rfl, by omega, by omega, _, rfl, 120, _, rfl, rfl, by omega, by omega, _, rfl, 70, _, rfl, rfl, by omega, by omega, _, rfl, 117, _, rfl, rfl, by omega, by omega, (by show 5 ≤ sizeLine; decide), fun L nL => ?_⟩
          have B5 := B4.new (o := .lst [.str "", .str (SX.S (List.replicate ((m : Int) + 1).toNat 102)), .str (SX.S (List.replicate (m : Int).toNat 120)), .str (SX.S (List.replicate (m : Int).toNat 70)), .str (SX.S (List.replicate (m : Int).toNat 117))]) nL
          have hfo5 := (same_new (o := .lst [.str "", .str (SX.S (List.replicate ((m : Int) + 1).toNat 102)), .str (SX.S (List.replicate (m : Int).toNat 120)), .str (SX.S (List.replicate (m : Int).toNat 70)), .str (SX.S (List.replicate (m : Int).toNat 117))]) nL) _ _ hfo4
          refine ⟨b, l, L, _, rfl, B5, B4.nb nL, SqL.of upd_same, (by show 0 < 5; decide), (by show 5 < 1000; decide), fun v G6 hv B6 bt6 => ?_⟩
          have hfo6 := bt6 fo _ nfb hfo5
          have bt06 := bt04.trans ((new_but nL).trans bt6)
          obtain ⟨x, rfl, hx⟩ : ∃ x : List Nat, v = txV x ∧ (x.length ≤ 40 ∧ ∀ c ∈ x, c < 128) := by
            simp only [List.mem_cons, List.not_mem_nil, or_false] at hv
            rcases hv with rfl | rfl | rfl | rfl | rfl
            · exact ⟨[], rfl, by decide, fun c hc => by cases hc⟩
            · exact ⟨_, rfl, wok_rep (by decide) (by omega)⟩
            · exact ⟨_, rfl, wok_rep (by decide) (by omega)⟩
            · exact ⟨_, rfl, wok_rep (by decide) (by omega)⟩
            · exact ⟨_, rfl, wok_rep (by decide) (by omega)⟩
          have ea : at_ = ((at_.toNat : Nat) : Int) := by omega
          refine ⟨_, rfl, _, rfl, fo, _, _, at_.toNat, rfl, rfl, hfo6, ?_, ?_⟩
          · rw [ea]
            exact ix_nat (by rw [List.length_map]; omega)
          · refine next _ fo (ms.set at_.toNat x) _ _ (BagAt.upd B6 nfb nfl) (fun a o na ho => ?_) nfo ?_ ?_ ?_
            · rw [upd_ne (ne_of_none ho nfo)]
              exact bt06 a o na ho
            · rw [upd_same, List.map_set]
            · rw [List.length_set]
              omega
            · intro y hy
              rcases List.mem_or_eq_of_mem_set hy with hy | hy
              · exact wm y hy
              · rw [hy]
                exact hx
      · skip
        refine ⟨_, rfl, rfl, _, rfl, ite2 (fun e3 => ?_) (fun e3 => ?_)⟩
        · refine ⟨_, rfl, .inl ⟨rfl, _, SqL.of hfo2⟩, _, rfl, 117, _, rfl, rfl, by omega, by omega, fo, _, _, rfl, rfl, hfo2, ?_, ?_⟩
          · rw [List.length_map]
            exact small1000 (by omega)
          · refine next _ fo (ms ++ [List.replicate m 117]) _ _ (BagAt.upd B2 nfb nfl) (fun a o na ho => ?_) nfo ?_ ?_ ?_
            · rw [upd_ne (ne_of_none ho nfo)]
              exact bt02 a o na ho
            · rw [upd_same, List.map_append]
              rfl
            · rw [List.length_append]
              simp
              omega
            · intro x hx
              rcases List.mem_append.mp hx with hx | hx
              · exact wm x hx
              · rw [List.mem_singleton.mp hx]
                exact wok_rep (by decide) m40
        · refine ⟨_, rfl, _, rfl, _, rfl, fo, _, rfl, SqL.of hfo2, fun c nc => ?_⟩
          have nH : H c = none := But.free B bt02 B2 nc
          refine next _ c ms.dropLast _ _ (BagAt.new B2 nc) (bt02.trans (new_but nc)) nH ?_ ?_ ?_
          · rw [upd_same]
            exact congrArg (fun z => some (HO.lst z)) (cut_lastF txV ms)
          · rw [List.length_dropLast]
            omega
          · exact fun x hx => wm x (List.dropLast_subset _ hx)
    · rintro σ G ⟨v4, v5, v6, fo, ms, rfl, BG, bt, nfo, hfo, hl, wm⟩
      exact ⟨_, rfl, q ms G fo (by omega) wm nfo hfo BG bt⟩
end
end Lk

namespace Lk
open PySem L2 Lx LamX
abbrev pN : List Str := ["_law_bag_here", "_law_scan_here", "_law_directions", "_law_odd_here", "_law_good", "_law_asks", "_law_ask"]
def t2 (K : PySem.W.Frag) (C CE : Addr) (i j : Nat) : XK → TE := fun E σ H Q => ∃ (a dx : Addr) (n nt : Int) (da : Addr) (tv u v : V), σ[1]? = some (some (.ref a)) ∧ H a = some (.ins C dx (sf n nt da tv)) ∧ σ[i]? = some (some u) ∧ σ[j]? = some (some v) ∧ spTwoX K C CE [.ref a, u, v] H Q E
def t1 (K : PySem.W.Frag) (C CE : Addr) : XK → TE := fun E σ H Q => ∃ (a dx : Addr) (n nt : Int) (da : Addr) (tv u : V), σ[1]? = some (some (.ref a)) ∧ H a = some (.ins C dx (sf n nt da tv)) ∧ σ[3]? = some (some u) ∧ spShiftX K C CE [.ref a, u] H Q E
def t0 (K : PySem.W.Frag) (C CE : Addr) : XK → TE := fun E σ H Q => ∃ (a dx : Addr) (n nt : Int) (da : Addr) (tv u : V), σ[1]? = some (some (.ref a)) ∧ H a = some (.ins C dx (sf n nt da tv)) ∧ σ[3]? = some (some u) ∧ spTwoX K C CE [.ref a, u, .non] H Q E
def lstAt : Expr → Nat → Expr
  | .List es _, i => es.getD i (.Constant .none 0 ⟨0, 0, 0, 0⟩)
  | .BinOp _ _ r _, i => lstAt r i
  | e, _ => e
def valAt : Stmt → Expr
  | .Assign _ e _ => e
  | _ => .Constant .none 0 ⟨0, 0, 0, 0⟩
/-- a lambda made in X is kept at f -/
def Kept (X : Cx) (H : Hp) (m : Lm) (f : Addr) : Prop := ∃ (c' : Addr) (fd : FuncData), H f = some (LamO f fd) ∧ LamIs X m fd c' ∧ H c' = some (CodeO c' (X.env.qual ++ "<lambda>")) ∧ Dfl H m fd
theorem lamO_ne {f : Addr} {fd : FuncData} (ps : Array Value) : LamO f fd ≠ .tbl ps := fun z => by
  unfold LamO at z
  cases z
theorem Kept.extN {X : Cx} {H H' : Hp} {m : Lm} {f : Addr} (k : Kept X H m f) (e : ExtN H H') : Kept X H' m f := by
  obtain ⟨c', fd, h1, h2, h3, h4⟩ := k
  exact ⟨c', fd, e _ _ h1 lamO_ne, h2, e _ _ h3 codeO_ne, h4.ext fun a xs h => e _ _ h (fun ps z => by cases z)⟩
theorem Kept.made {X : Cx} {H : Hp} {m : Lm} {f c' : Addr} {fd : FuncData} (n : H f = none) (hc : H c' = some (CodeO c' (X.env.qual ++ "<lambda>"))) (li : LamIs X m fd c') (df : Dfl H m fd) : Kept X (upd H f (LamO f fd)) m f :=
  ⟨c', fd, upd_same, li, by rw [upd_ne (ne_of_none hc n)]; exact hc, df.ext fun a xs h => by rw [upd_ne (ne_of_none h n)]; exact h⟩
theorem extN_new {H : Hp} {p : Addr} {o : HO} (n : H p = none) : ExtN H (upd H p o) := ExtN.of (same_new n)
section
variable {P : Program} {w : World} {K : PySem.W.Frag} {mg : Str → Option Value} {base : Heap}
end
end Lk



namespace Lx
open PySem L2 PySem.Spec PyProof.Rows LamX Lk
/-- _law_try(e) in X itself, e a lambda that was made in X -/
theorem pe_keptO {X : Cx} {g fF CS : Addr} {k : Nat} {ms : List Lm} {e : Expr} {te : TE} {p pos : Pos} (R : TryT X.K X.mg g) (FT : FieldT X.K X.mg fF) (hS : X.mg "ScanError" = some (.ref CS)) (hg : Gl X "_law_try") (ok : ∀ m ∈ ms, LmOk X m k) (hr : Room (k + 2) X.A) (hr2 : Room 2 X.A) (he : PE X e te)
    (hst : starEach [e] X.env = (false, eval e X.env) :: starEach [] X.env := by rfl) : PE X (.Call (.Name "_law_try" p) [e] [] pos) (fun σ H Q => tKept X CS ms σ te σ H Q) := by
  obtain ⟨oc, od, kV, doc, pm, an, cdv, ct, osl, lk, hcd⟩ := R.lk
  refine ⟨fun pins s σ H Q I h => ?_⟩
  refine wpAny_Call_Name_kw (ld_glob I hg R.at_ ?_ (by decide))
  refine PySem.W.callWith_K (h₀ := X.base) I.ok.mod.kin R.kp ?_ hst (by rfl)
  rw [hst]
  refine Calls.spliced_cons (thn (he.run pins s σ H _ I h) fun u s1 h1 => ?_)
  obtain ⟨v, H1, I1, rv, f, c', fd, m, rfl, hm, hf, li, hc, df, q⟩ := h1
  obtain rfl : u = Value.ref f := rv
  refine Calls.spliced_nil ⟨I1.kIn, ?_⟩
  have C := CellsAt.of I1
  have rc : codeAny (model X.prog X.w) X.A (.call (.ref g) ⟨[.ref f], []⟩) (CR C8.CX0 X.stack X.prog X.w H1 s1 Q C8.E0) s1 := by
    refine run_ofS (N := ["_law_ask", "_law_e"]) (ps := ["_law_ask"]) (us := [.ref f]) (vs := [.ref f]) lk hcd scTry hr I1.env0 ((Binds.all fun us hl => match us, hl with | [_], _ => rfl) s1 [.ref f] I1.kIn rfl) (.cons rfl .nil) rfl fun hr' => ?_
    have G := try_gives (X := X) (g := g) (cdg := cdv) (q := X.env.qual ++ "<lambda>") (k := 0) FT hS fun s => hr2.deeper _
    have act : ∀ (W : WX) (pn' : List (Addr × Obj)) (xe' : Value → Shared → Prop) (E : XK) (p1 p2 : Pos), Takes ((cxOf C8.CX0 X.prog X.w X.K X.mg X.base ["_law_ask", "_law_e"] "_law_try" (defScope sTry) g cdv X.A X.stack s1 H1 C8.E0).tr pn' xe') W → (∀ cls d σ' H', E cls d H' → W cls d σ' H') →
        PE ((cxOf C8.CX0 X.prog X.w X.K X.mg X.base ["_law_ask", "_law_e"] "_law_try" (defScope sTry) g cdv X.A X.stack s1 H1 C8.E0).tr pn' xe') (.Call (.Name "_law_ask" p1) [] [] p2) (fun σZ HZ Q => σZ[0]? = some (some (.ref f)) ∧ HZ c' = some (CodeO c' (X.env.qual ++ "<lambda>")) ∧ (HZ f = some (LamO f fd) ∧ Dfl HZ m fd ∧ m.t E σ HZ Q)) := by
      intro W pn' xe' E p1 p2 tk hW
      refine ⟨fun pz sz σz Hz Qz Iz hz => ?_⟩
      obtain ⟨z1, z2, z3, z4, z5⟩ := hz
      refine wpAny_Call_Name_kw (thn ((pe_var (pos := p1) (i := 0) rfl (.inl rfl) (by decide) (by decide)).run pz sz σz Hz (fun v G1 => v = .ref f ∧ G1 = Hz) Iz ⟨.ref f, z1, rfl, rfl⟩) fun u s2 h2 => ?_)
      obtain ⟨v, G1, I2, r2, rfl, rfl⟩ := h2
      obtain rfl : u = Value.ref f := r2
      have un : Un (frs X.stack) [] H1 G1 s1.heap s2.heap := I2.base
      have C2 := C.un un fun x c _ => by simp
      have call := lam_run (E := E) (Q := Qz) (ok m hm) C2 I2.env0 hr' I2.nolimit z3 li z2 z4 z5
      refine PySem.W.callWith_F0 ⟨_, _, _, _, (I2.hok f _ z3).1⟩ ?_
      have hx : Passes (L2.CX X.prog X.w) ((cxOf C8.CX0 X.prog X.w X.K X.mg X.base ["_law_ask", "_law_e"] "_law_try" (defScope sTry) g cdv X.A X.stack s1 H1 C8.E0).tr pn' xe') E := passes_call tk hW
      refine wpAny_call (codeAny_mono call fun r s' hq => ?_)
      cases r with
      | error e => exact hx pz σz G1 s2 e s' I2 hq
      | ok fl =>
        cases fl with
        | ret u => exact I2.after hq
        | next => exact False.elim hq
        | brk => exact False.elim hq
        | cont => exact False.elim hq
    obtain ⟨t', ht', hq'⟩ := G f c' s1 H1 Q (fun E H2 Q2 => H2 f = some (LamO f fd) ∧ Dfl H2 m fd ∧ m.t E σ H2 Q2) act hc q
    exact ⟨t', ht'.nox, hq'⟩
  refine wpAny_call (codeAny_mono rc fun r s2 hq => ?_)
  cases r with
  | error e => exact (show False from hq).elim
  | ok fl =>
    cases fl with
    | ret u => exact I1.after hq
    | next => exact False.elim hq
    | brk => exact False.elim hq
    | cont => exact False.elim hq
end Lx

namespace Lk
open PySem L2 Lx LamX LrA LqA
/-! ### determinants -/
def minorM (m : List (List Int)) (j : Nat) : List (List Int) := m.tail.map fun r => r.take j ++ r.drop (j + 1)
def detF (g : Nat → Int) : List Int → Nat → Int → Int → Int
  | [], _, _, t => t
  | a :: r, j, s, t => detF g r (j + 1) (-s) (t + s * a * g j)
def detM : Nat → List (List Int) → Int
  | 0, _ => 0
  | 1, m => (m.headD []).headD 0
  | n + 2, m => detF (fun j => detM (n + 1) (minorM m j)) (m.headD []) 0 1 0
theorem det1 (a : Int) : detM 1 [[a]] = a := rfl
theorem det2 (a b c e : Int) : detM 2 [[a, b], [c, e]] = a * e - b * c := by
  simp [detM, detF, minorM]; grind
theorem det3 (a b c e f g h i j : Int) : detM 3 [[a, b, c], [e, f, g], [h, i, j]] = a * (f * j - g * i) - b * (e * j - g * h) + c * (e * i - f * h) := by
  simp [detM, detF, minorM]; grind
structure Sq (mat : List (List Int)) (d : Nat) : Prop where
  ln : mat.length = d
  rw_ : ∀ r ∈ mat, r.length = d
theorem Sq.cases1 {mat : List (List Int)} (S : Sq mat 1) : ∃ a, mat = [[a]] := by
  match mat, S.ln, S.rw_ with
  | [m], _, hr =>
    have k1 := hr m (by simp)
    match m, k1 with
    | [a], _ => exact ⟨a, rfl⟩
theorem Sq.cases2 {mat : List (List Int)} (S : Sq mat 2) : ∃ a b c e, mat = [[a, b], [c, e]] := by
  match mat, S.ln, S.rw_ with
  | [m, n], _, hr =>
    have k1 := hr m (by simp)
    have k2 := hr n (by simp)
    match m, n, k1, k2 with
    | [a, b], [c, e], _, _ => exact ⟨a, b, c, e, rfl⟩
theorem Sq.cases3 {mat : List (List Int)} (S : Sq mat 3) : ∃ a b c e f g h i j, mat = [[a, b, c], [e, f, g], [h, i, j]] := by
  match mat, S.ln, S.rw_ with
  | [m, n, o], _, hr =>
    have k1 := hr m (by simp)
    have k2 := hr n (by simp)
    have k3 := hr o (by simp)
    match m, n, o, k1, k2, k3 with
    | [a, b, c], [e, f, g], [h, i, j], _, _, _ => exact ⟨a, b, c, e, f, g, h, i, j, rfl⟩
theorem det_sq {D : Int} (h : D = 1 ∨ D = -1) : D * D = 1 := by
  rcases h with rfl | rfl <;> rfl
structure Uni (mat : List (List Int)) (d : Nat) : Prop where
  sq : Sq mat d
  det : detM d mat = 1 ∨ detM d mat = -1
theorem uni_onto {mat : List (List Int)} {d : Nat} (h1 : 1 ≤ d) (h3 : d ≤ 3) (U : Uni mat d) {y : List Int} (hy : y.length = d) : ∃ x : List Int, x.length = d ∧ mulM mat x = y := by
  have hD := det_sq U.det
  rcases small_d h1 h3 with rfl | rfl | rfl
  · obtain ⟨a, rfl⟩ := U.sq.cases1
    rw [det1] at hD
    match y, hy with
    | [p], _ =>
      refine ⟨[a * p], rfl, ?_⟩
      simp [mulM, dotL]
      rw [← Int.mul_assoc, hD, Int.one_mul]
  · obtain ⟨a, b, c, e, rfl⟩ := U.sq.cases2
    rw [det2] at hD
    match y, hy with
    | [p, q], _ =>
      generalize hdd : a * e - b * c = D at hD
      refine ⟨[D * (e * p - b * q), D * (a * q - c * p)], rfl, ?_⟩
      simp [mulM, dotL]
      constructor
      · have : a * (D * (e * p - b * q)) + b * (D * (a * q - c * p)) = D * (a * e - b * c) * p := by grind
        rw [this, hdd, hD, Int.one_mul]
      · have : c * (D * (e * p - b * q)) + e * (D * (a * q - c * p)) = D * (a * e - b * c) * q := by grind
        rw [this, hdd, hD, Int.one_mul]
  · obtain ⟨a, b, c, e, f, g, h, i, j, rfl⟩ := U.sq.cases3
    rw [det3] at hD
    match y, hy with
    | [p, q, r], _ =>
      generalize hdd : a * (f * j - g * i) - b * (e * j - g * h) + c * (e * i - f * h) = D at hD
      refine ⟨[D * ((f * j - g * i) * p + (c * i - b * j) * q + (b * g - c * f) * r), D * ((g * h - e * j) * p + (a * j - c * h) * q + (c * e - a * g) * r), D * ((e * i - f * h) * p + (b * h - a * i) * q + (a * f - b * e) * r)], rfl, ?_⟩
      simp [mulM, dotL]
      refine ⟨?_, ?_, ?_⟩
      · have : a * (D * ((f * j - g * i) * p + (c * i - b * j) * q + (b * g - c * f) * r)) + (b * (D * ((g * h - e * j) * p + (a * j - c * h) * q + (c * e - a * g) * r)) + c * (D * ((e * i - f * h) * p + (b * h - a * i) * q + (a * f - b * e) * r))) = D * (a * (f * j - g * i) - b * (e * j - g * h) + c * (e * i - f * h)) * p := by grind
        rw [this, hdd, hD, Int.one_mul]
      · have : e * (D * ((f * j - g * i) * p + (c * i - b * j) * q + (b * g - c * f) * r)) + (f * (D * ((g * h - e * j) * p + (a * j - c * h) * q + (c * e - a * g) * r)) + g * (D * ((e * i - f * h) * p + (b * h - a * i) * q + (a * f - b * e) * r))) = D * (a * (f * j - g * i) - b * (e * j - g * h) + c * (e * i - f * h)) * q := by grind
        rw [this, hdd, hD, Int.one_mul]
      · have : h * (D * ((f * j - g * i) * p + (c * i - b * j) * q + (b * g - c * f) * r)) + (i * (D * ((g * h - e * j) * p + (a * j - c * h) * q + (c * e - a * g) * r)) + j * (D * ((e * i - f * h) * p + (b * h - a * i) * q + (a * f - b * e) * r))) = D * (a * (f * j - g * i) - b * (e * j - g * h) + c * (e * i - f * h)) * r := by grind
        rw [this, hdd, hD, Int.one_mul]
theorem cancel_det {D x y : Int} (h : D = 1 ∨ D = -1) (e : D * x = D * y) : x = y := by
  rcases h with rfl | rfl <;> omega
theorem uni_inj {mat : List (List Int)} {d : Nat} (h1 : 1 ≤ d) (h3 : d ≤ 3) (U : Uni mat d) {x y : List Int} (hx : x.length = d) (hy : y.length = d) (e : mulM mat x = mulM mat y) : x = y := by
  have hU := U.det
  rcases small_d h1 h3 with rfl | rfl | rfl
  · obtain ⟨a, rfl⟩ := U.sq.cases1
    rw [det1] at hU
    match x, y, hx, hy with
    | [p], [u], _, _ =>
      simp [mulM, dotL] at e
      rw [cancel_det hU (x := p) (y := u) e]
  · obtain ⟨a, b, c, f, rfl⟩ := U.sq.cases2
    rw [det2] at hU
    match x, y, hx, hy with
    | [p, q], [u, v], _, _ =>
      simp [mulM, dotL] at e
      obtain ⟨e1, e2⟩ := e
      rw [cancel_det hU (x := p) (y := u) (by grind), cancel_det hU (x := q) (y := v) (by grind)]
  · obtain ⟨a, b, c, k, f, g, h, i, j, rfl⟩ := U.sq.cases3
    rw [det3] at hU
    match x, y, hx, hy with
    | [p, q, r], [u, v, w], _, _ =>
      simp [mulM, dotL] at e
      obtain ⟨e1, e2, e3⟩ := e
      have k1 : (a * (f * j - g * i) - b * (k * j - g * h) + c * (k * i - f * h)) * p = (a * (f * j - g * i) - b * (k * j - g * h) + c * (k * i - f * h)) * u := by
        have z1 : (a * (f * j - g * i) - b * (k * j - g * h) + c * (k * i - f * h)) * p = (f * j - g * i) * (a * p + (b * q + c * r)) + (c * i - b * j) * (k * p + (f * q + g * r)) + (b * g - c * f) * (h * p + (i * q + j * r)) := by grind
        have z2 : (a * (f * j - g * i) - b * (k * j - g * h) + c * (k * i - f * h)) * u = (f * j - g * i) * (a * u + (b * v + c * w)) + (c * i - b * j) * (k * u + (f * v + g * w)) + (b * g - c * f) * (h * u + (i * v + j * w)) := by grind
        rw [z1, z2, e1, e2, e3]
      have k2 : (a * (f * j - g * i) - b * (k * j - g * h) + c * (k * i - f * h)) * q = (a * (f * j - g * i) - b * (k * j - g * h) + c * (k * i - f * h)) * v := by
        have z1 : (a * (f * j - g * i) - b * (k * j - g * h) + c * (k * i - f * h)) * q = (g * h - k * j) * (a * p + (b * q + c * r)) + (a * j - c * h) * (k * p + (f * q + g * r)) + (c * k - a * g) * (h * p + (i * q + j * r)) := by grind
        have z2 : (a * (f * j - g * i) - b * (k * j - g * h) + c * (k * i - f * h)) * v = (g * h - k * j) * (a * u + (b * v + c * w)) + (a * j - c * h) * (k * u + (f * v + g * w)) + (c * k - a * g) * (h * u + (i * v + j * w)) := by grind
        rw [z1, z2, e1, e2, e3]
      have k3 : (a * (f * j - g * i) - b * (k * j - g * h) + c * (k * i - f * h)) * r = (a * (f * j - g * i) - b * (k * j - g * h) + c * (k * i - f * h)) * w := by
        have z1 : (a * (f * j - g * i) - b * (k * j - g * h) + c * (k * i - f * h)) * r = (k * i - f * h) * (a * p + (b * q + c * r)) + (b * h - a * i) * (k * p + (f * q + g * r)) + (a * f - b * k) * (h * p + (i * q + j * r)) := by grind
        have z2 : (a * (f * j - g * i) - b * (k * j - g * h) + c * (k * i - f * h)) * w = (k * i - f * h) * (a * u + (b * v + c * w)) + (b * h - a * i) * (k * u + (f * v + g * w)) + (a * f - b * k) * (h * u + (i * v + j * w)) := by grind
        rw [z1, z2, e1, e2, e3]
      rw [cancel_det hU k1, cancel_det hU k2, cancel_det hU k3]
/-! ### the divisors of a slanted scan -/
def rstF : List (Int × Int) → Int → Int
  | [], s => s
  | (v, m) :: r, s => rstF r (lcmI s (v / gcdI v m))
def restD (ds : List Int) (mat : List (List Int)) : List Int := (List.range ds.length).map fun j => rstF (ds.zip (colM mat j)) 1
theorem part_pos {v m : Int} (hv : 1 ≤ v) : 1 ≤ v / gcdI v m ∧ v / gcdI v m ≤ v ∧ v ∣ (v / gcdI v m) * m := by
  obtain ⟨n, rfl⟩ := Int.eq_ofNat_of_zero_le (show 0 ≤ v by omega)
  have hg : 0 < Nat.gcd n m.natAbs := Nat.gcd_pos_of_pos_left _ (by omega)
  have hd : Nat.gcd n m.natAbs ∣ n := Nat.gcd_dvd_left _ _
  have hm : Nat.gcd n m.natAbs ∣ m.natAbs := Nat.gcd_dvd_right _ _
  have e0 : gcdI (n : Int) m = ((Nat.gcd n m.natAbs : Nat) : Int) := rfl
  rw [e0]
  obtain ⟨q, hq⟩ := hd
  obtain ⟨t, ht⟩ := hm
  generalize Nat.gcd n m.natAbs = g at *
  subst hq
  have e1 : ((g * q : Nat) : Int) / (g : Int) = (q : Int) := by
    rw [Int.natCast_mul, Int.mul_ediv_cancel_left _ (by omega)]
  rw [e1]
  have hq0 : 1 ≤ q := by
    rcases Nat.eq_zero_or_pos q with z | z
    · subst z; simp at hv
    · exact z
  refine ⟨by omega, ?_, ?_⟩
  · have : 1 * q ≤ g * q := Nat.mul_le_mul_right q hg
    omega
  · have : (m.natAbs : Int) = (g : Int) * (t : Int) := by rw [ht, Int.natCast_mul]
    rcases Int.natAbs_eq m with z | z
    · rw [z, this]
      exact ⟨t, by rw [Int.natCast_mul]; grind⟩
    · rw [z, this]
      exact ⟨-t, by rw [Int.natCast_mul]; grind⟩
theorem rstF_ok : ∀ (l : List (Int × Int)) (s : Int), 1 ≤ s → (∀ q ∈ l, 1 ≤ q.1) → 1 ≤ rstF l s ∧ s ∣ rstF l s ∧ rstF l s ≤ s * prodL (l.map (·.1)) ∧ ∀ q ∈ l, q.1 ∣ rstF l s * q.2
  | [], s, hs, _ => ⟨hs, Int.dvd_refl _, by simp [rstF, prodL], by simp⟩
  | (v, m) :: r, s, hs, h => by
    have hv : 1 ≤ v := h (v, m) List.mem_cons_self
    obtain ⟨p1, p2, p3⟩ := part_pos (m := m) hv
    have hl := lcm_pos hs p1
    obtain ⟨a1, a2, a3, a4⟩ := rstF_ok r (lcmI s (v / gcdI v m)) hl fun q hq => h q (List.mem_cons_of_mem _ hq)
    obtain ⟨m1, m2⟩ := lcm_mod hs p1
    have d1 : s ∣ lcmI s (v / gcdI v m) := Int.dvd_of_emod_eq_zero m1
    have d2 : (v / gcdI v m) ∣ lcmI s (v / gcdI v m) := Int.dvd_of_emod_eq_zero m2
    have pr : 1 ≤ prodL (r.map (·.1)) := prodL_pos fun z hz => by
      obtain ⟨q, hq, rfl⟩ := List.mem_map.mp hz
      exact h q (List.mem_cons_of_mem _ hq)
    refine ⟨a1, Int.dvd_trans d1 a2, ?_, fun q hq => ?_⟩
    · show rstF r _ ≤ s * (v * prodL (r.map (·.1)))
      have l1 := lcm_le hs p1
      have l2 : s * (v / gcdI v m) ≤ s * v := Int.mul_le_mul_of_nonneg_left p2 (by omega)
      have l3 : lcmI s (v / gcdI v m) * prodL (r.map (·.1)) ≤ (s * v) * prodL (r.map (·.1)) := Int.mul_le_mul_of_nonneg_right (by omega) (by omega)
      rw [← Int.mul_assoc]
      show rstF r _ ≤ s * v * prodL (r.map (·.1))
      omega
    · rcases List.mem_cons.mp hq with z | z
      · subst z
        show v ∣ rstF r _ * m
        obtain ⟨u, hu⟩ := Int.dvd_trans d2 a2
        obtain ⟨t, ht⟩ := p3
        exact ⟨t * u, by rw [hu]; grind⟩
      · exact a4 q z
theorem restD_len (ds : List Int) (mat : List (List Int)) : (restD ds mat).length = ds.length := by simp [restD]
theorem restD_one {ds : List Int} {mat : List (List Int)} (h : ∀ z ∈ ds, 1 ≤ z) (hl : mat.length = ds.length) : ∀ z ∈ restD ds mat, 1 ≤ z ∧ z ≤ prodL ds := fun z hz => by
  unfold restD at hz
  obtain ⟨j, hj, rfl⟩ := List.mem_map.mp hz
  have lc : ds.length = (colM mat j).length := by unfold colM; rw [List.length_map, hl]
  obtain ⟨a1, _, a3, _⟩ := rstF_ok (ds.zip (colM mat j)) 1 (by omega) fun q hq => h _ (List.of_mem_zip hq).1
  rw [zip_fst _ _ lc, Int.one_mul] at a3
  exact ⟨a1, a3⟩
theorem restD_dvd {ds : List Int} {mat : List (List Int)} (h : ∀ z ∈ ds, 1 ≤ z) {j k : Nat} {v : Int} {row : List Int} (hj : j < ds.length) (hv : ds[k]? = some v) (hr : mat[k]? = some row) : v ∣ (restD ds mat).getD j 0 * row.getD j 0 := by
  have e1 : (restD ds mat).getD j 0 = rstF (ds.zip (colM mat j)) 1 := by
    unfold restD
    rw [List.getD_eq_getElem?_getD, List.getElem?_map, List.getElem?_range hj]
    rfl
  rw [e1]
  have hm : (v, row.getD j 0) ∈ ds.zip (colM mat j) := by
    refine List.mem_of_getElem? (i := k) ?_
    rw [List.getElem?_zip_eq_some]
    refine ⟨hv, ?_⟩
    unfold colM
    rw [List.getElem?_map, hr]
    rfl
  exact (rstF_ok (ds.zip (colM mat j)) 1 (by omega) fun q hq => h _ (List.of_mem_zip hq).1).2.2.2 _ hm
theorem dot_mod {v : Int} : ∀ (row ns x : List Int), row.length = x.length → ns.length = x.length → (∀ j, j < x.length → v ∣ ns.getD j 0 * row.getD j 0) → dotL row (rst ns x) % v = dotL row x % v
  | [], ns, x, _, _, _ => by simp [dotL]
  | a :: row, n :: ns, s :: x, h1, h2, h => by
    have ih := dot_mod row ns x (by simpa using h1) (by simpa using h2) fun j hj => by
      have := h (j + 1) (by simp; omega)
      simpa using this
    have h0 : v ∣ n * a := by simpa using h 0 (by simp)
    have e1 : dotL (a :: row) (rst (n :: ns) (s :: x)) = a * (s % n) + dotL row (rst ns x) := by simp [dotL, rst]
    have e2 : dotL (a :: row) (s :: x) = a * s + dotL row x := by simp [dotL]
    rw [e1, e2, Int.add_emod, ih, ← Int.add_emod, ]
    have e3 : a * s = a * (s % n) + (n * a) * (s / n) := by
      have := Int.emod_add_mul_ediv s n
      grind
    rw [e3]
    obtain ⟨u, hu⟩ := h0
    rw [hu, show a * (s % n) + v * u * (s / n) + dotL row x = a * (s % n) + dotL row x + v * (u * (s / n)) by grind, Int.add_mul_emod_self_left]
  | _ :: _, [], _ :: _, _, h, _ => by cases h
  | _ :: _, _, [], h, _, _ => by cases h
theorem cls_mod : ∀ {ds u v : List Int}, ds.length = u.length → ds.length = v.length → (∀ (k : Nat) (z a b : Int), ds[k]? = some z → u[k]? = some a → v[k]? = some b → a % z = b % z) → ∀ n, clsF (ds.zip u) n = clsF (ds.zip v) n
  | [], _, _, _, _, _, n => by simp
  | d :: ds, s :: u, t :: v, h1, h2, h, n => by
    have h0 := h 0 d s t rfl rfl rfl
    show clsF (ds.zip u) (n * d + s % d) = clsF (ds.zip v) (n * d + t % d)
    rw [h0]
    exact cls_mod (by simpa using h1) (by simpa using h2) (fun k z a b e1 e2 e3 => h (k + 1) z a b (by simpa using e1) (by simpa using e2) (by simpa using e3)) _
  | d :: ds, [], _, h, _, _, n => by cases h
  | d :: ds, _ :: _, [], _, h, _, n => by cases h
section
variable {ds : List Int} {mat : List (List Int)} {n n' : Nat}
theorem rst_len {ds z : List Int} (h : ds.length = z.length) : (rst ds z).length = z.length := by
  unfold rst
  rw [List.length_map, List.length_zip]
  omega
theorem sl_src (D : Divs ds) (S : Sq mat ds.length) (D' : Divs (restD ds mat)) (hn' : prodL (restD ds mat) = (n' : Int)) {x : List Int} (hx : x.length = ds.length) :
    (srcM ds mat (zer ds.length) (restD ds mat) n').getD (cls (restD ds mat) x).toNat 0 = cls ds (mulM mat x) := by
  have ln := restD_len ds mat
  have b := cls_in D' hn' (z := x) (by rw [ln, hx])
  have lr : (rst (restD ds mat) x).length = ds.length := by rw [rst_len (by rw [ln, hx]), hx]
  have lm : ∀ y, (mulM mat y).length = ds.length := fun y => by unfold mulM; rw [List.length_map, S.ln]
  rw [srcM_get (by omega), show (((cls (restD ds mat) x).toNat : Nat) : Int) = cls (restD ds mat) x by omega, pAt_cls (by rw [ln, hx]) D'.one, plus_zer' (lm _)]
  refine cls_mod (by rw [lm]) (by rw [lm]) (fun k z a b' e1 e2 e3 => ?_) 0
  unfold mulM at e2 e3
  rw [List.getElem?_map] at e2 e3
  cases er : mat[k]? with
  | none => rw [er] at e2; cases e2
  | some row =>
    rw [er] at e2 e3
    obtain rfl := Option.some.inj e2
    obtain rfl := Option.some.inj e3
    have lrow := S.rw_ row (List.mem_of_getElem? er)
    exact dot_mod row (restD ds mat) x (by rw [lrow, hx]) (by rw [ln, hx]) fun j hj => restD_dvd D.one (by omega) e1 er
theorem sl_srcs (D : Divs ds) (h1 : 1 ≤ ds.length) (h3 : ds.length ≤ 3) (hn : prodL ds = (n : Int)) (U : Uni mat ds.length) (D' : Divs (restD ds mat)) (hn' : prodL (restD ds mat) = (n' : Int)) : Srcs (srcM ds mat (zer ds.length) (restD ds mat) n') n := by
  have lm : ∀ y, (mulM mat y).length = ds.length := fun y => by unfold mulM; rw [List.length_map, U.sq.ln]
  constructor
  · intro c hc
    unfold srcM at hc
    obtain ⟨j, hj, rfl⟩ := List.mem_map.mp hc
    refine cls_in D hn ?_
    rw [plus_zer' (lm _), lm]
  · intro c c0 c1
    obtain ⟨x, lx_, ex⟩ := uni_onto h1 h3 U (pAt_len ds c)
    have b := cls_in (n := n') D' hn' (z := x) (by rw [restD_len, lx_])
    refine ⟨(cls (restD ds mat) x).toNat, by rw [srcM_len]; omega, ?_⟩
    rw [sl_src D U.sq D' hn' lx_, ex]
    exact cls_pAt D c0 (by rw [hn]; exact c1)
end
end Lk

namespace Lk
open PySem L2 Lx LamX LrA LqA
/-! ### rows that stay small -/
mutual
def Tr.rb (B : Nat) : Tr → Prop
  | .pl => True
  | .key row _ t => (∀ z ∈ row, z.natAbs ≤ B) ∧ t.rb B
  | .fork gs => gs.rb B
def Gs.rb (B : Nat) : Gs → Prop
  | .nil => True
  | .cons _ t r => t.rb B ∧ r.rb B
end
mutual
theorem Tr.rb_mono {B C : Nat} (h : B ≤ C) : ∀ t : Tr, t.rb B → t.rb C
  | .pl, _ => by simp [Tr.rb]
  | .key row hs t, w => by
    simp only [Tr.rb] at w ⊢
    exact ⟨fun z hz => Nat.le_trans (w.1 z hz) h, Tr.rb_mono h t w.2⟩
  | .fork gs, w => by
    simp only [Tr.rb] at w ⊢
    exact Gs.rb_mono h gs w
theorem Gs.rb_mono {B C : Nat} (h : B ≤ C) : ∀ g : Gs, g.rb B → g.rb C
  | .nil, _ => by simp [Gs.rb]
  | .cons cs t r, w => by
    simp only [Gs.rb] at w ⊢
    exact ⟨Tr.rb_mono h t w.1, Gs.rb_mono h r w.2⟩
end
theorem dot_small {B C : Nat} : ∀ (rs ps : List Int), (∀ z ∈ rs, z.natAbs ≤ B) → (∀ z ∈ ps, z.natAbs ≤ C) → (dotL rs ps).natAbs ≤ rs.length * (B * C)
  | [], ps, _, _ => by simp [dotL]
  | a :: rs, [], _, _ => by simp [dotL]
  | a :: rs, b :: ps, h1, h2 => by
    have ih := dot_small rs ps (fun z h => h1 z (List.mem_cons_of_mem _ h)) (fun z h => h2 z (List.mem_cons_of_mem _ h))
    have e : dotL (a :: rs) (b :: ps) = a * b + dotL rs ps := by simp [dotL]
    have hm : (a * b).natAbs ≤ B * C := by
      rw [Int.natAbs_mul]
      exact Nat.mul_le_mul (h1 a List.mem_cons_self) (h2 b List.mem_cons_self)
    have := Int.natAbs_add_le (a * b) (dotL rs ps)
    rw [e, List.length_cons, Nat.add_mul, Nat.one_mul]
    omega
theorem row_small {B C d : Nat} {row : List Int} {mat : List (List Int)} (S : Sq mat d) (hm : ∀ r ∈ mat, ∀ z ∈ r, z.natAbs ≤ C) (lr : row.length = d) (h3 : d ≤ 3) (h : ∀ z ∈ row, z.natAbs ≤ B) : (rowM row mat).length = d ∧ ∀ z ∈ rowM row mat, z.natAbs ≤ 3 * (B * C) := by
  constructor
  · unfold rowM
    rw [List.length_map, List.length_range, S.ln]
  · intro z hz
    unfold rowM at hz
    obtain ⟨j, hj, rfl⟩ := List.mem_map.mp hz
    have hj' : j < d := by rw [← S.ln]; exact List.mem_range.mp hj
    have := dot_small (B := B) (C := C) row (colM mat j) h fun z hz => by
      unfold colM at hz
      obtain ⟨r, hr, rfl⟩ := List.mem_map.mp hz
      have lr' := S.rw_ r hr
      rw [List.getD_eq_getElem?_getD, List.getElem?_eq_getElem (by omega)]
      exact hm r hr _ (List.getElem_mem _)
    have h2 : row.length * (B * C) ≤ 3 * (B * C) := Nat.mul_le_mul_right _ (by omega)
    omega
section
variable {srcs : List Int} {mat : List (List Int)} {d n B C : Nat} {e : Tr}
mutual
theorem mvT_wfM (S : Srcs srcs n) (Sm : Sq mat d) (hm : ∀ r ∈ mat, ∀ z ∈ r, z.natAbs ≤ C) (h3 : d ≤ 3) (hB : 3 * (B * C) < 2 ^ 64) (he : e.wf d srcs.length) (hb : e.rb (3 * (B * C))) : ∀ t : Tr, t.wf d n → t.rb B → (mvT srcs mat e t).wf d srcs.length ∧ (mvT srcs mat e t).rb (3 * (B * C))
  | .pl, _, _ => by simp only [mvT]; exact ⟨he, hb⟩
  | .key row hs t, w, wb => by
    simp only [Tr.wf] at w
    simp only [Tr.rb] at wb
    simp only [mvT, Tr.wf, Tr.rb]
    obtain ⟨r1, r2⟩ := row_small Sm hm w.1 h3 wb.1
    obtain ⟨i1, i2⟩ := mvT_wfM S Sm hm h3 hB he hb t w.2.2.2 wb.2
    exact ⟨⟨r1, by rw [List.length_map], fun z hz => by have := r2 z hz; omega, i1⟩, r2, i2⟩
  | .fork gs, w, wb => by
    simp only [Tr.wf] at w
    simp only [Tr.rb] at wb
    simp only [mvT, Tr.wf, Tr.rb]
    obtain ⟨i1, i2⟩ := mvG_wfM S Sm hm h3 hB he hb gs w.2 wb fun c hc => mem_rng.mp (w.1.mem_iff.mp hc)
    refine ⟨⟨?_, i1⟩, i2⟩
    rw [Gs.flat, mvG_heads]
    have nd : gs.heads.flatten.Nodup := by
      rw [← Gs.flat]
      exact w.1.nodup_iff.mpr (rng0_nodup n)
    refine (parts_perm (f := fun j => srcs.getD j.toNat 0) (rng0 srcs.length) gs.heads nd).trans ?_
    rw [List.filter_eq_self.mpr fun j hj => ?_]
    have hj' := mem_rng.mp hj
    have hs := S.at (j := j.toNat) (by omega)
    refine decide_eq_true ?_
    rw [← Gs.flat]
    exact w.1.mem_iff.mpr (mem_rng0 hs.1 hs.2)
theorem mvG_wfM (S : Srcs srcs n) (Sm : Sq mat d) (hm : ∀ r ∈ mat, ∀ z ∈ r, z.natAbs ≤ C) (h3 : d ≤ 3) (hB : 3 * (B * C) < 2 ^ 64) (he : e.wf d srcs.length) (hb : e.rb (3 * (B * C))) : ∀ g : Gs, g.wf d n → g.rb B → (∀ c ∈ g.classes, 0 ≤ c ∧ c < n) → (mvG srcs mat e g).wf d srcs.length ∧ (mvG srcs mat e g).rb (3 * (B * C))
  | .nil, _, _, _ => by simp [mvG, Gs.wf, Gs.rb]
  | .cons cs t r, w, wb, hc => by
    simp only [Gs.wf] at w
    simp only [Gs.rb] at wb
    simp only [mvG, Gs.wf, Gs.rb]
    simp only [Gs.classes] at hc
    obtain ⟨i1, i2⟩ := mvT_wfM S Sm hm h3 hB he hb t w.2.1 wb.1
    obtain ⟨j1, j2⟩ := mvG_wfM S Sm hm h3 hB he hb r w.2.2 wb.2 fun c h => hc c (List.mem_append_right _ h)
    refine ⟨⟨⟨fun e => ?_, ?_⟩, i1, j1⟩, i2, j2⟩
    · obtain ⟨c, hcm⟩ := List.exists_mem_of_ne_nil cs w.1.1
      have hb' := hc c (List.mem_append_left _ hcm)
      obtain ⟨j, hj, ej⟩ := S.all_ c hb'.1 hb'.2
      have : ((j : Nat) : Int) ∈ movC srcs cs := (mem_movC (by omega) (by omega)).mpr (by rw [Int.toNat_natCast, ej]; exact hcm)
      rw [e] at this
      cases this
    · unfold movC
      exact (rng0_lt _).filter _
end
end
/-! ### the chain of rows -/
def chn (rows : List (List Int)) (n : Nat) : Tr := chL rows.reverse n .pl
theorem chn_cons (r : List Int) (rows : List (List Int)) (n : Nat) : chn (r :: rows) n = .key r (zer n) (chn rows n) := by
  unfold chn chL
  rw [List.reverse_cons, List.foldl_append]
  rfl
theorem chn_pth (n : Nat) (c : Int) (x : List Int) : ∀ rows : List (List Int), pth (chn rows n) c x = mulM rows x
  | [] => by simp [chn, chL, pth, mulM]
  | r :: rows => by
    rw [chn_cons]
    simp only [pth]
    rw [chn_pth n c x rows]
    have : (zer n).getD c.toNat 0 = 0 := zer_at n c.toNat
    rw [this, Int.add_zero]
    rfl
theorem chn_size (n : Nat) : ∀ rows : List (List Int), (chn rows n).size = rows.length + 1 ∧ (chn rows n).dep = rows.length + 1 ∧ (chn rows n).ends = 1
  | [] => by simp [chn, chL, Tr.size, Tr.dep, Tr.ends]
  | r :: rows => by
    obtain ⟨h1, h2, h3⟩ := chn_size n rows
    rw [chn_cons]
    refine ⟨?_, ?_, ?_⟩
    · simp only [Tr.size, List.length_cons]
      omega
    · simp only [Tr.dep, List.length_cons]
      omega
    · simp only [Tr.ends]
      exact h3
theorem chn_wf {d n C : Nat} (hC : C < 2 ^ 64) : ∀ rows : List (List Int), (∀ r ∈ rows, r.length = d) → (∀ r ∈ rows, ∀ z ∈ r, z.natAbs ≤ C) → (chn rows n).wf d n ∧ (chn rows n).rb C
  | [], _, _ => by simp [chn, chL, Tr.wf, Tr.rb]
  | r :: rows, h1, h2 => by
    obtain ⟨i1, i2⟩ := chn_wf hC rows (fun r h => h1 r (List.mem_cons_of_mem _ h)) (fun r h => h2 r (List.mem_cons_of_mem _ h))
    rw [chn_cons]
    simp only [Tr.wf, Tr.rb]
    have b := h2 r List.mem_cons_self
    exact ⟨⟨h1 r List.mem_cons_self, List.length_replicate, fun z hz => by have := b z hz; omega, i1⟩, b, i2⟩
/-! ### the slanted scan -/
def slT (ds : List Int) (mat : List (List Int)) (n' : Nat) (t : Tr) : Tr := mvT (srcM ds mat (zer ds.length) (restD ds mat) n') mat (chn mat n') t
section
variable {ds : List Int} {mat : List (List Int)} {n n' : Nat} {t : Tr}
theorem sl_full (O : ScanOk ds n t) (U : Uni mat ds.length) (D' : Divs (restD ds mat)) (hn' : prodL (restD ds mat) = (n' : Int)) {x : List Int} (hx : x.length = ds.length) :
    pth (slT ds mat n' t) (cls (restD ds mat) x) x = full ds t (mulM mat x) := by
  have S := sl_srcs O.dv O.l1 O.l3 O.pr U D' hn'
  have c1 := cls_in D' hn' (z := x) (by rw [restD_len, hx])
  have e1 := mv_pth (mat := mat) S.ran O.l1 O.l3 U.sq.ln U.sq.rw_ (chn mat n') (by rw [srcM_len]; exact c1) hx t O.wf
  rw [sl_src O.dv U.sq D' hn' hx, chn_pth] at e1
  exact e1
theorem full_apart (O : ScanOk ds n t) {x y : List Int} (hx : x.length = ds.length) (hy : y.length = ds.length) : full ds t x = full ds t y ∨ Apart (full ds t x) (full ds t y) := by
  have key : ∀ {u v : List Int}, u.length = v.length → u = v ∨ Apart u v := fun {u v} => by
    induction u generalizing v with
    | nil => intro h; exact .inl (by cases v with | nil => rfl | cons _ _ => cases h)
    | cons a u ih =>
      intro h
      cases v with
      | nil => cases h
      | cons b v =>
        by_cases e : a = b
        · subst e
          rcases ih (v := v) (by simpa using h) with z | z
          · exact .inl (by rw [z])
          · exact .inr (z.cons a)
        · exact .inr ⟨[], u, v, a, b, e, rfl, rfl⟩
  unfold full
  rcases th_apart O hx hy with h | ⟨u, r, s, a, b, h1, h2, h3⟩
  · rw [h]
    rcases key (u := x) (v := y) (by omega) with z | ⟨u, r, s, a, b, h1, h2, h3⟩
    · exact .inl (by rw [z])
    · exact .inr ⟨pth t (cls ds y) y ++ u, r, s, a, b, h1, by rw [List.append_assoc, h2], by rw [List.append_assoc, h3]⟩
  · exact .inr ⟨u, r ++ x, s ++ y, a, b, h1, by rw [h2]; simp, by rw [h3]; simp⟩
theorem full_inj (O : ScanOk ds n t) {x y : List Int} (hx : x.length = ds.length) (hy : y.length = ds.length) (h : full ds t x = full ds t y) : x = y := by
  unfold full at h
  exact ((eq_then (th_apart O hx hy)).mp h).2
theorem sl_lt (O : ScanOk ds n t) (U : Uni mat ds.length) (D' : Divs (restD ds mat)) (hn' : prodL (restD ds mat) = (n' : Int)) {x y : List Int} (hx : x.length = ds.length) (hy : y.length = ds.length) :
    lx (full (restD ds mat) (slT ds mat n' t) x) (full (restD ds mat) (slT ds mat n' t) y) = lx (full ds t (mulM mat x)) (full ds t (mulM mat y)) := by
  have lm : ∀ y, (mulM mat y).length = ds.length := fun y => by unfold mulM; rw [List.length_map, U.sq.ln]
  show lx (pth (slT ds mat n' t) (cls (restD ds mat) x) x ++ x) (pth (slT ds mat n' t) (cls (restD ds mat) y) y ++ y) = _
  rw [sl_full O U D' hn' hx, sl_full O U D' hn' hy]
  by_cases e : full ds t (mulM mat x) = full ds t (mulM mat y)
  · have exy := uni_inj O.l1 O.l3 U hx hy (full_inj O (lm x) (lm y) e)
    subst exy
    rw [lx_pre]
    have : ∀ u : List Int, lx u u = false := fun u => by
      induction u with
      | nil => rfl
      | cons a u ih => show (if a = a then lx u u else decide (a < a)) = false; rw [if_pos rfl, ih]
    rw [this, this]
  · have := lx_then (a := x) (b := y) (x := []) (y := []) (full_apart O (lm x) (lm y))
    rw [this, if_neg e, List.append_nil, List.append_nil]
theorem sl_tied (O : ScanOk ds n t) (U : Uni mat ds.length) (D' : Divs (restD ds mat)) (hn' : prodL (restD ds mat) = (n' : Int)) {x y : List Int} (hx : x.length = ds.length) (hy : y.length = ds.length) :
    (pth (slT ds mat n' t) (cls (restD ds mat) x) x = pth (slT ds mat n' t) (cls (restD ds mat) y) y) ↔ x = y := by
  have lm : ∀ y, (mulM mat y).length = ds.length := fun y => by unfold mulM; rw [List.length_map, U.sq.ln]
  rw [sl_full O U D' hn' hx, sl_full O U D' hn' hy]
  constructor
  · intro h
    exact uni_inj O.l1 O.l3 U hx hy (full_inj O (lm x) (lm y) h)
  · intro h
    rw [h]
theorem sl_size (l : mat.length = ds.length) : (slT ds mat n' t).size = t.size + ds.length * t.ends := by
  unfold slT
  exact mvT_sizeE _ _ _ _ (by rw [(chn_size n' mat).1, l]) t
theorem sl_ends : (slT ds mat n' t).ends = t.ends := by
  unfold slT
  rw [mvT_endsE, (chn_size n' mat).2.2, Nat.mul_one]
theorem sl_dep (l : mat.length = ds.length) : (slT ds mat n' t).dep ≤ t.dep + ds.length := by
  unfold slT
  exact mvT_depE _ _ _ _ (by rw [(chn_size n' mat).2.1, l]; omega) t
theorem sl_wf {B C : Nat} (O : ScanOk ds n t) (U : Uni mat ds.length) (D' : Divs (restD ds mat)) (hn' : prodL (restD ds mat) = (n' : Int)) (hm : ∀ r ∈ mat, ∀ z ∈ r, z.natAbs ≤ C) (hB : 3 * (B * C) < 2 ^ 64) (h1 : 1 ≤ B) (hb : t.rb B) : (slT ds mat n' t).wf (restD ds mat).length n' ∧ (slT ds mat n' t).rb (3 * (B * C)) := by
  have S := sl_srcs O.dv O.l1 O.l3 O.pr U D' hn'
  have hC : C ≤ 3 * (B * C) := by
    have : 1 * C ≤ B * C := Nat.mul_le_mul_right _ h1
    omega
  obtain ⟨w1, w2⟩ := chn_wf (d := ds.length) (n := n') (C := C) (by omega) mat U.sq.rw_ hm
  have := mvT_wfM S U.sq hm O.l3 hB (e := chn mat n') (by rw [srcM_len]; exact w1) (Tr.rb_mono hC _ w2) t O.wf hb
  rw [srcM_len] at this
  rw [restD_len]
  exact this
end
end Lk

namespace Lk
open PySem L2 Lx LamX LrA LqA
/-! ### determinant -/
def detOk : Nat → List (List Int) → Prop
  | 0, _ => True
  | 1, _ => True
  | n + 2, m => ∀ (j : Nat) (a : Int), (m.headD [])[j]? = some a → (∀ sg : Int, sg = 1 ∨ sg = -1 → L2.CMul (sg * a) (detM (n + 1) (minorM m j))) ∧ detOk (n + 1) (minorM m j)
def spDetL (K : PySem.W.Frag) (d : Nat) : Sp := fun vs H Q _ => ∃ (m : Addr) (ws : List V) (mat : List (List Int)), vs = [.ref m] ∧ SqL K H m ws ∧ HdsAt K H mat ws ∧ Sq mat d ∧ detOk d mat ∧ ∀ H', Same H H' → Q (.int (detM d mat)) H'
def spDetT (K : PySem.W.Frag) (d : Nat) : Sp := fun vs H Q _ => ∃ (m : Addr) (ws : List V) (mat : List (List Int)), vs = [.ref m] ∧ SqT K H m ws ∧ HdsAt K H mat ws ∧ Sq mat d ∧ detOk d mat ∧ ∀ H', Same H H' → Q (.int (detM d mat)) H'
theorem hds_cons {K : PySem.W.Frag} {H : Hp} {c : List Int} {l : List (List Int)} {ws : List V} (h : HdsAt K H (c :: l) ws) : ∃ a us, ws = .ref a :: us ∧ SqT K H a (c.map V.int) ∧ HdsAt K H l us := by
  obtain ⟨a, us, h1, h2, h3⟩ := h
  exact ⟨a, us, h1, h2, h3⟩
section
variable {K : PySem.W.Frag} {H : Hp} {Q : VK}
theorem sl_fromA {a : Addr} {xs : List V} {k : Nat} (ha : SqT K H a xs) (q : ∀ H' p, Same H H' → SqT K H' p (xs.drop k) → Q (.ref p) H') : rSlA K (.ref a) (some (k : Int)) none H Q := by
  refine ⟨a, xs, rfl, ha, fun e => ?_, fun _ p np => ?_⟩
  · have e1 := e.1
    rw [HT.sIx_nat] at e1
    refine q H a (Same.refl _) ?_
    have : xs.drop k = xs := by
      rcases Nat.eq_zero_or_pos k with z | z
      · subst z; rfl
      · have : xs = [] := List.length_eq_zero_iff.mp (by omega)
        subst this
        simp
    rw [this]
    exact ha
  · refine q _ p (same_new np) (SqT.of ?_)
    rw [upd_same]
    congr 2
    unfold cutV
    rw [HT.sIx_nat, HT.sIx_none]
    by_cases h : k ≤ xs.length
    · rw [Nat.min_eq_left h, List.take_of_length_le (by rw [List.length_drop]; omega)]
    · rw [Nat.min_eq_right (by omega), List.drop_of_length_le (by omega), List.drop_of_length_le (by omega)]
      simp
theorem sl_toA {a : Addr} {xs : List V} {k : Nat} (ha : SqT K H a xs) (q : ∀ H' p, Same H H' → SqT K H' p (xs.take k) → Q (.ref p) H') : rSlA K (.ref a) none (some (k : Int)) H Q := by
  refine ⟨a, xs, rfl, ha, fun e => ?_, fun _ p np => ?_⟩
  · have e1 := e.2
    rw [HT.sIx_nat] at e1
    refine q H a (Same.refl _) ?_
    rw [List.take_of_length_le (by omega)]
    exact ha
  · refine q _ p (same_new np) (SqT.of ?_)
    rw [upd_same]
    congr 2
    unfold cutV
    rw [HT.sIx_nat, HT.sIx_none, List.drop_zero, Nat.sub_zero]
    by_cases h : k ≤ xs.length
    · rw [Nat.min_eq_left h]
    · rw [Nat.min_eq_right (by omega), List.take_of_length_le (by omega), List.take_of_length_le (by omega)]
theorem sl_fromL {a : Addr} {xs : List V} {k : Nat} (ha : SqL K H a xs) (q : ∀ H' p, Same H H' → SqL K H' p (xs.drop k) → Q (.ref p) H') : rSlL K (.ref a) (some (k : Int)) none H Q := by
  refine ⟨a, xs, rfl, ha, fun p np => ?_⟩
  refine q _ p (same_new np) (SqL.of ?_)
  rw [upd_same]
  congr 2
  unfold cutV
  rw [HT.sIx_nat, HT.sIx_none]
  by_cases h : k ≤ xs.length
  · rw [Nat.min_eq_left h, List.take_of_length_le (by rw [List.length_drop]; omega)]
  · rw [Nat.min_eq_right (by omega), List.drop_of_length_le (by omega), List.drop_of_length_le (by omega)]
    simp
end
section
variable {P : Program} {w : World} {K : PySem.W.Frag} {mg : Str → Option Value} {base : Heap}
end
end Lk

namespace Lk
open PySem L2 Lx LamX LrA LqA
/-! ### is_matrix, rest_divisors -/
theorem rstF_app : ∀ (l : List (Int × Int)) (v m s : Int), rstF (l ++ [(v, m)]) s = lcmI (rstF l s) (v / gcdI v m)
  | [], v, m, s => rfl
  | (a, b) :: l, v, m, s => rstF_app l v m _
theorem rst_part {ds cs : List Int} (D : Divs ds) (hl : ds.length = cs.length) (i : Nat) : 1 ≤ rstF ((ds.zip cs).take i) 1 ∧ rstF ((ds.zip cs).take i) 1 ≤ 12 := by
  obtain ⟨a1, _, a3, _⟩ := rstF_ok ((ds.zip cs).take i) 1 (by omega) fun q hq => D.one _ (List.of_mem_zip (List.mem_of_mem_take hq)).1
  rw [List.map_take, zip_fst _ _ hl, Int.one_mul] at a3
  exact ⟨a1, Int.le_trans a3 (D.part i).2⟩
theorem rst_stepb {ds cs : List Int} (D : Divs ds) {i : Nat} {v : Int} (hv : ds[i]? = some v) (m : Int) : 1 ≤ v / gcdI v m ∧ v / gcdI v m ≤ 12 ∧ 1 ≤ v ∧ v ≤ 12 ∧ 0 < gcdI v m ∧ gcdI v m < 2 ^ 30 := by
  have h1 := D.one v (List.mem_of_getElem? hv)
  have h2 := le_prod D.one (List.mem_of_getElem? hv)
  have h3 := D.most
  obtain ⟨p1, p2, _⟩ := part_pos (m := m) h1
  obtain ⟨g1, g2⟩ := gcd_bound (b := m) h1 (by omega)
  exact ⟨p1, by omega, h1, by omega, g1, g2⟩
def spRestD (K : PySem.W.Frag) : Sp := fun vs H Q _ => ∃ (m a : Addr) (ws : List V) (mat : List (List Int)) (ds : List Int), vs = [.ref m, .ref a, .int (ds.length : Int)] ∧ SqT K H m ws ∧ HdsAt K H mat ws ∧ SqT K H a (ds.map V.int) ∧ Divs ds ∧ ds.length ≤ 3 ∧ Sq mat ds.length ∧
  ∀ H' p, Same H H' → SqT K H' p ((restD ds mat).map V.int) → Q (.ref p) H'
def spSlantD (K : PySem.W.Frag) : Sp := fun vs H Q _ => ∃ (m a : Addr) (ws : List V) (mat : List (List Int)) (ds : List Int), vs = [.ref a, .ref m] ∧ SqT K H m ws ∧ HdsAt K H mat ws ∧ SqT K H a (ds.map V.int) ∧ Divs ds ∧ ds.length ≤ 3 ∧ Sq mat ds.length ∧
  ∀ H' p, Same H H' → SqT K H' p ((restD ds mat).map V.int) → Q (.ref p) H'
def uniB (d : Nat) (mat : List (List Int)) : Bool := decide (detM d mat = 1) || decide (detM d mat = -1)
theorem uniB_iff {d : Nat} {mat : List (List Int)} : uniB d mat = true ↔ (detM d mat = 1 ∨ detM d mat = -1) := by
  unfold uniB
  rw [Bool.or_eq_true, decide_eq_true_eq, decide_eq_true_eq]
def spIsMat (K : PySem.W.Frag) (d : Nat) : Sp := fun vs H Q _ => ∃ (m : Addr) (ws : List V) (mat : List (List Int)), vs = [.ref m, .int (d : Int)] ∧ SqT K H m ws ∧ HdsAt K H mat ws ∧ Sq mat d ∧ detOk d mat ∧ ∀ H', Same H H' → Q (.bl (uniB d mat)) H'
/-- an odd matrix: none, or what its rows are -/
def MD (K : PySem.W.Frag) (H : Hp) (v : V) : Option (List (Option (List V))) → Prop
  | none => scal v = true
  | some os => ∃ (a : Addr) (ws : List V), v = .ref a ∧ SqT K H a ws ∧ ws.length = os.length ∧ os.length ≤ 12 ∧ ∀ (i : Nat) (x : V) (o : Option (List V)), ws[i]? = some x → os[i]? = some o → OD K H x o
def mdB (o : Option (List (Option (List V)))) (d : Int) : Bool := match o with
  | none => false
  | some os => decide ((os.length : Int) = d) && os.all fun o => plB o d
def spIsMatO (K : PySem.W.Frag) : Sp := fun vs H Q _ => ∃ (v : V) (d : Int) (o : Option (List (Option (List V)))), vs = [v, .int d] ∧ MD K H v o ∧ mdB o d = false ∧ ∀ H', Same H H' → Q (.bl false) H'
section
variable {P : Program} {w : World} {K : PySem.W.Frag} {mg : Str → Option Value} {base : Heap}
end
end Lk

namespace Lk
open PySem L2 Lx LamX LrA LqA
/-! ### Scan.slanted -/
structure SlIn (K : PySem.W.Frag) (C : Addr) (H : Hp) (p m : Addr) (ws : List V) (mat : List (List Int)) (ds : List Int) (n : Nat) (t : Tr) : Prop where
  sc : ScanAt K C H p ds n t
  sq : SqT K H m ws
  hd : HdsAt K H mat ws
  mt : Mat mat ds.length
  dt : detOk ds.length mat
theorem Mat.sq {mat : List (List Int)} {d : Nat} (M : Mat mat d) : Sq mat d := ⟨M.ln, fun r h => (M.rw_ r h).1⟩
def spSlanted (K : PySem.W.Frag) (C : Addr) : Sp := fun vs H Q _ => ∃ (p m : Addr) (ws : List V) (mat : List (List Int)) (ds : List Int) (n n' : Nat) (t : Tr), vs = [.ref p, .ref m] ∧ SlIn K C H p m ws mat ds n t ∧ uniB ds.length mat = true ∧ Divs (restD ds mat) ∧ prodL (restD ds mat) = (n' : Int) ∧
  (slT ds mat n' t).wf (restD ds mat).length n' ∧ (slT ds mat n' t).size ≤ 200 ∧ (slT ds mat n' t).dep ≤ 20 ∧ ∀ (H' : Hp) (r : Addr), Same H H' → ScanAt K C H' r (restD ds mat) n' (slT ds mat n' t) → Q (.ref r) H'
def spSlantedX (K : PySem.W.Frag) (C CE : Addr) : Sp := fun vs H _ E => ∃ (p m : Addr) (ws : List V) (mat : List (List Int)) (ds : List Int) (n n' : Nat) (t : Tr), vs = [.ref p, .ref m] ∧ SlIn K C H p m ws mat ds n t ∧ uniB ds.length mat = true ∧ Divs (restD ds mat) ∧ prodL (restD ds mat) = (n' : Int) ∧
  (slT ds mat n' t).wf (restD ds mat).length n' ∧ (slT ds mat n' t).size ≤ 900 ∧ (slT ds mat n' t).toD.depth ≤ 60 ∧ (200 < (slT ds mat n' t).size ∨ 20 < (slT ds mat n' t).dep) ∧ ItK CE H E
def spSlantedM (K : PySem.W.Frag) (C C2 : Addr) : Sp := fun vs H _ E => ∃ (p m : Addr) (ws : List V) (mat : List (List Int)) (ds : List Int) (n : Nat) (t : Tr), vs = [.ref p, .ref m] ∧ SlIn K C H p m ws mat ds n t ∧ uniB ds.length mat = true ∧ 12 < prodL (restD ds mat) ∧ TmK C2 H E
def spSlantedD (K : PySem.W.Frag) (C CI : Addr) : Sp := fun vs H _ E => ∃ (p m : Addr) (ws : List V) (mat : List (List Int)) (ds : List Int) (n : Nat) (t : Tr), vs = [.ref p, .ref m] ∧ SlIn K C H p m ws mat ds n t ∧ uniB ds.length mat = false ∧ TgK "InvalidMatrix" CI H E
def spSlantedO (K : PySem.W.Frag) (C CI : Addr) : Sp := fun vs H _ E => ∃ (p : Addr) (v : V) (o : Option (List (Option (List V)))) (ds : List Int) (n : Nat) (t : Tr), vs = [.ref p, v] ∧ ScanAt K C H p ds n t ∧ MD K H v o ∧ mdB o ds.length = false ∧ TgK "InvalidMatrix" CI H E
section
variable {P : Program} {w : World} {K : PySem.W.Frag} {mg : Str → Option Value} {base : Heap}
end
end Lk

namespace Lk
open PySem L2 Lx LamX LrA LqA
/-! ### the law's image of a place -/
def scIm : Scope := { kind := .function, names := [(Str.ofString ".0", .local), (Str.ofString "_law_row", .local), (Str.ofString "sum", .globalImplicit), (Str.ofString "zip", .globalImplicit), (Str.ofString "_law_place_here", .cell)], isGenerator := false, isCoroutine := false }
def tImE (K : PySem.W.Frag) : TE := tCB (rSum K) (tCons (tLc (RZ.iZipA K (tCons (tVar 2) (tCons (tVar 1) tNil))) (gTup K 2 (gCons (gName 3) (gCons (gName 4) gNil))) tYes (tOp (rI CMul fun i j => .int (i * j)) (tVar 3) (tVar 4)) [3, 4]) tNil)
section
variable {P : Program} {w : World} {K : PySem.W.Frag} {mg : Str → Option Value} {base : Heap}
end
end Lk

namespace Lk
open PySem L2 Lx LamX LrA LqA
/-! ### matrices by rows added, turned and reversed -/
def rowOp (mat : List (List Int)) (i j : Nat) (f : Int) : List (List Int) := mat.set i (List.zipWith (fun a b => a + f * b) (mat.getD i []) (mat.getD j []))
def negRev (mat : List (List Int)) (i : Nat) : List (List Int) := (mat.set i ((mat.getD i []).map fun a => -a)).reverse
def Bnd (B : Nat) (mat : List (List Int)) : Prop := ∀ r ∈ mat, ∀ z ∈ r, z.natAbs ≤ B
theorem getD_mem {mat : List (List Int)} {i d : Nat} (h : mat.length = d) (hi : i < d) : mat.getD i [] ∈ mat := by
  rw [List.getD_eq_getElem?_getD, List.getElem?_eq_getElem (by omega)]
  exact List.getElem_mem _
theorem rowOp_sq {mat : List (List Int)} {d i j : Nat} {f : Int} (S : Sq mat d) (hi : i < d) (hj : j < d) : Sq (rowOp mat i j f) d := by
  refine ⟨by unfold rowOp; rw [List.length_set, S.ln], fun r hr => ?_⟩
  unfold rowOp at hr
  rcases List.mem_or_eq_of_mem_set hr with h | h
  · exact S.rw_ r h
  · rw [h, List.length_zipWith, S.rw_ _ (getD_mem S.ln hi), S.rw_ _ (getD_mem S.ln hj)]
    omega
theorem rowOp_bnd {mat : List (List Int)} {d i j B : Nat} {f : Int} (S : Sq mat d) (hi : i < d) (hj : j < d) (hf : f.natAbs ≤ 2) (h : Bnd B mat) : Bnd (3 * B) (rowOp mat i j f) := fun r hr z hz => by
  unfold rowOp at hr
  rcases List.mem_or_eq_of_mem_set hr with e | e
  · have := h r e z hz
    omega
  · rw [e] at hz
    obtain ⟨k, hk⟩ := List.mem_iff_getElem?.mp hz
    rw [List.getElem?_zipWith] at hk
    cases ea : (mat.getD i [])[k]? with
    | none => rw [ea] at hk; simp at hk
    | some a =>
      cases eb : (mat.getD j [])[k]? with
      | none => rw [ea, eb] at hk; simp at hk
      | some b =>
        rw [ea, eb] at hk
        simp at hk
        have h1 := h _ (getD_mem S.ln hi) a (List.mem_of_getElem? ea)
        have h2 := h _ (getD_mem S.ln hj) b (List.mem_of_getElem? eb)
        have h3 := Int.natAbs_add_le a (f * b)
        have h4 : (f * b).natAbs ≤ 2 * B := by
          rw [Int.natAbs_mul]
          exact Nat.mul_le_mul hf h2
        rw [← hk]
        omega
theorem negRev_sq {mat : List (List Int)} {d i : Nat} (S : Sq mat d) (hi : i < d) : Sq (negRev mat i) d := by
  refine ⟨by unfold negRev; rw [List.length_reverse, List.length_set, S.ln], fun r hr => ?_⟩
  unfold negRev at hr
  rcases List.mem_or_eq_of_mem_set (List.mem_reverse.mp hr) with h | h
  · exact S.rw_ r h
  · rw [h, List.length_map, S.rw_ _ (getD_mem S.ln hi)]
theorem negRev_bnd {mat : List (List Int)} {d i B : Nat} (S : Sq mat d) (hi : i < d) (h : Bnd B mat) : Bnd B (negRev mat i) := fun r hr z hz => by
  unfold negRev at hr
  rcases List.mem_or_eq_of_mem_set (List.mem_reverse.mp hr) with e | e
  · exact h r e z hz
  · rw [e] at hz
    obtain ⟨u, hu, rfl⟩ := List.mem_map.mp hz
    have := h _ (getD_mem S.ln hi) u hu
    omega
theorem rowOp_det {mat : List (List Int)} {d i j : Nat} {f : Int} (h3 : d ≤ 3) (S : Sq mat d) (hi : i < d) (hj : j < d) (hne : i ≠ j) : detM d (rowOp mat i j f) = detM d mat := by
  rcases small_d (d := d) (by omega) h3 with rfl | rfl | rfl
  · omega
  · obtain ⟨a, b, c, e, rfl⟩ := S.cases2
    have hij : (i = 0 ∧ j = 1) ∨ (i = 1 ∧ j = 0) := by omega
    rcases hij with ⟨rfl, rfl⟩ | ⟨rfl, rfl⟩ <;> simp only [rowOp, List.getD_cons_zero, List.getD_cons_succ, List.set_cons_zero, List.set_cons_succ, List.zipWith_cons_cons, List.zipWith_nil_left, det2] <;> grind
  · obtain ⟨a, b, c, e, k, g, h, l, m, rfl⟩ := S.cases3
    have hij : (i = 0 ∧ j = 1) ∨ (i = 1 ∧ j = 0) ∨ (i = 0 ∧ j = 2) ∨ (i = 2 ∧ j = 0) ∨ (i = 1 ∧ j = 2) ∨ (i = 2 ∧ j = 1) := by omega
    rcases hij with ⟨rfl, rfl⟩ | ⟨rfl, rfl⟩ | ⟨rfl, rfl⟩ | ⟨rfl, rfl⟩ | ⟨rfl, rfl⟩ | ⟨rfl, rfl⟩ <;> simp only [rowOp, List.getD_cons_zero, List.getD_cons_succ, List.set_cons_zero, List.set_cons_succ, List.zipWith_cons_cons, List.zipWith_nil_left, det3] <;> grind
theorem negRev_det {mat : List (List Int)} {d i : Nat} (h1 : 1 ≤ d) (h3 : d ≤ 3) (S : Sq mat d) (hi : i < d) : detM d (negRev mat i) = detM d mat ∨ detM d (negRev mat i) = -detM d mat := by
  rcases small_d h1 h3 with rfl | rfl | rfl
  · obtain ⟨a, rfl⟩ := S.cases1
    obtain rfl : i = 0 := by omega
    exact .inr rfl
  · obtain ⟨a, b, c, e, rfl⟩ := S.cases2
    left
    have hij : i = 0 ∨ i = 1 := by omega
    rcases hij with rfl | rfl <;> simp only [negRev, List.getD_cons_zero, List.getD_cons_succ, List.set_cons_zero, List.set_cons_succ, List.map_cons, List.map_nil, List.reverse_cons, List.reverse_nil, List.nil_append, List.cons_append, det2] <;> grind
  · obtain ⟨a, b, c, e, k, g, h, l, m, rfl⟩ := S.cases3
    left
    have hij : i = 0 ∨ i = 1 ∨ i = 2 := by omega
    rcases hij with rfl | rfl | rfl <;> simp only [negRev, List.getD_cons_zero, List.getD_cons_succ, List.set_cons_zero, List.set_cons_succ, List.map_cons, List.map_nil, List.reverse_cons, List.reverse_nil, List.nil_append, List.cons_append, det3] <;> grind
theorem rowOp_uni {mat : List (List Int)} {d i j : Nat} {f : Int} (h3 : d ≤ 3) (U : Uni mat d) (hi : i < d) (hj : j < d) (hne : i ≠ j) : Uni (rowOp mat i j f) d :=
  ⟨rowOp_sq U.sq hi hj, by rw [rowOp_det h3 U.sq hi hj hne]; exact U.det⟩
theorem negRev_uni {mat : List (List Int)} {d i : Nat} (h1 : 1 ≤ d) (h3 : d ≤ 3) (U : Uni mat d) (hi : i < d) : Uni (negRev mat i) d := by
  refine ⟨negRev_sq U.sq hi, ?_⟩
  have hd := U.det
  rcases negRev_det h1 h3 U.sq hi with h | h <;> rw [h] <;> omega
theorem id_uni {d : Nat} (h1 : 1 ≤ d) (h3 : d ≤ 3) : Uni (idM d) d ∧ Bnd 1 (idM d) := by
  rcases small_d h1 h3 with rfl | rfl | rfl
  · rw [idM1]
    refine ⟨⟨⟨rfl, ?_⟩, .inl rfl⟩, ?_⟩
    · simp
    · simp [Bnd]
  · rw [idM2]
    refine ⟨⟨⟨rfl, ?_⟩, .inl (by rw [det2]; rfl)⟩, ?_⟩
    · simp
    · simp [Bnd]
  · rw [idM3]
    refine ⟨⟨⟨rfl, ?_⟩, .inl (by rw [det3]; rfl)⟩, ?_⟩
    · simp
    · simp [Bnd]
/-! ### numbers small enough for the determinant -/
theorem minor_bnd {mat : List (List Int)} {B : Nat} (h : Bnd B mat) (j : Nat) : Bnd B (minorM mat j) := fun r hr z hz => by
  unfold minorM at hr
  obtain ⟨r', hr', rfl⟩ := List.mem_map.mp hr
  refine h r' (List.mem_of_mem_tail hr') z ?_
  rcases List.mem_append.mp hz with e | e
  · exact List.mem_of_mem_take e
  · exact List.mem_of_mem_drop e
theorem det_okB {B : Nat} (hB : B < 2 ^ 64) : ∀ (d : Nat) (mat : List (List Int)), Bnd B mat → detOk d mat
  | 0, _, _ => trivial
  | 1, _, _ => trivial
  | n + 2, m, h => fun j a ha => by
    refine ⟨fun sg hs => .inl ?_, det_okB hB (n + 1) _ (minor_bnd h j)⟩
    have hm : m.headD [] ∈ m ∨ m.headD [] = [] := by
      cases m with
      | nil => exact .inr rfl
      | cons x r => exact .inl List.mem_cons_self
    rcases hm with e | e
    · have := h _ e a (List.mem_of_getElem? ha)
      rcases hs with rfl | rfl <;> omega
    · rw [e] at ha
      cases ha
end Lk

namespace Lk
open PySem L2 Lx LamX LrA LqA
/-! ### trees that become too large (k09) -/
abbrev swM : List (List Int) := [[0, 1], [1, 0]]
theorem sw_uni : Uni swM 2 := ⟨⟨rfl, by decide⟩, by decide⟩
theorem sw_mat : Mat swM 2 := ⟨rfl, fun r hr => by
  rcases List.mem_cons.mp hr with e | hr
  · rw [e]; exact ⟨rfl, by unfold B64; decide⟩
  · rw [List.mem_singleton.mp hr]; exact ⟨rfl, by unfold B64; decide⟩⟩
theorem bnd_mat {B d : Nat} {mat : List (List Int)} (S : Sq mat d) (h : Bnd B mat) (hB : B < 2 ^ 64) : Mat mat d := ⟨S.ln, fun r hr => ⟨S.rw_ r hr, fun z hz => by have := h r hr z hz; omega⟩⟩
theorem sw_bnd : Bnd 1 swM := by unfold Bnd; decide
theorem deep_rb : ∀ k : Nat, k ≤ 20 → (deepT k).rb 20
  | 0, _ => by simp [deepT, Tr.rb]
  | k + 1, h => by
    simp only [deepT, Tr.rb]
    refine ⟨fun z hz => ?_, deep_rb k (by omega)⟩
    rcases List.mem_cons.mp hz with e | hz
    · rw [e]; decide
    · rw [List.mem_singleton.mp hz]; omega
theorem wide_rb : ∀ k : Nat, (wideT k).rb 1
  | 0 => by simp [wideT, Tr.rb]
  | k + 1 => by
    simp only [wideT, Tr.rb, Gs.rb]
    exact ⟨wide_rb k, wide_rb k, trivial⟩
theorem deep_ok : ScanOk [1, 1] 1 (deepT 18) := ⟨⟨by decide, by decide⟩, by decide, by decide, by decide, deep_wf (by decide), by decide +kernel, by decide +kernel⟩
theorem wide_ok {d : Nat} (h1 : 1 ≤ d) (h3 : d ≤ 3) : ScanOk (wideD d) 2 (wideT 6) := by
  obtain ⟨wd, wl, wp⟩ := wideD_ok h1 h3
  exact ⟨wd, by omega, by omega, wp, wide_wf 6 _, by decide +kernel, by decide +kernel⟩
theorem rest_deep : restD [1, 1] swM = [1, 1] := by decide +kernel
theorem rest_wide : restD (wideD 2) swM = [1, 2] := by decide +kernel
theorem rest_one : restD (wideD 1) [[-1]] = [2] := by decide +kernel
theorem neg_uni : Uni [[-1]] 1 := ⟨⟨rfl, by decide⟩, by decide⟩
theorem neg_bnd : Bnd 1 [[-1]] := by unfold Bnd; decide
theorem sl_deep : (slT [1, 1] swM 1 (deepT 18)).wf (restD [1, 1] swM).length 1 ∧ (slT [1, 1] swM 1 (deepT 18)).size ≤ 900 ∧ (slT [1, 1] swM 1 (deepT 18)).toD.depth ≤ 60 ∧ 20 < (slT [1, 1] swM 1 (deepT 18)).dep :=
  ⟨(sl_wf (B := 20) (C := 1) deep_ok sw_uni (by rw [rest_deep]; exact ⟨by decide, by decide⟩) (by rw [rest_deep]; decide) sw_bnd (by decide) (by decide) (deep_rb 18 (by decide))).1, by decide +kernel, by decide +kernel, by decide +kernel⟩
theorem sl_wide : (slT (wideD 2) swM 2 (wideT 6)).wf (restD (wideD 2) swM).length 2 ∧ (slT (wideD 2) swM 2 (wideT 6)).size ≤ 900 ∧ (slT (wideD 2) swM 2 (wideT 6)).toD.depth ≤ 60 ∧ 200 < (slT (wideD 2) swM 2 (wideT 6)).size :=
  ⟨(sl_wf (B := 1) (C := 1) (wide_ok (d := 2) (by decide) (by decide)) sw_uni (by rw [rest_wide]; exact ⟨by decide, by decide⟩) (by rw [rest_wide]; decide) sw_bnd (by decide) (by decide) (wide_rb 6)).1, by decide +kernel, by decide +kernel, by decide +kernel⟩
theorem sl_one : (slT (wideD 1) [[-1]] 2 (wideT 6)).wf (restD (wideD 1) [[-1]]).length 2 ∧ (slT (wideD 1) [[-1]] 2 (wideT 6)).size = 191 ∧ (slT (wideD 1) [[-1]] 2 (wideT 6)).dep ≤ 20 :=
  ⟨(sl_wf (B := 1) (C := 1) (wide_ok (d := 1) (by decide) (by decide)) neg_uni (by rw [rest_one]; exact ⟨by decide, by decide⟩) (by rw [rest_one]; decide) neg_bnd (by decide) (by decide) (wide_rb 6)).1, by decide +kernel, by decide +kernel⟩
/-! ### lambdas, beside another table -/
theorem pe_triedT {X : Cx} {T : List (Addr × Str)} {g fF CS c Pt : Addr} {k : Nat} {params : Arguments} {body : Expr} {scope : Scope} {t : XK → TE} {p lpos pos : Pos} (R : TryT X.K X.mg g) (FT : FieldT X.K X.mg fF) (hS : X.mg "ScanError" = some (.ref CS)) (hg : Gl X "_law_try")
    (TB : TabB X.base X.mg c Pt) (hcode : X.env.code = .ref c) (inT : (Pt, X.env.qual ++ "<lambda>") ∈ T) (onT : ∀ p ∈ T, p.1 = Pt → p.2 = X.env.qual ++ "<lambda>") (hr : Room (k + 2) X.A) (hr2 : Room 2 X.A) (L : LamS X.env.scope scope) (hdef : defaultsOf params X.env = ([], []))
    (hbind : ∀ (q : Str) (cl : List (Str × Addr)) (pm cv ctv : Value), bindArgs (PySem.W.kla_fn "<lambda>" q params body scope cl pm cv ctv) ⟨[], []⟩ = pure [])
    (hbody : ∀ (A : Around) (outer : List Env) (s : Shared) (H : Hp) (E : XK) (f c' : Addr), Room k (A.deeper (lamEnv X scope s.heap.objs.size f c')) → PE (lamCx X A outer s H E scope f c') body (t E)) :
    PE X (.Call (.Name "_law_try" p) [.Lambda params body scope lpos] [] pos) (tLam T (TTry X.K CS) t) := by
  obtain ⟨oc, od, kV, doc, pm, an, cdv, ct, osl, lk, hcd⟩ := R.lk
  refine pe_lamcall (Ng := ["_law_ask", "_law_e"]) (a := "_law_ask") (k := k) hg R.at_ R.kp lk hcd ?_ scTry rfl (.inl rfl) (try_gives (k := 0) FT hS fun s => hr2.deeper _) TB hcode inT onT hr L hdef hbind hbody
  exact Binds.all fun us hl => match us, hl with | [_], _ => rfl
def lamO (e0 : Scope) : Expr → Arguments × Expr × Scope
  | .Lambda p b s _ => (p, b, s)
  | _ => (⟨[], [], none, [], [], none, []⟩, .Constant .none 0 ⟨0, 0, 0, 0⟩, e0)
def stA (l : List Stmt) (i : Nat) : Stmt := l.getD i (.Pass ⟨0, 0, 0, 0⟩)
def arA (i : Nat) : Expr → Expr
  | .Call _ as _ _ => as.getD i (.Constant .none 0 ⟨0, 0, 0, 0⟩)
  | e => e
def lsA (i : Nat) : Expr → Expr
  | .List es _ => es.getD i (.Constant .none 0 ⟨0, 0, 0, 0⟩)
  | e => e
def asA : Stmt → Expr
  | .Assign _ v _ => v
  | _ => .Constant .none 0 ⟨0, 0, 0, 0⟩
def opA : Expr → Expr
  | .BinOp _ _ b _ => b
  | e => e
/-- the matrix that swaps, in slot 0; a wide scan, slanted by it -/
def uTL (K : PySem.W.Frag) (C CE : Addr) : XK → TE := fun E σ H _ => ∃ (m : Addr) (ws : List V), σ[0]? = some (some (.ref m)) ∧ SqT K H m ws ∧ HdsAt K H swM ws ∧ ∀ (H' : Hp), Same H H' → ItK CE H' E
abbrev tN : List Str := ["_law_swap", "_law_deep", "_law_k", "_law_told"]
/-- a lambda made in X is kept at f -/
def KeptT (X : Cx) (H : Hp) (m : Lm) (f : Addr) : Prop := ∃ (c' : Addr) (fd : FuncData), H f = some (LamO f fd) ∧ LamIs X m fd c' ∧ H c' = some (CodeO c' (X.env.qual ++ "<lambda>")) ∧ Dfl H m fd
theorem KeptT.made {X : Cx} {H : Hp} {m : Lm} {f c' : Addr} {fd : FuncData} (n : H f = none) (hc : H c' = some (CodeO c' (X.env.qual ++ "<lambda>"))) (li : LamIs X m fd c') (df : Dfl H m fd) : KeptT X (upd H f (LamO f fd)) m f :=
  ⟨c', fd, upd_same, li, by rw [upd_ne (ne_of_none hc n)]; exact hc, df.ext fun a xs h => by rw [upd_ne (ne_of_none h n)]; exact h⟩
theorem extN_newT {H : Hp} {p : Addr} {o : HO} (n : H p = none) : ExtN H (upd H p o) := ExtN.of (same_new n)
def spTooL (K : PySem.W.Frag) (T : List (Addr × Str)) : Sp := fun vs H Q _ => ∃ (m : Addr) (ws : List V), vs = [.ref m] ∧ SqT K H m ws ∧ HdsAt K H swM ws ∧ Tabs T H ∧ ∀ H', ExtN H H' → Q (.bl true) H'
section
variable {P : Program} {w : World} {K : PySem.W.Frag} {mg : Str → Option Value} {base : Heap}
end
end Lk

namespace Lk
open PySem L2 Lx LamX LrA LqA
/-! ### the law's matrices -/
structure LsA (R b : Addr) (H : Hp) (mat : List (List Int)) (ws : List V) : Prop where
  ln : ws.length = mat.length
  at_ : ∀ (i : Nat) (c : List Int), mat[i]? = some c → ∃ a, ws[i]? = some (.ref a) ∧ a ≠ R ∧ a ≠ b ∧ H a = some (.lst (c.map V.int))
theorem LsA.mono {R b : Addr} {H H' : Hp} {mat : List (List Int)} {ws : List V} (h : LsA R b H mat ws) (e : ∀ a o, a ≠ R → a ≠ b → H a = some o → H' a = some o) : LsA R b H' mat ws :=
  ⟨h.ln, fun i c hc => by obtain ⟨a, h1, h2, h3, h4⟩ := h.at_ i c hc; exact ⟨a, h1, h2, h3, e a _ h2 h3 h4⟩⟩
theorem LsA.set {R b a : Addr} {H : Hp} {mat : List (List Int)} {ws : List V} {c : List Int} (h : LsA R b H mat ws) (i : Nat) (h1 : a ≠ R) (h2 : a ≠ b) (h3 : H a = some (.lst (c.map V.int))) : LsA R b H (mat.set i c) (ws.set i (.ref a)) := by
  refine ⟨by rw [List.length_set, List.length_set, h.ln], fun j c' hj => ?_⟩
  by_cases e : i = j
  · subst e
    have hl : i < mat.length := by
      have := (List.getElem?_eq_some_iff.mp hj).1
      rw [List.length_set] at this
      exact this
    rw [List.getElem?_set_self hl] at hj
    obtain rfl := Option.some.inj hj
    exact ⟨a, List.getElem?_set_self (by rw [h.ln]; exact hl), h1, h2, h3⟩
  · rw [List.getElem?_set_ne e] at hj
    obtain ⟨a', k1, k2, k3, k4⟩ := h.at_ j c' hj
    exact ⟨a', by rw [List.getElem?_set_ne e]; exact k1, k2, k3, k4⟩
theorem LsA.rev {R b : Addr} {H : Hp} {mat : List (List Int)} {ws : List V} (h : LsA R b H mat ws) : LsA R b H mat.reverse ws.reverse := by
  refine ⟨by rw [List.length_reverse, List.length_reverse, h.ln], fun j c hj => ?_⟩
  have hl : j < mat.length := by
    have := (List.getElem?_eq_some_iff.mp hj).1
    rw [List.length_reverse] at this
    exact this
  rw [List.getElem?_reverse hl] at hj
  obtain ⟨a, k1, k2, k3, k4⟩ := h.at_ _ c hj
  refine ⟨a, ?_, k2, k3, k4⟩
  rw [List.getElem?_reverse (by rw [h.ln]; exact hl), h.ln]
  exact k1
theorem LsA.app {R b a : Addr} {H : Hp} {mat : List (List Int)} {ws : List V} {c : List Int} (h : LsA R b H mat ws) (h1 : a ≠ R) (h2 : a ≠ b) (h3 : H a = some (.lst (c.map V.int))) : LsA R b H (mat ++ [c]) (ws ++ [.ref a]) := by
  refine ⟨by rw [List.length_append, List.length_append, h.ln]; rfl, fun j c' hj => ?_⟩
  by_cases e : j < mat.length
  · rw [List.getElem?_append_left e] at hj
    obtain ⟨a', k1, k2, k3, k4⟩ := h.at_ j c' hj
    exact ⟨a', by rw [List.getElem?_append_left (by rw [h.ln]; exact e)]; exact k1, k2, k3, k4⟩
  · rw [List.getElem?_append_right (by omega)] at hj
    have e2 : j - mat.length = 0 := by
      have := (List.getElem?_eq_some_iff.mp hj).1
      simp at this
      omega
    rw [e2] at hj
    obtain rfl := Option.some.inj hj
    refine ⟨a, ?_, h1, h2, h3⟩
    rw [List.getElem?_append_right (by rw [h.ln]; omega), h.ln, e2]
    rfl
theorem id_row {d i : Nat} (h1 : 1 ≤ d) (h3 : d ≤ 3) (hi : i < d) : (List.range d).map (fun (j : Nat) => if decide (V.int (i : Int) = V.int (j : Int)) = true then (1 : Int) else 0) = idRow d i := by
  rcases small_d h1 h3 with rfl | rfl | rfl
  · obtain rfl : i = 0 := by omega
    decide
  · have : i = 0 ∨ i = 1 := by omega
    rcases this with rfl | rfl <;> decide
  · have : i = 0 ∨ i = 1 ∨ i = 2 := by omega
    rcases this with rfl | rfl | rfl <;> decide
end Lk

namespace Lk
open PySem L2 Lx LamX LrA LqA
def scMx : Scope := { kind := .function, names := [(Str.ofString ".0", .local), (Str.ofString "_law_at", .cell), (Str.ofString "range", .globalImplicit), (Str.ofString "_law_directions", .cell)], isGenerator := false, isCoroutine := false }
def rInt1 : List V → Hp → VK → Prop := fun xs H Q => (∃ i, xs = [.int i] ∧ Q (.int i) H) ∨ ∃ k, xs = [.bl k] ∧ Q (.int (if k then 1 else 0)) H
def tMxE : TE := tLc (iRng1 (tCons (tVar 1) tNil)) (gName 8) tYes (tCB rInt1 (tCons (tOp rEq (tVar 7) (tVar 8)) tNil)) [8]
def spLMat (K : PySem.W.Frag) : Sp := fun vs H Q _ => ∃ (b l : Addr) (d : Nat), vs = [.ref b, .int d] ∧ BagAt H b l ∧ 1 ≤ d ∧ d ≤ 3 ∧
  ∀ (mat : List (List Int)) (H' : Hp) (p : Addr) (ws : List V), Uni mat d → Bnd 81 mat → SqT K H' p ws → HdsAt K H' mat ws → BagAt H' b l → But b H H' → Q (.ref p) H'
theorem ixN_at {n j : Nat} (hj : j < n) : ixN n (j : Int) = some j := by
  unfold ixN
  rw [if_pos (by omega), if_pos (by omega)]
  simp
section
variable {P : Program} {w : World} {K : PySem.W.Frag} {mg : Str → Option Value} {base : Heap}
end
end Lk

namespace Lk
open PySem L2 Lx LamX LrA LqA
/-! ### parts, their number told -/
def spPartsM (K : PySem.W.Frag) : Sp := fun vs H Q _ => ∃ (b l : Addr) (n : Nat) (m : Int), vs = [.ref b, .int n, .int m] ∧ BagAt H b l ∧ n ≤ 12 ∧ 1 ≤ m ∧ m ≤ 5 ∧
  ∀ (hds : List (List Int)) (H' : Hp) (p : Addr) (ws : List V), hds.flatten.Perm (rng0 n) → (∀ cs ∈ hds, cs ≠ [] ∧ cs.Pairwise (· < ·)) → (hds.length ≤ 5 ∧ (m ≤ 3 → hds.length ≤ 3)) → H p = none → H' p = some (.lst ws) → HdsAt K H' hds ws → BagAt H' b l → But b H H' → Q (.ref p) H'
section
variable {P : Program} {w : World} {K : PySem.W.Frag} {mg : Str → Option Value} {base : Heap}
end
end Lk

namespace Lk
open PySem L2 Lx LamX LrA LqA
/-! ### drawn trees, weighed by any weight of the ends, their rows small -/
mutual
def Tr.wv (W : Nat) : Tr → Nat
  | .pl => W + 1
  | .key _ _ t => t.wv W + 1
  | .fork gs => gs.wv W + 1
def Gs.wv (W : Nat) : Gs → Nat
  | .nil => 0
  | .cons _ t r => t.wv W + r.wv W
end
mutual
theorem Tr.wv_eq (W : Nat) : ∀ t : Tr, t.wv W = t.size + W * t.ends
  | .pl => by simp [Tr.wv, Tr.size, Tr.ends]; omega
  | .key _ _ t => by simp [Tr.wv, Tr.size, Tr.ends, Tr.wv_eq W t]; omega
  | .fork gs => by simp [Tr.wv, Tr.size, Tr.ends, Gs.wv_eq W gs]; omega
theorem Gs.wv_eq (W : Nat) : ∀ g : Gs, g.wv W = g.size + W * g.ends
  | .nil => by simp [Gs.wv, Gs.size, Gs.ends]
  | .cons _ t r => by simp [Gs.wv, Gs.size, Gs.ends, Tr.wv_eq W t, Gs.wv_eq W r, Nat.mul_add]; omega
end
theorem Gs.wv_snoc {W : Nat} (cs : List Int) (t : Tr) : ∀ g : Gs, (g.snoc cs t).wv W = g.wv W + t.wv W
  | .nil => by simp [Gs.snoc, Gs.wv]
  | .cons c u r => by simp [Gs.snoc, Gs.wv, Gs.wv_snoc cs t r]; omega
theorem Gs.rb_snoc {B : Nat} (cs : List Int) {t : Tr} (h : t.rb B) : ∀ g : Gs, g.rb B → (g.snoc cs t).rb B
  | .nil, _ => by simp [Gs.snoc, Gs.rb, h]
  | .cons c u r, w => by
    simp only [Gs.rb] at w
    simp only [Gs.snoc, Gs.rb]
    exact ⟨w.1, Gs.rb_snoc cs h r w.2⟩
def vB (W : Nat) : Nat → Nat
  | 0 => W + 1
  | 1 => 1 + 5 * (W + 1)
  | n + 2 => 1 + 3 * vB W (n + 1)
theorem vB_pos (W : Nat) : ∀ n, W + 1 ≤ vB W n
  | 0 => Nat.le_refl _
  | 1 => by simp only [vB]; omega
  | n + 2 => by have := vB_pos W (n + 1); simp only [vB]; omega
theorem vB_key (W m : Nat) : vB W m + 1 ≤ vB W (m + 1) := by
  cases m with
  | zero => simp only [vB]; omega
  | succ m => simp only [vB]; omega
theorem vB_fork {W m c g : Nat} (h : (m = 0 ∧ c ≤ 5) ∨ (1 ≤ m ∧ c ≤ 3)) (hg : g ≤ c * vB W m) : g + 1 ≤ vB W (m + 1) := by
  rcases h with ⟨rfl, h⟩ | ⟨h1, h⟩
  · have : c * vB W 0 ≤ 5 * vB W 0 := Nat.mul_le_mul_right _ h
    simp only [vB] at *
    omega
  · obtain ⟨m, rfl⟩ : ∃ m', m = m' + 1 := ⟨m - 1, by omega⟩
    have : c * vB W (m + 1) ≤ 3 * vB W (m + 1) := Nat.mul_le_mul_right _ h
    simp only [vB]
    omega
def spTreeV (K : PySem.W.Frag) (W m : Nat) : Sp := fun vs H Q _ => ∃ (b l a : Addr) (ds : List Int) (n : Nat), vs = [.ref b, .ref a, .int m] ∧ BagAt H b l ∧ SqT K H a (ds.map V.int) ∧ Divs ds ∧ ds.length ≤ 3 ∧ prodL ds = (n : Int) ∧
  ∀ (t : Tr) (v : V) (H' : Hp), t.wf ds.length n → t.dep ≤ m + 1 → t.wv W ≤ vB W m → t.rb 1000000000 → TrAt K H' t v → BagAt H' b l → But b H H' → Q v H'
def spSmallV (K : PySem.W.Frag) : Sp := fun vs H Q _ => ∃ (b l : Addr) (d : Int), vs = [.ref b, .int d] ∧ BagAt H b l ∧ 1 ≤ d ∧ d ≤ 3 ∧
  ∀ (ds : List Int) (n : Nat) (t : Tr) (a p : Addr) (v : V) (H' : Hp), (ds.length : Int) = d → Divs ds → prodL ds = (n : Int) → t.wf ds.length n → t.dep ≤ 3 → t.size + 9 * t.ends ≤ vB 9 2 → t.rb 1000000000 → SqT K H' a (ds.map V.int) → TrAt K H' t v → SqT K H' p [.ref a, v] → BagAt H' b l → But b H H' → Q (.ref p) H'
def spScanV (K : PySem.W.Frag) : Sp := fun vs H Q _ => ∃ (b l : Addr) (d : Int), vs = [.ref b, .int d] ∧ BagAt H b l ∧ 1 ≤ d ∧ d ≤ 3 ∧
  ∀ (ds : List Int) (n : Nat) (t : Tr) (a p : Addr) (v : V) (H' : Hp), (ds.length : Int) = d → Divs ds → prodL ds = (n : Int) → t.wf ds.length n → t.dep ≤ 4 → t.size + 3 * t.ends ≤ vB 3 3 → t.rb 1000000000 → SqT K H' a (ds.map V.int) → TrAt K H' t v → SqT K H' p [.ref a, v] → BagAt H' b l → But b H H' → Q (.ref p) H'
section
variable {P : Program} {w : World} {K : PySem.W.Frag} {mg : Str → Option Value} {base : Heap}
end
end Lk

namespace Lk
open PySem L2 Lx LamX LrA LqA
/-! ### operations in a row (k12) -/
structure Mp where
  pick : Int
  mat : List (List Int)
  sh : List Int
def Mp.ap (m : Mp) (x : List Int) : List Int := if m.pick = 1 then plus x m.sh else if m.pick = 2 then mulM m.mat x else x
structure Mp.Ok (m : Mp) (d : Nat) : Prop where
  uni : Uni m.mat d
  bnd : Bnd 81 m.mat
  ls : m.sh.length = d
theorem Mp.Ok.len {m : Mp} {d : Nat} (M : m.Ok d) {x : List Int} (hx : x.length = d) : (m.ap x).length = d := by
  unfold Mp.ap
  by_cases h1 : m.pick = 1
  · rw [if_pos h1, plus_len (by rw [hx, M.ls]), M.ls]
  rw [if_neg h1]
  by_cases h2 : m.pick = 2
  · rw [if_pos h2]
    unfold mulM
    rw [List.length_map, M.uni.sq.ln]
  · rw [if_neg h2, hx]
def fR : List Mp → List Int → List Int
  | [], x => x
  | m :: r, x => fR r (m.ap x)
def pR : List Mp → Bool
  | [] => false
  | m :: r => if m.pick = 0 then !pR r else pR r
mutual
theorem trT_rb {e : Tr} {B : Nat} (he : e.rb B) : ∀ t : Tr, t.rb B → (trT e t).rb B
  | .pl, _ => by simp only [trT]; exact he
  | .key row hs t, w => by
    simp only [Tr.rb] at w
    simp only [trT, Tr.rb]
    refine ⟨fun z hz => ?_, trT_rb he t w.2⟩
    obtain ⟨y, hy, rfl⟩ := List.mem_map.mp hz
    have := w.1 y hy
    omega
  | .fork gs, w => by
    simp only [Tr.rb] at w
    simp only [trT, Tr.rb]
    exact trA_rb he gs .nil w (by simp [Gs.rb])
theorem trA_rb {e : Tr} {B : Nat} (he : e.rb B) : ∀ g acc : Gs, g.rb B → acc.rb B → (trA e g acc).rb B
  | .nil, acc, _, wa => by simp only [trA]; exact wa
  | .cons cs t r, acc, w, wa => by
    simp only [Gs.rb] at w
    simp only [trA]
    refine trA_rb he r _ w.2 ?_
    simp only [Gs.rb]
    exact ⟨trT_rb he t w.1, wa⟩
end
theorem chL_rb {B n : Nat} : ∀ (rows : List (List Int)) (e : Tr), (∀ r ∈ rows, ∀ z ∈ r, z.natAbs ≤ B) → e.rb B → (chL rows n e).rb B
  | [], e, _, he => by unfold chL; exact he
  | r :: rows, e, h, he => by
    have ih := chL_rb (n := n) rows (.key r (zer n) e) (fun r' h' => h r' (List.mem_cons_of_mem _ h')) (by simp only [Tr.rb]; exact ⟨h r List.mem_cons_self, he⟩)
    unfold chL at ih ⊢
    rw [List.foldl_cons]
    exact ih
theorem id_ok {d : Nat} (h1 : 1 ≤ d) (h3 : d ≤ 3) : Sq (idM d) d ∧ Bnd 1 (idM d) ∧ ∀ r ∈ ((idM d).map fun r => r.map fun z => -z).reverse, ∀ z ∈ r, z.natAbs ≤ 1 := by
  have : d = 1 ∨ d = 2 ∨ d = 3 := by omega
  rcases this with rfl | rfl | rfl
  · exact ⟨⟨rfl, by decide +kernel⟩, by unfold Bnd; decide +kernel, by decide +kernel⟩
  · exact ⟨⟨rfl, by decide +kernel⟩, by unfold Bnd; decide +kernel, by decide +kernel⟩
  · exact ⟨⟨rfl, by decide +kernel⟩, by unfold Bnd; decide +kernel, by decide +kernel⟩
theorem end_rb {d n : Nat} (h1 : 1 ≤ d) (h3 : d ≤ 3) : (endT d n).rb 1 := by
  unfold endT
  exact chL_rb _ _ (id_ok h1 h3).2.2 (by simp [Tr.rb])
/-- what an operation makes of a scan -/
structure OpOk (m : Mp) (B : Nat) (ds : List Int) (n : Nat) (t : Tr) (ds' : List Int) (n' : Nat) (t' : Tr) : Prop where
  ok : ScanOk ds' n' t'
  ld : ds'.length = ds.length
  sz : t'.size ≤ t.size + 3 * t.ends
  en : t'.ends = t.ends
  dp : t'.dep ≤ t.dep + 3
  rb : t'.rb (243 * B)
  lt : ∀ x y : List Int, x.length = ds.length → y.length = ds.length → lx (full ds' t' x) (full ds' t' y) = if m.pick = 0 then lx (full ds t y) (full ds t x) else lx (full ds t (m.ap x)) (full ds t (m.ap y))
section
variable {m : Mp} {B : Nat} {ds : List Int} {n : Nat} {t : Tr}
theorem op0 (O : ScanOk ds n t) (hs : t.size + 3 * t.ends ≤ 200) (hd : t.dep ≤ 17) (hB : 1 ≤ B) (hb : t.rb B) (hp : m.pick = 0) : OpOk m B ds n t ds n (tnT ds n t) := by
  have z1 := tn_size (n := n) (t := t) O.l1 O.l3
  have d1 := tn_dep (n := n) (t := t) O.l1 O.l3
  have m3 : ds.length * t.ends ≤ 3 * t.ends := Nat.mul_le_mul_right _ O.l3
  have l3 := O.l3
  refine ⟨⟨O.dv, O.l1, O.l3, O.pr, tn_wf O.l1 O.l3 O.wf, by omega, by omega⟩, rfl, by omega, tn_ends O.l1 O.l3, by omega, ?_, fun x y hx hy => ?_⟩
  · exact Tr.rb_mono (by omega) _ (trT_rb (Tr.rb_mono hB _ (end_rb O.l1 O.l3)) t hb)
  · rw [if_pos hp]
    exact tn_lt O.dv O.l1 O.l3 O.pr O.wf hx hy
theorem op1 (O : ScanOk ds n t) (hB3 : 3 * (B * 1) < 2 ^ 64) (hb : t.rb B) (hp : m.pick = 1) (ls : m.sh.length = ds.length) : OpOk m B ds n t ds n (shT_ ds n m.sh t) := by
  have z1 : (shT_ ds n m.sh t).size = t.size := by unfold shT_; exact mvT_size _ _ t
  have d1 : (shT_ ds n m.sh t).dep = t.dep := by unfold shT_; exact mvT_dep _ _ t
  have e1 : (shT_ ds n m.sh t).ends = t.ends := by
    unfold shT_
    rw [mvT_endsE, show Tr.pl.ends = 1 by simp [Tr.ends], Nat.mul_one]
  obtain ⟨i1, i2, _⟩ := id_ok O.l1 O.l3
  refine ⟨shift_ok O ls.symm, rfl, by omega, e1, by omega, ?_, fun x y hx hy => ?_⟩
  · have := (mvT_wfM (e := .pl) (C := 1) (shift_srcs O.dv O.pr O.l1 O.l3 ls.symm) i1 i2 O.l3 hB3 (by simp [Tr.wf]) (by simp [Tr.rb]) t O.wf hb).2
    exact Tr.rb_mono (by omega) _ this
  · rw [if_neg (by rw [hp]; decide), shift_lt O ls.symm hx hy]
    unfold Mp.ap
    rw [if_pos hp, if_pos hp]
theorem op2 {n' : Nat} (O : ScanOk ds n t) (hs : t.size + 3 * t.ends ≤ 200) (hd : t.dep ≤ 17) (hB : 1 ≤ B) (hB3 : 3 * (B * 81) < 2 ^ 64) (hb : t.rb B) (hp : m.pick = 2) (M : m.Ok ds.length) (D' : Divs (restD ds m.mat)) (hn' : prodL (restD ds m.mat) = (n' : Int)) : OpOk m B ds n t (restD ds m.mat) n' (slT ds m.mat n' t) := by
  have z1 := sl_size (ds := ds) (n' := n') (t := t) M.uni.sq.ln
  have d1 := sl_dep (ds := ds) (n' := n') (t := t) M.uni.sq.ln
  have m3 : ds.length * t.ends ≤ 3 * t.ends := Nat.mul_le_mul_right _ O.l3
  have l3 := O.l3
  have l1 := O.l1
  have ln := restD_len ds m.mat
  obtain ⟨w1, w2⟩ := sl_wf (B := B) (C := 81) O M.uni D' hn' M.bnd hB3 hB hb
  refine ⟨⟨D', by omega, by omega, hn', w1, by omega, by omega⟩, ln, by omega, sl_ends, by omega, Tr.rb_mono (by omega) _ w2, fun x y hx hy => ?_⟩
  rw [if_neg (by rw [hp]; decide), sl_lt O M.uni D' hn' hx hy]
  unfold Mp.ap
  rw [if_neg (by rw [hp]; decide), if_pos hp, if_neg (by rw [hp]; decide), if_pos hp]
theorem op3 {nds : List Int} {n' : Nat} (O : ScanOk ds n t) (hB3 : 3 * (B * 1) < 2 ^ 64) (hb : t.rb B) (h0 : m.pick ≠ 0) (h1 : m.pick ≠ 1) (h2 : m.pick ≠ 2) (D' : Divs nds) (hn' : prodL nds = (n' : Int)) (mu : Mul nds ds) : OpOk m B ds n t nds n' (rfT ds nds n' .pl t) := by
  have z1 : (rfT ds nds n' .pl t).size = t.size := by unfold rfT; exact mvT_size _ _ t
  have d1 : (rfT ds nds n' .pl t).dep = t.dep := by unfold rfT; exact mvT_dep _ _ t
  have e1 : (rfT ds nds n' .pl t).ends = t.ends := by
    unfold rfT
    rw [mvT_endsE, show Tr.pl.ends = 1 by simp [Tr.ends], Nat.mul_one]
  obtain ⟨i1, i2, _⟩ := id_ok O.l1 O.l3
  refine ⟨ref_ok O D' hn' mu, mu.1, by omega, e1, by omega, ?_, fun x y hx hy => ?_⟩
  · have := (mvT_wfM (e := .pl) (C := 1) (ref_srcs O.dv O.pr D' hn' mu O.l1 O.l3) i1 i2 O.l3 hB3 (by simp [Tr.wf]) (by simp [Tr.rb]) t O.wf hb).2
    exact Tr.rb_mono (by omega) _ this
  · rw [if_neg h0, ref_lt O D' hn' mu hx hy]
    unfold Mp.ap
    rw [if_neg h1, if_neg h2, if_neg h1, if_neg h2]
end
/-- the scan behind a row of operations, the newest first -/
structure Run (d0 : List Int) (t0 : Tr) (rs : List Mp) (ds : List Int) (n : Nat) (t : Tr) : Prop where
  ok : ScanOk ds n t
  ld : ds.length = d0.length
  k3 : rs.length ≤ 3
  s0 : t0.size + 9 * t0.ends ≤ 154
  sz : t.size ≤ t0.size + 3 * (rs.length * t0.ends)
  en : t.ends = t0.ends
  dp : t.dep ≤ 3 + 3 * rs.length
  rb : t.rb (1000000000 * 243 ^ rs.length)
  lt : ∀ x y : List Int, x.length = d0.length → y.length = d0.length → lx (full ds t x) (full ds t y) = if pR rs = true then lx (full d0 t0 (fR rs y)) (full d0 t0 (fR rs x)) else lx (full d0 t0 (fR rs x)) (full d0 t0 (fR rs y))
section
variable {d0 ds ds' : List Int} {n n' : Nat} {t t0 t' : Tr} {rs : List Mp} {m : Mp}
theorem Run.pre (R : Run d0 t0 rs ds n t) (h : rs.length ≤ 2) : t.size + 3 * t.ends ≤ 200 ∧ t.dep ≤ 17 ∧ 1 ≤ 1000000000 * 243 ^ rs.length ∧ 3 * ((1000000000 * 243 ^ rs.length) * 81) < 2 ^ 64 := by
  have h1 := R.sz
  have h2 := R.en
  have h3 := R.s0
  have h4 := R.dp
  have h5 : rs.length * t0.ends ≤ 2 * t0.ends := Nat.mul_le_mul_right _ h
  refine ⟨by omega, by omega, ?_⟩
  generalize rs.length = k at h
  have : k = 0 ∨ k = 1 ∨ k = 2 := by omega
  rcases this with rfl | rfl | rfl <;> decide
theorem Run.step (R : Run d0 t0 rs ds n t) (h : rs.length ≤ 2) (M : m.Ok d0.length) (O : OpOk m (1000000000 * 243 ^ rs.length) ds n t ds' n' t') : Run d0 t0 (m :: rs) ds' n' t' := by
  have h1 := R.sz
  have h2 := R.en
  have h4 := R.dp
  have h5 : (rs.length + 1) * t0.ends = rs.length * t0.ends + t0.ends := Nat.succ_mul _ _
  have o1 := O.sz
  have o2 := O.dp
  refine ⟨O.ok, by rw [O.ld, R.ld], by rw [List.length_cons]; omega, R.s0, by rw [List.length_cons, h5]; omega, by rw [O.en, R.en], by rw [List.length_cons]; omega, ?_, fun x y hx hy => ?_⟩
  · have := O.rb
    rw [List.length_cons, Nat.pow_succ]
    refine Tr.rb_mono (Nat.le_of_eq ?_) _ this
    rw [Nat.mul_comm 243, Nat.mul_assoc]
  · rw [O.lt x y (by rw [hx, R.ld]) (by rw [hy, R.ld])]
    have ef : ∀ z, fR (m :: rs) z = fR rs (m.ap z) := fun _ => rfl
    rw [ef, ef]
    by_cases hp : m.pick = 0
    · have e : ∀ z : List Int, m.ap z = z := fun z => by
        unfold Mp.ap
        rw [if_neg (by rw [hp]; decide), if_neg (by rw [hp]; decide)]
      have ep : pR (m :: rs) = !pR rs := by
        simp only [pR]
        rw [if_pos hp]
      rw [ep, if_pos hp, R.lt y x hy hx, e, e]
      cases pR rs <;> rfl
    · have ep : pR (m :: rs) = pR rs := by
        simp only [pR]
        rw [if_neg hp]
      rw [ep, if_neg hp, R.lt _ _ (M.len hx) (M.len hy)]
end
/-- the operations that were done, as the law keeps them -/
def MpAt (K : PySem.W.Frag) (H : Hp) (m : Mp) (v : V) : Prop := ∃ (p a c : Addr) (us : List V), v = .ref p ∧ SqT K H p [.int m.pick, .ref a, .ref c] ∧ SqT K H a us ∧ HdsAt K H m.mat us ∧ SqT K H c (m.sh.map V.int)
theorem MpAt.mono {K : PySem.W.Frag} {H H' : Hp} {m : Mp} {v : V} (h : MpAt K H m v) (e : Tups K H H') : MpAt K H' m v := by
  obtain ⟨p, a, c, us, h1, h2, h3, h4, h5⟩ := h
  exact ⟨p, a, c, us, h1, e _ _ h2, e _ _ h3, h4.mono e, e _ _ h5⟩
def MpsAt (K : PySem.W.Frag) (H : Hp) : List Mp → List V → Prop
  | [], ws => ws = []
  | m :: r, ws => ∃ v us, ws = us ++ [v] ∧ MpAt K H m v ∧ MpsAt K H r us
theorem MpsAt.mono {K : PySem.W.Frag} {H H' : Hp} (e : Tups K H H') : ∀ {rs : List Mp} {ws : List V}, MpsAt K H rs ws → MpsAt K H' rs ws
  | [], _, h => h
  | m :: r, ws, ⟨v, us, h1, h2, h3⟩ => ⟨v, us, h1, h2.mono e, MpsAt.mono e h3⟩
theorem MpsAt.len {K : PySem.W.Frag} {H : Hp} : ∀ {rs : List Mp} {ws : List V}, MpsAt K H rs ws → ws.length = rs.length
  | [], _, h => by rw [show _ = _ from h]; rfl
  | m :: r, ws, ⟨v, us, h1, h2, h3⟩ => by rw [h1, List.length_append, MpsAt.len h3]; rfl
theorem MpsAt.get {K : PySem.W.Frag} {H : Hp} : ∀ {rs : List Mp} {ws : List V} {i : Nat} {v : V}, MpsAt K H rs ws → ws.reverse[i]? = some v → ∃ m, rs[i]? = some m ∧ MpAt K H m v
  | [], ws, i, v, h, e => by rw [show ws = [] from h] at e; cases e
  | m :: r, ws, 0, v, ⟨v', us, h1, h2, h3⟩, e => by
    rw [h1, List.reverse_append] at e
    cases e
    exact ⟨m, rfl, h2⟩
  | m :: r, ws, i + 1, v, ⟨v', us, h1, h2, h3⟩, e => by
    rw [h1, List.reverse_append] at e
    obtain ⟨m', g1, g2⟩ := MpsAt.get h3 (show us.reverse[i]? = some v from e)
    exact ⟨m', by simpa using g1, g2⟩
end Lk

namespace Lk
open PySem L2 Lx LamX LrA LqA
abbrev dN : List Str := ["_law_scan", "_law_pick", "_law_matrix_here", "_law_shift", "_law_finer", "_law_side"]
def spD2 (K : PySem.W.Frag) (C C2 : Addr) : Sp := fun vs H Q E => spSlanted K C vs H Q E ∨ spSlantedM K C C2 vs H Q E
def spD3 (K : PySem.W.Frag) (C C1 C2 : Addr) : Sp := fun vs H Q E => spRefd K C vs H Q E ∨ spRefX K C C1 C2 vs H Q E
/-- what is asked of one operation -/
structure DnIn (K : PySem.W.Frag) (C : Addr) (T : List (Addr × Str)) (H : Hp) (x a c : Addr) (us : List V) (m : Mp) (B : Nat) (ds : List Int) (n : Nat) (t : Tr) : Prop where
  sc : ScanAt K C H x ds n t
  ha : SqT K H a us
  hw : HdsAt K H m.mat us
  hc : SqT K H c (m.sh.map V.int)
  mo : m.Ok ds.length
  p0 : 0 ≤ m.pick
  p3 : m.pick ≤ 3
  ok : ScanOk ds n t
  sz : t.size + 3 * t.ends ≤ 200
  dp : t.dep ≤ 17
  b1 : 1 ≤ B
  b3 : 3 * (B * 81) < 2 ^ 64
  rb : t.rb B
  tb : Tabs T H
def spDone (K : PySem.W.Frag) (C : Addr) (T : List (Addr × Str)) : Sp := fun vs H Q _ => ∃ (x a c : Addr) (us : List V) (m : Mp) (B : Nat) (ds : List Int) (n : Nat) (t : Tr), vs = [.ref x, .int m.pick, .ref a, .ref c] ∧ DnIn K C T H x a c us m B ds n t ∧
  (∀ (H' : Hp) (p r : Addr) (ds' : List Int) (n' : Nat) (t' : Tr), ExtN H H' → Tabs T H' → OpOk m B ds n t ds' n' t' → ScanAt K C H' r ds' n' t' → SqT K H' p [.str "value", .ref r] → Q (.ref p) H') ∧
  (2 ≤ m.pick → ∀ (H' : Hp) (p : Addr), ExtN H H' → Tabs T H' → SqT K H' p [.str "TooManyClasses", .int 12] → Q (.ref p) H')
section
variable {P : Program} {w : World} {K : PySem.W.Frag} {mg : Str → Option Value} {base : Heap}
end
end Lk

namespace Lk
open PySem L2 Lx LamX LrA LqA TsX
/-! ### errors of divisors and looks before those of words -/
abbrev oQ : Str := (PyProof.Rows.envOfC "_law_other_errors" (defScope sOtherErr) 0 0 .none).qual ++ "<lambda>"
abbrev oN : List Str := ["_law_bag_here", "_law_divisors_z", "_law_looks_z", "_law_odd_here", "_law_due"]
abbrev oX (P : Program) (w : World) (K : PySem.W.Frag) (mg : Str → Option Value) (base : Heap) (f cda : Addr) (A : Around) (outer : List Env) (s : Shared) (H : Hp) (E : XK) : Cx := (cxOf CX0 P w K mg base oN "_law_other_errors" (defScope sOtherErr) f (.ref cda) A outer s H E).nox
def spOther (K : PySem.W.Frag) (T : List (Addr × Str)) : Sp := fun vs H Q _ => ∃ (b l dz lz : Addr) (ds : List Int) (lks : List (List Int)) (lw : List V), vs = [.ref b, .ref dz, .ref lz] ∧ BagAt H b l ∧ Tabs T H ∧ SqT K H dz (ds.map V.int) ∧ 1 ≤ ds.length ∧ ds.length ≤ 3 ∧ Divs ds ∧ H lz = some (.lst lw) ∧ lz ≠ b ∧ HdsAt K H lks lw ∧ Looks ds.length lks ∧
  ∀ H', BagAt H' b l → Tabs T H' → Q (.bl true) H'
theorem ne_same {K : PySem.W.Frag} {H : Hp} {a b : Addr} {xs : List V} {d : List PyData} {Q : VK} (ha : SqT K H a xs) (hb : SqT K H b xs) (hd : DpAll K H xs d) (hs : SeqAt.shaped (.tuple d) = true) (he : PyData.eqv (.tuple d) (.tuple d) = true) (q : Q (.bl false) H) : rNeD K (.ref a) (.ref b) H Q := by
  refine ⟨.tuple d, .tuple d, .tup ha hd, .tup hb hd, hs, hs, ?_⟩
  rw [he]
  exact q
theorem eq_same {K : PySem.W.Frag} {H : Hp} {a b : Addr} {xs : List V} {d : List PyData} {Q : VK} (ha : SqT K H a xs) (hb : SqT K H b xs) (hd : DpAll K H xs d) (hs : SeqAt.shaped (.tuple d) = true) (he : PyData.eqv (.tuple d) (.tuple d) = true) (q : Q (.bl true) H) : rEqD K (.ref a) (.ref b) H Q := by
  refine ⟨.tuple d, .tuple d, .tup ha hd, .tup hb hd, hs, hs, ?_⟩
  rw [he]
  exact q
theorem dv_tags {o : Option (List V)} (h : dvE o ≠ 0) : (dvE o = 1 ∧ dTag o = "InvalidDivisors" ∧ dFld o = .non) ∨ (dvE o = 2 ∧ dTag o = "TooManyClasses" ∧ dFld o = .int 12) := by
  have : dvE o = 1 ∨ dvE o = 2 := by
    unfold dvE at h ⊢
    split
    · rename_i e
      rw [if_pos e] at h
      split
      · exact .inr rfl
      · rename_i e2
        rw [if_neg e2] at h
        exact absurd rfl h
    · exact .inl rfl
  rcases this with e | e
  · exact .inl ⟨e, by unfold dTag; rw [e]; rfl, by unfold dFld; rw [e]; rfl⟩
  · exact .inr ⟨e, by unfold dTag; rw [e]; rfl, by unfold dFld; rw [e]; rfl⟩
theorem shp_err (j : Int) : SeqAt.shaped (.tuple [.str "InvalidLooks", .int j]) = true := by
  simp [SeqAt.shaped, PyData.canLay0, PyData.canLayAll0, PyData.depth, PyData.depthAll]
  decide +kernel
theorem eqv_err (j : Int) : PyData.eqv (.tuple [.str "InvalidLooks", .int j]) (.tuple [.str "InvalidLooks", .int j]) = true := by
  simp [PyData.eqv, PyData.eqvAll]
theorem rep_ints (m : Nat) (c : Int) : List.replicate ((m : Int)).toNat (V.int c) = (List.replicate m c).map V.int := by
  show List.replicate m (V.int c) = _
  rw [List.map_replicate]
section
variable {P : Program} {w : World} {K : PySem.W.Frag} {mg : Str → Option Value} {base : Heap}
theorem ok_other {T' : List (Addr × Str)} {f g fF CS C C1 C2 CL CW cda Pt fO fOd fDe fI fWd : Addr} {fdO fdOd fdDe fdI fdWd : FuncData} {k : Nat}
    {oc kV doc pm ct : Value} {od an : Option Addr} {osl : Array (Option Value)} (lk : K.lookup f = some ⟨oc, od, .func (PySem.W.fnOf "_law_other_errors" "_law_other_errors" (defArgs sOtherErr) (defBody sOtherErr) (defScope sOtherErr) .none kV doc pm an (.ref cda) ct), osl⟩) (hcd : PySem.W.codeIn K (.ref cda) "_law_other_errors" = true) (TB : TabB base mg cda Pt)
    (inT : (Pt, oQ) ∈ T') (onT : ∀ p ∈ T', p.1 = Pt → p.2 = oQ)
    (T : TTab K mg C) (ml : mg "len" = none)
    (GO : FnOk P w K mg base CX0 (k + 2) fO fdO ["_law_bag_here", "_law_things"] (spOf K)) (kO : PySem.W.keepIn K (.ref fO) = true) (bO : Binds K fdO ["_law_bag_here", "_law_things"] []) (gO : mg "_law_of" = some (.ref fO))
    (GOd : FnOk P w K mg base CX0 (k + 3) fOd fdOd ["_law_bag_here"] (spOdd K)) (kOd : PySem.W.keepIn K (.ref fOd) = true) (bOd : Binds K fdOd ["_law_bag_here"] []) (gOd : mg "_law_odd" = some (.ref fOd))
    (GDe : FnOk P w K mg base CX0 (k + 2) fDe fdDe ["_law_value"] (spDErr K)) (kDe : PySem.W.keepIn K (.ref fDe) = true) (bDe : Binds K fdDe ["_law_value"] []) (gDe : mg "_law_divisors_error" = some (.ref fDe))
    (GI : FnOk P w K mg base (L2.CX P w) (k + 6) fI fdI ["self", "divisors", "looks", "words"] (spTInit K C C1 C2 CL CW)) (bI : Binds K fdI ["self", "divisors", "looks", "words"] []) (MI : Mk K C fI)
    (GWd : FnOk P w K mg base CX0 (k + 1) fWd fdWd ["self"] (spTWords K C)) (bWd : Binds K fdWd ["self"] []) (mWd : Meth K C "words" fWd)
    (TR : TryT K mg g) (FT : FieldT K mg fF) (hSE : mg "ScanError" = some (.ref CS))
    (hE1 : PySem.W.exmOne K (.ref C1) (.ref CS) = some true) (R1 : RdC K C1) (hE2 : PySem.W.exmOne K (.ref C2) (.ref CS) = some true) (R2 : RdC K C2) (hExL : PySem.W.exmOne K (.ref CL) (.ref CS) = some true) (RDL : RdC K CL) :
    FnOk P w K mg base CX0 (k + 10) f (PySem.W.fnOf "_law_other_errors" "_law_other_errors" (defArgs sOtherErr) (defBody sOtherErr) (defScope sOtherErr) .none kV doc pm an (.ref cda) ct) ["_law_bag_here", "_law_divisors_z", "_law_looks_z"] (spOther K T') := by
  refine fn_of lk hcd scOtherErr (fun vs H Q E h => ?_) (fun A outer s H vs Q E hr h => ?_)
  · obtain ⟨b, l, dz, lz, ds, lks, lw, rfl, _⟩ := h
    rfl
  · obtain ⟨b, l, dz, lz, ds, lks, lw, rfl, B, tb, hds, l1, l3, hD, hlz, nlb, hW, LK, q⟩ := h
    have hr2 : Room (k + 2) _ := hr.mono (by omega)
    have hr3 : Room (k + 3) _ := hr.mono (by omega)
    have hr9 : Room (k + 7 + 2) _ := hr.mono (by omega)
    have hrq : Room 2 _ := hr.mono (by omega)
    suffices hh : ∃ t, PSs (oX P w K mg base f cda A outer s H E) (defBody sOtherErr) t ∧ t { nx := fun _ H' => Q .non H', rt := Q } (start oN [.ref b, .ref dz, .ref lz]) H by
      obtain ⟨t, h1, h2⟩ := hh
      exact ⟨t, h1.nox, h2⟩
    refine ⟨_, (pss_cons (ps_set (i := 3) scOtherErr.nd rfl (.inr rfl) (pe_call GO hr2 (by rfl) gO kO bO .nil pass0 (pa_cons (pv 0) (pa_cons (pe_lst (pa_cons (pe_call GOd hr3 (by rfl) gOd kOd bOd .nil pass0 (pa_cons (pv 0) pa_nil)) (pa_cons (pe_op op_repO (pe_tup (pa_cons pe_int pa_nil)) (pe_callB call_len_seq (by rfl) ml PySem.boot_len (pa_cons (pv 1) pa_nil))) (pa_cons (pe_op op_repO (pe_tup (pa_cons pe_int pa_nil)) (pe_callB call_len_seq (by rfl) ml PySem.boot_len (pa_cons (pv 1) pa_nil))) pa_nil)))) pa_nil))))
      (pss_cons (ps_set (i := 4) scOtherErr.nd rfl (.inl rfl) (pe_call GDe hr2 (by rfl) gDe kDe bDe .nil pass0 (pa_cons (pv 3) pa_nil)))
      (C8.pss_cut (ps_if (PW.pt (pw_and (pt_cmpR op_ne (pe_ix ix_tup (pv 4) pe_int (fun _ _ => rfl)) pe_str (nomark _)) (pw_and1 (pt_cmpR (op_neD hr.units) (pe_triedT (T := T') (k := k + 7) TR FT hSE (by rfl) TB rfl inT onT hr9 hrq (lamS_by (sc := defScope sOtherErr) (by decide +kernel)) rfl (fun _ _ _ _ _ => rfl)
          (t := fun E => tMeth C "words" (spTWords K C) [] (fun _ _ _ => False) (tMake C (spTInit K C C1 C2 CL CW) [] E (tCons (tVar 3) (tCons (tLst (tCons (tC .non) tNil)) (tCons (tLst (tCons (tC (.str "x")) tNil)) tNil)))) tNil)
          (fun A outer s H E f c' hr' => pe_meth0 (pe_make MI GI hr' (by rfl) T.mgC bI .nil (passes_call (E := E) (takes_of rfl rfl rfl rfl) (fun _ _ _ _ h => h)) (pa_cons (pv 3) (pa_cons (pe_lst (pa_cons pe_non pa_nil)) (pa_cons (pe_lst (pa_cons pe_str pa_nil)) pa_nil)))) T.cl mWd GWd (hr'.mono (by omega)) bWd .nil pass0)) (pv 4) (nomark _))))) (pss_one (ps_ret pe_bl)) pss_nil)
      (pss_one (ps_ret (pe_cmpR (op_eqD hr.units) (pe_triedT (T := T') (k := k + 7) TR FT hSE (by rfl) TB rfl inT onT hr9 hrq (lamS_by (sc := defScope sOtherErr) (by decide +kernel)) rfl (fun _ _ _ _ _ => rfl)
          (t := fun E => tMeth C "words" (spTWords K C) [] (fun _ _ _ => False) (tMake C (spTInit K C C1 C2 CL CW) [] E (tCons (tVar 1) (tCons (tOp rCat (tVar 2) (tLst (tCons (tC .non) tNil))) (tCons (tLst tNil) tNil)))) tNil)
          (fun A outer s H E f c' hr' => pe_meth0 (pe_make MI GI hr' (by rfl) T.mgC bI .nil (passes_call (E := E) (takes_of rfl rfl rfl rfl) (fun _ _ _ _ h => h)) (pa_cons (pv 1) (pa_cons (pe_op op_cat (pv 2) (pe_lst (pa_cons pe_non pa_nil))) (pa_cons (pe_lst pa_nil) pa_nil)))) T.cl mWd GWd (hr'.mono (by omega)) bWd .nil pass0)) (pe_tup (pa_cons pe_str (pa_cons (pe_callB call_len_seq (by rfl) ml PySem.boot_len (pa_cons (pv 2) pa_nil)) pa_nil))) (nomark _))))))), ?_⟩
    have caughtD : ∀ (ob : Option (List V)) (G : Hp) (Q' : VK), dvE ob ≠ 0 → (∀ (G' : Hp) (T' : Addr), Same G G' → G' T' = none → Q' (.ref T') (upd G' T' (.tup [.str (dTag ob), dFld ob]))) → DvK C1 C2 ob G (Caught K CS Q') := fun ob G Q' hne hq d G' up => by
      refine ⟨fun e hd => ⟨hE1, C1, d, _, "InvalidDivisors", .non, rfl, rfl, R1, hd, rfl, ?_, fun G2 T2 up2 nT2 => ?_⟩, fun e hd => ⟨hE2, C2, d, _, "TooManyClasses", .int 12, rfl, rfl, R2, hd, rfl, ?_, fun G2 T2 up2 nT2 => ?_⟩⟩
      · unfold FieldIs
        rw [if_neg (by decide +kernel), if_neg (by decide +kernel), if_neg (by decide +kernel), if_neg (by decide +kernel), if_neg (by decide +kernel), if_neg (by decide +kernel)]
      · have := hq G2 T2 (fun b u h => up2 b u (up b u h)) nT2
        unfold dTag dFld at this
        rw [e] at this
        exact this
      · unfold FieldIs
        rw [if_neg (by decide +kernel), if_pos (by decide +kernel)]
        rfl
      · have := hq G2 T2 (fun b u h => up2 b u (up b u h)) nT2
        unfold dTag dFld at this
        rw [e] at this
        exact this
    have caughtL : ∀ (j : Nat) (G : Hp) (Q' : VK), (∀ (G' : Hp) (T' : Addr), Same G G' → G' T' = none → Q' (.ref T') (upd G' T' (.tup [.str "InvalidLooks", .int j]))) → IlK CL j G (Caught K CS Q') := fun j G Q' hq d' G' up hd' => by
      refine ⟨hExL, CL, d', _, "InvalidLooks", .int j, rfl, rfl, RDL, hd', rfl, ?_, fun G2 T2 up2 nT2 => hq G2 T2 (fun b u e => up2 b u (up b u e)) nT2⟩
      unfold FieldIs
      rw [if_neg (by decide +kernel), if_neg (by decide +kernel), if_pos (by decide +kernel)]
      rfl
    have lds : (ds.map V.int).length = ds.length := List.length_map ..
    refine ⟨_, rfl, _, rfl, b, l, rfl, B, fun v0 o0 H1 hO0 hB0 B1 bt1 => ?_⟩
    have hds1 := bt1.sqT B hds
    refine ⟨(by show 1 ≤ sizeLine; decide), fun q1 n1 => ⟨_, rfl, dz, _, rfl, .inr (Same.sqT (same_new n1) hds1), rep_reads (SqT.of upd_same) (by omega) (by omega) fun H2 p1 s2 hp1 => ?_⟩⟩
    have s12 : Same H1 H2 := (same_new n1).trans s2
    refine ⟨(by show 1 ≤ sizeLine; decide), fun q2 n2 => ⟨_, rfl, dz, _, rfl, .inr (Same.sqT (s12.trans (same_new n2)) hds1), rep_reads (SqT.of upd_same) (by omega) (by omega) fun H3 p2 s3 hp2 => ?_⟩⟩
    have s23 : Same H2 H3 := (same_new n2).trans s3
    refine ⟨(by show 3 ≤ sizeLine; decide), fun L nL => ?_⟩
    have s3L : Same H3 (upd H3 L (.lst [v0, .ref p1, .ref p2])) := same_new nL
    have s1L := (s12.trans s23).trans s3L
    have B3 := BagAt.same B1 s1L
    have B30 := BagAt.same B1 (s12.trans s23)
    refine ⟨b, l, L, _, rfl, B3, B30.nb nL, SqL.of upd_same, (by show 0 < 3; decide), (by show 3 < 1000; decide), fun v H4 hv B4 bt4 => ?_⟩
    have t14 : Tups K H1 H4 := fun x ys h => bt4.sqT B3 (Same.sqT s1L h)
    have t24 : Tups K H2 H4 := fun x ys h => bt4.sqT B3 (Same.sqT (s23.trans s3L) h)
    have t34 : Tups K H3 H4 := fun x ys h => bt4.sqT B3 (Same.sqT s3L h)
    have bt04 : But b H H4 := (bt1.trans (But.same s1L)).trans bt4
    rw [lds, rep_ints] at hp1 hp2
    obtain ⟨ob, hOb, hBb⟩ : ∃ ob, OD K H4 v ob ∧ OB ob := by
      simp only [List.mem_cons, List.not_mem_nil, or_false] at hv
      rcases hv with rfl | rfl | rfl
      · exact ⟨o0, hO0.mono t14, hB0⟩
      · refine ⟨_, od_look (t24 _ _ hp1) (by rw [List.length_replicate]; omega), fun z hz => ?_⟩
        rw [its_ints] at hz
        rw [List.eq_of_mem_replicate hz]
        decide
      · refine ⟨_, od_look (t34 _ _ hp2) (by rw [List.length_replicate]; omega), fun z hz => ?_⟩
        rw [its_ints] at hz
        rw [List.eq_of_mem_replicate hz]
        decide
    have tb4 := Tabs.but tb B bt04
    have hds4 := bt04.sqT B hds
    have hlz4 := bt04 _ _ nlb hlz
    have hW4 := HdsAt.mono (But.tups B bt04) hW
    refine ⟨_, rfl, v, ob, rfl, hOb, hBb, fun H5 T5 s5 hT5 => ?_⟩
    refine ⟨fun σ' G => σ' = [some (.ref b), some (.ref dz), some (.ref lz), some v, some (.ref T5)] ∧ BagAt G b l ∧ Tabs T' G ∧ SqT K G dz (ds.map V.int) ∧ G lz = some (.lst lw) ∧ HdsAt K G lks lw, ?_, ?_⟩
    · have B5 := BagAt.same B4 s5
      have tb5 := tb4.ext s5
      have hds5 := Same.sqT s5 hds4
      have hlz5 := s5 _ _ hlz4
      have hW5 := HdsAt.mono (Same.tups s5) hW4
      refine ⟨_, rfl, T5, _, _, _, rfl, rfl, hT5, atI_nat (j := 0) rfl, rfl, ?_⟩
      by_cases hz : dvE ob = 0
      · refine ⟨false, ?_, iteF ⟨rfl, B5, tb5, hds5, hlz5, hW5⟩⟩
        have : dTag ob = "value" := by unfold dTag; rw [if_pos hz]
        rw [this]
        rfl
      · have tags := dv_tags hz
        refine ⟨true, ?_, iteT ⟨tb5, fun G1 xG1 tb6 => ?_⟩⟩
        · rcases tags with ⟨_, e, _⟩ | ⟨_, e, _⟩ <;> rw [e] <;> rfl
        refine ⟨_, rfl, (by show 1 ≤ sizeLine; decide), fun L1 m1 => ⟨(by show 1 ≤ sizeLine; decide), fun L2 m2 => fun x dx nx ndx nex => ?_⟩⟩
        have y2 := ((same_new (o := .lst [.non]) m1).trans (same_new (o := .lst [.str "x"]) m2)).trans (made_same (C := C) nx ndx)
        refine ⟨x, dx, L1, L2, v, rfl, upd_same, .inl ⟨ob, ((hOb.mono (Same.tups s5)).mono (ExtN.tups xG1)).mono (Same.tups y2), hBb, hz, caughtD ob _ _ hz fun G2 T2 s22 nT2 => ?_⟩⟩
        have y3 := (y2.trans s22).trans (same_new (o := .tup [.str (dTag ob), dFld ob]) nT2)
        have hT2 : SqT K (upd G2 T2 (.tup [.str (dTag ob), dFld ob])) T2 [.str (dTag ob), dFld ob] := SqT.of upd_same
        have hT5' := Same.sqT y3 (ExtN.tups xG1 _ _ hT5)
        have inv : BagAt (upd G2 T2 (.tup [.str (dTag ob), dFld ob])) b l ∧ Tabs T' (upd G2 T2 (.tup [.str (dTag ob), dFld ob])) ∧ SqT K (upd G2 T2 (.tup [.str (dTag ob), dFld ob])) dz (ds.map V.int) ∧ (upd G2 T2 (.tup [.str (dTag ob), dFld ob])) lz = some (.lst lw) ∧ HdsAt K (upd G2 T2 (.tup [.str (dTag ob), dFld ob])) lks lw :=
          ⟨BagAt.same (B5.extN xG1) y3, tb6.ext y3, Same.sqT y3 (ExtN.tups xG1 _ _ hds5), y3 _ _ (xG1 _ _ hlz5 (fun ps z => by cases z)), HdsAt.mono (Same.tups y3) (HdsAt.mono (ExtN.tups xG1) hW5)⟩
        rcases tags with ⟨_, e1, e2⟩ | ⟨_, e1, e2⟩
        · rw [e1, e2] at hT2 hT5' inv ⊢
          exact ⟨_, rfl, ne_same hT2 hT5' (.cons (.str _) (.cons .non .nil)) (by decide +kernel) (by decide +kernel) ⟨_, rfl, iteF ⟨rfl, inv⟩⟩⟩
        · rw [e1, e2] at hT2 hT5' inv ⊢
          exact ⟨_, rfl, ne_same hT2 hT5' (.cons (.str _) (.cons (.int _) .nil)) (by decide +kernel) (by decide +kernel) ⟨_, rfl, iteF ⟨rfl, inv⟩⟩⟩
    · rintro σ' G ⟨rfl, BG, tbG, hdsG, hlzG, hWG⟩
      refine ⟨tbG, fun G1 xG1 tb6 => ?_⟩
      have hdsM := ExtN.tups xG1 _ _ hdsG
      have hlzM := xG1 _ _ hlzG (fun ps z => by cases z)
      have hWM := HdsAt.mono (ExtN.tups (K := K) xG1) hWG
      have BM := BG.extN xG1
      refine ⟨_, rfl, _, rfl, (by show 1 ≤ sizeLine; decide), fun L1 m1 => ?_⟩
      have w1 := same_new (o := .lst [.non]) m1
      have lw4 : lw.length ≤ 4 := by rw [hds_len hWM]; exact LK.l4
      refine ⟨lz, L1, _, _, rfl, rfl, w1 _ _ hlzM, upd_same, ?_, fun N nN => ?_⟩
      · exact Nat.le_trans (show lw.length + 1 ≤ 5 by omega) (by decide)
      have w2 := w1.trans (same_new (o := .lst (lw ++ [.non])) nN)
      refine ⟨Nat.zero_le _, fun L2 m2 => fun x dx nx ndx nex => ?_⟩
      have w3 := same_new (o := .lst []) m2
      have w4 := made_same (C := C) nx ndx
      have w := (w2.trans w3).trans w4
      have hN := (w3.trans w4) _ _ (upd_same (H := upd G1 L1 (.lst [.non])) (a := N) (o := .lst (lw ++ [.non])))
      refine ⟨x, dx, N, L2, .ref dz, rfl, upd_same, .inr ⟨dz, ds, lw, [.non], lks, rfl, Same.sqT w hdsM, l1, l3, hD, .inl (SqL.of hN), HdsAt.mono (Same.tups w) hWM, by have := LK.l4; omega, LK.nd, LK.ok, .inl ⟨lks.length, .inr (.inr ⟨.non, [], none, rfl, rfl, .inl rfl, rfl⟩), caughtL lks.length _ _ fun G2 T2 s22 nT2 => ?_⟩⟩⟩
      have y3 := (w.trans s22).trans (same_new (o := .tup [.str "InvalidLooks", .int lks.length]) nT2)
      have hlz3 := y3 _ _ hlzM
      refine ⟨_, rfl, lz, _, rfl, .inl (SqL.of hlz3), (by show 2 ≤ sizeLine; decide), fun TT nTT => ?_⟩
      have yT := same_new (o := .tup [.str "InvalidLooks", .int lw.length]) nTT
      have el : (lw.length : Int) = (lks.length : Int) := by rw [hds_len hWM]
      have y4 := y3.trans yT
      refine eq_same (xs := [.str "InvalidLooks", .int lks.length]) (Same.sqT yT (SqT.of upd_same)) (SqT.of (by rw [upd_same, el])) (.cons (.str _) (.cons (.int _) .nil)) (shp_err _) (eqv_err _) ?_
      exact q _ (BagAt.same BM y4) (tb6.ext y4)
end
end Lk

namespace Lk
open PySem L2 Lx LamX LrA LqA TsX
/-! ### what k18's law needs of words and tables -/
theorem shp_intsL (ns : List Int) : SeqAt.shaped (.list (ns.map PyData.int)) = true := by
  unfold SeqAt.shaped
  have h2 : (PyData.list (ns.map PyData.int)).depth ≤ 64 := by
    unfold PyData.depth
    rw [PySem.W.depth_ints]
    decide
  rw [decide_eq_true h2, Bool.and_true]
  unfold PyData.canLay0
  exact lay_ints ns
theorem ints_nil (ns : List Int) : PyData.eqv (.list (ns.map PyData.int)) (.list []) = decide (ns = []) := by
  cases ns with
  | nil => rfl
  | cons c r => rfl
/-- the indices of bad words among the first j -/
def badI (m : Nat) (ms : List (List Nat)) (j : Nat) : List Nat := (List.range j).filter fun i => !wdB m (ms.getD i [])
theorem badI_succ (m : Nat) (ms : List (List Nat)) (j : Nat) : badI m ms (j + 1) = badI m ms j ++ (if wdB m (ms.getD j []) = true then [] else [j]) := by
  unfold badI
  rw [List.range_succ, List.filter_append]
  congr 1
  rw [List.filter_cons, List.filter_nil]
  cases wdB m (ms.getD j []) <;> rfl
theorem mem_badI {m : Nat} {ms : List (List Nat)} {j i : Nat} : i ∈ badI m ms j ↔ i < j ∧ wdB m (ms.getD i []) = false := by
  unfold badI
  simp
theorem wIx_badI {n m : Nat} {ms : List (List Nat)} {i : Nat} {r : List Nat} (h : badI m ms (min n ms.length) = i :: r) : wIx n m ms = some i := by
  have hi := mem_badI.mp (show i ∈ badI m ms (min n ms.length) by rw [h]; exact List.mem_cons_self)
  have srt : (badI m ms (min n ms.length)).Pairwise (· < ·) := List.Pairwise.filter _ List.pairwise_lt_range
  rw [h] at srt
  have lo : ∀ j, j < i → wdB m (ms.getD j []) = true := fun j hj => by
    cases hb : wdB m (ms.getD j []) with
    | true => rfl
    | false =>
      have : j ∈ badI m ms (min n ms.length) := mem_badI.mpr ⟨by omega, hb⟩
      rw [h] at this
      rcases List.mem_cons.mp this with e | e
      · omega
      · have := (List.pairwise_cons.mp srt).1 j e
        omega
  have hl : i < ms.length := by omega
  have gd : ∀ j, j < min n ms.length → (ms.take n)[j]? = some (ms.getD j []) := fun j hj => by
    rw [List.getElem?_take_of_lt (by omega), List.getD_eq_getElem?_getD, List.getElem?_eq_getElem (by omega)]
    rfl
  refine wIx_bad (gd i hi.1) hi.2 fun j hj l' e => ?_
  rw [gd j (by omega)] at e
  rw [← Option.some.inj e]
  exact lo j hj
theorem wIx_good {n m : Nat} {ms : List (List Nat)} (h : badI m ms (min n ms.length) = []) : wIx n m ms = if ms.length = n then none else some (min ms.length n) := by
  refine wIx_end fun j l' e => ?_
  have hj := (List.getElem?_eq_some_iff.mp e).1
  rw [List.length_take] at hj
  have gd : (ms.take n)[j]? = some (ms.getD j []) := by
    rw [List.getElem?_take_of_lt (by omega), List.getD_eq_getElem?_getD, List.getElem?_eq_getElem (by omega)]
    rfl
  rw [gd] at e
  rw [← Option.some.inj e]
  cases hb : wdB m (ms.getD j []) with
  | true => rfl
  | false =>
    have : j ∈ badI m ms (min n ms.length) := mem_badI.mpr ⟨by omega, hb⟩
    rw [h] at this
    cases this
theorem wIx_all {n m : Nat} {ms : List (List Nat)} (hl : ms.length = n) (h : ∀ l ∈ ms, wdB m l = true) : wIx n m ms = none := by
  rw [wIx_end fun j l' e => h l' (List.mem_of_mem_take (List.mem_of_getElem? e)), if_pos hl]
def dueV (bz : Addr) : Option Nat → List V
  | none => [.str "value", .ref bz]
  | some j => [.str "InvalidWords", .int j]
theorem TabAt.lst {K : PySem.W.Frag} {C : Addr} {G : Hp} {p q : Addr} {xs ys : List V} {ds : List Int} {lks : List (List Int)} {ls : List (List Nat)} (S : TabAt K C G p ds lks ls) (h : G q = some (.lst xs)) : TabAt K C (upd G q (.lst ys)) p ds lks ls := by
  obtain ⟨⟨dx, la, da, wa, lw, h1, h2, h3, h4, h5⟩, r1, r2, r3, r4, r5⟩ := S
  have t : Tups K G (upd G q (.lst ys)) := tups_lst h
  exact ⟨⟨dx, la, da, wa, lw, by rw [upd_ne (ne_of h1 h (by intro z; cases z))]; exact h1, t _ _ h2, t _ _ h3, HdsAt.mono t h4, t _ _ h5⟩, r1, r2, r3, r4, r5⟩
theorem dd_wds {K : PySem.W.Frag} {H : Hp} {a b : Addr} {ls : List (List Nat)} (ha : SqL K H a (ls.map txV)) (hb : SqL K H b (ls.map txV)) (hl : ls.length ≤ 1000) : DD K H 1 (.ref a) (.ref b) := by
  refine .inr ⟨a, b, _, _, rfl, rfl, .inr ⟨ha, hb⟩, rfl, by rw [List.length_map]; exact hl, fun i x y f1 f2 => ?_⟩
  rw [f1] at f2
  cases f2
  obtain ⟨z, _, rfl⟩ := map_get f1
  exact ⟨rfl, rfl⟩
theorem dd_scl {K : PySem.W.Frag} {H : Hp} {a b : Addr} {xs : List V} (ha : SqT K H a xs) (hb : SqT K H b xs) (hs : xs.all scal = true) (hl : xs.length ≤ 1000) : DD K H 4 (.ref a) (.ref b) := by
  refine .inr ⟨a, b, _, _, rfl, rfl, .inl ⟨ha, hb⟩, rfl, hl, fun i x y f1 f2 => ?_⟩
  rw [f1] at f2
  cases f2
  exact .inl ⟨List.all_eq_true.mp hs x (List.mem_of_getElem? f1), rfl⟩
theorem dd_val {K : PySem.W.Frag} {H : Hp} {a b : Addr} {u v : V} (ha : SqT K H a [.str "value", u]) (hb : SqT K H b [.str "value", v]) (h : DD K H 1 u v) : DD K H 4 (.ref a) (.ref b) := by
  refine .inr ⟨a, b, _, _, rfl, rfl, .inl ⟨ha, hb⟩, rfl, (by show 2 ≤ 1000; decide), fun i x y f1 f2 => ?_⟩
  match i with
  | 0 =>
    cases f1
    cases f2
    exact .inl ⟨rfl, rfl⟩
  | 1 =>
    cases f1
    cases f2
    exact h.up.up
  | i + 2 => cases f1
theorem dd_pair {K : PySem.W.Frag} {H : Hp} {a b : Addr} {u1 u2 v1 v2 : V} (ha : SqL K H a [u1, u2]) (hb : SqL K H b [v1, v2]) (h1 : DD K H 3 u1 v1) (h2 : DD K H 3 u2 v2) : DD K H 4 (.ref a) (.ref b) := by
  refine .inr ⟨a, b, _, _, rfl, rfl, .inr ⟨ha, hb⟩, rfl, (by show 2 ≤ 1000; decide), fun i x y f1 f2 => ?_⟩
  match i with
  | 0 =>
    cases f1
    cases f2
    exact h1
  | 1 =>
    cases f1
    cases f2
    exact h2
  | i + 2 => cases f1
theorem dd_tint {K : PySem.W.Frag} {H : Hp} {a b : Addr} {c : List Int} (ha : SqT K H a (c.map V.int)) (hb : SqT K H b (c.map V.int)) (hl : c.length ≤ 1000) : DD K H 1 (.ref a) (.ref b) := by
  refine .inr ⟨a, b, _, _, rfl, rfl, .inl ⟨ha, hb⟩, rfl, by rw [List.length_map]; exact hl, fun i x y f1 f2 => ?_⟩
  rw [f1] at f2
  cases f2
  obtain ⟨z, _, rfl⟩ := map_get f1
  exact ⟨rfl, rfl⟩
theorem dd_hds {K : PySem.W.Frag} {H : Hp} {a b : Addr} {l : List (List Int)} {ws us : List V} (ha : SqL K H a ws) (hb : SqL K H b us) (h1 : HdsAt K H l ws) (h2 : HdsAt K H l us) (hl : l.length ≤ 1000) (hc : ∀ c ∈ l, c.length ≤ 1000) : DD K H 2 (.ref a) (.ref b) := by
  refine .inr ⟨a, b, _, _, rfl, rfl, .inr ⟨ha, hb⟩, by rw [hds_len h1, hds_len h2], by rw [hds_len h1]; exact hl, fun i x y f1 f2 => ?_⟩
  obtain ⟨p, c, rfl, e1, g1⟩ := hds_at h1 f1
  obtain ⟨q, d, rfl, e2, g2⟩ := hds_at h2 f2
  rw [e1] at e2
  cases e2
  exact dd_tint g1 g2 (hc c (List.mem_of_getElem? e1))
theorem hds_app {K : PySem.W.Frag} {H : Hp} : ∀ {l m : List (List Int)} {ws us : List V}, HdsAt K H l ws → HdsAt K H m us → HdsAt K H (l ++ m) (ws ++ us)
  | [], m, _, us, h, g => by
    have h : _ = [] := h
    rw [h]
    exact g
  | x :: r, m, _, us, ⟨a0, wr, h1, h2, h3⟩, g => by
    rw [h1]
    exact ⟨a0, wr ++ us, rfl, h2, hds_app h3 g⟩
theorem hds_revK {K : PySem.W.Frag} {H : Hp} : ∀ {l : List (List Int)} {ws : List V}, HdsAt K H l ws → HdsAt K H l.reverse ws.reverse
  | [], _, h => by
    have h : _ = [] := h
    rw [h]
    exact rfl
  | x :: r, _, ⟨a0, wr, h1, h2, h3⟩ => by
    rw [h1, List.reverse_cons, List.reverse_cons]
    exact hds_app (hds_revK h3) ⟨a0, [], rfl, h2, rfl⟩
theorem looks_rev {d : Nat} {l : List (List Int)} (h : Looks d l) : Looks d l.reverse :=
  ⟨by rw [List.length_reverse]; exact h.l1, by rw [List.length_reverse]; exact h.l4, List.pairwise_reverse.mpr (h.nd.imp fun h => Ne.symm h), fun c hc => h.ok c (List.mem_reverse.mp hc)⟩
theorem rev_ne {l : List (List Int)} (nd : l.Nodup) (h : 1 < l.length) : l ≠ l.reverse := fun e => by
  have e0 : l[0]? = l.reverse[0]? := congrArg (·[0]?) e
  rw [List.getElem?_reverse (by omega)] at e0
  have := (List.getElem?_inj (by omega) nd).mp e0
  omega
/-- the other sign in front -/
def flp (c : Nat) : Nat := if c = 117 then 102 else 117
theorem flp_ne (c : Nat) : flp c ≠ c := by
  unfold flp
  split <;> omega
theorem wdB_flp {m c : Nat} {r : List Nat} (h : wdB m (c :: r) = true) : wdB m (flp c :: r) = true := by
  unfold wdB at h ⊢
  rw [Bool.and_eq_true] at h ⊢
  refine ⟨by simpa using h.1, ?_⟩
  have h2 := h.2
  rw [List.all_cons, Bool.and_eq_true] at h2 ⊢
  refine ⟨?_, h2.2⟩
  unfold flp
  split <;> rfl
theorem cutS_one (c : Nat) (r : List Nat) : cutS (SX.S (c :: r)) (some 1) none = SX.S r := by
  unfold cutS
  have e1 : HT.sIx (SX.S (c :: r)).length 0 (some 1) = 1 := by
    show HT.sIx (SX.S (c :: r)).length 0 (some ((1 : Nat) : Int)) = 1
    rw [HT.sIx_nat, SX.S_len, List.length_cons]
    omega
  rw [e1, HT.sIx_none, SX.S_len]
  show (⟨((c :: r).drop 1 |>.take ((c :: r).length - 1)).toArray⟩ : Str) = _
  rw [List.drop_one, List.tail_cons, List.length_cons, Nat.add_sub_cancel, List.take_length]
theorem cut_mid (x : List Nat) (r : List (List Nat)) (y : List Nat) : cutV ((x :: r ++ [y]).map txV) (some 1) (some (-1)) = r.map txV := by
  unfold cutV
  have el : ((x :: r ++ [y]).map txV).length = r.length + 2 := by simp
  have e1 : HT.sIx (r.length + 2) 0 (some 1) = 1 := by
    show HT.sIx _ 0 (some ((1 : Nat) : Int)) = 1
    rw [HT.sIx_nat]
    omega
  have e2 : HT.sIx (r.length + 2) (r.length + 2) (some (-1)) = r.length + 1 := by
    show (if (-1 : Int) < 0 then ((-1 : Int) + ((r.length + 2 : Nat) : Int)).toNat else min (-1 : Int).toNat (r.length + 2)) = _
    rw [if_pos (by decide)]
    omega
  rw [el, e1, e2]
  show ((r ++ [y]).map txV).take (r.length + 1 - 1) = _
  rw [Nat.add_sub_cancel, List.map_append]
  have := List.take_left (l₁ := List.map txV r) (l₂ := List.map txV [y])
  rwa [List.length_map] at this
/-- what stands behind the drawing -/
structure St18 (K : PySem.W.Frag) (T : List (Addr × Str)) (b l dz lz : Addr) (ds : List Int) (lks : List (List Int)) (lw : List V) (G : Hp) : Prop where
  bg : BagAt G b l
  tb : Tabs T G
  hd : SqT K G dz (ds.map V.int)
  nb : lz ≠ b
  hl : G lz = some (.lst lw)
  hw : HdsAt K G lks lw
section
variable {K : PySem.W.Frag} {T : List (Addr × Str)} {b l dz lz : Addr} {ds : List Int} {lks : List (List Int)} {lw : List V} {G G' : Hp}
theorem St18.same (S : St18 K T b l dz lz ds lks lw G) (e : Same G G') : St18 K T b l dz lz ds lks lw G' :=
  ⟨BagAt.same S.bg e, S.tb.ext e, Same.sqT e S.hd, S.nb, e _ _ S.hl, HdsAt.mono (Same.tups e) S.hw⟩
theorem St18.but (S : St18 K T b l dz lz ds lks lw G) (e : But b G G') (B : BagAt G' b l) : St18 K T b l dz lz ds lks lw G' :=
  ⟨B, Tabs.but S.tb S.bg e, e.sqT S.bg S.hd, S.nb, e _ _ S.nb S.hl, HdsAt.mono (But.tups S.bg e) S.hw⟩
theorem St18.extN (S : St18 K T b l dz lz ds lks lw G) (e : ExtN G G') (tb : Tabs T G') : St18 K T b l dz lz ds lks lw G' :=
  ⟨S.bg.extN e, tb, ExtN.tups e _ _ S.hd, S.nb, e _ _ S.hl (fun ps z => by cases z), HdsAt.mono (ExtN.tups e) S.hw⟩
theorem Tabs.lst {T : List (Addr × Str)} {H : Hp} {q : Addr} {xs : List V} {o : HO} (t : Tabs T H) (h : H q = some (.lst xs)) : Tabs T (upd H q o) := fun p hp => by
  obtain ⟨ps, h1, h2, h3⟩ := t p hp
  refine ⟨ps, by rw [upd_ne (ne_of h1 h (by intro z; cases z))]; exact h1, h2, fun pos cv hc => ?_⟩
  obtain ⟨c, e1, e2⟩ := h3 pos cv hc
  exact ⟨c, e1, by rw [upd_ne (ne_of e2 h (by intro z; unfold CodeO at z; cases z))]; exact e2⟩
theorem St18.lst {q : Addr} {xs ys : List V} (S : St18 K T b l dz lz ds lks lw G) (h : G q = some (.lst xs)) (n1 : q ≠ b) (n2 : q ≠ l) (n3 : q ≠ lz) : St18 K T b l dz lz ds lks lw (upd G q (.lst ys)) := by
  have t : Tups K G (upd G q (.lst ys)) := tups_lst h
  exact ⟨S.bg.upd n1 n2, Tabs.lst S.tb h, t _ _ S.hd, S.nb, by rw [upd_ne (Ne.symm n3)]; exact S.hl, HdsAt.mono t S.hw⟩
end
end Lk

namespace Lk
open PySem L2 Lx LamX LrA LqA
/-! ### Scan.__eq__ -/
mutual
theorem Tr.eqv_self : ∀ t : Tr, PyData.eqv t.toD t.toD = true
  | .pl => by simp [Tr.toD, PyData.eqv, PyData.eqvAll]
  | .key row hs t => by simp [Tr.toD, PyData.eqv, PyData.eqvAll, eqv_ints, Tr.eqv_self t]
  | .fork gs => by simp [Tr.toD, PyData.eqv, PyData.eqvAll, Gs.eqv_self gs]
theorem Gs.eqv_self : ∀ g : Gs, PyData.eqvAll g.toDs g.toDs = true
  | .nil => by simp [Gs.toDs, PyData.eqvAll]
  | .cons cs t r => by simp [Gs.toDs, PyData.eqv, PyData.eqvAll, eqv_ints, Tr.eqv_self t, Gs.eqv_self r]
end
def Alike (K : PySem.W.Frag) (C : Addr) : Addr → Addr → Hp → Prop := fun a b H => ∃ (ds : List Int) (n : Nat) (t : Tr), ScanAt K C H a ds n t ∧ ScanAt K C H b ds n t
theorem eq_trees {K : PySem.W.Frag} {H : Hp} {u v : V} {t : Tr} {Q : VK} (h : TrAt K H t u) (g : TrAt K H t v) (hd : t.dep ≤ 20) (q : Q (.bl true) H) : rEqD K u v H Q := by
  refine ⟨t.toD, t.toD, h.dp, g.dp, Tr.shaped hd, Tr.shaped hd, ?_⟩
  rw [Tr.eqv_self]
  exact q
section
variable {P : Program} {w : World} {K : PySem.W.Frag} {mg : Str → Option Value} {base : Heap}
end
end Lk

namespace Lk
open PySem L2 Lx LamX LrA LqA TsX
/-! ### a new instance by keywords alone -/
def tMakeK0 (C : Addr) (m : Nat) (sp : Sp) (gV : List V → List V → List V) (E : XK) (tk : TA) : TE := fun σ H Q => tk σ H fun zs H2 => zs.length = m ∧
  ∀ x dx, H2 x = none → H2 dx = none → dx ≠ x → sp (gV [.ref x] zs) (upd (upd H2 dx (.own x)) x (.ins C dx [])) (fun v H3 => v = .non ∧ Q (.ref x) H3) E
theorem pe_makeK0 {X : Cx} {CX : CXT} {k : Nat} {f C : Addr} {fd : FuncData} {ps ks : List Str} {sp : Sp} {E : XK} {x : Str} {p pos : Pos} {kws : List Keyword} {tk : TA} {g : List Value → List Value → List Value} {gV : List V → List V → List V}
    (M : Mk X.K C f) (F : FnOk X.prog X.w X.K X.mg X.base CX k f fd ps sp) (hr : Room (k + 1) X.A) (hg : Gl X x) (hm : X.mg x = some (.ref C)) (hb : KBn X.K fd ps 1 ks g gV) (hx : Passes CX X E) (hkw : PK X kws tk)
    (hall : (backToKw pos (keywordEach kws X.env)).all (·.1.isSome) = true := by rfl) (hks : (backToKw pos (keywordEach kws X.env)).filterMap (·.1) = ks := by rfl) (hdb : (x == ("__debug__" : Str)) = false := by decide)
    (hpl : ((backTo pos (starEach [] X.env)).any (·.1) || (backToKw pos (keywordEach kws X.env)).any (·.1.isNone)) = false := by rfl) : PE X (.Call (.Name x p) [] kws pos) (tMakeK0 C ks.length sp gV E tk) := by
  refine ⟨fun pins s σ H Q I h => ?_⟩
  refine wpAny_Call_Name_kw (ld_glob I hg hm ?_ hdb)
  refine PySem.W.callWith_KW0 (first := []) (h₀ := X.base) I.ok.mod.kin M.kp hall ?_ hpl
  refine thn (hkw.run pos pins s σ H _ I h) fun ws s2 ⟨zs, H2, I2, rz, l2, q2⟩ => ⟨I2.kIn, ?_⟩
  rw [hks]
  exact run_makeN (n := 0) M F hr hb hx I2 .nil rz rfl l2 q2
def tabK {α : Type} : List α → List α → List α
  | [s], [l, w, d] => [s, d, l, w]
  | _, _ => []
def rLenQ (K : PySem.W.Frag) : List V → Hp → VK → Prop := fun xs H Q => ∃ p ys, xs = [.ref p] ∧ (SqL K H p ys ∨ SqT K H p ys) ∧ Q (.int ys.length) H
def rLenS : List V → Hp → VK → Prop := fun xs H Q => ∃ z, xs = [.str z] ∧ z.length ≤ sizeLine ∧ Q (.int z.length) H
abbrev lN : List Str := ["_law_script", "_law_bag_here", "_law_turn", "_law_directions", "_law_divisors_z", "_law_looks_z", "_law_many", "_law_words_z", "_law_bent", "_law_given", "_law_wrong", "_law_due", "_law_table", "_law_other", "_law_otherwise", "_law_at", "_law_sign"]
abbrev lX (P : Program) (w : World) (K : PySem.W.Frag) (mg : Str → Option Value) (base : Heap) (f cda : Addr) (A : Around) (outer : List Env) (s : Shared) (H : Hp) (E : XK) : Cx := (cxOf CX0 P w K mg base lN "law" (defScope sLaw) f (.ref cda) A outer s H E).nox
abbrev TTk (Pt Pt2 : Addr) : List (Addr × Str) := [(Pt, lamQ), (Pt2, oQ)]
/-- the scope of the comprehension over the words -/
def scWr : Scope := { kind := .function, names := [(Str.ofString ".0", .local), (Str.ofString "_law_at", .local), (Str.ofString "len", .globalImplicit), (Str.ofString "all", .globalImplicit), (Str.ofString "_law_bent", .cell), (Str.ofString "_law_looks_z", .cell)], isGenerator := false, isCoroutine := false }
def spLaw2 (K : PySem.W.Frag) (Pt Pt2 : Addr) : Sp := fun vs H Q _ => ∃ (a : Addr) (ns : List Int), vs = [.ref a] ∧ SqL K H a (ns.map V.int) ∧ H Pt = some (.tbl #[]) ∧ H Pt2 = some (.tbl #[]) ∧ ∀ H', Q (.bl true) H'
section
variable {P : Program} {w : World} {K : PySem.W.Frag} {mg : Str → Option Value} {base : Heap}
theorem ok_law {f g fF CS C C1 C2 CL CW cda Pt Pt2 fB fP fD fLk fCt fLw fBt fSm fI fWd fTl fTe fOt : Addr} {fdB fdP fdD fdLk fdCt fdLw fdBt fdSm fdI fdWd fdTl fdTe fdOt : FuncData} {k : Nat}
    {oc kV doc pm ct : Value} {od an : Option Addr} {osl : Array (Option Value)} (lk : K.lookup f = some ⟨oc, od, .func (PySem.W.fnOf "law" "law" (defArgs sLaw) (defBody sLaw) (defScope sLaw) .none kV doc pm an (.ref cda) ct), osl⟩) (hcd : PySem.W.codeIn K (.ref cda) "law" = true) (TB : TabB base mg cda Pt) (hPt : Pt ≠ Pt2)
    (T : TTab K mg C) (mr : mg "range" = none) (ml : mg "len" = none) (mt : mg "tuple" = none) (mli : mg "list" = none) (mm : mg "min" = none) (ma : mg "all" = none)
    (GB : FnOk P w K mg base CX0 (k + 1) fB fdB ["_law_script"] (spBag K)) (kB : PySem.W.keepIn K (.ref fB) = true) (bB : Binds K fdB ["_law_script"] []) (gB : mg "_law_bag" = some (.ref fB))
    (GP : FnOk P w K mg base CX0 (k + 1) fP fdP ["_law_bag_here", "_law_amount"] spPull) (kP : PySem.W.keepIn K (.ref fP) = true) (bP : Binds K fdP ["_law_bag_here", "_law_amount"] []) (gP : mg "_law_pull" = some (.ref fP))
    (GD : FnOk P w K mg base CX0 (k + 3) fD fdD ["_law_bag_here", "_law_directions"] spDivisors) (kD : PySem.W.keepIn K (.ref fD) = true) (bD : Binds K fdD ["_law_bag_here", "_law_directions"] []) (gD : mg "_law_divisors" = some (.ref fD))
    (GLk : FnOk P w K mg base CX0 (k + 3) fLk fdLk ["_law_bag_here", "_law_directions"] (spLLooks K)) (kLk : PySem.W.keepIn K (.ref fLk) = true) (bLk : Binds K fdLk ["_law_bag_here", "_law_directions"] []) (gLk : mg "_law_looks" = some (.ref fLk))
    (GCt : FnOk P w K mg base CX0 (k + 1) fCt fdCt ["_law_divisors_z"] (spCount K)) (kCt : PySem.W.keepIn K (.ref fCt) = true) (bCt : Binds K fdCt ["_law_divisors_z"] []) (gCt : mg "_law_count" = some (.ref fCt))
    (GLw : FnOk P w K mg base CX0 (k + 2) fLw fdLw ["_law_bag_here", "_law_many", "_law_looks_z"] (spLWords K)) (kLw : PySem.W.keepIn K (.ref fLw) = true) (bLw : Binds K fdLw ["_law_bag_here", "_law_many", "_law_looks_z"] []) (gLw : mg "_law_words" = some (.ref fLw))
    (GBt : FnOk P w K mg base CX0 (k + 3) fBt fdBt ["_law_bag_here", "_law_words_z", "_law_many"] (spBent K)) (kBt : PySem.W.keepIn K (.ref fBt) = true) (bBt : Binds K fdBt ["_law_bag_here", "_law_words_z", "_law_many"] []) (gBt : mg "_law_bent_words" = some (.ref fBt))
    (GSm : FnOk P w K mg base CX0 (k + 1 + 4) fSm fdSm ["_law_found", "_law_due"] (spSame K 4)) (kSm : PySem.W.keepIn K (.ref fSm) = true) (bSm : Binds K fdSm ["_law_found", "_law_due"] []) (gSm : mg "_law_same" = some (.ref fSm))
    (GI : FnOk P w K mg base (L2.CX P w) (k + 6) fI fdI ["self", "divisors", "looks", "words"] (spTInit K C C1 C2 CL CW)) (bI : Binds K fdI ["self", "divisors", "looks", "words"] []) (kbI : KBn K fdI ["self", "divisors", "looks", "words"] 1 ["looks", "words", "divisors"] tabK tabK) (MI : Mk K C fI)
    (GWd : FnOk P w K mg base CX0 (k + 1) fWd fdWd ["self"] (spTWords K C)) (bWd : Binds K fdWd ["self"] []) (mWd : Meth K C "words" fWd)
    (GTl : FnOk P w K mg base CX0 (k + 1) fTl fdTl ["self"] (spTLooks K C)) (bTl : Binds K fdTl ["self"] []) (mTl : Meth K C "looks" fTl)
    (GTe : FnOk P w K mg base CX0 (k + 1) fTe fdTe ["self", "other"] (spTEq K C)) (bTe : Binds K fdTe ["self", "other"] []) (aEq : PySem.W.findIn K (.ref C) "__eq__" = some (some (.ref fTe))) (iEq : PySem.W.isFn K (.ref fTe) = true)
    (GOt : FnOk P w K mg base CX0 (k + 10) fOt fdOt ["_law_bag_here", "_law_divisors_z", "_law_looks_z"] (spOther K (TTk Pt Pt2))) (kOt : PySem.W.keepIn K (.ref fOt) = true) (bOt : Binds K fdOt ["_law_bag_here", "_law_divisors_z", "_law_looks_z"] []) (gOt : mg "_law_other_errors" = some (.ref fOt))
    (TR : TryT K mg g) (FT : FieldT K mg fF) (hSE : mg "ScanError" = some (.ref CS)) (hExW : PySem.W.exmOne K (.ref CW) (.ref CS) = some true) (RDW : RdC K CW) :
    FnOk P w K mg base CX0 (k + 12) f (PySem.W.fnOf "law" "law" (defArgs sLaw) (defBody sLaw) (defScope sLaw) .none kV doc pm an (.ref cda) ct) ["_law_script"] (spLaw2 K Pt Pt2) := by
  refine fn_of lk hcd scLaw (fun vs H Q E h => ?_) (fun A outer s H vs Q E hr h => ?_)
  · obtain ⟨a, ns, rfl, _⟩ := h
    rfl
  · obtain ⟨a0, ns, rfl, hS0, hTb, hTb2, q⟩ := h
    have hr1 : Room (k + 1) _ := hr.mono (by omega)
    have hr2 : Room (k + 2) _ := hr.mono (by omega)
    have hr3 : Room (k + 3) _ := hr.mono (by omega)
    have hrSm : Room (k + 1 + 4) _ := hr.mono (by omega)
    have hr7 : Room (k + 6 + 1) _ := hr.mono (by omega)
    have hr9 : Room (k + 7 + 2) _ := hr.mono (by omega)
    have hr10 : Room (k + 10) _ := hr.mono (by omega)
    have hrq : Room 2 _ := hr.mono (by omega)
    have GIc := FnOk.calm GI
    have inT : (Pt, lamQ) ∈ TTk Pt Pt2 := List.mem_cons_self
    have onT : ∀ p ∈ TTk Pt Pt2, p.1 = Pt → p.2 = lamQ := fun p hp e => by
      rcases List.mem_cons.mp hp with z | z
      · rw [z]
      · rw [List.mem_singleton.mp z] at e
        exact absurd e.symm hPt
    suffices hh : ∃ t, PSs (lX P w K mg base f cda A outer s H E) (defBody sLaw) t ∧ t { nx := fun _ H' => Q .non H', rt := Q } (start lN [.ref a0]) H by
      obtain ⟨t, h1, h2⟩ := hh
      exact ⟨t, h1.nox, h2⟩
    refine ⟨_, (pss_cons (ps_set (i := 1) scLaw.nd rfl (.inl rfl) (pe_call GB hr1 (by rfl) gB kB bB .nil pass0 (pa_cons (pv 0) pa_nil)))
      (pss_cons (ps_for PassesOwn.never rfl (pi_range1 (by rfl) mr (pa_cons pe_int pa_nil)) (pg_name (i := 2) scLaw.nd rfl (.inl rfl)) (pss_cons (ps_set (i := 3) scLaw.nd rfl (.inl rfl) (pe_op op_add pe_int (pe_call GP hr1 (by rfl) gP kP bP .nil pass0 (pa_cons (pv 1) (pa_cons pe_int pa_nil)))))
      (pss_cons (ps_asg (pe_tup (pa_cons (pe_call GD hr3 (by rfl) gD kD bD .nil pass0 (pa_cons (pv 1) (pa_cons (pv 3) pa_nil))) (pa_cons (pe_call GLk hr3 (by rfl) gLk kLk bLk .nil pass0 (pa_cons (pv 1) (pa_cons (pv 3) pa_nil))) pa_nil))) (pg_tup rfl (pgs_cons (pg_name (i := 4) scLaw.nd rfl (.inr rfl)) (pgs_cons (pg_name (i := 5) scLaw.nd rfl (.inr rfl)) pgs_nil))))
      (pss_cons (ps_set (i := 6) scLaw.nd rfl (.inl rfl) (pe_call GCt hr1 (by rfl) gCt kCt bCt .nil pass0 (pa_cons (pv 4) pa_nil)))
      (pss_cons (ps_set (i := 7) scLaw.nd rfl (.inl rfl) (pe_call GLw hr2 (by rfl) gLw kLw bLw .nil pass0 (pa_cons (pv 1) (pa_cons (pv 6) (pa_cons (pv 5) pa_nil)))))
      (pss_cons (ps_asg (pe_tup (pa_cons (pe_call GBt hr3 (by rfl) gBt kBt bBt .nil pass0 (pa_cons (pv 1) (pa_cons (pv 7) (pa_cons (pe_callB call_len_seq (by rfl) ml PySem.boot_len (pa_cons (pv 5) pa_nil)) pa_nil)))) (pa_cons (pe_callTy call_list_of (by rfl) mli (by decide +kernel) (pa_cons (pv 5) pa_nil)) pa_nil))) (pg_tup rfl (pgs_cons (pg_name (i := 8) scLaw.nd rfl (.inr rfl)) (pgs_cons (pg_name (i := 9) scLaw.nd rfl (.inr rfl)) pgs_nil))))
      (C8.pss_cut (ps_setLc (i := 10) (own := [("_law_at", 15)]) (g := gName 15) (by rfl) scLaw.nd rfl rfl (sw_true rfl rfl rfl (by decide +kernel)) (pi_range1 (by rfl) mr (pa_cons (pe_callB (call_min2 rfl) (by rfl) mm (by decide +kernel) (pa_cons (pv 6) (pa_cons (pe_callB call_len_seq (by rfl) ml PySem.boot_len (pa_cons (pv 8) pa_nil)) pa_nil))) pa_nil)) (blkOk_by (own := [("_law_at", 15)]) (N := lN) (sc := defScope sLaw) (by decide +kernel)) (fun _ _ _ _ _ => (pg_name (i := 15) scLaw.nd rfl (.inl rfl))) (fun _ _ _ _ _ => pts_one (PW.pt (pw_or (pt_cmpR op_ne (pe_callB call_len_str (by rfl) ml PySem.boot_len (pa_cons (pe_ix (show IxR _ (rIxL K) from ix_list) (pv 8) (pv 15) (fun _ _ => rfl)) pa_nil)) (pe_callB (show CallR _ _ (rLenQ K) from call_len_seq) (by rfl) ml PySem.boot_len (pa_cons (pv 5) pa_nil)) (nomark _)) (pw_or1 (pt_not (pt_val (pe_callB (show CallR _ _ (rAll K) from cr_all rfl) (by rfl) ma (by decide +kernel) (pa_cons (pe_lc (own := [("_law_sign", 16)]) (g := gName 16) (by rfl) scLaw.nd (pi_str (pe_ix (show IxR _ (rIxL K) from ix_list) (pv 8) (pv 15) (fun _ _ => rfl))) (blkOk_by (own := [("_law_sign", 16)]) (N := lN) (sc := scWr) (by decide +kernel)) (fun _ _ _ _ _ => (pg_name (i := 16) scLaw.nd rfl (.inl rfl))) (fun _ _ _ _ _ => pts_nil) (fun _ _ _ _ _ => (pe_cmpR (show OpR _ (compareOp .In) (rIn K false) from op_in_seq) (pv 16) (pe_lst (pa_cons pe_str (pa_cons pe_str pa_nil))) (by rfl)))) pa_nil)))))))) (fun _ _ _ _ _ => pv 15))
      (pss_cons (ps_set (i := 11) scLaw.nd rfl (.inl rfl) (pe_tup (pa_cons pe_str (pa_cons (pv 8) pa_nil))))
      (C8.pss_cut (ps_if (pt_cmpR (op_neD hr.units) (pv 10) (pe_lst pa_nil) (nomark _)) (pss_one (ps_set (i := 11) scLaw.nd rfl (.inl rfl) (pe_tup (pa_cons pe_str (pa_cons (pe_ix ix_list (pv 10) pe_int (fun _ _ => rfl)) pa_nil))))) (pss_one (ps_if (pt_cmpR op_ne (pe_callB call_len_seq (by rfl) ml PySem.boot_len (pa_cons (pv 8) pa_nil)) (pv 6) (nomark _)) (pss_one (ps_set (i := 11) scLaw.nd rfl (.inl rfl) (pe_tup (pa_cons pe_str (pa_cons (pe_callB (call_min2 rfl) (by rfl) mm (by decide +kernel) (pa_cons (pe_callB call_len_seq (by rfl) ml PySem.boot_len (pa_cons (pv 8) pa_nil)) (pa_cons (pv 6) pa_nil))) pa_nil))))) pss_nil)))
      (C8.pss_cut (ps_if (pt_not (pt_val (pe_call GSm hrSm (by rfl) gSm kSm bSm .nil pass0 (pa_cons (pe_triedT (T := TTk Pt Pt2) (k := k + 7) TR FT hSE (by rfl) TB rfl inT onT hr9 hrq (lamS_by (sc := defScope sLaw) (by decide +kernel)) rfl (fun _ _ _ _ _ => rfl)
          (t := fun E => tMeth C "words" (spTWords K C) [] (fun _ _ _ => False) (tMake C (spTInit K C C1 C2 CL CW) [] E (tCons (tVar 4) (tCons (tVar 9) (tCons (tVar 8) tNil)))) tNil)
          (fun A outer s H E f c' hr' => pe_meth0 (pe_make MI GI hr' (by rfl) T.mgC bI .nil (passes_call (E := E) (takes_of rfl rfl rfl rfl) (fun _ _ _ _ h => h)) (pa_cons (pv 4) (pa_cons (pv 9) (pa_cons (pv 8) pa_nil)))) T.cl mWd GWd (hr'.mono (by omega)) bWd .nil pass0)) (pa_cons (pv 11) pa_nil))))) (pss_one (ps_ret pe_bl)) pss_nil)
      (pss_cons (ps_set (i := 12) scLaw.nd rfl (.inl rfl) (pe_makeK0 MI GIc hr7 (by rfl) T.mgC kbI pass0 (pk_cons (pv 9) (pk_cons (pv 7) (pk_cons (pv 4) pk_nil)))))
      (pss_cons (ps_set (i := 13) scLaw.nd rfl (.inl rfl) (pe_make MI GIc hr7 (by rfl) T.mgC bI .nil pass0 (pa_cons (pv 4) (pa_cons (pe_callTy call_tuple_of (by rfl) mt (by decide +kernel) (pa_cons (pv 5) pa_nil)) (pa_cons (pe_callTy call_tuple_of (by rfl) mt (by decide +kernel) (pa_cons (pv 7) pa_nil)) pa_nil)))))
      (C8.pss_cut (ps_expr (pe_bm PySem.F.plainAttrs_list PySem.F.slot_list_append PySem.F.type_list_append mt_append (pv 7) (pa_cons pe_str pa_nil)))
      (pss_cons (ps_expr (pe_bm0 PySem.F.plainAttrs_list PySem.F.slot_list_clear PySem.F.type_list_clear mt_clear (pv 9)))
      (pss_cons (ps_if (PW.pt (pw_or (pt_not (pt_cmpR (op_eqI GTe hr1 aEq iEq bTe pass0) (pv 12) (pv 13) (nomark _))) (pw_or1 (pt_not (pt_val (pe_call GSm hrSm (by rfl) gSm kSm bSm .nil pass0 (pa_cons (pe_lst (pa_cons (pe_meth0 (pv 12) T.cl mWd GWd hr1 bWd .nil pass0) (pa_cons (pe_meth0 (pv 12) T.cl mTl GTl hr1 bTl .nil pass0) pa_nil))) (pa_cons (pe_lst (pa_cons (pe_slice sl_list (pv 7) po_none (po_some (pe_un un_neg pe_int))) (pa_cons (pv 5) pa_nil))) pa_nil)))))))) (pss_one (ps_ret pe_bl)) pss_nil)
      (C8.pss_cut (ps_set (i := 14) scLaw.nd rfl (.inl rfl) (pe_op op_cat (pe_lst (pa_cons (pe_op op_add_str (pe_ifExp (pt_cmpR op_eq (pe_ix ix_str (pe_ix ix_list (pv 7) pe_int (fun _ _ => rfl)) pe_int (fun _ _ => rfl)) pe_str (nomark _)) pe_str pe_str) (pe_slice sl_str (pe_ix ix_list (pv 7) pe_int (fun _ _ => rfl)) (po_some pe_int) po_none)) pa_nil)) (pe_slice sl_list (pv 7) (po_some pe_int) (po_some (pe_un un_neg pe_int)))))
      (C8.pss_cut (ps_if (PW.pt (pw_or (pt_cmpR (op_eqI GTe hr1 aEq iEq bTe pass0) (pv 12) (pe_make MI GIc hr7 (by rfl) T.mgC bI .nil pass0 (pa_cons (pv 4) (pa_cons (pv 5) (pa_cons (pv 14) pa_nil)))) (nomark _)) (pw_or1 (PW.pt (pw_and (pt_cmpR op_gt (pe_callB call_len_seq (by rfl) ml PySem.boot_len (pa_cons (pv 5) pa_nil)) pe_int (nomark _)) (pw_and (pt_cmpR (op_eqI GTe hr1 aEq iEq bTe pass0) (pv 12) (pe_make MI GIc hr7 (by rfl) T.mgC bI .nil pass0 (pa_cons (pv 4) (pa_cons (pe_revL (pv 5)) (pa_cons (pe_slice sl_list (pv 7) po_none (po_some (pe_un un_neg pe_int))) pa_nil)))) (nomark _)) (pw_and1 (pt_cmpR (op_neD hr.units) (pv 5) (pe_revL (pv 5)) (nomark _))))))))) (pss_one (ps_ret pe_bl)) pss_nil)
      (pss_one (ps_if (pt_not (pt_val (pe_call GOt hr10 (by rfl) gOt kOt bOt .nil pass0 (pa_cons (pv 1) (pa_cons (pv 4) (pa_cons (pv 5) pa_nil)))))) (pss_one (ps_ret pe_bl)) pss_nil)))))))))))))))))))
      (pss_one (ps_ret pe_bl)))), ?_⟩
    have caughtW : ∀ (j : Nat) (G0 G : Hp) (p : Addr) (Q' : VK), G0 p = none → Same G0 G → (∀ (G' : Hp) (T' : Addr), Same G0 G' → G' T' = none → Q' (.ref T') (upd G' T' (.tup [.str "InvalidWords", .int j]))) → IwP CW p j G (Caught K CS Q') := fun j G0 G p Q' hp0 s0 hq d' G' up hd' => by
      refine ⟨hExW, CW, d', _, "InvalidWords", .int j, rfl, rfl, RDW, hd', rfl, ?_, fun G2 T2 up2 nT2 => hq G2 T2 (fun b u e => up2 b u (up b u (s0 b u e) (ne_of_none e hp0))) nT2⟩
      unfold FieldIs
      rw [if_neg (by decide +kernel), if_neg (by decide +kernel), if_pos (by decide +kernel)]
      rfl
    refine ⟨_, rfl, a0, ns, rfl, hS0, fun H1 b l s1 nb nl B => ?_⟩
    have tb0 : Tabs (TTk Pt Pt2) H := fun p hp => by
      rcases List.mem_cons.mp hp with z | z
      · rw [z]
        exact TabS.nil hTb
      · rw [List.mem_singleton.mp z]
        exact TabS.nil hTb2
    refine ⟨6, rfl, by decide, by decide, for_range (lo := 0) (n := (6 : Int).toNat) (fun i σ H2 => ∃ (v2 v3 v4 v5 v6 v7 v8 v9 v10 v11 v12 v13 v14 : Option V), σ = [some (.ref a0), some (.ref b), v2, v3, v4, v5, v6, v7, v8, v9, v10, v11, v12, v13, v14, none, none] ∧ BagAt H2 b l ∧ Tabs (TTk Pt Pt2) H2)
      ⟨none, none, none, none, none, none, none, none, none, none, none, none, none, rfl, B, tb0.ext s1⟩ ?_ ?_⟩
    rotate_left
    · rintro σ G _
      exact q G
    rintro i σ G hi ⟨v2, v3, v4, v5, v6, v7, v8, v9, v10, v11, v12, v13, v14, rfl, B2, tb2⟩
    refine ⟨_, rfl, b, l, 3, rfl, B2, by decide, by decide, fun g0 G1 h0 h1 B3 bt3 => ⟨_, _, rfl, rfl, ?_⟩⟩
    have tb3 := Tabs.but tb2 B2 bt3
    obtain ⟨d, hd⟩ : ∃ d : Nat, 1 + g0 = (d : Int) := ⟨(1 + g0).toNat, by omega⟩
    have hv : (fun (i j : Int) => V.int (i + j)) 1 g0 = V.int (d : Int) := congrArg V.int hd
    rw [hv]
    clear tb2
    refine ⟨_, rfl, _, rfl, b, l, (d : Int), rfl, B3, by omega, by omega, fun ds G4 dz hl4 D ndz hdz B4 bt4 => ?_⟩
    have tb4 := Tabs.but tb3 B3 bt4
    refine ⟨_, rfl, _, rfl, b, l, d, rfl, B4, by omega, by omega, fun lks G5 lz lw LK nlz hlz hW B5 bt5 => ?_⟩
    have tb5 := Tabs.but tb4 B4 bt5
    obtain rfl : d = ds.length := by omega
    have S5 : St18 K (TTk Pt Pt2) b l dz lz ds lks lw G5 := ⟨B5, tb5, bt5.sqT B4 (SqT.of hdz), B4.nb nlz, hlz, hW⟩
    have nlb := S5.nb
    refine ⟨(by show 2 ≤ sizeLine; decide), fun T0 nT0 => ⟨T0, _, rfl, SqT.of upd_same, rfl, _, _, rfl, _, _, rfl, rfl, ?_⟩⟩
    have S6 := S5.same (same_new (o := .tup [.ref dz, .ref lz]) nT0)
    generalize upd G5 T0 (.tup [.ref dz, .ref lz]) = G6 at S6
    clear S5 tb3 tb4 tb5 hlz hW B3 B4 B5 bt3 bt4 bt5 hdz ndz nlz hl4 nT0
    have l1 : 1 ≤ ds.length := by omega
    have l3 : ds.length ≤ 3 := by omega
    -- how many
    refine ⟨_, rfl, dz, ds, rfl, S6.hd, D, ?_⟩
    have pp := prodL_pos D.one
    have pm := D.most
    obtain ⟨n, en⟩ : ∃ n : Nat, prodL ds = (n : Int) := ⟨(prodL ds).toNat, by omega⟩
    have ent : (prodL ds).toNat = n := by omega
    rw [en]
    have llw : lw.length = lks.length := hds_len S6.hw
    have k1 := LK.l1
    have k4 := LK.l4
    -- words
    refine ⟨_, rfl, _, rfl, _, rfl, b, l, lz, n, lw, rfl, S6.bg, by omega, SqL.of S6.hl, nlb, by omega, fun bss G7 wz lb hb nwz hwz B7 bt7 => ?_⟩
    have S7 := S6.but bt7 B7
    have nwb := S6.bg.nb nwz
    have nwL := S6.bg.nl nwz
    have nwl : wz ≠ lz := (ne_of_none S6.hl nwz).symm
    obtain ⟨W, eW⟩ : ∃ W, W = bss.map fuL := ⟨_, rfl⟩
    have lW : W.length = n := by rw [eW, List.length_map, lb]
    have okW : ∀ x ∈ W, wdB lks.length x = true := fun x hx => by
      rw [eW] at hx
      obtain ⟨bs, hbs, rfl⟩ := List.mem_map.mp hx
      rw [← llw, ← hb bs hbs]
      exact wdB_fu bs
    have wokW : WOk W := fun x hx => by
      have := okW x hx
      unfold wdB at this
      rw [Bool.and_eq_true] at this
      refine ⟨by have := of_decide_eq_true this.1; omega, fun c hc => ?_⟩
      have := List.all_eq_true.mp this.2 c hc
      simp at this
      omega
    rw [← eW] at hwz
    clear hb lb eW
    -- bent words
    refine ⟨_, rfl, _, rfl, _, rfl, lz, _, rfl, .inl (SqL.of S7.hl), b, l, wz, lks.length, W, by rw [llw]; rfl, B7, SqL.of hwz, by omega, wokW, by omega, fun ms G8 bz lm wm nbz hbz B8 bt8 => ?_⟩
    have S8 := S7.but bt8 B8
    have hwz8 := bt8 _ _ nwb hwz
    refine ⟨_, rfl, lz, _, rfl, .inl (SqL.of S8.hl), fun gz ngz => ?_⟩
    have sg : Same G8 (upd G8 gz (.lst lw)) := same_new ngz
    refine ⟨(by show 2 ≤ sizeLine; decide), fun T1 nT1 => ⟨T1, _, rfl, SqT.of upd_same, rfl, _, _, rfl, _, _, rfl, rfl, ?_⟩⟩
    have sT : Same (upd G8 gz (.lst lw)) (upd (upd G8 gz (.lst lw)) T1 (.tup [.ref bz, .ref gz])) := same_new nT1
    have S9 := S8.same (sg.trans sT)
    have hwz9 := (sg.trans sT) _ _ hwz8
    have hbz9 := (sg.trans sT) _ _ hbz
    have hgz9 := sT _ _ (upd_same (H := G8) (a := gz) (o := .lst lw))
    have ngB := S8.bg.nb ngz
    have ngL := S8.bg.nl ngz
    have ngl : gz ≠ lz := (ne_of_none S8.hl ngz).symm
    have ngw : gz ≠ wz := (ne_of_none hwz8 ngz).symm
    have ngb : bz ≠ wz := (ne_of_none hwz nbz).symm
    generalize upd (upd G8 gz (.lst lw)) T1 (.tup [.ref bz, .ref gz]) = G9 at S9 hwz9 hbz9 hgz9
    clear S6 S7 S8 B7 B8 bt7 bt8 hwz8 hbz hwz sg sT nT1 ngz nbz nwz
    -- which are wrong
    refine ⟨fun σ' G => ∃ (v2 v11 v12 v13 v14 : Option V) (rz : Addr), σ' = [some (.ref a0), some (.ref b), v2, some (.int ds.length), some (.ref dz), some (.ref lz), some (.int n), some (.ref wz), some (.ref bz), some (.ref gz), some (.ref rz), v11, v12, v13, v14, none, none] ∧ St18 K (TTk Pt Pt2) b l dz lz ds lks lw G ∧ G wz = some (.lst (W.map txV)) ∧ G bz = some (.lst (ms.map txV)) ∧ G gz = some (.lst lw) ∧ G rz = some (.lst (((badI lks.length ms (min n ms.length)).map Int.ofNat).map V.int)), ?_, ?_⟩
    · have lmt : (ms.map txV).length = ms.length := List.length_map ..
      have eM : (if ((ms.map txV).length : Int) < (n : Int) then ((ms.map txV).length : Int) else (n : Int)) = ((min n ms.length : Nat) : Int) := by
        rw [lmt]
        split <;> omega
      refine ⟨_, rfl, _, rfl, bz, _, rfl, .inl (SqL.of hbz9), _, _, rfl, ?_⟩
      rw [eM]
      refine ⟨_, rfl, by omega, by omega, fun R nR => ?_⟩
      refine lc_range (lo := 0) (n := min n ms.length) (fun j G2 => Same G9 G2 ∧ G2 R = some (.lst (((badI lks.length ms j).map Int.ofNat).map V.int))) ⟨same_new nR, upd_same⟩ ?_ ?_
      · rintro j G2 hj ⟨sm, hR⟩
        have hjm : j < ms.length := by omega
        have gx : (ms.map txV)[j]? = some (txV (ms.getD j [])) := by
          rw [List.getElem?_map, List.getElem?_eq_getElem hjm, List.getD_eq_getElem?_getD, List.getElem?_eq_getElem hjm]
          rfl
        have lx : (ms.getD j []).length ≤ 40 := by
          rw [List.getD_eq_getElem?_getD, List.getElem?_eq_getElem hjm]
          exact (wm _ (List.getElem_mem hjm)).1
        obtain ⟨x, ex⟩ : ∃ x, x = ms.getD j [] := ⟨_, rfl⟩
        rw [← ex] at gx lx
        have bs := badI_succ lks.length ms j
        rw [← ex] at bs
        have ej : (0 : Int) + (j : Int) = (j : Int) := by omega
        have yes : wdB lks.length x = false → ∀ G3, Same G2 G3 → ∃ acc, G3 R = some (.lst acc) ∧ acc.length < sizeLine ∧ Same G9 (upd G3 R (.lst (acc ++ [V.int (0 + (j : Int))]))) ∧ upd G3 R (.lst (acc ++ [V.int (0 + (j : Int))])) R = some (.lst (((badI lks.length ms (j + 1)).map Int.ofNat).map V.int)) := fun hb G3 s3 => by
          refine ⟨_, s3 _ _ hR, ?_, ?_, ?_⟩
          · rw [List.length_map, List.length_map]
            have : (badI lks.length ms j).length ≤ j := by
              unfold badI
              exact Nat.le_trans (List.length_filter_le _ _) (by rw [List.length_range]; exact Nat.le_refl _)
            exact small1000 (by omega)
          · intro a o e
            rw [upd_ne (ne_of_none e nR)]
            exact s3 _ _ (sm a o e)
          · rw [upd_same, bs, hb, ej]
            simp
        have nay : wdB lks.length x = true → ∀ G3, Same G2 G3 → Same G9 G3 ∧ G3 R = some (.lst (((badI lks.length ms (j + 1)).map Int.ofNat).map V.int)) := fun hb G3 s3 => by
          refine ⟨sm.trans s3, ?_⟩
          rw [s3 _ _ hR, bs, hb, if_pos rfl, List.append_nil]
        refine ⟨rfl, _, rfl, _, rfl, bz, _, _, _, rfl, rfl, SqL.of (sm _ _ hbz9), at_of ej gx, ?_⟩
        have hl2 := sm _ _ S9.hl
        refine ⟨_, rfl, (by rw [SX.S_len]; exact Nat.le_trans lx (by decide)), _, rfl, lz, _, rfl, .inl (SqL.of hl2), rfl, ?_⟩
        rw [SX.S_len]
        by_cases hxl : x.length = lw.length
        · refine ⟨false, congrArg V.bl (by rw [hxl]; simp), iteF ?_⟩
          refine ⟨_, rfl, _, rfl, bz, _, _, _, rfl, rfl, SqL.of (sm _ _ hbz9), at_of ej gx, _, rfl, fun D2 nD2 => ?_⟩
          refine lc_it (walk_str (z := SX.S x)) (fun i G3 => Same G2 G3 ∧ G3 D2 = some (.lst (((x.take i).map fun c => c == 102 || c == 117).map V.bl))) ⟨same_new nD2, upd_same⟩ (fun i G3 _ _ => trivial) ?_ ?_
          · rintro i2 y G3 _ hi2 ⟨s3, hD2⟩ ⟨rfl, c, hc, rfl⟩
            have hc := S_get hc
            refine ⟨rfl, _, rfl, (by show 2 ≤ sizeLine; decide), fun tp ntp => ⟨tp, _, rfl, .inl (SqL.of upd_same), rfl, rfl, ?_⟩⟩
            rw [show (if false = true then !inV (V.str ⟨#[c]⟩) [V.str "f", V.str "u"] else inV (V.str ⟨#[c]⟩) [V.str "f", V.str "u"]) = (c == 102 || c == 117) from fu_in c]
            have nDt : tp ≠ D2 := fun z => by
              rw [z, hD2] at ntp
              cases ntp
            refine ⟨_, (upd_ne (Ne.symm nDt)).trans hD2, ?_, ?_, ?_⟩
            · rw [List.length_map, List.length_map]
              exact small1000 (Nat.le_trans (List.length_take_le _ _) (by
                have := (List.getElem?_eq_some_iff.mp hc).1
                omega))
            · intro b o e
              rw [upd_ne (ne_of_none e nD2)]
              exact (same_new ntp) b o (s3 b o e)
            · rw [upd_same, take_more hc, List.map_append, List.map_append]
              rfl
          · rintro G3 ⟨s3, hD2⟩
            have hD2 : G3 D2 = some (.lst (((x.take x.length).map fun c => c == 102 || c == 117).map V.bl)) := hD2
            rw [List.take_length] at hD2
            refine ⟨D2, _, rfl, SqL.of hD2, ?_⟩
            have eb : (x.map fun c => c == 102 || c == 117).all id = wdB lks.length x := by
              unfold wdB
              rw [decide_eq_true (hxl.trans llw), List.all_map]
              rfl
            rw [eb]
            cases hb : wdB lks.length x with
            | true => exact ⟨true, rfl, iteF (nay hb G3 s3)⟩
            | false => exact ⟨false, rfl, iteT ⟨_, rfl, yes hb G3 s3⟩⟩
        · have hb : wdB lks.length x = false := by
            unfold wdB
            rw [decide_eq_false (by rw [← llw]; exact hxl)]
            rfl
          refine ⟨true, congrArg V.bl ?_, iteT ⟨_, rfl, yes hb G2 (Same.refl _)⟩⟩
          have : ¬ (V.int (x.length : Int) = V.int (lw.length : Int)) := fun z => hxl (by have := V.int.inj z; omega)
          show (!decide (V.int (x.length : Int) = V.int (lw.length : Int))) = true
          rw [decide_eq_false this]
          rfl
      · rintro G2 ⟨sm, hR⟩
        exact ⟨_, v11, v12, v13, v14, R, rfl, S9.same sm, sm _ _ hwz9, sm _ _ hbz9, sm _ _ hgz9, hR⟩
    clear S9 hwz9 hbz9 hgz9
    rintro σ' G9 ⟨w2, w11, w12, w13, w14, rz, rfl, S9, hwz9, hbz9, hgz9, hrz9⟩
    -- what is due
    refine ⟨_, rfl, (by show 2 ≤ sizeLine; decide), fun T2 nT2 => ?_⟩
    have sT := same_new (o := .tup [.str "value", .ref bz]) nT2
    have SA := S9.same sT
    have hwzA := sT _ _ hwz9
    have hbzA := sT _ _ hbz9
    have hgzA := sT _ _ hgz9
    have hrzA := sT _ _ hrz9
    have hT2 : SqT K (upd G9 T2 (.tup [.str "value", .ref bz])) T2 [.str "value", .ref bz] := SqT.of upd_same
    generalize upd G9 T2 (.tup [.str "value", .ref bz]) = GA at SA hwzA hbzA hgzA hrzA hT2
    clear S9 hwz9 hbz9 hgz9 hrz9 sT nT2
    obtain ⟨du0, edu⟩ : ∃ o, o = wIx n lks.length ms := ⟨_, rfl⟩
    refine ⟨fun σ' G => ∃ (v2 v10 v12 v13 v14 : Option V) (du : Addr), σ' = [some (.ref a0), some (.ref b), v2, some (.int ds.length), some (.ref dz), some (.ref lz), some (.int n), some (.ref wz), some (.ref bz), some (.ref gz), v10, some (.ref du), v12, v13, v14, none, none] ∧ St18 K (TTk Pt Pt2) b l dz lz ds lks lw G ∧ G wz = some (.lst (W.map txV)) ∧ G bz = some (.lst (ms.map txV)) ∧ G gz = some (.lst lw) ∧ SqT K G du (dueV bz du0), ?_, ?_⟩
    · refine ⟨_, rfl, Nat.zero_le _, fun em nem => ?_⟩
      have sE := same_new (o := .lst []) nem
      obtain ⟨bi, ebi⟩ : ∃ bi, bi = badI lks.length ms (min n ms.length) := ⟨_, rfl⟩
      rw [← ebi] at hrzA
      refine ⟨.list ((bi.map Int.ofNat).map .int), .list [], .lst (SqL.of (sE _ _ hrzA)) (dp_ints _), .lst (SqL.of upd_same) .nil, shp_intsL _, shp_nil, _, rfl, ?_⟩
      rw [ints_nil]
      have SB := SA.same sE
      have hwzB := sE _ _ hwzA
      have hbzB := sE _ _ hbzA
      have hgzB := sE _ _ hgzA
      have hrzB := sE _ _ hrzA
      have hT2B := Same.sqT sE hT2
      cases bi with
      | cons i0 r =>
        have ew := wIx_badI ebi.symm
        refine itTb (by simp) ?_
        refine ⟨_, rfl, rz, _, _, _, rfl, rfl, SqL.of hrzB, atI_nat (j := 0) rfl, (by show 2 ≤ sizeLine; decide), fun T3 nT3 => ?_⟩
        have s3 := same_new (o := .tup [.str "InvalidWords", .int (Int.ofNat i0)]) nT3
        refine ⟨w2, _, w12, w13, w14, T3, rfl, SB.same s3, s3 _ _ hwzB, s3 _ _ hbzB, s3 _ _ hgzB, ?_⟩
        rw [edu, ew]
        exact SqT.of upd_same
      | nil =>
        have ew := wIx_good ebi.symm
        refine itFb (by simp) ?_
        have lmt : (ms.map txV).length = ms.length := List.length_map ..
        refine ⟨_, rfl, bz, _, rfl, .inl (SqL.of hbzB), _, rfl, rfl, ?_⟩
        rw [lmt]
        by_cases hl : ms.length = n
        · refine ⟨false, congrArg V.bl (by rw [hl]; simp), iteF ⟨w2, _, w12, w13, w14, T2, rfl, SB, hwzB, hbzB, hgzB, ?_⟩⟩
          rw [edu, ew, if_pos hl]
          exact hT2B
        · refine ⟨true, congrArg V.bl ?_, iteT ?_⟩
          · have : ¬ (V.int (ms.length : Int) = V.int (n : Int)) := fun z => hl (by have := V.int.inj z; omega)
            show (!decide (V.int (ms.length : Int) = V.int (n : Int))) = true
            rw [decide_eq_false this]
            rfl
          · refine ⟨_, rfl, bz, _, rfl, .inl (SqL.of hbzB), _, rfl, _, _, rfl, (by show 2 ≤ sizeLine; decide), fun T3 nT3 => ?_⟩
            have em : (if (n : Int) < ((ms.map txV).length : Int) then (n : Int) else ((ms.map txV).length : Int)) = ((min ms.length n : Nat) : Int) := by
              rw [lmt]
              split <;> omega
            have s3 := same_new (o := .tup [.str "InvalidWords", .int (if (n : Int) < ((ms.map txV).length : Int) then (n : Int) else ((ms.map txV).length : Int))]) nT3
            refine ⟨w2, _, w12, w13, w14, T3, rfl, SB.same s3, s3 _ _ hwzB, s3 _ _ hbzB, s3 _ _ hgzB, ?_⟩
            rw [edu, ew, if_neg hl]
            refine SqT.of ?_
            rw [upd_same, em]
            rfl
    clear SA hwzA hbzA hgzA hrzA hT2
    rintro σ' G9 ⟨w2, w10, w12, w13, w14, du, rfl, S9, hwz9, hbz9, hgz9, hdu9⟩
    -- the table of bent words
    refine ⟨fun σ' G => ∃ (v2 v10 v12 v13 v14 : Option V), σ' = [some (.ref a0), some (.ref b), v2, some (.int ds.length), some (.ref dz), some (.ref lz), some (.int n), some (.ref wz), some (.ref bz), some (.ref gz), v10, some (.ref du), v12, v13, v14, none, none] ∧ St18 K (TTk Pt Pt2) b l dz lz ds lks lw G ∧ G wz = some (.lst (W.map txV)) ∧ G gz = some (.lst lw), ?_, ?_⟩
    · refine ⟨S9.tb, fun G1 xG1 tb6 => ?_⟩
      have SM := S9.extN xG1 tb6
      have hwzM := xG1 _ _ hwz9 (fun ps z => by cases z)
      have hbzM := xG1 _ _ hbz9 (fun ps z => by cases z)
      have hgzM := xG1 _ _ hgz9 (fun ps z => by cases z)
      have hduM := ExtN.tups xG1 _ _ hdu9
      refine ⟨_, rfl, _, rfl, _, rfl, fun x dx nx ndx nex => ?_⟩
      have w4 := made_same (C := C) nx ndx
      have SX_ := SM.same w4
      refine ⟨x, dx, gz, bz, .ref dz, rfl, upd_same, .inr ⟨dz, ds, lw, [], lks, rfl, SX_.hd, l1, l3, D, .inl (SqL.of (by rw [List.append_nil]; exact w4 _ _ hgzM)), SX_.hw, by omega, LK.nd, LK.ok, .inr ⟨rfl, k1, k4, ms, .inl (SqL.of (w4 _ _ hbzM)), by omega, fun l hl => (wm l hl).1, ?_, ?_⟩⟩⟩
      · intro j ej
        rw [ent, ← edu] at ej
        refine caughtW j G1 _ x _ nx w4 fun G2 T3 s2 nT3 => ?_
        have s3 := s2.trans (same_new (o := .tup [.str "InvalidWords", .int j]) nT3)
        have hdu3 := Same.sqT s3 hduM
        rw [ej] at hdu3
        refine ⟨_, rfl, .ref T3, .ref du, rfl, dd_scl (xs := [.str "InvalidWords", .int j]) (SqT.of upd_same) hdu3 rfl (by show 2 ≤ 1000; decide), fun G4 s4 => ⟨true, rfl, iteF ?_⟩⟩
        have s5 := s3.trans s4
        exact ⟨w2, w10, w12, w13, w14, rfl, SM.same s5, s5 _ _ hwzM, s5 _ _ hgzM⟩
      · intro e G2 TA k6
        rw [ent, ← edu] at e
        have y6 : Same G1 G2 := L2.Same.made nx ndx k6
        obtain ⟨⟨dx6, la6, da6, wa6, lw6, g1, _⟩, _⟩ := id TA
        refine ⟨rfl, x, dx6, _, rfl, g1, tf_no _ _ _ _ (by decide +kernel), x, ds, lks, ms, rfl, TA, fun L1 n1 => ⟨(by show 2 ≤ sizeLine; decide), fun T3 nT3 => ?_⟩⟩
        have u1 := same_new (o := .lst (ms.map txV)) n1
        have u2 := same_new (o := .tup [.str "value", .ref L1]) nT3
        have s3 := y6.trans (u1.trans u2)
        have hdu3 := Same.sqT s3 hduM
        rw [e] at hdu3
        have dd1 := dd_wds (K := K) (SqL.of (u2 _ _ (upd_same (H := G2) (a := L1) (o := .lst (ms.map txV))))) (SqL.of (s3 _ _ hbzM)) (by omega)
        refine ⟨_, rfl, .ref T3, .ref du, rfl, dd_val (SqT.of upd_same) hdu3 dd1, fun G4 s4 => ⟨true, rfl, iteF ?_⟩⟩
        have s5 := s3.trans s4
        exact ⟨w2, w10, w12, w13, w14, rfl, SM.same s5, s5 _ _ hwzM, s5 _ _ hgzM⟩
    clear S9 hwz9 hbz9 hgz9 hdu9
    rintro σ' G9 ⟨w2, w10, w12, w13, w14, rfl, S9, hwz9, hgz9⟩
    have wn : wIx (prodL ds).toNat lks.length W = none := by
      rw [ent]
      exact wIx_all lW okW
    -- the table, by keywords
    refine ⟨_, rfl, _, rfl, _, rfl, rfl, fun x dx nx ndx nex => ?_⟩
    have w4 := made_same (C := C) nx ndx
    have SB := S9.same w4
    refine ⟨x, dx, gz, wz, .ref dz, rfl, upd_same, .inr ⟨dz, ds, lw, [], lks, rfl, SB.hd, l1, l3, D, .inl (SqL.of (by rw [List.append_nil]; exact w4 _ _ hgz9)), SB.hw, by omega, LK.nd, LK.ok, .inr ⟨rfl, k1, k4, W, .inl (SqL.of (w4 _ _ hwz9)), by omega, fun l hl => (wokW l hl).1, fun j ej => (by rw [wn] at ej; cases ej), fun _ GB TX k6 => ⟨rfl, ?_⟩⟩⟩⟩
    have y6 : Same G9 GB := L2.Same.made nx ndx k6
    have SC := S9.same y6
    have hwzC := y6 _ _ hwz9
    have hgzC := y6 _ _ hgz9
    clear w4 SB S9 hwz9 hgz9 k6
    -- the other table
    refine ⟨_, rfl, _, rfl, lz, _, rfl, .inl ⟨SqL.of SC.hl, fun t1 n1 => ?_⟩⟩
    have u1 := same_new (o := .tup lw) n1
    refine ⟨_, rfl, wz, _, rfl, .inl ⟨SqL.of (u1 _ _ hwzC), fun t2 n2 => fun y dy ny ndy ney => ?_⟩⟩
    have u2 := u1.trans (same_new (o := .tup (W.map txV)) n2)
    have w4 := made_same (C := C) ny ndy
    have u3 := u2.trans w4
    have SD := SC.same u3
    have ht1 := Same.sqT ((same_new (o := .tup (W.map txV)) n2).trans w4) (SqT.of (K := K) (upd_same (H := GB) (a := t1) (o := .tup lw)))
    have ht2 := Same.sqT w4 (SqT.of (K := K) (upd_same (H := upd GB t1 (.tup lw)) (a := t2) (o := .tup (W.map txV))))
    refine ⟨y, dy, t1, t2, .ref dz, rfl, upd_same, .inr ⟨dz, ds, lw, [], lks, rfl, SD.hd, l1, l3, D, .inr (by rw [List.append_nil]; exact ht1), SD.hw, by omega, LK.nd, LK.ok, .inr ⟨rfl, k1, k4, W, .inr ht2, by omega, fun l hl => (wokW l hl).1, fun j ej => (by rw [wn] at ej; cases ej), fun _ GE TY k7 => ⟨rfl, ?_⟩⟩⟩⟩
    have y7 : Same GB GE := u2.trans (L2.Same.made ny ndy k7)
    have SF := SC.same y7
    have hwzF := y7 _ _ hwzC
    have hgzF := y7 _ _ hgzC
    have TXF := TX.same y7
    clear u1 u2 u3 w4 SD SC hwzC hgzC ht1 ht2 k7 TX y6 y7
    -- one word more
    refine ⟨fun σ' G => ∃ (v2 v10 v11 v14 : Option V), σ' = [some (.ref a0), some (.ref b), v2, some (.int ds.length), some (.ref dz), some (.ref lz), some (.int n), some (.ref wz), some (.ref bz), some (.ref gz), v10, v11, some (.ref x), some (.ref y), v14, none, none] ∧ St18 K (TTk Pt Pt2) b l dz lz ds lks lw G ∧ G wz = some (.lst ((W ++ [[102]]).map txV)) ∧ G gz = some (.lst lw) ∧ TabAt K C G x ds lks W ∧ TabAt K C G y ds lks W, ?_, ?_⟩
    · refine ⟨_, rfl, .inl ⟨rfl, _, SqL.of hwzF⟩, wz, _, _, rfl, rfl, hwzF, ?_, ?_⟩
      · rw [List.length_map]
        exact small1000 (by omega)
      · refine ⟨w2, w10, _, w14, rfl, SF.lst hwzF nwb nwL nwl, ?_, ?_, TXF.lst hwzF, TY.lst hwzF⟩
        · rw [upd_same, List.map_append]
          rfl
        · rw [upd_ne ngw]
          exact hgzF
    clear SF hwzF hgzF TXF TY
    rintro σ' G9 ⟨w2, w10, w11, w14, rfl, S9, hwz9, hgz9, TX, TY⟩
    -- given, cleared
    refine ⟨_, rfl, .inl ⟨rfl, _, SqL.of hgz9⟩, gz, _, rfl, rfl, hgz9, ?_⟩
    have SA := S9.lst (ys := []) hgz9 ngB ngL ngl
    have hwzA : (upd G9 gz (.lst [])) wz = some (.lst ((W ++ [[102]]).map txV)) := by
      rw [upd_ne (Ne.symm ngw)]
      exact hwz9
    have TXA := TX.lst (ys := []) hgz9
    have TYA := TY.lst (ys := []) hgz9
    generalize upd G9 gz (.lst []) = GA at SA hwzA TXA TYA
    clear S9 hwz9 hgz9 TX TY
    -- the two tables
    obtain ⟨⟨dx1, xa, xb, xc, xd, hx1, _⟩, _⟩ := id TXA
    obtain ⟨⟨dy1, ya, yb, yc, yd, hy1, _⟩, _⟩ := id TYA
    refine ⟨_, rfl, _, rfl, x, y, dx1, dy1, _, _, rfl, rfl, hx1, hy1, x, y, ds, ds, lks, lks, W, W, rfl, TXA, TYA, true, congrArg V.bl (decide_eq_true ⟨rfl, rfl, rfl⟩), iteF ?_⟩
    refine ⟨_, rfl, x, dx1, _, rfl, hx1, tf_no _ _ _ _ (by decide +kernel), x, ds, lks, W, rfl, TXA, fun L1 n1 => ?_⟩
    have u1 := same_new (o := .lst (W.map txV)) n1
    refine ⟨_, rfl, x, dx1, _, rfl, u1 _ _ hx1, tf_no _ _ _ _ (by decide +kernel), x, ds, lks, W, rfl, TXA.same u1, fun L2 lw2 n2 hw2 => ?_⟩
    have u2 := same_new (o := .lst lw2) n2
    refine ⟨(by show 2 ≤ sizeLine; decide), fun L3 n3 => ?_⟩
    have u3 := same_new (o := .lst [.ref L1, .ref L2]) n3
    refine ⟨_, rfl, _, rfl, _, rfl, wz, _, rfl, SqL.of (((u1.trans u2).trans u3) _ _ hwzA), fun L4 n4 => ?_⟩
    have ec : cutV ((W ++ [[102]]).map txV) none (some (-1)) = W.map txV := by
      rw [cut_lastF, List.dropLast_concat]
    have u4 := same_new (o := .lst (cutV ((W ++ [[102]]).map txV) none (some (-1)))) n4
    refine ⟨_, rfl, (by show 2 ≤ sizeLine; decide), fun L5 n5 => ?_⟩
    have u5 := same_new (o := .lst [.ref L4, .ref lz]) n5
    have u25 := ((u2.trans u3).trans u4).trans u5
    have u15 := u1.trans u25
    have hL4 := (u5 _ _ (upd_same (a := L4) (o := .lst (cutV ((W ++ [[102]]).map txV) none (some (-1)))))).trans (congrArg (fun z => some (HO.lst z)) ec)
    have dw := dd_wds (K := K) (SqL.of (u25 _ _ (upd_same (H := GA) (a := L1) (o := .lst (W.map txV))))) (SqL.of hL4) (by omega)
    have tA5 := Same.tups (K := K) u15
    have SE := SA.same u15
    have hw2' : HdsAt K _ lks lw2 := HdsAt.mono (Same.tups (K := K) u25) hw2
    have dl_ := dd_hds (K := K) (SqL.of (((u3.trans u4).trans u5) _ _ (upd_same (a := L2) (o := .lst lw2)))) (SqL.of SE.hl) hw2' SE.hw (by omega) (fun c hc => by have := (LK.ok c hc).len; omega)
    refine ⟨_, _, rfl, dd_pair (SqL.of ((u4.trans u5) _ _ (upd_same (a := L3) (o := .lst [.ref L1, .ref L2])))) (SqL.of upd_same) dw.up.up dl_.up, fun G4 s4 => ⟨true, rfl, iteF ?_⟩⟩
    have s14 := u15.trans s4
    have SG := SA.same s14
    have hwzG := s14 _ _ hwzA
    have TXG := TXA.same s14
    clear SA hwzA TXA TYA hx1 hy1 u1 u2 u3 u4 u5 u25 u15 hL4 dw tA5 SE hw2' dl_ s14 ec
    -- another first sign
    obtain ⟨c0, r0, Wr, rfl⟩ : ∃ c0 r0 Wr, W = (c0 :: r0) :: Wr := by
      cases W with
      | nil =>
        have : n = 0 := lW.symm
        omega
      | cons w0 Wr =>
        have := okW w0 List.mem_cons_self
        unfold wdB at this
        rw [Bool.and_eq_true] at this
        cases w0 with
        | nil =>
          have := of_decide_eq_true this.1
          have : 0 = lks.length := this
          omega
        | cons c r => exact ⟨c, r, Wr, rfl⟩
    have lc0 : (c0 :: r0).length = lks.length := by
      have := okW _ List.mem_cons_self
      unfold wdB at this
      rw [Bool.and_eq_true] at this
      exact of_decide_eq_true this.1
    refine ⟨fun σ' G => ∃ (v2 v10 v11 v13 : Option V) (oz : Addr), σ' = [some (.ref a0), some (.ref b), v2, some (.int ds.length), some (.ref dz), some (.ref lz), some (.int n), some (.ref wz), some (.ref bz), some (.ref gz), v10, v11, some (.ref x), v13, some (.ref oz), none, none] ∧ St18 K (TTk Pt Pt2) b l dz lz ds lks lw G ∧ G wz = some (.lst (((c0 :: r0) :: Wr ++ [[102]]).map txV)) ∧ TabAt K C G x ds lks ((c0 :: r0) :: Wr) ∧ G oz = some (.lst (((flp c0 :: r0) :: Wr).map txV)), ?_, ?_⟩
    · have sll : (SX.S (c0 :: r0)).length ≤ sizeLine := by
        rw [SX.S_len, lc0]
        exact Nat.le_trans k4 (by decide)
      refine ⟨_, rfl, wz, _, _, _, rfl, rfl, SqL.of hwzG, atI_nat (j := 0) rfl, _, _, c0, rfl, rfl, sll, atI_nat (j := 0) rfl, rfl, ?_⟩
      by_cases hc0 : c0 = 117
      · refine ⟨true, congrArg V.bl (decide_eq_true (by rw [hc0]; rfl)), iteT ?_⟩
        refine ⟨_, rfl, wz, _, _, _, rfl, rfl, SqL.of hwzG, atI_nat (j := 0) rfl, _, rfl, _, rfl, sll, ?_⟩
        rw [cutS_one]
        refine ⟨_, _, rfl, rfl, ?_, (by show 1 ≤ sizeLine; decide), fun L6 n6 => ?_⟩
        · show 1 + (SX.S r0).length ≤ sizeLine
          rw [SX.S_len]
          have h1 : r0.length + 1 = lks.length := lc0
          exact Nat.le_trans (show 1 + r0.length ≤ 4 by omega) (by decide)
        have ef : (("f" : Str) ++ SX.S r0) = SX.S (flp c0 :: r0) := by
          unfold flp
          rw [if_pos hc0]
          exact SX.S_cat [102] r0
        have u6 := same_new (o := .lst [.str (("f" : Str) ++ SX.S r0)]) n6
        refine ⟨_, rfl, _, rfl, _, rfl, _, rfl, wz, _, rfl, SqL.of (u6 _ _ hwzG), fun c nc => ?_⟩
        have u7 := same_new (o := .lst (cutV (((c0 :: r0) :: Wr ++ [[102]]).map txV) (some 1) (some (-1)))) nc
        have hL6 := u7 _ _ (upd_same (H := G4) (a := L6) (o := .lst [.str (("f" : Str) ++ SX.S r0)]))
        have hc := (upd_same (a := c) (o := .lst (cutV (((c0 :: r0) :: Wr ++ [[102]]).map txV) (some 1) (some (-1)))) (H := upd G4 L6 (.lst [.str (("f" : Str) ++ SX.S r0)]))).trans (congrArg (fun z => some (HO.lst z)) (cut_mid (c0 :: r0) Wr [102]))
        refine ⟨L6, c, _, _, rfl, rfl, hL6, hc, ?_, fun oz noz => ?_⟩
        · rw [List.length_map]
          have h1 : Wr.length + 1 = n := lW
          exact Nat.le_trans (show 1 + Wr.length ≤ 12 by omega) (by decide)
        have u8 := same_new (o := .lst ([.str (("f" : Str) ++ SX.S r0)] ++ Wr.map txV)) noz
        have s9 := (u6.trans u7).trans u8
        refine ⟨w2, w10, w11, _, oz, rfl, SG.same s9, s9 _ _ hwzG, TXG.same s9, ?_⟩
        rw [upd_same, ef]
        rfl
      · refine ⟨false, congrArg V.bl (decide_eq_false fun z => hc0 (List.cons.inj (SX.S_inj (a := [c0]) (b := [117]) (V.str.inj z))).1), iteF ?_⟩
        refine ⟨_, rfl, wz, _, _, _, rfl, rfl, SqL.of hwzG, atI_nat (j := 0) rfl, _, rfl, _, rfl, sll, ?_⟩
        rw [cutS_one]
        refine ⟨_, _, rfl, rfl, ?_, (by show 1 ≤ sizeLine; decide), fun L6 n6 => ?_⟩
        · show 1 + (SX.S r0).length ≤ sizeLine
          rw [SX.S_len]
          have h1 : r0.length + 1 = lks.length := lc0
          exact Nat.le_trans (show 1 + r0.length ≤ 4 by omega) (by decide)
        have ef : (("u" : Str) ++ SX.S r0) = SX.S (flp c0 :: r0) := by
          unfold flp
          rw [if_neg hc0]
          exact SX.S_cat [117] r0
        have u6 := same_new (o := .lst [.str (("u" : Str) ++ SX.S r0)]) n6
        refine ⟨_, rfl, _, rfl, _, rfl, _, rfl, wz, _, rfl, SqL.of (u6 _ _ hwzG), fun c nc => ?_⟩
        have u7 := same_new (o := .lst (cutV (((c0 :: r0) :: Wr ++ [[102]]).map txV) (some 1) (some (-1)))) nc
        have hL6 := u7 _ _ (upd_same (H := G4) (a := L6) (o := .lst [.str (("u" : Str) ++ SX.S r0)]))
        have hc := (upd_same (a := c) (o := .lst (cutV (((c0 :: r0) :: Wr ++ [[102]]).map txV) (some 1) (some (-1)))) (H := upd G4 L6 (.lst [.str (("u" : Str) ++ SX.S r0)]))).trans (congrArg (fun z => some (HO.lst z)) (cut_mid (c0 :: r0) Wr [102]))
        refine ⟨L6, c, _, _, rfl, rfl, hL6, hc, ?_, fun oz noz => ?_⟩
        · rw [List.length_map]
          have h1 : Wr.length + 1 = n := lW
          exact Nat.le_trans (show 1 + Wr.length ≤ 12 by omega) (by decide)
        have u8 := same_new (o := .lst ([.str (("u" : Str) ++ SX.S r0)] ++ Wr.map txV)) noz
        have s9 := (u6.trans u7).trans u8
        refine ⟨w2, w10, w11, _, oz, rfl, SG.same s9, s9 _ _ hwzG, TXG.same s9, ?_⟩
        rw [upd_same, ef]
        rfl
    clear SG hwzG TXG
    rintro σ' G9 ⟨w2, w10, w11, w13, oz, rfl, S9, hwz9, TX, hoz9⟩
    have okF : ∀ w ∈ (flp c0 :: r0) :: Wr, wdB lks.length w = true := fun w hw => by
      rcases List.mem_cons.mp hw with e | hw
      · rw [e]
        exact wdB_flp (okW _ List.mem_cons_self)
      · exact okW w (List.mem_cons_of_mem _ hw)
    have wf : wIx (prodL ds).toNat lks.length ((flp c0 :: r0) :: Wr) = none := by
      rw [ent]
      exact wIx_all lW okF
    refine ⟨fun σ' G => ∃ (v2 v10 v11 v12 v13 v14 : Option V), σ' = [some (.ref a0), some (.ref b), v2, some (.int ds.length), some (.ref dz), some (.ref lz), some (.int n), some (.ref wz), some (.ref bz), some (.ref gz), v10, v11, v12, v13, v14, none, none] ∧ St18 K (TTk Pt Pt2) b l dz lz ds lks lw G, ?_, ?_⟩
    rotate_left
    · rintro σ' G ⟨w2, w10, w11, w12, w13, w14, rfl, S⟩
      refine ⟨_, rfl, _, rfl, _, rfl, b, l, dz, lz, ds, lks, lw, rfl, S.bg, S.tb, S.hd, l1, l3, D, S.hl, S.nb, S.hw, LK, fun G5 B5 tb5 => ⟨true, rfl, iteF ?_⟩⟩
      exact ⟨_, _, _, _, _, _, _, _, _, _, _, _, _, rfl, B5, tb5⟩
    · obtain ⟨⟨dx1, xa, xb, xc, xd, hx1, _⟩, _⟩ := id TX
      refine ⟨_, rfl, _, rfl, _, rfl, _, rfl, fun y dy ny ndy ney => ?_⟩
      have w4 := made_same (C := C) ny ndy
      have SB := S9.same w4
      refine ⟨y, dy, lz, oz, .ref dz, rfl, upd_same, .inr ⟨dz, ds, lw, [], lks, rfl, SB.hd, l1, l3, D, .inl (SqL.of (by rw [List.append_nil]; exact SB.hl)), SB.hw, by omega, LK.nd, LK.ok, .inr ⟨rfl, k1, k4, (flp c0 :: r0) :: Wr, .inl (SqL.of (w4 _ _ hoz9)), (show Wr.length + 1 ≤ 60 by have h1 : Wr.length + 1 = n := lW; omega), fun w hw => by have := okF w hw; unfold wdB at this; rw [Bool.and_eq_true] at this; have := of_decide_eq_true this.1; omega, fun j ej => (by rw [wf] at ej; cases ej), fun _ GB TY k6 => ⟨rfl, ?_⟩⟩⟩⟩
      have y6 : Same G9 GB := _root_.L2.Same.made ny ndy k6
      have SC := S9.same y6
      have TXC := TX.same y6
      have hwzC := y6 _ _ hwz9
      obtain ⟨⟨dy1, ya, yb, yc, yd, hy1, _⟩, _⟩ := id TY
      refine ⟨x, y, dx1, dy1, _, _, rfl, rfl, y6 _ _ hx1, hy1, x, y, ds, ds, lks, lks, _, _, rfl, TXC, TY, false, congrArg V.bl (decide_eq_false fun z => flp_ne c0 (List.cons.inj (List.cons.inj z.2.2).1).1.symm), iteF ?_⟩
      refine ⟨_, rfl, lz, _, rfl, .inl (SqL.of SC.hl), _, _, rfl, rfl, ?_⟩
      by_cases h1l : 1 < lks.length
      · refine ⟨true, congrArg V.bl (decide_eq_true (by rw [llw]; omega)), iteT ?_⟩
        refine ⟨_, rfl, _, rfl, _, rfl, lz, _, rfl, SqL.of SC.hl, fun rv nrv => ?_⟩
        have v1 := same_new (o := .lst lw.reverse) nrv
        refine ⟨_, rfl, _, rfl, _, rfl, wz, _, rfl, SqL.of (v1 _ _ hwzC), fun wv nwv => fun z2 dz2 nz ndz2 nez => ?_⟩
        have v2 := same_new (o := .lst (cutV (((c0 :: r0) :: Wr ++ [[102]]).map txV) none (some (-1)))) nwv
        have v3 := made_same (C := C) nz ndz2
        have v13 := (v1.trans v2).trans v3
        have hwv := (v3 _ _ (upd_same (a := wv) (o := .lst (cutV (((c0 :: r0) :: Wr ++ [[102]]).map txV) none (some (-1)))))).trans (congrArg (fun z => some (HO.lst z)) ((cut_lastF txV ((c0 :: r0) :: Wr ++ [[102]])).trans (by rw [List.dropLast_concat])))
        have hrv := (v2.trans v3) _ _ (upd_same (H := GB) (a := rv) (o := .lst lw.reverse))
        have SE := SC.same v13
        have LR := looks_rev LK
        refine ⟨z2, dz2, rv, wv, .ref dz, rfl, upd_same, .inr ⟨dz, ds, lw.reverse, [], lks.reverse, rfl, SE.hd, l1, l3, D, .inl (SqL.of (by rw [List.append_nil]; exact hrv)), hds_revK SE.hw, by rw [List.length_reverse]; omega, LR.nd, LR.ok, .inr ⟨rfl, LR.l1, LR.l4, (c0 :: r0) :: Wr, .inl (SqL.of hwv), by rw [lW]; omega, fun w hw => (wokW w hw).1, fun j ej => (by rw [List.length_reverse, wn] at ej; cases ej), fun _ GD TZ k8 => ⟨rfl, ?_⟩⟩⟩⟩
        have y8 : Same GB GD := (v1.trans v2).trans (_root_.L2.Same.made nz ndz2 k8)
        obtain ⟨⟨dz1, za, zb, zc, zd, hz1, _⟩, _⟩ := id TZ
        refine ⟨x, z2, dx1, dz1, _, _, rfl, rfl, y8 _ _ (y6 _ _ hx1), hz1, x, z2, ds, ds, lks, lks.reverse, _, _, rfl, TXC.same y8, TZ, false, congrArg V.bl (decide_eq_false fun z => rev_ne LK.nd h1l z.2.1), iteF ?_⟩
        exact ⟨w2, w10, w11, _, w13, _, rfl, SC.same y8⟩
      · refine ⟨false, congrArg V.bl (decide_eq_false (by rw [llw]; omega)), iteF ?_⟩
        exact ⟨w2, w10, w11, _, w13, _, rfl, SC⟩
end
end Lk

/-! ### the head of a law: the top run in the kernel, what it leaves told by tests of a part of the heap -/
namespace Hk
open PySem PySem.Spec PyProof.Rows L2
/-- a function at a place: what of it is its text -/
abbrev FnZ : Type := Option (Str × Str × Arguments × FuncBody × Scope × Addr × Addr)
def fdAt (K : PySem.W.Frag) (a : Addr) : Option FuncData := match K.lookup a with
  | some o => (match o.data with
    | .func fd => some fd
    | _ => none)
  | none => none
def fnZ (K : PySem.W.Frag) (a : Addr) : FnZ := (fdAt K a).map fun fd => (fd.name, fd.qualname, fd.params, fd.body, fd.scope, fd.globals, fd.builtins)
def codeV (K : PySem.W.Frag) (a : Addr) : Value := match fdAt K a with
  | some fd => fd.code
  | none => .none
def dflV (K : PySem.W.Frag) (a : Addr) : Value := match fdAt K a with
  | some fd => fd.defaults
  | none => .none
def cloV (K : PySem.W.Frag) (a : Addr) : List (Str × Addr) := match fdAt K a with
  | some fd => fd.closure
  | none => []
def adrV : Value → Addr
  | .ref a => a
  | _ => 0
def cellV (K : PySem.W.Frag) (a : Addr) : Addr := match cloV K a with
  | q :: _ => q.2
  | [] => 0
structure FD where
  adr : PySem.W.Frag → Addr
  nm : Str
  q : Str
  st : Stmt
def FD.val (d : FD) : FnZ := some (d.nm, d.q, defArgs d.st, .stmts (defBody d.st), defScope d.st, mainGlobals, builtinsNs)
theorem fdAt_ok {K : PySem.W.Frag} {a : Addr} {fd : FuncData} (h : fdAt K a = some fd) : ∃ oc od osl, K.lookup a = some ⟨oc, od, .func fd, osl⟩ := by
  unfold fdAt at h
  cases e : K.lookup a with
  | none =>
    rw [e] at h
    cases h
  | some o =>
    obtain ⟨oc, od, dt, osl⟩ := o
    rw [e] at h
    cases dt with
    | func fd' =>
      cases h
      exact ⟨oc, od, osl, rfl⟩
    | _ => cases h
theorem fnZ_ok {K : PySem.W.Frag} {a : Addr} {nm q : Str} {ps : Arguments} {bd : List Stmt} {sc : Scope} (h : fnZ K a = some (nm, q, ps, .stmts bd, sc, mainGlobals, builtinsNs)) :
    ∃ oc od osl kV doc pm an ct, K.lookup a = some ⟨oc, od, .func (PySem.W.fnX nm q ps bd sc (cloV K a) (dflV K a) kV doc pm an (codeV K a) ct), osl⟩ := by
  unfold fnZ at h
  cases e : fdAt K a with
  | none =>
    rw [e] at h
    cases h
  | some fd =>
    rw [e] at h
    obtain ⟨oc, od, osl, lk⟩ := fdAt_ok e
    obtain ⟨n1, n2, n3, n4, n5, n6, n7, n8, n9, n10, n11, n12, n13, n14, n15⟩ := fd
    have h2 : (some (n1, n2, n3, n4, n5, n6, n15) : FnZ) = some (nm, q, ps, .stmts bd, sc, mainGlobals, builtinsNs) := h
    simp only [Option.some.injEq, Prod.mk.injEq] at h2
    obtain ⟨h1, h2, h3, h4, h5, h6, h7⟩ := h2
    subst h1 h2 h3 h4 h5 h6 h7
    refine ⟨oc, od, osl, n9, n10, n11, n12, n14, ?_⟩
    have c1 : cloV K a = n7 := by unfold cloV; rw [e]
    have c2 : dflV K a = n8 := by unfold dflV; rw [e]
    have c3 : codeV K a = n13 := by unfold codeV; rw [e]
    rw [c1, c2, c3]
    exact lk
/-! ### tests -/
def isNone : Value → Bool
  | .none => true
  | _ => false
theorem isNone_ok {v : Value} (h : isNone v = true) : v = .none := by
  cases v <;> first | rfl | cases h
def isRef : Value → Bool
  | .ref _ => true
  | _ => false
theorem isRef_ok {v : Value} (h : isRef v = true) : v = .ref (adrV v) := by
  cases v <;> first | rfl | cases h
/-- a plain function: no default, no closure -/
def fnB (K : PySem.W.Frag) (a : Addr) (q : Str) : Bool := isNone (dflV K a) && ((cloV K a).isEmpty && (PySem.W.codeIn K (codeV K a) q && PySem.W.keepIn K (.ref a)))
theorem fnB_ok {K : PySem.W.Frag} {a : Addr} {nm q : Str} {ps : Arguments} {bd : List Stmt} {sc : Scope} (h : fnZ K a = some (nm, q, ps, .stmts bd, sc, mainGlobals, builtinsNs)) (b : fnB K a q = true) :
    ∃ oc od osl kV doc pm an cd ct, K.lookup a = some ⟨oc, od, .func (PySem.W.fnOf nm q ps bd sc .none kV doc pm an cd ct), osl⟩ ∧ PySem.W.codeIn K cd q = true ∧ PySem.W.keepIn K (.ref a) = true := by
  obtain ⟨b1, b⟩ := Bool.and_eq_true_iff.mp b
  obtain ⟨b2, b⟩ := Bool.and_eq_true_iff.mp b
  obtain ⟨b3, b4⟩ := Bool.and_eq_true_iff.mp b
  obtain ⟨oc, od, osl, kV, doc, pm, an, ct, lk⟩ := fnZ_ok h
  rw [isNone_ok b1, List.isEmpty_iff.mp b2] at lk
  exact ⟨oc, od, osl, kV, doc, pm, an, _, ct, lk, b3, b4⟩
/-- .. whose code object stands at codeA -/
abbrev codeA (K : PySem.W.Frag) (a : Addr) : Addr := adrV (codeV K a)
theorem codeIn_adr {K : PySem.W.Frag} {a : Addr} {q : Str} (h : PySem.W.codeIn K (codeV K a) q = true) : codeV K a = .ref (codeA K a) := by
  apply isRef_ok
  cases e : codeV K a with
  | ref c => rfl
  | _ =>
    rw [e] at h
    cases h
theorem fnB_okR {K : PySem.W.Frag} {a : Addr} {nm q : Str} {ps : Arguments} {bd : List Stmt} {sc : Scope} (h : fnZ K a = some (nm, q, ps, .stmts bd, sc, mainGlobals, builtinsNs)) (b : fnB K a q = true) :
    ∃ oc od osl kV doc pm an ct, K.lookup a = some ⟨oc, od, .func (PySem.W.fnOf nm q ps bd sc .none kV doc pm an (.ref (codeA K a)) ct), osl⟩ ∧ PySem.W.codeIn K (.ref (codeA K a)) q = true ∧ PySem.W.keepIn K (.ref a) = true := by
  obtain ⟨b1, b⟩ := Bool.and_eq_true_iff.mp b
  obtain ⟨b2, b⟩ := Bool.and_eq_true_iff.mp b
  obtain ⟨b3, b4⟩ := Bool.and_eq_true_iff.mp b
  obtain ⟨oc, od, osl, kV, doc, pm, an, ct, lk⟩ := fnZ_ok h
  have e := codeIn_adr b3
  rw [isNone_ok b1, List.isEmpty_iff.mp b2, e] at lk
  rw [e] at b3
  exact ⟨oc, od, osl, kV, doc, pm, an, ct, lk, b3, b4⟩
/-- one default, an object -/
def fnDB (K : PySem.W.Frag) (a : Addr) (q : Str) : Bool := isRef (dflV K a) && ((cloV K a).isEmpty && (PySem.W.codeIn K (codeV K a) q && PySem.W.keepIn K (.ref a)))
theorem fnDB_ok {K : PySem.W.Frag} {a : Addr} {nm q : Str} {ps : Arguments} {bd : List Stmt} {sc : Scope} (h : fnZ K a = some (nm, q, ps, .stmts bd, sc, mainGlobals, builtinsNs)) (b : fnDB K a q = true) :
    ∃ oc od osl kV doc pm an cd ct, K.lookup a = some ⟨oc, od, .func (PySem.W.fnOf nm q ps bd sc (.ref (adrV (dflV K a))) kV doc pm an cd ct), osl⟩ ∧ PySem.W.codeIn K cd q = true ∧ PySem.W.keepIn K (.ref a) = true := by
  obtain ⟨b1, b⟩ := Bool.and_eq_true_iff.mp b
  obtain ⟨b2, b⟩ := Bool.and_eq_true_iff.mp b
  obtain ⟨b3, b4⟩ := Bool.and_eq_true_iff.mp b
  obtain ⟨oc, od, osl, kV, doc, pm, an, ct, lk⟩ := fnZ_ok h
  rw [isRef_ok b1, List.isEmpty_iff.mp b2] at lk
  exact ⟨oc, od, osl, kV, doc, pm, an, _, ct, lk, b3, b4⟩
/-- a method that says super(): its class's cell -/
def fnCB (K : PySem.W.Frag) (a : Addr) (q : Str) : Bool := isNone (dflV K a) && (decide (cloV K a = ([((("__class__" : Str)), cellV K a)] : List (Str × Addr))) && (PySem.W.codeIn K (codeV K a) q && PySem.W.keepIn K (.ref a)))
theorem fnCB_ok {K : PySem.W.Frag} {a : Addr} {nm q : Str} {ps : Arguments} {bd : List Stmt} {sc : Scope} (h : fnZ K a = some (nm, q, ps, .stmts bd, sc, mainGlobals, builtinsNs)) (b : fnCB K a q = true) :
    ∃ oc od osl kV doc pm an ct, K.lookup a = some ⟨oc, od, .func (PySem.W.ksFn nm q ps bd sc .none kV doc pm an (.ref (codeA K a)) ct (cellV K a)), osl⟩ ∧ PySem.W.codeIn K (.ref (codeA K a)) q = true := by
  obtain ⟨b1, b⟩ := Bool.and_eq_true_iff.mp b
  obtain ⟨b2, b⟩ := Bool.and_eq_true_iff.mp b
  obtain ⟨b3, b4⟩ := Bool.and_eq_true_iff.mp b
  obtain ⟨oc, od, osl, kV, doc, pm, an, ct, lk⟩ := fnZ_ok h
  have e := codeIn_adr b3
  rw [isNone_ok b1, of_decide_eq_true b2, e] at lk
  rw [e] at b3
  exact ⟨oc, od, osl, kV, doc, pm, an, ct, lk, b3⟩
/-- the file that a code object names -/
def fileB (K : PySem.W.Frag) (c : Addr) (file : Str) : Bool := match K.lookup c with
  | some o => (match o.data with
    | .fields vs => (match (vs[2]? : Option Value) with
      | some (.str x _) => file == x
      | _ => false)
    | _ => false)
  | none => false
theorem fileB_ok {K : PySem.W.Frag} {c : Addr} {file : Str} (h : fileB K c file = true) : ∃ ccl cdd vs ccs x tf, K.lookup c = some ⟨ccl, cdd, .fields vs, ccs⟩ ∧ vs[2]? = some (.str x tf) ∧ (file == x) = true := by
  unfold fileB at h
  cases e : K.lookup c with
  | none =>
    rw [e] at h
    cases h
  | some o =>
    obtain ⟨oc, od, dt, osl⟩ := o
    rw [e] at h
    cases dt with
    | fields vs =>
      have h2 : (match (vs[2]? : Option Value) with
        | some (.str x _) => file == x
        | _ => false) = true := h
      cases q : vs[2]? with
      | none =>
        rw [q] at h2
        cases h2
      | some v =>
        rw [q] at h2
        cases v with
        | str x t => exact ⟨oc, od, vs, osl, x, t, rfl, q, h2⟩
        | _ => cases h2
    | _ => cases h
def cellB (K : PySem.W.Frag) (c D : Addr) : Bool := match K.lookup c with
  | some o => (match o.data with
    | .cell (some (.ref E)) => decide (E = D)
    | _ => false)
  | none => false
theorem cellB_ok {K : PySem.W.Frag} {c D : Addr} (h : cellB K c D = true) : ∃ cl cld csl, K.lookup c = some ⟨cl, cld, .cell (some (.ref D)), csl⟩ := by
  unfold cellB at h
  cases e : K.lookup c with
  | none =>
    rw [e] at h
    cases h
  | some o =>
    obtain ⟨oc, od, dt, osl⟩ := o
    rw [e] at h
    cases dt with
    | cell v =>
      cases v with
      | none => cases h
      | some u =>
        cases u with
        | ref E =>
          have e2 : E = D := of_decide_eq_true h
          subst e2
          exact ⟨oc, od, osl, rfl⟩
        | _ => cases h
    | _ => cases h
def seqAt (K : PySem.W.Frag) (a : Addr) : List Value := match K.lookup a with
  | some o => (match o.data with
    | .seq its _ => its.toList
    | _ => [])
  | none => []
def isStr (x : Str) : Value → Bool
  | .str y _ => decide (y = x)
  | _ => false
theorem isStr_ok {x : Str} {v : Value} (h : isStr x v = true) : ∃ t, v = .str x t := by
  cases v with
  | str y t =>
    have e : y = x := of_decide_eq_true h
    subst e
    exact ⟨t, rfl⟩
  | _ => cases h
def oneOf (f : Value → Bool) : List Value → Bool
  | v :: r => f v && r.isEmpty
  | [] => false
theorem oneOf_ok {f : Value → Bool} {l : List Value} (h : oneOf f l = true) : ∃ v, l = [v] ∧ f v = true := by
  cases l with
  | nil => cases h
  | cons v r =>
    obtain ⟨h1, h2⟩ := Bool.and_eq_true_iff.mp h
    exact ⟨v, by rw [List.isEmpty_iff.mp h2], h1⟩
def oneStr (x : Str) (l : List Value) : Bool := oneOf (isStr x) l
theorem oneStr_ok {x : Str} {l : List Value} (h : oneStr x l = true) : ∃ t, l = [.str x t] := by
  obtain ⟨v, e, hv⟩ := oneOf_ok h
  obtain ⟨t, rfl⟩ := isStr_ok hv
  exact ⟨t, e⟩
def isAdr (d : Addr) : Value → Bool
  | .ref e => decide (e = d)
  | _ => false
theorem isAdr_ok {d : Addr} {v : Value} (h : isAdr d v = true) : v = .ref d := by
  cases v with
  | ref e => rw [show e = d from of_decide_eq_true h]
  | _ => cases h
def oneRef (d : Addr) (l : List Value) : Bool := oneOf (isAdr d) l
theorem oneRef_ok {d : Addr} {l : List Value} (h : oneRef d l = true) : l = [.ref d] := by
  obtain ⟨v, e, hv⟩ := oneOf_ok h
  rw [e, isAdr_ok hv]
def seqL : Data → Option (List Value)
  | .seq its _ => some its.toList
  | _ => none
theorem seqL_ok {dt : Data} {l : List Value} (h : seqL dt = some l) : ∃ n, dt = .seq l.toArray n := by
  cases dt with
  | seq its n =>
    obtain ⟨m⟩ := its
    have e : m = l := Option.some.inj h
    subst e
    exact ⟨n, rfl⟩
  | _ => cases h
/-- a tuple that holds one text -/
def tup1B (K : PySem.W.Frag) (a : Addr) (x : Str) : Bool := match K.lookup a with
  | some o => decide (o.cls = .type "tuple") && (match seqL o.data with
    | some l => oneStr x l
    | none => false)
  | none => false
theorem tup1B_ok {K : PySem.W.Frag} {a : Addr} {x : Str} (h : tup1B K a x = true) : ∃ d t n sl, K.lookup a = some ⟨.type "tuple", d, .seq #[.str x t] n, sl⟩ := by
  unfold tup1B at h
  cases e : K.lookup a with
  | none =>
    rw [e] at h
    cases h
  | some o =>
    rw [e] at h
    obtain ⟨h1, h2⟩ := Bool.and_eq_true_iff.mp h
    cases q : seqL o.data with
    | none =>
      rw [q] at h2
      cases h2
    | some l =>
      rw [q] at h2
      obtain ⟨t, rfl⟩ := oneStr_ok h2
      obtain ⟨n, hn⟩ := seqL_ok q
      obtain ⟨oc, od, dt, osl⟩ := o
      have h1 : oc = .type "tuple" := of_decide_eq_true h1
      have hn : dt = .seq #[.str x t] n := hn
      subst h1 hn
      exact ⟨od, t, n, osl, rfl⟩
/-- a sequence of one object -/
def seq1B (K : PySem.W.Frag) (a d : Addr) : Bool := match K.lookup a with
  | some o => (match seqL o.data with
    | some l => oneRef d l
    | none => false)
  | none => false
theorem seq1B_ok {K : PySem.W.Frag} {a d : Addr} (h : seq1B K a d = true) : ∃ oT dT nT slT, K.lookup a = some ⟨oT, dT, .seq #[.ref d] nT, slT⟩ := by
  unfold seq1B at h
  cases e : K.lookup a with
  | none =>
    rw [e] at h
    cases h
  | some o =>
    rw [e] at h
    have h2 : (match seqL o.data with
      | some l => oneRef d l
      | none => false) = true := h
    cases q : seqL o.data with
    | none =>
      rw [q] at h2
      cases h2
    | some l =>
      rw [q] at h2
      have el := oneRef_ok h2
      subst el
      obtain ⟨n, hn⟩ := seqL_ok q
      obtain ⟨oc, od, dt, osl⟩ := o
      have hn : dt = .seq #[.ref d] n := hn
      subst hn
      exact ⟨oc, od, n, osl, rfl⟩
/-- an int -/
def isInt (i : Int) : Value → Bool
  | .int j _ => decide (j = i)
  | _ => false
theorem isInt_ok {i : Int} {v : Value} (h : isInt i v = true) : ∃ t, v = .int i t := by
  cases v with
  | int j t =>
    have e : j = i := of_decide_eq_true h
    subst e
    exact ⟨t, rfl⟩
  | _ => cases h
def intV (i : Int) : Option (Option Value) → Bool
  | some (some v) => isInt i v
  | _ => false
theorem intV_ok {i : Int} {o : Option (Option Value)} (h : intV i o = true) : ∃ t, o = some (some (.int i t)) := by
  cases o with
  | none => cases h
  | some o =>
    cases o with
    | none => cases h
    | some v =>
      obtain ⟨t, rfl⟩ := isInt_ok (show isInt i v = true from h)
      exact ⟨t, rfl⟩
def someB {α : Type} : Option α → Bool
  | some _ => true
  | none => false
theorem someB_ok {α : Type} {o : Option α} (h : someB o = true) : ∃ x, o = some x := by
  cases o with
  | none => cases h
  | some x => exact ⟨x, rfl⟩
/-- an own error's class, under ValueError -/
def excM (C : Addr) : List Value → Bool
  | v :: bm => isAdr C v && PySem.HandSPX.refsVE bm
  | [] => false
theorem excM_ok {C : Addr} {l : List Value} (h : excM C l = true) : ∃ bm, l = .ref C :: bm ∧ PySem.HandSPX.refsVE bm = true := by
  cases l with
  | nil => cases h
  | cons v bm =>
    obtain ⟨h1, h2⟩ := Bool.and_eq_true_iff.mp h
    exact ⟨bm, by rw [isAdr_ok h1], h2⟩
def isNew : Option Value → Bool
  | some (.builtin n) => decide (n = "ValueError.__new__")
  | _ => false
theorem isNew_ok {o : Option Value} (h : isNew o = true) : o = some (.builtin "ValueError.__new__") := by
  cases o with
  | none => cases h
  | some v =>
    cases v with
    | builtin n => rw [show n = "ValueError.__new__" from of_decide_eq_true h]
    | _ => cases h
def excS (l : List (Option Value)) : Bool := decide (l.length = 6) && (match l[4]? with
  | some o => isNew o
  | none => false)
theorem excS_ok {l : List (Option Value)} (h : excS l = true) : ∃ k0 k1 k2 k3 k5, l = [k0, k1, k2, k3, some (.builtin "ValueError.__new__"), k5] := by
  obtain ⟨h1, h2⟩ := Bool.and_eq_true_iff.mp h
  have h1 : l.length = 6 := of_decide_eq_true h1
  obtain ⟨a0, l, rfl⟩ := List.exists_cons_of_length_pos (show 0 < l.length by omega)
  obtain ⟨a1, l, rfl⟩ := List.exists_cons_of_length_pos (show 0 < l.length by rw [List.length_cons] at h1; omega)
  obtain ⟨a2, l, rfl⟩ := List.exists_cons_of_length_pos (show 0 < l.length by rw [List.length_cons, List.length_cons] at h1; omega)
  obtain ⟨a3, l, rfl⟩ := List.exists_cons_of_length_pos (show 0 < l.length by rw [List.length_cons, List.length_cons, List.length_cons] at h1; omega)
  obtain ⟨a4, l, rfl⟩ := List.exists_cons_of_length_pos (show 0 < l.length by rw [List.length_cons, List.length_cons, List.length_cons, List.length_cons] at h1; omega)
  obtain ⟨a5, l, rfl⟩ := List.exists_cons_of_length_pos (show 0 < l.length by rw [List.length_cons, List.length_cons, List.length_cons, List.length_cons, List.length_cons] at h1; omega)
  have e : l = [] := List.eq_nil_of_length_eq_zero (by simp only [List.length_cons] at h1; omega)
  subst e
  have h2 : isNew a4 = true := h2
  rw [isNew_ok h2]
  exact ⟨a0, a1, a2, a3, a5, rfl⟩
def clsD : Data → Option ClassData
  | .cls cd => some cd
  | _ => none
theorem clsD_ok {dt : Data} {cd : ClassData} (h : clsD dt = some cd) : dt = .cls cd := by
  cases dt with
  | cls c => rw [Option.some.inj h]
  | _ => cases h
def excB (K : PySem.W.Frag) (C : Addr) : Bool := match K.lookup C with
  | some o => decide (o.cls = .type "type") && (excS o.slots.toList && (match clsD o.data with
    | some cd => excM C cd.mro && (!cd.hasDel && cd.hasDict)
    | none => false))
  | none => false
theorem excB_ok {K : PySem.W.Frag} {C : Addr} (h : excB K C = true) : ∃ nm q N bs bm sn sub ab col dd k0 k1 k2 k3 k5, K.lookup C = some (excClassObj nm q C N bs bm true sn sub ab col dd k0 k1 k2 k3 k5 "ValueError.__new__") ∧ PySem.HandSPX.refsVE bm = true := by
  unfold excB at h
  cases e : K.lookup C with
  | none =>
    rw [e] at h
    cases h
  | some o =>
    rw [e] at h
    obtain ⟨h1, h2⟩ := Bool.and_eq_true_iff.mp h
    obtain ⟨h3, h4⟩ := Bool.and_eq_true_iff.mp h2
    cases q : clsD o.data with
    | none =>
      rw [q] at h4
      cases h4
    | some cd =>
      rw [q] at h4
      obtain ⟨a1, a2⟩ := Bool.and_eq_true_iff.mp h4
      obtain ⟨a3, a4⟩ := Bool.and_eq_true_iff.mp a2
      obtain ⟨bm, hm, hv⟩ := excM_ok a1
      obtain ⟨k0, k1, k2, k3, k5, hs⟩ := excS_ok h3
      have hd := clsD_ok q
      obtain ⟨oc, od, dt, ⟨sl⟩⟩ := o
      obtain ⟨nm, bs, mro, ns, qn, hdc, sn, sub, ab, col, del⟩ := cd
      have h1 : oc = .type "type" := of_decide_eq_true h1
      have hs : sl = [k0, k1, k2, k3, some (.builtin "ValueError.__new__"), k5] := hs
      have hm : mro = .ref C :: bm := hm
      have b4 : hdc = true := a4
      have b3 : del = false := by
        cases del with
        | false => rfl
        | true => cases a3
      have hd2 : dt = .cls _ := hd
      clear a3 a4 hd q e h h2 h4 a1 a2
      subst h1 hs hm b4 b3 hd2
      exact ⟨nm, qn, ns, bs, bm, sn, sub, ab, col, od, k0, k1, k2, k3, k5, rfl, hv⟩
/-! ### addresses -/
/-- what a property's getter is -/
def prA (K : PySem.W.Frag) (p : Addr) : Addr := match PySem.W.recIn K p "property" with
  | some (v :: _) => adrV v
  | _ => 0
def prR (K : PySem.W.Frag) (p : Addr) : List Value := match PySem.W.recIn K p "property" with
  | some (_ :: r) => r
  | _ => []
/-! ### the Hook -/
def refV : Value → List Addr
  | .ref a => [a]
  | _ => []
def refsQ (o : Obj) : List Addr := match o.data with
  | .dict es _ => es.toList.flatMap fun e => refV e.val
  | .func fd => refV fd.code ++ (refV fd.defaults ++ fd.closure.map (·.2))
  | .cls cd => [cd.ns]
  | .seq its _ => its.toList.flatMap refV
  | .fields vs => (match o.cls with
    | .type c => (match decide (c = "property") with
      | true => vs.toList.flatMap refV
      | false => [])
    | _ => [])
  | _ => []
def nextQ (g : Addr → Option Obj) (as : List Addr) : List Addr := as.flatMap fun a => match g a with
  | some o => refsQ o
  | none => []
def reach (g : Addr → Option Obj) : Nat → List Addr → List Addr
  | 0, as => as
  | n + 1, as => as ++ reach g n (nextQ g as)
def asH (g : Addr → Option Obj) (n : Nat) : List Addr := reach g n [mainGlobals] ++ [cStatics]
def frH (n : Nat) (g : Addr → Option Obj) : PySem.W.Frag := He.frT g (asH g n)
abbrev Al : Type := List FnZ × Bool
def obsK (fd : List FD) (ex : List (PySem.W.Frag → Bool)) (tf : List (PySem.W.Frag → Addr)) (g : Addr → Option Obj) (K : PySem.W.Frag) : Al :=
  (fd.map fun d => fnZ K (d.adr K), (ex.all fun f => f K) && tf.all fun p => match g (p K) with
    | some o => He.emptyTab o
    | none => false)
def obsG (n : Nat) (fd : List FD) (ex : List (PySem.W.Frag → Bool)) (tf : List (PySem.W.Frag → Addr)) (g : Addr → Option Obj) : Al := obsK fd ex tf g (frH n g)
def valH (fd : List FD) : Al := (fd.map FD.val, true)
structure Says (fd : List FD) (ex : List (PySem.W.Frag → Bool)) (tf : List (PySem.W.Frag → Addr)) (h : Heap) (K : PySem.W.Frag) : Prop where
  fns : fd.map (fun d => fnZ K (d.adr K)) = fd.map FD.val
  tst : (ex.all fun f => f K) = true
  out : ∀ p ∈ tf, K.lookup (p K) = none
  emp : ∀ p ∈ tf, h.get? (p K) = some { cls := .none, data := .fields #[] }
theorem says_of {n : Nat} {fd : List FD} {ex : List (PySem.W.Frag → Bool)} {tf : List (PySem.W.Frag → Addr)} {h : Heap} (e : obsG n fd ex tf h.get? = valH fd) : Says fd ex tf h (frH n h.get?) := by
  have e1 : fd.map (fun d => fnZ (frH n h.get?) (d.adr (frH n h.get?))) = fd.map FD.val := congrArg (fun z : Al => z.1) e
  have e2 : ((ex.all fun f => f (frH n h.get?)) && tf.all fun p => match h.get? (p (frH n h.get?)) with
    | some o => He.emptyTab o
    | none => false) = true := congrArg (fun z : Al => z.2) e
  obtain ⟨h1, h2⟩ := Bool.and_eq_true_iff.mp e2
  have key : ∀ p ∈ tf, ∃ o, h.get? (p (frH n h.get?)) = some o ∧ He.emptyTab o = true := fun p hp => by
    have z := List.all_eq_true.mp h2 p hp
    cases q : h.get? (p (frH n h.get?)) with
    | none =>
      rw [q] at z
      cases z
    | some o =>
      rw [q] at z
      exact ⟨o, rfl, z⟩
  refine ⟨e1, h1, fun p hp => ?_, fun p hp => ?_⟩
  · obtain ⟨o, q, z⟩ := key p hp
    exact He.frT_none q z
  · obtain ⟨o, q, z⟩ := key p hp
    rw [q, He.emptyTab_eq z]
def hook (n : Nat) (fd : List FD) (ex : List (PySem.W.Frag → Bool)) (tf : List (PySem.W.Frag → Addr)) : PySem.W.Hook where
  α := Al
  obs := fun s => obsG n fd ex tf s.heap.get?
  val := fun _ => valH fd
  says := fun _ h => ∃ K : PySem.W.Frag, K.In h ∧ Says fd ex tf h K
  of := fun _ _ e => ⟨_, He.frT_in, says_of e⟩
  keeps := fun _ _ _ ⟨K, hK, c⟩ k => ⟨K, PySem.W.Frag.In.keeps hK k, ⟨c.fns, c.tst, c.out, fun p hp => k _ _ (c.emp p hp)⟩⟩
theorem obsG_eq {n : Nat} {fd : List FD} {ex : List (PySem.W.Frag → Bool)} {tf : List (PySem.W.Frag → Addr)} {g : Addr → Option Obj} {s : Shared} (h : ∀ a, g a = s.heap.get? a) : obsG n fd ex tf g = (hook n fd ex tf).obs s := by
  have e : g = s.heap.get? := funext h
  rw [e] <;> rfl
section
variable {fd : List FD} {ex : List (PySem.W.Frag → Bool)} {tf : List (PySem.W.Frag → Addr)} {h : Heap} {K : PySem.W.Frag}
theorem Says.fn (c : Says fd ex tf h K) (i : Nat) {d : FD} (e : fd[i]? = some d := by rfl) : fnZ K (d.adr K) = d.val := by
  have e2 : (fd.map fun d => fnZ K (d.adr K))[i]? = (fd.map FD.val)[i]? := by rw [c.fns]
  rw [List.getElem?_map, List.getElem?_map, e] at e2
  exact Option.some.inj e2
theorem Says.t (c : Says fd ex tf h K) (i : Nat) {f : PySem.W.Frag → Bool} (e : ex[i]? = some f := by rfl) : f K = true := List.all_eq_true.mp c.tst f (List.mem_of_getElem? e)
end
end Hk
namespace Hk
open PySem PySem.Spec PyProof.Rows L2
def ddA (K : PySem.W.Frag) (f : Addr) : Addr := match seqAt K (adrV (dflV K f)) with
  | v :: _ => adrV v
  | [] => 0
theorem tt {K : PySem.W.Frag} {l : List (PySem.W.Frag → Bool)} (h : (l.all fun f => f K) = true) (i : Nat) {f : PySem.W.Frag → Bool} (e : l[i]? = some f := by rfl) : f K = true := List.all_eq_true.mp h f (List.mem_of_getElem? e)
end Hk
namespace Hk
open PySem PySem.Spec PyProof.Rows L2
def clsI (i : Int) : Option PySem.W.CFound → Bool
  | some (.val v) => isInt i v
  | _ => false
theorem clsI_ok {i : Int} {o : Option PySem.W.CFound} (h : clsI i o = true) : ∃ t, o = some (.val (.int i t)) := by
  cases o with
  | none => cases h
  | some f =>
    cases f with
    | val v =>
      obtain ⟨t, rfl⟩ := isInt_ok (show isInt i v = true from h)
      exact ⟨t, rfl⟩
    | get g a obj tp => cases h
end Hk

namespace Lk
open PySem L2 Lx LamX LrA LqA TsX
/-- what the top has written of a def -/
structure Def (K : PySem.W.Frag) (mg : Str → Option Value) (x : Str) (st : Stmt) (ps : List Str) (f : Addr) (fd : FuncData) : Prop where
  fn : Fun K x x st f fd
  at_ : mg x = some (.ref f)
  bd : Binds K fd ps []
theorem def_mk {K : PySem.W.Frag} {h : Heap} {mg : Str → Option Value} {x : Str} {st : Stmt} {ps : List Str} {f : Addr} {oc : Value} {od an : Option Addr} {sl : Array (Option Value)} {kV dc pm cd ct : Value} (X : K.In h) (G : h.Ns mainGlobals mg)
    (a : PySem.W.nsIn K mainGlobals x = some (some (.ref f))) (l : K.lookup f = some ⟨oc, od, .func (PySem.W.fnOf x x (defArgs st) (defBody st) (defScope st) .none kV dc pm an cd ct), sl⟩) (c : PySem.W.codeIn K cd x = true) (k : PySem.W.keepIn K (.ref f) = true)
    (hb : ∀ (kV doc pm : Value) (an : Option Addr) (cdv ct : Value) (us : List Value), us.length = ps.length → bindArgs (PySem.W.fnOf x x (defArgs st) (defBody st) (defScope st) .none kV doc pm an cdv ct) ⟨us, []⟩ = pure (ps.zip us)) :
    Def K mg x st ps f (PySem.W.fnOf x x (defArgs st) (defBody st) (defScope st) .none kV dc pm an cd ct) := by
  have F := fun_mk (st := st) l c k
  exact ⟨F, PySem.W.mg_of X G a, F.binds hb⟩

theorem on2 {Pt Pt2 : Addr} (h : Pt ≠ Pt2) : ∀ p ∈ TTk Pt Pt2, p.1 = Pt2 → p.2 = oQ := fun p hp z => by
  rcases List.mem_cons.mp hp with y | y
  · rw [y] at z
    exact absurd z h
  · rw [List.mem_singleton.mp y]
theorem kb_tab {K : PySem.W.Frag} {fd : FuncData} (h : ∀ (s l w d : Value) (st : Shared), BindsTo st fd ⟨[s], [("looks", l), ("words", w), ("divisors", d)]⟩ [("self", s), ("divisors", d), ("looks", l), ("words", w)]) : KBn K fd ["self", "divisors", "looks", "words"] 1 ["looks", "words", "divisors"] tabK tabK := by
  refine ⟨fun st us ws _ l1 l2 => ?_, fun r1 r2 => ?_⟩
  · match us, ws, l1, l2 with
    | [s], [l, w, d], _, _ => exact h s l w d st
  · cases r1 with
    | nil => exact .nil
    | cons a r1 =>
      cases r1 with
      | cons b r1 => exact .nil
      | nil =>
        cases r2 with
        | nil => exact .nil
        | cons x r2 =>
          cases r2 with
          | nil => exact .nil
          | cons y r2 =>
            cases r2 with
            | nil => exact .nil
            | cons z r2 =>
              cases r2 with
              | nil => exact .cons a (.cons z (.cons x (.cons y .nil)))
              | cons u r2 => exact .nil
theorem all_mk {l : PySem.W.OpenLaw} {w : World} {K : PySem.W.Frag} {h : Heap} {mg : Str → Option Value} {fa : Addr} (X : K.In h) (G : h.Ns mainGlobals mg) (hfa : mg "law" = some (.ref fa))
    {C} {fI} {oc_I} {od_I} {kV_I} {dc_I} {pm_I} {an_I} {cd_I} {ct_I} {sl_I} {f_eSE} {oc_eSE} {od_eSE} {kV_eSE} {dc_eSE} {pm_eSE} {an_eSE} {ct_eSE} {sl_eSE} {cda_eSE} {cc_eSE} {ccl_eSE} {cdd_eSE} {vs_eSE} {ccs_eSE} {file_eSE} {tf_eSE} {cl_eSE} {cld_eSE} {csl_eSE} {cdD_eSE} {E_eSE} {f_eIL} {oc_eIL} {od_eIL} {kV_eIL} {dc_eIL} {pm_eIL} {an_eIL} {ct_eIL} {sl_eIL} {cda_eIL} {cc_eIL} {ccl_eIL} {cdd_eIL} {vs_eIL} {ccs_eIL} {file_eIL} {tf_eIL} {cl_eIL} {cld_eIL} {csl_eIL} {cdD_eIL} {E_eIL} {nm_eIL} {q_eIL} {N_eIL} {bs_eIL} {bm_eIL} {sn_eIL} {sub_eIL} {ab_eIL} {col_eIL} {ddd_eIL} {m0_eIL} {m1_eIL} {m2_eIL} {m3_eIL} {m5_eIL} {f_eIW} {oc_eIW} {od_eIW} {kV_eIW} {dc_eIW} {pm_eIW} {an_eIW} {ct_eIW} {sl_eIW} {cda_eIW} {cc_eIW} {ccl_eIW} {cdd_eIW} {vs_eIW} {ccs_eIW} {file_eIW} {tf_eIW} {cl_eIW} {cld_eIW} {csl_eIW} {cdD_eIW} {E_eIW} {nm_eIW} {q_eIW} {N_eIW} {bs_eIW} {bm_eIW} {sn_eIW} {sub_eIW} {ab_eIW} {col_eIW} {ddd_eIW} {m0_eIW} {m1_eIW} {m2_eIW} {m3_eIW} {m5_eIW} {f_eTM} {oc_eTM} {od_eTM} {kV_eTM} {dc_eTM} {pm_eTM} {an_eTM} {ct_eTM} {sl_eTM} {cda_eTM} {cc_eTM} {ccl_eTM} {cdd_eTM} {vs_eTM} {ccs_eTM} {file_eTM} {tf_eTM} {cl_eTM} {cld_eTM} {csl_eTM} {cdD_eTM} {E_eTM} {nm_eTM} {q_eTM} {N_eTM} {bs_eTM} {bm_eTM} {sn_eTM} {sub_eTM} {ab_eTM} {col_eTM} {ddd_eTM} {m0_eTM} {m1_eTM} {m2_eTM} {m3_eTM} {m5_eTM} {f_eID} {oc_eID} {od_eID} {kV_eID} {dc_eID} {pm_eID} {an_eID} {ct_eID} {sl_eID} {cda_eID} {cc_eID} {ccl_eID} {cdd_eID} {vs_eID} {ccs_eID} {file_eID} {tf_eID} {cl_eID} {cld_eID} {csl_eID} {cdD_eID} {E_eID} {nm_eID} {q_eID} {N_eID} {bs_eID} {bm_eID} {sn_eID} {sub_eID} {ab_eID} {col_eID} {ddd_eID} {m0_eID} {m1_eID} {m2_eID} {m3_eID} {m5_eID} {f_tTWords} {oc_tTWords} {od_tTWords} {kV_tTWords} {dc_tTWords} {pm_tTWords} {an_tTWords} {cd_tTWords} {ct_tTWords} {sl_tTWords} {f_tTLooks} {oc_tTLooks} {od_tTLooks} {kV_tTLooks} {dc_tTLooks} {pm_tTLooks} {an_tTLooks} {cd_tTLooks} {ct_tTLooks} {sl_tTLooks} {f_tTEq} {oc_tTEq} {od_tTEq} {kV_tTEq} {dc_tTEq} {pm_tTEq} {an_tTEq} {cd_tTEq} {ct_tTEq} {sl_tTEq} {f_ClassCount} {oc_ClassCount} {od_ClassCount} {kV_ClassCount} {dc_ClassCount} {pm_ClassCount} {an_ClassCount} {cd_ClassCount} {ct_ClassCount} {sl_ClassCount} {f_ChkDiv} {oc_ChkDiv} {od_ChkDiv} {kV_ChkDiv} {dc_ChkDiv} {pm_ChkDiv} {an_ChkDiv} {cd_ChkDiv} {ct_ChkDiv} {sl_ChkDiv} {t_MAX_CLASSES} {f_AreSides} {oc_AreSides} {od_AreSides} {kV_AreSides} {dc_AreSides} {pm_AreSides} {an_AreSides} {cd_AreSides} {ct_AreSides} {sl_AreSides} {t_MAX_DIRECTIONS} {f_AreNums} {oc_AreNums} {od_AreNums} {kV_AreNums} {dc_AreNums} {pm_AreNums} {an_AreNums} {cd_AreNums} {ct_AreNums} {sl_AreNums} {f_IsNum} {oc_IsNum} {od_IsNum} {kV_IsNum} {dc_IsNum} {pm_IsNum} {an_IsNum} {cd_IsNum} {ct_IsNum} {sl_IsNum} {f_Product} {oc_Product} {od_Product} {kV_Product} {dc_Product} {pm_Product} {an_Product} {cd_Product} {ct_Product} {sl_Product} {f_Law} {oc_Law} {od_Law} {kV_Law} {dc_Law} {pm_Law} {an_Law} {ct_Law} {sl_Law} {cda} {Pt} {f_OtherErr} {oc_OtherErr} {od_OtherErr} {kV_OtherErr} {dc_OtherErr} {pm_OtherErr} {an_OtherErr} {ct_OtherErr} {sl_OtherErr} {cda2} {Pt2} {f_Try} {oc_Try} {od_Try} {kV_Try} {dc_Try} {pm_Try} {an_Try} {cd_Try} {ct_Try} {sl_Try} {f_Field} {oc_Field} {od_Field} {kV_Field} {dc_Field} {pm_Field} {an_Field} {cd_Field} {ct_Field} {sl_Field} {f_ChkLooks} {oc_ChkLooks} {od_ChkLooks} {kV_ChkLooks} {dc_ChkLooks} {pm_ChkLooks} {an_ChkLooks} {cd_ChkLooks} {ct_ChkLooks} {sl_ChkLooks} {t_MAX_LOOKS} {f_IsLook} {oc_IsLook} {od_IsLook} {kV_IsLook} {dc_IsLook} {pm_IsLook} {an_IsLook} {cd_IsLook} {ct_IsLook} {sl_IsLook} {t_MAX_REACH} {f_ChkWords} {oc_ChkWords} {od_ChkWords} {kV_ChkWords} {dc_ChkWords} {pm_ChkWords} {an_ChkWords} {cd_ChkWords} {ct_ChkWords} {sl_ChkWords} {f_IsWord} {oc_IsWord} {od_IsWord} {kV_IsWord} {dc_IsWord} {pm_IsWord} {an_IsWord} {cd_IsWord} {ct_IsWord} {sl_IsWord} {f_Of} {oc_Of} {od_Of} {kV_Of} {dc_Of} {pm_Of} {an_Of} {cd_Of} {ct_Of} {sl_Of} {f_Pull} {oc_Pull} {od_Pull} {kV_Pull} {dc_Pull} {pm_Pull} {an_Pull} {cd_Pull} {ct_Pull} {sl_Pull} {f_Odd} {oc_Odd} {od_Odd} {kV_Odd} {dc_Odd} {pm_Odd} {an_Odd} {cd_Odd} {ct_Odd} {sl_Odd} {f_DivErr} {oc_DivErr} {od_DivErr} {kV_DivErr} {dc_DivErr} {pm_DivErr} {an_DivErr} {cd_DivErr} {ct_DivErr} {sl_DivErr} {f_IsPlace} {oc_IsPlace} {od_IsPlace} {kV_IsPlace} {dc_IsPlace} {pm_IsPlace} {an_IsPlace} {cd_IsPlace} {ct_IsPlace} {sl_IsPlace} {f_Count} {oc_Count} {od_Count} {kV_Count} {dc_Count} {pm_Count} {an_Count} {cd_Count} {ct_Count} {sl_Count} {f_Bag} {oc_Bag} {od_Bag} {kV_Bag} {dc_Bag} {pm_Bag} {an_Bag} {cd_Bag} {ct_Bag} {sl_Bag} {f_Divisors} {oc_Divisors} {od_Divisors} {kV_Divisors} {dc_Divisors} {pm_Divisors} {an_Divisors} {cd_Divisors} {ct_Divisors} {sl_Divisors} {f_Mixed} {oc_Mixed} {od_Mixed} {kV_Mixed} {dc_Mixed} {pm_Mixed} {an_Mixed} {cd_Mixed} {ct_Mixed} {sl_Mixed} {f_LLooks} {oc_LLooks} {od_LLooks} {kV_LLooks} {dc_LLooks} {pm_LLooks} {an_LLooks} {cd_LLooks} {ct_LLooks} {sl_LLooks} {f_LWords} {oc_LWords} {od_LWords} {kV_LWords} {dc_LWords} {pm_LWords} {an_LWords} {cd_LWords} {ct_LWords} {sl_LWords} {f_BentWords} {oc_BentWords} {od_BentWords} {kV_BentWords} {dc_BentWords} {pm_BentWords} {an_BentWords} {cd_BentWords} {ct_BentWords} {sl_BentWords} {f_LSame} {oc_LSame} {od_LSame} {kV_LSame} {dc_LSame} {pm_LSame} {an_LSame} {cd_LSame} {ct_LSame} {sl_LSame}
    (aC : PySem.W.nsIn K mainGlobals "Table" = some (some (.ref C)))
    (aI : PySem.W.findIn K (.ref C) "__init__" = some (some (.ref fI)))
    (iI : PySem.W.isFn K (.ref fI) = true)
    (l_I : K.lookup fI = some ⟨oc_I, od_I, .func (PySem.W.fnOf "__init__" "Table.__init__" (defArgs sTInit) (defBody sTInit) (defScope sTInit) .none kV_I dc_I pm_I an_I cd_I ct_I), sl_I⟩)
    (c_I : PySem.W.codeIn K cd_I "Table.__init__" = true)
    (k_I : PySem.W.keepIn K (.ref fI) = true)
    (pg : PySem.W.plainGet K C Str.empty = true)
    (hd : PySem.W.hasDictIn K C = true)
    (po : PySem.W.plainOver K C = true)
    (sa : PySem.W.findIn K (.ref C) "__setattr__" = some (some (.builtin "object.__setattr__")))
    (mkC : PySem.W.makesIn K C = true)
    (kC : PySem.W.keepIn K (.ref C) = true)
    (nf0 : PySem.W.findIn K (.ref C) "own_looks" = some none)
    (nf1 : PySem.W.findIn K (.ref C) "own_divisors" = some none)
    (nf2 : PySem.W.findIn K (.ref C) "own_words" = some none)
    (z_super : PySem.W.nsIn K mainGlobals "super" = some none)
    (spT : (l.prog.main.scope.names.lookup ("super" : Str)).isSome = false)
    (spO : PySem.W.nsIn K cStatics "thirdparty.any" = some none)
    (aE_eSE : PySem.W.nsIn K mainGlobals "ScanError" = some (some (.ref E_eSE)))
    (iE_eSE : PySem.W.findIn K (.ref E_eSE) "__init__" = some (some (.ref f_eSE)))
    (lE_eSE : K.lookup f_eSE = some ⟨oc_eSE, od_eSE, .func (PySem.W.ksFn "__init__" "ScanError.__init__" (defArgs sSE) (defBody sSE) (defScope sSE) .none kV_eSE dc_eSE pm_eSE an_eSE (.ref cda_eSE) ct_eSE cc_eSE), sl_eSE⟩)
    (cE_eSE : PySem.W.codeIn K (.ref cda_eSE) "ScanError.__init__" = true)
    (lcE_eSE : K.lookup cda_eSE = some ⟨ccl_eSE, cdd_eSE, .fields vs_eSE, ccs_eSE⟩)
    (v2E_eSE : vs_eSE[2]? = some (.str file_eSE tf_eSE))
    (flE_eSE : ((l.prog.main.file : Str) == file_eSE) = true)
    (llE_eSE : K.lookup cc_eSE = some ⟨cl_eSE, cld_eSE, .cell (some (.ref E_eSE)), csl_eSE⟩)
    (lDE_eSE : PySem.W.clsIn K E_eSE = some cdD_eSE)
    (aE_eIL : PySem.W.nsIn K mainGlobals "InvalidLooks" = some (some (.ref E_eIL)))
    (iE_eIL : PySem.W.findIn K (.ref E_eIL) "__init__" = some (some (.ref f_eIL)))
    (lE_eIL : K.lookup f_eIL = some ⟨oc_eIL, od_eIL, .func (PySem.W.ksFn "__init__" "InvalidLooks.__init__" (defArgs sIL) (defBody sIL) (defScope sIL) .none kV_eIL dc_eIL pm_eIL an_eIL (.ref cda_eIL) ct_eIL cc_eIL), sl_eIL⟩)
    (cE_eIL : PySem.W.codeIn K (.ref cda_eIL) "InvalidLooks.__init__" = true)
    (lcE_eIL : K.lookup cda_eIL = some ⟨ccl_eIL, cdd_eIL, .fields vs_eIL, ccs_eIL⟩)
    (v2E_eIL : vs_eIL[2]? = some (.str file_eIL tf_eIL))
    (flE_eIL : ((l.prog.main.file : Str) == file_eIL) = true)
    (llE_eIL : K.lookup cc_eIL = some ⟨cl_eIL, cld_eIL, .cell (some (.ref E_eIL)), csl_eIL⟩)
    (lDE_eIL : PySem.W.clsIn K E_eIL = some cdD_eIL)
    (xL_eIL : K.lookup E_eIL = some (excClassObj nm_eIL q_eIL E_eIL N_eIL bs_eIL bm_eIL true sn_eIL sub_eIL ab_eIL col_eIL ddd_eIL m0_eIL m1_eIL m2_eIL m3_eIL m5_eIL "ValueError.__new__"))
    (xR_eIL : PySem.HandSPX.refsVE bm_eIL = true)
    (sa_eIL : PySem.W.findIn K (.ref E_eIL) "__setattr__" = some (some (.builtin "object.__setattr__")))
    (exC_eIL : PySem.W.subIn K (.ref E_eIL) (.type "BaseException") = some true)
    (tyC_eIL : PySem.W.typeIn K (.ref E_eIL) = some (.type "type"))
    (kpC_eIL : PySem.W.keepIn K (.ref E_eIL) = true)
    (s1_eIL : PySem.W.mroIn K E_eIL (.ref E_eIL) = some true)
    (s2_eIL : PySem.W.mroIn K E_eIL (.ref E_eSE) = some true)
    (m1x_eIL : PySem.W.ks_superIn K E_eIL E_eIL "__init__" = some (some (.ref f_eSE)))
    (m2x_eIL : PySem.W.ks_superIn K E_eIL E_eSE "__init__" = some (some (.builtin "ValueError.__init__")))
    (ve_eIL : PySem.W.subIn K (.ref E_eIL) (.type "ValueError") = some true)
    (tS_eSE : PySem.W.typeIn K (.ref f_eSE) = some (.type "function"))
    (fS_eSE : PySem.W.fnIn K f_eSE = true)
    (tI_eIL : PySem.W.typeIn K (.ref f_eIL) = some (.type "function"))
    (no_tag_eIL : PySem.W.findIn K (.ref E_eIL) "tag" = some none)
    (no_given_eIL : PySem.W.findIn K (.ref E_eIL) "given" = some none)
    (no_limit_eIL : PySem.W.findIn K (.ref E_eIL) "limit" = some none)
    (no_index_eIL : PySem.W.findIn K (.ref E_eIL) "index" = some none)
    (no_name_eIL : PySem.W.findIn K (.ref E_eIL) "name" = some none)
    (no_first_eIL : PySem.W.findIn K (.ref E_eIL) "first" = some none)
    (no_line_eIL : PySem.W.findIn K (.ref E_eIL) "line" = some none)
    (xga_eIL : PySem.W.findIn K (.ref E_eIL) "__getattribute__" = some (some (.builtin "BaseException.__getattribute__")))
    (xgg_eIL : PySem.W.findIn K (.ref E_eIL) "__getattr__" = some none)
    (xhd_eIL : PySem.W.hasDictIn K E_eIL = true)
    (xex_eIL : PySem.W.exmOne K (.ref E_eIL) (.ref E_eSE) = some true)
    (aE_eIW : PySem.W.nsIn K mainGlobals "InvalidWords" = some (some (.ref E_eIW)))
    (iE_eIW : PySem.W.findIn K (.ref E_eIW) "__init__" = some (some (.ref f_eIW)))
    (lE_eIW : K.lookup f_eIW = some ⟨oc_eIW, od_eIW, .func (PySem.W.ksFn "__init__" "InvalidWords.__init__" (defArgs sIW) (defBody sIW) (defScope sIW) .none kV_eIW dc_eIW pm_eIW an_eIW (.ref cda_eIW) ct_eIW cc_eIW), sl_eIW⟩)
    (cE_eIW : PySem.W.codeIn K (.ref cda_eIW) "InvalidWords.__init__" = true)
    (lcE_eIW : K.lookup cda_eIW = some ⟨ccl_eIW, cdd_eIW, .fields vs_eIW, ccs_eIW⟩)
    (v2E_eIW : vs_eIW[2]? = some (.str file_eIW tf_eIW))
    (flE_eIW : ((l.prog.main.file : Str) == file_eIW) = true)
    (llE_eIW : K.lookup cc_eIW = some ⟨cl_eIW, cld_eIW, .cell (some (.ref E_eIW)), csl_eIW⟩)
    (lDE_eIW : PySem.W.clsIn K E_eIW = some cdD_eIW)
    (xL_eIW : K.lookup E_eIW = some (excClassObj nm_eIW q_eIW E_eIW N_eIW bs_eIW bm_eIW true sn_eIW sub_eIW ab_eIW col_eIW ddd_eIW m0_eIW m1_eIW m2_eIW m3_eIW m5_eIW "ValueError.__new__"))
    (xR_eIW : PySem.HandSPX.refsVE bm_eIW = true)
    (sa_eIW : PySem.W.findIn K (.ref E_eIW) "__setattr__" = some (some (.builtin "object.__setattr__")))
    (exC_eIW : PySem.W.subIn K (.ref E_eIW) (.type "BaseException") = some true)
    (tyC_eIW : PySem.W.typeIn K (.ref E_eIW) = some (.type "type"))
    (kpC_eIW : PySem.W.keepIn K (.ref E_eIW) = true)
    (s1_eIW : PySem.W.mroIn K E_eIW (.ref E_eIW) = some true)
    (s2_eIW : PySem.W.mroIn K E_eIW (.ref E_eSE) = some true)
    (m1x_eIW : PySem.W.ks_superIn K E_eIW E_eIW "__init__" = some (some (.ref f_eSE)))
    (m2x_eIW : PySem.W.ks_superIn K E_eIW E_eSE "__init__" = some (some (.builtin "ValueError.__init__")))
    (ve_eIW : PySem.W.subIn K (.ref E_eIW) (.type "ValueError") = some true)
    (tI_eIW : PySem.W.typeIn K (.ref f_eIW) = some (.type "function"))
    (no_tag_eIW : PySem.W.findIn K (.ref E_eIW) "tag" = some none)
    (no_given_eIW : PySem.W.findIn K (.ref E_eIW) "given" = some none)
    (no_limit_eIW : PySem.W.findIn K (.ref E_eIW) "limit" = some none)
    (no_index_eIW : PySem.W.findIn K (.ref E_eIW) "index" = some none)
    (no_name_eIW : PySem.W.findIn K (.ref E_eIW) "name" = some none)
    (no_first_eIW : PySem.W.findIn K (.ref E_eIW) "first" = some none)
    (no_line_eIW : PySem.W.findIn K (.ref E_eIW) "line" = some none)
    (xga_eIW : PySem.W.findIn K (.ref E_eIW) "__getattribute__" = some (some (.builtin "BaseException.__getattribute__")))
    (xgg_eIW : PySem.W.findIn K (.ref E_eIW) "__getattr__" = some none)
    (xhd_eIW : PySem.W.hasDictIn K E_eIW = true)
    (xex_eIW : PySem.W.exmOne K (.ref E_eIW) (.ref E_eSE) = some true)
    (aE_eTM : PySem.W.nsIn K mainGlobals "TooManyClasses" = some (some (.ref E_eTM)))
    (iE_eTM : PySem.W.findIn K (.ref E_eTM) "__init__" = some (some (.ref f_eTM)))
    (lE_eTM : K.lookup f_eTM = some ⟨oc_eTM, od_eTM, .func (PySem.W.ksFn "__init__" "TooManyClasses.__init__" (defArgs sTM) (defBody sTM) (defScope sTM) .none kV_eTM dc_eTM pm_eTM an_eTM (.ref cda_eTM) ct_eTM cc_eTM), sl_eTM⟩)
    (cE_eTM : PySem.W.codeIn K (.ref cda_eTM) "TooManyClasses.__init__" = true)
    (lcE_eTM : K.lookup cda_eTM = some ⟨ccl_eTM, cdd_eTM, .fields vs_eTM, ccs_eTM⟩)
    (v2E_eTM : vs_eTM[2]? = some (.str file_eTM tf_eTM))
    (flE_eTM : ((l.prog.main.file : Str) == file_eTM) = true)
    (llE_eTM : K.lookup cc_eTM = some ⟨cl_eTM, cld_eTM, .cell (some (.ref E_eTM)), csl_eTM⟩)
    (lDE_eTM : PySem.W.clsIn K E_eTM = some cdD_eTM)
    (xL_eTM : K.lookup E_eTM = some (excClassObj nm_eTM q_eTM E_eTM N_eTM bs_eTM bm_eTM true sn_eTM sub_eTM ab_eTM col_eTM ddd_eTM m0_eTM m1_eTM m2_eTM m3_eTM m5_eTM "ValueError.__new__"))
    (xR_eTM : PySem.HandSPX.refsVE bm_eTM = true)
    (sa_eTM : PySem.W.findIn K (.ref E_eTM) "__setattr__" = some (some (.builtin "object.__setattr__")))
    (exC_eTM : PySem.W.subIn K (.ref E_eTM) (.type "BaseException") = some true)
    (tyC_eTM : PySem.W.typeIn K (.ref E_eTM) = some (.type "type"))
    (kpC_eTM : PySem.W.keepIn K (.ref E_eTM) = true)
    (s1_eTM : PySem.W.mroIn K E_eTM (.ref E_eTM) = some true)
    (s2_eTM : PySem.W.mroIn K E_eTM (.ref E_eSE) = some true)
    (m1x_eTM : PySem.W.ks_superIn K E_eTM E_eTM "__init__" = some (some (.ref f_eSE)))
    (m2x_eTM : PySem.W.ks_superIn K E_eTM E_eSE "__init__" = some (some (.builtin "ValueError.__init__")))
    (ve_eTM : PySem.W.subIn K (.ref E_eTM) (.type "ValueError") = some true)
    (tI_eTM : PySem.W.typeIn K (.ref f_eTM) = some (.type "function"))
    (no_tag_eTM : PySem.W.findIn K (.ref E_eTM) "tag" = some none)
    (no_given_eTM : PySem.W.findIn K (.ref E_eTM) "given" = some none)
    (no_limit_eTM : PySem.W.findIn K (.ref E_eTM) "limit" = some none)
    (no_index_eTM : PySem.W.findIn K (.ref E_eTM) "index" = some none)
    (no_name_eTM : PySem.W.findIn K (.ref E_eTM) "name" = some none)
    (no_first_eTM : PySem.W.findIn K (.ref E_eTM) "first" = some none)
    (no_line_eTM : PySem.W.findIn K (.ref E_eTM) "line" = some none)
    (xga_eTM : PySem.W.findIn K (.ref E_eTM) "__getattribute__" = some (some (.builtin "BaseException.__getattribute__")))
    (xgg_eTM : PySem.W.findIn K (.ref E_eTM) "__getattr__" = some none)
    (xhd_eTM : PySem.W.hasDictIn K E_eTM = true)
    (xex_eTM : PySem.W.exmOne K (.ref E_eTM) (.ref E_eSE) = some true)
    (aE_eID : PySem.W.nsIn K mainGlobals "InvalidDivisors" = some (some (.ref E_eID)))
    (iE_eID : PySem.W.findIn K (.ref E_eID) "__init__" = some (some (.ref f_eID)))
    (lE_eID : K.lookup f_eID = some ⟨oc_eID, od_eID, .func (PySem.W.ksFn "__init__" "InvalidDivisors.__init__" (defArgs sID) (defBody sID) (defScope sID) .none kV_eID dc_eID pm_eID an_eID (.ref cda_eID) ct_eID cc_eID), sl_eID⟩)
    (cE_eID : PySem.W.codeIn K (.ref cda_eID) "InvalidDivisors.__init__" = true)
    (lcE_eID : K.lookup cda_eID = some ⟨ccl_eID, cdd_eID, .fields vs_eID, ccs_eID⟩)
    (v2E_eID : vs_eID[2]? = some (.str file_eID tf_eID))
    (flE_eID : ((l.prog.main.file : Str) == file_eID) = true)
    (llE_eID : K.lookup cc_eID = some ⟨cl_eID, cld_eID, .cell (some (.ref E_eID)), csl_eID⟩)
    (lDE_eID : PySem.W.clsIn K E_eID = some cdD_eID)
    (xL_eID : K.lookup E_eID = some (excClassObj nm_eID q_eID E_eID N_eID bs_eID bm_eID true sn_eID sub_eID ab_eID col_eID ddd_eID m0_eID m1_eID m2_eID m3_eID m5_eID "ValueError.__new__"))
    (xR_eID : PySem.HandSPX.refsVE bm_eID = true)
    (sa_eID : PySem.W.findIn K (.ref E_eID) "__setattr__" = some (some (.builtin "object.__setattr__")))
    (exC_eID : PySem.W.subIn K (.ref E_eID) (.type "BaseException") = some true)
    (tyC_eID : PySem.W.typeIn K (.ref E_eID) = some (.type "type"))
    (kpC_eID : PySem.W.keepIn K (.ref E_eID) = true)
    (s1_eID : PySem.W.mroIn K E_eID (.ref E_eID) = some true)
    (s2_eID : PySem.W.mroIn K E_eID (.ref E_eSE) = some true)
    (m1x_eID : PySem.W.ks_superIn K E_eID E_eID "__init__" = some (some (.ref f_eSE)))
    (m2x_eID : PySem.W.ks_superIn K E_eID E_eSE "__init__" = some (some (.builtin "ValueError.__init__")))
    (ve_eID : PySem.W.subIn K (.ref E_eID) (.type "ValueError") = some true)
    (tI_eID : PySem.W.typeIn K (.ref f_eID) = some (.type "function"))
    (no_tag_eID : PySem.W.findIn K (.ref E_eID) "tag" = some none)
    (no_given_eID : PySem.W.findIn K (.ref E_eID) "given" = some none)
    (no_limit_eID : PySem.W.findIn K (.ref E_eID) "limit" = some none)
    (no_index_eID : PySem.W.findIn K (.ref E_eID) "index" = some none)
    (no_name_eID : PySem.W.findIn K (.ref E_eID) "name" = some none)
    (no_first_eID : PySem.W.findIn K (.ref E_eID) "first" = some none)
    (no_line_eID : PySem.W.findIn K (.ref E_eID) "line" = some none)
    (xga_eID : PySem.W.findIn K (.ref E_eID) "__getattribute__" = some (some (.builtin "BaseException.__getattribute__")))
    (xgg_eID : PySem.W.findIn K (.ref E_eID) "__getattr__" = some none)
    (xhd_eID : PySem.W.hasDictIn K E_eID = true)
    (xex_eID : PySem.W.exmOne K (.ref E_eID) (.ref E_eSE) = some true)
    (icA : PySem.W.findIn K (.ref C) "__class__" = some (some (.builtin "object.__class__")))
    (icN : PySem.W.specialIn K (.builtin "object.__class__") "__get__" = some (some (.builtin "getset_descriptor.__get__")))
    (icT : PySem.W.takesIn K (.builtin "object.__class__") = some true)
    (icM : PySem.W.mroIn K C (.type "object") = some true)
    (icK : PySem.W.kitOne K (.ref C) (.ref C) = some true)
    (am_tTWords : PySem.W.findIn K (.ref C) "words" = some (some (.ref f_tTWords)))
    (im_tTWords : PySem.W.isFn K (.ref f_tTWords) = true)
    (l_tTWords : K.lookup f_tTWords = some ⟨oc_tTWords, od_tTWords, .func (PySem.W.fnOf "words" "Table.words" (defArgs sTWords) (defBody sTWords) (defScope sTWords) .none kV_tTWords dc_tTWords pm_tTWords an_tTWords cd_tTWords ct_tTWords), sl_tTWords⟩)
    (c_tTWords : PySem.W.codeIn K cd_tTWords "Table.words" = true)
    (k_tTWords : PySem.W.keepIn K (.ref f_tTWords) = true)
    (am_tTLooks : PySem.W.findIn K (.ref C) "looks" = some (some (.ref f_tTLooks)))
    (im_tTLooks : PySem.W.isFn K (.ref f_tTLooks) = true)
    (l_tTLooks : K.lookup f_tTLooks = some ⟨oc_tTLooks, od_tTLooks, .func (PySem.W.fnOf "looks" "Table.looks" (defArgs sTLooks) (defBody sTLooks) (defScope sTLooks) .none kV_tTLooks dc_tTLooks pm_tTLooks an_tTLooks cd_tTLooks ct_tTLooks), sl_tTLooks⟩)
    (c_tTLooks : PySem.W.codeIn K cd_tTLooks "Table.looks" = true)
    (k_tTLooks : PySem.W.keepIn K (.ref f_tTLooks) = true)
    (am_tTEq : PySem.W.findIn K (.ref C) "__eq__" = some (some (.ref f_tTEq)))
    (im_tTEq : PySem.W.isFn K (.ref f_tTEq) = true)
    (l_tTEq : K.lookup f_tTEq = some ⟨oc_tTEq, od_tTEq, .func (PySem.W.fnOf "__eq__" "Table.__eq__" (defArgs sTEq) (defBody sTEq) (defScope sTEq) .none kV_tTEq dc_tTEq pm_tTEq an_tTEq cd_tTEq ct_tTEq), sl_tTEq⟩)
    (c_tTEq : PySem.W.codeIn K cd_tTEq "Table.__eq__" = true)
    (k_tTEq : PySem.W.keepIn K (.ref f_tTEq) = true)
    (a_ClassCount : PySem.W.nsIn K mainGlobals "class_count" = some (some (.ref f_ClassCount)))
    (l_ClassCount : K.lookup f_ClassCount = some ⟨oc_ClassCount, od_ClassCount, .func (PySem.W.fnOf "class_count" "class_count" (defArgs sClassCount) (defBody sClassCount) (defScope sClassCount) .none kV_ClassCount dc_ClassCount pm_ClassCount an_ClassCount cd_ClassCount ct_ClassCount), sl_ClassCount⟩)
    (c_ClassCount : PySem.W.codeIn K cd_ClassCount "class_count" = true)
    (k_ClassCount : PySem.W.keepIn K (.ref f_ClassCount) = true)
    (a_ChkDiv : PySem.W.nsIn K mainGlobals "check_divisors" = some (some (.ref f_ChkDiv)))
    (l_ChkDiv : K.lookup f_ChkDiv = some ⟨oc_ChkDiv, od_ChkDiv, .func (PySem.W.fnOf "check_divisors" "check_divisors" (defArgs sChkDiv) (defBody sChkDiv) (defScope sChkDiv) .none kV_ChkDiv dc_ChkDiv pm_ChkDiv an_ChkDiv cd_ChkDiv ct_ChkDiv), sl_ChkDiv⟩)
    (c_ChkDiv : PySem.W.codeIn K cd_ChkDiv "check_divisors" = true)
    (k_ChkDiv : PySem.W.keepIn K (.ref f_ChkDiv) = true)
    (n_MAX_CLASSES : PySem.W.nsIn K mainGlobals "MAX_CLASSES" = some (some (.int 12 t_MAX_CLASSES)))
    (a_AreSides : PySem.W.nsIn K mainGlobals "are_sides" = some (some (.ref f_AreSides)))
    (l_AreSides : K.lookup f_AreSides = some ⟨oc_AreSides, od_AreSides, .func (PySem.W.fnOf "are_sides" "are_sides" (defArgs sAreSides) (defBody sAreSides) (defScope sAreSides) .none kV_AreSides dc_AreSides pm_AreSides an_AreSides cd_AreSides ct_AreSides), sl_AreSides⟩)
    (c_AreSides : PySem.W.codeIn K cd_AreSides "are_sides" = true)
    (k_AreSides : PySem.W.keepIn K (.ref f_AreSides) = true)
    (z_isinstance : PySem.W.nsIn K mainGlobals "isinstance" = some none)
    (z_tuple : PySem.W.nsIn K mainGlobals "tuple" = some none)
    (z_len : PySem.W.nsIn K mainGlobals "len" = some none)
    (z_min : PySem.W.nsIn K mainGlobals "min" = some none)
    (n_MAX_DIRECTIONS : PySem.W.nsIn K mainGlobals "MAX_DIRECTIONS" = some (some (.int 3 t_MAX_DIRECTIONS)))
    (a_AreNums : PySem.W.nsIn K mainGlobals "are_numbers" = some (some (.ref f_AreNums)))
    (l_AreNums : K.lookup f_AreNums = some ⟨oc_AreNums, od_AreNums, .func (PySem.W.fnOf "are_numbers" "are_numbers" (defArgs sAreNums) (defBody sAreNums) (defScope sAreNums) .none kV_AreNums dc_AreNums pm_AreNums an_AreNums cd_AreNums ct_AreNums), sl_AreNums⟩)
    (c_AreNums : PySem.W.codeIn K cd_AreNums "are_numbers" = true)
    (k_AreNums : PySem.W.keepIn K (.ref f_AreNums) = true)
    (z_all : PySem.W.nsIn K mainGlobals "all" = some none)
    (a_IsNum : PySem.W.nsIn K mainGlobals "is_number" = some (some (.ref f_IsNum)))
    (l_IsNum : K.lookup f_IsNum = some ⟨oc_IsNum, od_IsNum, .func (PySem.W.fnOf "is_number" "is_number" (defArgs sIsNum) (defBody sIsNum) (defScope sIsNum) .none kV_IsNum dc_IsNum pm_IsNum an_IsNum cd_IsNum ct_IsNum), sl_IsNum⟩)
    (c_IsNum : PySem.W.codeIn K cd_IsNum "is_number" = true)
    (k_IsNum : PySem.W.keepIn K (.ref f_IsNum) = true)
    (z_int : PySem.W.nsIn K mainGlobals "int" = some none)
    (z_bool : PySem.W.nsIn K mainGlobals "bool" = some none)
    (a_Product : PySem.W.nsIn K mainGlobals "product" = some (some (.ref f_Product)))
    (l_Product : K.lookup f_Product = some ⟨oc_Product, od_Product, .func (PySem.W.fnOf "product" "product" (defArgs sProduct) (defBody sProduct) (defScope sProduct) .none kV_Product dc_Product pm_Product an_Product cd_Product ct_Product), sl_Product⟩)
    (c_Product : PySem.W.codeIn K cd_Product "product" = true)
    (k_Product : PySem.W.keepIn K (.ref f_Product) = true)
    (a_Law : PySem.W.nsIn K mainGlobals "law" = some (some (.ref f_Law)))
    (l_Law : K.lookup f_Law = some ⟨oc_Law, od_Law, .func (PySem.W.fnOf "law" "law" (defArgs sLaw) (defBody sLaw) (defScope sLaw) .none kV_Law dc_Law pm_Law an_Law (.ref cda) ct_Law), sl_Law⟩)
    (c_Law : PySem.W.codeIn K (.ref cda) "law" = true)
    (k_Law : PySem.W.keepIn K (.ref f_Law) = true)
    (lPt : K.lookup Pt = none)
    (tab : h.get? Pt = some { cls := .none, data := .fields #[] })
    (a_OtherErr : PySem.W.nsIn K mainGlobals "_law_other_errors" = some (some (.ref f_OtherErr)))
    (l_OtherErr : K.lookup f_OtherErr = some ⟨oc_OtherErr, od_OtherErr, .func (PySem.W.fnOf "_law_other_errors" "_law_other_errors" (defArgs sOtherErr) (defBody sOtherErr) (defScope sOtherErr) .none kV_OtherErr dc_OtherErr pm_OtherErr an_OtherErr (.ref cda2) ct_OtherErr), sl_OtherErr⟩)
    (c_OtherErr : PySem.W.codeIn K (.ref cda2) "_law_other_errors" = true)
    (k_OtherErr : PySem.W.keepIn K (.ref f_OtherErr) = true)
    (lPt2 : K.lookup Pt2 = none)
    (tab2 : h.get? Pt2 = some { cls := .none, data := .fields #[] })
    (hPt : Pt ≠ Pt2)
    (a_Try : PySem.W.nsIn K mainGlobals "_law_try" = some (some (.ref f_Try)))
    (l_Try : K.lookup f_Try = some ⟨oc_Try, od_Try, .func (PySem.W.fnOf "_law_try" "_law_try" (defArgs sTry) (defBody sTry) (defScope sTry) .none kV_Try dc_Try pm_Try an_Try cd_Try ct_Try), sl_Try⟩)
    (c_Try : PySem.W.codeIn K cd_Try "_law_try" = true)
    (k_Try : PySem.W.keepIn K (.ref f_Try) = true)
    (a_Field : PySem.W.nsIn K mainGlobals "_law_field" = some (some (.ref f_Field)))
    (l_Field : K.lookup f_Field = some ⟨oc_Field, od_Field, .func (PySem.W.fnOf "_law_field" "_law_field" (defArgs sField) (defBody sField) (defScope sField) .none kV_Field dc_Field pm_Field an_Field cd_Field ct_Field), sl_Field⟩)
    (c_Field : PySem.W.codeIn K cd_Field "_law_field" = true)
    (k_Field : PySem.W.keepIn K (.ref f_Field) = true)
    (a_ChkLooks : PySem.W.nsIn K mainGlobals "checked_looks" = some (some (.ref f_ChkLooks)))
    (l_ChkLooks : K.lookup f_ChkLooks = some ⟨oc_ChkLooks, od_ChkLooks, .func (PySem.W.fnOf "checked_looks" "checked_looks" (defArgs sChkLooks) (defBody sChkLooks) (defScope sChkLooks) .none kV_ChkLooks dc_ChkLooks pm_ChkLooks an_ChkLooks cd_ChkLooks ct_ChkLooks), sl_ChkLooks⟩)
    (c_ChkLooks : PySem.W.codeIn K cd_ChkLooks "checked_looks" = true)
    (k_ChkLooks : PySem.W.keepIn K (.ref f_ChkLooks) = true)
    (z_list : PySem.W.nsIn K mainGlobals "list" = some none)
    (z_set : PySem.W.nsIn K mainGlobals "set" = some none)
    (z_enumerate : PySem.W.nsIn K mainGlobals "enumerate" = some none)
    (n_MAX_LOOKS : PySem.W.nsIn K mainGlobals "MAX_LOOKS" = some (some (.int 4 t_MAX_LOOKS)))
    (a_IsLook : PySem.W.nsIn K mainGlobals "is_look" = some (some (.ref f_IsLook)))
    (l_IsLook : K.lookup f_IsLook = some ⟨oc_IsLook, od_IsLook, .func (PySem.W.fnOf "is_look" "is_look" (defArgs sIsLook) (defBody sIsLook) (defScope sIsLook) .none kV_IsLook dc_IsLook pm_IsLook an_IsLook cd_IsLook ct_IsLook), sl_IsLook⟩)
    (c_IsLook : PySem.W.codeIn K cd_IsLook "is_look" = true)
    (k_IsLook : PySem.W.keepIn K (.ref f_IsLook) = true)
    (z_abs : PySem.W.nsIn K mainGlobals "abs" = some none)
    (z_max : PySem.W.nsIn K mainGlobals "max" = some none)
    (n_MAX_REACH : PySem.W.nsIn K mainGlobals "MAX_REACH" = some (some (.int 9 t_MAX_REACH)))
    (a_ChkWords : PySem.W.nsIn K mainGlobals "check_words" = some (some (.ref f_ChkWords)))
    (l_ChkWords : K.lookup f_ChkWords = some ⟨oc_ChkWords, od_ChkWords, .func (PySem.W.fnOf "check_words" "check_words" (defArgs sChkWords) (defBody sChkWords) (defScope sChkWords) .none kV_ChkWords dc_ChkWords pm_ChkWords an_ChkWords cd_ChkWords ct_ChkWords), sl_ChkWords⟩)
    (c_ChkWords : PySem.W.codeIn K cd_ChkWords "check_words" = true)
    (k_ChkWords : PySem.W.keepIn K (.ref f_ChkWords) = true)
    (a_IsWord : PySem.W.nsIn K mainGlobals "is_word" = some (some (.ref f_IsWord)))
    (l_IsWord : K.lookup f_IsWord = some ⟨oc_IsWord, od_IsWord, .func (PySem.W.fnOf "is_word" "is_word" (defArgs sIsWord) (defBody sIsWord) (defScope sIsWord) .none kV_IsWord dc_IsWord pm_IsWord an_IsWord cd_IsWord ct_IsWord), sl_IsWord⟩)
    (c_IsWord : PySem.W.codeIn K cd_IsWord "is_word" = true)
    (k_IsWord : PySem.W.keepIn K (.ref f_IsWord) = true)
    (z_str : PySem.W.nsIn K mainGlobals "str" = some none)
    (a_Of : PySem.W.nsIn K mainGlobals "_law_of" = some (some (.ref f_Of)))
    (l_Of : K.lookup f_Of = some ⟨oc_Of, od_Of, .func (PySem.W.fnOf "_law_of" "_law_of" (defArgs sOf) (defBody sOf) (defScope sOf) .none kV_Of dc_Of pm_Of an_Of cd_Of ct_Of), sl_Of⟩)
    (c_Of : PySem.W.codeIn K cd_Of "_law_of" = true)
    (k_Of : PySem.W.keepIn K (.ref f_Of) = true)
    (a_Pull : PySem.W.nsIn K mainGlobals "_law_pull" = some (some (.ref f_Pull)))
    (l_Pull : K.lookup f_Pull = some ⟨oc_Pull, od_Pull, .func (PySem.W.fnOf "_law_pull" "_law_pull" (defArgs sPull) (defBody sPull) (defScope sPull) .none kV_Pull dc_Pull pm_Pull an_Pull cd_Pull ct_Pull), sl_Pull⟩)
    (c_Pull : PySem.W.codeIn K cd_Pull "_law_pull" = true)
    (k_Pull : PySem.W.keepIn K (.ref f_Pull) = true)
    (a_Odd : PySem.W.nsIn K mainGlobals "_law_odd" = some (some (.ref f_Odd)))
    (l_Odd : K.lookup f_Odd = some ⟨oc_Odd, od_Odd, .func (PySem.W.fnOf "_law_odd" "_law_odd" (defArgs sOdd) (defBody sOdd) (defScope sOdd) .none kV_Odd dc_Odd pm_Odd an_Odd cd_Odd ct_Odd), sl_Odd⟩)
    (c_Odd : PySem.W.codeIn K cd_Odd "_law_odd" = true)
    (k_Odd : PySem.W.keepIn K (.ref f_Odd) = true)
    (a_DivErr : PySem.W.nsIn K mainGlobals "_law_divisors_error" = some (some (.ref f_DivErr)))
    (l_DivErr : K.lookup f_DivErr = some ⟨oc_DivErr, od_DivErr, .func (PySem.W.fnOf "_law_divisors_error" "_law_divisors_error" (defArgs sDivErr) (defBody sDivErr) (defScope sDivErr) .none kV_DivErr dc_DivErr pm_DivErr an_DivErr cd_DivErr ct_DivErr), sl_DivErr⟩)
    (c_DivErr : PySem.W.codeIn K cd_DivErr "_law_divisors_error" = true)
    (k_DivErr : PySem.W.keepIn K (.ref f_DivErr) = true)
    (a_IsPlace : PySem.W.nsIn K mainGlobals "_law_is_place" = some (some (.ref f_IsPlace)))
    (l_IsPlace : K.lookup f_IsPlace = some ⟨oc_IsPlace, od_IsPlace, .func (PySem.W.fnOf "_law_is_place" "_law_is_place" (defArgs sIsPlace) (defBody sIsPlace) (defScope sIsPlace) .none kV_IsPlace dc_IsPlace pm_IsPlace an_IsPlace cd_IsPlace ct_IsPlace), sl_IsPlace⟩)
    (c_IsPlace : PySem.W.codeIn K cd_IsPlace "_law_is_place" = true)
    (k_IsPlace : PySem.W.keepIn K (.ref f_IsPlace) = true)
    (a_Count : PySem.W.nsIn K mainGlobals "_law_count" = some (some (.ref f_Count)))
    (l_Count : K.lookup f_Count = some ⟨oc_Count, od_Count, .func (PySem.W.fnOf "_law_count" "_law_count" (defArgs sCount) (defBody sCount) (defScope sCount) .none kV_Count dc_Count pm_Count an_Count cd_Count ct_Count), sl_Count⟩)
    (c_Count : PySem.W.codeIn K cd_Count "_law_count" = true)
    (k_Count : PySem.W.keepIn K (.ref f_Count) = true)
    (z_range : PySem.W.nsIn K mainGlobals "range" = some none)
    (a_Bag : PySem.W.nsIn K mainGlobals "_law_bag" = some (some (.ref f_Bag)))
    (l_Bag : K.lookup f_Bag = some ⟨oc_Bag, od_Bag, .func (PySem.W.fnOf "_law_bag" "_law_bag" (defArgs sBag) (defBody sBag) (defScope sBag) .none kV_Bag dc_Bag pm_Bag an_Bag cd_Bag ct_Bag), sl_Bag⟩)
    (c_Bag : PySem.W.codeIn K cd_Bag "_law_bag" = true)
    (k_Bag : PySem.W.keepIn K (.ref f_Bag) = true)
    (a_Divisors : PySem.W.nsIn K mainGlobals "_law_divisors" = some (some (.ref f_Divisors)))
    (l_Divisors : K.lookup f_Divisors = some ⟨oc_Divisors, od_Divisors, .func (PySem.W.fnOf "_law_divisors" "_law_divisors" (defArgs sDivisors) (defBody sDivisors) (defScope sDivisors) .none kV_Divisors dc_Divisors pm_Divisors an_Divisors cd_Divisors ct_Divisors), sl_Divisors⟩)
    (c_Divisors : PySem.W.codeIn K cd_Divisors "_law_divisors" = true)
    (k_Divisors : PySem.W.keepIn K (.ref f_Divisors) = true)
    (a_Mixed : PySem.W.nsIn K mainGlobals "_law_mixed" = some (some (.ref f_Mixed)))
    (l_Mixed : K.lookup f_Mixed = some ⟨oc_Mixed, od_Mixed, .func (PySem.W.fnOf "_law_mixed" "_law_mixed" (defArgs sMixed) (defBody sMixed) (defScope sMixed) .none kV_Mixed dc_Mixed pm_Mixed an_Mixed cd_Mixed ct_Mixed), sl_Mixed⟩)
    (c_Mixed : PySem.W.codeIn K cd_Mixed "_law_mixed" = true)
    (k_Mixed : PySem.W.keepIn K (.ref f_Mixed) = true)
    (a_LLooks : PySem.W.nsIn K mainGlobals "_law_looks" = some (some (.ref f_LLooks)))
    (l_LLooks : K.lookup f_LLooks = some ⟨oc_LLooks, od_LLooks, .func (PySem.W.fnOf "_law_looks" "_law_looks" (defArgs sLLooks) (defBody sLLooks) (defScope sLLooks) .none kV_LLooks dc_LLooks pm_LLooks an_LLooks cd_LLooks ct_LLooks), sl_LLooks⟩)
    (c_LLooks : PySem.W.codeIn K cd_LLooks "_law_looks" = true)
    (k_LLooks : PySem.W.keepIn K (.ref f_LLooks) = true)
    (a_LWords : PySem.W.nsIn K mainGlobals "_law_words" = some (some (.ref f_LWords)))
    (l_LWords : K.lookup f_LWords = some ⟨oc_LWords, od_LWords, .func (PySem.W.fnOf "_law_words" "_law_words" (defArgs sLWords) (defBody sLWords) (defScope sLWords) .none kV_LWords dc_LWords pm_LWords an_LWords cd_LWords ct_LWords), sl_LWords⟩)
    (c_LWords : PySem.W.codeIn K cd_LWords "_law_words" = true)
    (k_LWords : PySem.W.keepIn K (.ref f_LWords) = true)
    (a_BentWords : PySem.W.nsIn K mainGlobals "_law_bent_words" = some (some (.ref f_BentWords)))
    (l_BentWords : K.lookup f_BentWords = some ⟨oc_BentWords, od_BentWords, .func (PySem.W.fnOf "_law_bent_words" "_law_bent_words" (defArgs sBentWords) (defBody sBentWords) (defScope sBentWords) .none kV_BentWords dc_BentWords pm_BentWords an_BentWords cd_BentWords ct_BentWords), sl_BentWords⟩)
    (c_BentWords : PySem.W.codeIn K cd_BentWords "_law_bent_words" = true)
    (k_BentWords : PySem.W.keepIn K (.ref f_BentWords) = true)
    (a_LSame : PySem.W.nsIn K mainGlobals "_law_same" = some (some (.ref f_LSame)))
    (l_LSame : K.lookup f_LSame = some ⟨oc_LSame, od_LSame, .func (PySem.W.fnOf "_law_same" "_law_same" (defArgs sLSame) (defBody sLSame) (defScope sLSame) .none kV_LSame dc_LSame pm_LSame an_LSame cd_LSame ct_LSame), sl_LSame⟩)
    (c_LSame : PySem.W.codeIn K cd_LSame "_law_same" = true)
    (k_LSame : PySem.W.keepIn K (.ref f_LSame) = true)
    (z_dict : PySem.W.nsIn K mainGlobals "dict" = some none)
    (z_zip : PySem.W.nsIn K mainGlobals "zip" = some none)
    (hdT : PySem.W.codeHdIn K cda Pt = true)
    (hdT2 : PySem.W.codeHdIn K cda2 Pt2 = true) :
    LawAtS l w K CX0 12 63 "_law_script" mg fa h := by
  have ee := hfa.symm.trans (PySem.W.mg_of X G a_Law)
  cases ee
  have T : TTab K mg C := ⟨⟨pg, hd, po, sa⟩, nf0, nf1, nf2, PySem.W.mg_of X G aC⟩
  have FI := fun_mk (st := sTInit) l_I c_I k_I
  have bI := FI.binds (ps := ["self", "divisors", "looks", "words"]) fun _ _ _ _ _ _ us hl => match us, hl with | [_, _, _, _], _ => rfl
  have kbI := kb_tab (K := K) (fun s l w d st => BindsTo.of_eq (s := st) (fd := (PySem.W.fnOf "__init__" "Table.__init__" (defArgs sTInit) (defBody sTInit) (defScope sTInit) .none kV_I dc_I pm_I an_I cd_I ct_I)) rfl)
  have MI : Mk K C fI := ⟨mkC, aI, iI, kC⟩
  have b_super := PySem.W.mg_none_of X G z_super
  have I_eSE : InitF l.prog K mg "ScanError.__init__" sSE E_eSE f_eSE cc_eSE cda_eSE _ := ⟨⟨_, _, _, _, _, _, _, _, rfl, lE_eSE⟩, cE_eSE, ⟨_, _, _, _, _, _, lcE_eSE, v2E_eSE, flE_eSE⟩, ⟨_, _, _, llE_eSE⟩, ⟨_, lDE_eSE⟩, b_super, spT, spO⟩
  have B_eSE : Binds K (PySem.W.ksFn "__init__" "ScanError.__init__" (defArgs sSE) (defBody sSE) (defScope sSE) .none kV_eSE dc_eSE pm_eSE an_eSE (.ref cda_eSE) ct_eSE cc_eSE) ["self", "tag", "why"] [] := Binds.all fun us hl => match us, hl with | [_, _, _], _ => rfl
  have at_eSE := PySem.W.mg_of X G aE_eSE
  have I_eIL : InitF l.prog K mg "InvalidLooks.__init__" sIL E_eIL f_eIL cc_eIL cda_eIL _ := ⟨⟨_, _, _, _, _, _, _, _, rfl, lE_eIL⟩, cE_eIL, ⟨_, _, _, _, _, _, lcE_eIL, v2E_eIL, flE_eIL⟩, ⟨_, _, _, llE_eIL⟩, ⟨_, lDE_eIL⟩, b_super, spT, spO⟩
  have B_eIL : Binds K (PySem.W.ksFn "__init__" "InvalidLooks.__init__" (defArgs sIL) (defBody sIL) (defScope sIL) .none kV_eIL dc_eIL pm_eIL an_eIL (.ref cda_eIL) ct_eIL cc_eIL) ["self", "index"] [] := Binds.all fun us hl => match us, hl with | [_, _], _ => rfl
  have at_eIL := PySem.W.mg_of X G aE_eIL
  have ER_eIL : ErrC K E_eIL E_eSE f_eSE := ⟨⟨⟨_, _, _, _, _, _, _, _, _, _, _, _, _, _, _, xL_eIL, xR_eIL⟩, sa_eIL, exC_eIL, tyC_eIL, kpC_eIL⟩, s1_eIL, s2_eIL, m1x_eIL, m2x_eIL, ve_eIL, no_tag_eIL, tS_eSE, fS_eSE⟩
  have R_eIL : RaiseC K mg "InvalidLooks" E_eIL E_eSE f_eSE f_eIL := ⟨ER_eIL, iE_eIL, tI_eIL, at_eIL⟩
  have RD_eIL : RdC K E_eIL := ⟨⟨xga_eIL, xgg_eIL, exC_eIL, xhd_eIL⟩, fun n hn => by
    simp only [List.mem_cons, List.not_mem_nil, or_false] at hn
    rcases hn with rfl | rfl | rfl | rfl | rfl | rfl | rfl
    · exact no_tag_eIL
    · exact no_given_eIL
    · exact no_limit_eIL
    · exact no_index_eIL
    · exact no_name_eIL
    · exact no_first_eIL
    · exact no_line_eIL⟩
  have I_eIW : InitF l.prog K mg "InvalidWords.__init__" sIW E_eIW f_eIW cc_eIW cda_eIW _ := ⟨⟨_, _, _, _, _, _, _, _, rfl, lE_eIW⟩, cE_eIW, ⟨_, _, _, _, _, _, lcE_eIW, v2E_eIW, flE_eIW⟩, ⟨_, _, _, llE_eIW⟩, ⟨_, lDE_eIW⟩, b_super, spT, spO⟩
  have B_eIW : Binds K (PySem.W.ksFn "__init__" "InvalidWords.__init__" (defArgs sIW) (defBody sIW) (defScope sIW) .none kV_eIW dc_eIW pm_eIW an_eIW (.ref cda_eIW) ct_eIW cc_eIW) ["self", "index"] [] := Binds.all fun us hl => match us, hl with | [_, _], _ => rfl
  have at_eIW := PySem.W.mg_of X G aE_eIW
  have ER_eIW : ErrC K E_eIW E_eSE f_eSE := ⟨⟨⟨_, _, _, _, _, _, _, _, _, _, _, _, _, _, _, xL_eIW, xR_eIW⟩, sa_eIW, exC_eIW, tyC_eIW, kpC_eIW⟩, s1_eIW, s2_eIW, m1x_eIW, m2x_eIW, ve_eIW, no_tag_eIW, tS_eSE, fS_eSE⟩
  have R_eIW : RaiseC K mg "InvalidWords" E_eIW E_eSE f_eSE f_eIW := ⟨ER_eIW, iE_eIW, tI_eIW, at_eIW⟩
  have RD_eIW : RdC K E_eIW := ⟨⟨xga_eIW, xgg_eIW, exC_eIW, xhd_eIW⟩, fun n hn => by
    simp only [List.mem_cons, List.not_mem_nil, or_false] at hn
    rcases hn with rfl | rfl | rfl | rfl | rfl | rfl | rfl
    · exact no_tag_eIW
    · exact no_given_eIW
    · exact no_limit_eIW
    · exact no_index_eIW
    · exact no_name_eIW
    · exact no_first_eIW
    · exact no_line_eIW⟩
  have I_eTM : InitF l.prog K mg "TooManyClasses.__init__" sTM E_eTM f_eTM cc_eTM cda_eTM _ := ⟨⟨_, _, _, _, _, _, _, _, rfl, lE_eTM⟩, cE_eTM, ⟨_, _, _, _, _, _, lcE_eTM, v2E_eTM, flE_eTM⟩, ⟨_, _, _, llE_eTM⟩, ⟨_, lDE_eTM⟩, b_super, spT, spO⟩
  have B_eTM : Binds K (PySem.W.ksFn "__init__" "TooManyClasses.__init__" (defArgs sTM) (defBody sTM) (defScope sTM) .none kV_eTM dc_eTM pm_eTM an_eTM (.ref cda_eTM) ct_eTM cc_eTM) ["self", "limit"] [] := Binds.all fun us hl => match us, hl with | [_, _], _ => rfl
  have at_eTM := PySem.W.mg_of X G aE_eTM
  have ER_eTM : ErrC K E_eTM E_eSE f_eSE := ⟨⟨⟨_, _, _, _, _, _, _, _, _, _, _, _, _, _, _, xL_eTM, xR_eTM⟩, sa_eTM, exC_eTM, tyC_eTM, kpC_eTM⟩, s1_eTM, s2_eTM, m1x_eTM, m2x_eTM, ve_eTM, no_tag_eTM, tS_eSE, fS_eSE⟩
  have R_eTM : RaiseC K mg "TooManyClasses" E_eTM E_eSE f_eSE f_eTM := ⟨ER_eTM, iE_eTM, tI_eTM, at_eTM⟩
  have RD_eTM : RdC K E_eTM := ⟨⟨xga_eTM, xgg_eTM, exC_eTM, xhd_eTM⟩, fun n hn => by
    simp only [List.mem_cons, List.not_mem_nil, or_false] at hn
    rcases hn with rfl | rfl | rfl | rfl | rfl | rfl | rfl
    · exact no_tag_eTM
    · exact no_given_eTM
    · exact no_limit_eTM
    · exact no_index_eTM
    · exact no_name_eTM
    · exact no_first_eTM
    · exact no_line_eTM⟩
  have I_eID : InitF l.prog K mg "InvalidDivisors.__init__" sID E_eID f_eID cc_eID cda_eID _ := ⟨⟨_, _, _, _, _, _, _, _, rfl, lE_eID⟩, cE_eID, ⟨_, _, _, _, _, _, lcE_eID, v2E_eID, flE_eID⟩, ⟨_, _, _, llE_eID⟩, ⟨_, lDE_eID⟩, b_super, spT, spO⟩
  have B_eID : Binds K (PySem.W.ksFn "__init__" "InvalidDivisors.__init__" (defArgs sID) (defBody sID) (defScope sID) .none kV_eID dc_eID pm_eID an_eID (.ref cda_eID) ct_eID cc_eID) ["self"] [] := Binds.all fun us hl => match us, hl with | [_], _ => rfl
  have at_eID := PySem.W.mg_of X G aE_eID
  have ER_eID : ErrC K E_eID E_eSE f_eSE := ⟨⟨⟨_, _, _, _, _, _, _, _, _, _, _, _, _, _, _, xL_eID, xR_eID⟩, sa_eID, exC_eID, tyC_eID, kpC_eID⟩, s1_eID, s2_eID, m1x_eID, m2x_eID, ve_eID, no_tag_eID, tS_eSE, fS_eSE⟩
  have R_eID : RaiseC K mg "InvalidDivisors" E_eID E_eSE f_eSE f_eID := ⟨ER_eID, iE_eID, tI_eID, at_eID⟩
  have RD_eID : RdC K E_eID := ⟨⟨xga_eID, xgg_eID, exC_eID, xhd_eID⟩, fun n hn => by
    simp only [List.mem_cons, List.not_mem_nil, or_false] at hn
    rcases hn with rfl | rfl | rfl | rfl | rfl | rfl | rfl
    · exact no_tag_eID
    · exact no_given_eID
    · exact no_limit_eID
    · exact no_index_eID
    · exact no_name_eID
    · exact no_first_eID
    · exact no_line_eID⟩
  have IC : C8.InsC K C := ⟨⟨pg, hd, po, sa⟩, icA, icN, icT, icM, icK⟩
  have F_tTWords := fun_mk (st := sTWords) l_tTWords c_tTWords k_tTWords
  have B_tTWords := F_tTWords.binds (ps := ["self"]) fun _ _ _ _ _ _ us hl => match us, hl with | [_], _ => rfl
  have M_tTWords : Meth K C "words" f_tTWords := ⟨am_tTWords, im_tTWords, k_tTWords⟩
  have F_tTLooks := fun_mk (st := sTLooks) l_tTLooks c_tTLooks k_tTLooks
  have B_tTLooks := F_tTLooks.binds (ps := ["self"]) fun _ _ _ _ _ _ us hl => match us, hl with | [_], _ => rfl
  have M_tTLooks : Meth K C "looks" f_tTLooks := ⟨am_tTLooks, im_tTLooks, k_tTLooks⟩
  have F_tTEq := fun_mk (st := sTEq) l_tTEq c_tTEq k_tTEq
  have B_tTEq := F_tTEq.binds (ps := ["self", "other"]) fun _ _ _ _ _ _ us hl => match us, hl with | [_, _], _ => rfl
  have M_tTEq : Meth K C "__eq__" f_tTEq := ⟨am_tTEq, im_tTEq, k_tTEq⟩
  have D_ClassCount := def_mk (st := sClassCount) (ps := ["divisors"]) X G a_ClassCount l_ClassCount c_ClassCount k_ClassCount fun _ _ _ _ _ _ us hl => match us, hl with | [_], _ => rfl
  have D_ChkDiv := def_mk (st := sChkDiv) (ps := ["divisors"]) X G a_ChkDiv l_ChkDiv c_ChkDiv k_ChkDiv fun _ _ _ _ _ _ us hl => match us, hl with | [_], _ => rfl
  have g_MAX_CLASSES := PySem.W.mg_of X G n_MAX_CLASSES
  have D_AreSides := def_mk (st := sAreSides) (ps := ["value", "least"]) X G a_AreSides l_AreSides c_AreSides k_AreSides fun _ _ _ _ _ _ us hl => match us, hl with | [_, _], _ => rfl
  have b_isinstance := PySem.W.mg_none_of X G z_isinstance
  have b_tuple := PySem.W.mg_none_of X G z_tuple
  have b_len := PySem.W.mg_none_of X G z_len
  have b_min := PySem.W.mg_none_of X G z_min
  have g_MAX_DIRECTIONS := PySem.W.mg_of X G n_MAX_DIRECTIONS
  have D_AreNums := def_mk (st := sAreNums) (ps := ["value", "count"]) X G a_AreNums l_AreNums c_AreNums k_AreNums fun _ _ _ _ _ _ us hl => match us, hl with | [_, _], _ => rfl
  have b_all := PySem.W.mg_none_of X G z_all
  have D_IsNum := def_mk (st := sIsNum) (ps := ["value"]) X G a_IsNum l_IsNum c_IsNum k_IsNum fun _ _ _ _ _ _ us hl => match us, hl with | [_], _ => rfl
  have b_int := PySem.W.mg_none_of X G z_int
  have b_bool := PySem.W.mg_none_of X G z_bool
  have D_Product := def_mk (st := sProduct) (ps := ["numbers"]) X G a_Product l_Product c_Product k_Product fun _ _ _ _ _ _ us hl => match us, hl with | [_], _ => rfl
  have b_Law : Binds K (PySem.W.fnOf "law" "law" (defArgs sLaw) (defBody sLaw) (defScope sLaw) .none kV_Law dc_Law pm_Law an_Law (.ref cda) ct_Law) ["_law_script"] [] := Binds.all fun us hl => match us, hl with | [_], _ => rfl
  have b_OtherErr : Binds K (PySem.W.fnOf "_law_other_errors" "_law_other_errors" (defArgs sOtherErr) (defBody sOtherErr) (defScope sOtherErr) .none kV_OtherErr dc_OtherErr pm_OtherErr an_OtherErr (.ref cda2) ct_OtherErr) ["_law_bag_here", "_law_divisors_z", "_law_looks_z"] [] := Binds.all fun us hl => match us, hl with | [_, _, _], _ => rfl
  have D_Try := def_mk (st := sTry) (ps := ["_law_ask"]) X G a_Try l_Try c_Try k_Try fun _ _ _ _ _ _ us hl => match us, hl with | [_], _ => rfl
  have D_Field := def_mk (st := sField) (ps := ["_law_e"]) X G a_Field l_Field c_Field k_Field fun _ _ _ _ _ _ us hl => match us, hl with | [_], _ => rfl
  have TR : TryT K mg f_Try := ⟨PySem.W.mg_of X G a_Try, k_Try, _, _, _, _, _, _, _, _, _, l_Try, c_Try⟩
  have FT : FieldT K mg f_Field := ⟨PySem.W.mg_of X G a_Field, k_Field, _, _, _, _, _, _, _, _, _, l_Field, c_Field⟩
  have D_ChkLooks := def_mk (st := sChkLooks) (ps := ["looks", "directions"]) X G a_ChkLooks l_ChkLooks c_ChkLooks k_ChkLooks fun _ _ _ _ _ _ us hl => match us, hl with | [_, _], _ => rfl
  have b_list := PySem.W.mg_none_of X G z_list
  have b_set := PySem.W.mg_none_of X G z_set
  have b_enumerate := PySem.W.mg_none_of X G z_enumerate
  have g_MAX_LOOKS := PySem.W.mg_of X G n_MAX_LOOKS
  have D_IsLook := def_mk (st := sIsLook) (ps := ["value", "directions"]) X G a_IsLook l_IsLook c_IsLook k_IsLook fun _ _ _ _ _ _ us hl => match us, hl with | [_, _], _ => rfl
  have b_abs := PySem.W.mg_none_of X G z_abs
  have b_max := PySem.W.mg_none_of X G z_max
  have g_MAX_REACH := PySem.W.mg_of X G n_MAX_REACH
  have D_ChkWords := def_mk (st := sChkWords) (ps := ["words", "classes", "length"]) X G a_ChkWords l_ChkWords c_ChkWords k_ChkWords fun _ _ _ _ _ _ us hl => match us, hl with | [_, _, _], _ => rfl
  have D_IsWord := def_mk (st := sIsWord) (ps := ["value", "length"]) X G a_IsWord l_IsWord c_IsWord k_IsWord fun _ _ _ _ _ _ us hl => match us, hl with | [_, _], _ => rfl
  have b_str := PySem.W.mg_none_of X G z_str
  have D_Of := def_mk (st := sOf) (ps := ["_law_bag_here", "_law_things"]) X G a_Of l_Of c_Of k_Of fun _ _ _ _ _ _ us hl => match us, hl with | [_, _], _ => rfl
  have D_Pull := def_mk (st := sPull) (ps := ["_law_bag_here", "_law_amount"]) X G a_Pull l_Pull c_Pull k_Pull fun _ _ _ _ _ _ us hl => match us, hl with | [_, _], _ => rfl
  have D_Odd := def_mk (st := sOdd) (ps := ["_law_bag_here"]) X G a_Odd l_Odd c_Odd k_Odd fun _ _ _ _ _ _ us hl => match us, hl with | [_], _ => rfl
  have D_DivErr := def_mk (st := sDivErr) (ps := ["_law_value"]) X G a_DivErr l_DivErr c_DivErr k_DivErr fun _ _ _ _ _ _ us hl => match us, hl with | [_], _ => rfl
  have D_IsPlace := def_mk (st := sIsPlace) (ps := ["_law_value", "_law_directions"]) X G a_IsPlace l_IsPlace c_IsPlace k_IsPlace fun _ _ _ _ _ _ us hl => match us, hl with | [_, _], _ => rfl
  have D_Count := def_mk (st := sCount) (ps := ["_law_divisors_z"]) X G a_Count l_Count c_Count k_Count fun _ _ _ _ _ _ us hl => match us, hl with | [_], _ => rfl
  have b_range := PySem.W.mg_none_of X G z_range
  have D_Bag := def_mk (st := sBag) (ps := ["_law_script"]) X G a_Bag l_Bag c_Bag k_Bag fun _ _ _ _ _ _ us hl => match us, hl with | [_], _ => rfl
  have D_Divisors := def_mk (st := sDivisors) (ps := ["_law_bag_here", "_law_directions"]) X G a_Divisors l_Divisors c_Divisors k_Divisors fun _ _ _ _ _ _ us hl => match us, hl with | [_, _], _ => rfl
  have D_Mixed := def_mk (st := sMixed) (ps := ["_law_bag_here", "_law_things"]) X G a_Mixed l_Mixed c_Mixed k_Mixed fun _ _ _ _ _ _ us hl => match us, hl with | [_, _], _ => rfl
  have D_LLooks := def_mk (st := sLLooks) (ps := ["_law_bag_here", "_law_directions"]) X G a_LLooks l_LLooks c_LLooks k_LLooks fun _ _ _ _ _ _ us hl => match us, hl with | [_, _], _ => rfl
  have D_LWords := def_mk (st := sLWords) (ps := ["_law_bag_here", "_law_many", "_law_looks_z"]) X G a_LWords l_LWords c_LWords k_LWords fun _ _ _ _ _ _ us hl => match us, hl with | [_, _, _], _ => rfl
  have D_BentWords := def_mk (st := sBentWords) (ps := ["_law_bag_here", "_law_words_z", "_law_many"]) X G a_BentWords l_BentWords c_BentWords k_BentWords fun _ _ _ _ _ _ us hl => match us, hl with | [_, _, _], _ => rfl
  have D_LSame := def_mk (st := sLSame) (ps := ["_law_found", "_law_due"]) X G a_LSame l_LSame c_LSame k_LSame fun _ _ _ _ _ _ us hl => match us, hl with | [_, _], _ => rfl
  have b_dict := PySem.W.mg_none_of X G z_dict
  have b_zip := PySem.W.mg_none_of X G z_zip
  refine ⟨PySem.W.fnOf "law" "law" (defArgs sLaw) (defBody sLaw) (defScope sLaw) .none kV_Law dc_Law pm_Law an_Law (.ref cda) ct_Law, [(cda, Pt), (cda2, Pt2)], spLaw2 K Pt Pt2, fun p hp => ?_, fun p hp => ?_, fun p hp => ?_, fun s v => .of_eq rfl, fun H a ns _ _ hH hS => ⟨a, ns, rfl, hS, hH _ List.mem_cons_self, hH _ (List.mem_cons_of_mem _ List.mem_cons_self), fun _ => rfl⟩, fun base _ _ TB => ?_⟩
  · rcases List.mem_cons.mp hp with z | z
    · rw [z]; exact tab
    · rw [List.mem_singleton.mp z]; exact tab2
  · rcases List.mem_cons.mp hp with z | z
    · rw [z]; exact lPt
    · rw [List.mem_singleton.mp z]; exact lPt2
  · rcases List.mem_cons.mp hp with z | z
    · rw [z]; exact PySem.W.codeHd_of_K X hdT
    · rw [List.mem_singleton.mp z]; exact PySem.W.codeHd_of_K X hdT2
  have Gnum := ok_isnum (P := l.prog) (w := w) (mg := mg) (base := base) (k := 0) D_IsNum.fn b_int b_bool b_isinstance
  have Gnums := ok_nums (P := l.prog) (w := w) (mg := mg) (base := base) (k := 0) D_AreNums.fn b_isinstance b_tuple b_len b_all Gnum D_IsNum.fn.kp D_IsNum.bd D_IsNum.at_
  have Gsides := ok_sides (P := l.prog) (w := w) (mg := mg) (base := base) (k := 0) D_AreSides.fn b_isinstance b_tuple b_len b_min g_MAX_DIRECTIONS Gnums D_AreNums.fn.kp D_AreNums.bd D_AreNums.at_
  have Gprod := ok_product (P := l.prog) (w := w) (mg := mg) (base := base) (k := 0) D_Product.fn
  have Gchkd := ok_chkdiv (P := l.prog) (w := w) (mg := mg) (base := base) (k := 0) D_ChkDiv.fn g_MAX_CLASSES Gsides D_AreSides.fn.kp D_AreSides.bd D_AreSides.at_ Gprod D_Product.fn.kp D_Product.bd D_Product.at_
  have Gcc := ok_classcount (P := l.prog) (w := w) (mg := mg) (base := base) (k := 0) D_ClassCount.fn Gchkd D_ChkDiv.fn.kp D_ChkDiv.bd D_ChkDiv.at_ Gprod D_Product.fn.kp D_Product.bd D_Product.at_
  have Gse := ok_se (P := l.prog) (w := w) (mg := mg) (base := base) (k := 0) I_eSE
  have Gid := ok_id (P := l.prog) (w := w) (mg := mg) (base := base) (k := 0) I_eID ER_eID Gse B_eSE
  have Gtm := ok_tm (P := l.prog) (w := w) (mg := mg) (base := base) (k := 0) I_eTM ER_eTM no_limit_eTM Gse B_eSE
  have GnumO := ok_isnumO (P := l.prog) (w := w) (mg := mg) (base := base) (k := 0) D_IsNum.fn b_int b_bool b_isinstance
  have GnumsO := ok_numsO (P := l.prog) (w := w) (mg := mg) (base := base) (k := 0) D_AreNums.fn b_isinstance b_tuple b_len b_all GnumO D_IsNum.fn.kp D_IsNum.bd D_IsNum.at_
  have GsidesO := ok_sidesO (P := l.prog) (w := w) (mg := mg) (base := base) (k := 0) D_AreSides.fn b_isinstance b_tuple b_len b_min g_MAX_DIRECTIONS GnumsO D_AreNums.fn.kp D_AreNums.bd D_AreNums.at_
  have GprodB := ok_prodB (P := l.prog) (w := w) (mg := mg) (base := base) (k := 0) D_Product.fn
  have GcdX := ok_chkdivX (P := l.prog) (w := w) (mg := mg) (base := base) (k := 0) D_ChkDiv.fn g_MAX_CLASSES R_eID Gid B_eID R_eTM Gtm B_eTM GsidesO D_AreSides.fn.kp D_AreSides.bd D_AreSides.at_ GprodB D_Product.fn.kp D_Product.bd D_Product.at_
  have GccX := ok_ccX (P := l.prog) (w := w) (mg := mg) (base := base) (k := 0) D_ClassCount.fn GcdX D_ChkDiv.fn.kp D_ChkDiv.bd D_ChkDiv.at_
  have Gil := ok_il (P := l.prog) (w := w) (mg := mg) (base := base) (k := 0) I_eIL ER_eIL no_index_eIL Gse B_eSE
  have GisLk := ok_islook (P := l.prog) (w := w) (mg := mg) (base := base) (k := 0) D_IsLook.fn b_abs b_max g_MAX_REACH GnumsO D_AreNums.fn.kp D_AreNums.bd D_AreNums.at_
  have Glks := ok_looks (P := l.prog) (w := w) (mg := mg) (base := base) (k := 0) D_ChkLooks.fn b_isinstance b_len b_tuple b_list b_set b_enumerate g_MAX_LOOKS R_eIL Gil B_eIL GisLk D_IsLook.fn.kp D_IsLook.bd D_IsLook.at_
  have Giw := ok_iw (P := l.prog) (w := w) (mg := mg) (base := base) (k := 0) I_eIW ER_eIW no_index_eIW Gse B_eSE
  have Giwd := ok_isword (P := l.prog) (w := w) (mg := mg) (base := base) (k := 0) D_IsWord.fn b_isinstance b_str b_len b_all
  have Gcw := ok_chkwords (P := l.prog) (w := w) (mg := mg) (base := base) (k := 0) D_ChkWords.fn b_len b_enumerate b_min R_eIW Giw B_eIW Giwd D_IsWord.fn.kp D_IsWord.bd D_IsWord.at_
  have Gti := ok_tinit (P := l.prog) (w := w) (mg := mg) (base := base) (k := 0) FI T b_len b_tuple Gcc GccX D_ClassCount.fn.kp D_ClassCount.bd D_ClassCount.at_ Glks D_ChkLooks.fn.kp D_ChkLooks.bd D_ChkLooks.at_ Gcw D_ChkWords.fn.kp D_ChkWords.bd D_ChkWords.at_
  have Gtw := ok_twords (P := l.prog) (w := w) (mg := mg) (base := base) (k := 0) F_tTWords T b_list
  have Gtl := ok_tlooks (P := l.prog) (w := w) (mg := mg) (base := base) (k := 0) F_tTLooks T b_list
  have Gte := ok_teq (P := l.prog) (w := w) (mg := mg) (base := base) (k := 0) F_tTEq T IC b_isinstance
  have Gpull := ok_pull (P := l.prog) (w := w) (mg := mg) (base := base) (k := 0) D_Pull.fn b_len b_int
  have Gof := ok_of (P := l.prog) (w := w) (mg := mg) (base := base) (k := 0) D_Of.fn b_len Gpull D_Pull.fn.kp D_Pull.bd D_Pull.at_
  have Godd := ok_odd (P := l.prog) (w := w) (mg := mg) (base := base) (k := 0) D_Odd.fn Gof D_Of.fn.kp D_Of.bd D_Of.at_
  have Gisp := ok_isplace (P := l.prog) (w := w) (mg := mg) (base := base) (k := 0) D_IsPlace.fn b_isinstance b_tuple b_len b_all b_int b_bool
  have GcntB := ok_countB (P := l.prog) (w := w) (mg := mg) (base := base) (k := 0) D_Count.fn
  have Gde := ok_derr (P := l.prog) (w := w) (mg := mg) (base := base) (k := 0) D_DivErr.fn b_isinstance b_tuple b_len b_min Gisp D_IsPlace.fn.kp D_IsPlace.bd D_IsPlace.at_ GcntB D_Count.fn.kp D_Count.bd D_Count.at_
  have Got := ok_other (P := l.prog) (w := w) (mg := mg) (base := base) (k := 0) (T' := TTk Pt Pt2) l_OtherErr c_OtherErr (TB (cda2, Pt2) (by simp)) (by simp) (on2 hPt) T b_len Gof D_Of.fn.kp D_Of.bd D_Of.at_ Godd D_Odd.fn.kp D_Odd.bd D_Odd.at_ Gde D_DivErr.fn.kp D_DivErr.bd D_DivErr.at_ Gti bI MI Gtw B_tTWords M_tTWords TR FT at_eSE xex_eID RD_eID xex_eTM RD_eTM xex_eIL RD_eIL
  have Gbag := ok_bag (P := l.prog) (w := w) (mg := mg) (base := base) (k := 0) D_Bag.fn b_int b_list
  have Gmix := ok_mixed (P := l.prog) (w := w) (mg := mg) (base := base) (k := 0) D_Mixed.fn b_len Gpull D_Pull.fn.kp D_Pull.bd D_Pull.at_
  have Gdiv := ok_divisors (P := l.prog) (w := w) (mg := mg) (base := base) (k := 0) D_Divisors.fn b_tuple b_range b_min Gpull D_Pull.fn.kp D_Pull.bd D_Pull.at_ Gmix D_Mixed.fn.kp D_Mixed.bd D_Mixed.at_
  have Gllk := ok_llooks (P := l.prog) (w := w) (mg := mg) (base := base) (k := 0) D_LLooks.fn b_tuple b_range Gof D_Of.fn.kp D_Of.bd D_Of.at_ Gpull D_Pull.fn.kp D_Pull.bd D_Pull.at_
  have Gcnt := ok_count (P := l.prog) (w := w) (mg := mg) (base := base) (k := 0) D_Count.fn
  have Glw := ok_lwords (P := l.prog) (w := w) (mg := mg) (base := base) (k := 0) D_LWords.fn b_range Gpull D_Pull.fn.kp D_Pull.bd D_Pull.at_
  have Gbt := ok_bent (P := l.prog) (w := w) (mg := mg) (base := base) (k := 0) D_BentWords.fn b_range b_list b_len Gof D_Of.fn.kp D_Of.bd D_Of.at_ Gpull D_Pull.fn.kp D_Pull.bd D_Pull.at_
  have Gsm := ok_same (P := l.prog) (w := w) (mg := mg) (base := base) (k := 0) D_LSame.fn b_isinstance b_list b_tuple b_dict b_bool b_int b_str b_len b_all b_zip D_LSame.at_ D_LSame.bd 4
  exact ok_law (k := 0) l_Law c_Law (TB (cda, Pt) (by simp)) hPt T b_range b_len b_tuple b_list b_min b_all Gbag D_Bag.fn.kp D_Bag.bd D_Bag.at_ Gpull D_Pull.fn.kp D_Pull.bd D_Pull.at_ Gdiv D_Divisors.fn.kp D_Divisors.bd D_Divisors.at_ Gllk D_LLooks.fn.kp D_LLooks.bd D_LLooks.at_ Gcnt D_Count.fn.kp D_Count.bd D_Count.at_ Glw D_LWords.fn.kp D_LWords.bd D_LWords.at_ Gbt D_BentWords.fn.kp D_BentWords.bd D_BentWords.at_ Gsm D_LSame.fn.kp D_LSame.bd D_LSame.at_ Gti bI kbI MI Gtw B_tTWords M_tTWords Gtl B_tTLooks M_tTLooks Gte B_tTEq am_tTEq im_tTEq Got k_OtherErr b_OtherErr (PySem.W.mg_of X G a_OtherErr) TR FT at_eSE xex_eIW RD_eIW
def tq0 : List (PySem.W.Frag → Bool) := [fun K => decide (PySem.W.nsIn K mainGlobals "Table" = some (some (.ref (He.ga K "Table")))),
  fun K => decide (PySem.W.findIn K (.ref (He.ga K "Table")) "__init__" = some (some (.ref (He.ma K (He.ga K "Table") "__init__")))),
  fun K => PySem.W.isFn K (.ref (He.ma K (He.ga K "Table") "__init__")),
  fun K => Hk.fnB K (He.ma K (He.ga K "Table") "__init__") "Table.__init__",
  fun K => PySem.W.plainGet K (He.ga K "Table") Str.empty,
  fun K => PySem.W.hasDictIn K (He.ga K "Table"),
  fun K => PySem.W.plainOver K (He.ga K "Table"),
  fun K => decide (PySem.W.findIn K (.ref (He.ga K "Table")) "__setattr__" = some (some (.builtin "object.__setattr__"))),
  fun K => PySem.W.makesIn K (He.ga K "Table"),
  fun K => PySem.W.keepIn K (.ref (He.ga K "Table"))]
def tq1 : List (PySem.W.Frag → Bool) := [fun K => decide (PySem.W.findIn K (.ref (He.ga K "Table")) "own_looks" = some none),
  fun K => decide (PySem.W.findIn K (.ref (He.ga K "Table")) "own_divisors" = some none),
  fun K => decide (PySem.W.findIn K (.ref (He.ga K "Table")) "own_words" = some none),
  fun K => decide (PySem.W.nsIn K mainGlobals "super" = some none),
  fun K => decide (PySem.W.nsIn K cStatics "thirdparty.any" = some none),
  fun K => decide (PySem.W.nsIn K mainGlobals "ScanError" = some (some (.ref (He.ga K "ScanError")))),
  fun K => decide (PySem.W.findIn K (.ref (He.ga K "ScanError")) "__init__" = some (some (.ref (He.ma K (He.ga K "ScanError") "__init__")))),
  fun K => Hk.fnCB K (He.ma K (He.ga K "ScanError") "__init__") "ScanError.__init__",
  fun K => Hk.fileB K (Hk.codeA K (He.ma K (He.ga K "ScanError") "__init__")) PySem.Challenge.rw_lookscan_k18_tables_are_checked.prog.main.file,
  fun K => Hk.cellB K (Hk.cellV K (He.ma K (He.ga K "ScanError") "__init__")) (He.ga K "ScanError")]
def tq2 : List (PySem.W.Frag → Bool) := [fun K => Hk.someB (PySem.W.clsIn K (He.ga K "ScanError")),
  fun K => decide (PySem.W.nsIn K mainGlobals "InvalidLooks" = some (some (.ref (He.ga K "InvalidLooks")))),
  fun K => decide (PySem.W.findIn K (.ref (He.ga K "InvalidLooks")) "__init__" = some (some (.ref (He.ma K (He.ga K "InvalidLooks") "__init__")))),
  fun K => Hk.fnCB K (He.ma K (He.ga K "InvalidLooks") "__init__") "InvalidLooks.__init__",
  fun K => Hk.fileB K (Hk.codeA K (He.ma K (He.ga K "InvalidLooks") "__init__")) PySem.Challenge.rw_lookscan_k18_tables_are_checked.prog.main.file,
  fun K => Hk.cellB K (Hk.cellV K (He.ma K (He.ga K "InvalidLooks") "__init__")) (He.ga K "InvalidLooks"),
  fun K => Hk.someB (PySem.W.clsIn K (He.ga K "InvalidLooks")),
  fun K => Hk.excB K (He.ga K "InvalidLooks"),
  fun K => decide (PySem.W.findIn K (.ref (He.ga K "InvalidLooks")) "__setattr__" = some (some (.builtin "object.__setattr__"))),
  fun K => decide (PySem.W.subIn K (.ref (He.ga K "InvalidLooks")) (.type "BaseException") = some true)]
def tq3 : List (PySem.W.Frag → Bool) := [fun K => decide (PySem.W.typeIn K (.ref (He.ga K "InvalidLooks")) = some (.type "type")),
  fun K => PySem.W.keepIn K (.ref (He.ga K "InvalidLooks")),
  fun K => decide (PySem.W.mroIn K (He.ga K "InvalidLooks") (.ref (He.ga K "InvalidLooks")) = some true),
  fun K => decide (PySem.W.mroIn K (He.ga K "InvalidLooks") (.ref (He.ga K "ScanError")) = some true),
  fun K => decide (PySem.W.ks_superIn K (He.ga K "InvalidLooks") (He.ga K "InvalidLooks") "__init__" = some (some (.ref (He.ma K (He.ga K "ScanError") "__init__")))),
  fun K => decide (PySem.W.ks_superIn K (He.ga K "InvalidLooks") (He.ga K "ScanError") "__init__" = some (some (.builtin "ValueError.__init__"))),
  fun K => decide (PySem.W.subIn K (.ref (He.ga K "InvalidLooks")) (.type "ValueError") = some true),
  fun K => decide (PySem.W.typeIn K (.ref (He.ma K (He.ga K "ScanError") "__init__")) = some (.type "function")),
  fun K => PySem.W.fnIn K (He.ma K (He.ga K "ScanError") "__init__"),
  fun K => decide (PySem.W.typeIn K (.ref (He.ma K (He.ga K "InvalidLooks") "__init__")) = some (.type "function"))]
def tq4 : List (PySem.W.Frag → Bool) := [fun K => decide (PySem.W.findIn K (.ref (He.ga K "InvalidLooks")) "tag" = some none),
  fun K => decide (PySem.W.findIn K (.ref (He.ga K "InvalidLooks")) "given" = some none),
  fun K => decide (PySem.W.findIn K (.ref (He.ga K "InvalidLooks")) "limit" = some none),
  fun K => decide (PySem.W.findIn K (.ref (He.ga K "InvalidLooks")) "index" = some none),
  fun K => decide (PySem.W.findIn K (.ref (He.ga K "InvalidLooks")) "name" = some none),
  fun K => decide (PySem.W.findIn K (.ref (He.ga K "InvalidLooks")) "first" = some none),
  fun K => decide (PySem.W.findIn K (.ref (He.ga K "InvalidLooks")) "line" = some none),
  fun K => decide (PySem.W.findIn K (.ref (He.ga K "InvalidLooks")) "__getattribute__" = some (some (.builtin "BaseException.__getattribute__"))),
  fun K => decide (PySem.W.findIn K (.ref (He.ga K "InvalidLooks")) "__getattr__" = some none),
  fun K => PySem.W.hasDictIn K (He.ga K "InvalidLooks")]
def tq5 : List (PySem.W.Frag → Bool) := [fun K => decide (PySem.W.exmOne K (.ref (He.ga K "InvalidLooks")) (.ref (He.ga K "ScanError")) = some true),
  fun K => decide (PySem.W.nsIn K mainGlobals "InvalidWords" = some (some (.ref (He.ga K "InvalidWords")))),
  fun K => decide (PySem.W.findIn K (.ref (He.ga K "InvalidWords")) "__init__" = some (some (.ref (He.ma K (He.ga K "InvalidWords") "__init__")))),
  fun K => Hk.fnCB K (He.ma K (He.ga K "InvalidWords") "__init__") "InvalidWords.__init__",
  fun K => Hk.fileB K (Hk.codeA K (He.ma K (He.ga K "InvalidWords") "__init__")) PySem.Challenge.rw_lookscan_k18_tables_are_checked.prog.main.file,
  fun K => Hk.cellB K (Hk.cellV K (He.ma K (He.ga K "InvalidWords") "__init__")) (He.ga K "InvalidWords"),
  fun K => Hk.someB (PySem.W.clsIn K (He.ga K "InvalidWords")),
  fun K => Hk.excB K (He.ga K "InvalidWords"),
  fun K => decide (PySem.W.findIn K (.ref (He.ga K "InvalidWords")) "__setattr__" = some (some (.builtin "object.__setattr__"))),
  fun K => decide (PySem.W.subIn K (.ref (He.ga K "InvalidWords")) (.type "BaseException") = some true)]
def tq6 : List (PySem.W.Frag → Bool) := [fun K => decide (PySem.W.typeIn K (.ref (He.ga K "InvalidWords")) = some (.type "type")),
  fun K => PySem.W.keepIn K (.ref (He.ga K "InvalidWords")),
  fun K => decide (PySem.W.mroIn K (He.ga K "InvalidWords") (.ref (He.ga K "InvalidWords")) = some true),
  fun K => decide (PySem.W.mroIn K (He.ga K "InvalidWords") (.ref (He.ga K "ScanError")) = some true),
  fun K => decide (PySem.W.ks_superIn K (He.ga K "InvalidWords") (He.ga K "InvalidWords") "__init__" = some (some (.ref (He.ma K (He.ga K "ScanError") "__init__")))),
  fun K => decide (PySem.W.ks_superIn K (He.ga K "InvalidWords") (He.ga K "ScanError") "__init__" = some (some (.builtin "ValueError.__init__"))),
  fun K => decide (PySem.W.subIn K (.ref (He.ga K "InvalidWords")) (.type "ValueError") = some true),
  fun K => decide (PySem.W.typeIn K (.ref (He.ma K (He.ga K "InvalidWords") "__init__")) = some (.type "function")),
  fun K => decide (PySem.W.findIn K (.ref (He.ga K "InvalidWords")) "tag" = some none),
  fun K => decide (PySem.W.findIn K (.ref (He.ga K "InvalidWords")) "given" = some none)]
def tq7 : List (PySem.W.Frag → Bool) := [fun K => decide (PySem.W.findIn K (.ref (He.ga K "InvalidWords")) "limit" = some none),
  fun K => decide (PySem.W.findIn K (.ref (He.ga K "InvalidWords")) "index" = some none),
  fun K => decide (PySem.W.findIn K (.ref (He.ga K "InvalidWords")) "name" = some none),
  fun K => decide (PySem.W.findIn K (.ref (He.ga K "InvalidWords")) "first" = some none),
  fun K => decide (PySem.W.findIn K (.ref (He.ga K "InvalidWords")) "line" = some none),
  fun K => decide (PySem.W.findIn K (.ref (He.ga K "InvalidWords")) "__getattribute__" = some (some (.builtin "BaseException.__getattribute__"))),
  fun K => decide (PySem.W.findIn K (.ref (He.ga K "InvalidWords")) "__getattr__" = some none),
  fun K => PySem.W.hasDictIn K (He.ga K "InvalidWords"),
  fun K => decide (PySem.W.exmOne K (.ref (He.ga K "InvalidWords")) (.ref (He.ga K "ScanError")) = some true),
  fun K => decide (PySem.W.nsIn K mainGlobals "TooManyClasses" = some (some (.ref (He.ga K "TooManyClasses"))))]
def tq8 : List (PySem.W.Frag → Bool) := [fun K => decide (PySem.W.findIn K (.ref (He.ga K "TooManyClasses")) "__init__" = some (some (.ref (He.ma K (He.ga K "TooManyClasses") "__init__")))),
  fun K => Hk.fnCB K (He.ma K (He.ga K "TooManyClasses") "__init__") "TooManyClasses.__init__",
  fun K => Hk.fileB K (Hk.codeA K (He.ma K (He.ga K "TooManyClasses") "__init__")) PySem.Challenge.rw_lookscan_k18_tables_are_checked.prog.main.file,
  fun K => Hk.cellB K (Hk.cellV K (He.ma K (He.ga K "TooManyClasses") "__init__")) (He.ga K "TooManyClasses"),
  fun K => Hk.someB (PySem.W.clsIn K (He.ga K "TooManyClasses")),
  fun K => Hk.excB K (He.ga K "TooManyClasses"),
  fun K => decide (PySem.W.findIn K (.ref (He.ga K "TooManyClasses")) "__setattr__" = some (some (.builtin "object.__setattr__"))),
  fun K => decide (PySem.W.subIn K (.ref (He.ga K "TooManyClasses")) (.type "BaseException") = some true),
  fun K => decide (PySem.W.typeIn K (.ref (He.ga K "TooManyClasses")) = some (.type "type")),
  fun K => PySem.W.keepIn K (.ref (He.ga K "TooManyClasses"))]
def tq9 : List (PySem.W.Frag → Bool) := [fun K => decide (PySem.W.mroIn K (He.ga K "TooManyClasses") (.ref (He.ga K "TooManyClasses")) = some true),
  fun K => decide (PySem.W.mroIn K (He.ga K "TooManyClasses") (.ref (He.ga K "ScanError")) = some true),
  fun K => decide (PySem.W.ks_superIn K (He.ga K "TooManyClasses") (He.ga K "TooManyClasses") "__init__" = some (some (.ref (He.ma K (He.ga K "ScanError") "__init__")))),
  fun K => decide (PySem.W.ks_superIn K (He.ga K "TooManyClasses") (He.ga K "ScanError") "__init__" = some (some (.builtin "ValueError.__init__"))),
  fun K => decide (PySem.W.subIn K (.ref (He.ga K "TooManyClasses")) (.type "ValueError") = some true),
  fun K => decide (PySem.W.typeIn K (.ref (He.ma K (He.ga K "TooManyClasses") "__init__")) = some (.type "function")),
  fun K => decide (PySem.W.findIn K (.ref (He.ga K "TooManyClasses")) "tag" = some none),
  fun K => decide (PySem.W.findIn K (.ref (He.ga K "TooManyClasses")) "given" = some none),
  fun K => decide (PySem.W.findIn K (.ref (He.ga K "TooManyClasses")) "limit" = some none),
  fun K => decide (PySem.W.findIn K (.ref (He.ga K "TooManyClasses")) "index" = some none)]
def tq10 : List (PySem.W.Frag → Bool) := [fun K => decide (PySem.W.findIn K (.ref (He.ga K "TooManyClasses")) "name" = some none),
  fun K => decide (PySem.W.findIn K (.ref (He.ga K "TooManyClasses")) "first" = some none),
  fun K => decide (PySem.W.findIn K (.ref (He.ga K "TooManyClasses")) "line" = some none),
  fun K => decide (PySem.W.findIn K (.ref (He.ga K "TooManyClasses")) "__getattribute__" = some (some (.builtin "BaseException.__getattribute__"))),
  fun K => decide (PySem.W.findIn K (.ref (He.ga K "TooManyClasses")) "__getattr__" = some none),
  fun K => PySem.W.hasDictIn K (He.ga K "TooManyClasses"),
  fun K => decide (PySem.W.exmOne K (.ref (He.ga K "TooManyClasses")) (.ref (He.ga K "ScanError")) = some true),
  fun K => decide (PySem.W.nsIn K mainGlobals "InvalidDivisors" = some (some (.ref (He.ga K "InvalidDivisors")))),
  fun K => decide (PySem.W.findIn K (.ref (He.ga K "InvalidDivisors")) "__init__" = some (some (.ref (He.ma K (He.ga K "InvalidDivisors") "__init__")))),
  fun K => Hk.fnCB K (He.ma K (He.ga K "InvalidDivisors") "__init__") "InvalidDivisors.__init__"]
def tq11 : List (PySem.W.Frag → Bool) := [fun K => Hk.fileB K (Hk.codeA K (He.ma K (He.ga K "InvalidDivisors") "__init__")) PySem.Challenge.rw_lookscan_k18_tables_are_checked.prog.main.file,
  fun K => Hk.cellB K (Hk.cellV K (He.ma K (He.ga K "InvalidDivisors") "__init__")) (He.ga K "InvalidDivisors"),
  fun K => Hk.someB (PySem.W.clsIn K (He.ga K "InvalidDivisors")),
  fun K => Hk.excB K (He.ga K "InvalidDivisors"),
  fun K => decide (PySem.W.findIn K (.ref (He.ga K "InvalidDivisors")) "__setattr__" = some (some (.builtin "object.__setattr__"))),
  fun K => decide (PySem.W.subIn K (.ref (He.ga K "InvalidDivisors")) (.type "BaseException") = some true),
  fun K => decide (PySem.W.typeIn K (.ref (He.ga K "InvalidDivisors")) = some (.type "type")),
  fun K => PySem.W.keepIn K (.ref (He.ga K "InvalidDivisors")),
  fun K => decide (PySem.W.mroIn K (He.ga K "InvalidDivisors") (.ref (He.ga K "InvalidDivisors")) = some true),
  fun K => decide (PySem.W.mroIn K (He.ga K "InvalidDivisors") (.ref (He.ga K "ScanError")) = some true)]
def tq12 : List (PySem.W.Frag → Bool) := [fun K => decide (PySem.W.ks_superIn K (He.ga K "InvalidDivisors") (He.ga K "InvalidDivisors") "__init__" = some (some (.ref (He.ma K (He.ga K "ScanError") "__init__")))),
  fun K => decide (PySem.W.ks_superIn K (He.ga K "InvalidDivisors") (He.ga K "ScanError") "__init__" = some (some (.builtin "ValueError.__init__"))),
  fun K => decide (PySem.W.subIn K (.ref (He.ga K "InvalidDivisors")) (.type "ValueError") = some true),
  fun K => decide (PySem.W.typeIn K (.ref (He.ma K (He.ga K "InvalidDivisors") "__init__")) = some (.type "function")),
  fun K => decide (PySem.W.findIn K (.ref (He.ga K "InvalidDivisors")) "tag" = some none),
  fun K => decide (PySem.W.findIn K (.ref (He.ga K "InvalidDivisors")) "given" = some none),
  fun K => decide (PySem.W.findIn K (.ref (He.ga K "InvalidDivisors")) "limit" = some none),
  fun K => decide (PySem.W.findIn K (.ref (He.ga K "InvalidDivisors")) "index" = some none),
  fun K => decide (PySem.W.findIn K (.ref (He.ga K "InvalidDivisors")) "name" = some none),
  fun K => decide (PySem.W.findIn K (.ref (He.ga K "InvalidDivisors")) "first" = some none)]
def tq13 : List (PySem.W.Frag → Bool) := [fun K => decide (PySem.W.findIn K (.ref (He.ga K "InvalidDivisors")) "line" = some none),
  fun K => decide (PySem.W.findIn K (.ref (He.ga K "InvalidDivisors")) "__getattribute__" = some (some (.builtin "BaseException.__getattribute__"))),
  fun K => decide (PySem.W.findIn K (.ref (He.ga K "InvalidDivisors")) "__getattr__" = some none),
  fun K => PySem.W.hasDictIn K (He.ga K "InvalidDivisors"),
  fun K => decide (PySem.W.exmOne K (.ref (He.ga K "InvalidDivisors")) (.ref (He.ga K "ScanError")) = some true),
  fun K => decide (PySem.W.findIn K (.ref (He.ga K "Table")) "__class__" = some (some (.builtin "object.__class__"))),
  fun K => decide (PySem.W.specialIn K (.builtin "object.__class__") "__get__" = some (some (.builtin "getset_descriptor.__get__"))),
  fun K => decide (PySem.W.takesIn K (.builtin "object.__class__") = some true),
  fun K => decide (PySem.W.mroIn K (He.ga K "Table") (.type "object") = some true),
  fun K => decide (PySem.W.kitOne K (.ref (He.ga K "Table")) (.ref (He.ga K "Table")) = some true)]
def tq14 : List (PySem.W.Frag → Bool) := [fun K => decide (PySem.W.findIn K (.ref (He.ga K "Table")) "words" = some (some (.ref (He.ma K (He.ga K "Table") "words")))),
  fun K => PySem.W.isFn K (.ref (He.ma K (He.ga K "Table") "words")),
  fun K => Hk.fnB K (He.ma K (He.ga K "Table") "words") "Table.words",
  fun K => decide (PySem.W.findIn K (.ref (He.ga K "Table")) "looks" = some (some (.ref (He.ma K (He.ga K "Table") "looks")))),
  fun K => PySem.W.isFn K (.ref (He.ma K (He.ga K "Table") "looks")),
  fun K => Hk.fnB K (He.ma K (He.ga K "Table") "looks") "Table.looks",
  fun K => decide (PySem.W.findIn K (.ref (He.ga K "Table")) "__eq__" = some (some (.ref (He.ma K (He.ga K "Table") "__eq__")))),
  fun K => PySem.W.isFn K (.ref (He.ma K (He.ga K "Table") "__eq__")),
  fun K => Hk.fnB K (He.ma K (He.ga K "Table") "__eq__") "Table.__eq__",
  fun K => decide (PySem.W.nsIn K mainGlobals "class_count" = some (some (.ref (He.ga K "class_count"))))]
def tq15 : List (PySem.W.Frag → Bool) := [fun K => Hk.fnB K (He.ga K "class_count") "class_count",
  fun K => decide (PySem.W.nsIn K mainGlobals "check_divisors" = some (some (.ref (He.ga K "check_divisors")))),
  fun K => Hk.fnB K (He.ga K "check_divisors") "check_divisors",
  fun K => Hk.intV 12 (PySem.W.nsIn K mainGlobals "MAX_CLASSES"),
  fun K => decide (PySem.W.nsIn K mainGlobals "are_sides" = some (some (.ref (He.ga K "are_sides")))),
  fun K => Hk.fnB K (He.ga K "are_sides") "are_sides",
  fun K => decide (PySem.W.nsIn K mainGlobals "isinstance" = some none),
  fun K => decide (PySem.W.nsIn K mainGlobals "tuple" = some none),
  fun K => decide (PySem.W.nsIn K mainGlobals "len" = some none),
  fun K => decide (PySem.W.nsIn K mainGlobals "min" = some none)]
def tq16 : List (PySem.W.Frag → Bool) := [fun K => Hk.intV 3 (PySem.W.nsIn K mainGlobals "MAX_DIRECTIONS"),
  fun K => decide (PySem.W.nsIn K mainGlobals "are_numbers" = some (some (.ref (He.ga K "are_numbers")))),
  fun K => Hk.fnB K (He.ga K "are_numbers") "are_numbers",
  fun K => decide (PySem.W.nsIn K mainGlobals "all" = some none),
  fun K => decide (PySem.W.nsIn K mainGlobals "is_number" = some (some (.ref (He.ga K "is_number")))),
  fun K => Hk.fnB K (He.ga K "is_number") "is_number",
  fun K => decide (PySem.W.nsIn K mainGlobals "int" = some none),
  fun K => decide (PySem.W.nsIn K mainGlobals "bool" = some none),
  fun K => decide (PySem.W.nsIn K mainGlobals "product" = some (some (.ref (He.ga K "product")))),
  fun K => Hk.fnB K (He.ga K "product") "product"]
def tq17 : List (PySem.W.Frag → Bool) := [fun K => decide (PySem.W.nsIn K mainGlobals "law" = some (some (.ref (He.ga K "law")))),
  fun K => Hk.fnB K (He.ga K "law") "law",
  fun K => decide (PySem.W.nsIn K mainGlobals "_law_other_errors" = some (some (.ref (He.ga K "_law_other_errors")))),
  fun K => Hk.fnB K (He.ga K "_law_other_errors") "_law_other_errors",
  fun K => decide ((He.tabOf K (Hk.codeA K (He.ga K "law"))) ≠ (He.tabOf K (Hk.codeA K (He.ga K "_law_other_errors")))),
  fun K => decide (PySem.W.nsIn K mainGlobals "_law_try" = some (some (.ref (He.ga K "_law_try")))),
  fun K => Hk.fnB K (He.ga K "_law_try") "_law_try",
  fun K => decide (PySem.W.nsIn K mainGlobals "_law_field" = some (some (.ref (He.ga K "_law_field")))),
  fun K => Hk.fnB K (He.ga K "_law_field") "_law_field",
  fun K => decide (PySem.W.nsIn K mainGlobals "checked_looks" = some (some (.ref (He.ga K "checked_looks"))))]
def tq18 : List (PySem.W.Frag → Bool) := [fun K => Hk.fnB K (He.ga K "checked_looks") "checked_looks",
  fun K => decide (PySem.W.nsIn K mainGlobals "list" = some none),
  fun K => decide (PySem.W.nsIn K mainGlobals "set" = some none),
  fun K => decide (PySem.W.nsIn K mainGlobals "enumerate" = some none),
  fun K => Hk.intV 4 (PySem.W.nsIn K mainGlobals "MAX_LOOKS"),
  fun K => decide (PySem.W.nsIn K mainGlobals "is_look" = some (some (.ref (He.ga K "is_look")))),
  fun K => Hk.fnB K (He.ga K "is_look") "is_look",
  fun K => decide (PySem.W.nsIn K mainGlobals "abs" = some none),
  fun K => decide (PySem.W.nsIn K mainGlobals "max" = some none),
  fun K => Hk.intV 9 (PySem.W.nsIn K mainGlobals "MAX_REACH")]
def tq19 : List (PySem.W.Frag → Bool) := [fun K => decide (PySem.W.nsIn K mainGlobals "check_words" = some (some (.ref (He.ga K "check_words")))),
  fun K => Hk.fnB K (He.ga K "check_words") "check_words",
  fun K => decide (PySem.W.nsIn K mainGlobals "is_word" = some (some (.ref (He.ga K "is_word")))),
  fun K => Hk.fnB K (He.ga K "is_word") "is_word",
  fun K => decide (PySem.W.nsIn K mainGlobals "str" = some none),
  fun K => decide (PySem.W.nsIn K mainGlobals "_law_of" = some (some (.ref (He.ga K "_law_of")))),
  fun K => Hk.fnB K (He.ga K "_law_of") "_law_of",
  fun K => decide (PySem.W.nsIn K mainGlobals "_law_pull" = some (some (.ref (He.ga K "_law_pull")))),
  fun K => Hk.fnB K (He.ga K "_law_pull") "_law_pull",
  fun K => decide (PySem.W.nsIn K mainGlobals "_law_odd" = some (some (.ref (He.ga K "_law_odd"))))]
def tq20 : List (PySem.W.Frag → Bool) := [fun K => Hk.fnB K (He.ga K "_law_odd") "_law_odd",
  fun K => decide (PySem.W.nsIn K mainGlobals "_law_divisors_error" = some (some (.ref (He.ga K "_law_divisors_error")))),
  fun K => Hk.fnB K (He.ga K "_law_divisors_error") "_law_divisors_error",
  fun K => decide (PySem.W.nsIn K mainGlobals "_law_is_place" = some (some (.ref (He.ga K "_law_is_place")))),
  fun K => Hk.fnB K (He.ga K "_law_is_place") "_law_is_place",
  fun K => decide (PySem.W.nsIn K mainGlobals "_law_count" = some (some (.ref (He.ga K "_law_count")))),
  fun K => Hk.fnB K (He.ga K "_law_count") "_law_count",
  fun K => decide (PySem.W.nsIn K mainGlobals "range" = some none),
  fun K => decide (PySem.W.nsIn K mainGlobals "_law_bag" = some (some (.ref (He.ga K "_law_bag")))),
  fun K => Hk.fnB K (He.ga K "_law_bag") "_law_bag"]
def tq21 : List (PySem.W.Frag → Bool) := [fun K => decide (PySem.W.nsIn K mainGlobals "_law_divisors" = some (some (.ref (He.ga K "_law_divisors")))),
  fun K => Hk.fnB K (He.ga K "_law_divisors") "_law_divisors",
  fun K => decide (PySem.W.nsIn K mainGlobals "_law_mixed" = some (some (.ref (He.ga K "_law_mixed")))),
  fun K => Hk.fnB K (He.ga K "_law_mixed") "_law_mixed",
  fun K => decide (PySem.W.nsIn K mainGlobals "_law_looks" = some (some (.ref (He.ga K "_law_looks")))),
  fun K => Hk.fnB K (He.ga K "_law_looks") "_law_looks",
  fun K => decide (PySem.W.nsIn K mainGlobals "_law_words" = some (some (.ref (He.ga K "_law_words")))),
  fun K => Hk.fnB K (He.ga K "_law_words") "_law_words",
  fun K => decide (PySem.W.nsIn K mainGlobals "_law_bent_words" = some (some (.ref (He.ga K "_law_bent_words")))),
  fun K => Hk.fnB K (He.ga K "_law_bent_words") "_law_bent_words"]
def tq22 : List (PySem.W.Frag → Bool) := [fun K => decide (PySem.W.nsIn K mainGlobals "_law_same" = some (some (.ref (He.ga K "_law_same")))),
  fun K => Hk.fnB K (He.ga K "_law_same") "_law_same",
  fun K => decide (PySem.W.nsIn K mainGlobals "dict" = some none),
  fun K => decide (PySem.W.nsIn K mainGlobals "zip" = some none),
  fun K => PySem.W.codeHdIn K (Hk.codeA K (He.ga K "law")) (He.tabOf K (Hk.codeA K (He.ga K "law"))),
  fun K => PySem.W.codeHdIn K (Hk.codeA K (He.ga K "_law_other_errors")) (He.tabOf K (Hk.codeA K (He.ga K "_law_other_errors")))]
def fq0 : List Hk.FD := [⟨fun K => (He.ma K (He.ga K "Table") "__init__"), "__init__", "Table.__init__", sTInit⟩,
  ⟨fun K => (He.ma K (He.ga K "ScanError") "__init__"), "__init__", "ScanError.__init__", sSE⟩,
  ⟨fun K => (He.ma K (He.ga K "InvalidLooks") "__init__"), "__init__", "InvalidLooks.__init__", sIL⟩,
  ⟨fun K => (He.ma K (He.ga K "InvalidWords") "__init__"), "__init__", "InvalidWords.__init__", sIW⟩,
  ⟨fun K => (He.ma K (He.ga K "TooManyClasses") "__init__"), "__init__", "TooManyClasses.__init__", sTM⟩,
  ⟨fun K => (He.ma K (He.ga K "InvalidDivisors") "__init__"), "__init__", "InvalidDivisors.__init__", sID⟩,
  ⟨fun K => (He.ma K (He.ga K "Table") "words"), "words", "Table.words", sTWords⟩,
  ⟨fun K => (He.ma K (He.ga K "Table") "looks"), "looks", "Table.looks", sTLooks⟩,
  ⟨fun K => (He.ma K (He.ga K "Table") "__eq__"), "__eq__", "Table.__eq__", sTEq⟩,
  ⟨fun K => (He.ga K "class_count"), "class_count", "class_count", sClassCount⟩]
def fq1 : List Hk.FD := [⟨fun K => (He.ga K "check_divisors"), "check_divisors", "check_divisors", sChkDiv⟩,
  ⟨fun K => (He.ga K "are_sides"), "are_sides", "are_sides", sAreSides⟩,
  ⟨fun K => (He.ga K "are_numbers"), "are_numbers", "are_numbers", sAreNums⟩,
  ⟨fun K => (He.ga K "is_number"), "is_number", "is_number", sIsNum⟩,
  ⟨fun K => (He.ga K "product"), "product", "product", sProduct⟩,
  ⟨fun K => (He.ga K "law"), "law", "law", sLaw⟩,
  ⟨fun K => (He.ga K "_law_other_errors"), "_law_other_errors", "_law_other_errors", sOtherErr⟩,
  ⟨fun K => (He.ga K "_law_try"), "_law_try", "_law_try", sTry⟩,
  ⟨fun K => (He.ga K "_law_field"), "_law_field", "_law_field", sField⟩,
  ⟨fun K => (He.ga K "checked_looks"), "checked_looks", "checked_looks", sChkLooks⟩]
def fq2 : List Hk.FD := [⟨fun K => (He.ga K "is_look"), "is_look", "is_look", sIsLook⟩,
  ⟨fun K => (He.ga K "check_words"), "check_words", "check_words", sChkWords⟩,
  ⟨fun K => (He.ga K "is_word"), "is_word", "is_word", sIsWord⟩,
  ⟨fun K => (He.ga K "_law_of"), "_law_of", "_law_of", sOf⟩,
  ⟨fun K => (He.ga K "_law_pull"), "_law_pull", "_law_pull", sPull⟩,
  ⟨fun K => (He.ga K "_law_odd"), "_law_odd", "_law_odd", sOdd⟩,
  ⟨fun K => (He.ga K "_law_divisors_error"), "_law_divisors_error", "_law_divisors_error", sDivErr⟩,
  ⟨fun K => (He.ga K "_law_is_place"), "_law_is_place", "_law_is_place", sIsPlace⟩,
  ⟨fun K => (He.ga K "_law_count"), "_law_count", "_law_count", sCount⟩,
  ⟨fun K => (He.ga K "_law_bag"), "_law_bag", "_law_bag", sBag⟩]
def fq3 : List Hk.FD := [⟨fun K => (He.ga K "_law_divisors"), "_law_divisors", "_law_divisors", sDivisors⟩,
  ⟨fun K => (He.ga K "_law_mixed"), "_law_mixed", "_law_mixed", sMixed⟩,
  ⟨fun K => (He.ga K "_law_looks"), "_law_looks", "_law_looks", sLLooks⟩,
  ⟨fun K => (He.ga K "_law_words"), "_law_words", "_law_words", sLWords⟩,
  ⟨fun K => (He.ga K "_law_bent_words"), "_law_bent_words", "_law_bent_words", sBentWords⟩,
  ⟨fun K => (He.ga K "_law_same"), "_law_same", "_law_same", sLSame⟩]
def exq : List (PySem.W.Frag → Bool) := ([fun K => tq0.all fun f => f K, fun K => tq1.all fun f => f K, fun K => tq2.all fun f => f K, fun K => tq3.all fun f => f K, fun K => tq4.all fun f => f K, fun K => tq5.all fun f => f K, fun K => tq6.all fun f => f K, fun K => tq7.all fun f => f K, fun K => tq8.all fun f => f K, fun K => tq9.all fun f => f K] : List (PySem.W.Frag → Bool)) ++ (([fun K => tq10.all fun f => f K, fun K => tq11.all fun f => f K, fun K => tq12.all fun f => f K, fun K => tq13.all fun f => f K, fun K => tq14.all fun f => f K, fun K => tq15.all fun f => f K, fun K => tq16.all fun f => f K, fun K => tq17.all fun f => f K, fun K => tq18.all fun f => f K, fun K => tq19.all fun f => f K] : List (PySem.W.Frag → Bool)) ++ (([fun K => tq20.all fun f => f K, fun K => tq21.all fun f => f K, fun K => tq22.all fun f => f K] : List (PySem.W.Frag → Bool))))
def fdq : List Hk.FD := fq0 ++ (fq1 ++ (fq2 ++ (fq3)))
def tfq : List (PySem.W.Frag → Addr) := [fun K => (He.tabOf K (Hk.codeA K (He.ga K "law"))), fun K => (He.tabOf K (Hk.codeA K (He.ga K "_law_other_errors")))]
theorem all_hk {w : World} {K : PySem.W.Frag} {h : Heap} {mg : Str → Option Value} {fa : Addr} (X : K.In h) (G : h.Ns mainGlobals mg) (hfa : mg "law" = some (.ref fa)) (c : Hk.Says fdq exq tfq h K) : LawAtS PySem.Challenge.rw_lookscan_k18_tables_are_checked w K CX0 12 63 "_law_script" mg fa h := by
  obtain ⟨_, _, _, _, _, _, _, _, _, l_I, c_I, k_I⟩ := Hk.fnB_ok (c.fn 0) (Hk.tt (c.t 0) 3)
  obtain ⟨_, _, _, _, _, _, _, _, lE_eSE, cE_eSE⟩ := Hk.fnCB_ok (c.fn 1) (Hk.tt (c.t 1) 7)
  obtain ⟨_, _, _, _, _, _, lcE_eSE, v2E_eSE, flE_eSE⟩ := Hk.fileB_ok (Hk.tt (c.t 1) 8)
  obtain ⟨_, _, _, llE_eSE⟩ := Hk.cellB_ok (Hk.tt (c.t 1) 9)
  obtain ⟨_, lDE_eSE⟩ := Hk.someB_ok (Hk.tt (c.t 2) 0)
  obtain ⟨_, _, _, _, _, _, _, _, lE_eIL, cE_eIL⟩ := Hk.fnCB_ok (c.fn 2) (Hk.tt (c.t 2) 3)
  obtain ⟨_, _, _, _, _, _, lcE_eIL, v2E_eIL, flE_eIL⟩ := Hk.fileB_ok (Hk.tt (c.t 2) 4)
  obtain ⟨_, _, _, llE_eIL⟩ := Hk.cellB_ok (Hk.tt (c.t 2) 5)
  obtain ⟨_, lDE_eIL⟩ := Hk.someB_ok (Hk.tt (c.t 2) 6)
  obtain ⟨_, _, _, _, _, _, _, _, _, _, _, _, _, _, _, xL_eIL, xR_eIL⟩ := Hk.excB_ok (Hk.tt (c.t 2) 7)
  obtain ⟨_, _, _, _, _, _, _, _, lE_eIW, cE_eIW⟩ := Hk.fnCB_ok (c.fn 3) (Hk.tt (c.t 5) 3)
  obtain ⟨_, _, _, _, _, _, lcE_eIW, v2E_eIW, flE_eIW⟩ := Hk.fileB_ok (Hk.tt (c.t 5) 4)
  obtain ⟨_, _, _, llE_eIW⟩ := Hk.cellB_ok (Hk.tt (c.t 5) 5)
  obtain ⟨_, lDE_eIW⟩ := Hk.someB_ok (Hk.tt (c.t 5) 6)
  obtain ⟨_, _, _, _, _, _, _, _, _, _, _, _, _, _, _, xL_eIW, xR_eIW⟩ := Hk.excB_ok (Hk.tt (c.t 5) 7)
  obtain ⟨_, _, _, _, _, _, _, _, lE_eTM, cE_eTM⟩ := Hk.fnCB_ok (c.fn 4) (Hk.tt (c.t 8) 1)
  obtain ⟨_, _, _, _, _, _, lcE_eTM, v2E_eTM, flE_eTM⟩ := Hk.fileB_ok (Hk.tt (c.t 8) 2)
  obtain ⟨_, _, _, llE_eTM⟩ := Hk.cellB_ok (Hk.tt (c.t 8) 3)
  obtain ⟨_, lDE_eTM⟩ := Hk.someB_ok (Hk.tt (c.t 8) 4)
  obtain ⟨_, _, _, _, _, _, _, _, _, _, _, _, _, _, _, xL_eTM, xR_eTM⟩ := Hk.excB_ok (Hk.tt (c.t 8) 5)
  obtain ⟨_, _, _, _, _, _, _, _, lE_eID, cE_eID⟩ := Hk.fnCB_ok (c.fn 5) (Hk.tt (c.t 10) 9)
  obtain ⟨_, _, _, _, _, _, lcE_eID, v2E_eID, flE_eID⟩ := Hk.fileB_ok (Hk.tt (c.t 11) 0)
  obtain ⟨_, _, _, llE_eID⟩ := Hk.cellB_ok (Hk.tt (c.t 11) 1)
  obtain ⟨_, lDE_eID⟩ := Hk.someB_ok (Hk.tt (c.t 11) 2)
  obtain ⟨_, _, _, _, _, _, _, _, _, _, _, _, _, _, _, xL_eID, xR_eID⟩ := Hk.excB_ok (Hk.tt (c.t 11) 3)
  obtain ⟨_, _, _, _, _, _, _, _, _, l_tTWords, c_tTWords, k_tTWords⟩ := Hk.fnB_ok (c.fn 6) (Hk.tt (c.t 14) 2)
  obtain ⟨_, _, _, _, _, _, _, _, _, l_tTLooks, c_tTLooks, k_tTLooks⟩ := Hk.fnB_ok (c.fn 7) (Hk.tt (c.t 14) 5)
  obtain ⟨_, _, _, _, _, _, _, _, _, l_tTEq, c_tTEq, k_tTEq⟩ := Hk.fnB_ok (c.fn 8) (Hk.tt (c.t 14) 8)
  obtain ⟨_, _, _, _, _, _, _, _, _, l_ClassCount, c_ClassCount, k_ClassCount⟩ := Hk.fnB_ok (c.fn 9) (Hk.tt (c.t 15) 0)
  obtain ⟨_, _, _, _, _, _, _, _, _, l_ChkDiv, c_ChkDiv, k_ChkDiv⟩ := Hk.fnB_ok (c.fn 10) (Hk.tt (c.t 15) 2)
  obtain ⟨_, n_MAX_CLASSES⟩ := Hk.intV_ok (Hk.tt (c.t 15) 3)
  obtain ⟨_, _, _, _, _, _, _, _, _, l_AreSides, c_AreSides, k_AreSides⟩ := Hk.fnB_ok (c.fn 11) (Hk.tt (c.t 15) 5)
  obtain ⟨_, n_MAX_DIRECTIONS⟩ := Hk.intV_ok (Hk.tt (c.t 16) 0)
  obtain ⟨_, _, _, _, _, _, _, _, _, l_AreNums, c_AreNums, k_AreNums⟩ := Hk.fnB_ok (c.fn 12) (Hk.tt (c.t 16) 2)
  obtain ⟨_, _, _, _, _, _, _, _, _, l_IsNum, c_IsNum, k_IsNum⟩ := Hk.fnB_ok (c.fn 13) (Hk.tt (c.t 16) 5)
  obtain ⟨_, _, _, _, _, _, _, _, _, l_Product, c_Product, k_Product⟩ := Hk.fnB_ok (c.fn 14) (Hk.tt (c.t 16) 9)
  obtain ⟨_, _, _, _, _, _, _, _, l_Law, c_Law, k_Law⟩ := Hk.fnB_okR (c.fn 15) (Hk.tt (c.t 17) 1)
  obtain ⟨_, _, _, _, _, _, _, _, l_OtherErr, c_OtherErr, k_OtherErr⟩ := Hk.fnB_okR (c.fn 16) (Hk.tt (c.t 17) 3)
  obtain ⟨_, _, _, _, _, _, _, _, _, l_Try, c_Try, k_Try⟩ := Hk.fnB_ok (c.fn 17) (Hk.tt (c.t 17) 6)
  obtain ⟨_, _, _, _, _, _, _, _, _, l_Field, c_Field, k_Field⟩ := Hk.fnB_ok (c.fn 18) (Hk.tt (c.t 17) 8)
  obtain ⟨_, _, _, _, _, _, _, _, _, l_ChkLooks, c_ChkLooks, k_ChkLooks⟩ := Hk.fnB_ok (c.fn 19) (Hk.tt (c.t 18) 0)
  obtain ⟨_, n_MAX_LOOKS⟩ := Hk.intV_ok (Hk.tt (c.t 18) 4)
  obtain ⟨_, _, _, _, _, _, _, _, _, l_IsLook, c_IsLook, k_IsLook⟩ := Hk.fnB_ok (c.fn 20) (Hk.tt (c.t 18) 6)
  obtain ⟨_, n_MAX_REACH⟩ := Hk.intV_ok (Hk.tt (c.t 18) 9)
  obtain ⟨_, _, _, _, _, _, _, _, _, l_ChkWords, c_ChkWords, k_ChkWords⟩ := Hk.fnB_ok (c.fn 21) (Hk.tt (c.t 19) 1)
  obtain ⟨_, _, _, _, _, _, _, _, _, l_IsWord, c_IsWord, k_IsWord⟩ := Hk.fnB_ok (c.fn 22) (Hk.tt (c.t 19) 3)
  obtain ⟨_, _, _, _, _, _, _, _, _, l_Of, c_Of, k_Of⟩ := Hk.fnB_ok (c.fn 23) (Hk.tt (c.t 19) 6)
  obtain ⟨_, _, _, _, _, _, _, _, _, l_Pull, c_Pull, k_Pull⟩ := Hk.fnB_ok (c.fn 24) (Hk.tt (c.t 19) 8)
  obtain ⟨_, _, _, _, _, _, _, _, _, l_Odd, c_Odd, k_Odd⟩ := Hk.fnB_ok (c.fn 25) (Hk.tt (c.t 20) 0)
  obtain ⟨_, _, _, _, _, _, _, _, _, l_DivErr, c_DivErr, k_DivErr⟩ := Hk.fnB_ok (c.fn 26) (Hk.tt (c.t 20) 2)
  obtain ⟨_, _, _, _, _, _, _, _, _, l_IsPlace, c_IsPlace, k_IsPlace⟩ := Hk.fnB_ok (c.fn 27) (Hk.tt (c.t 20) 4)
  obtain ⟨_, _, _, _, _, _, _, _, _, l_Count, c_Count, k_Count⟩ := Hk.fnB_ok (c.fn 28) (Hk.tt (c.t 20) 6)
  obtain ⟨_, _, _, _, _, _, _, _, _, l_Bag, c_Bag, k_Bag⟩ := Hk.fnB_ok (c.fn 29) (Hk.tt (c.t 20) 9)
  obtain ⟨_, _, _, _, _, _, _, _, _, l_Divisors, c_Divisors, k_Divisors⟩ := Hk.fnB_ok (c.fn 30) (Hk.tt (c.t 21) 1)
  obtain ⟨_, _, _, _, _, _, _, _, _, l_Mixed, c_Mixed, k_Mixed⟩ := Hk.fnB_ok (c.fn 31) (Hk.tt (c.t 21) 3)
  obtain ⟨_, _, _, _, _, _, _, _, _, l_LLooks, c_LLooks, k_LLooks⟩ := Hk.fnB_ok (c.fn 32) (Hk.tt (c.t 21) 5)
  obtain ⟨_, _, _, _, _, _, _, _, _, l_LWords, c_LWords, k_LWords⟩ := Hk.fnB_ok (c.fn 33) (Hk.tt (c.t 21) 7)
  obtain ⟨_, _, _, _, _, _, _, _, _, l_BentWords, c_BentWords, k_BentWords⟩ := Hk.fnB_ok (c.fn 34) (Hk.tt (c.t 21) 9)
  obtain ⟨_, _, _, _, _, _, _, _, _, l_LSame, c_LSame, k_LSame⟩ := Hk.fnB_ok (c.fn 35) (Hk.tt (c.t 22) 1)
  exact all_mk X G hfa (of_decide_eq_true (Hk.tt (c.t 0) 0)) (of_decide_eq_true (Hk.tt (c.t 0) 1)) (Hk.tt (c.t 0) 2) l_I c_I k_I (Hk.tt (c.t 0) 4) (Hk.tt (c.t 0) 5) (Hk.tt (c.t 0) 6) (of_decide_eq_true (Hk.tt (c.t 0) 7)) (Hk.tt (c.t 0) 8) (Hk.tt (c.t 0) 9) (of_decide_eq_true (Hk.tt (c.t 1) 0)) (of_decide_eq_true (Hk.tt (c.t 1) 1)) (of_decide_eq_true (Hk.tt (c.t 1) 2)) (of_decide_eq_true (Hk.tt (c.t 1) 3)) (by rfl) (of_decide_eq_true (Hk.tt (c.t 1) 4)) (of_decide_eq_true (Hk.tt (c.t 1) 5)) (of_decide_eq_true (Hk.tt (c.t 1) 6)) lE_eSE cE_eSE lcE_eSE v2E_eSE flE_eSE llE_eSE lDE_eSE (of_decide_eq_true (Hk.tt (c.t 2) 1)) (of_decide_eq_true (Hk.tt (c.t 2) 2)) lE_eIL cE_eIL lcE_eIL v2E_eIL flE_eIL llE_eIL lDE_eIL xL_eIL xR_eIL (of_decide_eq_true (Hk.tt (c.t 2) 8)) (of_decide_eq_true (Hk.tt (c.t 2) 9)) (of_decide_eq_true (Hk.tt (c.t 3) 0)) (Hk.tt (c.t 3) 1) (of_decide_eq_true (Hk.tt (c.t 3) 2)) (of_decide_eq_true (Hk.tt (c.t 3) 3)) (of_decide_eq_true (Hk.tt (c.t 3) 4)) (of_decide_eq_true (Hk.tt (c.t 3) 5)) (of_decide_eq_true (Hk.tt (c.t 3) 6)) (of_decide_eq_true (Hk.tt (c.t 3) 7)) (Hk.tt (c.t 3) 8) (of_decide_eq_true (Hk.tt (c.t 3) 9)) (of_decide_eq_true (Hk.tt (c.t 4) 0)) (of_decide_eq_true (Hk.tt (c.t 4) 1)) (of_decide_eq_true (Hk.tt (c.t 4) 2)) (of_decide_eq_true (Hk.tt (c.t 4) 3)) (of_decide_eq_true (Hk.tt (c.t 4) 4)) (of_decide_eq_true (Hk.tt (c.t 4) 5)) (of_decide_eq_true (Hk.tt (c.t 4) 6)) (of_decide_eq_true (Hk.tt (c.t 4) 7)) (of_decide_eq_true (Hk.tt (c.t 4) 8)) (Hk.tt (c.t 4) 9) (of_decide_eq_true (Hk.tt (c.t 5) 0)) (of_decide_eq_true (Hk.tt (c.t 5) 1)) (of_decide_eq_true (Hk.tt (c.t 5) 2)) lE_eIW cE_eIW lcE_eIW v2E_eIW flE_eIW llE_eIW lDE_eIW xL_eIW xR_eIW (of_decide_eq_true (Hk.tt (c.t 5) 8)) (of_decide_eq_true (Hk.tt (c.t 5) 9)) (of_decide_eq_true (Hk.tt (c.t 6) 0)) (Hk.tt (c.t 6) 1) (of_decide_eq_true (Hk.tt (c.t 6) 2)) (of_decide_eq_true (Hk.tt (c.t 6) 3)) (of_decide_eq_true (Hk.tt (c.t 6) 4)) (of_decide_eq_true (Hk.tt (c.t 6) 5)) (of_decide_eq_true (Hk.tt (c.t 6) 6)) (of_decide_eq_true (Hk.tt (c.t 6) 7)) (of_decide_eq_true (Hk.tt (c.t 6) 8)) (of_decide_eq_true (Hk.tt (c.t 6) 9)) (of_decide_eq_true (Hk.tt (c.t 7) 0)) (of_decide_eq_true (Hk.tt (c.t 7) 1)) (of_decide_eq_true (Hk.tt (c.t 7) 2)) (of_decide_eq_true (Hk.tt (c.t 7) 3)) (of_decide_eq_true (Hk.tt (c.t 7) 4)) (of_decide_eq_true (Hk.tt (c.t 7) 5)) (of_decide_eq_true (Hk.tt (c.t 7) 6)) (Hk.tt (c.t 7) 7) (of_decide_eq_true (Hk.tt (c.t 7) 8)) (of_decide_eq_true (Hk.tt (c.t 7) 9)) (of_decide_eq_true (Hk.tt (c.t 8) 0)) lE_eTM cE_eTM lcE_eTM v2E_eTM flE_eTM llE_eTM lDE_eTM xL_eTM xR_eTM (of_decide_eq_true (Hk.tt (c.t 8) 6)) (of_decide_eq_true (Hk.tt (c.t 8) 7)) (of_decide_eq_true (Hk.tt (c.t 8) 8)) (Hk.tt (c.t 8) 9) (of_decide_eq_true (Hk.tt (c.t 9) 0)) (of_decide_eq_true (Hk.tt (c.t 9) 1)) (of_decide_eq_true (Hk.tt (c.t 9) 2)) (of_decide_eq_true (Hk.tt (c.t 9) 3)) (of_decide_eq_true (Hk.tt (c.t 9) 4)) (of_decide_eq_true (Hk.tt (c.t 9) 5)) (of_decide_eq_true (Hk.tt (c.t 9) 6)) (of_decide_eq_true (Hk.tt (c.t 9) 7)) (of_decide_eq_true (Hk.tt (c.t 9) 8)) (of_decide_eq_true (Hk.tt (c.t 9) 9)) (of_decide_eq_true (Hk.tt (c.t 10) 0)) (of_decide_eq_true (Hk.tt (c.t 10) 1)) (of_decide_eq_true (Hk.tt (c.t 10) 2)) (of_decide_eq_true (Hk.tt (c.t 10) 3)) (of_decide_eq_true (Hk.tt (c.t 10) 4)) (Hk.tt (c.t 10) 5) (of_decide_eq_true (Hk.tt (c.t 10) 6)) (of_decide_eq_true (Hk.tt (c.t 10) 7)) (of_decide_eq_true (Hk.tt (c.t 10) 8)) lE_eID cE_eID lcE_eID v2E_eID flE_eID llE_eID lDE_eID xL_eID xR_eID (of_decide_eq_true (Hk.tt (c.t 11) 4)) (of_decide_eq_true (Hk.tt (c.t 11) 5)) (of_decide_eq_true (Hk.tt (c.t 11) 6)) (Hk.tt (c.t 11) 7) (of_decide_eq_true (Hk.tt (c.t 11) 8)) (of_decide_eq_true (Hk.tt (c.t 11) 9)) (of_decide_eq_true (Hk.tt (c.t 12) 0)) (of_decide_eq_true (Hk.tt (c.t 12) 1)) (of_decide_eq_true (Hk.tt (c.t 12) 2)) (of_decide_eq_true (Hk.tt (c.t 12) 3)) (of_decide_eq_true (Hk.tt (c.t 12) 4)) (of_decide_eq_true (Hk.tt (c.t 12) 5)) (of_decide_eq_true (Hk.tt (c.t 12) 6)) (of_decide_eq_true (Hk.tt (c.t 12) 7)) (of_decide_eq_true (Hk.tt (c.t 12) 8)) (of_decide_eq_true (Hk.tt (c.t 12) 9)) (of_decide_eq_true (Hk.tt (c.t 13) 0)) (of_decide_eq_true (Hk.tt (c.t 13) 1)) (of_decide_eq_true (Hk.tt (c.t 13) 2)) (Hk.tt (c.t 13) 3) (of_decide_eq_true (Hk.tt (c.t 13) 4)) (of_decide_eq_true (Hk.tt (c.t 13) 5)) (of_decide_eq_true (Hk.tt (c.t 13) 6)) (of_decide_eq_true (Hk.tt (c.t 13) 7)) (of_decide_eq_true (Hk.tt (c.t 13) 8)) (of_decide_eq_true (Hk.tt (c.t 13) 9)) (of_decide_eq_true (Hk.tt (c.t 14) 0)) (Hk.tt (c.t 14) 1) l_tTWords c_tTWords k_tTWords (of_decide_eq_true (Hk.tt (c.t 14) 3)) (Hk.tt (c.t 14) 4) l_tTLooks c_tTLooks k_tTLooks (of_decide_eq_true (Hk.tt (c.t 14) 6)) (Hk.tt (c.t 14) 7) l_tTEq c_tTEq k_tTEq (of_decide_eq_true (Hk.tt (c.t 14) 9)) l_ClassCount c_ClassCount k_ClassCount (of_decide_eq_true (Hk.tt (c.t 15) 1)) l_ChkDiv c_ChkDiv k_ChkDiv n_MAX_CLASSES (of_decide_eq_true (Hk.tt (c.t 15) 4)) l_AreSides c_AreSides k_AreSides (of_decide_eq_true (Hk.tt (c.t 15) 6)) (of_decide_eq_true (Hk.tt (c.t 15) 7)) (of_decide_eq_true (Hk.tt (c.t 15) 8)) (of_decide_eq_true (Hk.tt (c.t 15) 9)) n_MAX_DIRECTIONS (of_decide_eq_true (Hk.tt (c.t 16) 1)) l_AreNums c_AreNums k_AreNums (of_decide_eq_true (Hk.tt (c.t 16) 3)) (of_decide_eq_true (Hk.tt (c.t 16) 4)) l_IsNum c_IsNum k_IsNum (of_decide_eq_true (Hk.tt (c.t 16) 6)) (of_decide_eq_true (Hk.tt (c.t 16) 7)) (of_decide_eq_true (Hk.tt (c.t 16) 8)) l_Product c_Product k_Product (of_decide_eq_true (Hk.tt (c.t 17) 0)) l_Law c_Law k_Law (c.out _ (List.mem_cons_self)) (c.emp _ (List.mem_cons_self)) (of_decide_eq_true (Hk.tt (c.t 17) 2)) l_OtherErr c_OtherErr k_OtherErr (c.out _ (List.mem_cons_of_mem _ List.mem_cons_self)) (c.emp _ (List.mem_cons_of_mem _ List.mem_cons_self)) (of_decide_eq_true (Hk.tt (c.t 17) 4)) (of_decide_eq_true (Hk.tt (c.t 17) 5)) l_Try c_Try k_Try (of_decide_eq_true (Hk.tt (c.t 17) 7)) l_Field c_Field k_Field (of_decide_eq_true (Hk.tt (c.t 17) 9)) l_ChkLooks c_ChkLooks k_ChkLooks (of_decide_eq_true (Hk.tt (c.t 18) 1)) (of_decide_eq_true (Hk.tt (c.t 18) 2)) (of_decide_eq_true (Hk.tt (c.t 18) 3)) n_MAX_LOOKS (of_decide_eq_true (Hk.tt (c.t 18) 5)) l_IsLook c_IsLook k_IsLook (of_decide_eq_true (Hk.tt (c.t 18) 7)) (of_decide_eq_true (Hk.tt (c.t 18) 8)) n_MAX_REACH (of_decide_eq_true (Hk.tt (c.t 19) 0)) l_ChkWords c_ChkWords k_ChkWords (of_decide_eq_true (Hk.tt (c.t 19) 2)) l_IsWord c_IsWord k_IsWord (of_decide_eq_true (Hk.tt (c.t 19) 4)) (of_decide_eq_true (Hk.tt (c.t 19) 5)) l_Of c_Of k_Of (of_decide_eq_true (Hk.tt (c.t 19) 7)) l_Pull c_Pull k_Pull (of_decide_eq_true (Hk.tt (c.t 19) 9)) l_Odd c_Odd k_Odd (of_decide_eq_true (Hk.tt (c.t 20) 1)) l_DivErr c_DivErr k_DivErr (of_decide_eq_true (Hk.tt (c.t 20) 3)) l_IsPlace c_IsPlace k_IsPlace (of_decide_eq_true (Hk.tt (c.t 20) 5)) l_Count c_Count k_Count (of_decide_eq_true (Hk.tt (c.t 20) 7)) (of_decide_eq_true (Hk.tt (c.t 20) 8)) l_Bag c_Bag k_Bag (of_decide_eq_true (Hk.tt (c.t 21) 0)) l_Divisors c_Divisors k_Divisors (of_decide_eq_true (Hk.tt (c.t 21) 2)) l_Mixed c_Mixed k_Mixed (of_decide_eq_true (Hk.tt (c.t 21) 4)) l_LLooks c_LLooks k_LLooks (of_decide_eq_true (Hk.tt (c.t 21) 6)) l_LWords c_LWords k_LWords (of_decide_eq_true (Hk.tt (c.t 21) 8)) l_BentWords c_BentWords k_BentWords (of_decide_eq_true (Hk.tt (c.t 22) 0)) l_LSame c_LSame k_LSame (of_decide_eq_true (Hk.tt (c.t 22) 2)) (of_decide_eq_true (Hk.tt (c.t 22) 3)) (Hk.tt (c.t 22) 4) (Hk.tt (c.t 22) 5)
end Lk

namespace Hq
open PySem PySem.W PySem.Calls PyProof.Rows
abbrev Rq : OpenRow := OpenLaw.row PySem.Challenge.rw_lookscan_k18_tables_are_checked
abbrev vq : Program := view Rq.prog [52]
def nq : List PySem.Str := (["_wall", "__name__", "added", "product", "ScanError", "InvalidPlace", "InvalidDivisors", "TooManyClasses", "InvalidLooks", "InvalidWords", "Missing", "NothingLeft"] : List PySem.Str) ++ ((["MAX_DIRECTIONS", "MAX_CLASSES", "is_number", "are_numbers", "are_sides", "check_place", "check_divisors", "place_at", "class_at", "class_count", "MAX_LOOKS", "MAX_REACH"] : List PySem.Str) ++ ((["is_look", "checked_looks", "word_at", "words_by", "is_word", "check_words", "Table", "_law_bag", "_law_pull", "_law_of", "_law_mixed", "_law_same"] : List PySem.Str) ++ ((["_law_field", "_law_try", "_law_odd", "_law_count", "_law_divisors", "_law_looks", "_law_is_place", "_law_divisors_error", "_law_words", "_law_bent_words", "_law_other_errors"] : List PySem.Str))))
abbrev hq : Hook := Hk.hook 6 Lk.fdq Lk.exq Lk.tfq
def oq (s : SharedT) : Hk.Al := Hk.obsG 6 Lk.fdq Lk.exq Lk.tfq (HandSHeadRun.getT s)
theorem oq_is (s : SharedT) : oq s = hq.obs s.abs := Hk.obsG_eq (HandSHeadRun.getT_eq s)
set_option maxHeartbeats 0 in
theorem runs (w : World) : HandSHeadRun.RunEq Rq vq hq oq 9000 nq w := by
  intro os
  kernel_rfl
end Hq
open PySem PySem.W PyProof.Rows
set_option maxRecDepth 100000 in
set_option maxHeartbeats 0 in
theorem PySem.Challenge.cw_lookscan_k18_tables_are_checked_holds : PySem.Challenge.rw_lookscan_k18_tables_are_checked.Holds := by
  w_on; o_law
  refine HandSHeadRun.head_any (r := Hq.Rq) (q := Hq.vq) (H := Hq.hq) (ob := Hq.oq) (M := 9000) (loose := Hq.nq) (d := HandSHeadRun.topDef Hq.Rq.prog 52) (kwd := []) Hq.oq_is
    (by kernel_rfl) (fun s => by kernel_rfl) Hq.runs ?h1 ?h2 ?h3 ?h4 ?h5 ?h6 ?h7 ?hw ?hc
  case h1 => kernel_rfl
  case h2 => kernel_rfl
  case h3 => kernel_rfl
  case h4 => rfl
  case h5 => first | assumption | decide +kernel
  case h6 => decide +kernel
  case h7 => exact ⟨rfl, rfl, rfl, rfl, rfl, by decide +kernel⟩
  case hw => w_witness2
  case hc =>
    refine LamX.walk_ofTsE (l := PySem.Challenge.rw_lookscan_k18_tables_are_checked) (n := 63) (k := 12) (x := "_law_script") (CX := fun _ => L2.CX0) rfl (by decide) (by kernel_rfl) ⟨rfl, by decide, by decide⟩ ?F (fun _ _ _ _ _ h => h)
    rintro w mg fa h ⟨K, KX, c⟩ G hm
    have en : (HandSHeadRun.topDef Hq.Rq.prog 52).name = ("law" : PySem.Str) := by kernel_rfl
    rw [en] at hm
    exact ⟨K, KX, Lk.all_hk KX G hm c⟩
